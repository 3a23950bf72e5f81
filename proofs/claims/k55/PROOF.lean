import PyProof.Rows.All
import Wide.All
import OpenK.AllK
import Wide.FinOn
import HandS.ForMost
import HandS.ForExc
import HandS.Wide
import HandS.IsInst
import HandS.Flow
import HandS.FStrTup
import HandS.NoneIn
import HandS.TupAny
import HandS.Style
import HandS.TryMany
import HandS.ExcIs
import HandS.ExcField
import HandS.ExcOwn
import KE.KExcInit
import KE.KExcIs
import HandS.Walk
import HandS.Zip
import KE.GoesZip
import KE.GoesMore
import HandS.Sort
import HandS.Set
import HandS.SetFor
import HandS.Strs
import HandS.SetTxt0
import HandS.TupSets
import HandS.DictComp
import KE.KSortTupG
import KE.KSortTupUse
import HandS.More
import HandS.Replace
import HandS.ReplaceLit
import HandS.ReplaceList
import HandS.ReplaceDef
import HandS.Star
import PyProof.CollectStr
import PySem.Challenge.RW_treewalks_k55_whole_mirrored_nests
set_option Elab.async false
set_option maxRecDepth 100000
set_option maxHeartbeats 4000000
namespace Tw
open PySem PySem.Spec PyProof.Rows L2
/-! ### trees over signs -/
abbrev ch (c : Nat) : Str := ⟨#[c]⟩
def tx (l : List Nat) : Str := ⟨l.toArray⟩
theorem tx_cps (l : List Nat) : (tx l).cps.toList = l := rfl
theorem tx_size (l : List Nat) : (tx l).cps.size = l.length := rfl
theorem tx_len (l : List Nat) : (tx l).length = l.length := rfl
theorem tx_one (c : Nat) : tx [c] = ch c := rfl
theorem tx_app (a b : List Nat) : tx a ++ tx b = tx (a ++ b) := by
  show (⟨(tx a).cps ++ (tx b).cps⟩ : Str) = _
  simp [tx]
theorem ch_app (c : Nat) (b : List Nat) : ch c ++ tx b = tx (c :: b) := tx_app [c] b
theorem tx_inj {a b : List Nat} (h : tx a = tx b) : a = b := congrArg (fun z : Str => z.cps.toList) h
theorem ch_inj {a b : Nat} (h : ch a = ch b) : a = b := by have := tx_inj (a := [a]) (b := [b]) h; simpa using this
theorem ch_lt (a b : Nat) : decide ((ch a).cps.toList < (ch b).cps.toList) = decide (a < b) := by
  have : ((ch a).cps.toList < (ch b).cps.toList) ↔ a < b := by
    show [a] < [b] ↔ _
    simp [List.cons_lt_cons_iff]
  simp only [this]
theorem tx_to (l : List Nat) (k : Nat) : cutS (tx l) none (some (k : Int)) = tx (l.take k) := by
  unfold cutS tx
  show (⟨_⟩ : Str) = ⟨_⟩
  rw [HT.sIx_nat, HT.sIx_none]
  show (⟨((l.drop 0).take (min k l.length - 0)).toArray⟩ : Str) = ⟨(l.take k).toArray⟩
  rw [List.drop_zero, Nat.sub_zero, Nat.min_def]
  split
  · rfl
  · rw [List.take_of_length_le (Nat.le_refl _), List.take_of_length_le (by omega)]
theorem tx_from (l : List Nat) (k : Nat) : cutS (tx l) (some (k : Int)) none = tx (l.drop k) := by
  unfold cutS tx
  show (⟨_⟩ : Str) = ⟨_⟩
  rw [HT.sIx_nat, HT.sIx_none]
  show (⟨((l.drop (min k l.length)).take (l.length - min k l.length)).toArray⟩ : Str) = ⟨(l.drop k).toArray⟩
  by_cases h : k ≤ l.length
  · rw [Nat.min_eq_left h, List.take_of_length_le (by rw [List.length_drop]; omega)]
  · rw [Nat.min_eq_right (by omega), List.drop_eq_nil_of_le (Nat.le_refl _), List.drop_eq_nil_of_le (by omega), List.take_nil]
theorem joinL_ones : ∀ l : List Nat, TL.joinL [] (l.map fun c => [c]) = l
  | [] => rfl
  | [c] => rfl
  | c :: d :: r => by
    have := joinL_ones (d :: r)
    show [c] ++ ([] ++ TL.joinL [] ((d :: r).map fun c => [c])) = _
    rw [this]; rfl
theorem tx_join (l : List Nat) : Txt.join (Str.ofString "") (l.map ch) = tx l := by
  rw [TL.join_eq]
  have e := TL.tl_join (Str.ofString "") (l.map ch)
  refine TL.ext_tl (e.trans ?_)
  rw [List.map_map]
  exact joinL_ones l
theorem tx_joinOk (l : List Nat) (h : l.length ≤ 1000) : ((l.map ch).map (·.length)).sum + (l.map ch).length * (Str.ofString "").length ≤ 16777216 := by
  have e0 : (Str.ofString "").length = 0 := by decide +kernel
  have e1 : ∀ l : List Nat, ((l.map ch).map (·.length)).sum = l.length := by
    intro l
    induction l with
    | nil => rfl
    | cons c r ih =>
      rw [List.map_cons, List.map_cons, List.sum_cons, ih, List.length_cons]
      show 1 + r.length = _
      omega
  rw [e0, e1]
  omega
inductive B where
  | nil
  | node (l : B) (x : Nat) (r : B)
  deriving DecidableEq
def B.size : B → Nat
  | .nil => 0
  | .node l _ r => l.size + 1 + r.size
def B.deep : B → Nat
  | .nil => 0
  | .node l _ r => 1 + max l.deep r.deep
def B.data : B → PyData
  | .nil => .none
  | .node l x r => .tuple [l.data, .str (ch x), r.data]
def B.pre : B → List Nat
  | .nil => []
  | .node l x r => x :: (l.pre ++ r.pre)
def B.mid : B → List Nat
  | .nil => []
  | .node l x r => l.mid ++ x :: r.mid
theorem B.deep_le : ∀ t : B, t.deep ≤ t.size
  | .nil => Nat.le_refl _
  | .node l _ r => by
    have h1 := l.deep_le
    have h2 := r.deep_le
    show 1 + max l.deep r.deep ≤ l.size + 1 + r.size
    omega
theorem B.pre_len : ∀ t : B, t.pre.length = t.size
  | .nil => rfl
  | .node l x r => by
    have h1 := l.pre_len
    have h2 := r.pre_len
    show (x :: (l.pre ++ r.pre)).length = l.size + 1 + r.size
    rw [List.length_cons, List.length_append]
    omega
theorem B.mid_len : ∀ t : B, t.mid.length = t.size
  | .nil => rfl
  | .node l x r => by
    have h1 := l.mid_len
    have h2 := r.mid_len
    show (l.mid ++ x :: r.mid).length = l.size + 1 + r.size
    rw [List.length_append, List.length_cons]
    omega
theorem B.mid_mem (t : B) (c : Nat) : c ∈ t.mid ↔ c ∈ t.pre := by
  induction t with
  | nil => exact Iff.rfl
  | node l x r h1 h2 =>
    show c ∈ l.mid ++ x :: r.mid ↔ c ∈ x :: (l.pre ++ r.pre)
    rw [List.mem_append, List.mem_cons, List.mem_cons, List.mem_append, h1, h2]
    constructor
    · rintro (h | h | h)
      · exact .inr (.inl h)
      · exact .inl h
      · exact .inr (.inr h)
    · rintro (h | h | h)
      · exact .inr (.inl h)
      · exact .inl h
      · exact .inr (.inr h)
/-- the tree t lies at v -/
inductive BAt (H : Hp) : V → B → Prop
  | nil : BAt H .non .nil
  | node {a : Addr} {l r : V} {x : Nat} {tl tr : B} : H a = some (.tup [l, .str (ch x), r]) → BAt H l tl → BAt H r tr → BAt H (.ref a) (.node tl x tr)
/-- tuples stand still -/
def KeepT (H H' : Hp) : Prop := ∀ b xs, H b = some (.tup xs) → H' b = some (.tup xs)
theorem KeepT.refl (H : Hp) : KeepT H H := fun _ _ h => h
theorem KeepT.trans {H H1 H2 : Hp} (a : KeepT H H1) (b : KeepT H1 H2) : KeepT H H2 := fun c xs h => b c xs (a c xs h)
theorem Same.keepT {H H' : Hp} (h : Same H H') : KeepT H H' := fun b xs e => h b _ e
theorem BAt.keep {H H' : Hp} (k : KeepT H H') {v : V} {t : B} (h : BAt H v t) : BAt H' v t := by
  induction h with
  | nil => exact .nil
  | node e _ _ h1 h2 => exact .node (k _ _ e) h1 h2
theorem BAt.same {H H' : Hp} (k : Same H H') {v : V} {t : B} (h : BAt H v t) : BAt H' v t := h.keep (Tw.Same.keepT k)
theorem BAt.dp {K : PySem.W.Frag} {H : Hp} {v : V} {t : B} (h : BAt H v t) : Dp K H v t.data := by
  induction h with
  | nil => exact .non
  | node e _ _ h1 h2 => exact .tup (SqT.of e) (.cons h1 (.cons (.str _) (.cons h2 .nil)))
theorem BAt.inv {H : Hp} {v : V} {t : B} (h : BAt H v t) : (v = .non ∧ t = .nil) ∨ ∃ a l r x tl tr, v = .ref a ∧ t = .node tl x tr ∧ H a = some (.tup [l, .str (ch x), r]) ∧ BAt H l tl ∧ BAt H r tr := by
  cases h with
  | nil => exact .inl ⟨rfl, rfl⟩
  | node e h1 h2 => exact .inr ⟨_, _, _, _, _, _, rfl, rfl, e, h1, h2⟩
theorem same_new {H : Hp} {p : Addr} (h : H p = none) (o : HO) : Same H (upd H p o) := fun b u q => by rw [upd_ne (ne_of_none q h)]; exact q
theorem small {n : Nat} (h : n ≤ 1000) : n ≤ sizeLine := Nat.le_of_lt (small1000 h)
theorem at_map {α : Type} {f : α → V} {ns : List α} {i : Int} {v : α} (h0 : 0 ≤ i) (h : ns[i.toNat]? = some v) : atI (ns.map f) i = some (f v) := by
  have e : i = ((i.toNat : Nat) : Int) := by omega
  rw [e]
  exact atI_nat (by rw [List.getElem?_map, h]; rfl)
theorem ixN_nat {n : Nat} {i : Int} (h0 : 0 ≤ i) (h : i < n) : ixN n i = some i.toNat := by
  unfold ixN
  first
    | rw [if_pos h0, if_pos h]
    | (rw [if_pos h0]; rw [if_pos (by omega)])
    | simp [h0, h]
theorem cut_to (xs : List V) (k : Nat) : cutV xs none (some (k : Int)) = xs.take k := by
  unfold cutV
  rw [HT.sIx_nat, HT.sIx_none, List.drop_zero, Nat.sub_zero]
  rw [Nat.min_def]
  split
  · rfl
  · rw [List.take_of_length_le (Nat.le_refl _), List.take_of_length_le (by omega)]
theorem cut_from (xs : List V) (k : Nat) : cutV xs (some (k : Int)) none = xs.drop k := by
  unfold cutV
  rw [HT.sIx_nat, HT.sIx_none]
  by_cases h : k ≤ xs.length
  · rw [Nat.min_eq_left h, List.take_of_length_le (by rw [List.length_drop]; omega)]
  · rw [Nat.min_eq_right (by omega), List.drop_eq_nil_of_le (Nat.le_refl _), List.drop_eq_nil_of_le (by omega), List.take_nil]
theorem kept {σ : L2.St} {H : Hp} {A B : Hp → Prop} (h : A H) : tYes σ H (fun b H3 => if b = true then A H3 else B H3) := by
  show if true = true then A H else B H
  exact iteT h
theorem erase_map {α β : Type} (f : α → β) : ∀ (l : List α) (i : Nat), (l.map f).eraseIdx i = (l.eraseIdx i).map f
  | [], _ => rfl
  | _ :: _, 0 => rfl
  | x :: l, i + 1 => congrArg (f x :: ·) (erase_map f l i)
/-- a def that stands at a name, with its promise -/
structure Df (P : Program) (w : World) (K : PySem.W.Frag) (mg : Str → Option Value) (base : Heap) (k : Nat) (nm : Str) (ps : List Str) (sp : Sp) where
  f : Addr
  fd : FuncData
  ok : FnOk P w K mg base CX0 k f fd ps sp
  b : Binds K fd ps []
  kp : PySem.W.keepIn K (.ref f) = true
  g : mg nm = some (.ref f)
structure Mgs (mg : Str → Option Value) : Prop where
  zip : mg "zip" = none
  all : mg "all" = none
  repr : mg "repr" = none
  sum : mg "sum" = none
  len : mg "len" = none
  isinstance : mg "isinstance" = none
  list : mg "list" = none
  tuple : mg "tuple" = none
  str : mg "str" = none
  int : mg "int" = none
  bool : mg "bool" = none
  dict : mg "dict" = none
  range : mg "range" = none
  sorted : mg "sorted" = none
  abs : mg "abs" = none
  min : mg "min" = none
  max : mg "max" = none
theorem vals_signs : ∀ (l : List Nat) (vs : List Value), vs.length = l.length → (∀ (j : Nat) (v : Value), vs[j]? = some v → ∃ c u, l[j]? = some c ∧ v = .str ⟨#[c]⟩ u) → Vals (l.map fun c => V.str ⟨#[c]⟩) vs
  | [], [], _, _ => .nil
  | [], _ :: _, h, _ => by simp at h
  | _ :: _, [], h, _ => by simp at h
  | c :: l, v :: vs, h, k => by
    obtain ⟨c', u, e, rfl⟩ := k 0 v rfl
    cases e
    exact .cons ⟨u, rfl⟩ (vals_signs l vs (by simpa using h) fun j v e => k (j + 1) v e)
theorem call_signs {X : Cx} (hc : X.calm = true) : CallR X (.type "list") (fun xs H Q => ∃ x : Str, xs = [.str x] ∧ x.cps.size ≤ 1000 ∧ ∀ p, H p = none → Q (.ref p) (upd H p (.lst (x.cps.toList.map fun c => V.str ⟨#[c]⟩)))) := by
  intro pins s σ H xs us Q I r h
  obtain ⟨x, rfl, hz, q⟩ := h
  obtain ⟨u, rfl, t, rfl⟩ := vals1 r
  have hz' : x.cps.size ≤ sizeLine := small hz
  refine call_list_str (I.ok.hd hc) x t (fun h' tk acc' c' hk hS hacc => ?_) hz'
  have hv : Vals (x.cps.toList.map fun c => V.str ⟨#[c]⟩) acc'.toList := vals_signs _ _ (by rw [Array.length_toList, Array.length_toList]; exact hacc.1) fun j v e => by
    obtain ⟨c, u, h1, h2⟩ := hacc.2 j v (by rw [← Array.getElem?_toList]; exact e)
    exact ⟨c, u, by rw [Array.getElem?_toList]; exact h1, h2⟩
  exact ⟨.ref s.heap.objs.size, _, I.laid (t' := tk) hk (Nat.le_refl _) (show ObjOk X.prog X.w _ h' _ (.lst _) from ⟨by rw [List.length_map, Array.length_toList]; exact hz', acc'.toList, c', hv, by rw [Array.toArray_toList]; exact hS⟩), rfl, q _ (I.hok.fresh (Nat.le_refl _))⟩
/-- for c in text -/
theorem for_text {x : Str} {g : TG} {tb : TS} {D : Ends} {σ : L2.St} {H : Hp} (Pv : Nat → L2.St → Hp → Prop) (h0 : Pv 0 σ H)
    (hs : ∀ i c σ H, x.cps.toList[i]? = some c → Pv i σ H → g (.str ⟨#[c]⟩) σ H fun σ2 H2 => tb { D with nx := Pv (i + 1), ct := Pv (i + 1), bk := D.nx } σ2 H2)
    (hd : ∀ σ H, Pv x.cps.toList.length σ H → D.nx σ H) :
    ∃ W : Nat → Nat → L2.St → Hp → Prop, (∃ m, W 0 m σ H) ∧ ∀ i m σ H, W i m σ H →
      ((Its x).stop i H ∧ D.nx σ H) ∨ ((Its x).go i H ∧ ∃ N : L2.St → Hp → Prop, (∀ σ' H', N σ' H' → ∃ m', m' < m ∧ W (i + 1) m' σ' H') ∧ ∀ v H', (Its x).yld i H v H' → g v σ H' fun σ2 H2 => tb { D with nx := N, ct := N, bk := D.nx } σ2 H2) := by
  refine for_it walk_str Pv h0 (fun _ _ _ _ _ => trivial) (fun i v σ H H' hi hp hy => ?_) (fun σ H hp => hd σ H (by rw [Array.length_toList]; exact hp))
  obtain ⟨rfl, c, hc, rfl⟩ := hy
  exact hs i c σ H' (by rw [Array.getElem?_toList]; exact hc) hp
theorem lc_text {x : Str} {g : TG} {tt : TT} {te : TE} {vs : List Nat} {σ : L2.St} {H1 : Hp} {D : Addr} {Qd : Hp → Prop} (Pv : Nat → Hp → Prop) (h0 : Pv 0 (upd H1 D (.lst [])))
    (hs : ∀ i c H, x.cps.toList[i]? = some c → Pv i H → g (.str ⟨#[c]⟩) (wipe σ vs) H fun σ2 H2 => wipe σ2 vs = wipe σ vs ∧ tt σ2 H2 fun b H3 =>
      if b = true then te σ2 H3 fun y H4 => ∃ acc, H4 D = some (.lst acc) ∧ acc.length < sizeLine ∧ Pv (i + 1) (upd H4 D (.lst (acc ++ [y]))) else Pv (i + 1) H3) (hd : ∀ H, Pv x.cps.toList.length H → Qd H) :
    ∃ W : Nat → Nat → Hp → Prop, (∃ m, W 0 m (upd H1 D (.lst []))) ∧ ∀ i m H, W i m H →
      ((Its x).stop i H ∧ Qd H) ∨ ((Its x).go i H ∧ ∃ Nx : Hp → Prop, (∀ H', Nx H' → ∃ m', m' < m ∧ W (i + 1) m' H') ∧ ∀ v H', (Its x).yld i H v H' → g v (wipe σ vs) H' fun σ2 H2 => wipe σ2 vs = wipe σ vs ∧ tt σ2 H2 fun b H3 =>
        if b = true then te σ2 H3 fun y H4 => ∃ acc, H4 D = some (.lst acc) ∧ acc.length < sizeLine ∧ Nx (upd H4 D (.lst (acc ++ [y]))) else Nx H3) := by
  refine lc_it walk_str Pv h0 (fun _ _ _ _ => trivial) (fun i v H H' hi hp hy => ?_) (fun H hp => hd H (by rw [Array.length_toList]; exact hp))
  obtain ⟨rfl, c, hc, rfl⟩ := hy
  exact hs i c H' (by rw [Array.getElem?_toList]; exact hc) hp
/-! ### the text by places -/
def top (i : Nat) : Stmt := PySem.Challenge.pw_treewalks_k55_whole_mirrored_nests.main.body.getD i (.Pass ⟨0, 0, 0, 0⟩)
abbrev s_is_letter : Stmt := top 9
abbrev s_is_whole_number : Stmt := top 10
abbrev s_is_index : Stmt := top 11
abbrev s_is_ascending : Stmt := top 12
abbrev s_is_node : Stmt := top 14
abbrev s_is_tree : Stmt := top 15
abbrev s_part_at : Stmt := top 16
abbrev s_is_open : Stmt := top 17
abbrev s_mirrored : Stmt := top 18
abbrev s_is_link : Stmt := top 21
abbrev s_is_entry : Stmt := top 22
abbrev s_is_nest : Stmt := top 23
abbrev s_spots_of : Stmt := top 24
abbrev s_add_spots : Stmt := top 25
abbrev s_counts_in : Stmt := top 26
abbrev s_nest_size : Stmt := top 27
abbrev s_count_label : Stmt := top 28
abbrev s_expand_nest : Stmt := top 29
abbrev s_nest_depth : Stmt := top 30
abbrev s_turned : Stmt := top 31
abbrev s_way_to : Stmt := top 32
abbrev s_place_on : Stmt := top 33
abbrev s_label_on : Stmt := top 34
abbrev s_way_at : Stmt := top 35
abbrev s_label_in : Stmt := top 36
abbrev s_other_place : Stmt := top 37
abbrev s__law_deck : Stmt := top 39
abbrev s__law_draw : Stmt := top 40
abbrev s__law_pick : Stmt := top 41
abbrev s__law_same : Stmt := top 42
abbrev s__law_mixed : Stmt := top 43
abbrev s__law_tree : Stmt := top 44
abbrev s__law_drawn_tree : Stmt := top 45
abbrev s__law_nodes : Stmt := top 46
abbrev s__law_open : Stmt := top 47
abbrev s__law_nest : Stmt := top 48
abbrev s__law_sizes : Stmt := top 49
abbrev s__law_small_nest : Stmt := top 50
abbrev s__law_turned : Stmt := top 51
abbrev s__law_glass : Stmt := top 52
abbrev s__law_right : Stmt := top 53
abbrev s_law : Stmt := top 54
abbrev s_TooLarge___init__ : Stmt := inClass (top 4) 0
abbrev s_NoPath___init__ : Stmt := inClass (top 5) 0
abbrev s_NoPlace___init__ : Stmt := inClass (top 6) 0
theorem sc_is_letter : FnScope ["value"] ["value"] (defScope s_is_letter) := ⟨rfl, rfl, rfl, by decide +kernel, rfl, by decide +kernel, by decide +kernel⟩
theorem sc_is_whole_number : FnScope ["value"] ["value"] (defScope s_is_whole_number) := ⟨rfl, rfl, rfl, by decide +kernel, rfl, by decide +kernel, by decide +kernel⟩
theorem sc_is_index : FnScope ["value", "many"] ["value", "many"] (defScope s_is_index) := ⟨rfl, rfl, rfl, by decide +kernel, rfl, by decide +kernel, by decide +kernel⟩
theorem sc_is_ascending : FnScope ["items", "one", "other"] ["items"] (defScope s_is_ascending) := ⟨rfl, rfl, rfl, by decide +kernel, rfl, by decide +kernel, by decide +kernel⟩
theorem sc_is_node : FnScope ["value"] ["value"] (defScope s_is_node) := ⟨rfl, rfl, rfl, by decide +kernel, rfl, by decide +kernel, by decide +kernel⟩
theorem sc_is_tree : FnScope ["value", "count", "waiting", "part", "side"] ["value"] (defScope s_is_tree) := ⟨rfl, rfl, rfl, by decide +kernel, rfl, by decide +kernel, by decide +kernel⟩
theorem sc_part_at : FnScope ["tree", "path", "part", "step"] ["tree", "path"] (defScope s_part_at) := ⟨rfl, rfl, rfl, by decide +kernel, rfl, by decide +kernel, by decide +kernel⟩
theorem sc_is_open : FnScope ["tree", "path"] ["tree", "path"] (defScope s_is_open) := ⟨rfl, rfl, rfl, by decide +kernel, rfl, by decide +kernel, by decide +kernel⟩
theorem sc_mirrored : FnScope ["tree", "left", "label", "right"] ["tree"] (defScope s_mirrored) := ⟨rfl, rfl, rfl, by decide +kernel, rfl, by decide +kernel, by decide +kernel⟩
theorem sc_is_link : FnScope ["value", "tree", "entries"] ["value", "tree", "entries"] (defScope s_is_link) := ⟨rfl, rfl, rfl, by decide +kernel, rfl, by decide +kernel, by decide +kernel⟩
theorem sc_is_entry : FnScope ["value", "entries", "tree", "links", "link"] ["value", "entries"] (defScope s_is_entry) := ⟨rfl, rfl, rfl, by decide +kernel, rfl, by decide +kernel, by decide +kernel⟩
theorem sc_is_nest : FnScope ["value", "at", "entry"] ["value"] (defScope s_is_nest) := ⟨rfl, rfl, rfl, by decide +kernel, rfl, by decide +kernel, by decide +kernel⟩
theorem sc_spots_of : FnScope ["nest", "spots", "roots", "tree", "links", "path", "index", "hung"] ["nest"] (defScope s_spots_of) := ⟨rfl, rfl, rfl, by decide +kernel, rfl, by decide +kernel, by decide +kernel⟩
theorem sc_add_spots : FnScope ["spots", "tree", "path", "hung", "left", "right"] ["spots", "tree", "path", "hung"] (defScope s_add_spots) := ⟨rfl, rfl, rfl, by decide +kernel, rfl, by decide +kernel, by decide +kernel⟩
theorem sc_counts_in : FnScope ["spots", "letters", "counts", "left", "label", "right"] ["spots", "letters"] (defScope s_counts_in) := ⟨rfl, rfl, rfl, by decide +kernel, rfl, by decide +kernel, by decide +kernel⟩
theorem sc_nest_size : FnScope ["nest"] ["nest"] (defScope s_nest_size) := ⟨rfl, rfl, rfl, by decide +kernel, rfl, by decide +kernel, by decide +kernel⟩
theorem sc_count_label : FnScope ["nest", "label"] ["nest", "label"] (defScope s_count_label) := ⟨rfl, rfl, rfl, by decide +kernel, rfl, by decide +kernel, by decide +kernel⟩
theorem sc_expand_nest : FnScope ["nest", "trees", "left", "label", "right"] ["nest"] (defScope s_expand_nest) := ⟨rfl, rfl, rfl, by decide +kernel, rfl, by decide +kernel, by decide +kernel⟩
theorem sc_nest_depth : FnScope ["nest", "depths", "left", "label", "right"] ["nest"] (defScope s_nest_depth) := ⟨rfl, rfl, rfl, by decide +kernel, rfl, by decide +kernel, by decide +kernel⟩
theorem sc_turned : FnScope ["spots", "counts", "at", "turn", "left", "label", "right", "side"] ["spots", "counts", "at", "turn"] (defScope s_turned) := ⟨rfl, rfl, rfl, by decide +kernel, rfl, by decide +kernel, by decide +kernel⟩
theorem sc_way_to : FnScope ["spots", "counts", "kind", "index", "way", "rest", "at", "turn", "side", "many"] ["spots", "counts", "kind", "index"] (defScope s_way_to) := ⟨rfl, rfl, rfl, by decide +kernel, rfl, by decide +kernel, by decide +kernel⟩
theorem sc_place_on : FnScope ["spots", "sizes", "kind", "way", "place", "at", "step", "turn", "side", "many"] ["spots", "sizes", "kind", "way"] (defScope s_place_on) := ⟨rfl, rfl, rfl, by decide +kernel, rfl, by decide +kernel, by decide +kernel⟩
theorem sc_label_on : FnScope ["spots", "way", "at", "step", "left", "label", "right"] ["spots", "way"] (defScope s_label_on) := ⟨rfl, rfl, rfl, by decide +kernel, rfl, by decide +kernel, by decide +kernel⟩
theorem sc_way_at : FnScope ["spots", "sizes", "kind", "place"] ["spots", "sizes", "kind", "place"] (defScope s_way_at) := ⟨rfl, rfl, rfl, by decide +kernel, rfl, by decide +kernel, by decide +kernel⟩
theorem sc_label_in : FnScope ["nest", "kind", "place", "spots", "sizes"] ["nest", "kind", "place"] (defScope s_label_in) := ⟨rfl, rfl, rfl, by decide +kernel, rfl, by decide +kernel, by decide +kernel⟩
theorem sc_other_place : FnScope ["nest", "kind", "place", "other", "spots", "sizes"] ["nest", "kind", "place", "other"] (defScope s_other_place) := ⟨rfl, rfl, rfl, by decide +kernel, rfl, by decide +kernel, by decide +kernel⟩
theorem sc__law_deck : FnScope ["_law_script", "_law_cells", "_law_cell"] ["_law_script"] (defScope s__law_deck) := ⟨rfl, rfl, rfl, by decide +kernel, rfl, by decide +kernel, by decide +kernel⟩
theorem sc__law_draw : FnScope ["_law_deck_here", "_law_many", "_law_cells", "_law_count", "_law_rests", "_law_seat", "_law_digits", "_law_mixed_here"] ["_law_deck_here", "_law_many"] (defScope s__law_draw) := ⟨rfl, rfl, rfl, by decide +kernel, rfl, by decide +kernel, by decide +kernel⟩
theorem sc__law_pick : FnScope ["_law_deck_here", "_law_items"] ["_law_deck_here", "_law_items"] (defScope s__law_pick) := ⟨rfl, rfl, rfl, by decide +kernel, rfl, by decide +kernel, by decide +kernel⟩
theorem sc__law_same : FnScope ["_law_found", "_law_due"] ["_law_found", "_law_due"] (defScope s__law_same) := ⟨rfl, rfl, rfl, by decide +kernel, rfl, by decide +kernel, by decide +kernel⟩
theorem sc__law_mixed : FnScope ["_law_deck_here", "_law_items", "_law_pool", "_law_found"] ["_law_deck_here", "_law_items"] (defScope s__law_mixed) := ⟨rfl, rfl, rfl, by decide +kernel, rfl, by decide +kernel, by decide +kernel⟩
theorem sc__law_tree : FnScope ["_law_deck_here", "_law_size", "_law_style", "_law_letters", "_law_left", "_law_label"] ["_law_deck_here", "_law_size", "_law_style", "_law_letters"] (defScope s__law_tree) := ⟨rfl, rfl, rfl, by decide +kernel, rfl, by decide +kernel, by decide +kernel⟩
theorem sc__law_drawn_tree : FnScope ["_law_deck_here", "_law_limit", "_law_letters"] ["_law_deck_here", "_law_limit"] (defScope s__law_drawn_tree) := ⟨rfl, rfl, rfl, by decide +kernel, rfl, by decide +kernel, by decide +kernel⟩
theorem sc__law_nodes : FnScope ["_law_tree_here", "_law_path", "_law_left", "_law_label", "_law_right_here"] ["_law_tree_here", "_law_path"] (defScope s__law_nodes) := ⟨rfl, rfl, rfl, by decide +kernel, rfl, by decide +kernel, by decide +kernel⟩
theorem sc__law_open : FnScope ["_law_tree_here", "_law_path", "_law_label", "_law_known", "_law_found", "_law_side"] ["_law_tree_here"] (defScope s__law_open) := ⟨rfl, rfl, rfl, by decide +kernel, rfl, by decide +kernel, by decide +kernel⟩
theorem sc__law_nest : FnScope ["_law_deck_here", "_law_entries", "_law_limit", "_law_few", "_law_found", "_law_seat", "_law_tree_here", "_law_links", "_law_path", "_law_index"] ["_law_deck_here", "_law_entries", "_law_limit", "_law_few"] (defScope s__law_nest) := ⟨rfl, rfl, rfl, by decide +kernel, rfl, by decide +kernel, by decide +kernel⟩
theorem sc__law_sizes : FnScope ["_law_nest_here", "_law_found", "_law_tree_here", "_law_links", "_law_path", "_law_index"] ["_law_nest_here"] (defScope s__law_sizes) := ⟨rfl, rfl, rfl, by decide +kernel, rfl, by decide +kernel, by decide +kernel⟩
theorem sc__law_small_nest : FnScope ["_law_deck_here", "_law_limit", "_law_nest_here"] ["_law_deck_here", "_law_limit"] (defScope s__law_small_nest) := ⟨rfl, rfl, rfl, by decide +kernel, rfl, by decide +kernel, by decide +kernel⟩
theorem sc__law_turned : FnScope ["_law_nest_here", "_law_found", "_law_tree_here", "_law_links", "_law_path", "_law_index", "_law_swapped"] ["_law_nest_here"] (defScope s__law_turned) := ⟨rfl, rfl, rfl, by decide +kernel, rfl, by decide +kernel, by decide +kernel⟩
theorem sc__law_glass : FnScope ["_law_tree_here"] ["_law_tree_here"] (defScope s__law_glass) := ⟨rfl, rfl, rfl, by decide +kernel, rfl, by decide +kernel, by decide +kernel⟩
theorem sc__law_right : FnScope ["_law_deck_here", "_law_nest_here", "_law_glass_here", "_law_size", "_law_others", "_law_letter", "_law_kind", "_law_place", "_law_there", "_law_two", "_law_found"] ["_law_deck_here", "_law_nest_here"] (defScope s__law_right) := ⟨rfl, rfl, rfl, by decide +kernel, rfl, by decide +kernel, by decide +kernel⟩
theorem sc_law : FnScope ["_law_script", "_law_deck_here", "_law_turn", "_law_nest_here", "_law_small"] ["_law_script"] (defScope s_law) := ⟨rfl, rfl, rfl, by decide +kernel, rfl, by decide +kernel, by decide +kernel⟩
theorem sc_TooLarge___init__ : FnScope ["self", "limit"] ["self", "limit"] (defScope s_TooLarge___init__) := ⟨rfl, rfl, rfl, by decide +kernel, rfl, by decide +kernel, by decide +kernel⟩
theorem sc_NoPath___init__ : FnScope ["self", "value"] ["self", "value"] (defScope s_NoPath___init__) := ⟨rfl, rfl, rfl, by decide +kernel, rfl, by decide +kernel, by decide +kernel⟩
theorem sc_NoPlace___init__ : FnScope ["self", "value"] ["self", "value"] (defScope s_NoPlace___init__) := ⟨rfl, rfl, rfl, by decide +kernel, rfl, by decide +kernel, by decide +kernel⟩
/-! ### sorted(set(text)) -/
section
open PySem.Froz
/-- the set of texts at a: its members are l; its table rises and can be walked -/
def SetX (P : Program) (w : World) (h : Heap) (a : Addr) (l : List Str) : Prop :=
  ∃ D : SD, h.get? a = some (sObj "set" D) ∧ TxOk P w D l ∧ Ris D.2.2.place.toList ∧ (w.params.followText "set-order" = true ∨ D.2.2.led = true)
theorem SetX.at {P : Program} {w : World} {h h' : Heap} {a : Addr} {l : List Str} (R : SetX P w h a l) (k : ∀ o, h.get? a = some o → h'.get? a = some o) : SetX P w h' a l := by
  obtain ⟨D, ho, r⟩ := R
  exact ⟨D, k _ ho, r⟩
theorem add_tab {w : World} {h : Int} {v : Value} {D : SD} (r : Ris D.2.2.place.toList) (l : w.params.followText "set-order" = true ∨ D.2.2.led = true) :
    Ris (addTx h v D).2.2.place.toList ∧ (w.params.followText "set-order" = true ∨ (addTx h v D).2.2.led = true) := by
  obtain ⟨es, ep, t⟩ := D
  have r1 := layNew_ris t es h v r
  have l1 := layNew_led t es h v
  unfold addTx
  dsimp only at l ⊢
  generalize layNew t es h v = L at r1 l1 ⊢
  obtain ⟨es1, t1, wd, gv⟩ := L
  dsimp only at r1 l1 ⊢
  generalize ht2 : (if t1.plain = true then ({ t1 with plain := false } : SetTable) else t1) = t2
  have r2 : Ris t2.place.toList ∧ t2.led = t1.led := by
    rw [← ht2]
    split
    · exact ⟨r1, rfl⟩
    · exact ⟨r1, rfl⟩
  unfold tailTx
  split
  · exact ⟨relayAll_ris t2 es1 _, l.imp id fun z => by show (relayAll t2 es1 _).2.1.led = true; rw [relayAll_led, r2.2, l1]; exact z⟩
  · exact ⟨r2.1, l.imp id fun z => by show t2.led = true; rw [r2.2, l1]; exact z⟩
section
variable {P : Program} {w : World} {A : Around} {E : Value → Shared → Prop} {s : Shared}
theorem setX_add {a : Addr} {l : List Str} {k : Str} {u : Tok} {Q : Bool → Shared → Prop} (R : SetX P w s.heap a l) (hb : l.length + 1 < scanBound)
    (h : ∀ (h' : Heap) (b : Bool), Heap.SameBut a s.heap h' → SetX P w h' a (if k ∈ l then l else k :: l) → Q b { s with heap := h' }) : wpAny (model P w) A (setAddHashed a (.str k u) (hashStr w k)) Q E s := by
  obtain ⟨D, ho, F, ris, led⟩ := R
  by_cases hk : k ∈ l
  · rw [if_pos hk] at h
    have h1 : ∀ b, Q b s := fun b => h s.heap b (Heap.SameBut.refl a s.heap) ⟨D, ho, F, ris, led⟩
    obtain ⟨es, ep, t⟩ := D
    have hd : (sObj "set" (es, ep, t)).data = .set es ep t := rfl
    have hf : t.fits es.size = true := F.fit
    have hel : ElemsOf (PySem.strKind P w) es.toList := F.el
    have hsz : es.size = l.length := F.sz
    obtain ⟨e, he, ke⟩ := (F.mem k).mp hk
    unfold setAddHashed setAddHashedIn
    refine wpAny_holding (wpAny_bind (wpAny_setState_of ho hd hf ?_))
    dsimp only
    rw [byScan_of (x := Value.str k u) rfl (by omega) hel]
    simp only [↓reduceIte]
    unfold setAddByScan
    refine wpAny_bind ?_
    refine wpAny_bind (wpAny_rule ?_)
    refine wpAny_bind (wpAny_setScan_of (knd := PySem.strKind P w) (k := k) (is_str k u) ho hd hf hel ?_)
    cases hfi : List.findIdx? (fun e => (PySem.strKind P w).is k e.2) es.toList with
    | none =>
      have c := List.findIdx?_eq_none_iff.mp hfi e he
      rw [ke] at c
      cases c
    | some j =>
      dsimp only
      exact wpAny_pure (wpAny_pure (h1 _))
  · rw [if_neg hk] at h
    obtain ⟨t1, t2⟩ := add_tab (w := w) (h := hashStr w k) (v := .str k u) ris led
    exact add_x ho F hk hb (h _ true (Heap.SameBut.update s.heap a _) ⟨_, get_upd _ ho rfl, add_ok u F, t1, t2⟩)
theorem setX_loop {I : Addr} {fp wr : List Addr} {G : Array GenState → Array GenState → Prop} {n : Nat} {Pv : Nat → Value → Prop} {St : Nat → Shared → Prop} {R : Result → Shared → Prop}
    (W : WalksS P w A.in1 I fp wr G n Pv St) (S : Addr) (hSf : S ∉ fp) (cs : List Nat) (hn : n = cs.length) (hb : cs.length + 1 < scanBound) (hval : ∀ i v, Pv i v → ∃ c t, cs[i]? = some c ∧ v = .str (ch c) t) :
    ∀ (k i : Nat) (s : Shared), n - i = k → i ≤ n → St i s → (∃ l, SetX P w s.heap S l ∧ l.length ≤ i ∧ l.Nodup ∧ ∀ x, x ∈ l ↔ x ∈ (cs.take i).map ch) →
      (∀ s' l, Moved (S :: wr) G s s' → SetX P w s'.heap S l → l.length ≤ n → l.Nodup → (∀ x, x ∈ l ↔ x ∈ cs.map ch) → R (.ok (.ret .none)) s') →
      codeAny (model P w) A (.builtin "set.update.loop" ⟨[.ref S, .ref I], []⟩) R s := by
  have hSw : S ∉ wr := fun h => hSf (W.sub _ h)
  have up : ∀ b ∈ wr, b ∈ S :: wr := fun b hb => List.mem_cons_of_mem _ hb
  intro k
  induction k with
  | zero =>
    intro i s hk' hi hst ⟨l, hS, hl, nd, mem⟩ hR
    have hin : i = n := by omega
    subst hin
    refine codeAny_builtin PyProof.Rows.F.entry_set_update_loop ?_
    rw [Around.under_plainId PyProof.Rows.F.plain_set_update_loop _]
    show wpAny _ A.in1 (pyNext (.ref I) >>= _) _ _ s
    refine wpAny_bind (W.done s _ _ hst fun s' hm => ?_)
    show wpAny _ A.in1 (ret Value.none) _ _ s'
    rw [List.take_of_length_le (by omega)] at mem
    exact wpAny_pure (hR s' l (hm.mono up) (hS.at fun o e => hm.heap S o hSw e) hl nd mem)
  | succ k ih =>
    intro i s hk' hi hst ⟨l, hS, hl, nd, mem⟩ hR
    have hlt : i < n := by omega
    refine codeAny_builtin PyProof.Rows.F.entry_set_update_loop ?_
    rw [Around.under_plainId PyProof.Rows.F.plain_set_update_loop _]
    show wpAny _ A.in1 (pyNext (.ref I) >>= _) _ _ s
    refine wpAny_bind (W.item i s _ _ hlt hst fun v s' hP hst' hm => ?_)
    obtain ⟨c, t, hc, rfl⟩ := hval i v hP
    have hS' : SetX P w s'.heap S l := hS.at fun o e => hm.heap S o hSw e
    show wpAny _ A.in1 (holding [Value.str (ch c) t] (setAdd S (.str (ch c) t)) >>= _) _ _ s'
    refine wpAny_bind (wpAny_holding ?_)
    unfold setAdd
    refine wpAny_holding ?_
    refine wpAny_bind ((PySem.strKind P w).pyHash (k := ch c) (is_str _ _) ?_)
    refine setX_add (s := { s' with toks := s'.toks + 1 }) hS' (by omega) fun h' b hsb hS2 => ?_
    have tk : (cs.take (i + 1)).map ch = (cs.take i).map ch ++ [ch c] := by
      rw [List.take_succ, hc, List.map_append]
      rfl
    refine wpAny_pure ⟨plainId_quiet PyProof.Rows.F.plain_set_update_loop _, ih (i + 1) _ (by omega) hlt (W.frame _ s' _ _ hst' (Nat.le_succ _) fun b hb o e => ?_) ⟨_, hS2, ?_, ?_, ?_⟩ fun s'' l2 hm'' hS'' hl'' nd'' mem'' => ?_⟩
    · rw [hsb.2 b (fun h : b = S => hSf (by rw [← h]; exact hb))]; exact e
    · split
      · omega
      · rw [List.length_cons]; omega
    · split
      · exact nd
      · exact List.nodup_cons.mpr ⟨by assumption, nd⟩
    · intro x
      rw [tk, List.mem_append, List.mem_singleton, ← mem x]
      split
      · rename_i hm
        constructor
        · exact .inl
        · rintro (h | rfl)
          · exact h
          · exact hm
      · rw [List.mem_cons]
        exact Or.comm
    · refine hR s'' l2 (Moved.trans W.gtrans ((hm.mono up).then_heap (Nat.le_succ _) fun b o hb e => ?_) hm'') hS'' hl'' nd'' mem''
      rw [hsb.2 b (fun h : b = S => hb (by rw [h]; exact List.mem_cons_self))]; exact e
end
end
/-! ### set(text), sorted of it -/
section
open PySem.Froz
abbrev freshS (w : World) : Obj := { cls := .type "set", dict := none, data := .set #[] 0 (.fresh 0 0 (!w.params.followText "set-order")) }
theorem setX_fresh {P : Program} {w : World} {h : Heap} {a : Addr} (ho : h.get? a = some (freshS w)) : SetX P w h a [] := by
  refine ⟨(#[], 0, .fresh 0 0 (!w.params.followText "set-order")), ho, .nil (by rfl), List.Pairwise.nil, ?_⟩
  show _ ∨ (!w.params.followText "set-order") = true
  cases w.params.followText "set-order"
  · exact .inr rfl
  · exact .inl rfl
section
variable {P : Program} {w : World} {A : Around} {E : Value → Shared → Prop} {s : Shared}
set_option maxHeartbeats 4000000 in
theorem call_setX {x : Str} {t : Tok} {Q : Value → Shared → Prop} (hh : A.handled = none) (hb : x.cps.size + 1 < scanBound)
    (h : ∀ (h' : Heap) (tk : Nat) (l : List Str), SetX P w h' s.heap.objs.size l → l.length ≤ x.cps.size → l.Nodup → (∀ y, y ∈ l ↔ y ∈ x.cps.toList.map ch) → (∀ b o, s.heap.get? b = some o → h'.get? b = some o) → Q (.ref s.heap.objs.size) { s with heap := h', toks := tk }) :
    wpAny (model P w) A (call (.type "set") [.str x t]) Q E s := by
  obtain ⟨c, tl, hmro⟩ := F.called_set.mro
  have hmade := F.called_set.made
  have hsub := F.called_set.sub
  refine wpAny_call (codeAny_of_tree ?_)
  show wpAny _ _ (callAny (.type "set") _) _ _ _
  refine wpAny_pure ⟨Code.quiet_builtin _ (by decide +kernel), codeAny_builtin F.entry_type_call ?_⟩
  rw [Around.under_plain (weight_type_call_type "set" [.str x t] []) rfl]
  have h1 := F.called_set.notType
  have h2 := F.called_set.canCreate
  have hct := F.typeCall_set_1 (.str x t)
  repeat (any_goals (first | assumption | wp_step))
  refine codeAny_mono (code_set_led1 (.str x t) (E := E) (Q₁ := fun obj s₁ => obj = .ref s.heap.objs.size ∧ s₁ = { s with heap := s.heap.push (freshS w) }) ⟨rfl, rfl⟩) fun r s₁ hr => ?_
  match r, hr with
  | .error e, hr => exact hr
  | .ok .next, hr => exact hr.elim
  | .ok .brk, hr => exact hr.elim
  | .ok .cont, hr => exact hr.elim
  | .ok (.ret obj), hr =>
    obtain ⟨rfl, rfl⟩ := hr
    have hS : (s.heap.push (freshS w)).get? s.heap.objs.size = some (freshS w) := Heap.get?_push_size _ rfl
    have hT : Shared.TypeIs { s with heap := s.heap.push (freshS w) } (.ref s.heap.objs.size) "set" := ⟨_, hS, rfl⟩
    have hli := F.called_set.init.lookup
    have hbi := F.called_set.init.bind (.ref s.heap.objs.size)
    repeat (any_goals (first | assumption | wp_step))
    refine codeAny_mono (codeAny_call_builtin (R := wants (fun r s₂ => r = .none ∧ ∃ h' tk l, s₂ = { s with heap := h', toks := tk } ∧ SetX P w h' s.heap.objs.size l ∧ l.length ≤ x.cps.size ∧ l.Nodup ∧ (∀ y, y ∈ l ↔ y ∈ x.cps.toList.map ch) ∧
        (∀ b o, s.heap.get? b = some o → h'.get? b = some o)) E) F.called_set.init.plain F.entry_set_init (check_set_init_1 hT ?_)) fun r₂ s₂ hr₂ => ?_
    · have hsls : isSubtype (.type "str") (.type "set") = pure false := by rw [isSubtype_type]; kernel_rfl
      have hslf : isSubtype (.type "str") (.type "frozenset") = pure false := by rw [isSubtype_type]; kernel_rfl
      have hne : (Value.type "str" == Value.type "dict") = false := by decide
      unfold Builtin.«set.__init__» noKeywords Builtin.Frozenset.updateFrom
      generalize hPI : pyIter = PI
      wp_walk
      subst hPI
      refine wpAny_pyIter_str fun o St W hst => ?_
      refine wpAny_bind (wpAny_runValue ?_)
      have hh3 : A.in1.in1.in1.handled = none := by simp [hh]
      have hSf : s.heap.objs.size ∉ [(s.heap.push (freshS w)).objs.size] := by
        rw [Heap.size_push]; simp only [List.mem_singleton]
        exact Nat.ne_of_lt (Nat.lt_succ_self _)
      have hval : ∀ (i : Nat) (v : Value), SignAt x i v → ∃ c t, x.cps.toList[i]? = some c ∧ v = .str (ch c) t := fun i v ⟨c, u, hc, e⟩ => ⟨c, u, by rw [Array.getElem?_toList]; exact hc, e⟩
      refine setX_loop ((W _ hh3).toS) s.heap.objs.size hSf x.cps.toList (Array.length_toList).symm (by rw [Array.length_toList]; exact hb) hval (x.cps.size - 0) 0 _ rfl (Nat.zero_le _) hst
        ⟨[], setX_fresh (Heap.get?_push_of_some _ hS), Nat.le_refl 0, List.nodup_nil, fun y => by simp⟩ fun s' l hm hS' hl nd mem => ?_
      obtain ⟨h', g2, d', tk', os'⟩ := s'
      have eg : g2 = s.gens := hm.gens
      have ed : d' = s.drawn := hm.drawn
      have eo : os' = s.os := hm.os
      subst eg; subst ed; subst eo
      show wpAny _ _ _ _ _ _
      refine wpAny_pure ?_
      show wpAny _ _ (ret Value.none) _ _ _
      refine wpAny_pure ⟨rfl, h', tk', l, rfl, hS', hl, nd, mem, fun b o e => ?_⟩
      have hb0 : b < s.heap.objs.size := Heap.lt_size e
      have hb1 : b ≠ s.heap.objs.size := Nat.ne_of_lt hb0
      have hb2 : b ≠ (s.heap.push (freshS w)).objs.size := by
        rw [Heap.size_push]; exact Nat.ne_of_lt (Nat.lt_succ_of_lt hb0)
      exact hm.heap b o (by simp only [List.mem_cons, List.mem_singleton, List.not_mem_nil, or_false, not_or]; exact ⟨hb1, hb2⟩) (Heap.get?_push_of_some _ (Heap.get?_push_of_some _ e))
    · match r₂, hr₂ with
      | .error e, hr₂ => exact hr₂
      | .ok .next, hr₂ => exact hr₂.elim
      | .ok .brk, hr₂ => exact hr₂.elim
      | .ok .cont, hr₂ => exact hr₂.elim
      | .ok (.ret r), hr₂ =>
        obtain ⟨rfl, h', tk, l, rfl, hS', hl, nd, mem, hk'⟩ := hr₂
        repeat (any_goals (first | assumption | wp_step))
        exact h _ _ _ hS' hl nd mem hk'
end
end
theorem perm_of_sub {α : Type} [DecidableEq α] : ∀ (l ss : List α), l.Nodup → (∀ x ∈ l, x ∈ ss) → ss.length ≤ l.length → ss.Perm l
  | [], ss, _, _, h => by
    have : ss = [] := List.eq_nil_of_length_eq_zero (Nat.le_zero.mp h)
    rw [this]
  | x :: l, ss, nd, sub, h => by
    obtain ⟨n1, n2⟩ := List.nodup_cons.mp nd
    have hx := sub x List.mem_cons_self
    have p := List.perm_cons_erase hx
    refine p.trans (List.Perm.cons x (perm_of_sub l (ss.erase x) n2 (fun y hy => ?_) ?_))
    · exact (List.mem_erase_of_ne (fun z : y = x => n1 (z ▸ hy))).mpr (sub y (List.mem_cons_of_mem _ hy))
    · rw [List.length_erase_of_mem hx]
      rw [List.length_cons] at h
      omega
section
open PySem.Froz
section
variable {P : Program} {w : World} {A : Around} {E : Value → Shared → Prop} {s : Shared}
theorem sorted_setX {a : Addr} {l : List Str} {Q : Value → Shared → Prop} (R : SetX P w s.heap a l) (nd : l.Nodup) (hh : A.handled = none) (h64 : l.length < 64)
    (hQ : ∀ s' p (out : Array Value) (c : Nat) (ys : List Str), (∀ b o, s.heap.get? b = some o → s'.heap.get? b = some o) → s'.gens = s.gens → s'.os = s.os → s.heap.objs.size ≤ p →
      s'.heap.get? p = some (seqObj "list" out c) → StrsAre out.toList ys → ys.Perm l → sortedS ys = true → Q (.ref p) s') :
    wpAny (model P w) A (call (.builtin "sorted") [.ref a]) Q E s := by
  obtain ⟨⟨es, ep, t⟩, ho, F, ris, led⟩ := R
  have hsz : es.size = l.length := F.sz
  have hsb : es.size < scanBound := by unfold scanBound; omega
  refine Calls.call_function_entry kind_sorted plain_sorted entry_sorted (args_sorted1 _) ?_
  unfold Builtin.«sorted»
  refine wpAny_bind (m := checkCount "sorted" 1 1 _) (wpAny_pure ?_)
  refine wpAny_bind (collect_set (A := A.in1) hh ⟨_, ho, rfl, rfl⟩ F.fit hsb ris led fun s1 vs k1 hz g1 o1 pm => ?_)
  have str : ∀ v ∈ vs, ∃ x t, v = Value.str x t := fun v hv => by
    obtain ⟨e, he, rfl⟩ := List.mem_map.mp (pm.mem_iff.mp hv)
    obtain ⟨⟨k, hk, _⟩, _⟩ := F.el e he
    have hk : Value.isStrOf k e.2 = true := hk
    cases h : e.2 <;> rw [h] at hk <;> first | exact ⟨_, _, rfl⟩ | exact absurd hk (by simp [Value.isStrOf])
  have hS : StrsAre vs (vs.map strOf) := strsAre_map vs str
  have hvl : vs.length = l.length := by rw [pm.length_eq, List.length_map, Array.length_toList]; exact hsz
  have pl : (vs.map strOf).Perm l := by
    refine perm_of_sub l _ nd (fun k hk => ?_) (by rw [List.length_map, hvl]; exact Nat.le_refl _)
    obtain ⟨e, he, q⟩ := (F.mem k).mp hk
    have q : Value.isStrOf k e.2 = true := q
    have hm : e.2 ∈ vs := pm.mem_iff.mpr (List.mem_map.mpr ⟨e, he, rfl⟩)
    refine List.mem_map.mpr ⟨e.2, hm, ?_⟩
    obtain ⟨x, u, hx⟩ := str _ hm
    rw [hx] at q ⊢
    have : x = k := by simpa [Value.isStrOf] using q
    exact this
  refine wpAny_bind (wpAny_newList ?_ (by rw [hvl, sizeLine_eq]; omega))
  have hoL : (s1.heap.push (seqObj "list" vs.toArray 0)).get? s1.heap.objs.size = some (seqObj "list" vs.toArray 0) := Heap.get?_push_size _ rfl
  refine wpAny_bind (wpAny_holding (wpAny_call_entry slot_list_sort ⟨_, hoL, rfl⟩ entry_list_sort (list_sort_treeK strKind_oneLt hoL hS.keysOf (fun v₁ v₂ rest e => keyKind_strs (by rw [← e]; exact hS)) (by rw [hvl]; exact h64) fun st' a1 a2 => ⟨_, rfl, ?_⟩) (args_list_sort _)))
  obtain ⟨ys, b1, b2, b3⟩ := sorted_out_str hS a1 a2
  generalize (arrOf st').map (·.2) = out at b1 ⊢
  obtain ⟨c, hc⟩ := sortedHeap_at (vs := vs) (out := out) hoL
  refine wpAny_pure ⟨_, rfl, hQ _ s1.heap.objs.size out c ys (fun b u e => ?_) g1 o1 hz hc b1 (b2.trans pl) b3⟩
  have q := k1 b u e
  have hlt := Heap.lt_size q
  show (sortedHeap (s1.heap.push (seqObj "list" vs.toArray 0)) s1.heap.objs.size vs out).get? b = some u
  rw [sortedHeap_old (Nat.ne_of_lt hlt) (by rw [size_push']; exact Nat.lt_succ_of_lt hlt)]
  exact Heap.get?_push_of_some _ q
end
def SetXO (P : Program) (w : World) (a : Addr) (l : List Str) : HO := .ext fun h => SetX P w h a l
section
variable {X : Cx}
theorem setXO_new {w : World} {P : Program} {H : Hp} {h : Heap} {a : Addr} {l : List Str} (R : SetX P w h a l) : ObjOk P w H h a (SetXO P w a l) := by
  have ⟨D, ho, _⟩ := R
  exact ⟨R, ⟨_, ho⟩, fun h1 h2 p k => SetX.at p k⟩
def rSetX (P : Program) (w : World) : List V → Hp → VK → Prop := fun xs H Q => ∃ cs : List Nat, xs = [.str (tx cs)] ∧ cs.length < 64 ∧
  ∀ (a : Addr) (l : List Str), H a = none → l.Nodup → (∀ y, y ∈ l ↔ y ∈ cs.map ch) → l.length < 64 → Q (.ref a) (upd H a (SetXO P w a l))
theorem cr_setX (hc : X.calm = true) : CallR X (.type "set") (rSetX X.prog X.w) := by
  intro pins s σ H xs us Q I r h
  obtain ⟨cs, rfl, hz, q⟩ := h
  obtain ⟨u, rfl, t, rfl⟩ := vals1 r
  have hz' : (tx cs).cps.size = cs.length := rfl
  refine call_setX (P := X.prog) (w := X.w) (I.ok.hd hc) (by rw [hz']; unfold scanBound; omega) fun h' tk l R hl nd mem k => ?_
  exact ⟨.ref s.heap.objs.size, upd H s.heap.objs.size (SetXO X.prog X.w s.heap.objs.size l), I.laid (t' := tk) k (Nat.le_refl _) (setXO_new R), rfl, q _ l (I.hok.fresh (Nat.le_refl _)) nd mem (by omega)⟩
def rSortX (P : Program) (w : World) : List V → Hp → VK → Prop := fun vs H Q => ∃ (a : Addr) (l : List Str), vs = [V.ref a] ∧ H a = some (SetXO P w a l) ∧ l.Nodup ∧ l.length < 64 ∧
  ∀ (ys : List Str) (p : Addr), ys.Perm l → sortedS ys = true → H p = none → Q (.ref p) (upd H p (.lst (ys.map V.str)))
theorem cr_sortX (hc : X.calm = true) : CallR X (.builtin "sorted") (rSortX X.prog X.w) := by
  intro pins s σ H vs us Q I r h
  obtain ⟨a, l, rfl, ha, nd, h64, q⟩ := h
  have R : SetX X.prog X.w s.heap a l := (I.hok a _ ha).1
  rw [Vals.ref1 r]
  refine sorted_setX R nd (I.ok.hd hc) h64 fun s' p out c ys k g o hp hg hi hs hm => ?_
  have hlen : (ys.map V.str).length ≤ sizeLine := by rw [List.length_map, hs.length_eq, sizeLine_eq]; omega
  have hn : H p = none := I.hok.fresh hp
  have J : Inv X pins σ (upd H p (.lst (ys.map V.str))) { s with heap := s'.heap, gens := s'.gens, drawn := s'.drawn, toks := s'.toks } :=
    I.call (ch := []) (Un.laid k hp hn) (I.hok.laid k hp ⟨hlen, out.toList, c, vals_of_strs hi, hg⟩) (by rw [g]; exact I.bare) (fun _ z => nomatch z)
  have e : s' = { s with heap := s'.heap, gens := s'.gens, drawn := s'.drawn, toks := s'.toks } := by
    cases s'
    cases s
    cases o
    rfl
  rw [e]
  exact ⟨.ref p, _, J, rfl, q ys p hs hm hn⟩
end
end
/-! ### [*text, ..] -/
section
variable {X : Cx} {e : Expr} {es : List Expr} {te : TE} {t : TA} {p : Pos}
theorem pa_starS (hc : X.calm = true) (he : PE X e te) (hr : PA X es t) (hs : starEach (.Starred e p :: es) X.env = (true, eval e X.env) :: starEach es X.env := by rfl) :
    PA X (.Starred e p :: es) (fun σ H Q => te σ H fun x H1 => ∃ z : Str, x = .str z ∧ z.cps.size ≤ 1000 ∧ t σ H1 fun ys H2 => Q ((z.cps.toList.map fun c => V.str ⟨#[c]⟩) ++ ys) H2) := by
  refine ⟨fun pos pins s σ H Q I h => ?_⟩
  refine PySem.W.items_star (thn (he.run pins s σ H _ I h) fun v s1 ⟨y, H1, I1, ry, z, ey, hz, q⟩ => ?_) hs
  subst ey
  obtain ⟨tk, rfl⟩ := ry
  have step : wpAny (model X.prog X.w) X.A (collect (.str z tk)) (fun us s2 => wpAny (model X.prog X.w) X.A (spliced (backTo pos (starEach es X.env))) (fun vs s3 => ∃ xs H3, Inv X pins σ H3 s3 ∧ Vals xs (us ++ vs) ∧ Q xs H3) X.xe s2) X.xe s1 := by
    refine wpAny_collect_str (I1.ok.hd hc) z tk (fun s' acc hk hg hd ho hacc => ?_) (small hz)
    have e0 : s' = { s1 with heap := s'.heap, toks := s'.toks } := by
      cases s'
      cases s1
      simp_all
    have hv : Vals (z.cps.toList.map fun c => V.str ⟨#[c]⟩) acc.toList := vals_signs _ _ (by rw [Array.length_toList, Array.length_toList]; exact hacc.1) fun j v e => by
      obtain ⟨c, u, h1, h2⟩ := hacc.2 j v (by rw [← Array.getElem?_toList]; exact e)
      exact ⟨c, u, by rw [Array.getElem?_toList]; exact h1, h2⟩
    have I2 : Inv X pins σ H1 s' := by
      rw [e0]
      exact I1.kept hk
    exact thn (hr.run pos pins s' σ H1 _ I2 q) fun ws s3 ⟨vs, H3, I3, r3, q3⟩ => ⟨_, H3, I3, hv.append r3, q3⟩
  unfold PySem.W.StarOf notIterableAtAll
  exact wpAny_bind (wpAny_specialOf (typeIs_str s1 z tk) PySem.F.slot_str_iter.lookup (wpAny_pure ⟨rfl, step⟩))
end
/-! ### xs != [], xs == [] -/
section
variable {X : Cx}
theorem op_neL (hu : X.A.units < cLine) : OpR X (compareOp .NotEq) (fun x y H Q => ∃ a b xs, x = .ref a ∧ y = .ref b ∧ SqL X.K H a xs ∧ SqL X.K H b [] ∧ Q (.bl (!xs.isEmpty)) H) := by
  intro pins s σ H x y v u Q I rx ry h
  obtain ⟨a, b, xs, rfl, rfl, hx, hy, q⟩ := h
  cases rx
  cases ry
  obtain ⟨its, r1, t1, _⟩ := I.list hx
  obtain ⟨its2, r2, t2, _⟩ := I.list hy
  cases r2
  cases r1 with
  | nil =>
    have rc := SeqAt.RcNeAt.lists (A := X.A) (s := s) (items := ([] : List Value).toArray) (items2 := ([] : List Value).toArray) (e := fun _ => true) t1.isList t2.isList rfl hu (fun j h1 _ => absurd h1 (by simp))
    exact rc X.prog X.w X.xe _ ⟨.bl _, H, I, rfl, q⟩
  | cons _ _ =>
    have rc := SeqAt.RcNeAt.lists_lengths (A := X.A) (s := s) t1.isList t2.isList (by simp) hu
    exact rc X.prog X.w X.xe _ ⟨.bl _, H, I, rfl, q⟩
theorem cmpOf_ltS {prog : Program} {w : World} {A : Around} (x y : Str) (t u : Tok) :
    CmpOf prog w A .Lt (fun i v => (#[Value.str x t, Value.str y u])[i]? = some v) (fun i j => decide (([x, y].getD i x).cps.toList < ([x, y].getD j x).cps.toList)) := fun i j vi vj s Q E hi hj h => by
  have one : ∀ (i : Nat) (v : Value), (#[Value.str x t, Value.str y u])[i]? = some v → ∃ tk, v = .str ([x, y].getD i x) tk := fun i v e => by
    match i with
    | 0 => exact ⟨t, by simpa using e.symm⟩
    | 1 => exact ⟨u, by simpa using e.symm⟩
    | n + 2 => simp at e
  obtain ⟨t1, rfl⟩ := one i vi hi
  obtain ⟨t2, rfl⟩ := one j vj hj
  exact lt_str h
theorem cmpOf_gtS {prog : Program} {w : World} {A : Around} (x y : Str) (t u : Tok) :
    CmpOf prog w A .Gt (fun i v => (#[Value.str x t, Value.str y u])[i]? = some v) (fun i j => decide (([x, y].getD j x).cps.toList < ([x, y].getD i x).cps.toList)) := fun i j vi vj s Q E hi hj h => by
  have one : ∀ (i : Nat) (v : Value), (#[Value.str x t, Value.str y u])[i]? = some v → ∃ tk, v = .str ([x, y].getD i x) tk := fun i v e => by
    match i with
    | 0 => exact ⟨t, by simpa using e.symm⟩
    | 1 => exact ⟨u, by simpa using e.symm⟩
    | n + 2 => simp at e
  obtain ⟨t1, rfl⟩ := one i vi hi
  obtain ⟨t2, rfl⟩ := one j vj hj
  exact PySem.P.gt_str h
theorem argBest1 (bt : Nat → Nat → Bool) : argBest bt 1 = if bt 1 0 = true then 1 else 0 := rfl
theorem max_two_str {prog : Program} {w : World} {A : Around} {E : Value → Shared → Prop} {s : Shared} {Q : Value → Shared → Prop} {x y : Str} {t u : Tok} (hh : A.handled = none)
    (h : ∀ h' tk, (∀ c o, s.heap.get? c = some o → h'.get? c = some o) → Q (if x.cps.toList < y.cps.toList then .str y u else .str x t) { s with heap := h', toks := tk }) :
    wpAny (model prog w) A (call (.builtin "max") [.str x t, .str y u]) Q E s := by
  have hT : (s.heap.push { cls := .type "tuple", data := .seq #[.str x t, .str y u] }).IsTuple s.heap.objs.size #[.str x t, .str y u] := ⟨_, Heap.get?_push_size _ rfl, rfl, 0, rfl⟩
  refine call_max_two (wpAny_pyIter_tuple hT ?_)
  have hsz : (s.heap.push { cls := .type "tuple", data := .seq #[.str x t, .str y u] }).objs.size = s.heap.objs.size + 1 := Heap.size_push ..
  refine ⟨_, [_, s.heap.objs.size], [_], _, _, _, _, rfl, Walks.tuple (A := A.in1) hh _ s.heap.objs.size (by rw [hsz]; exact Nat.ne_of_lt (Nat.lt_succ_self _)) #[.str x t, .str y u],
    ⟨⟨_, Heap.get?_push_size _ rfl, rfl, rfl⟩, hT.push _⟩, fun c hc => ?_, by simp, cmpOf_gtS x y t u, fun v h' tk hP hk => ?_⟩
  · show c < ((s.heap.push _).push _).objs.size
    rw [Heap.size_push, hsz]
    rcases List.mem_cons.mp hc with rfl | hc
    · rw [hsz]; exact Nat.lt_succ_self _
    · rcases List.mem_cons.mp hc with rfl | hc
      · exact Nat.lt_succ_of_lt (Nat.lt_succ_self _)
      · cases hc
  · have hold : ∀ c o, s.heap.get? c = some o → h'.get? c = some o := fun c o e => by
      refine hk c o (fun hm => ?_) (Heap.get?_push_of_some _ (Heap.get?_push_of_some _ e))
      rcases List.mem_cons.mp hm with e1 | hm
      · have := Heap.lt_size e; rw [e1, hsz] at this; exact Nat.lt_irrefl _ (Nat.lt_of_succ_lt this)
      · cases hm
    have := h h' tk hold
    have hv : v = if x.cps.toList < y.cps.toList then .str y u else .str x t := by
      rw [show #[Value.str x t, Value.str y u].size - 1 = 1 from rfl, argBest1] at hP
      replace hP : #[Value.str x t, Value.str y u][if decide (x.cps.toList < y.cps.toList) = true then 1 else 0]? = some v := hP
      by_cases hc : x.cps.toList < y.cps.toList
      · rw [if_pos (decide_eq_true hc)] at hP
        rw [if_pos hc]
        exact (Option.some.inj hP).symm
      · rw [if_neg (fun z => hc (of_decide_eq_true z))] at hP
        rw [if_neg hc]
        exact (Option.some.inj hP).symm
    rw [hv]; exact this
theorem min_two_str {prog : Program} {w : World} {A : Around} {E : Value → Shared → Prop} {s : Shared} {Q : Value → Shared → Prop} {x y : Str} {t u : Tok} (hh : A.handled = none)
    (h : ∀ h' tk, (∀ c o, s.heap.get? c = some o → h'.get? c = some o) → Q (if y.cps.toList < x.cps.toList then .str y u else .str x t) { s with heap := h', toks := tk }) :
    wpAny (model prog w) A (call (.builtin "min") [.str x t, .str y u]) Q E s := by
  have hT : (s.heap.push { cls := .type "tuple", data := .seq #[.str x t, .str y u] }).IsTuple s.heap.objs.size #[.str x t, .str y u] := ⟨_, Heap.get?_push_size _ rfl, rfl, 0, rfl⟩
  refine call_min_two (wpAny_pyIter_tuple hT ?_)
  have hsz : (s.heap.push { cls := .type "tuple", data := .seq #[.str x t, .str y u] }).objs.size = s.heap.objs.size + 1 := Heap.size_push ..
  refine ⟨_, [_, s.heap.objs.size], [_], _, _, _, _, rfl, Walks.tuple (A := A.in1) hh _ s.heap.objs.size (by rw [hsz]; exact Nat.ne_of_lt (Nat.lt_succ_self _)) #[.str x t, .str y u],
    ⟨⟨_, Heap.get?_push_size _ rfl, rfl, rfl⟩, hT.push _⟩, fun c hc => ?_, by simp, cmpOf_ltS x y t u, fun v h' tk hP hk => ?_⟩
  · show c < ((s.heap.push _).push _).objs.size
    rw [Heap.size_push, hsz]
    rcases List.mem_cons.mp hc with rfl | hc
    · rw [hsz]; exact Nat.lt_succ_self _
    · rcases List.mem_cons.mp hc with rfl | hc
      · exact Nat.lt_succ_of_lt (Nat.lt_succ_self _)
      · cases hc
  · have hold : ∀ c o, s.heap.get? c = some o → h'.get? c = some o := fun c o e => by
      refine hk c o (fun hm => ?_) (Heap.get?_push_of_some _ (Heap.get?_push_of_some _ e))
      rcases List.mem_cons.mp hm with e1 | hm
      · have := Heap.lt_size e; rw [e1, hsz] at this; exact Nat.lt_irrefl _ (Nat.lt_of_succ_lt this)
      · cases hm
    have := h h' tk hold
    have hv : v = if y.cps.toList < x.cps.toList then .str y u else .str x t := by
      rw [show #[Value.str x t, Value.str y u].size - 1 = 1 from rfl, argBest1] at hP
      replace hP : #[Value.str x t, Value.str y u][if decide (y.cps.toList < x.cps.toList) = true then 1 else 0]? = some v := hP
      by_cases hc : y.cps.toList < x.cps.toList
      · rw [if_pos (decide_eq_true hc)] at hP
        rw [if_pos hc]
        exact (Option.some.inj hP).symm
      · rw [if_neg (fun z => hc (of_decide_eq_true z))] at hP
        rw [if_neg hc]
        exact (Option.some.inj hP).symm
    rw [hv]; exact this
theorem call_max2S (hc : X.calm = true) : CallR X (.builtin "max") (fun xs H Q => ∃ a b : Nat, xs = [.str (ch a), .str (ch b)] ∧ Q (.str (ch (max a b))) H) := by
  intro pins s σ H xs us Q I r h
  obtain ⟨a, b, rfl, q⟩ := h
  obtain ⟨u, w', rfl, ⟨t, rfl⟩, ⟨t', rfl⟩⟩ := vals2 r
  refine max_two_str (I.ok.hd hc) fun h' tk k => ⟨_, H, I.kept k, ?_, q⟩
  have e : ((ch a).cps.toList < (ch b).cps.toList) ↔ a < b := by
    have := ch_lt a b
    simpa using this
  by_cases hj : a < b
  · rw [if_pos (e.mpr hj), Nat.max_eq_right (Nat.le_of_lt hj)]; exact ⟨_, rfl⟩
  · rw [if_neg (fun z => hj (e.mp z)), Nat.max_eq_left (by omega)]; exact ⟨_, rfl⟩
theorem call_min2S (hc : X.calm = true) : CallR X (.builtin "min") (fun xs H Q => ∃ a b : Nat, xs = [.str (ch a), .str (ch b)] ∧ Q (.str (ch (min a b))) H) := by
  intro pins s σ H xs us Q I r h
  obtain ⟨a, b, rfl, q⟩ := h
  obtain ⟨u, w', rfl, ⟨t, rfl⟩, ⟨t', rfl⟩⟩ := vals2 r
  refine min_two_str (I.ok.hd hc) fun h' tk k => ⟨_, H, I.kept k, ?_, q⟩
  have e : ((ch b).cps.toList < (ch a).cps.toList) ↔ b < a := by
    have := ch_lt b a
    simpa using this
  by_cases hj : b < a
  · rw [if_pos (e.mpr hj), Nat.min_eq_right (Nat.le_of_lt hj)]; exact ⟨_, rfl⟩
  · rw [if_neg (fun z => hj (e.mp z)), Nat.min_eq_left (by omega)]; exact ⟨_, rfl⟩
end
/-! ### the deck -/
structure Deck where
  dk : Addr
  ca : Addr
  ra : Addr
structure DeckOk (H : Hp) (D : Deck) (n : Nat) : Prop where
  ex : ∃ cells rests : List Int, H D.dk = some (.lst [.ref D.ca, .int (n : Int), .ref D.ra]) ∧ H D.ca = some (.lst (cells.map V.int)) ∧ H D.ra = some (.lst (rests.map V.int)) ∧ 0 < cells.length ∧ rests.length = cells.length ∧ cells.length ≤ 60
  dc : D.dk ≠ D.ca
  dr : D.dk ≠ D.ra
  cr : D.ca ≠ D.ra
/-- all stands still but the deck's list and its rests -/
def SameD (D : Deck) (H H' : Hp) : Prop := ∀ b o, b ≠ D.dk → b ≠ D.ra → H b = some o → H' b = some o
theorem SameD.refl (D : Deck) (H : Hp) : SameD D H H := fun _ _ _ _ h => h
theorem SameD.trans {D : Deck} {H H1 H2 : Hp} (a : SameD D H H1) (b : SameD D H1 H2) : SameD D H H2 := fun c o h1 h2 h => b c o h1 h2 (a c o h1 h2 h)
theorem SameD.of {D : Deck} {H H' : Hp} (h : Same H H') : SameD D H H' := fun b o _ _ e => h b o e
theorem DeckOk.lists {H : Hp} {D : Deck} {n : Nat} (d : DeckOk H D n) : (∃ xs, H D.dk = some (.lst xs)) ∧ (∃ xs, H D.ra = some (.lst xs)) := by
  obtain ⟨c, r, h1, _, h3, _⟩ := d.ex
  exact ⟨⟨_, h1⟩, ⟨_, h3⟩⟩
theorem SameD.keepT {D : Deck} {H H' : Hp} {n : Nat} (h : SameD D H H') (d : DeckOk H D n) : KeepT H H' := fun b xs e => by
  obtain ⟨⟨x1, h1⟩, ⟨x2, h2⟩⟩ := d.lists
  exact h b _ (ne_of e h1 (by intro z; cases z)) (ne_of e h2 (by intro z; cases z)) e
theorem SameD.free {D : Deck} {H H' : Hp} {n : Nat} (h : SameD D H H') (d : DeckOk H' D n) {p : Addr} (e : H' p = none) : H p = none := by
  obtain ⟨⟨x1, h1⟩, ⟨x2, h2⟩⟩ := d.lists
  have n1 : p ≠ D.dk := fun z => by rw [z, h1] at e; cases e
  have n2 : p ≠ D.ra := fun z => by rw [z, h2] at e; cases e
  cases q : H p with
  | none => rfl
  | some o =>
    rw [h p o n1 n2 q] at e
    cases e
theorem DeckOk.same {H H' : Hp} {D : Deck} {n : Nat} (d : DeckOk H D n) (h : Same H H') : DeckOk H' D n := by
  obtain ⟨c, r, h1, h2, h3, h4⟩ := d.ex
  exact ⟨⟨c, r, h _ _ h1, h _ _ h2, h _ _ h3, h4⟩, d.dc, d.dr, d.cr⟩
structure Off (D : Deck) (p : Addr) : Prop where
  dk : p ≠ D.dk
  ca : p ≠ D.ca
  ra : p ≠ D.ra
theorem DeckOk.new {H : Hp} {D : Deck} {n : Nat} (d : DeckOk H D n) {p : Addr} (e : H p = none) : Off D p := by
  obtain ⟨c, r, h1, h2, h3, _⟩ := d.ex
  refine ⟨fun z => ?_, fun z => ?_, fun z => ?_⟩
  · rw [z, h1] at e
    cases e
  · rw [z, h2] at e
    cases e
  · rw [z, h3] at e
    cases e
theorem DeckOk.put {H : Hp} {D : Deck} {n : Nat} (d : DeckOk H D n) {p : Addr} (f : Off D p) (o : HO) : DeckOk (upd H p o) D n := by
  obtain ⟨c, r, h1, h2, h3, h4⟩ := d.ex
  exact ⟨⟨c, r, by rw [upd_ne f.dk.symm]; exact h1, by rw [upd_ne f.ca.symm]; exact h2, by rw [upd_ne f.ra.symm]; exact h3, h4⟩, d.dc, d.dr, d.cr⟩
theorem SameD.put {D : Deck} {H H' : Hp} {p : Addr} (s : SameD D H H') (e : H p = none) (o : HO) : SameD D H (upd H' p o) := fun b u h1 h2 h => by
  rw [upd_ne (ne_of_none h e)]
  exact s b u h1 h2 h
theorem SameD.at {D : Deck} {H H' : Hp} {p : Addr} {o : HO} (s : SameD D H H') (f : Off D p) (e : H p = some o) : H' p = some o := s p o f.dk f.ra e
theorem modB (z p : Int) (h0 : 0 < p) : 0 ≤ z % p ∧ z % p < p := ⟨Int.emod_nonneg z (by omega), Int.emod_lt_of_pos z h0⟩
def spDraw : Sp := fun vs H Q _ => ∃ (D : Deck) (n : Nat) (m : Int), vs = [.ref D.dk, .int m] ∧ DeckOk H D n ∧ n ≤ 1000000 ∧ 0 < m ∧ m < 10000000000000000000000000000000 ∧ ∀ (i : Int) (H' : Hp), 0 ≤ i → i < m → DeckOk H' D (n + 1) → SameD D H H' → Q (.int i) H'
theorem sq_le {n : Nat} (h : n ≤ 1000000) : 75025 * (n : Int) * (n : Int) ≤ 75025000000000000 ∧ 0 ≤ 75025 * (n : Int) * (n : Int) := by
  have h1 : (n : Int) * (n : Int) ≤ 1000000 * 1000000 := Int.mul_le_mul (by omega) (by omega) (by omega) (by omega)
  have h0 : 0 ≤ (n : Int) * (n : Int) := Int.mul_nonneg (by omega) (by omega)
  rw [Int.mul_assoc]
  omega
section
variable {P : Program} {w : World} {K : PySem.W.Frag} {mg : Str → Option Value} {base : Heap} {f : Addr} {fd : FuncData}
theorem ok_draw {k : Nat} (F : Fun K "_law_draw" "_law_draw" s__law_draw f fd) (M : Mgs mg) : FnOk P w K mg base CX0 (k + 1) f fd ["_law_deck_here", "_law_many"] spDraw := by
  refine F.ok sc__law_draw (fun vs H Q E h => ?_) (fun cdv A outer s H vs Q E hr h => ?_)
  · obtain ⟨D, n, m, rfl, _⟩ := h
    rfl
  obtain ⟨D, n, m, rfl, d, hn, m0, m1, q⟩ := h
  obtain ⟨cells, rests, e1, e2, e3, c0, cr, c1⟩ := d.ex
  refine ⟨_, (pss_cons (ps_asg (pv 0) (pg_unl rfl (pgs_cons (pg_name (i := 2) sc__law_draw.nd rfl (.inl rfl)) (pgs_cons (pg_name (i := 3) sc__law_draw.nd rfl (.inl rfl)) (pgs_cons (pg_name (i := 4) sc__law_draw.nd rfl (.inl rfl)) pgs_nil)))))
    (pss_cons (ps_set (i := 5) sc__law_draw.nd rfl (.inl rfl) (pe_op op_mod (pv 3) (pe_callB call_len_seq rfl M.len PySem.boot_len (pa_cons (pv 2) pa_nil))))
    (pss_cons (ps_asg (pe_op op_add (pv 3) pe_int) (pg_sub (pv 0) pe_int set_list))
    (pss_cons (ps_if (pt_cmpR op_gt (pe_ix ix_list (pv 4) (pv 5) (fun _ _ => rfl)) pe_int (nomark _))
      (pss_cons (ps_set (i := 6) sc__law_draw.nd rfl (.inl rfl) (pe_ix ix_list (pv 4) (pv 5) (fun _ _ => rfl)))
    (pss_cons (ps_asg (pe_op op_fdivW (pv 6) (pv 1)) (pg_sub (pv 4) (pv 5) set_list))
    (pss_one (ps_ret (pe_op op_mod (pv 6) (pv 1)))))) pss_nil)
    (pss_cons (ps_set (i := 7) sc__law_draw.nd rfl (.inl rfl) (pe_op op_add (pe_op op_mod (pe_ix ix_list (pv 2) (pv 5) (fun _ _ => rfl)) pe_int) (pe_op op_mul (pe_op op_mul pe_int (pv 3)) (pv 3))))
    (pss_cons (ps_set (i := 7) sc__law_draw.nd rfl (.inl rfl) (pe_op op_mod (pe_op op_pow (pe_op op_add (pe_op op_add (pv 7) (pe_op op_mul pe_int (pv 3))) pe_int) pe_int) pe_int))
    (pss_cons (ps_set (i := 7) sc__law_draw.nd rfl (.inl rfl) (pe_op op_mod (pe_op op_pow (pe_op op_add (pv 7) (pe_op op_mul pe_int (pv 3))) pe_int) pe_int))
    (pss_one (ps_ret (pe_op op_mod (pe_op op_fdiv (pv 7) pe_int) (pv 1))))))))))), ?_⟩
  refine ⟨_, rfl, D.dk, _, rfl, SqL.of e1, rfl, _, _, rfl, _, _, rfl, _, _, rfl, rfl, ?_⟩
  have cl : ((cells.map V.int).length : Int) = (cells.length : Int) := by rw [List.length_map]
  refine ⟨_, rfl, _, rfl, D.ca, _, rfl, .inl (SqL.of e2), _, _, rfl, rfl, (by show (0 : Int) < ((cells.map V.int).length : Int); rw [cl]; omega), ?_⟩
  have i0 : 0 ≤ (n : Int) % ((cells.map V.int).length : Int) := Int.emod_nonneg _ (by rw [cl]; omega)
  have i1 : (n : Int) % ((cells.map V.int).length : Int) < (cells.length : Int) := by
    rw [cl]
    exact Int.emod_lt_of_pos _ (by omega)
  refine ⟨_, rfl, _, _, rfl, rfl, _, rfl, D.dk, _, _, 1, rfl, rfl, e1, rfl, ?_⟩
  have x2 : (upd H D.dk (.lst [.ref D.ca, .int ((n : Int) + 1), .ref D.ra])) D.ca = some (.lst (cells.map V.int)) := by rw [upd_ne d.dc.symm]; exact e2
  have x3 : (upd H D.dk (.lst [.ref D.ca, .int ((n : Int) + 1), .ref D.ra])) D.ra = some (.lst (rests.map V.int)) := by rw [upd_ne d.dr.symm]; exact e3
  have x1 : (upd H D.dk (.lst [.ref D.ca, .int ((n : Int) + 1), .ref D.ra])) D.dk = some (.lst [.ref D.ca, .int ((n + 1 : Nat) : Int), .ref D.ra]) := upd_same
  have sd : SameD D H (upd H D.dk (.lst [.ref D.ca, .int ((n : Int) + 1), .ref D.ra])) := fun b o h1 _ e => by rw [upd_ne h1]; exact e
  have rl : ((rests.map V.int).length : Int) = (cells.length : Int) := by rw [List.length_map, cr]
  have l1 : ((n : Int) % ((cells.map V.int).length : Int)).toNat < rests.length := by omega
  have l2 : ((n : Int) % ((cells.map V.int).length : Int)).toNat < cells.length := by omega
  have a1 := at_map (f := V.int) i0 (List.getElem?_eq_getElem l1)
  have a2 := at_map (f := V.int) i0 (List.getElem?_eq_getElem l2)
  refine ⟨_, rfl, _, rfl, D.ra, _, _, _, rfl, rfl, SqL.of x3, a1, _, _, rfl, rfl, _, rfl, ite2 (fun _ => ?_) (fun _ => ?_)⟩
  · refine ⟨_, rfl, _, rfl, D.ra, _, _, _, rfl, rfl, SqL.of x3, a1, ?_⟩
    refine ⟨_, rfl, _, rfl, _, _, rfl, rfl, wide_div (b := 110) m0 (Nat.lt_of_lt_of_le (show m.natAbs < 10000000000000000000000000000000 by omega) (by decide)) (by decide) (by decide), ?_⟩
    refine ⟨_, rfl, _, rfl, D.ra, _, _, _, rfl, rfl, x3, ixN_nat i0 (by rw [rl]; exact i1), ?_⟩
    refine ⟨_, rfl, _, rfl, _, _, rfl, rfl, m0, ?_⟩
    refine q _ _ (Int.emod_nonneg _ (by omega)) (Int.emod_lt_of_pos _ m0) ⟨⟨cells, rests.set ((n : Int) % ((cells.map V.int).length : Int)).toNat (rests[((n : Int) % ((cells.map V.int).length : Int)).toNat] / m), ?_, ?_, ?_, c0, ?_, c1⟩, d.dc, d.dr, d.cr⟩ ?_
    · rw [upd_ne d.dr]; exact x1
    · rw [upd_ne d.cr]; exact x2
    · rw [upd_same, List.map_set]
    · rw [List.length_set]; exact cr
    · exact sd.trans fun b o _ h2 e => by rw [upd_ne h2]; exact e
  · have b1 := modB cells[((n : Int) % ((cells.map V.int).length : Int)).toNat] 2147483563 (by decide)
    have b2 := sq_le hn
    refine ⟨_, rfl, _, rfl, D.ca, _, _, _, rfl, rfl, SqL.of x2, a2, _, _, rfl, rfl, (show (0 : Int) < 2147483563 by decide), _, rfl, _, _, rfl, rfl, .inl ⟨by decide, by decide⟩, _, rfl, _, _, rfl, rfl, .inr ⟨by omega, by omega⟩, _, _, rfl, rfl, ?_⟩
    refine ⟨_, rfl, _, rfl, _, _, rfl, rfl, .inl ⟨by decide, by decide⟩, _, _, rfl, rfl, _, _, rfl, rfl, _, _, rfl, rfl, ⟨by decide, by decide, by omega⟩, _, _, rfl, rfl, (show (0 : Int) < 2305843009213693921 by decide), ?_⟩
    generalize (cells[((n : Int) % ((cells.map V.int).length : Int)).toNat] % 2147483563 + 75025 * (n : Int) * (n : Int) + 10946 * (n : Int) + 53) ^ Int.toNat 3 = y1
    have b3 := modB y1 2305843009213693921 (by decide)
    refine ⟨_, rfl, _, rfl, _, _, rfl, rfl, .inl ⟨by decide, by decide⟩, _, _, rfl, rfl, _, _, rfl, rfl, ⟨by decide, by decide, by omega⟩, _, _, rfl, rfl, (show (0 : Int) < 2305843009213693951 by decide), ?_⟩
    refine ⟨_, rfl, _, _, rfl, rfl, ⟨by decide, by decide⟩, _, rfl, _, _, rfl, rfl, m0, ?_⟩
    exact q _ _ (Int.emod_nonneg _ (by omega)) (Int.emod_lt_of_pos _ m0) ⟨⟨cells, rests, x1, x2, x3, c0, cr, c1⟩, d.dc, d.dr, d.cr⟩ sd
end
/-! ### _law_deck -/
theorem rep_flat {α : Type} (a : α) : ∀ m : Nat, (List.replicate m [a]).flatten = List.replicate m a
  | 0 => rfl
  | m + 1 => by
    rw [List.replicate_succ, List.replicate_succ, List.flatten_cons, rep_flat a m]
    rfl
def spDeck (K : PySem.W.Frag) : Sp := fun vs H Q _ => ∃ (a : Addr) (ns : List Int), vs = [.ref a] ∧ SqL K H a (ns.map V.int) ∧ ∀ (D : Deck) (H' : Hp), DeckOk H' D 0 → Same H H' → Q (.ref D.dk) H'
section
variable {P : Program} {w : World} {K : PySem.W.Frag} {mg : Str → Option Value} {base : Heap} {f : Addr} {fd : FuncData}
theorem ok_deck {k : Nat} (F : Fun K "_law_deck" "_law_deck" s__law_deck f fd) (M : Mgs mg) : FnOk P w K mg base CX0 (k + 1) f fd ["_law_script"] (spDeck K) := by
  refine F.ok sc__law_deck (fun vs H Q E h => ?_) (fun cdv A outer s H vs Q E hr h => ?_)
  · obtain ⟨a, ns, rfl, _⟩ := h
    rfl
  obtain ⟨a, ns, rfl, hS, q⟩ := h
  refine ⟨_, (pss_cons (ps_set (i := 1) sc__law_deck.nd rfl (.inl rfl) (pe_op op_cat (pe_callTy call_list_of rfl M.list (by decide +kernel) (pa_cons (pe_slice sl_list (pv 0) po_none (po_some pe_int)) pa_nil)) (pe_op op_rep (pe_lst (pa_cons pe_int pa_nil)) (pe_callTy call_int1 rfl M.int (by decide +kernel) (pa_cons (pe_cmpR op_eq (pe_callB call_len_seq rfl M.len PySem.boot_len (pa_cons (pv 0) pa_nil)) pe_int (nomark _)) pa_nil)))))
    (pss_one (ps_ret (pe_lst (pa_cons (pv 1) (pa_cons pe_int (pa_cons (pe_lc (own := [("_law_cell", 2)]) (g := gName 2) (tt := tYes) rfl sc__law_deck.nd (pi_list (pv 1)) (blkOk_by (N := ["_law_script", "_law_cells", "_law_cell"]) (sc := defScope s__law_deck) (by decide +kernel)) (fun _ _ _ _ _ => (pg_name (i := 2) sc__law_deck.nd rfl (.inl rfl))) (fun _ _ _ _ _ => pts_nil) (fun _ _ _ _ _ => (pe_op op_mul (pv 2) (pe_callTy call_int1 rfl M.int (by decide +kernel) (pa_cons (pe_cmpR op_ge (pv 2) (pe_op op_pow pe_int pe_int) (nomark _)) pa_nil))))) pa_nil))))))), ?_⟩
  refine ⟨.ref a, rfl, 60, rfl, a, ns.map V.int, rfl, hS, fun c nc => ?_⟩
  rw [show (60 : Int) = ((60 : Nat) : Int) from rfl, cut_to, ← List.map_take]
  have s1 := same_new nc (.lst ((ns.take 60).map V.int))
  have ec := upd_same (H := H) (a := c) (o := .lst ((ns.take 60).map V.int))
  generalize upd H c (.lst ((ns.take 60).map V.int)) = H1 at s1 ec
  refine ⟨c, _, rfl, .inl (SqL.of ec), fun c2 nc2 => ?_⟩
  have s2 := same_new nc2 (.lst ((ns.take 60).map V.int))
  have ec2 := upd_same (H := H1) (a := c2) (o := .lst ((ns.take 60).map V.int))
  generalize upd H1 c2 (.lst ((ns.take 60).map V.int)) = H2 at s2 ec2
  refine ⟨(by show 1 ≤ sizeLine; decide), fun z nz => ?_⟩
  have s3 := same_new nz (.lst [.int 6])
  have ez := upd_same (H := H2) (a := z) (o := .lst [.int 6])
  have ec3 := s3 _ _ ec2
  generalize upd H2 z (.lst [.int 6]) = H3 at s3 ez ec3
  have sH := (s1.trans s2).trans s3
  refine ⟨.ref a, rfl, a, _, rfl, .inl (sH.seq hS), rfl, .inr ⟨_, rfl, z, _, _, rfl, rfl, ez, ?_, ?_, ?_, fun y ny => ?_⟩⟩
  · split <;> decide
  · split <;> decide
  · split <;> decide
  have s4 := same_new ny (.lst (List.replicate (Int.toNat (if decide (V.int ((ns.map V.int).length : Int) = V.int 0) = true then 1 else 0)) [V.int 6]).flatten)
  obtain ⟨ex, hex, hexl⟩ : ∃ ex : List Int, (List.replicate (Int.toNat (if decide (V.int ((ns.map V.int).length : Int) = V.int 0) = true then 1 else 0)) [V.int 6]).flatten = ex.map V.int ∧ 0 < (ns.take 60).length + ex.length ∧ (ns.take 60).length + ex.length ≤ 60 := by
    by_cases h0 : ns.length = 0
    · refine ⟨[6], ?_, Nat.succ_pos _, ?_⟩
      · rw [show (decide (V.int ((ns.map V.int).length : Int) = V.int 0)) = true by rw [List.length_map, h0]; rfl]
        rfl
      · rw [List.length_take, h0]
        decide
    · refine ⟨[], ?_, ?_, ?_⟩
      · rw [show (decide (V.int ((ns.map V.int).length : Int) = V.int 0)) = false by
          apply decide_eq_false
          intro z
          have z' := V.int.inj z
          rw [List.length_map] at z'
          omega]
        rfl
      · rw [List.length_take, List.length_nil]; omega
      · rw [List.length_take, List.length_nil]; omega
  refine ⟨c2, y, _, _, rfl, rfl, s4 _ _ ec3, upd_same, ?_, fun p np => ?_⟩
  · rw [hex, List.length_map, List.length_map]
    exact small (by omega)
  have s5 := same_new np (.lst ((ns.take 60).map V.int ++ (List.replicate (Int.toNat (if decide (V.int ((ns.map V.int).length : Int) = V.int 0) = true then 1 else 0)) [V.int 6]).flatten))
  have s6 := sH.trans (s4.trans s5)
  refine ⟨.ref p, rfl, _, rfl, p, rfl, ⟨_, SqL.of upd_same⟩, fun r nr => ?_⟩
  rw [hex, ← List.map_append] at s5 s6 nr ⊢
  generalize hH2 : upd (upd H3 y (.lst (ex.map V.int))) p (.lst ((ns.take 60 ++ ex).map V.int)) = H4 at s5 s6 nr ⊢
  have ep : H4 p = some (.lst ((ns.take 60 ++ ex).map V.int)) := by rw [← hH2]; exact upd_same
  have hpr : p ≠ r := ne_of_none ep nr
  refine lc_list (K := K) (a := p) (xs := (ns.take 60 ++ ex).map V.int) (fun i H' => Same H4 H' ∧ ∃ ys : List Int, ys.length = i ∧ H' r = some (.lst (ys.map V.int))) ⟨same_new nr _, [], rfl, upd_same⟩ (fun i H' _ hp => SqL.of (hp.1 _ _ ep)) (fun i x H' hx hp => ?_) (fun H5 hp => ?_)
  · obtain ⟨sm, ys, hy, hd⟩ := hp
    rw [List.getElem?_map] at hx
    obtain ⟨v, hv, rfl⟩ := Option.map_eq_some_iff.mp hx
    have hi : i < 61 := by
      have := (List.getElem?_eq_some_iff.mp hv).1
      rw [List.length_append] at this
      omega
    refine ⟨rfl, kept ?_⟩
    refine ⟨_, rfl, _, rfl, _, _, rfl, rfl, ⟨by decide, by decide, by decide⟩, _, _, rfl, rfl, .inr ⟨_, rfl, _, _, rfl, rfl, .inr ?_, _, hd, by rw [List.length_map]; exact small1000 (by omega), fun b o e => ?_, ys ++ [v * (if decide (v ≥ (10 : Int) ^ Int.toNat 18) = true then 1 else 0)], by rw [List.length_append, hy]; rfl, ?_⟩⟩
    · split <;> decide
    · rw [upd_ne (ne_of_none e nr)]
      exact sm _ _ e
    · rw [upd_same, List.map_append]
      rfl
  · obtain ⟨sm, ys, hy, hd⟩ := hp
    refine ⟨(by show 3 ≤ sizeLine; decide), fun t nt => ?_⟩
    have s9 := same_new nt (.lst [.ref p, .int 0, .ref r])
    have ep3 := sm _ _ ep
    refine q ⟨t, p, r⟩ _ ⟨⟨ns.take 60 ++ ex, ys, upd_same, s9 _ _ ep3, s9 _ _ hd, ?_, ?_, ?_⟩, (ne_of_none ep3 nt).symm, (ne_of_none hd nt).symm, hpr⟩ (s6.trans (sm.trans s9))
    · rw [List.length_append]; omega
    · rw [hy, List.length_map]
    · rw [List.length_append]; omega
end
/-! ### _law_pick, _law_mixed -/
abbrev vc (c : Nat) : V := .str (ch c)
abbrev vt (z : List Nat) : V := .str (tx z)
theorem at_ge {α : Type} {xs : List α} {i : Int} (h0 : 0 ≤ i) (h : i.toNat < xs.length) : atI xs i = some xs[i.toNat] := by
  have e := atI_nat (xs := xs) (j := i.toNat) (List.getElem?_eq_getElem h)
  rwa [Int.toNat_of_nonneg h0] at e
theorem erase_perm {α : Type} : ∀ {l : List α} {i : Nat} (h : i < l.length), List.Perm (l[i] :: l.eraseIdx i) l
  | x :: l, 0, _ => List.Perm.refl _
  | x :: l, i + 1, h => by
    have := erase_perm (l := l) (i := i) (Nat.lt_of_succ_lt_succ h)
    show List.Perm (l[i]'(Nat.lt_of_succ_lt_succ h) :: x :: l.eraseIdx i) (x :: l)
    exact (List.Perm.swap _ _ _).trans (this.cons x)
def spPick (K : PySem.W.Frag) : Sp := fun vs H Q _ => ∃ (D : Deck) (n : Nat) (v : V), vs = [.ref D.dk, v] ∧ DeckOk H D n ∧ n ≤ 1000000 ∧
  ((∃ ls : List Nat, v = vt ls ∧ ls ≠ [] ∧ ls.length ≤ 60 ∧ ∀ (c : Nat) (H' : Hp), c ∈ ls → DeckOk H' D (n + 1) → SameD D H H' → Q (vc c) H') ∨
   (∃ (a : Addr) (xs : List V), v = .ref a ∧ H a = some (.lst xs) ∧ Off D a ∧ xs ≠ [] ∧ xs.length ≤ 60 ∧ ∀ (x : V) (H' : Hp), x ∈ xs → DeckOk H' D (n + 1) → SameD D H H' → Q x H'))
section
variable {P : Program} {w : World} {K : PySem.W.Frag} {mg : Str → Option Value} {base : Heap} {f : Addr} {fd : FuncData}
theorem ok_pick {k : Nat} (F : Fun K "_law_pick" "_law_pick" s__law_pick f fd) (M : Mgs mg) (D_law_draw : Df P w K mg base (k + 1) "_law_draw" ["_law_deck_here", "_law_many"] spDraw) : FnOk P w K mg base CX0 (k + 2) f fd ["_law_deck_here", "_law_items"] (spPick K) := by
  refine F.ok sc__law_pick (fun vs H Q E h => ?_) (fun cdv A outer s H vs Q E hr h => ?_)
  · obtain ⟨D, n, v, rfl, _⟩ := h
    rfl
  obtain ⟨D, n, v, rfl, d, hn, hc⟩ := h
  refine ⟨_, (pss_one (ps_ret (pe_ix ix_seq (pv 1) (pe_call D_law_draw.ok (hr.mono (by omega)) rfl D_law_draw.g D_law_draw.kp D_law_draw.b .nil pass0 (pa_cons (pv 0) (pa_cons (pe_callB call_len rfl M.len PySem.boot_len (pa_cons (pv 1) pa_nil)) pa_nil))) (fun _ _ => rfl)))), ?_⟩
  rcases hc with ⟨ls, rfl, ne, hl, q⟩ | ⟨a, xs, rfl, ea, oa, ne, hl, q⟩
  · have lz : (tx ls).length ≤ sizeLine := small (by rw [tx_len]; omega)
    have l0 : 0 < ls.length := List.length_pos_iff.mpr ne
    refine ⟨_, rfl, _, rfl, _, rfl, _, _, rfl, ⟨lz, rfl⟩, D, n, _, rfl, d, hn, by rw [tx_len]; omega, by rw [tx_len]; omega, fun i H1 i0 i1 d1 s1 => ?_⟩
    rw [tx_len] at i1
    have hi : i.toNat < ls.length := by omega
    have ai : atI (tx ls).cps.toList i = some ls[i.toNat] := at_ge (xs := ls) i0 hi
    exact .inr (.inr ⟨_, _, _, rfl, rfl, lz, ai, q _ H1 (List.getElem_mem hi) d1 s1⟩)
  · have l0 : 0 < xs.length := List.length_pos_iff.mpr ne
    refine ⟨_, rfl, _, rfl, _, rfl, _, _, rfl, .inl ⟨_, SqL.of ea, rfl⟩, D, n, _, rfl, d, hn, by omega, by omega, fun i H1 i0 i1 d1 s1 => ?_⟩
    have hi : i.toNat < xs.length := by omega
    have ai : atI xs i = some xs[i.toNat] := at_ge i0 hi
    exact .inl ⟨a, xs, _, _, rfl, rfl, SqL.of (s1.at oa ea), ai, q _ H1 (List.getElem_mem hi) d1 s1⟩
def spMixed : Sp := fun vs H Q _ => ∃ (D : Deck) (n : Nat) (a : Addr) (ls : List V), vs = [.ref D.dk, .ref a] ∧ DeckOk H D n ∧ n + ls.length ≤ 1000000 ∧ H a = some (.lst ls) ∧ Off D a ∧ ls.length ≤ 60 ∧
  ∀ (p : Addr) (zs : List V) (H' : Hp), DeckOk H' D (n + ls.length) → SameD D H H' → H p = none → H' p = some (.lst zs) → zs.Perm ls → Off D p → Q (.ref p) H'
theorem ok_mixed {k : Nat} (F : Fun K "_law_mixed" "_law_mixed" s__law_mixed f fd) (M : Mgs mg) (D_law_draw : Df P w K mg base (k + 1) "_law_draw" ["_law_deck_here", "_law_many"] spDraw) : FnOk P w K mg base CX0 (k + 2) f fd ["_law_deck_here", "_law_items"] spMixed := by
  refine F.ok sc__law_mixed (fun vs H Q E h => ?_) (fun cdv A outer s H vs Q E hr h => ?_)
  · obtain ⟨D, n, a, ls, rfl, _⟩ := h
    rfl
  obtain ⟨D, n, a, ls, rfl, d, hn, ea, oa, hl, q⟩ := h
  refine ⟨_, (pss_cons (ps_set (i := 2) sc__law_mixed.nd rfl (.inl rfl) (pe_callTy call_list_of rfl M.list (by decide +kernel) (pa_cons (pv 1) pa_nil)))
    (pss_cons (ps_set (i := 3) sc__law_mixed.nd rfl (.inl rfl) (pe_lst pa_nil))
    (pss_cons (ps_while PassesOwn.never (pt_cmpR (op_neL hr.units0) (pv 2) (pe_lst pa_nil) (nomark _))
      (pss_one (ps_expr (pe_bm PySem.F.plainAttrs_list PySem.F.slot_list_append PySem.F.type_list_append mt_append (pv 3) (pa_cons (pe_bm PySem.F.plainAttrs_list PySem.F.slot_list_pop PySem.F.type_list_pop mt_popAt (pv 2) (pa_cons (pe_call D_law_draw.ok (hr.mono (by omega)) rfl D_law_draw.g D_law_draw.kp D_law_draw.b .nil pass0 (pa_cons (pv 0) (pa_cons (pe_callB call_len_seq rfl M.len PySem.boot_len (pa_cons (pv 2) pa_nil)) pa_nil))) pa_nil)) pa_nil)))))
    (pss_one (ps_ret (pv 3)))))), ?_⟩
  refine ⟨_, rfl, a, _, rfl, .inl (SqL.of ea), fun ra nra => ?_⟩
  refine ⟨(by show 0 ≤ sizeLine; decide), fun fa nfa => ?_⟩
  have q1 := same_new nra (.lst ls)
  have q2 := same_new nfa (.lst [])
  have era := q2 _ _ (upd_same (H := H) (a := ra) (o := .lst ls))
  have nrf : ra ≠ fa := ne_of_none upd_same nfa
  have nfaH : H fa = none := by
    rw [upd_ne nrf.symm] at nfa
    exact nfa
  have ora := d.new nra
  have ofa := d.new nfaH
  refine while_by (fun σ H' => σ = [some (.ref D.dk), some (.ref a), some (.ref ra), some (.ref fa)] ∧ ∃ rest xs : List V, DeckOk H' D (n + xs.length) ∧ SameD D H H' ∧ H' ra = some (.lst rest) ∧ H' fa = some (.lst xs) ∧ (xs ++ rest).Perm ls) (fun σ H' => match H' ra with | some (.lst xs) => xs.length | _ => 0)
    ⟨rfl, ls, [], (d.same q1).same q2, SameD.of (q1.trans q2), era, upd_same, List.Perm.refl _⟩ (fun σ H' hp => ?_) ?_
  · obtain ⟨rfl, rest, xs, d', s', er, ef, pm⟩ := hp
    have hlen : xs.length + rest.length = ls.length := by rw [← List.length_append]; exact pm.length_eq
    refine ⟨_, rfl, (by show 0 ≤ sizeLine; decide), fun el ne => ?_⟩
    have q3 := same_new ne (.lst [])
    refine ⟨ra, el, _, rfl, rfl, SqL.of (q3 _ _ er), SqL.of upd_same, _, rfl, ?_⟩
    have d1 := d'.same q3
    have s1 := s'.trans (SameD.of q3)
    have er1 := q3 _ _ er
    have ef1 := q3 _ _ ef
    generalize upd H' el (.lst []) = H1 at d1 s1 er1 ef1
    cases hg : rest with
    | nil =>
      refine iteF ?_
      subst hg
      rw [List.append_nil] at pm
      rw [List.length_nil, Nat.add_zero] at hlen
      rw [hlen] at d1
      exact ⟨_, rfl, q fa xs H1 d1 s1 nfaH ef1 pm ofa⟩
    | cons g0 gr =>
      refine iteT ?_
      have r0 : 0 < rest.length := by rw [hg]; exact Nat.succ_pos _
      refine ⟨_, rfl, .inl ⟨rfl, _, SqL.of ef1⟩, _, rfl, .inl ⟨rfl, _, SqL.of er1⟩, _, rfl, _, rfl, ra, _, rfl, .inl (SqL.of er1), D, _, _, rfl, d1, by omega, by omega, by omega, fun j H2 j0 j1 d2 s2 => ?_⟩
      have hj : j.toNat < rest.length := by omega
      have er2 := s2.at ora er1
      have ef2 := s2.at ofa ef1
      refine ⟨ra, _, j, j.toNat, rest[j.toNat], rfl, rfl, er2, by omega, by omega, (ixN_seq (ixN_nat j0 (by omega))).1, List.getElem?_eq_getElem hj, ?_⟩
      have ef3 : (upd H2 ra (.lst (rest.eraseIdx j.toNat))) fa = some (.lst xs) := by rw [upd_ne nrf.symm]; exact ef2
      refine ⟨fa, _, _, rfl, rfl, ef3, small1000 (by omega), ?_⟩
      refine ⟨⟨rfl, rest.eraseIdx j.toNat, xs ++ [rest[j.toNat]], ?_, ((s1.trans s2).put nra _).put nfaH _, ?_, upd_same, ?_⟩, ?_⟩
      · rw [List.length_append]
        exact (d2.put ora _).put ofa _
      · rw [upd_ne nrf, upd_same]
      · rw [List.append_assoc]
        exact (List.Perm.append_left xs (erase_perm hj)).trans pm
      · show (match (upd (upd H2 ra _) fa (.lst (xs ++ [rest[j.toNat]]))) ra with | some (.lst xs) => xs.length | _ => 0) < (match H' ra with | some (.lst xs) => xs.length | _ => 0)
        rw [upd_ne nrf, upd_same, er]
        show (rest.eraseIdx j.toNat).length < rest.length
        rw [List.length_eraseIdx_of_lt hj]
        omega
  · intro σ H' Q1 Q2 hQ h
    obtain ⟨v, e, h0, h⟩ := h
    refine ⟨v, e, h0, fun el ne => ?_⟩
    obtain ⟨a, b, zs, h1, h2, h3, h4, k, h5, h6⟩ := h el ne
    exact ⟨a, b, zs, h1, h2, h3, h4, k, h5, hQ _ _ h6⟩
end
/-! ### _law_tree, _law_drawn_tree -/
def ltB (t : B) : Prop := ∀ c ∈ t.pre, 97 ≤ c ∧ c ≤ 122
theorem iteI {i j : Int} {A B : Prop} (h : i = j) (a : A) : if decide (V.int i = V.int j) = true then A else B := by
  rw [if_pos (decide_eq_true (congrArg V.int h))]; exact a
theorem iteJ {i j : Int} {A B : Prop} (h : i ≠ j) (b : B) : if decide (V.int i = V.int j) = true then A else B := by
  rw [if_neg (fun z => h (V.int.inj (of_decide_eq_true z)))]; exact b
theorem pick_many {z : Int} {i way : Int} (z1 : 1 ≤ z) (i0 : 0 ≤ i) (i1 : i < z) (w0 : 0 ≤ way) (w1 : way ≤ 4) : ∃ m : Nat, atI [V.int i, V.int (z - 1), V.int 0, V.int ((z - 1) * (z % 2)), V.int ((z - 1) / 2)] way = some (.int (m : Int)) ∧ (m : Int) < z := by
  have h : way = ((0 : Nat) : Int) ∨ way = ((1 : Nat) : Int) ∨ way = ((2 : Nat) : Int) ∨ way = ((3 : Nat) : Int) ∨ way = ((4 : Nat) : Int) := by omega
  rcases h with rfl | rfl | rfl | rfl | rfl
  · exact ⟨i.toNat, by rw [Int.toNat_of_nonneg i0]; exact atI_nat rfl, by omega⟩
  · exact ⟨(z - 1).toNat, by rw [Int.toNat_of_nonneg (by omega)]; exact atI_nat rfl, by omega⟩
  · exact ⟨0, atI_nat rfl, by omega⟩
  · have h2 : z % 2 = 0 ∨ z % 2 = 1 := by omega
    rcases h2 with e | e
    · exact ⟨0, by rw [e, Int.mul_zero]; exact atI_nat rfl, by omega⟩
    · exact ⟨(z - 1).toNat, by rw [e, Int.mul_one, Int.toNat_of_nonneg (by omega)]; exact atI_nat rfl, by omega⟩
  · exact ⟨((z - 1) / 2).toNat, by rw [Int.toNat_of_nonneg (by omega)]; exact atI_nat rfl, by omega⟩
def spTree (N : Nat) : Sp := fun vs H Q _ => ∃ (D : Deck) (n z : Nat) (way : Int) (ls : List Nat), vs = [.ref D.dk, .int (z : Int), .int way, vt ls] ∧ DeckOk H D n ∧ n + 2 * z ≤ 1000000 ∧ z < N ∧ z ≤ 1000 ∧ 0 ≤ way ∧ way ≤ 4 ∧ ls ≠ [] ∧ ls.length ≤ 60 ∧
  ∀ (v : V) (t : B) (H' : Hp), DeckOk H' D (n + 2 * z) → SameD D H H' → BAt H' v t → t.size = z → (∀ c ∈ t.pre, c ∈ ls) → Q v H'
def spDrawn : Sp := fun vs H Q _ => ∃ (D : Deck) (n lim : Nat), vs = [.ref D.dk, .int (lim : Int)] ∧ DeckOk H D n ∧ n + 3 + 2 * lim ≤ 1000000 ∧ 1 ≤ lim ∧ lim ≤ 20 ∧
  ∀ (v : V) (t : B) (n' : Nat) (H' : Hp), DeckOk H' D n' → n' ≤ n + 3 + 2 * lim → SameD D H H' → BAt H' v t → 1 ≤ t.size → t.size ≤ lim → ltB t → Q v H'
section
variable {P : Program} {w : World} {K : PySem.W.Frag} {mg : Str → Option Value} {base : Heap} {f : Addr} {fd : FuncData}
theorem ok_tree (F : Fun K "_law_tree" "_law_tree" s__law_tree f fd) (b : Binds K fd ["_law_deck_here", "_law_size", "_law_style", "_law_letters"] []) (g : mg "_law_tree" = some (.ref f)) (D_law_draw : Df P w K mg base 1 "_law_draw" ["_law_deck_here", "_law_many"] spDraw) (D_law_pick : Df P w K mg base 2 "_law_pick" ["_law_deck_here", "_law_items"] (spPick K)) :
    ∀ N : Nat, FnOk P w K mg base CX0 (N + 3) f fd ["_law_deck_here", "_law_size", "_law_style", "_law_letters"] (spTree N)
  | 0 => by
    have no : ∀ vs H Q E, ¬ spTree 0 vs H Q E := fun vs H Q E h => by
      obtain ⟨D, n, z, way, ls, _, _, _, h1, _⟩ := h
      omega
    exact ⟨fun vs H Q E h => absurd h (no vs H Q E), fun A outer s H args us vs Q E _ _ _ _ h => absurd h (no vs H Q E)⟩
  | N + 1 => by
    have Dself : Df P w K mg base (N + 3) "_law_tree" ["_law_deck_here", "_law_size", "_law_style", "_law_letters"] (spTree N) := ⟨f, fd, ok_tree F b g D_law_draw D_law_pick N, b, F.kp, g⟩
    refine F.ok sc__law_tree (fun vs H Q E h => ?_) (fun cdv A outer s H vs Q E hr h => ?_)
    · obtain ⟨D, n, z, way, ls, rfl, _⟩ := h
      rfl
    obtain ⟨D, n, z, way, ls, rfl, d, hn, hz, hz1, w0, w1, lne, ll, q⟩ := h
    refine ⟨_, (pss_cons (ps_if (pt_cmpR op_eq (pv 1) pe_int (nomark _))
      (pss_one (ps_ret pe_non)) pss_nil)
    (pss_cons (ps_set (i := 4) sc__law_tree.nd rfl (.inl rfl) (pe_ix ix_list (pe_lst (pa_cons (pe_call D_law_draw.ok (hr.mono (by omega)) rfl D_law_draw.g D_law_draw.kp D_law_draw.b .nil pass0 (pa_cons (pv 0) (pa_cons (pv 1) pa_nil))) (pa_cons (pe_op op_sub (pv 1) pe_int) (pa_cons pe_int (pa_cons (pe_op op_mul (pe_op op_sub (pv 1) pe_int) (pe_op op_mod (pv 1) pe_int)) (pa_cons (pe_op op_fdiv (pe_op op_sub (pv 1) pe_int) pe_int) pa_nil)))))) (pv 2) (fun _ _ => rfl)))
    (pss_cons (ps_set (i := 5) sc__law_tree.nd rfl (.inl rfl) (pe_call D_law_pick.ok (hr.mono (by omega)) rfl D_law_pick.g D_law_pick.kp D_law_pick.b .nil pass0 (pa_cons (pv 0) (pa_cons (pv 3) pa_nil))))
    (pss_one (ps_ret (pe_tup (pa_cons (pe_call Dself.ok (hr.mono (by omega)) rfl Dself.g Dself.kp Dself.b .nil pass0 (pa_cons (pv 0) (pa_cons (pv 4) (pa_cons (pv 2) (pa_cons (pv 3) pa_nil))))) (pa_cons (pv 5) (pa_cons (pe_call Dself.ok (hr.mono (by omega)) rfl Dself.g Dself.kp Dself.b .nil pass0 (pa_cons (pv 0) (pa_cons (pe_op op_sub (pe_op op_sub (pv 1) pe_int) (pv 4)) (pa_cons (pv 2) (pa_cons (pv 3) pa_nil))))) pa_nil))))))))), ?_⟩
    by_cases e0 : z = 0
    · subst e0
      refine ⟨_, rfl, rfl, _, rfl, iteI rfl ?_⟩
      exact q .non .nil H d (SameD.refl D H) .nil rfl fun c hc => by cases hc
    · refine ⟨_, rfl, rfl, _, rfl, iteJ (by omega) ?_⟩
      refine ⟨_, rfl, _, rfl, D, n, _, rfl, d, by omega, by omega, by omega, fun i H1 i0 i1 d1 s1 => ?_⟩
      refine ⟨_, rfl, _, _, rfl, rfl, _, rfl, _, _, rfl, rfl, _, rfl, _, _, rfl, rfl, (show (0 : Int) < 2 by decide), _, _, rfl, rfl, .inl ⟨by omega, by omega⟩, ?_⟩
      refine ⟨_, rfl, _, _, rfl, rfl, _, _, rfl, rfl, ⟨by decide, by decide⟩, (by show 5 ≤ sizeLine; decide), fun l nl => ?_⟩
      obtain ⟨m, hm, ml⟩ := pick_many (show (1 : Int) ≤ (z : Int) by omega) i0 i1 w0 w1
      refine ⟨_, rfl, l, _, _, _, rfl, rfl, SqL.of upd_same, hm, ?_⟩
      have q1 := same_new nl (.lst [V.int i, V.int ((z : Int) - 1), V.int 0, V.int (((z : Int) - 1) * ((z : Int) % 2)), V.int (((z : Int) - 1) / 2)])
      have d2 := d1.same q1
      have s2 := s1.trans (SameD.of q1)
      refine ⟨_, rfl, _, rfl, D, n + 1, _, rfl, d2, by omega, .inl ⟨ls, rfl, lne, ll, fun c H3 hc d3 s3 => ?_⟩⟩
      refine ⟨_, rfl, _, rfl, _, rfl, _, rfl, D, n + 2, m, way, ls, rfl, d3, by omega, by omega, by omega, w0, w1, lne, ll, fun v1 t1 H4 d4 s4 a4 z4 c4 => ?_⟩
      refine ⟨_, rfl, _, rfl, _, rfl, _, _, rfl, rfl, _, rfl, _, _, rfl, rfl, _, rfl, _, rfl, ?_⟩
      have em : (z : Int) - 1 - (m : Int) = ((z - 1 - m : Nat) : Int) := by omega
      refine ⟨D, _, z - 1 - m, way, ls, by rw [← em]; rfl, d4, by omega, by omega, by omega, w0, w1, lne, ll, fun v2 t2 H5 d5 s5 a5 z5 c5 => ?_⟩
      refine ⟨(by show 3 ≤ sizeLine; decide), fun r nr => ?_⟩
      have q6 := same_new nr (.tup [v1, .str ⟨#[c]⟩, v2])
      refine q (.ref r) (.node t1 c t2) _ ?_ (((s2.trans s3).trans s4).trans (s5.trans (SameD.of q6))) (.node upd_same ((a4.keep (s5.keepT d4)).same q6) (a5.same q6)) ?_ ?_
      · rw [show n + 2 * z = n + 2 + 2 * m + 2 * (z - 1 - m) by omega]
        exact d5.same q6
      · show t1.size + 1 + t2.size = z
        omega
      · intro x hx
        rcases List.mem_cons.mp hx with rfl | hx
        · exact hc
        · rcases List.mem_append.mp hx with hx | hx
          · exact c4 x hx
          · exact c5 x hx
theorem some_letters {x : V} (h : x ∈ [V.str "a", V.str "ab", V.str "abcxyz", V.str "abcdefghijklmnopqrstuvwxyz"]) : ∃ ls : List Nat, x = vt ls ∧ ls ≠ [] ∧ ls.length ≤ 60 ∧ ∀ c ∈ ls, 97 ≤ c ∧ c ≤ 122 := by
  have go : ∀ s : Str, s.cps.toList ≠ [] → s.cps.toList.length ≤ 60 → (∀ c ∈ s.cps.toList, 97 ≤ c ∧ c ≤ 122) → ∃ ls : List Nat, V.str s = vt ls ∧ ls ≠ [] ∧ ls.length ≤ 60 ∧ ∀ c ∈ ls, 97 ≤ c ∧ c ≤ 122 := fun s h1 h2 h3 => ⟨s.cps.toList, by show V.str s = V.str ⟨s.cps.toList.toArray⟩; rw [Array.toArray_toList], h1, h2, h3⟩
  rcases List.mem_cons.mp h with rfl | h
  · exact go _ (by decide +kernel) (by decide +kernel) (by decide +kernel)
  rcases List.mem_cons.mp h with rfl | h
  · exact go _ (by decide +kernel) (by decide +kernel) (by decide +kernel)
  rcases List.mem_cons.mp h with rfl | h
  · exact go _ (by decide +kernel) (by decide +kernel) (by decide +kernel)
  rcases List.mem_cons.mp h with rfl | h
  · exact go _ (by decide +kernel) (by decide +kernel) (by decide +kernel)
  · cases h
theorem ok_drawn (F : Fun K "_law_drawn_tree" "_law_drawn_tree" s__law_drawn_tree f fd) (D_law_draw : Df P w K mg base 1 "_law_draw" ["_law_deck_here", "_law_many"] spDraw) (D_law_pick : Df P w K mg base 2 "_law_pick" ["_law_deck_here", "_law_items"] (spPick K))
    (D_law_tree : Df P w K mg base 33 "_law_tree" ["_law_deck_here", "_law_size", "_law_style", "_law_letters"] (spTree 30)) : FnOk P w K mg base CX0 34 f fd ["_law_deck_here", "_law_limit"] spDrawn := by
  refine F.ok sc__law_drawn_tree (fun vs H Q E h => ?_) (fun cdv A outer s H vs Q E hr h => ?_)
  · obtain ⟨D, n, lim, rfl, _⟩ := h
    rfl
  obtain ⟨D, n, lim, rfl, d, hn, l1, l2, q⟩ := h
  refine ⟨_, (pss_cons (ps_set (i := 2) sc__law_drawn_tree.nd rfl (.inl rfl) (pe_call D_law_pick.ok (hr.mono (by omega)) rfl D_law_pick.g D_law_pick.kp D_law_pick.b .nil pass0 (pa_cons (pv 0) (pa_cons (pe_lst (pa_cons pe_str (pa_cons pe_str (pa_cons pe_str (pa_cons pe_str pa_nil))))) pa_nil))))
    (pss_one (ps_ret (pe_call D_law_tree.ok (hr.mono (by omega)) rfl D_law_tree.g D_law_tree.kp D_law_tree.b .nil pass0 (pa_cons (pv 0) (pa_cons (pe_op op_add pe_int (pe_call D_law_draw.ok (hr.mono (by omega)) rfl D_law_draw.g D_law_draw.kp D_law_draw.b .nil pass0 (pa_cons (pv 0) (pa_cons (pv 1) pa_nil)))) (pa_cons (pe_call D_law_draw.ok (hr.mono (by omega)) rfl D_law_draw.g D_law_draw.kp D_law_draw.b .nil pass0 (pa_cons (pv 0) (pa_cons pe_int pa_nil))) (pa_cons (pv 2) pa_nil)))))))), ?_⟩
  refine ⟨_, rfl, (by show 4 ≤ sizeLine; decide), fun la nla => ?_⟩
  have q1 := same_new nla (.lst [V.str "a", V.str "ab", V.str "abcxyz", V.str "abcdefghijklmnopqrstuvwxyz"])
  refine ⟨D, n, _, rfl, d.same q1, by omega, .inr ⟨la, _, rfl, upd_same, d.new nla, List.cons_ne_nil _ _, by decide, fun x H1 hx d1 s1 => ?_⟩⟩
  obtain ⟨ls, rfl, lne, ll, lr⟩ := some_letters hx
  refine ⟨_, rfl, _, rfl, _, rfl, D, n + 1, _, rfl, d1, by omega, by omega, by omega, fun i H2 i0 i1 d2 s2 => ?_⟩
  refine ⟨_, _, rfl, rfl, _, rfl, D, n + 2, 5, rfl, d2, by omega, by decide, by decide, fun j H3 j0 j1 d3 s3 => ?_⟩
  refine ⟨_, rfl, ?_⟩
  have ei : (1 : Int) + i = ((1 + i.toNat : Nat) : Int) := by omega
  refine ⟨D, n + 3, 1 + i.toNat, j, ls, by rw [← ei]; rfl, d3, by omega, by omega, by omega, j0, by omega, lne, ll, fun v t H4 d4 s4 a4 z4 c4 => ?_⟩
  exact q v t _ H4 d4 (by omega) (((SameD.of q1).trans s1).trans ((s2.trans s3).trans s4)) a4 (by omega) (by omega) fun c hc => lr c (c4 c hc)
end
/-! ### walks -/
inductive Kd where
  | first
  | between
  | last
def Kd.str : Kd → Str
  | .first => "first"
  | .between => "between"
  | .last => "last"
def B.post : B → List Nat
  | .nil => []
  | .node l x r => l.post ++ r.post ++ [x]
def B.wk (k : Kd) (t : B) : List Nat := match k with
  | .first => t.pre
  | .between => t.mid
  | .last => t.post
def B.steps (k : Kd) : B → List Nat → List (List Nat × Nat)
  | .nil, _ => []
  | .node l x r, q => match k with
    | .first => [(q, x)] ++ l.steps k (q ++ [108]) ++ r.steps k (q ++ [114])
    | .between => l.steps k (q ++ [108]) ++ [(q, x)] ++ r.steps k (q ++ [114])
    | .last => l.steps k (q ++ [108]) ++ r.steps k (q ++ [114]) ++ [(q, x)]
theorem B.steps_wk (k : Kd) (t : B) : ∀ q : List Nat, (t.steps k q).map (·.2) = t.wk k := by
  induction t with
  | nil => intro q; cases k <;> rfl
  | node l x r h1 h2 =>
    intro q
    have a := h1 (q ++ [108])
    have b := h2 (q ++ [114])
    cases k
    · show ([(q, x)] ++ l.steps .first (q ++ [108]) ++ r.steps .first (q ++ [114])).map (·.2) = x :: (l.pre ++ r.pre)
      rw [List.map_append, List.map_append, a, b]; rfl
    · show (l.steps .between (q ++ [108]) ++ [(q, x)] ++ r.steps .between (q ++ [114])).map (·.2) = l.mid ++ x :: r.mid
      rw [List.map_append, List.map_append, a, b]
      show l.mid ++ [x] ++ r.mid = _
      rw [List.append_assoc]; rfl
    · show (l.steps .last (q ++ [108]) ++ r.steps .last (q ++ [114]) ++ [(q, x)]).map (·.2) = l.post ++ r.post ++ [x]
      rw [List.map_append, List.map_append, a, b]; rfl
theorem B.wk_len (k : Kd) (t : B) : (t.wk k).length = t.size := by
  cases k
  · exact t.pre_len
  · exact t.mid_len
  · show t.post.length = t.size
    induction t with
    | nil => rfl
    | node l x r h1 h2 =>
      show (l.post ++ r.post ++ [x]).length = l.size + 1 + r.size
      rw [List.length_append, List.length_append, h1, h2, List.length_cons, List.length_nil]
      omega
theorem B.steps_len (k : Kd) (t : B) (q : List Nat) : (t.steps k q).length = t.size := by
  rw [← t.wk_len k, ← t.steps_wk k q, List.length_map]
inductive StAt (H : Hp) : List V → List (List Nat × Nat) → Prop
  | nil : StAt H [] []
  | cons {a : Addr} {q : List Nat} {x : Nat} {vs : List V} {ss : List (List Nat × Nat)} : H a = some (.tup [.str (tx q), .str (ch x)]) → StAt H vs ss → StAt H (.ref a :: vs) ((q, x) :: ss)
theorem StAt.keep {H H' : Hp} (k : KeepT H H') {vs : List V} {ss : List (List Nat × Nat)} (h : StAt H vs ss) : StAt H' vs ss := by
  induction h with
  | nil => exact .nil
  | cons e _ ih => exact .cons (k _ _ e) ih
theorem StAt.same {H H' : Hp} (k : Same H H') {vs : List V} {ss : List (List Nat × Nat)} (h : StAt H vs ss) : StAt H' vs ss := h.keep (Tw.Same.keepT k)
theorem StAt.app {H : Hp} {vs us : List V} {ss ts : List (List Nat × Nat)} (h : StAt H vs ss) (g : StAt H us ts) : StAt H (vs ++ us) (ss ++ ts) := by
  induction h with
  | nil => exact g
  | cons e _ ih => exact .cons e ih
theorem StAt.len {H : Hp} {vs : List V} {ss : List (List Nat × Nat)} (h : StAt H vs ss) : vs.length = ss.length := by
  induction h with
  | nil => rfl
  | cons _ _ ih => rw [List.length_cons, List.length_cons, ih]
theorem StAt.get {H : Hp} {vs : List V} {ss : List (List Nat × Nat)} (h : StAt H vs ss) : ∀ {i : Nat} {v : V}, vs[i]? = some v → ∃ a q x, v = .ref a ∧ ss[i]? = some (q, x) ∧ H a = some (.tup [.str (tx q), .str (ch x)]) := by
  induction h with
  | nil => intro i v e; simp at e
  | cons e _ ih =>
    intro i v he
    cases i with
    | zero => cases he; exact ⟨_, _, _, rfl, rfl, e⟩
    | succ i => exact ih he
theorem str_l : Str.ofString "l" = tx [108] := by decide +kernel
theorem str_r : Str.ofString "r" = tx [114] := by decide +kernel
theorem str_0 : Str.ofString "" = tx [] := by decide +kernel

/-! ### parts and open paths -/
def B.at : B → List Nat → Option B
  | t, [] => some t
  | .nil, _ :: _ => none
  | .node l _ r, c :: w => if c = 108 then l.at w else if c = 114 then r.at w else none
theorem B.at_nil (t : B) : t.at [] = some t := by cases t <;> rfl
def B.op : B → List (List Nat)
  | .nil => [[]]
  | .node l _ r => l.op.map (108 :: ·) ++ r.op.map (114 :: ·)
theorem B.op_at (t : B) : ∀ w, w ∈ t.op ↔ t.at w = some .nil := by
  induction t with
  | nil =>
    intro w
    cases w with
    | nil => exact ⟨fun _ => rfl, fun _ => List.mem_singleton.mpr rfl⟩
    | cons c w => exact ⟨fun h => (by cases List.mem_singleton.mp h), fun h => (by cases h)⟩
  | node l x r h1 h2 =>
    intro w
    show w ∈ l.op.map (108 :: ·) ++ r.op.map (114 :: ·) ↔ _
    cases w with
    | nil =>
      refine ⟨fun h => ?_, fun h => (by cases h)⟩
      rcases List.mem_append.mp h with h | h
      · obtain ⟨_, _, e⟩ := List.mem_map.mp h; cases e
      · obtain ⟨_, _, e⟩ := List.mem_map.mp h; cases e
    | cons c w =>
      show _ ↔ (if c = 108 then l.at w else if c = 114 then r.at w else none) = some .nil
      rw [List.mem_append, List.mem_map, List.mem_map]
      by_cases c1 : c = 108
      · subst c1
        rw [if_pos rfl, ← h1 w]
        refine ⟨fun h => ?_, fun h => .inl ⟨w, h, rfl⟩⟩
        rcases h with ⟨u, hu, e⟩ | ⟨u, hu, e⟩
        · cases e; exact hu
        · cases e
      · rw [if_neg c1]
        by_cases c2 : c = 114
        · subst c2
          rw [if_pos rfl, ← h2 w]
          refine ⟨fun h => ?_, fun h => .inr ⟨w, h, rfl⟩⟩
          rcases h with ⟨u, hu, e⟩ | ⟨u, hu, e⟩
          · cases e
          · cases e; exact hu
        · rw [if_neg c2]
          refine ⟨fun h => ?_, fun h => (by cases h)⟩
          rcases h with ⟨u, hu, e⟩ | ⟨u, hu, e⟩
          · cases e; exact absurd rfl c1
          · cases e; exact absurd rfl c2
theorem nodup_cons_map (c : Nat) {L : List (List Nat)} (h : L.Nodup) : (L.map (c :: ·)).Nodup := List.Pairwise.map _ (fun _ _ ne e => ne (List.cons.inj e).2) h
theorem B.op_nodup (t : B) : t.op.Nodup := by
  induction t with
  | nil => exact List.nodup_cons.mpr ⟨by simp, List.nodup_nil⟩
  | node l x r h1 h2 =>
    show (l.op.map (108 :: ·) ++ r.op.map (114 :: ·)).Nodup
    refine List.nodup_append.mpr ⟨nodup_cons_map _ h1, nodup_cons_map _ h2, fun a ha b hb e => ?_⟩
    obtain ⟨_, _, rfl⟩ := List.mem_map.mp ha
    obtain ⟨_, _, rfl⟩ := List.mem_map.mp hb
    cases e
def isNode (o : Option B) : Prop := ∃ l x r, o = some (.node l x r)
theorem steps_mem (t : B) : ∀ (q p : List Nat), p ∈ (t.steps .first q).map (·.1) ↔ ∃ w, p = q ++ w ∧ isNode (t.at w) := by
  induction t with
  | nil =>
    intro q p
    refine ⟨fun h => (by cases h), ?_⟩
    rintro ⟨w, _, l, x, r, e⟩
    cases w with
    | nil => cases e
    | cons c w => cases e
  | node l x r h1 h2 =>
    intro q p
    show p ∈ ([(q, x)] ++ l.steps .first (q ++ [108]) ++ r.steps .first (q ++ [114])).map (·.1) ↔ _
    rw [List.map_append, List.map_append, List.mem_append, List.mem_append, h1, h2]
    constructor
    · rintro ((h | ⟨w, rfl, h⟩) | ⟨w, rfl, h⟩)
      · exact ⟨[], by rw [List.append_nil]; exact List.mem_singleton.mp h, _, _, _, rfl⟩
      · exact ⟨108 :: w, by rw [List.append_assoc]; rfl, h⟩
      · exact ⟨114 :: w, by rw [List.append_assoc]; rfl, h⟩
    · rintro ⟨w, rfl, h⟩
      cases w with
      | nil => exact .inl (.inl (List.mem_singleton.mpr (List.append_nil _)))
      | cons c w =>
        have h : isNode (if c = 108 then l.at w else if c = 114 then r.at w else none) := h
        by_cases c1 : c = 108
        · subst c1
          rw [if_pos rfl] at h
          exact .inl (.inr ⟨w, by rw [List.append_assoc]; rfl, h⟩)
        · rw [if_neg c1] at h
          by_cases c2 : c = 114
          · subst c2
            rw [if_pos rfl] at h
            exact .inr ⟨w, by rw [List.append_assoc]; rfl, h⟩
          · rw [if_neg c2] at h
            obtain ⟨_, _, _, e⟩ := h
            cases e
theorem steps_nodup (t : B) : ∀ q : List Nat, ((t.steps .first q).map (·.1)).Nodup := by
  induction t with
  | nil => intro q; exact List.nodup_nil
  | node l x r h1 h2 =>
    intro q
    show (([(q, x)] ++ l.steps .first (q ++ [108]) ++ r.steps .first (q ++ [114])).map (·.1)).Nodup
    rw [List.map_append, List.map_append]
    have ap : ∀ (c : Nat) (w : List Nat), q ≠ q ++ [c] ++ w := fun c w e => by
      have := congrArg List.length e
      simp only [List.length_append, List.length_cons, List.length_nil] at this
      omega
    refine List.nodup_append.mpr ⟨List.nodup_append.mpr ⟨List.nodup_cons.mpr ⟨by simp, List.nodup_nil⟩, h1 _, fun a ha b hb e => ?_⟩, h2 _, fun a ha b hb e => ?_⟩
    · obtain ⟨w, rfl, _⟩ := (steps_mem l _ b).mp hb
      rw [List.mem_singleton.mp ha] at e
      exact ap _ _ e
    · obtain ⟨w, rfl, _⟩ := (steps_mem r _ b).mp hb
      rcases List.mem_append.mp ha with ha | ha
      · rw [List.mem_singleton.mp ha] at e
        exact ap _ _ e
      · obtain ⟨u, rfl, _⟩ := (steps_mem l _ a).mp ha
        rw [List.append_assoc, List.append_assoc] at e
        have := List.append_cancel_left e
        cases this
theorem at_child {t : B} {w : List Nat} (h : isNode (t.at w)) {c : Nat} (hc : c = 108 ∨ c = 114) (hn : ¬ isNode (t.at (w ++ [c]))) : t.at (w ++ [c]) = some .nil := by
  induction w generalizing t with
  | nil =>
    obtain ⟨l, x, r, e⟩ := h
    have e : t = .node l x r := Option.some.inj ((B.at_nil t).symm.trans e)
    subst e
    rcases hc with rfl | rfl
    · show l.at [] = _
      cases l with
      | nil => rfl
      | node a b c => exact absurd ⟨a, b, c, rfl⟩ hn
    · show r.at [] = _
      cases r with
      | nil => rfl
      | node a b c => exact absurd ⟨a, b, c, rfl⟩ hn
  | cons d w ih =>
    cases t with
    | nil => obtain ⟨_, _, _, e⟩ := h; cases e
    | node l x r =>
      have h : isNode (if d = 108 then l.at w else if d = 114 then r.at w else none) := h
      have hn : ¬ isNode (if d = 108 then l.at (w ++ [c]) else if d = 114 then r.at (w ++ [c]) else none) := hn
      show (if d = 108 then l.at (w ++ [c]) else if d = 114 then r.at (w ++ [c]) else none) = _
      by_cases c1 : d = 108
      · rw [if_pos c1] at h hn ⊢; exact ih h hn
      · rw [if_neg c1] at h hn ⊢
        by_cases c2 : d = 114
        · rw [if_pos c2] at h hn ⊢; exact ih h hn
        · rw [if_neg c2] at h; obtain ⟨_, _, _, e⟩ := h; cases e
/-- the open paths below known ones, in the order of the known -/
def sidesOf (K : List (List Nat)) (q : List Nat) : List (List Nat) := [q ++ [108], q ++ [114]].filter fun p => decide (p ∉ K)
def opensOf (K : List (List Nat)) (L : List (List Nat)) : List (List Nat) := L.flatMap (sidesOf K)
theorem sides_mem {K : List (List Nat)} {q p : List Nat} : p ∈ sidesOf K q ↔ (∃ c, (c = 108 ∨ c = 114) ∧ p = q ++ [c]) ∧ p ∉ K := by
  unfold sidesOf
  rw [List.mem_filter, decide_eq_true_eq]
  constructor
  · rintro ⟨h, n⟩
    rcases List.mem_cons.mp h with rfl | h
    · exact ⟨⟨108, .inl rfl, rfl⟩, n⟩
    · rw [List.mem_singleton.mp h] at n ⊢
      exact ⟨⟨114, .inr rfl, rfl⟩, n⟩
  · rintro ⟨⟨c, rfl | rfl, rfl⟩, n⟩
    · exact ⟨List.mem_cons_self, n⟩
    · exact ⟨List.mem_cons_of_mem _ (List.mem_singleton.mpr rfl), n⟩
theorem opens_nodup (K : List (List Nat)) : ∀ {L : List (List Nat)}, L.Nodup → (opensOf K L).Nodup
  | [], _ => List.nodup_nil
  | q :: L, h => by
    obtain ⟨n1, n2⟩ := List.nodup_cons.mp h
    show (sidesOf K q ++ opensOf K L).Nodup
    refine List.nodup_append.mpr ⟨?_, opens_nodup K n2, fun a ha b hb e => ?_⟩
    · unfold sidesOf
      refine List.Nodup.sublist List.filter_sublist (List.nodup_cons.mpr ⟨fun z => ?_, List.nodup_cons.mpr ⟨by simp, List.nodup_nil⟩⟩)
      have := List.append_cancel_left (List.mem_singleton.mp z)
      cases this
    · obtain ⟨q2, hq2, hb⟩ := List.mem_flatMap.mp hb
      obtain ⟨⟨c, _, rfl⟩, _⟩ := sides_mem.mp ha
      obtain ⟨⟨d, _, e2⟩, _⟩ := sides_mem.mp hb
      rw [e2] at e
      have := (List.append_inj' e rfl).1
      exact n1 (this ▸ hq2)
theorem opens_open {t : B} {p : List Nat} (h : p ∈ opensOf ((t.steps .first []).map (·.1)) ((t.steps .first []).map (·.1))) : p ∈ t.op := by
  obtain ⟨q, hq, hp⟩ := List.mem_flatMap.mp h
  obtain ⟨⟨c, hc, rfl⟩, hn⟩ := sides_mem.mp hp
  obtain ⟨w, e, hw⟩ := (steps_mem t [] q).mp hq
  have e : q = w := e
  subst e
  exact (t.op_at _).mpr (at_child hw hc fun hn' => hn ((steps_mem t [] _).mpr ⟨q ++ [c], rfl, hn'⟩))
theorem opens_len (K : List (List Nat)) : ∀ L : List (List Nat), (opensOf K L).length ≤ 2 * L.length
  | [] => Nat.le_refl _
  | q :: L => by
    have h := opens_len K L
    have h2 : (sidesOf K q).length ≤ 2 := Nat.le_trans (List.length_filter_le _ _) (Nat.le_refl 2)
    show (sidesOf K q ++ opensOf K L).length ≤ 2 * (L.length + 1)
    rw [List.length_append]
    omega
theorem opens_words (K : List (List Nat)) {L : List (List Nat)} {n : Nat} (h : ∀ q ∈ L, q.length ≤ n) : ∀ p ∈ opensOf K L, p.length ≤ n + 1 := fun p hp => by
  obtain ⟨q, hq, hp⟩ := List.mem_flatMap.mp hp
  obtain ⟨⟨c, _, rfl⟩, _⟩ := sides_mem.mp hp
  have := h q hq
  rw [List.length_append]
  show q.length + 1 ≤ n + 1
  omega
/-! ### _law_nodes, _law_open -/
theorem iteS {x y : Str} {A B : Prop} (h : x = y) (a : A) : if decide (V.str x = V.str y) = true then A else B := by
  rw [if_pos (decide_eq_true (congrArg V.str h))]; exact a
theorem iteR {x y : Str} {A B : Prop} (h : x ≠ y) (b : B) : if decide (V.str x = V.str y) = true then A else B := by
  rw [if_neg (fun z => h (V.str.inj (of_decide_eq_true z)))]; exact b
theorem take_next {α : Type} {zs : List α} {i : Nat} {c : α} (h : zs[i]? = some c) : zs.take (i + 1) = zs.take i ++ [c] := by
  rw [List.take_succ, h]
  rfl
def spNodes (N : Nat) : Sp := fun vs H Q _ => ∃ (v : V) (t : B) (q : List Nat), vs = [v, vt q] ∧ BAt H v t ∧ t.size < N ∧ t.size + q.length ≤ 500 ∧
  ∀ (p : Addr) (us : List V) (H' : Hp), Same H H' → H' p = some (.lst us) → StAt H' us (t.steps .first q) → Q (.ref p) H'
theorem steps_words (t : B) : ∀ (q : List Nat), ∀ p ∈ (t.steps .first q).map (·.1), p.length ≤ q.length + t.size := by
  induction t with
  | nil => intro q p hp; cases hp
  | node l x r h1 h2 =>
    intro q p hp
    have hp : p ∈ ([(q, x)] ++ l.steps .first (q ++ [108]) ++ r.steps .first (q ++ [114])).map (·.1) := hp
    rw [List.map_append, List.map_append, List.mem_append, List.mem_append] at hp
    show p.length ≤ q.length + (l.size + 1 + r.size)
    rcases hp with (hp | hp) | hp
    · rw [List.mem_singleton.mp hp]
      show q.length ≤ _
      omega
    · have := h1 _ p hp
      rw [List.length_append] at this
      have e : [108].length = 1 := rfl
      omega
    · have := h2 _ p hp
      rw [List.length_append] at this
      have e : [114].length = 1 := rfl
      omega
theorem inV_texts (z : List Nat) (K : List (List Nat)) : inV (vt z) (K.map vt) = decide (z ∈ K) := by
  unfold inV
  by_cases h : z ∈ K
  · rw [decide_eq_true h, List.any_eq_true]
    exact ⟨vt z, List.mem_map.mpr ⟨z, h, rfl⟩, by show eqV (.str _) (.str _) = true; simp [eqV]⟩
  · rw [decide_eq_false h, Bool.eq_false_iff]
    intro e
    obtain ⟨y, hy, e⟩ := List.any_eq_true.mp e
    obtain ⟨k, hk, rfl⟩ := List.mem_map.mp hy
    have e : eqV (.str (tx k)) (.str (tx z)) = true := e
    simp only [eqV, beq_iff_eq] at e
    exact h (tx_inj e ▸ hk)
theorem flat_texts (K : List (List Nat)) : (K.map vt).all flatV = true := by
  rw [List.all_eq_true]
  intro x hx
  obtain ⟨k, _, rfl⟩ := List.mem_map.mp hx
  rfl
def spOpen : Sp := fun vs H Q _ => ∃ (v : V) (t : B), vs = [v] ∧ BAt H v t ∧ t.size ≤ 30 ∧
  ∀ (p : Addr) (H' : Hp), Same H H' → H p = none → H' p = some (.lst ((opensOf ((t.steps .first []).map (·.1)) ((t.steps .first []).map (·.1))).map vt)) → Q (.ref p) H'
section
variable {P : Program} {w : World} {K : PySem.W.Frag} {mg : Str → Option Value} {base : Heap} {f : Addr} {fd : FuncData}
theorem ok_nodes (F : Fun K "_law_nodes" "_law_nodes" s__law_nodes f fd) (b : Binds K fd ["_law_tree_here", "_law_path"] []) (g : mg "_law_nodes" = some (.ref f)) : ∀ N : Nat, FnOk P w K mg base CX0 N f fd ["_law_tree_here", "_law_path"] (spNodes N)
  | 0 => by
    have no : ∀ vs H Q E, ¬ spNodes 0 vs H Q E := fun vs H Q E h => by
      obtain ⟨v, t, q, _, _, h1, _⟩ := h
      omega
    exact ⟨fun vs H Q E h => absurd h (no vs H Q E), fun A outer s H args us vs Q E _ _ _ _ h => absurd h (no vs H Q E)⟩
  | N + 1 => by
    have Dself : Df P w K mg base N "_law_nodes" ["_law_tree_here", "_law_path"] (spNodes N) := ⟨f, fd, ok_nodes F b g N, b, F.kp, g⟩
    refine F.ok sc__law_nodes (fun vs H Q E h => ?_) (fun cdv A outer s H vs Q E hr h => ?_)
    · obtain ⟨v, t, q, rfl, _⟩ := h
      rfl
    obtain ⟨v, t, pth, rfl, hv, hn, hz, q⟩ := h
    refine ⟨_, (pss_cons (ps_if (pt_cmpR op_isN (pv 0) pe_non (nomark _))
      (pss_one (ps_ret (pe_lst pa_nil))) pss_nil)
    (pss_cons (ps_asg (pv 0) (pg_tup rfl (pgs_cons (pg_name (i := 2) sc__law_nodes.nd rfl (.inl rfl)) (pgs_cons (pg_name (i := 3) sc__law_nodes.nd rfl (.inl rfl)) (pgs_cons (pg_name (i := 4) sc__law_nodes.nd rfl (.inl rfl)) pgs_nil)))))
    (pss_one (ps_ret (pe_op op_cat (pe_op op_cat (pe_lst (pa_cons (pe_tup (pa_cons (pv 1) (pa_cons (pv 3) pa_nil))) pa_nil)) (pe_call Dself.ok (hr.mono (by omega)) rfl Dself.g Dself.kp Dself.b .nil pass0 (pa_cons (pv 2) (pa_cons (pe_op op_add_str (pv 1) pe_str) pa_nil)))) (pe_call Dself.ok (hr.mono (by omega)) rfl Dself.g Dself.kp Dself.b .nil pass0 (pa_cons (pv 4) (pa_cons (pe_op op_add_str (pv 1) pe_str) pa_nil)))))))), ?_⟩
    rcases hv.inv with ⟨rfl, rfl⟩ | ⟨a, l, r, x, tl, tr, rfl, rfl, ea, hl, hr'⟩
    · refine ⟨_, rfl, rfl, _, rfl, iteT ⟨(by show 0 ≤ sizeLine; decide), fun p np => ?_⟩⟩
      exact q p [] _ (same_new np _) upd_same .nil
    · refine ⟨_, rfl, rfl, _, rfl, iteF ?_⟩
      refine ⟨_, rfl, a, _, rfl, SqT.of ea, rfl, _, _, rfl, _, _, rfl, _, _, rfl, rfl, ?_⟩
      have sz : tl.size + 1 + tr.size < N + 1 := hn
      have sz2 : tl.size + 1 + tr.size + pth.length ≤ 500 := hz
      refine ⟨_, rfl, _, rfl, (by show 2 ≤ sizeLine; decide), fun tp ntp => ⟨(by show 1 ≤ sizeLine; decide), fun ro nro => ?_⟩⟩
      have q1 := same_new ntp (.tup [vt pth, .str (ch x)])
      have q2 := same_new nro (.lst [.ref tp])
      have etp := q2 _ _ (upd_same (H := H) (a := tp) (o := .tup [vt pth, .str (ch x)]))
      have ero := upd_same (H := upd H tp (.tup [vt pth, .str (ch x)])) (a := ro) (o := .lst [.ref tp])
      have s1 := q1.trans q2
      generalize upd (upd H tp (.tup [vt pth, .str (ch x)])) ro (.lst [.ref tp]) = H1 at etp ero s1
      refine ⟨_, rfl, _, rfl, _, _, rfl, rfl, ?_, ?_⟩
      · rw [str_l, tx_len, tx_len]; exact small (by show _ + 1 ≤ 1000; omega)
      rw [str_l, tx_app]
      refine ⟨l, tl, pth ++ [108], rfl, hl.same s1, by omega, by rw [List.length_append]; show _ + (_ + 1) ≤ 500; omega, fun lp ul H2 s2 elp stl => ?_⟩
      have ll := stl.len
      rw [B.steps_len] at ll
      have strt : StAt H2 [.ref tp] [(pth, x)] := .cons (s2 _ _ etp) .nil
      refine ⟨ro, lp, _, _, rfl, rfl, s2 _ _ ero, elp, small (by show 1 + _ ≤ 1000; omega), fun c1 n1 => ?_⟩
      have k1 := same_new n1 (.lst ([.ref tp] ++ ul))
      have s3 := (s1.trans s2).trans k1
      have st1 := (strt.app stl).same k1
      have ec1 := upd_same (H := H2) (a := c1) (o := .lst ([.ref tp] ++ ul))
      generalize upd H2 c1 (.lst ([.ref tp] ++ ul)) = H3 at s3 st1 ec1
      refine ⟨_, rfl, _, rfl, _, _, rfl, rfl, ?_, ?_⟩
      · rw [str_r, tx_len, tx_len]; exact small (by show _ + 1 ≤ 1000; omega)
      rw [str_r, tx_app]
      refine ⟨r, tr, pth ++ [114], rfl, hr'.same s3, by omega, by rw [List.length_append]; show _ + (_ + 1) ≤ 500; omega, fun rp ur H4 s4 erp str => ?_⟩
      have lr := str.len
      rw [B.steps_len] at lr
      refine ⟨c1, rp, _, _, rfl, rfl, s4 _ _ ec1, erp, small (by rw [List.length_append]; show 1 + _ + _ ≤ 1000; omega), fun c2 n2 => ?_⟩
      have k2 := same_new n2 (.lst ([.ref tp] ++ ul ++ ur))
      exact q c2 _ _ ((s3.trans s4).trans k2) upd_same (((st1.same s4).app str).same k2)
theorem ok_open (F : Fun K "_law_open" "_law_open" s__law_open f fd) (D_law_nodes : Df P w K mg base 40 "_law_nodes" ["_law_tree_here", "_law_path"] (spNodes 40)) : FnOk P w K mg base CX0 41 f fd ["_law_tree_here"] spOpen := by
  refine F.ok sc__law_open (fun vs H Q E h => ?_) (fun cdv A outer s H vs Q E hr h => ?_)
  · obtain ⟨v, t, rfl, _⟩ := h
    rfl
  obtain ⟨v, t, rfl, hv, hz, q⟩ := h
  refine ⟨_, (pss_cons (ps_set (i := 3) sc__law_open.nd rfl (.inr rfl) (pe_lc (own := [("_law_path", 1), ("_law_label", 2)]) (g := gTup K 2 (gCons (gName 1) (gCons (gName 2) gNil))) (tt := tYes) rfl sc__law_open.nd (pi_list (pe_call D_law_nodes.ok (hr.mono (by omega)) rfl D_law_nodes.g D_law_nodes.kp D_law_nodes.b .nil pass0 (pa_cons (pv 0) (pa_cons pe_str pa_nil)))) (blkOk_by (N := ["_law_tree_here", "_law_path", "_law_label", "_law_known", "_law_found", "_law_side"]) (sc := defScope s__law_open) (by decide +kernel)) (fun _ _ _ _ _ => (pg_tup rfl (pgs_cons (pg_name (i := 1) sc__law_open.nd rfl (.inl rfl)) (pgs_cons (pg_name (i := 2) sc__law_open.nd rfl (.inl rfl)) pgs_nil)))) (fun _ _ _ _ _ => pts_nil) (fun _ _ _ _ _ => (pv 1))))
    (pss_cons (ps_set (i := 4) sc__law_open.nd rfl (.inl rfl) (pe_lst pa_nil))
    (pss_cons (ps_for PassesOwn.never rfl (pi_list (pv 3)) (pg_name (i := 1) sc__law_open.nd rfl (.inr rfl))
      (pss_one (ps_expr (pe_bm PySem.F.plainAttrs_list PySem.F.slot_list_extend PySem.F.type_list_extend mt_extend (pv 4) (pa_cons (pe_lc (own := [("_law_side", 5)]) (g := gName 5) rfl sc__law_open.nd (pi_str pe_str) (blkOk_by (N := ["_law_tree_here", "_law_path", "_law_label", "_law_known", "_law_found", "_law_side"]) (sc := defScope s__law_open) (by decide +kernel)) (fun _ _ _ _ _ => (pg_name (i := 5) sc__law_open.nd rfl (.inl rfl))) (fun _ _ _ _ _ => pts_one (pt_cmpR (show OpR _ (compareOp .NotIn) (rIn K true) from op_notIn_seq) (pe_op op_add_str (pv 1) (pv 5)) (pv 3) (by rfl))) (fun _ _ _ _ _ => (pe_op op_add_str (pv 1) (pv 5)))) pa_nil)))))
    (pss_one (ps_ret (pv 4)))))), ?_⟩
  have wd := steps_words t []
  have wl : ((t.steps .first []).map (·.1)).length = t.size := by rw [List.length_map, B.steps_len]
  generalize hPs : (t.steps .first []).map (·.1) = Ps at q wd wl
  refine ⟨_, rfl, v, t, [], by rw [str_0]; rfl, hv, by omega, by show t.size + 0 ≤ 500; omega, fun p us H1 s1 ep st => ?_⟩
  refine ⟨p, rfl, ⟨_, SqL.of ep⟩, fun D nD => ?_⟩
  have k1 := same_new nD (.lst [])
  have hl := st.len
  rw [B.steps_len] at hl
  refine lc_list (K := K) (a := p) (xs := us) (fun i H' => Same H1 H' ∧ H' D = some (.lst ((Ps.take i).map vt))) ⟨k1, upd_same⟩ (fun i H' _ hp => SqL.of (hp.1 _ _ ep)) (fun i x H' hx hp => ?_) (fun H2 hp => ?_)
  · obtain ⟨sm, ed⟩ := hp
    obtain ⟨a, pq, c, rfl, es, ea⟩ := st.get hx
    have hc : Ps[i]? = some pq := by rw [← hPs, List.getElem?_map, es]; rfl
    have hi := (List.getElem?_eq_some_iff.mp hx).1
    refine ⟨a, _, rfl, SqT.of (sm _ _ ea), rfl, _, _, rfl, _, _, rfl, rfl, rfl, kept ?_⟩
    refine ⟨_, rfl, _, ed, ?_, fun b o e => ?_, ?_⟩
    · rw [List.length_map, List.length_take]; exact small1000 (by omega)
    · rw [upd_ne (ne_of_none e nD)]; exact sm _ _ e
    · rw [upd_same, take_next hc, List.map_append]; rfl
  · obtain ⟨sm, ed⟩ := hp
    rw [List.take_of_length_le (by omega)] at ed
    refine ⟨(by show 0 ≤ sizeLine; decide), fun fa nfa => ?_⟩
    have k2 := same_new nfa (.lst [])
    have nDf : D ≠ fa := ne_of_none ed nfa
    have s2 := (s1.trans sm).trans k2
    have ed2 := k2 _ _ ed
    have nfaH : H fa = none := by
      cases z : H fa with
      | none => rfl
      | some o => rw [(s1.trans sm) _ _ z] at nfa; cases nfa
    have efa := upd_same (H := H2) (a := fa) (o := .lst [])
    generalize upd H2 fa (.lst []) = H3 at s2 ed2 efa
    refine ⟨_, rfl, D, rfl, ⟨_, SqL.of ed2⟩, ?_⟩
    refine for_list (K := K) (a := D) (xs := Ps.map vt) (fun i σ H' => ∃ o1, σ = [some v, o1, none, some (.ref D), some (.ref fa), none] ∧ Same H H' ∧ H' D = some (.lst (Ps.map vt)) ∧ H' fa = some (.lst ((opensOf Ps (Ps.take i)).map vt))) ⟨_, rfl, s2, ed2, efa⟩ (fun i σ H' _ hp => by obtain ⟨_, _, _, h, _⟩ := hp; exact SqL.of h) (fun i x σ H' hx hp => ?_) (fun σ H' hp => ?_)
    · obtain ⟨o1, rfl, s', eD', ef'⟩ := hp
      rw [List.getElem?_map] at hx
      obtain ⟨pq, hpq, rfl⟩ := Option.map_eq_some_iff.mp hx
      have hi := (List.getElem?_eq_some_iff.mp hpq).1
      have pl := wd pq (List.mem_of_getElem? hpq)
      have pl : pq.length ≤ 30 := by
        have e : ([] : List Nat).length = 0 := rfl
        omega
      refine ⟨_, rfl, .inl ⟨rfl, _, SqL.of ef'⟩, _, rfl, fun L nL => ?_⟩
      have k4 := same_new nL (.lst [])
      have elr : (Str.ofString "lr").cps.toList = [108, 114] := by decide +kernel
      refine lc_text (x := Str.ofString "lr") (fun j H'' => Same H' H'' ∧ H'' L = some (.lst ((([pq ++ [108], pq ++ [114]].take j).filter fun p => decide (p ∉ Ps)).map vt))) ⟨k4, upd_same⟩ (fun j c H'' hc hp => ?_) (fun H'' hp => ?_)
      · obtain ⟨s5, eL⟩ := hp
        rw [elr] at hc
        have hj : j < 2 := (List.getElem?_eq_some_iff.mp hc).1
        have hcj : [pq ++ [108], pq ++ [114]][j]? = some (pq ++ [c]) := by
          match j, hj, hc with
          | 0, _, hc => cases hc; rfl
          | 1, _, hc => cases hc; rfl
        have ec : tx pq ++ ch c = tx (pq ++ [c]) := tx_app pq [c]
        have szc : (tx pq).length + (ch c).length ≤ sizeLine := small (by rw [tx_len]; show _ + 1 ≤ 1000; omega)
        refine ⟨rfl, ?_⟩
        refine ⟨_, rfl, _, rfl, _, _, rfl, rfl, szc, ?_⟩
        rw [ec]
        refine ⟨_, rfl, D, _, rfl, .inl (SqL.of (s5 _ _ eD')), rfl, flat_texts Ps, _, rfl, ?_⟩
        rw [if_pos rfl, inV_texts, take_next hcj, List.filter_append]
        by_cases hm : pq ++ [c] ∈ Ps
        · rw [decide_eq_true hm, List.filter_cons_of_neg (by simpa using hm), List.filter_nil, List.append_nil]
          exact iteF ⟨s5, eL⟩
        · rw [decide_eq_false hm, List.filter_cons_of_pos (by simpa using hm), List.filter_nil]
          refine iteT ⟨_, rfl, _, rfl, _, _, rfl, rfl, szc, ?_⟩
          rw [ec]
          refine ⟨_, eL, ?_, fun b o e => ?_, ?_⟩
          · rw [List.length_map]
            exact Nat.lt_of_le_of_lt (Nat.le_trans (List.length_filter_le _ _) (Nat.le_trans (List.length_take_le _ _) (by show j ≤ 2; omega))) (by decide)
          · rw [upd_ne (ne_of_none e nL)]; exact s5 _ _ e
          · rw [upd_same, List.map_append]; rfl
      · obtain ⟨s5, eL⟩ := hp
        have eL : H'' L = some (.lst ((sidesOf Ps pq).map vt)) := by
          rw [eL, elr]
          rfl
        have ol := opens_len Ps (Ps.take i)
        rw [List.length_take] at ol
        have sl : (sidesOf Ps pq).length ≤ 2 := Nat.le_trans (List.length_filter_le _ _) (Nat.le_refl 2)
        have eD5 := s5 _ _ eD'
        have ef5 := s5 _ _ ef'
        refine ⟨fa, L, _, _, rfl, rfl, ef5, eL, ?_, _, rfl, fun b o e => ?_, ?_, ?_⟩
        · rw [List.length_map, List.length_map]; exact small (by omega)
        · rw [upd_ne (ne_of_none e nfaH)]; exact s5 _ _ (s' _ _ e)
        · rw [upd_ne nDf]; exact eD5
        · rw [upd_same, take_next hpq]
          unfold opensOf
          rw [List.flatMap_append, List.map_append]
          show _ = some (HO.lst (_ ++ List.map vt (sidesOf Ps pq ++ [])))
          rw [List.append_nil]
    · obtain ⟨o1, rfl, s', eD', ef'⟩ := hp
      rw [List.length_map, List.take_length] at ef'
      exact ⟨_, rfl, q fa H' s' nfaH ef'⟩
end
/-! ### sorted(xs), xs a list of (text, int) -/
section
variable {X : Cx}
def shTI : Nat → Bool := fun i => i == 0
def rSortTI (K : PySem.W.Frag) : List V → Hp → VK → Prop := fun vs H Q => ∃ (a : Addr) (xs : List V), vs = [V.ref a] ∧ SqL K H a xs ∧ (∀ x ∈ xs, ∃ (t : Addr) (k : Str) (i : Int), x = .ref t ∧ H t = some (.tup [.str k, .int i])) ∧
  ∀ (ys : List V) (p : Addr), ys.Perm xs → H p = none → Q (.ref p) (upd H p (.lst ys))
theorem tups_of {h : Heap} {shape : Nat → Bool} : ∀ {vs : List Value}, (∀ v ∈ vs, ∃ f, PyProof.Rows.TupOf h shape v f) → ∃ fs, PyProof.Rows.TupsOf h shape vs fs
  | [], _ => ⟨[], .nil⟩
  | v :: vs, H => by
    obtain ⟨f, hf⟩ := H v List.mem_cons_self
    obtain ⟨fs, hfs⟩ := tups_of (vs := vs) fun u hu => H u (List.mem_cons_of_mem _ hu)
    exact ⟨f :: fs, .cons hf hfs⟩
theorem cr_sortTI : CallR X (.builtin "sorted") (rSortTI X.K) := by
  intro pins s σ H vs us Q I r h
  obtain ⟨a, xs, rfl, hs, hx, q⟩ := h
  obtain ⟨its, rv, hl, hz⟩ := I.list hs
  obtain ⟨u, rfl, ru⟩ := vals1 r
  obtain rfl : u = Value.ref a := ru
  obtain ⟨e1, e2⟩ := refs_back rv fun x m => by
    obtain ⟨t, _, _, e, _⟩ := hx x m
    exact ⟨t, e⟩
  have raw : ∀ v ∈ its, ∃ (t : Addr) (o : Obj) (k : Str) (i : Int) (t1 t2 : Tok) (n : Nat), v = .ref t ∧ s.heap.get? t = some o ∧ o.cls = .type "tuple" ∧ o.data = .seq #[.str k t1, .int i t2] n := fun v hv => by
    obtain ⟨t, rfl⟩ := e2 v hv
    have hm : V.ref t ∈ xs := by rw [e1]; exact List.mem_map.mpr ⟨_, hv, rfl⟩
    obtain ⟨t', k, i, e, ht⟩ := hx _ hm
    cases e
    obtain ⟨_, its2, r2, o, ho, hc, n, hd⟩ := I.hok _ _ ht
    obtain ⟨u1, u2, rfl, ri, rj⟩ := vals2 r2
    obtain ⟨t1, rfl⟩ := ri
    obtain ⟨t2, rfl⟩ := rj
    exact ⟨t, o, k, i, t1, t2, n, rfl, ho, hc, hd⟩
  obtain ⟨fs, hfs⟩ := tups_of (h := s.heap) (shape := shTI) (vs := its) fun v hv => by
    obtain ⟨t, o, k, i, t1, t2, n, rfl, ho, hc, hd⟩ := raw v hv
    exact ⟨.str k t1, t, o, _, n, rfl, ho, hc, hd, rfl, (fun e => absurd e (by decide)), fun _ => ⟨k, t1, rfl⟩⟩
  refine PyProof.Rows.G.sorted_tups (shape := shTI) hl.isList hfs (fun v hv => ?_) (by rw [← rv.length]; exact hz) fun st' hp _ _ => ?_
  · obtain ⟨t, o, k, i, t1, t2, n, rfl, ho, hc, hd⟩ := raw v hv
    exact ⟨[Sum.inr k.cps.toList, Sum.inl i], PyProof.Rows.G.tupKeyC_of ho hc hd rfl⟩
  · generalize hout : (arrOf st').map (·.2) = out
    have hp' : out.toList.Perm its := by
      rw [← hout, Array.toList_map]
      have e := (Array.perm_iff_toList_perm.mp hp).map Prod.snd
      rw [pairsOf_toList, List.map_snd_zip (Nat.le_refl _)] at e
      exact e
    have h3 : ∀ u ∈ out.toList, ∃ a, u = Value.ref a := fun u hu => e2 u (hp'.mem_iff.mp hu)
    obtain ⟨ep, he'⟩ := PyProof.Rows.sortedAll_at s.heap its out
    have hpp : (out.toList.map backV).Perm xs := by rw [e1]; exact hp'.map backV
    have hlen : (out.toList.map backV).length ≤ sizeLine := by rw [hpp.length_eq]; exact hz
    exact ⟨.ref _, upd H (s.heap.objs.size + 1) (.lst (out.toList.map backV)), I.laid (t' := s.toks) (fun _ _ => PyProof.Rows.sortedAll_old) (Nat.le_succ _) ⟨hlen, out.toList, ep, vals_back h3, he'⟩, rfl, q _ _ hpp (I.hok.fresh (Nat.le_succ _))⟩
end
/-! ### nests, _law_nest -/
abbrev Lk := List Nat × Nat
abbrev En := B × List Lk
inductive LkAt (H : Hp) : List V → List Lk → Prop
  | nil : LkAt H [] []
  | cons {a : Addr} {p : List Nat} {i : Nat} {vs : List V} {ls : List Lk} : H a = some (.tup [vt p, .int (i : Int)]) → LkAt H vs ls → LkAt H (.ref a :: vs) ((p, i) :: ls)
theorem LkAt.keep {H H' : Hp} (k : KeepT H H') {vs : List V} {ls : List Lk} (h : LkAt H vs ls) : LkAt H' vs ls := by
  induction h with
  | nil => exact .nil
  | cons e _ ih => exact .cons (k _ _ e) ih
theorem LkAt.len {H : Hp} {vs : List V} {ls : List Lk} (h : LkAt H vs ls) : vs.length = ls.length := by
  induction h with
  | nil => rfl
  | cons _ _ ih => rw [List.length_cons, List.length_cons, ih]
theorem LkAt.snoc {H : Hp} {vs : List V} {ls : List Lk} (h : LkAt H vs ls) {a : Addr} {p : List Nat} {i : Nat} (e : H a = some (.tup [vt p, .int (i : Int)])) : LkAt H (vs ++ [.ref a]) (ls ++ [(p, i)]) := by
  induction h with
  | nil => exact .cons e .nil
  | cons e' _ ih => exact .cons e' ih
theorem LkAt.mem {H : Hp} {vs : List V} {ls : List Lk} (h : LkAt H vs ls) : ∀ x ∈ vs, ∃ (t : Addr) (k : Str) (i : Int), x = .ref t ∧ H t = some (.tup [.str k, .int i]) := by
  induction h with
  | nil => intro x hx; cases hx
  | @cons a p i _ _ e _ ih =>
    intro x hx
    rcases List.mem_cons.mp hx with rfl | hx
    · exact ⟨a, _, _, rfl, e⟩
    · exact ih x hx
theorem LkAt.perm {H : Hp} {vs us : List V} (p : us.Perm vs) : ∀ {ls : List Lk}, LkAt H vs ls → ∃ ks, LkAt H us ks ∧ ks.Perm ls := by
  induction p with
  | nil => intro ls h; exact ⟨ls, h, .refl _⟩
  | cons x _ ih =>
    intro ls h
    cases h with
    | cons e h =>
      obtain ⟨ks, h1, h2⟩ := ih h
      exact ⟨_, .cons e h1, h2.cons _⟩
  | swap x y l =>
    intro ls h
    cases h with
    | cons e h =>
      cases h with
      | cons e' h => exact ⟨_, .cons e' (.cons e h), .swap _ _ _⟩
  | trans _ _ ih1 ih2 =>
    intro ls h
    obtain ⟨k1, a1, b1⟩ := ih2 h
    obtain ⟨k2, a2, b2⟩ := ih1 a1
    exact ⟨k2, a2, b2.trans b1⟩
inductive EnAt (H : Hp) : List V → List En → Prop
  | nil : EnAt H [] []
  | cons {a la : Addr} {tv : V} {us : List V} {t : B} {ls : List Lk} {vs : List V} {es : List En} : H a = some (.tup [tv, .ref la]) → BAt H tv t → H la = some (.tup us) → LkAt H us ls → EnAt H vs es → EnAt H (.ref a :: vs) ((t, ls) :: es)
theorem EnAt.keep {H H' : Hp} (k : KeepT H H') {vs : List V} {es : List En} (h : EnAt H vs es) : EnAt H' vs es := by
  induction h with
  | nil => exact .nil
  | cons e1 e2 e3 e4 _ ih => exact .cons (k _ _ e1) (e2.keep k) (k _ _ e3) (e4.keep k) ih
theorem EnAt.len {H : Hp} {vs : List V} {es : List En} (h : EnAt H vs es) : vs.length = es.length := by
  induction h with
  | nil => rfl
  | cons _ _ _ _ _ ih => rw [List.length_cons, List.length_cons, ih]
theorem EnAt.snoc {H : Hp} {vs : List V} {es : List En} (h : EnAt H vs es) {a la : Addr} {tv : V} {us : List V} {t : B} {ls : List Lk} (e1 : H a = some (.tup [tv, .ref la])) (e2 : BAt H tv t) (e3 : H la = some (.tup us)) (e4 : LkAt H us ls) :
    EnAt H (vs ++ [.ref a]) (es ++ [(t, ls)]) := by
  induction h with
  | nil => exact .cons e1 e2 e3 e4 .nil
  | cons a1 a2 a3 a4 _ ih => exact .cons a1 a2 a3 a4 ih
structure GoodE (lim n : Nat) (e : En) : Prop where
  s1 : 1 ≤ e.1.size
  s2 : e.1.size ≤ lim
  lt : ltB e.1
  nd : (e.2.map (·.1)).Nodup
  op : ∀ l ∈ e.2, l.1 ∈ e.1.op
  ix : ∀ l ∈ e.2, l.2 < n
def GoodN (lim : Nat) (es : List En) : Prop := ∀ i e, es[i]? = some e → GoodE lim i e
theorem GoodN.snoc {lim : Nat} {es : List En} (h : GoodN lim es) {e : En} (g : GoodE lim es.length e) : GoodN lim (es ++ [e]) := by
  intro i x hx
  rw [List.getElem?_append] at hx
  split at hx
  · exact h i x hx
  · rename_i hi
    have h0 : i - es.length = 0 := by
      have := (List.getElem?_eq_some_iff.mp hx).1
      rw [List.length_cons, List.length_nil] at this
      omega
    rw [h0] at hx
    cases hx
    have : i = es.length := by omega
    rw [this]
    exact g
theorem perm_vt {zs : List V} {P : List (List Nat)} (h : zs.Perm (P.map vt)) : ∃ Z : List (List Nat), zs = Z.map vt ∧ Z.Perm P := by
  generalize hL : P.map vt = L at h
  induction h generalizing P with
  | nil => exact ⟨[], rfl, by rw [List.map_eq_nil_iff.mp hL]⟩
  | cons x _ ih =>
    cases P with
    | nil => cases hL
    | cons p P =>
      cases hL
      obtain ⟨Z, rfl, pz⟩ := ih rfl
      exact ⟨p :: Z, rfl, pz.cons p⟩
  | swap x y l =>
    match P, hL with
    | p :: p' :: P, hL =>
      cases hL
      exact ⟨p' :: p :: P, rfl, .swap _ _ _⟩
  | trans _ _ ih1 ih2 =>
    obtain ⟨Z, rfl, pz⟩ := ih2 hL
    obtain ⟨Z', rfl, pz'⟩ := ih1 rfl
    exact ⟨Z', rfl, pz'.trans pz⟩
def spNest : Sp := fun vs H Q _ => ∃ (D : Deck) (n ent lim : Nat) (few : Int), vs = [.ref D.dk, .int (ent : Int), .int (lim : Int), .int few] ∧ DeckOk H D n ∧ n + 4000 ≤ 1000000 ∧ 1 ≤ ent ∧ ent ≤ 20 ∧ 1 ≤ lim ∧ lim ≤ 12 ∧
  ∀ (p : Addr) (us : List V) (es : List En) (n' : Nat) (H' : Hp), DeckOk H' D n' → n' ≤ n + 4000 → SameD D H H' → H' p = some (.tup us) → EnAt H' us es → GoodN lim es → 1 ≤ es.length → es.length ≤ ent → Q (.ref p) H'
section
variable {P : Program} {w : World} {K : PySem.W.Frag} {mg : Str → Option Value} {base : Heap} {f : Addr} {fd : FuncData}
theorem ok_nest (F : Fun K "_law_nest" "_law_nest" s__law_nest f fd) (M : Mgs mg) (D_law_draw : Df P w K mg base 1 "_law_draw" ["_law_deck_here", "_law_many"] spDraw) (D_law_pick : Df P w K mg base 2 "_law_pick" ["_law_deck_here", "_law_items"] (spPick K)) (D_law_mixed : Df P w K mg base 2 "_law_mixed" ["_law_deck_here", "_law_items"] spMixed)
    (D_law_drawn_tree : Df P w K mg base 34 "_law_drawn_tree" ["_law_deck_here", "_law_limit"] spDrawn) (D_law_open : Df P w K mg base 41 "_law_open" ["_law_tree_here"] spOpen) : FnOk P w K mg base CX0 42 f fd ["_law_deck_here", "_law_entries", "_law_limit", "_law_few"] spNest := by
  refine F.ok sc__law_nest (fun vs H Q E h => ?_) (fun cdv A outer s H vs Q E hr h => ?_)
  · obtain ⟨D, n, ent, lim, few, rfl, _⟩ := h
    rfl
  obtain ⟨D, n, ent, lim, few, rfl, d, hn, e1, e20, m1, m12, q⟩ := h
  refine ⟨_, (pss_cons (ps_set (i := 4) sc__law_nest.nd rfl (.inl rfl) (pe_lst pa_nil))
    (pss_cons (ps_for PassesOwn.never rfl (pi_range1 rfl M.range (pa_cons (pe_op op_add pe_int (pe_call D_law_draw.ok (hr.mono (by omega)) rfl D_law_draw.g D_law_draw.kp D_law_draw.b .nil pass0 (pa_cons (pv 0) (pa_cons (pv 1) pa_nil)))) pa_nil)) (pg_name (i := 5) sc__law_nest.nd rfl (.inl rfl))
      (pss_cons (ps_set (i := 6) sc__law_nest.nd rfl (.inl rfl) (pe_call D_law_drawn_tree.ok (hr.mono (by omega)) rfl D_law_drawn_tree.g D_law_drawn_tree.kp D_law_drawn_tree.b .nil pass0 (pa_cons (pv 0) (pa_cons (pv 2) pa_nil))))
    (pss_cons (ps_set (i := 7) sc__law_nest.nd rfl (.inl rfl) (pe_lst pa_nil))
    (pss_cons (ps_for PassesOwn.never rfl (pi_list (pe_call D_law_mixed.ok (hr.mono (by omega)) rfl D_law_mixed.g D_law_mixed.kp D_law_mixed.b .nil pass0 (pa_cons (pv 0) (pa_cons (pe_call D_law_open.ok (hr.mono (by omega)) rfl D_law_open.g D_law_open.kp D_law_open.b .nil pass0 (pa_cons (pv 6) pa_nil)) pa_nil)))) (pg_name (i := 8) sc__law_nest.nd rfl (.inl rfl))
      (pss_cons (ps_set (i := 9) sc__law_nest.nd rfl (.inl rfl) (pe_call D_law_pick.ok (hr.mono (by omega)) rfl D_law_pick.g D_law_pick.kp D_law_pick.b .nil pass0 (pa_cons (pv 0) (pa_cons (pe_lst (pa_cons (pe_op op_sub (pv 5) pe_int) (pa_cons (pe_op op_sub (pe_call D_law_draw.ok (hr.mono (by omega)) rfl D_law_draw.g D_law_draw.kp D_law_draw.b .nil pass0 (pa_cons (pv 0) (pa_cons (pe_op op_add (pv 5) pe_int) pa_nil))) pe_int) pa_nil))) pa_nil))))
    (pss_one (ps_if (PW.pt (pw_and (pt_cmpR op_ge (pv 9) pe_int (nomark _)) (pw_and1 (pt_cmpR op_ge (pe_call D_law_draw.ok (hr.mono (by omega)) rfl D_law_draw.g D_law_draw.kp D_law_draw.b .nil pass0 (pa_cons (pv 0) (pa_cons pe_int pa_nil))) (pv 3) (nomark _)))))
      (pss_one (ps_expr (pe_bm PySem.F.plainAttrs_list PySem.F.slot_list_append PySem.F.type_list_append mt_append (pv 7) (pa_cons (pe_tup (pa_cons (pv 8) (pa_cons (pv 9) pa_nil))) pa_nil)))) pss_nil))))
    (pss_one (ps_expr (pe_bm PySem.F.plainAttrs_list PySem.F.slot_list_append PySem.F.type_list_append mt_append (pv 4) (pa_cons (pe_tup (pa_cons (pv 6) (pa_cons (pe_callTy call_tuple_of rfl M.tuple (by decide +kernel) (pa_cons (pe_callB cr_sortTI rfl M.sorted (by decide +kernel) (pa_cons (pv 7) pa_nil)) pa_nil)) pa_nil))) pa_nil))))))))
    (pss_one (ps_ret (pe_callTy call_tuple_of rfl M.tuple (by decide +kernel) (pa_cons (pv 4) pa_nil)))))), ?_⟩
  refine ⟨(by show 0 ≤ sizeLine; decide), fun pf npf => ?_⟩
  have k1 := same_new npf (.lst [])
  have of := d.new npf
  have ef := upd_same (H := H) (a := pf) (o := .lst [])
  have d1 := d.same k1
  generalize upd H pf (.lst []) = H1 at k1 ef d1 ⊢
  refine ⟨_, rfl, _, rfl, D, n, _, rfl, d1, by omega, by omega, by omega, fun i H2 i0 i1 d2 s2 => ?_⟩
  refine ⟨_, _, rfl, rfl, _, rfl, by omega, by omega, ?_⟩
  refine for_range (lo := 0) (n := (1 + i).toNat) (fun k σ H' => ∃ (us : List V) (es : List En) (n' : Nat) (o5 o6 o7 o8 o9 : Option V), σ = [some (.ref D.dk), some (.int (ent : Int)), some (.int (lim : Int)), some (.int few), some (.ref pf), o5, o6, o7, o8, o9] ∧
    DeckOk H' D n' ∧ n' ≤ n + 1 + 150 * k ∧ SameD D H H' ∧ H' pf = some (.lst us) ∧ EnAt H' us es ∧ GoodN lim es ∧ es.length = k) ⟨[], [], n + 1, _, _, _, _, _, rfl, d2, by omega, (SameD.of k1).trans s2, s2.at of ef, .nil, (fun i e h => by cases h), rfl⟩ (fun k σ H3 hk hp => ?_) (fun σ H3 hp => ?_)
  · obtain ⟨us, es, n3, o5, o6, o7, o8, o9, rfl, d3, n3b, s3, ef3, en3, g3, l3⟩ := hp
    have hk20 : k < 20 := by omega
    refine ⟨_, rfl, _, rfl, D, n3, lim, rfl, d3, by omega, m1, by omega, fun tv t n4 H4 d4 n4b s4 at4 z1 z2 ltb => ?_⟩
    refine ⟨(by show 0 ≤ sizeLine; decide), fun pl npl => ?_⟩
    have k5 := same_new npl (.lst [])
    have ol := d4.new npl
    have el := upd_same (H := H4) (a := pl) (o := .lst [])
    have d5 := d4.same k5
    have at5 := at4.same k5
    have s5 := (s3.trans s4).trans (SameD.of k5)
    have nplH : H pl = none := (s3.trans s4).free d4 npl
    have nfl : pf ≠ pl := ne_of_none (s4.at of ef3) npl
    have ef5 : upd H4 pl (.lst []) pf = some (.lst us) := k5 _ _ (s4.at of ef3)
    have en5 : EnAt (upd H4 pl (.lst [])) us es := (en3.keep (s4.keepT d3)).keep (Tw.Same.keepT k5)
    generalize upd H4 pl (.lst []) = H5 at k5 el d5 at5 s5 ef5 en5 ⊢
    have ndO := opens_nodup ((t.steps .first []).map (·.1)) (steps_nodup t [])
    have lenO := opens_len ((t.steps .first []).map (·.1)) ((t.steps .first []).map (·.1))
    rw [List.length_map, B.steps_len] at lenO
    have opO := fun p => @opens_open t p
    refine ⟨_, rfl, _, rfl, tv, t, rfl, at5, by omega, fun po H6 s6 npo epo => ?_⟩
    generalize opensOf ((t.steps .first []).map (·.1)) ((t.steps .first []).map (·.1)) = O at ndO lenO opO epo
    have d6 := d5.same s6
    have oo : Off D po := by
      refine d5.new npo
    refine ⟨D, n4, po, _, rfl, d6, by rw [List.length_map]; omega, epo, oo, by rw [List.length_map]; omega, fun pm zs H7 d7 s7 npm epm perm om => ?_⟩
    rw [List.length_map] at d7
    obtain ⟨Z, rfl, pz⟩ := perm_vt perm
    have zl := pz.length_eq
    have s67 := (SameD.of (D := D) s6).trans s7
    have nlm : pl ≠ pm := ne_of_none (s6 _ _ el) npm
    refine ⟨pm, rfl, ⟨_, SqL.of epm⟩, ?_⟩
    refine for_list (K := K) (a := pm) (xs := Z.map vt) (fun j σ H' => ∃ (vs : List V) (ls : List Lk) (n' : Nat) (o8 o9 : Option V), σ = [some (.ref D.dk), some (.int (ent : Int)), some (.int (lim : Int)), some (.int few), some (.ref pf), some (.int (0 + (k : Int))), some tv, some (.ref pl), o8, o9] ∧
      DeckOk H' D n' ∧ n' ≤ n4 + O.length + 3 * j ∧ SameD D H H' ∧ KeepT H5 H' ∧ H' pm = some (.lst (Z.map vt)) ∧ H' pf = some (.lst us) ∧ H' pl = some (.lst vs) ∧ LkAt H' vs ls ∧ ls.length ≤ j ∧ (ls.map (·.1)).Sublist (Z.take j) ∧ ∀ l ∈ ls, l.2 < k)
      ⟨[], [], _, _, _, rfl, d7, by omega, s5.trans s67, s67.keepT d5, epm, s67.at of ef5, s67.at ol el, .nil, Nat.le_refl 0, .slnil, (fun l hl => by cases hl)⟩ (fun j σ H' _ hp => by obtain ⟨_, _, _, _, _, _, _, _, _, _, h, _⟩ := hp; exact SqL.of h) (fun j x σ H8 hx hp => ?_) (fun σ H8 hp => ?_)
    · obtain ⟨vs, ls, n8, o8, o9, rfl, d8, n8b, s8, kt8, em8, ef8, el8, lk8, ll8, sb8, ix8⟩ := hp
      rw [List.getElem?_map] at hx
      obtain ⟨pq, hpq, rfl⟩ := Option.map_eq_some_iff.mp hx
      have hj := (List.getElem?_eq_some_iff.mp hpq).1
      refine ⟨_, rfl, _, rfl, _, _, rfl, rfl, _, rfl, _, rfl, _, _, rfl, rfl, D, n8, _, rfl, d8, by omega, by omega, by omega, fun r H9 r0 r1 d9 s9 => ?_⟩
      refine ⟨_, _, rfl, rfl, (by show 2 ≤ sizeLine; decide), fun pi npi => ?_⟩
      have k9 := same_new npi (.lst [.int (0 + (k : Int) - 1), .int (r - 1)])
      refine ⟨D, n8 + 1, _, rfl, d9.same k9, by omega, .inr ⟨pi, _, rfl, upd_same, d9.new npi, List.cons_ne_nil _ _, (by show 2 ≤ 60; decide), fun x H10 hx d10 s10 => ?_⟩⟩
      obtain ⟨ix, rfl, ix0, ix1⟩ : ∃ ix : Int, x = .int ix ∧ -1 ≤ ix ∧ ix < (k : Int) := by
        rcases List.mem_cons.mp hx with rfl | hx
        · exact ⟨_, rfl, by omega, by omega⟩
        · rw [List.mem_singleton.mp hx]
          exact ⟨_, rfl, by omega, by omega⟩
      have s10' := (s9.trans (SameD.of k9)).trans s10
      have tk : Z.take (j + 1) = Z.take j ++ [pq] := take_next hpq
      refine ⟨_, rfl, _, _, rfl, rfl, _, rfl, ?_⟩
      by_cases hix : ix ≥ 0
      · rw [decide_eq_true hix]
        refine iteT ⟨_, rfl, D, n8 + 2, 4, rfl, d10, by omega, by decide, by decide, fun r2 H11 _ _ d11 s11 => ?_⟩
        have sA := s10'.trans s11
        refine ⟨_, rfl, _, _, rfl, rfl, _, rfl, ?_⟩
        by_cases hf : r2 ≥ few
        · rw [decide_eq_true hf]
          refine iteT ?_
          have el11 := sA.at ol el8
          refine ⟨_, rfl, .inl ⟨rfl, _, SqL.of el11⟩, _, rfl, _, rfl, (by show 2 ≤ sizeLine; decide), fun pt npt => ?_⟩
          have k12 := same_new npt (.tup [vt pq, .int ix])
          have et := upd_same (H := H11) (a := pt) (o := .tup [vt pq, .int ix])
          have vl := lk8.len
          refine ⟨pl, _, _, rfl, rfl, k12 _ _ el11, by show _ < 16777216; omega, ?_⟩
          have sB := sA.trans (SameD.of k12)
          have d12 := d11.same k12
          have el12 := k12 _ _ el11
          have em12 := k12 _ _ (sA.at om em8)
          have ef12 := k12 _ _ (sA.at of ef8)
          have lk12 := (lk8.keep (sA.keepT d8)).keep (Tw.Same.keepT k12)
          generalize upd H11 pt (.tup [vt pq, .int ix]) = H12 at k12 et sB d12 el12 em12 ef12 lk12 ⊢
          have kT : KeepT H12 (upd H12 pl (.lst (vs ++ [.ref pt]))) := fun b xs e => by
            rw [upd_ne (fun z => by rw [z, el12] at e; cases e)]; exact e
          have exi : ix = ((ix.toNat : Nat) : Int) := by omega
          rw [exi] at et
          refine ⟨vs ++ [.ref pt], ls ++ [(pq, ix.toNat)], n8 + 3, _, _, rfl, d12.put ol _, by omega, (s8.trans sB).put nplH _, (kt8.trans (sB.keepT d8)).trans kT, ?_, ?_, upd_same, (lk12.keep kT).snoc (kT _ _ et), by rw [List.length_append]; show _ + 1 ≤ _; omega, ?_, ?_⟩
          · rw [upd_ne (Ne.symm nlm)]; exact em12
          · rw [upd_ne nfl]; exact ef12
          · rw [tk, List.map_append]
            exact sb8.append (List.Sublist.refl _)
          · intro l hl
            rcases List.mem_append.mp hl with h | h
            · exact ix8 l h
            · rw [List.mem_singleton.mp h]
              show ix.toNat < k
              omega
        · rw [decide_eq_false hf]
          refine iteF ?_
          refine ⟨vs, ls, n8 + 3, _, _, rfl, d11, by omega, s8.trans sA, kt8.trans (sA.keepT d8), sA.at om em8, sA.at of ef8, sA.at ol el8, lk8.keep (sA.keepT d8), by omega, ?_, ix8⟩
          rw [tk]
          exact sb8.trans (List.sublist_append_left _ _)
      · rw [decide_eq_false hix]
        refine iteF (iteF ?_)
        refine ⟨vs, ls, n8 + 2, _, _, rfl, d10, by omega, s8.trans s10', kt8.trans (s10'.keepT d8), s10'.at om em8, s10'.at of ef8, s10'.at ol el8, lk8.keep (s10'.keepT d8), by omega, ?_, ix8⟩
        rw [tk]
        exact sb8.trans (List.sublist_append_left _ _)
    · obtain ⟨vs, ls, n8, o8, o9, rfl, d8, n8b, s8, kt8, em8, ef8, el8, lk8, ll8, sb8, ix8⟩ := hp
      rw [List.length_map] at n8b ll8 sb8
      have at8 := at5.keep kt8
      refine ⟨_, rfl, .inl ⟨rfl, _, SqL.of ef8⟩, _, rfl, _, rfl, pl, vs, rfl, SqL.of el8, lk8.mem, fun ys ps perm2 nps => ?_⟩
      obtain ⟨ks, lkS, pk⟩ := lk8.perm perm2
      have k9 := same_new nps (.lst ys)
      have es9 := upd_same (H := H8) (a := ps) (o := .lst ys)
      have d9 := d8.same k9
      have ef9 := k9 _ _ ef8
      have at9 := at8.same k9
      have lk9 := lkS.keep (Tw.Same.keepT k9)
      have en9 := (en5.keep kt8).keep (Tw.Same.keepT k9)
      have s9 := s8.trans (SameD.of k9)
      generalize upd H8 ps (.lst ys) = H9 at k9 es9 d9 ef9 at9 lk9 en9 s9 ⊢
      refine ⟨ps, ys, rfl, .inl ⟨SqL.of es9, fun pt npt => ?_⟩⟩
      have k10 := same_new npt (.tup ys)
      have et10 := upd_same (H := H9) (a := pt) (o := .tup ys)
      have d10 := d9.same k10
      have ef10 := k10 _ _ ef9
      have at10 := at9.same k10
      have lk10 := lk9.keep (Tw.Same.keepT k10)
      have en10 := en9.keep (Tw.Same.keepT k10)
      have s10 := s9.trans (SameD.of k10)
      generalize upd H9 pt (.tup ys) = H10 at k10 et10 d10 ef10 at10 lk10 en10 s10 ⊢
      refine ⟨(by show 2 ≤ sizeLine; decide), fun pe npe => ?_⟩
      have k11 := same_new npe (.tup [tv, .ref pt])
      have ee11 := upd_same (H := H10) (a := pe) (o := .tup [tv, .ref pt])
      have d11 := d10.same k11
      have ef11 := k11 _ _ ef10
      have et11 := k11 _ _ et10
      have at11 := at10.same k11
      have lk11 := lk10.keep (Tw.Same.keepT k11)
      have en11 := en10.keep (Tw.Same.keepT k11)
      have s11 := s10.trans (SameD.of k11)
      generalize upd H10 pe (.tup [tv, .ref pt]) = H11 at k11 ee11 d11 ef11 et11 at11 lk11 en11 s11 ⊢
      have ul := en11.len
      refine ⟨pf, _, _, rfl, rfl, ef11, by show _ < 16777216; omega, ?_⟩
      have kT : KeepT H11 (upd H11 pf (.lst (us ++ [.ref pe]))) := fun b xs e => by
        rw [upd_ne (fun z => by rw [z, ef11] at e; cases e)]; exact e
      have ksm : ∀ l ∈ ks, l ∈ ls := fun l hl => pk.mem_iff.mp hl
      have sub : ∀ l ∈ ls, l.1 ∈ O := fun l hl => pz.mem_iff.mp (List.mem_of_mem_take (sb8.subset (List.mem_map.mpr ⟨l, hl, rfl⟩)))
      have ndk : (ks.map (·.1)).Nodup := (pk.map (·.1)).nodup_iff.mpr (((pz.nodup_iff.mpr ndO).sublist (List.take_sublist _ _)).sublist sb8)
      refine ⟨us ++ [.ref pe], es ++ [(t, ks)], n8, _, _, _, _, _, rfl, d11.put of _, by omega, s11.put npf _, upd_same, (en11.keep kT).snoc (kT _ _ ee11) (at11.keep kT) (kT _ _ et11) (lk11.keep kT), g3.snoc ⟨z1, z2, ltb, ndk, fun l hl => opO l.1 (sub l (ksm l hl)), fun l hl => by rw [l3]; exact ix8 l (ksm l hl)⟩, by rw [List.length_append, l3]; rfl⟩
  · obtain ⟨us, es, n3, o5, o6, o7, o8, o9, rfl, d3, n3b, s3, ef3, en3, g3, l3⟩ := hp
    refine ⟨_, rfl, pf, us, rfl, .inl ⟨SqL.of ef3, fun pr npr => ?_⟩⟩
    have k4 := same_new npr (.tup us)
    exact q pr us es n3 _ (d3.same k4) (by omega) (s3.trans (SameD.of k4)) upd_same (en3.keep (Tw.Same.keepT k4)) g3 (by omega) (by omega)
end
/-! ### what hangs where; add_spots -/
def B.sub : B → (List Nat → B) → B
  | .nil, h => h []
  | .node l x r, h => .node (l.sub fun w => h (108 :: w)) x (r.sub fun w => h (114 :: w))
/-- the spots at us tell the trees ds: the first is none, each later one has its sides before it -/
structure SpAt (H : Hp) (us : List V) (ds : List B) : Prop where
  len : us.length = ds.length
  pos : ds[0]? = some .nil
  zero : ∃ a, us[0]? = some (.ref a) ∧ H a = some (.tup [.int 0, .str "", .int 0])
  each : ∀ k, 0 < k → k < ds.length → ∃ (a : Addr) (i j c : Nat) (l r : B), us[k]? = some (.ref a) ∧ H a = some (.tup [.int (i : Int), .str (ch c), .int (j : Int)]) ∧ i < k ∧ j < k ∧ ds[i]? = some l ∧ ds[j]? = some r ∧ ds[k]? = some (.node l c r)
theorem SpAt.keep {H H' : Hp} (k : KeepT H H') {us : List V} {ds : List B} (h : SpAt H us ds) : SpAt H' us ds := by
  obtain ⟨a, e1, e2⟩ := h.zero
  refine ⟨h.len, h.pos, ⟨a, e1, k _ _ e2⟩, fun n n0 n1 => ?_⟩
  obtain ⟨a, i, j, c, l, r, h1, h2, h3⟩ := h.each n n0 n1
  exact ⟨a, i, j, c, l, r, h1, k _ _ h2, h3⟩
theorem SpAt.snoc {H : Hp} {us : List V} {ds : List B} (h : SpAt H us ds) {a : Addr} {i j c : Nat} {l r : B} (e : H a = some (.tup [.int (i : Int), .str (ch c), .int (j : Int)])) (hl : ds[i]? = some l) (hr : ds[j]? = some r) :
    SpAt H (us ++ [.ref a]) (ds ++ [.node l c r]) := by
  have hi := (List.getElem?_eq_some_iff.mp hl).1
  have hj := (List.getElem?_eq_some_iff.mp hr).1
  obtain ⟨z, z1, z2⟩ := h.zero
  have zl := (List.getElem?_eq_some_iff.mp z1).1
  have len := h.len
  refine ⟨by rw [List.length_append, List.length_append, len]; rfl, by rw [List.getElem?_append_left (by omega)]; exact h.pos, ⟨z, by rw [List.getElem?_append_left zl]; exact z1, z2⟩, fun n n0 n1 => ?_⟩
  rw [List.length_append, List.length_cons, List.length_nil] at n1
  by_cases hn : n < ds.length
  · obtain ⟨a', i', j', c', l', r', h1, h2, h3, h4, h5, h6, h7⟩ := h.each n n0 hn
    exact ⟨a', i', j', c', l', r', by rw [List.getElem?_append_left (by omega)]; exact h1, h2, h3, h4, by rw [List.getElem?_append_left (by omega)]; exact h5, by rw [List.getElem?_append_left (by omega)]; exact h6, by rw [List.getElem?_append_left hn]; exact h7⟩
  · have hn : n = ds.length := by omega
    subst hn
    refine ⟨a, i, j, c, l, r, ?_, e, hi, hj, by rw [List.getElem?_append_left hi]; exact hl, by rw [List.getElem?_append_left hj]; exact hr, by rw [List.getElem?_append_right (Nat.le_refl _), Nat.sub_self]; rfl⟩
    rw [← len, List.getElem?_append_right (Nat.le_refl _), Nat.sub_self]
    rfl
/-- the dict at hd tells for each path the spot of what hangs there -/
def HgAt (H : Hp) (hd : Addr) (ds : List B) (h : List Nat → B) : Prop := ∃ kvs : List (Key × V), H hd = some (.dK kvs) ∧ ∀ p : List Nat, ∃ i : Nat, (valV kvs (.inr (tx p))).getD (.int 0) = .int (i : Int) ∧ ds[i]? = some (h p)
/-- all stands still but the list at sp -/
def SameL (sp : Addr) (H H' : Hp) : Prop := ∀ b o, b ≠ sp → H b = some o → H' b = some o
def spAdd (N : Nat) : Sp := fun vs H Q _ => ∃ (sp hd : Addr) (v : V) (t : B) (q : List Nat) (us : List V) (ds : List B) (h : List Nat → B), vs = [.ref sp, v, vt q, .ref hd] ∧ BAt H v t ∧ t.size < N ∧ t.size + q.length ≤ 500 ∧ H sp = some (.lst us) ∧ SpAt H us ds ∧ HgAt H hd ds h ∧ ds.length + t.size ≤ 1000 ∧
  ∀ (k : Nat) (us' : List V) (ex : List B) (H' : Hp), SameL sp H H' → H' sp = some (.lst us') → SpAt H' us' (ds ++ ex) → ex.length = t.size → (ds ++ ex)[k]? = some (t.sub fun w => h (q ++ w)) → (t ≠ .nil → k + 1 = us'.length) → Q (.int (k : Int)) H'
section
variable {P : Program} {w : World} {K : PySem.W.Frag} {mg : Str → Option Value} {base : Heap} {f : Addr} {fd : FuncData}
theorem ok_add (F : Fun K "add_spots" "add_spots" s_add_spots f fd) (M : Mgs mg) (b : Binds K fd ["spots", "tree", "path", "hung"] []) (g : mg "add_spots" = some (.ref f)) : ∀ N : Nat, FnOk P w K mg base CX0 N f fd ["spots", "tree", "path", "hung"] (spAdd N)
  | 0 => by
    have no : ∀ vs H Q E, ¬ spAdd 0 vs H Q E := fun vs H Q E h => by
      obtain ⟨sp, hd, v, t, q, us, ds, h, _, _, h1, _⟩ := h
      omega
    exact ⟨fun vs H Q E h => absurd h (no vs H Q E), fun A outer s H args us vs Q E _ _ _ _ h => absurd h (no vs H Q E)⟩
  | N + 1 => by
    have Dself : Df P w K mg base N "add_spots" ["spots", "tree", "path", "hung"] (spAdd N) := ⟨f, fd, ok_add F M b g N, b, F.kp, g⟩
    refine F.ok sc_add_spots (fun vs H Q E h => ?_) (fun cdv A outer s H vs Q E hr h => ?_)
    · obtain ⟨sp, hd, v, t, q, us, ds, h, rfl, _⟩ := h
      rfl
    obtain ⟨sp, hd, v, t, pq, us, ds, h, rfl, hv, hn, hz, es, sa, hg, hl, q⟩ := h
    refine ⟨_, (pss_cons (ps_if (pt_cmpR op_isN (pv 1) pe_non (nomark _))
      (pss_one (ps_ret (pe_dget2 (Nat.lt_of_le_of_lt (Nat.add_le_add_left (by decide) _) hr.units) (pv 3) (pv 2) pe_int ⟨rfl, rfl, rfl, rfl⟩))) pss_nil)
    (pss_cons (ps_set (i := 4) sc_add_spots.nd rfl (.inl rfl) (pe_call Dself.ok (hr.mono (by omega)) rfl Dself.g Dself.kp Dself.b .nil pass0 (pa_cons (pv 0) (pa_cons (pe_ix ix_tup (pv 1) pe_int (fun _ _ => rfl)) (pa_cons (pe_op op_add_str (pv 2) pe_str) (pa_cons (pv 3) pa_nil))))))
    (pss_cons (ps_set (i := 5) sc_add_spots.nd rfl (.inl rfl) (pe_call Dself.ok (hr.mono (by omega)) rfl Dself.g Dself.kp Dself.b .nil pass0 (pa_cons (pv 0) (pa_cons (pe_ix ix_tup (pv 1) pe_int (fun _ _ => rfl)) (pa_cons (pe_op op_add_str (pv 2) pe_str) (pa_cons (pv 3) pa_nil))))))
    (pss_cons (ps_expr (pe_bm PySem.F.plainAttrs_list PySem.F.slot_list_append PySem.F.type_list_append mt_append (pv 0) (pa_cons (pe_tup (pa_cons (pv 4) (pa_cons (pe_ix ix_tup (pv 1) pe_int (fun _ _ => rfl)) (pa_cons (pv 5) pa_nil)))) pa_nil)))
    (pss_one (ps_ret (pe_op op_sub (pe_callB call_len_seq rfl M.len PySem.boot_len (pa_cons (pv 0) pa_nil)) pe_int))))))), ?_⟩
    obtain ⟨kvs, ek, hk⟩ := id hg
    rcases hv.inv with ⟨rfl, rfl⟩ | ⟨a, l, r, x, tl, tr, rfl, rfl, ea, hl', hr'⟩
    · refine ⟨_, rfl, rfl, _, rfl, iteT ?_⟩
      obtain ⟨i, e1, e2⟩ := hk pq
      refine ⟨_, rfl, hd, rfl, .inl ⟨kvs, .inl ek⟩, _, rfl, _, .inl ⟨kvs, .inr (tx pq), .inl ek, rfl, rfl⟩, ?_⟩
      rw [e1]
      refine q i us [] H (fun b o _ e => e) es (by rw [List.append_nil]; exact sa) rfl ?_ (fun z => absurd rfl z)
      rw [List.append_nil]
      show _ = some (h (pq ++ []))
      rw [List.append_nil]
      exact e2
    · refine ⟨_, rfl, rfl, _, rfl, iteF ?_⟩
      have sz : tl.size + 1 + tr.size < N + 1 := hn
      have sz2 : tl.size + 1 + tr.size + pq.length ≤ 500 := hz
      have sz3 : ds.length + (tl.size + 1 + tr.size) ≤ 1000 := hl
      have nsa : ∀ {H' : Hp} {b : Addr} {xs ys : List V}, H' sp = some (.lst xs) → H' b = some (.tup ys) → b ≠ sp := fun e1 e2 z => by rw [z, e1] at e2; cases e2
      have nsh : hd ≠ sp := fun z => by rw [z, es] at ek; cases ek
      have kT : ∀ {H1 H2 : Hp} {xs : List V}, H1 sp = some (.lst xs) → SameL sp H1 H2 → KeepT H1 H2 := fun e1 sl b xs e => sl b _ (nsa e1 e) e
      refine ⟨_, rfl, _, rfl, a, _, _, _, rfl, rfl, SqT.of ea, rfl, _, rfl, _, _, rfl, rfl, ?_, ?_⟩
      · rw [str_l, tx_len, tx_len]; exact small (by show _ + 1 ≤ 1000; omega)
      rw [str_l, tx_app]
      refine ⟨_, rfl, sp, hd, l, tl, pq ++ [108], us, ds, h, rfl, hl', by omega, by rw [List.length_append]; show _ + (_ + 1) ≤ 500; omega, es, sa, hg, by omega, fun i us1 x1 H1 s1 es1 sa1 xl1 ei _ => ?_⟩
      have k1 := kT es s1
      have ek1 := s1 hd _ nsh ek
      have hg1 : HgAt H1 hd (ds ++ x1) h := ⟨kvs, ek1, fun p => by
        obtain ⟨i, e1, e2⟩ := hk p
        exact ⟨i, e1, by rw [List.getElem?_append_left (List.getElem?_eq_some_iff.mp e2).1]; exact e2⟩⟩
      have ea1 := k1 _ _ ea
      refine ⟨_, rfl, _, rfl, a, _, _, _, rfl, rfl, SqT.of ea1, rfl, _, rfl, _, _, rfl, rfl, ?_, ?_⟩
      · rw [str_r, tx_len, tx_len]; exact small (by show _ + 1 ≤ 1000; omega)
      rw [str_r, tx_app]
      refine ⟨_, rfl, sp, hd, r, tr, pq ++ [114], us1, ds ++ x1, h, rfl, hr'.keep k1, by omega, by rw [List.length_append]; show _ + (_ + 1) ≤ 500; omega, es1, sa1, hg1, by rw [List.length_append]; omega, fun j us2 x2 H2 s2 es2 sa2 xl2 ej _ => ?_⟩
      have k2 := kT es1 s2
      have ea2 := k2 _ _ ea1
      refine ⟨_, rfl, .inl ⟨rfl, _, SqL.of es2⟩, _, rfl, _, rfl, a, _, _, _, rfl, rfl, SqT.of ea2, rfl, _, rfl, (by show 3 ≤ sizeLine; decide), fun pt npt => ?_⟩
      have k3 := same_new npt (.tup [.int (i : Int), .str (ch x), .int (j : Int)])
      have et := upd_same (H := H2) (a := pt) (o := .tup [.int (i : Int), .str (ch x), .int (j : Int)])
      have es3 := k3 _ _ es2
      have sa3 := sa2.keep (Tw.Same.keepT k3)
      have s3 : SameL sp H (upd H2 pt (.tup [.int (i : Int), .str (ch x), .int (j : Int)])) := fun b o hb e => k3 _ _ (s2 b o hb (s1 b o hb e))
      generalize upd H2 pt (.tup [.int (i : Int), .str (ch x), .int (j : Int)]) = H3 at k3 et es3 sa3 s3 ⊢
      have ul := sa3.len
      rw [List.length_append, List.length_append] at ul
      refine ⟨sp, _, _, rfl, rfl, es3, by show _ < 16777216; omega, ?_⟩
      have kS : KeepT H3 (upd H3 sp (.lst (us2 ++ [.ref pt]))) := fun b xs e => by
        rw [upd_ne (nsa es3 e)]; exact e
      have ei2 : ((ds ++ x1) ++ x2)[i]? = some (tl.sub fun w => h (pq ++ [108] ++ w)) := by
        rw [List.getElem?_append_left (List.getElem?_eq_some_iff.mp ei).1]; exact ei
      have sa4 := (sa3.keep kS).snoc (kS _ _ et) ei2 ej
      refine ⟨_, rfl, _, _, rfl, .inl (SqL.of upd_same), ?_⟩
      refine ⟨_, _, rfl, rfl, ?_⟩
      have ek4 : (((us2 ++ [V.ref pt]).length : Nat) : Int) - 1 = ((us2.length : Nat) : Int) := by
        rw [List.length_append, List.length_cons, List.length_nil]; omega
      show Q (.int _) _
      rw [ek4]
      refine q us2.length (us2 ++ [.ref pt]) (x1 ++ x2 ++ [.node (tl.sub fun w => h (pq ++ [108] ++ w)) x (tr.sub fun w => h (pq ++ [114] ++ w))]) _ (fun b o hb e => by rw [upd_ne hb]; exact s3 b o hb e) upd_same (by rw [← List.append_assoc, ← List.append_assoc]; exact sa4) ?_ ?_ (fun _ => by rw [List.length_append]; rfl)
      · rw [List.length_append, List.length_append, xl1, xl2]
        show tl.size + tr.size + 1 = tl.size + 1 + tr.size
        omega
      · rw [← List.append_assoc, ← List.append_assoc, List.getElem?_append_right (by rw [List.length_append, List.length_append]; omega)]
        rw [show us2.length - (ds ++ x1 ++ x2).length = 0 by rw [List.length_append, List.length_append]; omega]
        show some _ = some (B.node (tl.sub fun w => h (pq ++ 108 :: w)) x (tr.sub fun w => h (pq ++ 114 :: w)))
        simp only [List.append_assoc, List.cons_append, List.nil_append]
end
/-! ### name = {key: value for ..} on one line, the name a local -/
section
variable {X : Cx}
theorem sw_dict {kx vx : Expr} {gs : List Comprehension} {scope : Scope} {pos py : Pos} {y : Str} {l : Nat} {env : Env} (hk : env.scope.kind = .function) (hy : env.scope.names.lookup y = some .local) (hl : (py.line == pos.line) = true)
    (ha : (scope.names.any fun (n, k) => n == y && (k == .local || k == .cell)) = false) : swapsWith (.DictComp kx vx gs scope pos) (some (.Name y py)) l env = pure true := by
  have ky : env.kindOf y = some .local := hy
  have hb : env.blockKind = .function := by unfold Env.blockKind; rw [hk]; rfl
  unfold swapsWith
  simp only [hb, ky, ha, Expr.pos, hl]
  rfl
theorem ps_setDc {i : Nat} {y : Str} {py : Pos} {kx vx tg iter : Expr} {ifs : List Expr} {scope : Scope} {own : List (Str × Nat)} {pos spos : Pos} {wi : TI} {g : TG} {tt : TT} {tk tv : TE} (hc : X.calm = true) (hN : X.N.Nodup) (hy : X.N[i]? = some y) (hyl : X.env.scope.names.lookup y = some .local)
    (hsw : swapsWith (.DictComp kx vx [⟨tg, iter, ifs, 0⟩] scope pos) (some (.Name y py)) spos.line X.env = pure true) (hi : PI X tg iter wi) (ok : BlkOk X.N X.env.scope scope own)
    (hg : ∀ (s : Shared) (H : Hp) (C : Addr) (cl : List (Str × Addr)) (fp : List Addr), PG (X.blk s H scope (compEnvC scope cl C X.env) fp) tg g) (ht : ∀ (s : Shared) (H : Hp) (C : Addr) (cl : List (Str × Addr)) (fp : List Addr), PTs (X.blk s H scope (compEnvC scope cl C X.env) fp) ifs tt)
    (hk : ∀ (s : Shared) (H : Hp) (C : Addr) (cl : List (Str × Addr)) (fp : List Addr), PE (X.blk s H scope (compEnvC scope cl C X.env) fp) kx tk)
    (he : ∀ (s : Shared) (H : Hp) (C : Addr) (cl : List (Str × Addr)) (fp : List Addr), PE (X.blk s H scope (compEnvC scope cl C X.env) fp) vx tv) (hs : ∀ x, foldedSetIterable iter X.env x = pure x := by intro _; rfl) :
    PS X (.Assign [.Name y py] (.DictComp kx vx [⟨tg, iter, ifs, 0⟩] scope pos) spos) (tAsg (tDc wi g tt tk tv (own.map (·.2))) (gName i)) := by
  refine ⟨fun pins s σ H D I h => ?_⟩
  rw [exec_Assign_Name_used _ _ _ _ hsw]
  refine wpAny_bind (wpAny_standAt (wpAny_bind ?_))
  show wpAny _ X.A (do let _ ← comprehension (.DictComp kx vx [⟨tg, iter, ifs, 0⟩] scope pos) scope X.env (firstIterPos [⟨tg, iter, ifs, 0⟩] pos) newDict false (eval iter X.env) (some (assign (.Name y py) X.env))) _ _ s
  have h : tDc wi g tt tk tv (own.map (·.2)) σ H (fun x H1 => gName i x σ H1 D.nx) := h
  refine wpAny_bind (thn (dc_core (Qf := fun _ s' => SP X pins D .next s') hc hN I hi ok hg ht hk he hs h fun L C s' m H' I' q hn f => ?_) fun _ s' hq => wpAny_pure (wpAny_pure hq))
  show wpAny _ _ (assign (.Name y py) X.env (.ref L)) _ _ _
  refine wpAny_assign_Name (store_ok2 (v := V.ref L) I' hN hy (.inl hyl) rfl (fun s2 I2 ⟨a, sb, ha⟩ => ?_) (.inr hyl))
  obtain ⟨f0, f1, f2, f3, f4, f5⟩ := f
  have haC : C ≠ a := by
    rcases ha with z | z
    · rw [z]; exact f1
    · exact fun e => f4 y a z e.symm
  refine ⟨m, hn.sameBut sb haC, fun h3 sb3 => ?_⟩
  exact ⟨_, H', I2.turned (t' := s2.toks) (fun b o hb e => (sb3.2 b hb).trans e) f0 f1 f3 f4 f5, q⟩
end
/-! ### the whole trees of a nest; spots_of -/
def hungL (F : List B) (ls : List Lk) (p : List Nat) : B := match ls.find? (fun l => decide (l.1 = p)) with
  | some l => F.getD l.2 .nil
  | none => .nil
def fulls (es : List En) : List B := es.foldl (fun F e => F ++ [e.1.sub (hungL F e.2)]) []
theorem fulls_snoc (es : List En) (e : En) : fulls (es ++ [e]) = fulls es ++ [e.1.sub (hungL (fulls es) e.2)] := by
  unfold fulls
  rw [List.foldl_append]
  rfl
theorem fulls_len (es : List En) : (fulls es).length = es.length := by
  have go : ∀ (es : List En) (F : List B), (es.foldl (fun F e => F ++ [e.1.sub (hungL F e.2)]) F).length = F.length + es.length := by
    intro es
    induction es with
    | nil => intro F; rfl
    | cons e r ih =>
      intro F
      rw [List.foldl_cons, ih, List.length_append, List.length_cons, List.length_cons, List.length_nil]
      omega
  unfold fulls
  rw [go, List.length_nil, Nat.zero_add]
theorem EnAt.get {H : Hp} {vs : List V} {es : List En} (h : EnAt H vs es) : ∀ {i : Nat} {v : V}, vs[i]? = some v → ∃ (a la : Addr) (tv : V) (us : List V) (t : B) (ls : List Lk), v = .ref a ∧ es[i]? = some (t, ls) ∧ H a = some (.tup [tv, .ref la]) ∧ BAt H tv t ∧ H la = some (.tup us) ∧ LkAt H us ls := by
  induction h with
  | nil => intro i v hv; cases hv
  | cons e1 e2 e3 e4 _ ih =>
    intro i v hv
    match i, hv with
    | 0, hv => cases hv; exact ⟨_, _, _, _, _, _, rfl, rfl, e1, e2, e3, e4⟩
    | i + 1, hv => exact ih hv
theorem LkAt.get {H : Hp} {vs : List V} {ls : List Lk} (h : LkAt H vs ls) : ∀ {i : Nat} {v : V}, vs[i]? = some v → ∃ (a : Addr) (p : List Nat) (n : Nat), v = .ref a ∧ ls[i]? = some (p, n) ∧ H a = some (.tup [vt p, .int (n : Int)]) := by
  induction h with
  | nil => intro i v hv; cases hv
  | cons e _ ih =>
    intro i v hv
    match i, hv with
    | 0, hv => cases hv; exact ⟨_, _, _, rfl, rfl, e⟩
    | i + 1, hv => exact ih hv
/-- what the dict tells behind j links -/
def tells (rs : List Nat) (ls : List Lk) (p : List Nat) : Option V := (ls.find? fun l => decide (l.1 = p)).map fun l => V.int ((rs.getD l.2 0 : Nat) : Int)
theorem tells_next {rs : List Nat} {ls : List Lk} {j : Nat} {q : List Nat} {n : Nat} (nd : (ls.map (·.1)).Nodup) (h : ls[j]? = some (q, n)) (p : List Nat) : tells rs (ls.take (j + 1)) p = if p = q then some (.int ((rs.getD n 0 : Nat) : Int)) else tells rs (ls.take j) p := by
  have hj := (List.getElem?_eq_some_iff.mp h).1
  have no : ∀ l ∈ ls.take j, l.1 ≠ q := fun l hl e => by
    have nt : ((ls.take (j + 1)).map (·.1)).Nodup := nd.sublist ((List.take_sublist _ _).map _)
    rw [take_next h, List.map_append, List.nodup_append] at nt
    exact nt.2.2 l.1 (List.mem_map.mpr ⟨l, hl, rfl⟩) q (List.mem_singleton.mpr rfl) e
  unfold tells
  rw [take_next h, List.find?_append]
  by_cases hp : p = q
  · subst hp
    rw [if_pos rfl, List.find?_eq_none.mpr (fun l hl => by simpa using no l hl)]
    simp
  · rw [if_neg hp]
    have : List.find? (fun l : Lk => decide (l.1 = p)) [(q, n)] = none := by
      rw [List.find?_eq_none]
      intro l hl
      rw [List.mem_singleton.mp hl]
      simpa using fun z : q = p => hp z.symm
    rw [this]
    simp
theorem nodup_le {α : Type} [DecidableEq α] : ∀ {l m : List α}, l.Nodup → (∀ x ∈ l, x ∈ m) → l.length ≤ m.length
  | [], m, _, _ => Nat.zero_le _
  | x :: l, m, nd, h => by
    obtain ⟨n1, n2⟩ := List.nodup_cons.mp nd
    have hx := h x List.mem_cons_self
    have := nodup_le (l := l) (m := m.erase x) n2 fun y hy => (List.mem_erase_of_ne (fun z : y = x => n1 (z ▸ hy))).mpr (h y (List.mem_cons_of_mem _ hy))
    rw [List.length_erase_of_mem hx] at this
    have : 0 < m.length := List.length_pos_of_mem hx
    rw [List.length_cons]
    omega
theorem B.op_len (t : B) : t.op.length = t.size + 1 := by
  induction t with
  | nil => rfl
  | node l x r h1 h2 =>
    show (l.op.map (108 :: ·) ++ r.op.map (114 :: ·)).length = l.size + 1 + r.size + 1
    rw [List.length_append, List.length_map, List.length_map, h1, h2]
    omega
def spSpots (K : PySem.W.Frag) : Sp := fun vs H Q _ => ∃ (p : Addr) (us : List V) (es : List En), vs = [.ref p] ∧ H p = some (.tup us) ∧ EnAt H us es ∧ GoodN 12 es ∧ 1 ≤ es.length ∧ es.length ≤ 20 ∧
  ∀ (sp : Addr) (ss : List V) (ds : List B) (H' : Hp), Same H H' → H sp = none → H' sp = some (.lst ss) → SpAt H' ss ds → ds.length ≤ 300 → ds[ds.length - 1]? = (fulls es)[es.length - 1]? → Q (.ref sp) H'
section
variable {P : Program} {w : World} {K : PySem.W.Frag} {mg : Str → Option Value} {base : Heap} {f : Addr} {fd : FuncData}
theorem ok_spots (F : Fun K "spots_of" "spots_of" s_spots_of f fd) (Dadd_spots : Df P w K mg base 30 "add_spots" ["spots", "tree", "path", "hung"] (spAdd 30)) : FnOk P w K mg base CX0 31 f fd ["nest"] (spSpots K) := by
  refine F.ok sc_spots_of (fun vs H Q E h => ?_) (fun cdv A outer s H vs Q E hr h => ?_)
  · obtain ⟨p, us, es, rfl, _⟩ := h
    rfl
  obtain ⟨p, us, es, rfl, ep, en, gn, e1, e20, q⟩ := h
  refine ⟨_, (pss_cons (ps_set (i := 1) sc_spots_of.nd rfl (.inl rfl) (pe_lst (pa_cons (pe_tup (pa_cons pe_int (pa_cons pe_str (pa_cons pe_int pa_nil)))) pa_nil)))
    (pss_cons (ps_set (i := 2) sc_spots_of.nd rfl (.inr rfl) (pe_lst pa_nil))
    (pss_cons (ps_for PassesOwn.never rfl (pi_tup (pv 0)) (pg_tup rfl (pgs_cons (pg_name (i := 3) sc_spots_of.nd rfl (.inl rfl)) (pgs_cons (pg_name (i := 4) sc_spots_of.nd rfl (.inl rfl)) pgs_nil)))
      (pss_cons (ps_setDc (i := 7) (own := [("path", 5), ("index", 6)]) (g := gTup K 2 (gCons (gName 5) (gCons (gName 6) gNil))) (tt := tYes) (by rfl) sc_spots_of.nd rfl rfl (sw_dict rfl rfl rfl (by decide +kernel)) (pi_tup (pv 4)) (blkOk_by (N := ["nest", "spots", "roots", "tree", "links", "path", "index", "hung"]) (sc := defScope s_spots_of) (by decide +kernel)) (fun _ _ _ _ _ => (pg_tup rfl (pgs_cons (pg_name (i := 5) sc_spots_of.nd rfl (.inl rfl)) (pgs_cons (pg_name (i := 6) sc_spots_of.nd rfl (.inl rfl)) pgs_nil)))) (fun _ _ _ _ _ => pts_nil) (fun _ _ _ _ _ => (pv 5)) (fun _ _ _ _ _ => (pe_ix (show IxR _ (rIxL K) from ix_list) (pv 2) (pv 6) (fun _ _ => rfl))))
    (pss_one (ps_expr (pe_bm PySem.F.plainAttrs_list PySem.F.slot_list_append PySem.F.type_list_append mt_append (pv 2) (pa_cons (pe_call Dadd_spots.ok (hr.mono (by omega)) rfl Dadd_spots.g Dadd_spots.kp Dadd_spots.b .nil pass0 (pa_cons (pv 1) (pa_cons (pv 3) (pa_cons pe_str (pa_cons (pv 7) pa_nil))))) pa_nil))))))
    (pss_one (ps_ret (pv 1)))))), ?_⟩
  refine ⟨(by show 3 ≤ sizeLine; decide), fun p0 np0 => ?_⟩
  have k0 := same_new np0 (.tup [.int 0, .str "", .int 0])
  have e0 := upd_same (H := H) (a := p0) (o := .tup [.int 0, .str "", .int 0])
  generalize upd H p0 (.tup [.int 0, .str "", .int 0]) = H0 at k0 e0 ⊢
  refine ⟨(by show 1 ≤ sizeLine; decide), fun sp nsp => ?_⟩
  have k1 := same_new nsp (.lst [.ref p0])
  have es1 := upd_same (H := H0) (a := sp) (o := .lst [.ref p0])
  have e01 := k1 _ _ e0
  have nspH : H sp = none := by
    cases z : H sp with
    | none => rfl
    | some o => rw [k0 _ _ z] at nsp; cases nsp
  generalize upd H0 sp (.lst [.ref p0]) = H1 at k1 es1 e01 ⊢
  refine ⟨(by show 0 ≤ sizeLine; decide), fun rp nrp => ?_⟩
  have k2 := same_new nrp (.lst [])
  have er2 := upd_same (H := H1) (a := rp) (o := .lst [])
  have es2 := k2 _ _ es1
  have e02 := k2 _ _ e01
  have nsr : sp ≠ rp := ne_of_none es1 nrp
  have s2 := (k0.trans k1).trans k2
  have nrpH : H rp = none := by
    cases z : H rp with
    | none => rfl
    | some o => rw [(k0.trans k1) _ _ z] at nrp; cases nrp
  generalize upd H1 rp (.lst []) = H2 at k2 er2 es2 e02 s2 ⊢
  have sa2 : SpAt H2 [.ref p0] [.nil] := ⟨rfl, rfl, ⟨p0, rfl, e02⟩, fun k k0 k1 => absurd k1 (by show ¬ k < 1; omega)⟩
  have el := en.len
  refine ⟨_, rfl, p, rfl, ⟨_, SqT.of (s2 _ _ ep)⟩, ?_⟩
  refine for_tup (K := K) (a := p) (xs := us) (fun k σ H' => ∃ (ss : List V) (ds : List B) (rs : List Nat) (o3 o4 o5 o6 o7 : Option V), σ = [some (.ref p), some (.ref sp), some (.ref rp), o3, o4, o5, o6, o7] ∧ Same H H' ∧ H' sp = some (.lst ss) ∧ H' rp = some (.lst (rs.map fun n : Nat => V.int (n : Int))) ∧ SpAt H' ss ds ∧ rs.length = k ∧
    (∀ (i r : Nat), rs[i]? = some r → ds[r]? = (fulls (es.take k))[i]?) ∧ ds.length ≤ 1 + 12 * k ∧ (0 < k → ds[ds.length - 1]? = (fulls (es.take k))[k - 1]?))
    ⟨[.ref p0], [.nil], [], _, _, _, _, _, rfl, s2, es2, er2, sa2, rfl, (fun i r h => by cases h), Nat.le_refl _, (fun z => absurd z (by decide))⟩ (fun k σ H' _ hp => by obtain ⟨_, _, _, _, _, _, _, _, _, h, _⟩ := hp; exact SqT.of (h _ _ ep)) (fun k x σ H3 hx hp => ?_) (fun σ H3 hp => ?_)
  · obtain ⟨ss, ds, rs, o3, o4, o5, o6, o7, rfl, s3, es3, er3, sa3, rl, rg, dl, _⟩ := hp
    obtain ⟨a, la, tv, ls', t, ls, rfl, ee, ea, at0, ela, lk⟩ := en.get hx
    have hk := (List.getElem?_eq_some_iff.mp ee).1
    have ge := gn k _ ee
    have ll := lk.len
    have F12 := ge.s2
    refine ⟨a, _, rfl, SqT.of (s3 _ _ ea), rfl, _, _, rfl, _, _, rfl, rfl, ?_⟩
    have oplen := t.op_len
    have lsl : ls.length ≤ 13 := by
      have h1 : (ls.map (·.1)).length ≤ t.op.length := nodup_le ge.nd fun p hp => by
        obtain ⟨l, hl, rfl⟩ := List.mem_map.mp hp
        exact ge.op l hl
      rw [List.length_map] at h1
      have : t.size ≤ 12 := F12
      omega
    refine ⟨_, rfl, la, rfl, ⟨_, SqT.of (s3 _ _ ela)⟩, fun D nD => ?_⟩
    have kD := same_new nD (.dK [])
    refine dc_tup (K := K) (a := la) (xs := ls') (fun j H' => Same H3 H' ∧ ∃ kvs : List (Key × V), H' D = some (.dK kvs) ∧ kvs.length ≤ j ∧ ∀ p, valV kvs (.inr (tx p)) = tells rs (ls.take j) p) ⟨kD, [], upd_same, Nat.le_refl 0, fun p => rfl⟩ (fun j H' _ hp => SqT.of (hp.1 _ _ (s3 _ _ ela))) (fun j x H4 hx4 hp => ?_) (fun H4 hp => ?_)
    · obtain ⟨s4, kvs, ed, kl, kt⟩ := hp
      obtain ⟨b, pq, n, rfl, el4, eb⟩ := lk.get hx4
      have hj := (List.getElem?_eq_some_iff.mp el4).1
      have hn : n < rs.length := by rw [rl]; exact ge.ix (pq, n) (List.mem_of_getElem? el4)
      refine ⟨b, _, rfl, SqT.of (s4 _ _ (s3 _ _ eb)), rfl, _, _, rfl, _, _, rfl, rfl, rfl, kept ?_⟩
      refine ⟨_, rfl, _, rfl, _, rfl, rp, _, _, _, rfl, rfl, SqL.of (s4 _ _ er3), atI_nat (by rw [List.getElem?_map, List.getElem?_eq_getElem hn]; rfl), kvs, .inr (tx pq), rfl, ed, by show _ < 16777216; omega, fun b o e => ?_, _, upd_same, ?_, fun p => ?_⟩
      · rw [upd_ne (ne_of_none e nD)]; exact s4 _ _ e
      · unfold putK
        split
        · rw [List.length_map]; omega
        · rw [List.length_append]; show _ + 1 ≤ _; omega
      · rw [valV_put, tells_next ge.nd el4, kt]
        by_cases hp : p = pq
        · subst hp
          rw [if_pos rfl, if_pos rfl, List.getD_eq_getElem?_getD, List.getElem?_eq_getElem hn]
          rfl
        · rw [if_neg hp, if_neg (fun z => hp (tx_inj (Sum.inr.inj z)))]
    · obtain ⟨s4, kvs, ed, kl, kt⟩ := hp
      rw [ll, List.take_of_length_le (Nat.le_refl _)] at kt
      have fl : (fulls (es.take k)).length = k := by rw [fulls_len, List.length_take]; omega
      have hg : HgAt H4 D ds (hungL (fulls (es.take k)) ls) := ⟨kvs, ed, fun p => by
        rw [kt]
        unfold tells hungL
        cases hf : ls.find? (fun l => decide (l.1 = p)) with
        | none => exact ⟨0, rfl, sa3.pos⟩
        | some l =>
          have hl : l.2 < rs.length := by rw [rl]; exact ge.ix l (List.mem_of_find?_eq_some hf)
          refine ⟨rs.getD l.2 0, rfl, ?_⟩
          rw [List.getD_eq_getElem?_getD, List.getElem?_eq_getElem hl]
          show ds[rs[l.2]]? = some ((fulls (es.take k)).getD l.2 .nil)
          rw [rg l.2 rs[l.2] (List.getElem?_eq_getElem hl), List.getD_eq_getElem?_getD, List.getElem?_eq_getElem (by omega)]
          rfl⟩
      have t12 : t.size ≤ 12 := F12
      have tne : t ≠ .nil := fun z => by
        have : 1 ≤ t.size := ge.s1
        rw [z] at this
        exact absurd this (by decide)
      refine ⟨_, rfl, .inl ⟨rfl, _, SqL.of (s4 _ _ er3)⟩, _, rfl, _, rfl, _, rfl, ?_⟩
      refine ⟨sp, D, tv, t, [], ss, ds, hungL (fulls (es.take k)) ls, by rw [str_0]; rfl, (at0.same s3).same s4, by omega, by show t.size + 0 ≤ 500; omega, s4 _ _ es3, sa3.keep (Tw.Same.keepT s4), hg, by omega, fun r ss5 ex H5 s5 es5 sa5 xl er5 lst => ?_⟩
      have er5' := s5 rp _ (Ne.symm nsr) (s4 _ _ er3)
      have hlst := lst tne
      have slen := sa5.len
      refine ⟨rp, _, _, rfl, rfl, er5', by rw [List.length_map]; show _ < 16777216; omega, ?_⟩
      have tk : es.take (k + 1) = es.take k ++ [(t, ls)] := take_next ee
      have fs : fulls (es.take (k + 1)) = fulls (es.take k) ++ [t.sub (hungL (fulls (es.take k)) ls)] := by rw [tk]; exact fulls_snoc _ _
      have ex5 : (ds ++ ex)[r]? = some (t.sub (hungL (fulls (es.take k)) ls)) := er5
      refine ⟨ss5, ds ++ ex, rs ++ [r], _, _, _, _, _, rfl, fun b o e => ?_, ?_, ?_, ?_, by rw [List.length_append, rl]; rfl, fun i r0 hi => ?_, by rw [List.length_append, xl]; omega, fun _ => ?_⟩
      · rw [upd_ne (ne_of_none e nrpH)]
        exact s5 b o (ne_of_none e nspH) (s4 _ _ (s3 _ _ e))
      · rw [upd_ne nsr]; exact es5
      · rw [upd_same, List.map_append]; rfl
      · exact sa5.keep fun b xs e => by rw [upd_ne (fun z => by rw [z, er5'] at e; cases e)]; exact e
      · rw [fs]
        by_cases hik : i < k
        · rw [List.getElem?_append_left (by omega)] at hi
          have e := rg i r0 hi
          have hr0 : r0 < ds.length := by
            rw [List.getElem?_eq_getElem (show i < (fulls (es.take k)).length by omega)] at e
            exact (List.getElem?_eq_some_iff.mp e).1
          rw [List.getElem?_append_left hr0, e, List.getElem?_append_left (by omega)]
        · rw [List.getElem?_append_right (by omega)] at hi
          have h0 : i - rs.length = 0 := by
            have := (List.getElem?_eq_some_iff.mp hi).1
            rw [List.length_cons, List.length_nil] at this
            omega
          rw [h0] at hi
          cases hi
          rw [ex5, List.getElem?_append_right (by omega), show i - (fulls (es.take k)).length = 0 by omega]
          rfl
      · rw [fs, show (ds ++ ex).length - 1 = r by omega, ex5, show k + 1 - 1 = k by omega, List.getElem?_append_right (by omega), show k - (fulls (es.take k)).length = 0 by omega]
        rfl
  · obtain ⟨ss, ds, rs, o3, o4, o5, o6, o7, rfl, s3, es3, er3, sa3, rl, rg, dl, last⟩ := hp
    refine ⟨_, rfl, q sp ss ds H3 s3 nspH es3 sa3 (by omega) ?_⟩
    have := last (by omega)
    rw [el, List.take_of_length_le (Nat.le_refl _)] at this
    exact this
end
/-! ### counts_in, nest_size, count_label, nest_depth -/
def B.cnt (zs : List Nat) : B → Nat
  | .nil => 0
  | .node l c r => l.cnt zs + r.cnt zs + if c ∈ zs then 1 else 0
abbrev vn (n : Nat) : V := .int (n : Int)
theorem at_last {xs : List V} {v : V} (h : xs[xs.length - 1]? = some v) : atI xs (-1) = some v := by
  have h0 := (List.getElem?_eq_some_iff.mp h).1
  have e : ixN xs.length (-1) = some (xs.length - 1) := by
    unfold ixN
    rw [if_neg (by decide), if_pos (by omega)]
    congr 1
    omega
  unfold atI
  rw [e]
  exact h
def spCounts : Sp := fun vs H Q _ => ∃ (sp : Addr) (ss : List V) (ds : List B) (zs : List Nat), vs = [.ref sp, vt zs] ∧ H sp = some (.lst ss) ∧ SpAt H ss ds ∧ ds.length ≤ 300 ∧
  ∀ (p : Addr) (H' : Hp), Same H H' → H' p = some (.lst (ds.map fun d => vn (d.cnt zs))) → Q (.ref p) H'
section
variable {P : Program} {w : World} {K : PySem.W.Frag} {mg : Str → Option Value} {base : Heap} {f : Addr} {fd : FuncData}
theorem ok_counts {k : Nat} (F : Fun K "counts_in" "counts_in" s_counts_in f fd) : FnOk P w K mg base CX0 (k + 1) f fd ["spots", "letters"] spCounts := by
  refine F.ok sc_counts_in (fun vs H Q E h => ?_) (fun cdv A outer s H vs Q E hr h => ?_)
  · obtain ⟨sp, ss, ds, zs, rfl, _⟩ := h
    rfl
  obtain ⟨sp, ss, ds, zs, rfl, es, sa, dl, q⟩ := h
  refine ⟨_, (pss_cons (ps_set (i := 2) sc_counts_in.nd rfl (.inl rfl) (pe_lst (pa_cons pe_int pa_nil)))
    (pss_cons (ps_for PassesOwn.never rfl (pi_list (pe_slice sl_list (pv 0) (po_some pe_int) po_none)) (pg_tup rfl (pgs_cons (pg_name (i := 3) sc_counts_in.nd rfl (.inl rfl)) (pgs_cons (pg_name (i := 4) sc_counts_in.nd rfl (.inl rfl)) (pgs_cons (pg_name (i := 5) sc_counts_in.nd rfl (.inl rfl)) pgs_nil))))
      (pss_one (ps_expr (pe_bm PySem.F.plainAttrs_list PySem.F.slot_list_append PySem.F.type_list_append mt_append (pv 2) (pa_cons (pe_op op_add (pe_op op_add (pe_ix ix_list (pv 2) (pv 3) (fun _ _ => rfl)) (pe_ix ix_list (pv 2) (pv 5) (fun _ _ => rfl))) (pe_ifExp (pt_cmpR op_in_sign (pv 4) (pv 1) (by rfl)) pe_int pe_int)) pa_nil)))))
    (pss_one (ps_ret (pv 2))))), ?_⟩
  refine ⟨(by show 1 ≤ sizeLine; decide), fun pc npc => ?_⟩
  have k1 := same_new npc (.lst [.int 0])
  have ec1 := upd_same (H := H) (a := pc) (o := .lst [.int 0])
  generalize upd H pc (.lst [.int 0]) = H1 at k1 ec1 ⊢
  refine ⟨_, rfl, 1, rfl, sp, ss, rfl, SqL.of (k1 _ _ es), fun pl npl => ?_⟩
  rw [show (1 : Int) = ((1 : Nat) : Int) from rfl, cut_from]
  have k2 := same_new npl (.lst (ss.drop 1))
  have el2 := upd_same (H := H1) (a := pl) (o := .lst (ss.drop 1))
  have ec2 := k2 _ _ ec1
  have s2 := k1.trans k2
  generalize upd H1 pl (.lst (ss.drop 1)) = H2 at k2 el2 ec2 s2 ⊢
  have len := sa.len
  have d0 : 0 < ds.length := (List.getElem?_eq_some_iff.mp sa.pos).1
  have npl' : pl ≠ pc := Ne.symm (ne_of_none ec1 npl)
  have nil0 : ds.take 1 = [.nil] := by
    have := sa.pos
    cases ds with
    | nil => cases this
    | cons d r => cases this; rfl
  refine ⟨pl, rfl, ⟨_, SqL.of el2⟩, ?_⟩
  refine for_list (K := K) (a := pl) (xs := ss.drop 1) (fun j σ H' => ∃ o3 o4 o5 : Option V, σ = [some (.ref sp), some (vt zs), some (.ref pc), o3, o4, o5] ∧ Same H H' ∧ H' pl = some (.lst (ss.drop 1)) ∧ H' pc = some (.lst ((ds.take (j + 1)).map fun d => vn (d.cnt zs))))
    ⟨_, _, _, rfl, s2, el2, by rw [nil0]; exact ec2⟩ (fun j σ H' _ hp => by obtain ⟨_, _, _, _, _, h, _⟩ := hp; exact SqL.of h) (fun j x σ H3 hx hp => ?_) (fun σ H3 hp => ?_)
  · obtain ⟨o3, o4, o5, rfl, s3, el3, ec3⟩ := hp
    rw [List.getElem?_drop] at hx
    have hj := (List.getElem?_eq_some_iff.mp hx).1
    obtain ⟨a, i, i', c, l, r, h1, h2, hi, hi', e1, e2, e3⟩ := sa.each (1 + j) (by omega) (by omega)
    rw [h1] at hx
    cases hx
    have get : ∀ (n : Nat) (d : B), n < 1 + j → ds[n]? = some d → ((ds.take (j + 1)).map fun d => vn (d.cnt zs))[n]? = some (vn (d.cnt zs)) := fun n d hn hd => by
      rw [List.getElem?_map, List.getElem?_take, if_pos (by omega), hd]
      rfl
    refine ⟨a, _, rfl, SqT.of (s3 _ _ h2), rfl, _, _, rfl, _, _, rfl, _, _, rfl, rfl, ?_⟩
    refine ⟨_, rfl, .inl ⟨rfl, _, SqL.of ec3⟩, _, rfl, _, rfl, pc, _, _, _, rfl, rfl, SqL.of ec3, atI_nat (get i l hi e1), _, rfl, _, rfl, pc, _, _, _, rfl, rfl, SqL.of ec3, atI_nat (get i' r hi' e2), _, _, rfl, rfl, ?_⟩
    have tk : ds.take (j + 1 + 1) = ds.take (j + 1) ++ [.node l c r] := take_next (show ds[j + 1]? = _ by rw [Nat.add_comm j 1]; exact e3)
    have fin : ∀ (b : Nat), b = (if c ∈ zs then 1 else 0) → ∃ o3 o4 o5 : Option V, [some (.ref sp), some (vt zs), some (.ref pc), some (vn i), some (.str (ch c)), some (vn i')] = [some (.ref sp), some (vt zs), some (.ref pc), o3, o4, o5] ∧ Same H (upd H3 pc (.lst ((ds.take (j + 1)).map (fun d => vn (d.cnt zs)) ++ [.int ((l.cnt zs : Int) + (r.cnt zs : Int) + (b : Int))]))) ∧
        upd H3 pc (.lst ((ds.take (j + 1)).map (fun d => vn (d.cnt zs)) ++ [.int ((l.cnt zs : Int) + (r.cnt zs : Int) + (b : Int))])) pl = some (.lst (ss.drop 1)) ∧
        upd H3 pc (.lst ((ds.take (j + 1)).map (fun d => vn (d.cnt zs)) ++ [.int ((l.cnt zs : Int) + (r.cnt zs : Int) + (b : Int))])) pc = some (.lst ((ds.take (j + 1 + 1)).map fun d => vn (d.cnt zs))) := fun b hb => by
      refine ⟨_, _, _, rfl, fun b o e => ?_, ?_, ?_⟩
      · rw [upd_ne (ne_of_none e npc)]; exact s3 _ _ e
      · rw [upd_ne npl']; exact el3
      · rw [upd_same, tk, List.map_append]
        show _ = some (HO.lst (_ ++ [V.int ((l.cnt zs + r.cnt zs + (if c ∈ zs then 1 else 0) : Nat) : Int)]))
        rw [← hb, Int.natCast_add, Int.natCast_add]
    refine ⟨_, rfl, _, rfl, c, _, rfl, rfl, _, rfl, ?_⟩
    have sl : ((ds.take (j + 1)).map fun d => vn (d.cnt zs)).length < sizeLine := by
      rw [List.length_map, List.length_take]; show _ < 16777216; omega
    by_cases hc : c ∈ zs
    · rw [decide_eq_true (show c ∈ (tx zs).cps.toList from hc)]
      exact iteT ⟨_, _, rfl, rfl, pc, _, _, rfl, rfl, ec3, sl, fin 1 (if_pos hc).symm⟩
    · rw [decide_eq_false (show ¬ c ∈ (tx zs).cps.toList from hc)]
      exact iteF ⟨_, _, rfl, rfl, pc, _, _, rfl, rfl, ec3, sl, fin 0 (if_neg hc).symm⟩
  · obtain ⟨o3, o4, o5, rfl, s3, el3, ec3⟩ := hp
    refine ⟨_, rfl, q pc H3 s3 ?_⟩
    rw [ec3, List.length_drop, List.take_of_length_le (by omega)]
end
section
variable {P : Program} {w : World} {K : PySem.W.Frag} {mg : Str → Option Value} {base : Heap} {f : Addr} {fd : FuncData}
/-- what a function of the nest tells of the last entry's whole tree -/
def spOf (g : B → List V → V) (more : List V) : Sp := fun vs H Q _ => ∃ (p : Addr) (us : List V) (es : List En) (X : B), vs = .ref p :: more ∧ H p = some (.tup us) ∧ EnAt H us es ∧ GoodN 12 es ∧ 1 ≤ es.length ∧ es.length ≤ 20 ∧ (fulls es)[es.length - 1]? = some X ∧
  ∀ H', Same H H' → Q (g X more) H'
theorem ok_nsize {tL : Tok} (F : Fun K "nest_size" "nest_size" s_nest_size f fd) (mLET : mg "LETTERS" = some (.str "abcdefghijklmnopqrstuvwxyz" tL)) (Dspots_of : Df P w K mg base 31 "spots_of" ["nest"] (spSpots K)) (Dcounts_in : Df P w K mg base 1 "counts_in" ["spots", "letters"] spCounts) :
    FnOk P w K mg base CX0 32 f fd ["nest"] (spOf (fun X _ => vn (X.cnt (Str.ofString "abcdefghijklmnopqrstuvwxyz").cps.toList)) []) := by
  refine F.ok sc_nest_size (fun vs H Q E h => ?_) (fun cdv A outer s H vs Q E hr h => ?_)
  · obtain ⟨p, us, es, X, rfl, _⟩ := h
    rfl
  obtain ⟨p, us, es, X, rfl, ep, en, gn, e1, e20, eX, q⟩ := h
  refine ⟨_, (pss_one (ps_ret (pe_ix ix_list (pe_call Dcounts_in.ok (hr.mono (by omega)) rfl Dcounts_in.g Dcounts_in.kp Dcounts_in.b .nil pass0 (pa_cons (pe_call Dspots_of.ok (hr.mono (by omega)) rfl Dspots_of.g Dspots_of.kp Dspots_of.b .nil pass0 (pa_cons (pv 0) pa_nil)) (pa_cons (pe_glob (v := .str _) rfl mLET ⟨_, rfl⟩) pa_nil))) (pe_un un_neg pe_int) (fun _ _ => rfl)))), ?_⟩
  refine ⟨_, rfl, p, us, es, rfl, ep, en, gn, e1, e20, fun sp ss ds H1 s1 nsp es1 sa dl last => ?_⟩
  refine ⟨sp, ss, ds, (Str.ofString "abcdefghijklmnopqrstuvwxyz").cps.toList, rfl, es1, sa, dl, fun p2 H2 s2 e2 => ?_⟩
  have hd : ds[ds.length - 1]? = some X := last.trans eX
  refine ⟨_, rfl, p2, _, _, _, rfl, rfl, SqL.of e2, at_last (v := vn (X.cnt (Str.ofString "abcdefghijklmnopqrstuvwxyz").cps.toList)) (by rw [List.length_map, List.getElem?_map, hd]; rfl), q H2 (s1.trans s2)⟩
end
/-! ### count_label, nest_depth -/
section
variable {P : Program} {w : World} {K : PySem.W.Frag} {mg : Str → Option Value} {base : Heap} {f : Addr} {fd : FuncData}
def spLab (K : PySem.W.Frag) : Sp := fun vs H Q _ => ∃ (p : Addr) (us : List V) (es : List En) (X : B) (zs : List Nat), vs = [.ref p, vt zs] ∧ H p = some (.tup us) ∧ EnAt H us es ∧ GoodN 12 es ∧ 1 ≤ es.length ∧ es.length ≤ 20 ∧ (fulls es)[es.length - 1]? = some X ∧
  ∀ H', Same H H' → Q (vn (X.cnt zs)) H'
theorem ok_clabel (F : Fun K "count_label" "count_label" s_count_label f fd) (Dspots_of : Df P w K mg base 31 "spots_of" ["nest"] (spSpots K)) (Dcounts_in : Df P w K mg base 1 "counts_in" ["spots", "letters"] spCounts) :
    FnOk P w K mg base CX0 32 f fd ["nest", "label"] (spLab K) := by
  refine F.ok sc_count_label (fun vs H Q E h => ?_) (fun cdv A outer s H vs Q E hr h => ?_)
  · obtain ⟨p, us, es, X, zs, rfl, _⟩ := h
    rfl
  obtain ⟨p, us, es, X, zs, rfl, ep, en, gn, e1, e20, eX, q⟩ := h
  refine ⟨_, (pss_one (ps_ret (pe_ix ix_list (pe_call Dcounts_in.ok (hr.mono (by omega)) rfl Dcounts_in.g Dcounts_in.kp Dcounts_in.b .nil pass0 (pa_cons (pe_call Dspots_of.ok (hr.mono (by omega)) rfl Dspots_of.g Dspots_of.kp Dspots_of.b .nil pass0 (pa_cons (pv 0) pa_nil)) (pa_cons (pv 1) pa_nil))) (pe_un un_neg pe_int) (fun _ _ => rfl)))), ?_⟩
  refine ⟨_, rfl, p, us, es, rfl, ep, en, gn, e1, e20, fun sp ss ds H1 s1 nsp es1 sa dl last => ?_⟩
  refine ⟨_, rfl, sp, ss, ds, zs, rfl, es1, sa, dl, fun p2 H2 s2 e2 => ?_⟩
  have hd : ds[ds.length - 1]? = some X := last.trans eX
  refine ⟨_, rfl, p2, _, _, _, rfl, rfl, SqL.of e2, at_last (v := vn (X.cnt zs)) (by rw [List.length_map, List.getElem?_map, hd]; rfl), q H2 (s1.trans s2)⟩
end
/-! ### sums and depths of what hangs -/
theorem perm_sum {l m : List Nat} (p : l.Perm m) : l.sum = m.sum := by
  induction p with
  | nil => rfl
  | cons x _ ih => rw [List.sum_cons, List.sum_cons, ih]
  | swap x y l => simp only [List.sum_cons]; omega
  | trans _ _ h1 h2 => exact h1.trans h2
theorem cnt_sub (zs : List Nat) (t : B) : ∀ h : List Nat → B, (t.sub h).cnt zs = t.cnt zs + (t.op.map fun w => (h w).cnt zs).sum := by
  induction t with
  | nil =>
    intro h
    show (h []).cnt zs = 0 + ((h []).cnt zs + 0)
    omega
  | node l x r h1 h2 =>
    intro h
    show (l.sub _).cnt zs + (r.sub _).cnt zs + (if x ∈ zs then 1 else 0) = l.cnt zs + r.cnt zs + (if x ∈ zs then 1 else 0) + ((l.op.map (108 :: ·) ++ r.op.map (114 :: ·)).map fun w => (h w).cnt zs).sum
    rw [h1, h2, List.map_append, List.sum_append, List.map_map, List.map_map]
    show _ = _ + ((l.op.map fun w => (h (108 :: w)).cnt zs).sum + (r.op.map fun w => (h (114 :: w)).cnt zs).sum)
    omega
theorem hung_cons {F : List B} {l : Lk} {ls : List Lk} {w : List Nat} : hungL F (l :: ls) w = if l.1 = w then F.getD l.2 .nil else hungL F ls w := by
  unfold hungL
  rw [List.find?_cons]
  by_cases h : l.1 = w
  · rw [if_pos h, decide_eq_true h]
  · rw [if_neg h, decide_eq_false h]
theorem sum_zero : ∀ (O : List (List Nat)), (O.map fun _ => 0).sum = 0
  | [] => rfl
  | _ :: O => by rw [List.map_cons, List.sum_cons, sum_zero O]
theorem sum_links (g : B → Nat) (hg : g .nil = 0) (F : List B) : ∀ (ls : List Lk) (O : List (List Nat)), O.Nodup → (ls.map (·.1)).Nodup → (∀ l ∈ ls, l.1 ∈ O) → (O.map fun w => g (hungL F ls w)).sum = (ls.map fun l => g (F.getD l.2 .nil)).sum
  | [], O, _, _, _ => by
    have : (O.map fun w => g (hungL F [] w)) = O.map fun _ => 0 := List.map_congr_left fun w _ => hg
    rw [this, sum_zero]
    rfl
  | l :: ls, O, nO, nl, sub => by
    rw [List.map_cons, List.nodup_cons] at nl
    have hx := sub l List.mem_cons_self
    have p := List.perm_cons_erase hx
    rw [perm_sum (p.map _), List.map_cons, List.sum_cons, List.map_cons, List.sum_cons, hung_cons, if_pos rfl]
    have e : ((O.erase l.1).map fun w => g (hungL F (l :: ls) w)) = (O.erase l.1).map fun w => g (hungL F ls w) := List.map_congr_left fun w hw => by
      have : l.1 ≠ w := fun z => by
        have h := (nO.mem_erase_iff).mp hw
        exact h.1 z.symm
      rw [hung_cons, if_neg this]
    rw [e, sum_links g hg F ls (O.erase l.1) (nO.erase _) nl.2 fun k hk => ?_]
    refine (nO.mem_erase_iff).mpr ⟨fun z => nl.1 ?_, sub k (List.mem_cons_of_mem _ hk)⟩
    rw [← z]
    exact List.mem_map.mpr ⟨k, hk, rfl⟩
theorem cnt_full (zs : List Nat) {F : List B} {t : B} {ls : List Lk} (nd : (ls.map (·.1)).Nodup) (op : ∀ l ∈ ls, l.1 ∈ t.op) : (t.sub (hungL F ls)).cnt zs = t.cnt zs + (ls.map fun l => (F.getD l.2 .nil).cnt zs).sum := by
  rw [cnt_sub]
  rw [sum_links (fun b => b.cnt zs) rfl F ls t.op t.op_nodup nd op]
/-- m is the greatest of what hangs under t -/
theorem deep_sub (t : B) : ∀ (h : List Nat → B), (∀ w ∈ t.op, w.length + (h w).deep ≤ (t.sub h).deep) ∧ ∃ w ∈ t.op, w.length + (h w).deep = (t.sub h).deep := by
  induction t with
  | nil =>
    intro h
    have e : ([] : List Nat).length + (h []).deep = (B.nil.sub h).deep := Nat.zero_add _
    exact ⟨fun w hw => by rw [List.mem_singleton.mp hw]; exact Nat.le_of_eq e, [], List.mem_singleton.mpr rfl, e⟩
  | node l x r h1 h2 =>
    intro h
    obtain ⟨a1, w1, m1, b1⟩ := h1 fun w => h (108 :: w)
    obtain ⟨a2, w2, m2, b2⟩ := h2 fun w => h (114 :: w)
    have ed : ((B.node l x r).sub h).deep = 1 + max (l.sub fun w => h (108 :: w)).deep (r.sub fun w => h (114 :: w)).deep := rfl
    refine ⟨fun w hw => ?_, ?_⟩
    · rcases List.mem_append.mp (show w ∈ l.op.map (108 :: ·) ++ r.op.map (114 :: ·) from hw) with hw | hw
      · obtain ⟨v, hv, rfl⟩ := List.mem_map.mp hw
        have := a1 v hv
        rw [ed, List.length_cons]
        omega
      · obtain ⟨v, hv, rfl⟩ := List.mem_map.mp hw
        have := a2 v hv
        rw [ed, List.length_cons]
        omega
    · rw [ed]
      by_cases c : (r.sub fun w => h (114 :: w)).deep ≤ (l.sub fun w => h (108 :: w)).deep
      · exact ⟨108 :: w1, List.mem_append_left _ (List.mem_map.mpr ⟨w1, m1, rfl⟩), by rw [List.length_cons]; omega⟩
      · exact ⟨114 :: w2, List.mem_append_right _ (List.mem_map.mpr ⟨w2, m2, rfl⟩), by rw [List.length_cons]; omega⟩
theorem sub_nil (t : B) : (t.sub fun _ => .nil) = t := by
  induction t with
  | nil => rfl
  | node l x r h1 h2 =>
    show B.node (l.sub _) x (r.sub _) = _
    rw [h1, h2]
theorem op_deep {t : B} {w : List Nat} (h : w ∈ t.op) : w.length ≤ t.deep := by
  have := (deep_sub t fun _ => .nil).1 w h
  rw [sub_nil] at this
  exact this
theorem hung_some {F : List B} {ls : List Lk} {w : List Nat} (h : hungL F ls w ≠ .nil) : ∃ l ∈ ls, l.1 = w ∧ hungL F ls w = F.getD l.2 .nil := by
  unfold hungL at h ⊢
  cases hf : ls.find? (fun l => decide (l.1 = w)) with
  | none => rw [hf] at h; exact absurd rfl h
  | some l => exact ⟨l, List.mem_of_find?_eq_some hf, by simpa using List.find?_some hf, rfl⟩
theorem hung_at {F : List B} : ∀ {ls : List Lk} {l : Lk}, (ls.map (·.1)).Nodup → l ∈ ls → hungL F ls l.1 = F.getD l.2 .nil
  | k :: ls, l, nd, h => by
    rw [List.map_cons, List.nodup_cons] at nd
    rw [hung_cons]
    rcases List.mem_cons.mp h with rfl | h
    · rw [if_pos rfl]
    · rw [if_neg (fun z : k.1 = l.1 => nd.1 (by rw [z]; exact List.mem_map.mpr ⟨l, h, rfl⟩))]
      exact hung_at nd.2 h
theorem deep_full {F : List B} {t : B} {ls : List Lk} (nd : (ls.map (·.1)).Nodup) (op : ∀ l ∈ ls, l.1 ∈ t.op) {m : Nat} (h1 : t.deep ≤ m) (h2 : ∀ l ∈ ls, l.1.length + (F.getD l.2 .nil).deep ≤ m) (h3 : m = t.deep ∨ ∃ l ∈ ls, m = l.1.length + (F.getD l.2 .nil).deep) :
    (t.sub (hungL F ls)).deep = m := by
  obtain ⟨a, w, hw, b⟩ := deep_sub t (hungL F ls)
  apply Nat.le_antisymm
  · rw [← b]
    by_cases c : hungL F ls w = .nil
    · rw [c]
      exact Nat.le_trans (op_deep hw) h1
    · obtain ⟨l, hl, rfl, e⟩ := hung_some c
      rw [e]
      exact h2 l hl
  · rcases h3 with rfl | ⟨l, hl, rfl⟩
    · obtain ⟨_, v, hv, e⟩ := deep_sub t fun _ => .nil
      rw [sub_nil] at e
      have := a v hv
      have e' : v.length + 0 = t.deep := e
      omega
    · have := a l.1 (op l hl)
      rw [hung_at nd hl] at this
      exact this
/-! ### _law_grown, _law_written -/
theorem fulls_pre (es r : List En) : ∃ ex, fulls (es ++ r) = fulls es ++ ex := by
  have go : ∀ (r : List En) (F : List B), ∃ ex, r.foldl (fun F e => F ++ [e.1.sub (hungL F e.2)]) F = F ++ ex := by
    intro r
    induction r with
    | nil => intro F; exact ⟨[], by rw [List.append_nil]; rfl⟩
    | cons e r ih =>
      intro F
      obtain ⟨ex, h⟩ := ih (F ++ [e.1.sub (hungL F e.2)])
      exact ⟨[e.1.sub (hungL F e.2)] ++ ex, by rw [List.foldl_cons, h, List.append_assoc]⟩
  unfold fulls
  rw [List.foldl_append]
  exact go r _
theorem hung_pre {F ex : List B} {ls : List Lk} (h : ∀ l ∈ ls, l.2 < F.length) (w : List Nat) : hungL (F ++ ex) ls w = hungL F ls w := by
  unfold hungL
  cases hf : ls.find? (fun l => decide (l.1 = w)) with
  | none => rfl
  | some l =>
    show (F ++ ex).getD l.2 .nil = F.getD l.2 .nil
    rw [List.getD_eq_getElem?_getD, List.getD_eq_getElem?_getD, List.getElem?_append_left (h l (List.mem_of_find?_eq_some hf))]
theorem full_get {lim : Nat} {es : List En} (g : GoodN lim es) {k : Nat} {t : B} {ls : List Lk} (h : es[k]? = some (t, ls)) : (fulls es)[k]? = some (t.sub (hungL (fulls es) ls)) := by
  have hk := (List.getElem?_eq_some_iff.mp h).1
  have tk : es.take (k + 1) = es.take k ++ [(t, ls)] := take_next h
  obtain ⟨ex, e⟩ := fulls_pre (es.take (k + 1)) (es.drop (k + 1))
  rw [List.take_append_drop] at e
  obtain ⟨ex2, e2⟩ := fulls_pre (es.take k) (es.drop k)
  rw [List.take_append_drop] at e2
  have fl : (fulls (es.take k)).length = k := by rw [fulls_len, List.length_take]; omega
  have eh : hungL (fulls es) ls = hungL (fulls (es.take k)) ls := funext fun w => by
    rw [e2, hung_pre fun l hl => by rw [fl]; exact (g k _ h).ix l hl]
  rw [eh, e, tk, fulls_snoc, List.append_assoc, List.getElem?_append_right (by omega), show k - (fulls (es.take k)).length = 0 by omega]
  rfl
def spGrown (N : Nat) : Sp := fun vs H Q _ => ∃ (p : Addr) (us : List V) (es : List En) (k : Nat) (v : V) (t T : B) (ls : List Lk) (q : List Nat), vs = [.ref p, .int (k : Int), v, vt q] ∧ H p = some (.tup us) ∧ EnAt H us es ∧ GoodN 12 es ∧ es[k]? = some (T, ls) ∧ BAt H v t ∧ (t.sub fun w => hungL (fulls es) ls (q ++ w)).deep + k < N ∧ t.size + q.length ≤ 100 ∧
  ∀ (v' : V) (H' : Hp), Same H H' → BAt H' v' (t.sub fun w => hungL (fulls es) ls (q ++ w)) → Q v' H'
/-! ### _law_sizes -/
theorem size_sub (t : B) : ∀ h : List Nat → B, (t.sub h).size = t.size + (t.op.map fun w => (h w).size).sum := by
  induction t with
  | nil =>
    intro h
    show (h []).size = 0 + ((h []).size + 0)
    omega
  | node l x r h1 h2 =>
    intro h
    show (l.sub _).size + 1 + (r.sub _).size = l.size + 1 + r.size + ((l.op.map (108 :: ·) ++ r.op.map (114 :: ·)).map fun w => (h w).size).sum
    rw [h1, h2, List.map_append, List.sum_append, List.map_map, List.map_map]
    show _ = _ + ((l.op.map fun w => (h (108 :: w)).size).sum + (r.op.map fun w => (h (114 :: w)).size).sum)
    omega
theorem size_full {F : List B} {t : B} {ls : List Lk} (nd : (ls.map (·.1)).Nodup) (op : ∀ l ∈ ls, l.1 ∈ t.op) : (t.sub (hungL F ls)).size = t.size + (ls.map fun l => (F.getD l.2 .nil).size).sum := by
  rw [size_sub]
  rw [sum_links (fun b => b.size) rfl F ls t.op t.op_nodup nd op]
theorem cast_sum : ∀ l : List Nat, (l.map fun n : Nat => (n : Int)).sum = ((l.sum : Nat) : Int)
  | [] => rfl
  | x :: l => by rw [List.map_cons, List.sum_cons, List.sum_cons, cast_sum l]; omega
theorem links_len {lim k : Nat} {t : B} {ls : List Lk} (g : GoodE lim k (t, ls)) (h : lim ≤ 12) : ls.length ≤ 13 := by
  have h1 : (ls.map (·.1)).length ≤ t.op.length := nodup_le g.nd fun p hp => by
    obtain ⟨l, hl, rfl⟩ := List.mem_map.mp hp
    exact g.op l hl
  rw [List.length_map, t.op_len] at h1
  have : t.size ≤ lim := g.s2
  omega
def spSizes : Sp := fun vs H Q _ => ∃ (p : Addr) (us : List V) (es : List En), vs = [.ref p] ∧ H p = some (.tup us) ∧ EnAt H us es ∧ GoodN 12 es ∧ es.length ≤ 20 ∧
  ∀ (a : Addr) (H' : Hp), Same H H' → H' a = some (.lst ((fulls es).map fun X => vn X.size)) → Q (.ref a) H'
section
variable {P : Program} {w : World} {K : PySem.W.Frag} {mg : Str → Option Value} {base : Heap} {f : Addr} {fd : FuncData}
theorem ok_sizes (F : Fun K "_law_sizes" "_law_sizes" s__law_sizes f fd) (M : Mgs mg) (msum : mg "sum" = none) (D_law_nodes : Df P w K mg base 40 "_law_nodes" ["_law_tree_here", "_law_path"] (spNodes 40)) : FnOk P w K mg base CX0 41 f fd ["_law_nest_here"] spSizes := by
  refine F.ok sc__law_sizes (fun vs H Q E h => ?_) (fun cdv A outer s H vs Q E hr h => ?_)
  · obtain ⟨p, us, es, rfl, _⟩ := h
    rfl
  obtain ⟨p, us, es, rfl, ep, en, gn, e20, q⟩ := h
  refine ⟨_, (pss_cons (ps_set (i := 1) sc__law_sizes.nd rfl (.inr rfl) (pe_lst pa_nil))
    (pss_cons (ps_for PassesOwn.never rfl (pi_tup (pv 0)) (pg_tup rfl (pgs_cons (pg_name (i := 2) sc__law_sizes.nd rfl (.inl rfl)) (pgs_cons (pg_name (i := 3) sc__law_sizes.nd rfl (.inl rfl)) pgs_nil)))
      (pss_one (ps_expr (pe_bm PySem.F.plainAttrs_list PySem.F.slot_list_append PySem.F.type_list_append mt_append (pv 1) (pa_cons (pe_op op_add (pe_callB call_len_seq rfl M.len PySem.boot_len (pa_cons (pe_call D_law_nodes.ok (hr.mono (by omega)) rfl D_law_nodes.g D_law_nodes.kp D_law_nodes.b .nil pass0 (pa_cons (pv 2) (pa_cons pe_str pa_nil))) pa_nil)) (pe_callB (cr_sum rfl) rfl msum (by decide +kernel) (pa_cons (pe_lc (own := [("_law_path", 4), ("_law_index", 5)]) (g := gTup K 2 (gCons (gName 4) (gCons (gName 5) gNil))) (tt := tYes) rfl sc__law_sizes.nd (pi_tup (pv 3)) (blkOk_by (N := ["_law_nest_here", "_law_found", "_law_tree_here", "_law_links", "_law_path", "_law_index"]) (sc := defScope s__law_sizes) (by decide +kernel)) (fun _ _ _ _ _ => (pg_tup rfl (pgs_cons (pg_name (i := 4) sc__law_sizes.nd rfl (.inl rfl)) (pgs_cons (pg_name (i := 5) sc__law_sizes.nd rfl (.inl rfl)) pgs_nil)))) (fun _ _ _ _ _ => pts_nil) (fun _ _ _ _ _ => (pe_ix (show IxR _ (rIxL K) from ix_list) (pv 1) (pv 5) (fun _ _ => rfl)))) pa_nil))) pa_nil)))))
    (pss_one (ps_ret (pv 1))))), ?_⟩
  refine ⟨(by show 0 ≤ sizeLine; decide), fun pf npf => ?_⟩
  have k1 := same_new npf (.lst [])
  have ef := upd_same (H := H) (a := pf) (o := .lst [])
  generalize upd H pf (.lst []) = H1 at k1 ef ⊢
  have el := en.len
  refine ⟨_, rfl, p, rfl, ⟨_, SqT.of (k1 _ _ ep)⟩, ?_⟩
  refine for_tup (K := K) (a := p) (xs := us) (fun k σ H' => ∃ o2 o3 o4 o5 : Option V, σ = [some (.ref p), some (.ref pf), o2, o3, o4, o5] ∧ Same H H' ∧ H' pf = some (.lst ((fulls (es.take k)).map fun X => vn X.size))) ⟨_, _, _, _, rfl, k1, ef⟩ (fun k σ H' _ hp => by obtain ⟨_, _, _, _, _, h, _⟩ := hp; exact SqT.of (h _ _ ep)) (fun k x σ H3 hx hp => ?_) (fun σ H3 hp => ?_)
  · obtain ⟨o2, o3, o4, o5, rfl, s3, ef3⟩ := hp
    obtain ⟨a, la, tv, ls', t, ls, rfl, ee, ea, at0, ela, lk⟩ := en.get hx
    have hk := (List.getElem?_eq_some_iff.mp ee).1
    have ge := gn k _ ee
    have ll := lk.len
    have lsl := links_len ge (Nat.le_refl _)
    have t12 : t.size ≤ 12 := ge.s2
    have fl : (fulls (es.take k)).length = k := by rw [fulls_len, List.length_take]; omega
    refine ⟨a, _, rfl, SqT.of (s3 _ _ ea), rfl, _, _, rfl, _, _, rfl, rfl, ?_⟩
    refine ⟨_, rfl, .inl ⟨rfl, _, SqL.of ef3⟩, _, rfl, tv, t, [], by rw [str_0]; rfl, at0.same s3, by omega, by show t.size + 0 ≤ 500; omega, fun pn un H4 s4 en4 st4 => ?_⟩
    have ul := st4.len
    rw [B.steps_len] at ul
    refine ⟨pn, un, rfl, .inl (SqL.of en4), _, rfl, la, rfl, ⟨_, SqT.of (s4 _ _ (s3 _ _ ela))⟩, fun D nD => ?_⟩
    have kD := same_new nD (.lst [])
    have ef4 := s4 _ _ ef3
    refine lc_tup (K := K) (a := la) (xs := ls') (fun j H' => Same H4 H' ∧ H' D = some (.lst ((ls.take j).map fun l => vn ((fulls (es.take k)).getD l.2 .nil).size))) ⟨kD, upd_same⟩ (fun j H' _ hp => SqT.of (hp.1 _ _ (s4 _ _ (s3 _ _ ela)))) (fun j x H5 hx5 hp => ?_) (fun H5 hp => ?_)
    · obtain ⟨s5, eD⟩ := hp
      obtain ⟨b, pq, n, rfl, el5, eb⟩ := lk.get hx5
      have hj := (List.getElem?_eq_some_iff.mp el5).1
      have hn : n < (fulls (es.take k)).length := by rw [fl]; exact ge.ix (pq, n) (List.mem_of_getElem? el5)
      refine ⟨b, _, rfl, SqT.of (s5 _ _ (s4 _ _ (s3 _ _ eb))), rfl, _, _, rfl, _, _, rfl, rfl, rfl, kept ?_⟩
      refine ⟨_, rfl, _, rfl, pf, _, _, _, rfl, rfl, SqL.of (s5 _ _ ef4), atI_nat (by rw [List.getElem?_map, List.getElem?_eq_getElem hn]; rfl), _, eD, ?_, fun b o e => ?_, ?_⟩
      · rw [List.length_map, List.length_take]; exact small1000 (by omega)
      · rw [upd_ne (ne_of_none e nD)]; exact s5 _ _ e
      · rw [upd_same, take_next el5, List.map_append]
        show _ = some (HO.lst (_ ++ [vn ((fulls (es.take k)).getD n .nil).size]))
        rw [List.getD_eq_getElem?_getD, List.getElem?_eq_getElem hn]
        rfl
    · obtain ⟨s5, eD⟩ := hp
      rw [ll, List.take_of_length_le (Nat.le_refl _)] at eD
      have eD' : H5 D = some (.lst (((ls.map fun l => ((fulls (es.take k)).getD l.2 .nil).size).map fun n : Nat => (n : Int)).map V.int)) := by
        rw [eD, List.map_map, List.map_map]; rfl
      refine ⟨D, _, rfl, SqL.of eD', ?_⟩
      rw [cast_sum]
      refine ⟨_, _, rfl, rfl, pf, _, _, rfl, rfl, s5 _ _ ef4, by rw [List.length_map, fl]; show _ < 16777216; omega, ?_⟩
      refine ⟨_, _, _, _, rfl, fun b o e => ?_, ?_⟩
      · rw [upd_ne (ne_of_none e npf)]; exact s5 _ _ (s4 _ _ (s3 _ _ e))
      · rw [upd_same, show es.take (k + 1) = es.take k ++ [(t, ls)] from take_next ee, fulls_snoc, List.map_append]
        refine congrArg (fun z : Int => some (HO.lst (((fulls (es.take k)).map fun X => vn X.size) ++ [V.int z]))) ?_
        show _ = (((t.sub (hungL (fulls (es.take k)) ls)).size : Nat) : Int)
        rw [size_full (t := t) (ls := ls) ge.nd ge.op, ul]
        omega
  · obtain ⟨o2, o3, o4, o5, rfl, s3, ef3⟩ := hp
    rw [el, List.take_of_length_le (Nat.le_refl _)] at ef3
    exact ⟨_, rfl, q pf H3 s3 ef3⟩
end
/-! ### _law_small_nest -/
theorem EnAt.take {H : Hp} {vs : List V} {es : List En} (h : EnAt H vs es) : ∀ n : Nat, EnAt H (vs.take n) (es.take n) := by
  induction h with
  | nil => intro n; rw [List.take_nil, List.take_nil]; exact .nil
  | cons e1 e2 e3 e4 _ ih =>
    intro n
    match n with
    | 0 => exact .nil
    | n + 1 => exact .cons e1 e2 e3 e4 (ih n)
theorem GoodN.take {lim : Nat} {es : List En} (g : GoodN lim es) (n : Nat) : GoodN lim (es.take n) := fun i e h => by
  rw [List.getElem?_take] at h
  split at h
  · exact g i e h
  · cases h
theorem GoodN.more {lim lim' : Nat} {es : List En} (g : GoodN lim es) (h : lim ≤ lim') : GoodN lim' es := fun i e k => ⟨(g i e k).s1, Nat.le_trans (g i e k).s2 h, (g i e k).lt, (g i e k).nd, (g i e k).op, (g i e k).ix⟩
theorem six_last (n : Nat) : HT.sIx n n (some (-1)) = n - 1 := by
  show (if (-1 : Int) < 0 then ((-1 : Int) + (n : Int)).toNat else min (-1 : Int).toNat n) = _
  rw [if_pos (by decide)]
  omega
theorem cut_init (xs : List V) : cutV xs none (some (-1)) = xs.take (xs.length - 1) := by
  unfold cutV
  rw [HT.sIx_none, six_last, List.drop_zero, Nat.sub_zero]
theorem first_small {lim : Nat} {es : List En} (g : GoodN lim es) {X : B} (h1 : es.length = 1) (hX : (fulls es)[es.length - 1]? = some X) : X.size ≤ lim := by
  obtain ⟨⟨t, ls⟩, e⟩ : ∃ e, es[0]? = some e := ⟨_, List.getElem?_eq_getElem (by omega)⟩
  have ge := g 0 _ e
  have f := full_get g e
  rw [h1] at hX
  rw [show (1 - 1 : Nat) = 0 from rfl, f] at hX
  cases hX
  have l0 : ls = [] := by
    cases ls with
    | nil => rfl
    | cons l r => exact absurd (ge.ix l List.mem_cons_self) (Nat.not_lt_zero _)
  rw [size_full (t := t) (ls := ls) ge.nd ge.op, l0]
  exact ge.s2
def spSmall : Sp := fun vs H Q _ => ∃ (D : Deck) (n L : Nat), vs = [.ref D.dk, .int (L : Int)] ∧ 4 ≤ L ∧ DeckOk H D n ∧ n + 4000 ≤ 1000000 ∧
  ∀ (p : Addr) (us : List V) (es : List En) (X : B) (n' : Nat) (H' : Hp), DeckOk H' D n' → n' ≤ n + 4000 → SameD D H H' → H' p = some (.tup us) → EnAt H' us es → GoodN 12 es → 1 ≤ es.length → es.length ≤ 4 → (fulls es)[es.length - 1]? = some X → X.size ≤ L → Q (.ref p) H'
section
variable {P : Program} {w : World} {K : PySem.W.Frag} {mg : Str → Option Value} {base : Heap} {f : Addr} {fd : FuncData}
theorem ok_small (F : Fun K "_law_small_nest" "_law_small_nest" s__law_small_nest f fd) (D_law_nest : Df P w K mg base 42 "_law_nest" ["_law_deck_here", "_law_entries", "_law_limit", "_law_few"] spNest) (D_law_sizes : Df P w K mg base 41 "_law_sizes" ["_law_nest_here"] spSizes) :
    FnOk P w K mg base CX0 43 f fd ["_law_deck_here", "_law_limit"] spSmall := by
  refine F.ok sc__law_small_nest (fun vs H Q E h => ?_) (fun cdv A outer s H vs Q E hr h => ?_)
  · obtain ⟨D, n, L, rfl, _⟩ := h
    rfl
  obtain ⟨D, n, L, rfl, hL, d, hn, q⟩ := h
  refine ⟨_, (pss_cons (ps_set (i := 2) sc__law_small_nest.nd rfl (.inl rfl) (pe_call D_law_nest.ok (hr.mono (by omega)) rfl D_law_nest.g D_law_nest.kp D_law_nest.b .nil pass0 (pa_cons (pv 0) (pa_cons pe_int (pa_cons pe_int (pa_cons pe_int pa_nil))))))
    (pss_cons (ps_while PassesOwn.never (pt_cmpR op_gt (pe_ix ix_list (pe_call D_law_sizes.ok (hr.mono (by omega)) rfl D_law_sizes.g D_law_sizes.kp D_law_sizes.b .nil pass0 (pa_cons (pv 2) pa_nil)) (pe_un un_neg pe_int) (fun _ _ => rfl)) (pv 1) (nomark _))
      (pss_one (ps_set (i := 2) sc__law_small_nest.nd rfl (.inl rfl) (pe_slice sl_tupA (pv 2) po_none (po_some (pe_un un_neg pe_int))))))
    (pss_one (ps_ret (pv 2))))), ?_⟩
  refine ⟨_, rfl, D, n, 4, 4, 2, rfl, d, hn, by decide, by decide, by decide, by decide, fun p us es n1 H1 d1 n1b s1 ep en gn e1 e4 => ?_⟩
  refine while_by (fun σ H' => ∃ (p : Addr) (us : List V) (es : List En), σ = [some (.ref D.dk), some (.int (L : Int)), some (.ref p)] ∧ DeckOk H' D n1 ∧ SameD D H H' ∧ H' p = some (.tup us) ∧ EnAt H' us es ∧ GoodN 4 es ∧ 1 ≤ es.length ∧ es.length ≤ 4) (fun σ H' => match σ with | [_, _, some (.ref p)] => (match H' p with | some (.tup us) => us.length | _ => 0) | _ => 0)
    ⟨p, us, es, rfl, d1, s1, ep, en, gn, e1, e4⟩ (fun σ H' hp => ?_) ?_
  · obtain ⟨p, us, es, rfl, d2, s2, ep, en, gn, e1, e4⟩ := hp
    have el := en.len
    have fl := fulls_len es
    obtain ⟨X, eX⟩ : ∃ X, (fulls es)[es.length - 1]? = some X := ⟨_, List.getElem?_eq_getElem (by omega)⟩
    refine ⟨_, rfl, p, us, es, rfl, ep, en, gn.more (by decide), by omega, fun a H3 s3 e3 => ?_⟩
    refine ⟨_, rfl, a, _, _, _, rfl, rfl, SqL.of e3, at_last (v := vn X.size) (by rw [List.length_map, fl, List.getElem?_map, eX]; rfl), ?_⟩
    refine ⟨_, rfl, _, _, rfl, rfl, _, rfl, ?_⟩
    by_cases hX : (X.size : Int) > (L : Int)
    · rw [decide_eq_true hX]
      refine iteT ?_
      have h2 : 2 ≤ es.length := by
        by_cases h1 : es.length = 1
        · have := first_small gn h1 eX
          omega
        · omega
      refine ⟨_, rfl, 1, rfl, -1, rfl, p, us, rfl, SqT.of (s3 _ _ ep), fun hw => ?_, fun _ b nb => ?_⟩
      · have := hw.2
        rw [six_last] at this
        omega
      rw [cut_init]
      have k4 := same_new nb (.tup (us.take (us.length - 1)))
      refine ⟨⟨b, _, es.take (us.length - 1), rfl, (d2.same s3).same k4, s2.trans (SameD.of (s3.trans k4)), upd_same, (en.keep (Tw.Same.keepT (s3.trans k4))).take _, gn.take _, by rw [List.length_take]; omega, by rw [List.length_take]; omega⟩, ?_⟩
      show (match upd H3 b (.tup (us.take (us.length - 1))) b with | some (.tup us) => us.length | _ => 0) < (match H' p with | some (.tup us) => us.length | _ => 0)
      rw [upd_same, ep]
      show (us.take (us.length - 1)).length < us.length
      rw [List.length_take]
      omega
    · rw [decide_eq_false hX]
      refine iteF ?_
      exact ⟨_, rfl, q p us es X n1 H3 (d2.same s3) n1b (s2.trans (SameD.of s3)) (s3 _ _ ep) (en.keep (Tw.Same.keepT s3)) (gn.more (by decide)) e1 e4 eX (by omega)⟩
  · intro σ H' Q1 Q2 hQ h
    obtain ⟨v, e, p, us, es, h1, h2, h3, h4, h5, h6⟩ := h
    refine ⟨v, e, p, us, es, h1, h2, h3, h4, h5, fun a H3 s3 e3 => ?_⟩
    obtain ⟨i, e4, a', xs, j, z, b1, b2, b3, b4, y, b5, i1, i2, b6, b7, b, b8, b9⟩ := h6 a H3 s3 e3
    exact ⟨i, e4, a', xs, j, z, b1, b2, b3, b4, y, b5, i1, i2, b6, b7, b, b8, hQ _ _ b9⟩
end
/-! ### what the nodes' list tells: the depth, the numbers of a letter -/
theorem steps_deep (t : B) : ∀ q : List Nat, (∀ s ∈ t.steps .first q, s.1.length + 1 ≤ q.length + t.deep) ∧ (t ≠ .nil → ∃ s ∈ t.steps .first q, s.1.length + 1 = q.length + t.deep) := by
  induction t with
  | nil => intro q; exact ⟨(fun s hs => by cases hs), fun h => absurd rfl h⟩
  | node l x r h1 h2 =>
    intro q
    obtain ⟨a1, b1⟩ := h1 (q ++ [108])
    obtain ⟨a2, b2⟩ := h2 (q ++ [114])
    have e1 : (q ++ [108]).length = q.length + 1 := by rw [List.length_append]; rfl
    have e2 : (q ++ [114]).length = q.length + 1 := by rw [List.length_append]; rfl
    have es : (B.node l x r).steps .first q = [(q, x)] ++ l.steps .first (q ++ [108]) ++ r.steps .first (q ++ [114]) := rfl
    have ed : (B.node l x r).deep = 1 + max l.deep r.deep := rfl
    refine ⟨fun s hs => ?_, fun _ => ?_⟩
    · rw [es, List.mem_append, List.mem_append] at hs
      rcases hs with (hs | hs) | hs
      · rw [List.mem_singleton.mp hs, ed]
        show q.length + 1 ≤ _
        omega
      · have := a1 s hs
        omega
      · have := a2 s hs
        omega
    · rw [es]
      by_cases c : r.deep ≤ l.deep
      · by_cases hl : l = .nil
        · have d0 : l.deep = 0 := by rw [hl]; rfl
          exact ⟨(q, x), List.mem_append_left _ (List.mem_append_left _ (List.mem_singleton.mpr rfl)), by show q.length + 1 = _; omega⟩
        · obtain ⟨s, hs, e⟩ := b1 hl
          exact ⟨s, List.mem_append_left _ (List.mem_append_right _ hs), by omega⟩
      · have hr : r ≠ .nil := fun z => by
          have d0 : r.deep = 0 := by rw [z]; rfl
          omega
        obtain ⟨s, hs, e⟩ := b2 hr
        exact ⟨s, List.mem_append_right _ hs, by omega⟩
theorem cnt_pre (c : Nat) (t : B) : (t.pre.filter fun d => decide (d = c)).length = t.cnt [c] := by
  induction t with
  | nil => rfl
  | node l x r h1 h2 =>
    show ((x :: (l.pre ++ r.pre)).filter fun d => decide (d = c)).length = l.cnt [c] + r.cnt [c] + if x ∈ [c] then 1 else 0
    rw [List.filter_cons, List.filter_append]
    by_cases h : x = c
    · rw [if_pos (decide_eq_true h), if_pos (List.mem_singleton.mpr h), List.length_cons, List.length_append, h1, h2]
    · rw [if_neg (by simpa using h), if_neg (fun z => h (List.mem_singleton.mp z)), List.length_append, h1, h2]
      rfl
theorem cnt_steps (c : Nat) (t : B) (q : List Nat) : ((t.steps .first q).filter fun s => decide (s.2 = c)).length = t.cnt [c] := by
  rw [← cnt_pre, show t.pre = (t.steps .first q).map (·.2) from (t.steps_wk .first q).symm, List.filter_map, List.length_map]
  rfl
theorem cnt_all {zs : List Nat} {t : B} (h : ∀ c ∈ t.pre, c ∈ zs) : t.cnt zs = t.size := by
  induction t with
  | nil => rfl
  | node l x r h1 h2 =>
    have a1 := h1 fun c hc => h c (List.mem_cons_of_mem _ (List.mem_append_left _ hc))
    have a2 := h2 fun c hc => h c (List.mem_cons_of_mem _ (List.mem_append_right _ hc))
    show l.cnt zs + r.cnt zs + (if x ∈ zs then 1 else 0) = l.size + 1 + r.size
    rw [if_pos (h x List.mem_cons_self), a1, a2]
    omega
/-- all labels that hang somewhere are letters -/
theorem pre_sub (P : Nat → Prop) (t : B) : ∀ h : List Nat → B, (∀ c ∈ t.pre, P c) → (∀ w, ∀ c ∈ (h w).pre, P c) → ∀ c ∈ (t.sub h).pre, P c := by
  induction t with
  | nil => intro h _ a; exact a []
  | node l x r h1 h2 =>
    intro h a b c hc
    have hc : c ∈ x :: ((l.sub fun w => h (108 :: w)).pre ++ (r.sub fun w => h (114 :: w)).pre) := hc
    rcases List.mem_cons.mp hc with rfl | hc
    · exact a c List.mem_cons_self
    · rcases List.mem_append.mp hc with hc | hc
      · exact h1 _ (fun d hd => a d (List.mem_cons_of_mem _ (List.mem_append_left _ hd))) (fun w => b _) c hc
      · exact h2 _ (fun d hd => a d (List.mem_cons_of_mem _ (List.mem_append_right _ hd))) (fun w => b _) c hc
theorem fulls_lt {lim : Nat} {es : List En} (g : GoodN lim es) : ∀ k, k ≤ es.length → ∀ X ∈ fulls (es.take k), ∀ c ∈ X.pre, 97 ≤ c ∧ c ≤ 122 := by
  intro k
  induction k with
  | zero => intro _ X hX; cases hX
  | succ k ih =>
    intro hk X hX
    have ee : es[k]? = some es[k] := List.getElem?_eq_getElem (by omega)
    rw [show es.take (k + 1) = es.take k ++ [es[k]] from take_next ee, fulls_snoc] at hX
    rcases List.mem_append.mp hX with hX | hX
    · exact ih (by omega) X hX
    · rw [List.mem_singleton.mp hX]
      refine pre_sub (fun c => 97 ≤ c ∧ c ≤ 122) _ _ (g k _ ee).lt fun w c hc => ?_
      by_cases z : hungL (fulls (es.take k)) es[k].2 w = .nil
      · rw [z] at hc; cases hc
      · obtain ⟨l, hl, _, e⟩ := hung_some z
        have fl : (fulls (es.take k)).length = k := by rw [fulls_len, List.length_take]; omega
        have hl2 : l.2 < (fulls (es.take k)).length := by rw [fl]; exact (g k _ ee).ix l hl
        rw [e, List.getD_eq_getElem?_getD, List.getElem?_eq_getElem hl2] at hc
        exact ih (by omega) _ (List.getElem_mem hl2) c hc
/-! ### a def entered at one caller -/
theorem enter_def {P : Program} {w : World} {K : PySem.W.Frag} {mg : Str → Option Value} {base : Heap} {f : Addr} {fd : FuncData} {N ps : List Str} {k : Nat} {x qual : Str} {st : Stmt} (F : Fun K x qual st f fd) (S : FnScope N ps (defScope st))
    {A : Around} {outer : List Env} {s : Shared} {H : Hp} {args : Args} {us : List Value} {vs : List V} {Q : VK} {E : XK}
    (room : Room (k + 1) A) (en : Env0 P w K mg base A outer s H) (bd : BindsTo s fd args (ps.zip us)) (rel : Vals vs us) (hln : vs.length = ps.length)
    (body : ∀ cdv : Value, Room k (A.deeper (envOfC qual (defScope st) s.heap.objs.size f cdv)) →
      ∃ t, PSs (cxOf CX0 P w K mg base N qual (defScope st) f cdv A outer s H E).nox (defBody st) t ∧ t { nx := fun _ H' => Q .non H', rt := Q } (start N vs) H) :
    codeAny (model P w) A (.call (.ref f) args) (CR CX0 outer P w H s Q E) s := by
  obtain ⟨oc, od, kV, doc, pm, an, cdv, ct, osl, rfl, look, code⟩ := F.ex
  have still : ∀ b o, base.get? b = some o → s.heap.get? b = some o := fun b o e => (en.bs b o e).1
  have inK : K.In s.heap := en.mod.kin.keeps still
  have noL : s.heap.NoLimit := en.mod.nolimit.keeps still
  have kinds : ∀ y ∈ ps.zip us, (defScope st).names.lookup y.1 = some .local ∨
      ((defScope st).names.lookup y.1 = some .cell ∧ ((cellsFrom (s.heap.objs.size + 1) (defScope st).names []).lookup y.1).isSome = true) := by
    rintro ⟨nm, u⟩ hy
    cases S.par nm (List.of_mem_zip hy).1 with
    | inl z => exact .inl z
    | inr z => exact .inr ⟨z, PySem.W.cellsFrom_some _ _ _ (.inl z)⟩
  have step := codeAny_call_function (prog := P) (w := w) (A := A) (s := s) room.depth (inK _ _ look) rfl S.co S.gen rfl (PySem.W.codeRec_of inK code)
    (R := CR CX0 outer P w H s Q E) (args := args)
  refine step (bd _ _ _ _ ?_)
  refine wpAny_newFunctionEnv_cells S.kind kinds ?_
  intro env isEnv s1 inC
  subst isEnv
  refine ⟨noL.keeps inC.toInCall.keep, codeAny_func ?_⟩
  obtain ⟨t, ht, hq⟩ := body cdv (room.deeper _)
  have J : Inv (cxOf CX0 P w K mg base N qual (defScope st) f cdv A outer s H E) [] (start N vs) H s1 := inv_start S room.hd en hln rel inC
  refine wpAny_mono (ht.nox.run [] s1 (start N vs) H _ J hq) ?_ ?_
  · intro fl s' done
    cases fl with
    | ret u =>
      obtain ⟨v, σ', H', I', rv, qv⟩ := done
      exact ⟨v, H', I'.os, I'.bare, I'.base, I'.hok, rv, qv⟩
    | next =>
      obtain ⟨σ', H', I', qv⟩ := done
      exact ⟨V.non, H', I'.os, I'.bare, I'.base, I'.hok, rfl, qv⟩
    | brk => exact done.elim fun _ z => z.elim fun _ z => z.2.elim
    | cont => exact done.elim fun _ z => z.elim fun _ z => z.2.elim
  · intro e s' z
    exact z
/-! ### the law's own call -/
theorem law_at {P : Program} {w : World} {K : PySem.W.Frag} {mg mb : Str → Option Value} {fa a : Addr} {s₁ : Shared} {vs : List Value} {ns : List Int}
    (inK : K.In s₁.heap) (gl : s₁.heap.Ns mainGlobals mg) (bl : s₁.heap.Ns builtinsNs mb) (isB : ∀ x : Str, x ≠ "__name__" → mb x = bootBuiltins x) (lim : s₁.heap.NoLimit) (gens : s₁.gens = #[])
    (obj : s₁.heap.get? a = some { cls := .type "list", data := .seq vs.toArray }) (hints : IntsAre vs ns) (few : ns.length ≤ sizeLine)
    (run : ∀ (base : Heap) (H : Hp), K.In base → base.Ns mainGlobals mg → Env0 P w K mg base callerA [] s₁ H → SqL K H a (ns.map V.int) →
      codeAny (model P w) callerA (.call (.ref fa) ⟨[.ref a], []⟩) (CR CX0 [] P w H s₁ (fun v _ => v = .bl true) fun _ _ _ => False) s₁) :
    codeAny (model P w) callerA (.call (.ref fa) ⟨[.ref a], []⟩) (fun r s' => r = .ok (.ret (.bool true)) ∧ OldK s₁.heap s'.heap ∧ s'.os = s₁.os ∧ AllBare s'.gens) s₁ := by
  have rel := vals_ints hints
  have lens := hints.length
  have found : ∃ H : Hp, Only H ∧ SqL K H a (ns.map V.int) ∧ HOk P w H s₁.heap ∧ (∀ b u, H b = some u → b = a ∧ K.lookup a = none) := by
    cases inText : K.lookup a with
    | some o =>
      have same := inK a o inText
      rw [obj] at same
      cases same
      have never : ∀ (u : HO), (none : Option HO) ≠ some u := fun u z => by cases z
      refine ⟨fun _ => none, fun _ => .inl rfl, ?_, (fun b u z => (never u z).elim), (fun b u z => (never u z).elim)⟩
      refine .inr ⟨_, vs.toArray, _, inText, rfl, rfl, rfl, ?_, ?_⟩
      · rw [List.size_toArray, lens]
        exact few
      · rw [List.toList_toArray]
        exact rel
    | none =>
      let here : HO := .frz { cls := .type "list", data := .seq vs.toArray } (.lst (ns.map V.int))
      have only : ∀ b u, (if b = a then some here else none) = some u → b = a ∧ u = here := fun b u z => by
        by_cases hb : b = a
        · rw [if_pos hb] at z
          exact ⟨hb, (Option.some.inj z).symm⟩
        · rw [if_neg hb] at z
          cases z
      refine ⟨fun b => if b = a then some here else none, fun b => ?_, .inl (.inr ⟨{ cls := .type "list", data := .seq vs.toArray }, if_pos rfl⟩), fun b u z => ?_, fun b u z => ⟨(only b u z).1, rfl⟩⟩
      · by_cases hb : b = a
        · exact .inr ⟨_, _, if_pos hb⟩
        · exact .inl (if_neg hb)
      · obtain ⟨rfl, rfl⟩ := only b u z
        exact ⟨obj, by rw [List.length_map]; exact few, vs, _, rel, obj⟩
  obtain ⟨H, hO, hS, hok, hA⟩ := found
  have under : ∀ {b : Addr} {o : Obj}, s₁.heap.get? b = some o → H b = none → (hidT s₁.heap H).get? b = some o := fun e z => hidT_get e z
  have notDict : ∀ {b : Addr} {o : Obj} {es : Array DictEntry} {ep : Nat}, s₁.heap.get? b = some o → o.data = .dict es ep → H b = none := by
    intro b o es ep e isD
    cases z : H b with
    | none => rfl
    | some u =>
      obtain ⟨rfl, _⟩ := hA b u z
      rw [obj] at e
      cases e
      cases isD
  have ns' : ∀ {b : Addr} {m : Str → Option Value}, s₁.heap.Ns b m → (hidT s₁.heap H).Ns b m := by
    rintro b m ⟨o, es, ep, e, isD, r⟩
    exact ⟨o, es, ep, under e (notDict e isD), isD, r⟩
  have inK' : K.In (hidT s₁.heap H) := by
    intro b o e
    refine under (inK b o e) ?_
    cases z : H b with
    | none => rfl
    | some u =>
      obtain ⟨rfl, no⟩ := hA b u z
      rw [no] at e
      cases e
  obtain ⟨mc, l1, l2⟩ := lim
  have env : Env0 P w K mg (hidT s₁.heap H) callerA [] s₁ H :=
    ⟨rfl, ⟨inK', ns' gl, ⟨mb, ns' bl, isB⟩, ⟨mc, ns' l1, l2⟩⟩, fun _ _ e => of_hidT e, Nat.le_of_eq (hidT_size _ _), trivial, (fun _ hb => nomatch hb), hok, .of_eq gens⟩
  refine codeAny_mono (run _ H inK' (ns' gl) env hS) ?_
  intro r s' h
  cases r with
  | error e => exact h.elim
  | ok fl =>
    cases fl with
    | next => exact h.elim
    | brk => exact h.elim
    | cont => exact h.elim
    | ret u =>
      obtain ⟨v, H', os, bare, un, hok', rv, isT⟩ := h
      subst isT
      cases rv
      refine ⟨rfl, OldK.of_keep ?_, os, bare⟩
      intro b o e
      cases z : H b with
      | none => exact un.keep b o e z (fun y => nomatch y) (fun y => nomatch y)
      | some u =>
        rcases hO b with y | ⟨ob, xs, y⟩
        · rw [z] at y
          cases y
        · have y2 := un.frzs b ob _ y
          obtain ⟨e1, _⟩ := hok b _ y
          obtain ⟨e2, _⟩ := hok' b _ y2
          rw [e] at e1
          cases e1
          exact e2
/-! ### defs that ask for repr: the guards are carried -/
structure FnOkG (P : Program) (w : World) (K : PySem.W.Frag) (mg : Str → Option Value) (base : Heap) (k : Nat) (f : Addr) (fd : FuncData) (ps : List Str) (sp : Sp) : Prop where
  len : ∀ vs H Q E, sp vs H Q E → vs.length = ps.length
  run : ∀ (A : Around) (outer : List Env) (s : Shared) (H : Hp) (args : Args) (us : List Value) (vs : List V) (Q : VK) (E : XK), A.guards = some [] → Room k A → Env0 P w K mg base A outer s H →
    BindsTo s fd args (ps.zip us) → Vals vs us → sp vs H Q E → codeAny (model P w) A (.call (.ref f) args) (CR CX0 outer P w H s Q E) s
theorem fnG {P : Program} {w : World} {K : PySem.W.Frag} {mg : Str → Option Value} {base : Heap} {f : Addr} {fd : FuncData} {N ps : List Str} {k : Nat} {x qual : Str} {st : Stmt} {sp : Sp} (F : Fun K x qual st f fd) (S : FnScope N ps (defScope st))
    (len : ∀ vs H Q E, sp vs H Q E → vs.length = ps.length)
    (body : ∀ (cdv : Value) (A : Around) (outer : List Env) (s : Shared) (H : Hp) (vs : List V) (Q : VK) (E : XK), A.guards = some [] → Room k (A.deeper (envOfC qual (defScope st) s.heap.objs.size f cdv)) → sp vs H Q E →
      ∃ t, PSs (cxOf CX0 P w K mg base N qual (defScope st) f cdv A outer s H E).nox (defBody st) t ∧ t { nx := fun _ H' => Q .non H', rt := Q } (start N vs) H) :
    FnOkG P w K mg base (k + 1) f fd ps sp := by
  refine ⟨len, ?_⟩
  intro A outer s H args us vs Q E gs room en bd rel hsp
  exact enter_def F S room en bd rel (len _ _ _ _ hsp) fun cdv hr => body cdv A outer s H vs Q E gs hr hsp
theorem pe_callG {X : Cx} {k : Nat} {f : Addr} {fd : FuncData} {ps : List Str} {sp : Sp} {x : Str} {p pos : Pos} {e : Expr} {es : List Expr} {t : TA}
    (G : FnOkG X.prog X.w X.K X.mg X.base k f fd ps sp) (gs : X.A.guards = some []) (room : Room k X.A) (isG : Gl X x) (at0 : X.mg x = some (.ref f)) (kp : PySem.W.keepIn X.K (.ref f) = true) (bd : Binds X.K fd ps []) (args : PA X (e :: es) t)
    (nd : (x == ("__debug__" : Str)) = false := by decide) (he : starEach (e :: es) X.env = (false, eval e X.env) :: starEach es X.env := by rfl) (hp : (backTo pos (starEach es X.env)).any (·.1) = false := by rfl) :
    PE X (.Call (.Name x p) (e :: es) [] pos) (tCall sp [] E0 t) := by
  constructor
  intro pins s σ H Q I h
  refine wpAny_Call_Name_kw (ld_glob I isG at0 ?_ nd)
  refine PySem.W.callWith_K (h₀ := X.base) I.ok.mod.kin kp (thn (args.run pos pins s σ H _ I h) ?_) he hp
  rintro us s1 ⟨vs, H1, I1, rel, q⟩
  refine ⟨I1.kIn, ?_⟩
  have q' : sp vs H1 Q E0 := by
    rw [List.append_nil] at q
    exact q
  have hl : (us ++ []).length = ps.length := by
    rw [List.append_nil, ← rel.length]
    exact G.len _ _ _ _ q'
  have bd' := bd s1 us I1.kIn hl
  rw [List.append_nil] at bd'
  refine wpAny_call (codeAny_mono (G.run X.A X.stack s1 H1 ⟨us, []⟩ us vs Q E0 gs room I1.env0 bd' rel q') ?_)
  intro r s' done
  cases r with
  | error e => exact done.elim
  | ok fl =>
    cases fl with
    | ret u => exact I1.after done
    | next => exact done.elim
    | brk => exact done.elim
    | cont => exact done.elim
/-- a def that asks for repr, with its promise -/
structure DfG (P : Program) (w : World) (K : PySem.W.Frag) (mg : Str → Option Value) (base : Heap) (k : Nat) (nm : Str) (ps : List Str) (sp : Sp) where
  f : Addr
  fd : FuncData
  ok : FnOkG P w K mg base k f fd ps sp
  b : Binds K fd ps []
  kp : PySem.W.keepIn K (.ref f) = true
  g : mg nm = some (.ref f)
/-! ### repr of data without dicts -/
mutual
def okR : PyData → Bool
  | .none => true
  | .bool _ => true
  | .int i => decide (0 ≤ i) && decide (i < 10 ^ 30)
  | .str x => decide (x.length ≤ 64) && x.cps.toList.all (· < 128)
  | .list xs => okRs xs
  | .tuple xs => okRs xs
  | .dict _ => false
def okRs : List PyData → Bool
  | [] => true
  | x :: xs => okR x && okRs xs
end
mutual
def wtR : PyData → Nat
  | .none => 4
  | .bool _ => 5
  | .int _ => 31
  | .str x => 10 * x.length + 2
  | .list xs => 3 + wtRs xs
  | .tuple xs => 3 + wtRs xs
  | .dict _ => 0
def wtRs : List PyData → Nat
  | [] => 0
  | x :: xs => wtR x + 2 + wtRs xs
end
theorem small_shown {i : Int} (h0 : 0 ≤ i) (h : i < 10 ^ 30) : (Str.ofString (toString i)).length ≤ 31 ∧ i.natAbs.log2 < 1920 := by
  refine ⟨Nat.le_trans (toString_length_le h0 (by decide) h) (by decide), ?_⟩
  by_cases z : i.natAbs = 0
  · rw [z]; decide
  · rw [Nat.log2_lt z]
    have h2 : i.natAbs < 10 ^ 30 := by omega
    exact Nat.lt_of_lt_of_le h2 (Nat.le_trans (show 10 ^ 30 ≤ 2 ^ 100 by decide) (Nat.pow_le_pow_right (by decide) (by decide)))
theorem listText_leR (ts : List Str) : (listText ts).length ≤ piled ts + 3 := by
  have h := textFrom_len_le ts 0 "["
  have e : (listText ts).length = (textFrom 0 "[" ts).length + 1 := by
    show (textFrom 0 "[" ts ++ "]").length = _
    rw [strLen_append]
    rfl
  have z : ∀ l : List Str, (l.map (·.length)).sum + 2 * l.length = piled l := by
    intro l
    induction l with
    | nil => rfl
    | cons t l ih =>
      rw [piled_cons, List.map_cons, List.sum_cons, List.length_cons]
      omega
  have z2 := z ts
  have z3 : (("[" : String) : Str).length = 1 := rfl
  omega
mutual
theorem shownR : ∀ d : PyData, okR d = true → d.shown.length ≤ wtR d ∧ d.showable = true ∧ d.hasDict = false
  | .none, _ => by
    simp only [PyData.shown, wtR, PyData.showable, PyData.hasDict, and_true]
    decide +kernel
  | .bool b, _ => by
    simp only [PyData.shown, wtR, PyData.showable, PyData.hasDict, and_true]
    cases b <;> decide +kernel
  | .int i, h => by
    simp only [okR, Bool.and_eq_true, decide_eq_true_eq] at h
    obtain ⟨h1, h2⟩ := small_shown h.1 h.2
    simp only [PyData.shown, wtR, PyData.showable, PyData.hasDict, decide_eq_true_eq, and_true]
    exact ⟨h1, h2⟩
  | .str x, h => by
    simp only [okR, Bool.and_eq_true, decide_eq_true_eq, List.all_eq_true] at h
    have h1 := StrLaws.reprText_len x (fun c hc => Nat.lt_of_lt_of_le (h.2 c hc) (by decide))
    simp only [PyData.shown, wtR, PyData.showable, PyData.hasDict, and_true]
    omega
  | .list xs, h => by
    simp only [okR] at h
    obtain ⟨h1, h2, h3⟩ := shownRs xs h
    simp only [PyData.shown, wtR, PyData.showable, PyData.hasDict]
    exact ⟨Nat.le_trans (listText_leR _) (by omega), h2, h3⟩
  | .tuple xs, h => by
    simp only [okR] at h
    obtain ⟨h1, h2, h3⟩ := shownRs xs h
    simp only [PyData.shown, wtR, PyData.showable, PyData.hasDict]
    exact ⟨Nat.le_trans (fmt_text _) (by omega), h2, h3⟩
  | .dict _, h => by
    simp only [okR] at h
    exact absurd h Bool.false_ne_true
theorem shownRs : ∀ ds : List PyData, okRs ds = true → piled (PyData.shownAll ds) ≤ wtRs ds ∧ PyData.showableAll ds = true ∧ PyData.hasDictAll ds = false
  | [], _ => by
    simp only [PyData.shownAll, wtRs, PyData.showableAll, PyData.hasDictAll, and_true]
    exact Nat.le_refl _
  | d :: ds, h => by
    simp only [okRs, Bool.and_eq_true] at h
    obtain ⟨h1, h2, h5⟩ := shownR d h.1
    obtain ⟨h3, h4, h6⟩ := shownRs ds h.2
    simp only [PyData.shownAll, wtRs, PyData.showableAll, PyData.hasDictAll, h2, h4, h5, h6, Bool.and_self, Bool.or_self, and_true]
    rw [piled_cons]
    omega
end
def rReprR (K : PySem.W.Frag) : List V → Hp → VK → Prop := fun xs H Q => ∃ (a : Addr) (d : PyData), xs = [.ref a] ∧ Dp K H (.ref a) d ∧ okR d = true ∧ wtR d ≤ 1000000 ∧ d.depth ≤ 60 ∧ Q (.str d.shown) H
theorem call_reprR {X : Cx} (hg : X.A.guards = some []) (hu : X.A.units + 64 < cLine) : CallR X (.builtin "repr") (rReprR X.K) := by
  intro pins s σ H xs us Q I r h
  obtain ⟨a, d, rfl, hd, hs, hw, hz, q⟩ := h
  obtain ⟨u, rfl, rx⟩ := vals1 r
  cases rx
  obtain ⟨h1, h2, h3⟩ := shownR d hs
  obtain ⟨as, rd⟩ := Dp.reads I d _ _ hd rfl
  exact repr_of_reads' rd h2 (PyData.noDict_hsm h3) hg (by omega) (fun _ _ e => e) (fun h' u tk hk => ⟨.str d.shown, H, I.kept (t' := tk) hk, ⟨u, rfl⟩, q⟩) (by show _ ≤ 16777216; omega)
/-! ### data of nests; how large a nest is -/
theorem B.data_depth : ∀ t : B, t.data.depth = t.deep
  | .nil => by simp only [B.data, PyData.depth, B.deep]
  | .node l x r => by
    simp only [B.data, PyData.depth, PyData.depthAll, B.deep, l.data_depth, r.data_depth]
    omega
theorem okR_ch {c : Nat} (h : c < 128) : okR (.str (ch c)) = true := by
  simp only [okR, Bool.and_eq_true, decide_eq_true_eq, List.all_eq_true]
  refine ⟨by show 1 ≤ 64; decide, fun z hz => ?_⟩
  have : z = c := by simpa using hz
  omega
theorem okR_tree : ∀ t : B, ltB t → okR t.data = true ∧ wtR t.data ≤ 25 * t.size + 4
  | .nil, _ => by simp only [B.data, okR, wtR]; exact ⟨trivial, Nat.le_add_left ..⟩
  | .node l x r, h => by
    obtain ⟨a1, a2⟩ := okR_tree l fun c hc => h c (List.mem_cons_of_mem _ (List.mem_append_left _ hc))
    obtain ⟨b1, b2⟩ := okR_tree r fun c hc => h c (List.mem_cons_of_mem _ (List.mem_append_right _ hc))
    have hx := h x List.mem_cons_self
    have e1 : okR (.str (ch x)) = true := okR_ch (by omega)
    have e2 : wtR (.str (ch x)) = 12 := rfl
    simp only [B.data, okR, okRs, a1, b1, Bool.and_true, Bool.true_and]
    refine ⟨by simpa only [okR] using e1, ?_⟩
    show wtR (.tuple [l.data, .str (ch x), r.data]) ≤ 25 * (l.size + 1 + r.size) + 4
    have e3 : wtR (.tuple [l.data, .str (ch x), r.data]) = 3 + (wtR l.data + 2 + (wtR (.str (ch x)) + 2 + (wtR r.data + 2 + 0))) := by simp only [wtR, wtRs]
    rw [e3, e2]
    omega
theorem op_signs : ∀ (t : B) (w : List Nat), w ∈ t.op → ∀ c ∈ w, c = 108 ∨ c = 114
  | .nil, w, h, c, hc => by
    rw [List.mem_singleton.mp h] at hc
    cases hc
  | .node l x r, w, h, c, hc => by
    rcases List.mem_append.mp h with h | h
    · obtain ⟨u, hu, rfl⟩ := List.mem_map.mp h
      rcases List.mem_cons.mp hc with rfl | hc
      · exact .inl rfl
      · exact op_signs l u hu c hc
    · obtain ⟨u, hu, rfl⟩ := List.mem_map.mp h
      rcases List.mem_cons.mp hc with rfl | hc
      · exact .inr rfl
      · exact op_signs r u hu c hc
theorem int_lt {n : Nat} (h : n < 10 ^ 30) : (n : Int) < 10 ^ 30 := by exact_mod_cast h
def lkD (l : Lk) : PyData := .tuple [.str (tx l.1), .int (l.2 : Int)]
def enD (e : En) : PyData := .tuple [e.1.data, .tuple (e.2.map lkD)]
def nestD (es : List En) : PyData := .tuple (es.map enD)
theorem LkAt.dp {K : PySem.W.Frag} {H : Hp} {vs : List V} {ls : List Lk} (h : LkAt H vs ls) : DpAll K H vs (ls.map lkD) := by
  induction h with
  | nil => exact .nil
  | cons e _ ih => exact .cons (.tup (SqT.of e) (.cons (.str _) (.cons (.int _) .nil))) ih
theorem EnAt.dp {K : PySem.W.Frag} {H : Hp} {vs : List V} {es : List En} (h : EnAt H vs es) : DpAll K H vs (es.map enD) := by
  induction h with
  | nil => exact .nil
  | cons e1 e2 e3 e4 _ ih => exact .cons (.tup (SqT.of e1) (.cons e2.dp (.cons (.tup (SqT.of e3) e4.dp) .nil))) ih
theorem links_ok {t : B} {n : Nat} (hn : n ≤ 1000) (ht : t.deep ≤ 60) : ∀ ls : List Lk, (∀ l ∈ ls, l.1 ∈ t.op) → (∀ l ∈ ls, l.2 < n) → okRs (ls.map lkD) = true ∧ wtRs (ls.map lkD) ≤ 700 * ls.length ∧ PyData.depthAll (ls.map lkD) ≤ 1
  | [], _, _ => by
    refine ⟨by simp only [List.map_nil, okRs], by simp only [List.map_nil, wtRs]; exact Nat.zero_le _, by simp only [List.map_nil, PyData.depthAll]; omega⟩
  | l :: ls, h1, h2 => by
    obtain ⟨a, b, c⟩ := links_ok hn ht ls (fun k hk => h1 k (List.mem_cons_of_mem _ hk)) (fun k hk => h2 k (List.mem_cons_of_mem _ hk))
    have p1 := op_deep (h1 l List.mem_cons_self)
    have p2 := op_signs t l.1 (h1 l List.mem_cons_self)
    have p3 := h2 l List.mem_cons_self
    have k1 : okR (.str (tx l.1)) = true := by
      simp only [okR, Bool.and_eq_true, decide_eq_true_eq, List.all_eq_true, tx_len]
      refine ⟨decide_eq_true (by omega), fun z hz => ?_⟩
      have := p2 z hz
      omega
    have k2 : okR (.int (l.2 : Int)) = true := by
      simp only [okR, Bool.and_eq_true, decide_eq_true_eq]
      exact ⟨by omega, int_lt (Nat.lt_of_lt_of_le p3 (Nat.le_trans hn (by decide)))⟩
    have k3 : wtR (.str (tx l.1)) = 10 * l.1.length + 2 := rfl
    refine ⟨?_, ?_, ?_⟩
    · rw [List.map_cons]
      show (okR (.tuple [.str (tx l.1), .int (l.2 : Int)]) && okRs (ls.map lkD)) = true
      rw [a, Bool.and_true]
      show (okR (.str (tx l.1)) && (okR (.int (l.2 : Int)) && true)) = true
      rw [k1, k2]
      rfl
    · rw [List.map_cons]
      show wtR (.tuple [.str (tx l.1), .int (l.2 : Int)]) + 2 + wtRs (ls.map lkD) ≤ _
      have : wtR (.tuple [.str (tx l.1), .int (l.2 : Int)]) = 3 + (wtR (.str (tx l.1)) + 2 + (31 + 2 + 0)) := by simp only [wtR, wtRs]
      rw [this, k3, List.length_cons]
      omega
    · rw [List.map_cons]
      simp only [PyData.depthAll, lkD, PyData.depth]
      omega
theorem entries_ok : ∀ (es : List En), (∀ e ∈ es, ∃ n, n ≤ 20 ∧ GoodE 12 n e) → okRs (es.map enD) = true ∧ wtRs (es.map enD) ≤ 10000 * es.length ∧ PyData.depthAll (es.map enD) ≤ 14
  | [], _ => by
    refine ⟨by simp only [List.map_nil, okRs], by simp only [List.map_nil, wtRs]; exact Nat.zero_le _, by simp only [List.map_nil, PyData.depthAll]; omega⟩
  | e :: es, h => by
    obtain ⟨a, b, c⟩ := entries_ok es fun k hk => h k (List.mem_cons_of_mem _ hk)
    obtain ⟨n, hn, g⟩ := h e List.mem_cons_self
    obtain ⟨t, ls⟩ := e
    have td := t.deep_le
    have s2 : t.size ≤ 12 := g.s2
    obtain ⟨k1, k2⟩ := okR_tree t g.lt
    obtain ⟨m1, m2, m3⟩ := links_ok (t := t) (n := n) (by omega) (by omega) ls g.op g.ix
    have ll := links_len g (Nat.le_refl _)
    refine ⟨?_, ?_, ?_⟩
    · rw [List.map_cons]
      show ((okR t.data && (okRs (ls.map lkD) && true)) && okRs (es.map enD)) = true
      rw [a, k1, m1]
      rfl
    · rw [List.map_cons]
      show wtR (.tuple [t.data, .tuple (ls.map lkD)]) + 2 + wtRs (es.map enD) ≤ _
      have : wtR (.tuple [t.data, .tuple (ls.map lkD)]) = 3 + (wtR t.data + 2 + (3 + wtRs (ls.map lkD) + 2 + 0)) := by simp only [wtR, wtRs]
      rw [this, List.length_cons]
      omega
    · rw [List.map_cons]
      simp only [PyData.depthAll, enD, PyData.depth, B.data_depth]
      omega
theorem nest_ok {es : List En} (g : GoodN 12 es) (h : es.length ≤ 20) : okR (nestD es) = true ∧ wtR (nestD es) ≤ 1000000 ∧ (nestD es).depth ≤ 60 := by
  obtain ⟨a, b, c⟩ := entries_ok es fun e he => by
    obtain ⟨i, hi⟩ := List.getElem?_of_mem he
    have := (List.getElem?_eq_some_iff.mp hi).1
    exact ⟨i, by omega, g i e hi⟩
  refine ⟨?_, ?_, ?_⟩
  · simp only [nestD, okR, a]
  · simp only [nestD, wtR]
    omega
  · simp only [nestD, PyData.depth]
    omega
theorem sum_le {m : Nat} : ∀ l : List Nat, (∀ x ∈ l, x ≤ m) → l.sum ≤ l.length * m
  | [], _ => Nat.zero_le _
  | x :: l, h => by
    have h1 := h x List.mem_cons_self
    have h2 := sum_le l fun y hy => h y (List.mem_cons_of_mem _ hy)
    rw [List.sum_cons, List.length_cons, Nat.add_mul]
    omega
theorem fulls_size {es : List En} (g : GoodN 12 es) : ∀ k, k ≤ es.length → ∀ X ∈ fulls (es.take k), X.size + 1 ≤ 13 ^ k := by
  intro k
  induction k with
  | zero => intro _ X hX; cases hX
  | succ k ih =>
    intro hk X hX
    have ee : es[k]? = some es[k] := List.getElem?_eq_getElem (by omega)
    have p13 : 13 ^ (k + 1) = 13 ^ k * 13 := Nat.pow_succ ..
    have p1 : 1 ≤ 13 ^ k := Nat.pos_of_ne_zero (by simp)
    rw [show es.take (k + 1) = es.take k ++ [es[k]] from take_next ee, fulls_snoc] at hX
    rcases List.mem_append.mp hX with hX | hX
    · have := ih (by omega) X hX
      omega
    · rw [List.mem_singleton.mp hX]
      have ge := g k _ ee
      have fl : (fulls (es.take k)).length = k := by rw [fulls_len, List.length_take]; omega
      rw [size_full ge.nd ge.op]
      have s2 := ge.s2
      have sm := sum_le (m := 13 ^ k - 1) (es[k].2.map fun l => ((fulls (es.take k)).getD l.2 .nil).size) fun x hx => by
        obtain ⟨l, hl, rfl⟩ := List.mem_map.mp hx
        have hl2 : l.2 < (fulls (es.take k)).length := by rw [fl]; exact ge.ix l hl
        rw [List.getD_eq_getElem?_getD, List.getElem?_eq_getElem hl2]
        have := ih (by omega) _ (List.getElem_mem hl2)
        show (fulls (es.take k))[l.2].size ≤ _
        omega
      have ll : es[k].2.length ≤ es[k].1.size + 1 := by
        have h1 : (es[k].2.map (·.1)).length ≤ es[k].1.op.length := nodup_le ge.nd fun p hp => by
          obtain ⟨l, hl, rfl⟩ := List.mem_map.mp hp
          exact ge.op l hl
        rw [List.length_map, B.op_len] at h1
        exact h1
      rw [List.length_map] at sm
      have : es[k].2.length * (13 ^ k - 1) ≤ 13 * (13 ^ k - 1) := Nat.mul_le_mul_right _ (by omega)
      omega
theorem full_size {es : List En} (g : GoodN 12 es) (h20 : es.length ≤ 20) {X : B} (e : (fulls es)[es.length - 1]? = some X) : X.size < 10 ^ 30 ∧ ∀ c ∈ X.pre, 97 ≤ c ∧ c ≤ 122 := by
  have hm := List.mem_of_getElem? e
  have a := fulls_size g es.length (Nat.le_refl _) X (by rw [List.take_length]; exact hm)
  have b := fulls_lt g es.length (Nat.le_refl _) X (by rw [List.take_length]; exact hm)
  have c : 13 ^ es.length ≤ 13 ^ 20 := Nat.pow_le_pow_right (by decide) h20
  have d : 13 ^ 20 ≤ 10 ^ 30 := by decide
  exact ⟨by omega, b⟩
theorem cnt_le (zs : List Nat) : ∀ t : B, t.cnt zs ≤ t.size
  | .nil => Nat.le_refl _
  | .node l x r => by
    have h1 := cnt_le zs l
    have h2 := cnt_le zs r
    show l.cnt zs + r.cnt zs + (if x ∈ zs then 1 else 0) ≤ l.size + 1 + r.size
    split <;> omega
/-! rows of numbers -/
def numD (ns : List Nat) : PyData := .list (ns.map fun n : Nat => .int (n : Int))
theorem dp_nums {K : PySem.W.Frag} {H : Hp} : ∀ ns : List Nat, DpAll K H (ns.map vn) (ns.map fun n : Nat => PyData.int (n : Int))
  | [] => .nil
  | _ :: ns => .cons (.int _) (dp_nums ns)
theorem nums_ok : ∀ ns : List Nat, (∀ n ∈ ns, n < 10 ^ 30) → okRs (ns.map fun n : Nat => PyData.int (n : Int)) = true ∧ wtRs (ns.map fun n : Nat => PyData.int (n : Int)) = 33 * ns.length ∧ PyData.depthAll (ns.map fun n : Nat => PyData.int (n : Int)) = 0 ∧ PyData.canLayAll0 (ns.map fun n : Nat => PyData.int (n : Int)) = true
  | [], _ => by simp only [List.map_nil, okRs, wtRs, PyData.depthAll, PyData.canLayAll0]; exact ⟨trivial, rfl, trivial, trivial⟩
  | n :: ns, h => by
    obtain ⟨a, b, c, d⟩ := nums_ok ns fun k hk => h k (List.mem_cons_of_mem _ hk)
    have := h n List.mem_cons_self
    simp only [List.map_cons, okRs, okR, wtRs, wtR, PyData.depthAll, PyData.depth, PyData.canLayAll0, PyData.canLay0, a, b, c, d, List.length_cons, Bool.and_true, Bool.and_self, Bool.and_eq_true, decide_eq_true_eq]
    refine ⟨⟨by omega, int_lt this⟩, by omega, by omega, trivial⟩
theorem eqv_nums : ∀ ns : List Nat, PyData.eqvAll (ns.map fun n : Nat => PyData.int (n : Int)) (ns.map fun n : Nat => PyData.int (n : Int)) = true
  | [] => by simp only [List.map_nil, PyData.eqvAll]
  | n :: ns => by simp only [List.map_cons, PyData.eqvAll, PyData.eqv, eqv_nums ns, Bool.and_true]; simp
def rReprV (K : PySem.W.Frag) : List V → Hp → VK → Prop := fun xs H Q => ∃ (v : V) (d : PyData), xs = [v] ∧ Dp K H v d ∧ okR d = true ∧ wtR d ≤ 1000000 ∧ d.depth ≤ 60 ∧ Q (.str d.shown) H
theorem call_reprV {X : Cx} (hg : X.A.guards = some []) (hu : X.A.units + 64 < cLine) : CallR X (.builtin "repr") (rReprV X.K) := by
  intro pins s σ H xs us Q I r h
  obtain ⟨v, d, rfl, hd, hs, hw, hz, q⟩ := h
  obtain ⟨u, rfl, rx⟩ := vals1 r
  obtain ⟨h1, h2, h3⟩ := shownR d hs
  have fits : d.shown.length ≤ sizeLine := by show _ ≤ 16777216; omega
  have rds := Dp.reads I d v u hd rx
  have fin : ∀ (h' : Heap) (t : Tok) (tk : Tok), (∀ b o, s.heap.get? b = some o → h'.get? b = some o) → EP X pins σ Q (.str d.shown t) { s with heap := h', toks := tk } := fun h' t tk hk => ⟨.str d.shown, H, I.kept (t' := tk) hk, ⟨t, rfl⟩, q⟩
  cases hd with
  | non =>
    cases rx
    simp only [PyData.shown] at fin
    exact PySem.P.repr_of_none (fin s.heap _ _ fun _ _ e => e)
  | bl b =>
    cases rx
    simp only [PyData.shown] at fin
    exact PySem.P.repr_of_bool (fin s.heap _ _ fun _ _ e => e)
  | int i =>
    obtain ⟨t, rfl⟩ := rx
    simp only [PyData.shown] at fin
    simp only [PyData.showable, decide_eq_true_eq] at h2
    exact PySem.P.repr_of_int h2 (fin s.heap _ _ fun _ _ e => e)
  | str x =>
    obtain ⟨t, rfl⟩ := rx
    simp only [PyData.shown] at fin fits
    exact PySem.P.repr_of_str (fin s.heap _ _ fun _ _ e => e) fits
  | lst _ _ =>
    cases rx
    obtain ⟨as, rd⟩ := rds
    exact repr_of_reads' rd h2 (PyData.noDict_hsm h3) hg (by omega) (fun _ _ e => e) (fun h' u tk hk => fin h' u tk hk) fits
  | tup _ _ =>
    cases rx
    obtain ⟨as, rd⟩ := rds
    exact repr_of_reads' rd h2 (PyData.noDict_hsm h3) hg (by omega) (fun _ _ e => e) (fun h' u tk hk => fin h' u tk hk) fits
def spSameV (K : PySem.W.Frag) : Sp := fun vs H Q _ => ∃ (a b : V) (d : PyData), vs = [a, b] ∧ Dp K H a d ∧ Dp K H b d ∧ okR d = true ∧ wtR d ≤ 1000000 ∧ d.depth ≤ 60 ∧ Q (.bl true) H
section
variable {P : Program} {w : World} {K : PySem.W.Frag} {mg : Str → Option Value} {base : Heap} {f : Addr} {fd : FuncData}
theorem ok_same (F : Fun K "_law_same" "_law_same" s__law_same f fd) (mrepr : mg "repr" = none) : FnOkG P w K mg base 1 f fd ["_law_found", "_law_due"] (spSameV K) := by
  refine fnG F sc__law_same (fun vs H Q E h => ?_) (fun cdv A outer s H vs Q E gs hr h => ?_)
  · obtain ⟨a, b, d, rfl, _⟩ := h
    rfl
  obtain ⟨a, b, d, rfl, h1, h2, k1, k2, k3, q⟩ := h
  refine ⟨_, (pss_one (ps_ret (pe_cmpR op_eq (pe_callB (call_reprV gs hr.units) rfl mrepr (by decide +kernel) (pa_cons (pv 0) pa_nil)) (pe_callB (call_reprV gs hr.units) rfl mrepr (by decide +kernel) (pa_cons (pv 1) pa_nil)) (nomark _)))), ?_⟩
  refine ⟨_, rfl, a, d, rfl, h1, k1, k2, k3, _, rfl, b, d, rfl, h2, k1, k2, k3, rfl, ?_⟩
  rw [decide_eq_true rfl]
  exact q
end
/-! ### TURNS, turned, way_to -/
def tw (n : Nat) : List Nat := if n = 0 then [] else [n]
def Kd.turns : Kd → List Nat
  | .first => [0, 108, 114]
  | .between => [108, 0, 114]
  | .last => [108, 114, 0]
/-- where the table of turns stands -/
structure Turns (K : PySem.W.Frag) (w : World) (mg : Str → Option Value) (aT : Addr) : Prop where
  g : mg "TURNS" = some (.ref aT)
  d : ∀ k : Kd, ∃ b : Addr, KDct K w aT k.str (.ref b) ∧ ∀ H, SqT K H b (k.turns.map fun n => vt (tw n))
theorem turns_first : (Kd.first.turns.map fun n => vt (tw n)) = [.str "", .str "l", .str "r"] := by
  show [V.str (tx []), V.str (tx [108]), V.str (tx [114])] = _
  rw [← str_0, ← str_l, ← str_r]
theorem turns_between : (Kd.between.turns.map fun n => vt (tw n)) = [.str "l", .str "", .str "r"] := by
  show [V.str (tx [108]), V.str (tx []), V.str (tx [114])] = _
  rw [← str_0, ← str_l, ← str_r]
theorem turns_last : (Kd.last.turns.map fun n => vt (tw n)) = [.str "l", .str "r", .str ""] := by
  show [V.str (tx [108]), V.str (tx [114]), V.str (tx [])] = _
  rw [← str_0, ← str_l, ← str_r]
def sel (zs : List Nat) (L : List (List Nat × Nat)) : List (List Nat × Nat) := L.filter fun s => decide (s.2 ∈ zs)
def seg (k : Kd) (zs : List Nat) (l : B) (x : Nat) (r : B) (q : List Nat) (n : Nat) : List (List Nat × Nat) := if n = 0 then sel zs [(q, x)] else if n = 108 then sel zs (l.steps k (q ++ [108])) else sel zs (r.steps k (q ++ [114]))
def segN (zs : List Nat) (l : B) (x : Nat) (r : B) (n : Nat) : Nat := if n = 0 then (if x ∈ zs then 1 else 0) else if n = 108 then l.cnt zs else r.cnt zs
def sideB (u l r : B) (n : Nat) : B := if n = 0 then u else if n = 108 then l else r
theorem sel_app (zs : List Nat) (L M : List (List Nat × Nat)) : sel zs (L ++ M) = sel zs L ++ sel zs M := List.filter_append ..
theorem sel_node (k : Kd) (zs : List Nat) (l : B) (x : Nat) (r : B) (q : List Nat) : sel zs ((B.node l x r).steps k q) = k.turns.flatMap (seg k zs l x r q) := by
  cases k
  · show sel zs ([(q, x)] ++ l.steps .first (q ++ [108]) ++ r.steps .first (q ++ [114])) = sel zs [(q, x)] ++ (sel zs (l.steps .first (q ++ [108])) ++ (sel zs (r.steps .first (q ++ [114])) ++ []))
    rw [sel_app, sel_app, List.append_nil, List.append_assoc]
  · show sel zs (l.steps .between (q ++ [108]) ++ [(q, x)] ++ r.steps .between (q ++ [114])) = sel zs (l.steps .between (q ++ [108])) ++ (sel zs [(q, x)] ++ (sel zs (r.steps .between (q ++ [114])) ++ []))
    rw [sel_app, sel_app, List.append_nil, List.append_assoc]
  · show sel zs (l.steps .last (q ++ [108]) ++ r.steps .last (q ++ [114]) ++ [(q, x)]) = sel zs (l.steps .last (q ++ [108])) ++ (sel zs (r.steps .last (q ++ [114])) ++ (sel zs [(q, x)] ++ []))
    rw [sel_app, sel_app, List.append_nil, List.append_assoc]
theorem sel_one (zs : List Nat) (q : List Nat) (x : Nat) : sel zs [(q, x)] = if x ∈ zs then [(q, x)] else [] := by
  unfold sel
  by_cases h : x ∈ zs
  · rw [if_pos h, List.filter_cons, if_pos (decide_eq_true h)]; rfl
  · rw [if_neg h, List.filter_cons, if_neg (by simpa using h)]; rfl
theorem sel_len (k : Kd) (zs : List Nat) (t : B) : ∀ q : List Nat, (sel zs (t.steps k q)).length = t.cnt zs := by
  induction t with
  | nil => intro q; rfl
  | node l x r h1 h2 =>
    intro q
    have a := h1 (q ++ [108])
    have b := h2 (q ++ [114])
    rw [sel_node]
    show _ = l.cnt zs + r.cnt zs + if x ∈ zs then 1 else 0
    cases k
    · show (sel zs [(q, x)] ++ (sel zs (l.steps .first (q ++ [108])) ++ (sel zs (r.steps .first (q ++ [114])) ++ []))).length = _
      rw [List.length_append, List.length_append, List.length_append, a, b, sel_one, List.length_nil]
      split <;> simp only [List.length_cons, List.length_nil] <;> omega
    · show (sel zs (l.steps .between (q ++ [108])) ++ (sel zs [(q, x)] ++ (sel zs (r.steps .between (q ++ [114])) ++ []))).length = _
      rw [List.length_append, List.length_append, List.length_append, a, b, sel_one, List.length_nil]
      split <;> simp only [List.length_cons, List.length_nil] <;> omega
    · show (sel zs (l.steps .last (q ++ [108])) ++ (sel zs (r.steps .last (q ++ [114])) ++ (sel zs [(q, x)] ++ []))).length = _
      rw [List.length_append, List.length_append, List.length_append, a, b, sel_one, List.length_nil]
      split <;> simp only [List.length_cons, List.length_nil] <;> omega
theorem seg_len (k : Kd) (zs : List Nat) (l : B) (x : Nat) (r : B) (q : List Nat) (n : Nat) : (seg k zs l x r q n).length = segN zs l x r n := by
  unfold seg segN
  by_cases h0 : n = 0
  · rw [if_pos h0, if_pos h0, sel_one]; split <;> rfl
  · rw [if_neg h0, if_neg h0]
    by_cases h1 : n = 108
    · rw [if_pos h1, if_pos h1, sel_len]
    · rw [if_neg h1, if_neg h1, sel_len]
def isT (n : Nat) : Prop := n = 0 ∨ n = 108 ∨ n = 114
theorem turns_isT (k : Kd) : ∀ n ∈ k.turns, isT n := by
  intro n hn
  cases k <;> simp only [Kd.turns, List.mem_cons, List.mem_nil_iff, or_false] at hn <;> unfold isT <;> omega
theorem tw_len (n : Nat) : (tw n).length ≤ 1 := by unfold tw; split <;> simp
theorem tw_0 : tw 0 = [] := rfl
theorem tw_ne {n : Nat} (h : n ≠ 0) : tw n = [n] := if_neg h
theorem str_l' : Str.ofString "l" = tx [108] := by decide +kernel
def spTurned : Sp := fun vs H Q _ => ∃ (sp cp : Addr) (ss : List V) (ds : List B) (zs : List Nat) (at0 n x : Nat) (l r : B), vs = [.ref sp, .ref cp, vn at0, vt (tw n)] ∧ H sp = some (.lst ss) ∧ SpAt H ss ds ∧ H cp = some (.lst (ds.map fun d => vn (d.cnt zs))) ∧ ds[at0]? = some (.node l x r) ∧ isT n ∧
  ∀ (p : Addr) (i : Nat) (H' : Hp), Same H H' → H' p = some (.tup [vn i, vn (segN zs l x r n)]) → ds[i]? = some (sideB (.node l x r) l r n) → (n ≠ 0 → i < at0) → Q (.ref p) H'
theorem SpAt.node {H : Hp} {ss : List V} {ds : List B} (h : SpAt H ss ds) {k x : Nat} {l r : B} (e : ds[k]? = some (.node l x r)) : ∃ (a : Addr) (i j : Nat), ss[k]? = some (.ref a) ∧ H a = some (.tup [.int (i : Int), .str (ch x), .int (j : Int)]) ∧ i < k ∧ j < k ∧ ds[i]? = some l ∧ ds[j]? = some r := by
  have hk := (List.getElem?_eq_some_iff.mp e).1
  have k0 : 0 < k := by
    rcases Nat.eq_zero_or_pos k with z | z
    · subst z
      rw [h.pos] at e
      cases e
    · exact z
  obtain ⟨a, i, j, c, l', r', h1, h2, h3, h4, h5, h6, h7⟩ := h.each k k0 hk
  rw [e] at h7
  cases h7
  exact ⟨a, i, j, h1, h2, h3, h4, h5, h6⟩
section
variable {P : Program} {w : World} {K : PySem.W.Frag} {mg : Str → Option Value} {base : Heap} {f : Addr} {fd : FuncData}
theorem ok_turned {k : Nat} (F : Fun K "turned" "turned" s_turned f fd) : FnOk P w K mg base CX0 (k + 1) f fd ["spots", "counts", "at", "turn"] spTurned := by
  refine F.ok sc_turned (fun vs H Q E h => ?_) (fun cdv A outer s H vs Q E hr h => ?_)
  · obtain ⟨sp, cp, ss, ds, zs, at0, n, x, l, r, rfl, _⟩ := h
    rfl
  obtain ⟨sp, cp, ss, ds, zs, at0, n, x, l, r, rfl, es, sa, ec, e0, ht, q⟩ := h
  refine ⟨_, (pss_cons (ps_asg (pe_ix ix_list (pv 0) (pv 2) (fun _ _ => rfl)) (pg_tup rfl (pgs_cons (pg_name (i := 4) sc_turned.nd rfl (.inl rfl)) (pgs_cons (pg_name (i := 5) sc_turned.nd rfl (.inl rfl)) (pgs_cons (pg_name (i := 6) sc_turned.nd rfl (.inl rfl)) pgs_nil)))))
    (pss_cons (ps_if (pt_cmpR op_eq (pv 3) pe_str (nomark _))
      (pss_one (ps_ret (pe_tup (pa_cons (pv 2) (pa_cons (pe_op op_sub (pe_op op_sub (pe_ix ix_list (pv 1) (pv 2) (fun _ _ => rfl)) (pe_ix ix_list (pv 1) (pv 4) (fun _ _ => rfl))) (pe_ix ix_list (pv 1) (pv 6) (fun _ _ => rfl))) pa_nil))))) pss_nil)
    (pss_cons (ps_set (i := 7) sc_turned.nd rfl (.inl rfl) (pe_ifExp (pt_cmpR op_eq (pv 3) pe_str (nomark _)) (pv 4) (pv 6)))
    (pss_one (ps_ret (pe_tup (pa_cons (pv 7) (pa_cons (pe_ix ix_list (pv 1) (pv 7) (fun _ _ => rfl)) pa_nil)))))))), ?_⟩
  obtain ⟨a, i, j, h1, h2, hi, hj, el, er⟩ := sa.node e0
  have get : ∀ (m : Nat) (d : B), ds[m]? = some d → (ds.map fun d => vn (d.cnt zs))[m]? = some (vn (d.cnt zs)) := fun m d hd => by rw [List.getElem?_map, hd]; rfl
  refine ⟨_, rfl, _, rfl, sp, _, _, _, rfl, rfl, SqL.of es, atI_nat h1, a, _, rfl, SqT.of h2, rfl, _, _, rfl, _, _, rfl, _, _, rfl, rfl, ?_⟩
  refine ⟨_, rfl, rfl, _, rfl, ?_⟩
  by_cases n0 : n = 0
  · subst n0
    refine iteS (by rw [str_0]; rfl) ?_
    refine ⟨_, rfl, _, rfl, _, rfl, cp, _, _, _, rfl, rfl, SqL.of ec, atI_nat (get _ _ e0), _, rfl, _, rfl, cp, _, _, _, rfl, rfl, SqL.of ec, atI_nat (get _ _ el), _, _, rfl, rfl, _, rfl, _, rfl, cp, _, _, _, rfl, rfl, SqL.of ec, atI_nat (get _ _ er), _, _, rfl, rfl, (by show 2 ≤ sizeLine; decide), fun p np => ?_⟩
    have e : ((B.node l x r).cnt zs : Int) - (l.cnt zs : Int) - (r.cnt zs : Int) = ((segN zs l x r 0 : Nat) : Int) := by
      show ((l.cnt zs + r.cnt zs + (if x ∈ zs then 1 else 0) : Nat) : Int) - _ - _ = ((if x ∈ zs then 1 else 0 : Nat) : Int)
      split <;> omega
    refine q p at0 _ (same_new np _) ?_ e0 (fun z => absurd rfl z)
    rw [upd_same]
    exact congrArg (fun z : Int => some (HO.tup [vn at0, V.int z])) e
  · refine iteR (by rw [str_0, tw_ne n0]; exact fun z => by cases tx_inj z) ?_
    refine ⟨_, rfl, rfl, _, rfl, ?_⟩
    by_cases n1 : n = 108
    · subst n1
      refine iteS (by rw [str_l']; rfl) ?_
      refine ⟨_, rfl, _, rfl, _, rfl, _, rfl, cp, _, _, _, rfl, rfl, SqL.of ec, atI_nat (get _ _ el), (by show 2 ≤ sizeLine; decide), fun p np => ?_⟩
      exact q p i _ (same_new np _) upd_same el (fun _ => hi)
    · have n2 : n = 114 := by unfold isT at ht; omega
      subst n2
      refine iteR (by rw [str_l']; exact fun z => by cases tx_inj z) ?_
      refine ⟨_, rfl, _, rfl, _, rfl, _, rfl, cp, _, _, _, rfl, rfl, SqL.of ec, atI_nat (get _ _ er), (by show 2 ≤ sizeLine; decide), fun p np => ?_⟩
      exact q p j _ (same_new np _) upd_same er (fun _ => hj)
/-! the path of the node with so many counted ones before it -/
def spWay (K : PySem.W.Frag) : Sp := fun vs H Q _ => ∃ (sp cp : Addr) (ss : List V) (ds : List B) (zs : List Nat) (k : Kd) (n : Nat) (X : B) (W : List Nat) (c : Nat), vs = [.ref sp, .ref cp, .str k.str, vn n] ∧ H sp = some (.lst ss) ∧ SpAt H ss ds ∧ ds.length ≤ 300 ∧ H cp = some (.lst (ds.map fun d => vn (d.cnt zs))) ∧ ds[ds.length - 1]? = some X ∧ (sel zs (X.steps k []))[n]? = some (W, c) ∧
  ∀ H', Same H H' → W.length ≤ 300 → Q (vt W) H'
def atOf : L2.St → Nat
  | [_, _, _, _, _, _, some (.int i), _, _, _] => i.toNat
  | _ => 0
theorem ok_way {aT : Addr} (F : Fun K "way_to" "way_to" s_way_to f fd) (M : Mgs mg) (T : Turns K w mg aT) (Dturned : Df P w K mg base 1 "turned" ["spots", "counts", "at", "turn"] spTurned) : FnOk P w K mg base CX0 2 f fd ["spots", "counts", "kind", "index"] (spWay K) := by
  have mT := T.g
  refine F.ok sc_way_to (fun vs H Q E h => ?_) (fun cdv A outer s H vs Q E hr h => ?_)
  · obtain ⟨sp, cp, ss, ds, zs, k, n, X, W, c, rfl, _⟩ := h
    rfl
  obtain ⟨sp, cp, ss, ds, zs, k, n, X, W, c, rfl, es, sa, dl, ec, eX, hW, q⟩ := h
  refine ⟨_, (pss_cons (ps_set (i := 4) sc_way_to.nd rfl (.inl rfl) pe_str)
    (pss_cons (ps_set (i := 5) sc_way_to.nd rfl (.inl rfl) (pv 3))
    (pss_cons (ps_set (i := 6) sc_way_to.nd rfl (.inl rfl) (pe_op op_sub (pe_callB call_len_seq rfl M.len PySem.boot_len (pa_cons (pv 0) pa_nil)) pe_int))
    (pss_one (ps_while PassesOwn.never (pt_val pe_bl)
      (pss_cons (ps_for PassesOwn.never rfl (pi_tup (pe_ix ix_kdict (pe_glob (v := .ref _) rfl mT rfl) (pv 2) (fun _ _ => rfl))) (pg_name (i := 7) sc_way_to.nd rfl (.inl rfl))
      (pss_cons (ps_asg (pe_call Dturned.ok (hr.mono (by omega)) rfl Dturned.g Dturned.kp Dturned.b .nil pass0 (pa_cons (pv 0) (pa_cons (pv 1) (pa_cons (pv 6) (pa_cons (pv 7) pa_nil))))) (pg_tup rfl (pgs_cons (pg_name (i := 8) sc_way_to.nd rfl (.inl rfl)) (pgs_cons (pg_name (i := 9) sc_way_to.nd rfl (.inl rfl)) pgs_nil))))
    (pss_cons (ps_if (pt_cmpR op_lt (pv 5) (pv 9) (nomark _))
      (pss_one ps_break) pss_nil)
    (pss_one (ps_aug (i := 5) sc_way_to.nd rfl (.inl rfl) (pv 9) ip_sub)))))
    (pss_cons (ps_if (pt_cmpR op_eq (pv 7) pe_str (nomark _))
      (pss_one (ps_ret (pv 4))) pss_nil)
    (pss_cons (ps_aug (i := 4) sc_way_to.nd rfl (.inl rfl) (pv 7) (show PIp _ .Add _ from iop_add_str))
    (pss_one (ps_set (i := 6) sc_way_to.nd rfl (.inl rfl) (pv 8))))))))))), ?_⟩
  have sl := sa.len
  have dx := (List.getElem?_eq_some_iff.mp eX).1
  refine ⟨_, rfl, ?_⟩
  refine ⟨_, rfl, sp, ss, rfl, .inl (SqL.of es), _, _, rfl, rfl, ?_⟩
  have ei : ((ss.length : Nat) : Int) - 1 = ((ds.length - 1 : Nat) : Int) := by omega
  have e1 : vn (ds.length - 1) = V.int (((ss.length : Nat) : Int) - 1) := congrArg V.int ei.symm
  have e2 : vt [] = V.str (Str.ofString "") := by rw [str_0]
  obtain ⟨bT, kd, sq⟩ := T.d k
  refine while_by (fun σ H' => ∃ (way : List Nat) (rest at0 : Nat) (u : B) (o7 o8 o9 : Option V), σ = [some (.ref sp), some (.ref cp), some (.str k.str), some (vn n), some (vt way), some (vn rest), some (vn at0), o7, o8, o9] ∧ Same H H' ∧ ds[at0]? = some u ∧ (sel zs (u.steps k way))[rest]? = some (W, c) ∧ way.length + at0 ≤ 300)
    (fun σ H' => atOf σ) ⟨[], n, ds.length - 1, X, none, none, none, by rw [e1, e2]; rfl, Same.refl H, eX, hW, by simp only [List.length_nil]; omega⟩ (fun σ H1 hp => ?_) ?_
  · obtain ⟨way, rest, at0, u, o7, o8, o9, rfl, s1, eu, hr0, wl⟩ := hp
    refine ⟨_, rfl, iteT ?_⟩
    obtain ⟨l, x, r, rfl⟩ : ∃ l x r, u = .node l x r := by
      cases u with
      | nil => exact absurd hr0 (by simp [B.steps, sel])
      | node l x r => exact ⟨l, x, r, rfl⟩
    rw [sel_node] at hr0
    refine ⟨_, rfl, aT, k.str, _, rfl, rfl, kd, bT, rfl, ⟨_, sq H1⟩, ?_⟩
    refine for_tup (K := K) (a := bT) (xs := k.turns.map fun n => vt (tw n)) (fun j σ H' => ∃ (rest : Nat) (o7 o8 o9 : Option V), σ = [some (.ref sp), some (.ref cp), some (.str k.str), some (vn n), some (vt way), some (vn rest), some (vn at0), o7, o8, o9] ∧ Same H H' ∧ ((k.turns.drop j).flatMap (seg k zs l x r way))[rest]? = some (W, c))
      ⟨rest, o7, o8, o9, rfl, s1, hr0⟩ (fun _ _ H' _ _ => sq H') (fun j v σ H2 hv hp => ?_) (fun σ H2 hp => ?_)
    · obtain ⟨rest, o7, o8, o9, rfl, s2, hr1⟩ := hp
      rw [List.getElem?_map] at hv
      obtain ⟨m, hm, rfl⟩ := Option.map_eq_some_iff.mp hv
      have im := turns_isT k m (List.mem_of_getElem? hm)
      refine ⟨_, rfl, _, rfl, _, rfl, _, rfl, sp, cp, ss, ds, zs, at0, m, x, l, r, rfl, s2 _ _ es, sa.keep (Tw.Same.keepT s2), s2 _ _ ec, eu, im, fun p i H3 s3 ep ei hlt => ?_⟩
      refine ⟨p, _, rfl, SqT.of ep, rfl, _, _, rfl, _, _, rfl, rfl, ?_⟩
      refine ⟨_, rfl, _, rfl, _, _, rfl, rfl, _, rfl, ?_⟩
      have hj := (List.getElem?_eq_some_iff.mp hm).1
      rw [List.drop_eq_getElem_cons hj, (List.getElem?_eq_some_iff.mp hm).2, List.flatMap_cons] at hr1
      by_cases hc : rest < segN zs l x r m
      · rw [decide_eq_true (by omega : (rest : Int) < (segN zs l x r m : Int))]
        refine iteT ?_
        rw [List.getElem?_append_left (by rw [seg_len]; exact hc)] at hr1
        -- behind the loop
        refine ⟨_, rfl, rfl, _, rfl, ?_⟩
        by_cases m0 : m = 0
        · subst m0
          refine iteS (by rw [str_0]; rfl) ?_
          have hr2 : (sel zs [(way, x)])[rest]? = some (W, c) := hr1
          rw [sel_one] at hr2
          have e : W = way := by
            split at hr2
            · cases rest with
              | zero => cases hr2; rfl
              | succ r => cases hr2
            · cases hr2
          subst e
          exact ⟨_, rfl, q H3 (s2.trans s3) (by omega)⟩
        · refine iteR (by rw [str_0, tw_ne m0]; exact fun z => by cases tx_inj z) ?_
          have hlt' := hlt m0
          refine ⟨_, rfl, _, rfl, _, _, rfl, rfl, small (by rw [tx_len, tx_len]; have := tw_len m; omega), ?_⟩
          rw [tx_app, tw_ne m0]
          refine ⟨_, rfl, ⟨way ++ [m], rest, i, sideB (.node l x r) l r m, _, _, _, rfl, s2.trans s3, ei, ?_, by rw [List.length_append, List.length_cons, List.length_nil]; omega⟩, ?_⟩
          · unfold seg at hr1
            unfold sideB
            rw [if_neg m0] at hr1 ⊢
            by_cases m1 : m = 108
            · subst m1
              rw [if_pos rfl] at hr1 ⊢
              exact hr1
            · have m2 : m = 114 := by unfold isT at im; omega
              subst m2
              rw [if_neg (by decide)] at hr1 ⊢
              exact hr1
          · show ((i : Int)).toNat < ((at0 : Int)).toNat
            omega
      · rw [decide_eq_false (by omega : ¬ (rest : Int) < (segN zs l x r m : Int))]
        refine iteF ?_
        rw [List.getElem?_append_right (by rw [seg_len]; omega), seg_len] at hr1
        refine ⟨_, rfl, _, rfl, _, _, rfl, rfl, ?_⟩
        have e : (rest : Int) - (segN zs l x r m : Int) = ((rest - segN zs l x r m : Nat) : Int) := by omega
        have e' : vn (rest - segN zs l x r m) = V.int ((rest : Int) - (segN zs l x r m : Int)) := congrArg V.int e.symm
        exact ⟨rest - segN zs l x r m, _, _, _, by rw [e']; rfl, s2.trans s3, hr1⟩
    · obtain ⟨rest, o7, o8, o9, rfl, s2, hr1⟩ := hp
      rw [List.length_map, List.drop_eq_nil_of_le (Nat.le_refl _)] at hr1
      cases hr1
  · intro σ H Q Q' h1 h2
    obtain ⟨b, e, h3⟩ := h2
    exact ⟨b, e, h1 _ _ h3⟩
end
/-! ### is_index; label_on, way_at, label_in -/
section
variable {P : Program} {w : World} {K : PySem.W.Frag} {mg : Str → Option Value} {base : Heap} {f : Addr} {fd : FuncData}
def spWhole : Sp := fun vs H Q _ => ∃ i : Int, vs = [.int i] ∧ Q (.bl true) H
theorem ok_whole {k : Nat} (F : Fun K "is_whole_number" "is_whole_number" s_is_whole_number f fd) (M : Mgs mg) : FnOk P w K mg base CX0 (k + 1) f fd ["value"] spWhole := by
  refine F.ok sc_is_whole_number (fun vs H Q E h => ?_) (fun cdv A outer s H vs Q E hr h => ?_)
  · obtain ⟨i, rfl, _⟩ := h
    rfl
  obtain ⟨i, rfl, q⟩ := h
  refine ⟨_, (pss_one (ps_ret (pe_and (pe_callB call_isi rfl M.isinstance (by decide +kernel) (pa_cons (pv 0) (pa_cons (pe_bltn (v := .ty "int") rfl M.int (by decide +kernel) rfl) pa_nil))) (pe_one (pe_not (pe_callB call_isi rfl M.isinstance (by decide +kernel) (pa_cons (pv 0) (pa_cons (pe_bltn (v := .ty "bool") rfl M.bool (by decide +kernel) rfl) pa_nil)))))))), ?_⟩
  refine ⟨_, rfl, _, _, _, _, true, rfl, .ty _, .base (.int i), kit_ty (by decide +kernel), _, rfl, iteT ?_⟩
  exact ⟨_, rfl, _, _, _, _, false, rfl, .ty _, .base (.int i), kit_ty (by decide +kernel), _, rfl, q⟩
def spIndex : Sp := fun vs H Q _ => ∃ i n : Int, vs = [.int i, .int n] ∧ Q (.bl (decide (0 ≤ i) && decide (i < n))) H
theorem ok_index {k : Nat} (F : Fun K "is_index" "is_index" s_is_index f fd) (Dis_whole_number : Df P w K mg base (k + 1) "is_whole_number" ["value"] spWhole) : FnOk P w K mg base CX0 (k + 2) f fd ["value", "many"] spIndex := by
  refine F.ok sc_is_index (fun vs H Q E h => ?_) (fun cdv A outer s H vs Q E hr h => ?_)
  · obtain ⟨i, n, rfl, _⟩ := h
    rfl
  obtain ⟨i, n, rfl, q⟩ := h
  refine ⟨_, (pss_one (ps_ret (pe_and (pe_call Dis_whole_number.ok (hr.mono (by omega)) rfl Dis_whole_number.g Dis_whole_number.kp Dis_whole_number.b .nil pass0 (pa_cons (pv 0) pa_nil)) (pe_one (pe_chain op_le op_lt pe_int (pv 0) (pv 1)))))), ?_⟩
  refine ⟨_, rfl, i, rfl, _, rfl, iteT ?_⟩
  refine ⟨_, rfl, _, _, rfl, rfl, _, rfl, ?_⟩
  by_cases h0 : (0 : Int) ≤ i
  · rw [decide_eq_true h0] at q ⊢
    exact iteT ⟨_, rfl, _, _, rfl, rfl, q⟩
  · rw [decide_eq_false h0] at q ⊢
    exact iteF q
end
theorem steps_at (k : Kd) (t : B) : ∀ (q p : List Nat) (c : Nat), (p, c) ∈ t.steps k q → ∃ w l r, p = q ++ w ∧ t.at w = some (.node l c r) := by
  induction t with
  | nil => intro q p c h; cases h
  | node l x r h1 h2 =>
    intro q p c h
    have h' : (p, c) = (q, x) ∨ (p, c) ∈ l.steps k (q ++ [108]) ∨ (p, c) ∈ r.steps k (q ++ [114]) := by
      cases k <;> simp only [B.steps, List.mem_append, List.mem_singleton] at h
      · rcases h with (h | h) | h
        · exact .inl h
        · exact .inr (.inl h)
        · exact .inr (.inr h)
      · rcases h with (h | h) | h
        · exact .inr (.inl h)
        · exact .inl h
        · exact .inr (.inr h)
      · rcases h with (h | h) | h
        · exact .inr (.inl h)
        · exact .inr (.inr h)
        · exact .inl h
    rcases h' with h | h | h
    · cases h
      exact ⟨[], l, r, by rw [List.append_nil], rfl⟩
    · obtain ⟨w, l', r', e1, e2⟩ := h1 _ _ _ h
      refine ⟨108 :: w, l', r', by rw [e1, List.append_assoc]; rfl, ?_⟩
      show (if (108 : Nat) = 108 then l.at w else _) = _
      rw [if_pos rfl]
      exact e2
    · obtain ⟨w, l', r', e1, e2⟩ := h2 _ _ _ h
      refine ⟨114 :: w, l', r', by rw [e1, List.append_assoc]; rfl, ?_⟩
      show (if (114 : Nat) = 108 then l.at w else if (114 : Nat) = 114 then r.at w else none) = _
      rw [if_neg (by decide), if_pos rfl]
      exact e2
theorem at_cons {u : B} {d : Nat} {w : List Nat} {v : B} (h : u.at (d :: w) = some v) : ∃ l x r, u = .node l x r ∧ ((d = 108 ∧ l.at w = some v) ∨ (d = 114 ∧ r.at w = some v)) := by
  cases u with
  | nil => cases h
  | node l x r =>
    refine ⟨l, x, r, rfl, ?_⟩
    have h' : (if d = 108 then l.at w else if d = 114 then r.at w else none) = some v := h
    by_cases d1 : d = 108
    · rw [if_pos d1] at h'
      exact .inl ⟨d1, h'⟩
    · rw [if_neg d1] at h'
      by_cases d2 : d = 114
      · rw [if_pos d2] at h'
        exact .inr ⟨d2, h'⟩
      · rw [if_neg d2] at h'
        cases h'
def alph : List Nat := (Str.ofString "abcdefghijklmnopqrstuvwxyz").cps.toList
theorem alph_mem {c : Nat} (h : 97 ≤ c ∧ c ≤ 122) : c ∈ alph := by
  have e2 : alph = (List.range 26).map (· + 97) := by decide +kernel
  rw [e2]
  exact List.mem_map.mpr ⟨c - 97, List.mem_range.mpr (by omega), by omega⟩
theorem sel_all {zs : List Nat} {k : Kd} {X : B} {q : List Nat} (h : ∀ c ∈ X.wk k, c ∈ zs) : sel zs (X.steps k q) = X.steps k q := by
  unfold sel
  rw [List.filter_eq_self]
  intro s hs
  refine decide_eq_true (h _ ?_)
  rw [← X.steps_wk k q]
  exact List.mem_map.mpr ⟨s, hs, rfl⟩
theorem wk_mem (k : Kd) (X : B) (c : Nat) : c ∈ X.wk k ↔ c ∈ X.pre := by
  cases k
  · exact Iff.rfl
  · exact X.mid_mem c
  · show c ∈ X.post ↔ c ∈ X.pre
    induction X with
    | nil => exact Iff.rfl
    | node l x r h1 h2 =>
      show c ∈ l.post ++ r.post ++ [x] ↔ c ∈ x :: (l.pre ++ r.pre)
      simp only [List.mem_append, List.mem_cons, List.mem_nil_iff, or_false, h1, h2]
      constructor
      · rintro ((h | h) | h)
        · exact .inr (.inl h)
        · exact .inr (.inr h)
        · exact .inl h
      · rintro (h | h | h)
        · exact .inr h
        · exact .inl (.inl h)
        · exact .inl (.inr h)
theorem steps_all {k : Kd} {X : B} (h : ∀ c ∈ X.pre, 97 ≤ c ∧ c ≤ 122) : sel alph (X.steps k []) = X.steps k [] := sel_all fun c hc => alph_mem (h c ((wk_mem k X c).mp hc))
theorem cnt_alph {X : B} (h : ∀ c ∈ X.pre, 97 ≤ c ∧ c ≤ 122) : X.cnt alph = X.size := cnt_all fun c hc => alph_mem (h c hc)
/-! ### way_at -/
def spWayAt (K : PySem.W.Frag) : Sp := fun vs H Q _ => ∃ (sp cp : Addr) (ss : List V) (ds : List B) (zs : List Nat) (k : Kd) (n : Nat) (X : B) (W : List Nat) (c : Nat), vs = [.ref sp, .ref cp, .str k.str, vn n] ∧ H sp = some (.lst ss) ∧ SpAt H ss ds ∧ ds.length ≤ 300 ∧ H cp = some (.lst (ds.map fun d => vn (d.cnt zs))) ∧ ds[ds.length - 1]? = some X ∧ n < X.cnt zs ∧ (sel zs (X.steps k []))[n]? = some (W, c) ∧
  ∀ H', Same H H' → W.length ≤ 300 → Q (vt W) H'
section
variable {P : Program} {w : World} {K : PySem.W.Frag} {mg : Str → Option Value} {base : Heap} {f : Addr} {fd : FuncData}
theorem ok_wayAt (F : Fun K "way_at" "way_at" s_way_at f fd) (Dis_index : Df P w K mg base 2 "is_index" ["value", "many"] spIndex) (Dway_to : Df P w K mg base 2 "way_to" ["spots", "counts", "kind", "index"] (spWay K)) : FnOk P w K mg base CX0 3 f fd ["spots", "sizes", "kind", "place"] (spWayAt K) := by
  refine F.ok sc_way_at (fun vs H Q E h => ?_) (fun cdv A outer s H vs Q E hr h => ?_)
  · obtain ⟨sp, cp, ss, ds, zs, k, n, X, W, c, rfl, _⟩ := h
    rfl
  obtain ⟨sp, cp, ss, ds, zs, k, n, X, W, c, rfl, es, sa, dl, ec, eX, hn, hW, q⟩ := h
  refine ⟨_, (pss_cons (ps_if (pt_not (pt_val (pe_call Dis_index.ok (hr.mono (by omega)) rfl Dis_index.g Dis_index.kp Dis_index.b .nil pass0 (pa_cons (pv 3) (pa_cons (pe_ix ix_list (pv 1) (pe_un un_neg pe_int) (fun _ _ => rfl)) pa_nil)))))
      (pss_one ps_never) pss_nil)
    (pss_one (ps_ret (pe_call Dway_to.ok (hr.mono (by omega)) rfl Dway_to.g Dway_to.kp Dway_to.b .nil pass0 (pa_cons (pv 0) (pa_cons (pv 1) (pa_cons (pv 2) (pa_cons (pv 3) pa_nil)))))))), ?_⟩
  refine ⟨_, rfl, _, rfl, _, rfl, cp, _, _, _, rfl, rfl, SqL.of ec, at_last (v := vn (X.cnt zs)) (by rw [List.length_map, List.getElem?_map, eX]; rfl), ?_⟩
  refine ⟨_, _, rfl, ?_⟩
  rw [decide_eq_true (by omega : (0 : Int) ≤ (n : Int)), decide_eq_true (by omega : (n : Int) < (X.cnt zs : Int))]
  refine ⟨_, rfl, iteF ?_⟩
  exact ⟨_, rfl, _, rfl, _, rfl, _, rfl, sp, cp, ss, ds, zs, k, n, X, W, c, rfl, es, sa, dl, ec, eX, hW, q⟩
end
/-! ### label_on, label_in -/
def spLabOn : Sp := fun vs H Q _ => ∃ (sp : Addr) (ss : List V) (ds : List B) (X : B) (W : List Nat) (c : Nat) (l r : B), vs = [.ref sp, vt W] ∧ H sp = some (.lst ss) ∧ SpAt H ss ds ∧ ds.length ≤ 300 ∧ ds[ds.length - 1]? = some X ∧ X.at W = some (.node l c r) ∧ Q (.str (ch c)) H
section
variable {P : Program} {w : World} {K : PySem.W.Frag} {mg : Str → Option Value} {base : Heap} {f : Addr} {fd : FuncData}
theorem ok_labOn {k : Nat} (F : Fun K "label_on" "label_on" s_label_on f fd) (M : Mgs mg) : FnOk P w K mg base CX0 (k + 1) f fd ["spots", "way"] spLabOn := by
  refine F.ok sc_label_on (fun vs H Q E h => ?_) (fun cdv A outer s H vs Q E hr h => ?_)
  · obtain ⟨sp, ss, ds, X, W, c, l, r, rfl, _⟩ := h
    rfl
  obtain ⟨sp, ss, ds, X, W, c, l, r, rfl, es, sa, dl, eX, hW, q⟩ := h
  refine ⟨_, (pss_cons (ps_set (i := 2) sc_label_on.nd rfl (.inl rfl) (pe_op op_sub (pe_callB call_len_seq rfl M.len PySem.boot_len (pa_cons (pv 0) pa_nil)) pe_int))
    (pss_cons (ps_for PassesOwn.never rfl (pi_str (pv 1)) (pg_name (i := 3) sc_label_on.nd rfl (.inl rfl))
      (pss_cons (ps_asg (pe_ix ix_list (pv 0) (pv 2) (fun _ _ => rfl)) (pg_tup rfl (pgs_cons (pg_name (i := 4) sc_label_on.nd rfl (.inl rfl)) (pgs_cons (pg_name (i := 5) sc_label_on.nd rfl (.inl rfl)) (pgs_cons (pg_name (i := 6) sc_label_on.nd rfl (.inl rfl)) pgs_nil)))))
    (pss_one (ps_set (i := 2) sc_label_on.nd rfl (.inl rfl) (pe_ifExp (pt_cmpR op_eq (pv 3) pe_str (nomark _)) (pv 4) (pv 6))))))
    (pss_one (ps_ret (pe_ix ix_tup (pe_ix ix_list (pv 0) (pv 2) (fun _ _ => rfl)) pe_int (fun _ _ => rfl)))))), ?_⟩
  have sl := sa.len
  have dx := (List.getElem?_eq_some_iff.mp eX).1
  refine ⟨_, rfl, sp, ss, rfl, .inl (SqL.of es), _, _, rfl, rfl, ?_⟩
  have ei : ((ss.length : Nat) : Int) - 1 = ((ds.length - 1 : Nat) : Int) := by omega
  have e1 : vn (ds.length - 1) = V.int (((ss.length : Nat) : Int) - 1) := congrArg V.int ei.symm
  refine ⟨_, rfl, _, rfl, ?_⟩
  refine for_text (x := tx W) (fun j σ H' => H' = H ∧ ∃ (at0 : Nat) (u : B) (o3 o4 o5 o6 : Option V), σ = [some (.ref sp), some (vt W), some (vn at0), o3, o4, o5, o6] ∧ ds[at0]? = some u ∧ u.at (W.drop j) = some (.node l c r))
    ⟨rfl, ds.length - 1, X, none, none, none, none, by rw [e1]; rfl, eX, hW⟩ (fun j d σ H1 hd hp => ?_) (fun σ H1 hp => ?_)
  · obtain ⟨rfl, at0, u, o3, o4, o5, o6, rfl, eu, hu⟩ := hp
    have hd' : W[j]? = some d := hd
    have hj := (List.getElem?_eq_some_iff.mp hd').1
    rw [List.drop_eq_getElem_cons hj, (List.getElem?_eq_some_iff.mp hd').2] at hu
    obtain ⟨l', x', r', rfl, hs⟩ := at_cons hu
    obtain ⟨a, i, i', h1, h2, hi, hi', el, er⟩ := sa.node eu
    refine ⟨_, rfl, _, rfl, sp, _, _, _, rfl, rfl, SqL.of es, atI_nat h1, a, _, rfl, SqT.of h2, rfl, _, _, rfl, _, _, rfl, _, _, rfl, rfl, ?_⟩
    refine ⟨_, rfl, rfl, _, rfl, ?_⟩
    rcases hs with ⟨rfl, hs⟩ | ⟨rfl, hs⟩
    · refine iteS (by rw [str_l']; rfl) ?_
      exact ⟨_, rfl, rfl, i, l', _, _, _, _, rfl, el, hs⟩
    · refine iteR (by rw [str_l']; exact fun z => by cases tx_inj (a := [114]) z) ?_
      exact ⟨_, rfl, rfl, i', r', _, _, _, _, rfl, er, hs⟩
  · obtain ⟨rfl, at0, u, o3, o4, o5, o6, rfl, eu, hu⟩ := hp
    rw [tx_cps, List.drop_eq_nil_of_le (Nat.le_refl _), B.at_nil] at hu
    cases hu
    obtain ⟨a, i, i', h1, h2, hi, hi', el, er⟩ := sa.node eu
    exact ⟨_, rfl, _, rfl, sp, _, _, _, rfl, rfl, SqL.of es, atI_nat h1, a, _, 1, _, rfl, rfl, SqT.of h2, atI_nat (j := 1) rfl, q⟩
/-- what stands at a place of a walk -/
def spLabIn : Sp := fun vs H Q _ => ∃ (p : Addr) (us : List V) (es : List En) (X : B) (k : Kd) (n c : Nat), vs = [.ref p, .str k.str, vn n] ∧ H p = some (.tup us) ∧ EnAt H us es ∧ GoodN 12 es ∧ 1 ≤ es.length ∧ es.length ≤ 20 ∧ (fulls es)[es.length - 1]? = some X ∧ (X.wk k)[n]? = some c ∧
  ∀ H', Same H H' → Q (.str (ch c)) H'
theorem ok_labIn {tL : Tok} (F : Fun K "label_in" "label_in" s_label_in f fd) (mLET : mg "LETTERS" = some (.str "abcdefghijklmnopqrstuvwxyz" tL)) (Dspots_of : Df P w K mg base 31 "spots_of" ["nest"] (spSpots K)) (Dcounts_in : Df P w K mg base 1 "counts_in" ["spots", "letters"] spCounts)
    (Dlabel_on : Df P w K mg base 1 "label_on" ["spots", "way"] spLabOn) (Dway_at : Df P w K mg base 3 "way_at" ["spots", "sizes", "kind", "place"] (spWayAt K)) : FnOk P w K mg base CX0 32 f fd ["nest", "kind", "place"] spLabIn := by
  refine F.ok sc_label_in (fun vs H Q E h => ?_) (fun cdv A outer s H vs Q E hr h => ?_)
  · obtain ⟨p, us, es, X, k, n, c, rfl, _⟩ := h
    rfl
  obtain ⟨p, us, es, X, k, n, c, rfl, ep, en, gn, e1, e20, eX, hc, q⟩ := h
  obtain ⟨xsz, xlt⟩ := full_size gn e20 eX
  refine ⟨_, (pss_cons (ps_set (i := 3) sc_label_in.nd rfl (.inl rfl) (pe_call Dspots_of.ok (hr.mono (by omega)) rfl Dspots_of.g Dspots_of.kp Dspots_of.b .nil pass0 (pa_cons (pv 0) pa_nil)))
    (pss_cons (ps_set (i := 4) sc_label_in.nd rfl (.inl rfl) (pe_call Dcounts_in.ok (hr.mono (by omega)) rfl Dcounts_in.g Dcounts_in.kp Dcounts_in.b .nil pass0 (pa_cons (pv 3) (pa_cons (pe_glob (v := .str _) rfl mLET ⟨_, rfl⟩) pa_nil))))
    (pss_one (ps_ret (pe_call Dlabel_on.ok (hr.mono (by omega)) rfl Dlabel_on.g Dlabel_on.kp Dlabel_on.b .nil pass0 (pa_cons (pv 3) (pa_cons (pe_call Dway_at.ok (hr.mono (by omega)) rfl Dway_at.g Dway_at.kp Dway_at.b .nil pass0 (pa_cons (pv 3) (pa_cons (pv 4) (pa_cons (pv 1) (pa_cons (pv 2) pa_nil))))) pa_nil))))))), ?_⟩
  refine ⟨_, rfl, p, us, es, rfl, ep, en, gn, e1, e20, fun sp ss ds H1 s1 nsp es1 sa dl last => ?_⟩
  refine ⟨_, rfl, sp, ss, ds, alph, rfl, es1, sa, dl, fun p2 H2 s2 e2 => ?_⟩
  have hd : ds[ds.length - 1]? = some X := last.trans eX
  rw [← X.steps_wk k [], List.getElem?_map] at hc
  obtain ⟨⟨W, c'⟩, hW, hc'⟩ := Option.map_eq_some_iff.mp hc
  have hc2 : c' = c := hc'
  subst hc2
  have hn : n < X.size := by
    have := (List.getElem?_eq_some_iff.mp hW).1
    rw [X.steps_len] at this
    exact this
  have sa2 := sa.keep (Tw.Same.keepT s2)
  refine ⟨_, rfl, _, rfl, _, rfl, _, rfl, _, rfl, sp, p2, ss, ds, alph, k, n, X, W, c', rfl, s2 _ _ es1, sa2, dl, e2, hd, by rw [cnt_alph xlt]; exact hn, by rw [steps_all xlt]; exact hW, fun H3 s3 wl => ?_⟩
  obtain ⟨w', l', r', e3, e4⟩ := steps_at k X [] W c' (List.mem_of_getElem? hW)
  rw [List.nil_append] at e3
  subst e3
  exact ⟨sp, ss, ds, X, W, c', l', r', rfl, s3 _ _ (s2 _ _ es1), sa2.keep (Tw.Same.keepT s3), dl, hd, e4, q H3 (s1.trans (s2.trans s3))⟩
end
/-! ### place_on, other_place -/
theorem at_signs : ∀ (t : B) (W : List Nat) {v : B}, t.at W = some v → ∀ d ∈ W, d = 108 ∨ d = 114
  | _, [], _, _, d, hd => by cases hd
  | t, e :: W, v, h, d, hd => by
    obtain ⟨l, x, r, rfl, hs⟩ := at_cons h
    rcases List.mem_cons.mp hd with rfl | hd
    · rcases hs with ⟨z, _⟩ | ⟨z, _⟩
      · exact .inl z
      · exact .inr z
    · rcases hs with ⟨_, z⟩ | ⟨_, z⟩
      · exact at_signs l W z d hd
      · exact at_signs r W z d hd
def stepsOf (W : List Nat) : List Nat := W ++ [0]
theorem turn_mem (k : Kd) {n : Nat} (h : isT n) : n ∈ k.turns := by
  unfold isT at h
  cases k <;> simp only [Kd.turns, List.mem_cons, List.mem_nil_iff, or_false] <;> omega
theorem tw_eq {a b : Nat} (h : tw a = tw b) : a = b := by
  unfold tw at h
  by_cases a0 : a = 0
  · by_cases b0 : b = 0
    · omega
    · rw [if_pos a0, if_neg b0] at h; cases h
  · by_cases b0 : b = 0
    · rw [if_neg a0, if_pos b0] at h; cases h
    · rw [if_neg a0, if_neg b0] at h
      exact (List.cons.inj h).1
def spPlaceOn : Sp := fun vs H Q _ => ∃ (sp cp : Addr) (ss : List V) (ds : List B) (zs : List Nat) (k : Kd) (X : B) (W : List Nat) (c : Nat) (l r : B), vs = [.ref sp, .ref cp, .str k.str, vt W] ∧ H sp = some (.lst ss) ∧ SpAt H ss ds ∧ ds.length ≤ 300 ∧ H cp = some (.lst (ds.map fun d => vn (d.cnt zs))) ∧ ds[ds.length - 1]? = some X ∧ X.at W = some (.node l c r) ∧ c ∈ zs ∧ W.length ≤ 300 ∧
  ∀ (m : Nat) (H' : Hp), Same H H' → (sel zs (X.steps k []))[m]? = some (W, c) → Q (vn m) H'
theorem seg_side {k : Kd} {zs : List Nat} {l r : B} {x : Nat} {q : List Nat} {n : Nat} (h0 : n ≠ 0) (h : isT n) : seg k zs l x r q n = sel zs ((sideB (.node l x r) l r n).steps k (q ++ [n])) := by
  unfold seg sideB
  rw [if_neg h0, if_neg h0]
  by_cases h1 : n = 108
  · rw [if_pos h1, if_pos h1, h1]
  · have h2 : n = 114 := by unfold isT at h; omega
    rw [if_neg h1, if_neg h1, h2]
section
variable {P : Program} {w : World} {K : PySem.W.Frag} {mg : Str → Option Value} {base : Heap} {f : Addr} {fd : FuncData}
theorem ok_placeOn {aT : Addr} (F : Fun K "place_on" "place_on" s_place_on f fd) (M : Mgs mg) (T : Turns K w mg aT) (Dturned : Df P w K mg base 1 "turned" ["spots", "counts", "at", "turn"] spTurned) : FnOk P w K mg base CX0 2 f fd ["spots", "sizes", "kind", "way"] spPlaceOn := by
  have mT := T.g
  refine F.ok sc_place_on (fun vs H Q E h => ?_) (fun cdv A outer s H vs Q E hr h => ?_)
  · obtain ⟨sp, cp, ss, ds, zs, k, X, W, c, l, r, rfl, _⟩ := h
    rfl
  obtain ⟨sp, cp, ss, ds, zs, k, X, W, c, lX, rX, rfl, es, sa, dl, ec, eX, hW, hc, wl, q⟩ := h
  refine ⟨_, (pss_cons (ps_set (i := 4) sc_place_on.nd rfl (.inl rfl) pe_int)
    (pss_cons (ps_set (i := 5) sc_place_on.nd rfl (.inl rfl) (pe_op op_sub (pe_callB call_len_seq rfl M.len PySem.boot_len (pa_cons (pv 0) pa_nil)) pe_int))
    (pss_cons (ps_for PassesOwn.never rfl (pi_list (pe_lst (pa_starS rfl (pv 3) (pa_cons pe_str pa_nil)))) (pg_name (i := 6) sc_place_on.nd rfl (.inl rfl))
      (pss_cons (ps_for PassesOwn.never rfl (pi_tup (pe_ix ix_kdict (pe_glob (v := .ref _) rfl mT rfl) (pv 2) (fun _ _ => rfl))) (pg_name (i := 7) sc_place_on.nd rfl (.inl rfl))
      (pss_cons (ps_asg (pe_call Dturned.ok (hr.mono (by omega)) rfl Dturned.g Dturned.kp Dturned.b .nil pass0 (pa_cons (pv 0) (pa_cons (pv 1) (pa_cons (pv 5) (pa_cons (pv 7) pa_nil))))) (pg_tup rfl (pgs_cons (pg_name (i := 8) sc_place_on.nd rfl (.inl rfl)) (pgs_cons (pg_name (i := 9) sc_place_on.nd rfl (.inl rfl)) pgs_nil))))
    (pss_cons (ps_if (pt_cmpR op_eq (pv 7) (pv 6) (nomark _))
      (pss_one ps_break) pss_nil)
    (pss_one (ps_aug (i := 4) sc_place_on.nd rfl (.inl rfl) (pv 9) ip_add)))))
    (pss_one (ps_set (i := 5) sc_place_on.nd rfl (.inl rfl) (pv 8)))))
    (pss_one (ps_ret (pv 4)))))), ?_⟩
  have sl := sa.len
  have dx := (List.getElem?_eq_some_iff.mp eX).1
  refine ⟨_, rfl, sp, ss, rfl, .inl (SqL.of es), _, _, rfl, rfl, ?_⟩
  have ei : ((ss.length : Nat) : Int) - 1 = ((ds.length - 1 : Nat) : Int) := by omega
  have e1 : vn (ds.length - 1) = V.int (((ss.length : Nat) : Int) - 1) := congrArg V.int ei.symm
  obtain ⟨bT, kd, sq⟩ := T.d k
  refine ⟨_, rfl, _, rfl, (by rw [tx_size]; omega), ?_, fun pl npl => ?_⟩
  · rw [List.length_append, List.length_map, tx_cps]
    exact small (by show W.length + 1 ≤ 1000; omega)
  have eL : ((tx W).cps.toList.map fun c => V.str ⟨#[c]⟩) ++ [V.str (Str.ofString "")] = (stepsOf W).map fun n => vt (tw n) := by
    unfold stepsOf
    rw [List.map_append, tx_cps, str_0]
    have h0 : ∀ d ∈ W, d ≠ 0 := fun d hd z => by
      have := at_signs X W hW d hd
      omega
    have e2 : (W.map fun c => V.str ⟨#[c]⟩) = W.map fun n => vt (tw n) := by
      refine List.map_congr_left fun d hd => ?_
      show V.str (ch d) = V.str (tx (tw d))
      rw [tw_ne (h0 d hd), tx_one]
    rw [e2]
    rfl
  rw [eL] at *
  have k1 := same_new npl (.lst ((stepsOf W).map fun n => vt (tw n)))
  have epl := upd_same (H := H) (a := pl) (o := .lst ((stepsOf W).map fun n => vt (tw n)))
  generalize upd H pl (.lst ((stepsOf W).map fun n => vt (tw n))) = H1 at k1 epl ⊢
  have sW : (stepsOf W).length = W.length + 1 := by unfold stepsOf; rw [List.length_append]; rfl
  refine ⟨pl, rfl, ⟨_, SqL.of epl⟩, ?_⟩
  refine for_list (K := K) (a := pl) (xs := (stepsOf W).map fun n => vt (tw n)) (fun j σ H' => Same H1 H' ∧ ∃ (place at0 : Nat) (o6 o7 o8 o9 : Option V), σ = [some (.ref sp), some (.ref cp), some (.str k.str), some (vt W), some (vn place), some (vn at0), o6, o7, o8, o9] ∧
      ((j ≤ W.length ∧ ∃ u, ds[at0]? = some u ∧ u.at (W.drop j) = some (.node lX c rX) ∧ ∀ m, (sel zs (u.steps k (W.take j)))[m]? = some (W, c) → (sel zs (X.steps k []))[place + m]? = some (W, c)) ∨ (j = W.length + 1 ∧ (sel zs (X.steps k []))[place]? = some (W, c))))
    ⟨Same.refl _, 0, ds.length - 1, none, none, none, none, by rw [e1]; rfl, .inl ⟨Nat.zero_le _, X, eX, hW, fun m hm => by rw [Nat.zero_add]; exact hm⟩⟩ (fun j σ H' _ hp => SqL.of (hp.1 _ _ epl)) (fun j v σ H2 hv hp => ?_) (fun σ H2 hp => ?_)
  · obtain ⟨s2, place, at0, o6, o7, o8, o9, rfl, hp⟩ := hp
    rw [List.getElem?_map] at hv
    obtain ⟨d, hd, rfl⟩ := Option.map_eq_some_iff.mp hv
    have hj := (List.getElem?_eq_some_iff.mp hd).1
    rw [sW] at hj
    obtain ⟨hjW, u, eu, hu, hpl⟩ := hp.resolve_right fun z => absurd z.1 (by omega)
    have s02 := k1.trans s2
    -- what is to be found here
    obtain ⟨l, x, r, rfl, hdT, hend⟩ : ∃ l x r, u = .node l x r ∧ isT d ∧ ((d = 0 ∧ j = W.length ∧ x = c) ∨ (d ≠ 0 ∧ j < W.length ∧ W[j]? = some d ∧ (sideB (.node l x r) l r d).at (W.drop (j + 1)) = some (.node lX c rX))) := by
      by_cases hlt : j < W.length
      · have hd' : W[j]? = some d := by
          unfold stepsOf at hd
          rw [List.getElem?_append_left hlt] at hd
          exact hd
        rw [List.drop_eq_getElem_cons hlt, (List.getElem?_eq_some_iff.mp hd').2] at hu
        obtain ⟨l, x, r, rfl, hs⟩ := at_cons hu
        rcases hs with ⟨rfl, hs⟩ | ⟨rfl, hs⟩
        · exact ⟨l, x, r, rfl, .inr (.inl rfl), .inr ⟨by decide, hlt, hd', hs⟩⟩
        · exact ⟨l, x, r, rfl, .inr (.inr rfl), .inr ⟨by decide, hlt, hd', hs⟩⟩
      · have hjl : j = W.length := by omega
        subst hjl
        unfold stepsOf at hd
        rw [List.getElem?_append_right (Nat.le_refl _), Nat.sub_self] at hd
        cases hd
        rw [List.drop_eq_nil_of_le (Nat.le_refl _), B.at_nil] at hu
        cases hu
        exact ⟨lX, c, rX, rfl, .inl rfl, .inl ⟨rfl, rfl, rfl⟩⟩
    rw [sel_node] at hpl
    refine ⟨_, rfl, aT, k.str, _, rfl, rfl, kd, bT, rfl, ⟨_, sq H2⟩, ?_⟩
    refine for_tup (K := K) (a := bT) (xs := k.turns.map fun n => vt (tw n)) (fun t σ H' => Same H1 H' ∧ ∃ (place : Nat) (o7 o8 o9 : Option V), σ = [some (.ref sp), some (.ref cp), some (.str k.str), some (vt W), some (vn place), some (vn at0), some (vt (tw d)), o7, o8, o9] ∧ d ∈ k.turns.drop t ∧
        ∀ m, ((k.turns.drop t).flatMap (seg k zs l x r (W.take j)))[m]? = some (W, c) → (sel zs (X.steps k []))[place + m]? = some (W, c))
      ⟨s2, place, o7, o8, o9, rfl, turn_mem k hdT, hpl⟩ (fun _ _ H' _ _ => sq H') (fun t v σ H3 hv hp => ?_) (fun σ H3 hp => ?_)
    · obtain ⟨s3, place, o7, o8, o9, rfl, hdt, hp3⟩ := hp
      rw [List.getElem?_map] at hv
      obtain ⟨n, hn, rfl⟩ := Option.map_eq_some_iff.mp hv
      have hnT := turns_isT k n (List.mem_of_getElem? hn)
      have ht := (List.getElem?_eq_some_iff.mp hn).1
      rw [List.drop_eq_getElem_cons ht, (List.getElem?_eq_some_iff.mp hn).2] at hdt hp3
      rw [List.flatMap_cons] at hp3
      have s03 := k1.trans s3
      refine ⟨_, rfl, _, rfl, _, rfl, _, rfl, sp, cp, ss, ds, zs, at0, n, x, l, r, rfl, s03 _ _ es, sa.keep (Tw.Same.keepT s03), s03 _ _ ec, eu, hnT, fun p i H4 s4 ep ei hlt => ?_⟩
      refine ⟨p, _, rfl, SqT.of ep, rfl, _, _, rfl, _, _, rfl, rfl, ?_⟩
      refine ⟨_, rfl, _, rfl, rfl, _, rfl, ?_⟩
      by_cases hnd : n = d
      · subst hnd
        refine iteS rfl ?_
        refine ⟨_, rfl, ?_⟩
        refine ⟨s3.trans s4, place, i, _, _, _, _, rfl, ?_⟩
        rcases hend with ⟨rfl, rfl, rfl⟩ | ⟨d0, hlt', hWd, hat⟩
        · refine .inr ⟨rfl, ?_⟩
          have := hp3 0 (by
            rw [List.getElem?_append_left]
            · show (sel zs [(W.take W.length, x)])[0]? = some (W, x)
              rw [sel_one, if_pos hc, List.take_length]
              rfl
            · rw [seg_len]
              show 0 < (if x ∈ zs then 1 else 0)
              rw [if_pos hc]
              decide)
          exact this
        · refine .inl ⟨hlt', _, ei, hat, fun m hm => hp3 m ?_⟩
          rw [take_next hWd, ← seg_side d0 hnT] at hm
          rw [List.getElem?_append_left (List.getElem?_eq_some_iff.mp hm).1]
          exact hm
      · refine iteR (fun z => hnd (tw_eq (tx_inj z))) ?_
        refine ⟨_, rfl, _, rfl, _, _, rfl, rfl, ?_⟩
        have e' : vn (place + segN zs l x r n) = V.int ((place : Int) + (segN zs l x r n : Int)) := congrArg V.int (by omega)
        refine ⟨s3.trans s4, place + segN zs l x r n, _, _, _, by rw [e']; rfl, ?_, fun m hm => ?_⟩
        · rcases List.mem_cons.mp hdt with z | z
          · exact absurd z.symm hnd
          · exact z
        · have := hp3 (segN zs l x r n + m) (by
            rw [List.getElem?_append_right (by rw [seg_len]; omega), seg_len, Nat.add_sub_cancel_left]
            exact hm)
          rw [Nat.add_assoc]
          exact this
    · obtain ⟨s3, place, o7, o8, o9, rfl, hdt, _⟩ := hp
      rw [List.length_map, List.drop_eq_nil_of_le (Nat.le_refl _)] at hdt
      cases hdt
  · obtain ⟨s2, place, at0, o6, o7, o8, o9, rfl, hp⟩ := hp
    rw [List.length_map, sW] at hp
    rcases hp with ⟨z, _⟩ | ⟨_, h⟩
    · exact absurd z (by omega)
    · exact ⟨_, rfl, q place H2 (k1.trans s2) h⟩
end
/-! ### other_place -/
section
variable {P : Program} {w : World} {K : PySem.W.Frag} {mg : Str → Option Value} {base : Heap} {f : Addr} {fd : FuncData}
def spOther : Sp := fun vs H Q _ => ∃ (p : Addr) (us : List V) (es : List En) (X : B) (k k2 : Kd) (n : Nat) (W : List Nat) (c : Nat), vs = [.ref p, .str k.str, vn n, .str k2.str] ∧ H p = some (.tup us) ∧ EnAt H us es ∧ GoodN 12 es ∧ 1 ≤ es.length ∧ es.length ≤ 20 ∧ (fulls es)[es.length - 1]? = some X ∧ (X.steps k [])[n]? = some (W, c) ∧
  ∀ (m : Nat) (H' : Hp), Same H H' → (X.steps k2 [])[m]? = some (W, c) → Q (vn m) H'
theorem ok_other {tL : Tok} (F : Fun K "other_place" "other_place" s_other_place f fd) (mLET : mg "LETTERS" = some (.str "abcdefghijklmnopqrstuvwxyz" tL)) (Dspots_of : Df P w K mg base 31 "spots_of" ["nest"] (spSpots K)) (Dcounts_in : Df P w K mg base 1 "counts_in" ["spots", "letters"] spCounts)
    (Dplace_on : Df P w K mg base 2 "place_on" ["spots", "sizes", "kind", "way"] spPlaceOn) (Dway_at : Df P w K mg base 3 "way_at" ["spots", "sizes", "kind", "place"] (spWayAt K)) : FnOk P w K mg base CX0 32 f fd ["nest", "kind", "place", "other"] spOther := by
  refine F.ok sc_other_place (fun vs H Q E h => ?_) (fun cdv A outer s H vs Q E hr h => ?_)
  · obtain ⟨p, us, es, X, k, k2, n, W, c, rfl, _⟩ := h
    rfl
  obtain ⟨p, us, es, X, k, k2, n, W, c, rfl, ep, en, gn, e1, e20, eX, hW, q⟩ := h
  obtain ⟨xsz, xlt⟩ := full_size gn e20 eX
  refine ⟨_, (pss_cons (ps_set (i := 4) sc_other_place.nd rfl (.inl rfl) (pe_call Dspots_of.ok (hr.mono (by omega)) rfl Dspots_of.g Dspots_of.kp Dspots_of.b .nil pass0 (pa_cons (pv 0) pa_nil)))
    (pss_cons (ps_set (i := 5) sc_other_place.nd rfl (.inl rfl) (pe_call Dcounts_in.ok (hr.mono (by omega)) rfl Dcounts_in.g Dcounts_in.kp Dcounts_in.b .nil pass0 (pa_cons (pv 4) (pa_cons (pe_glob (v := .str _) rfl mLET ⟨_, rfl⟩) pa_nil))))
    (pss_one (ps_ret (pe_call Dplace_on.ok (hr.mono (by omega)) rfl Dplace_on.g Dplace_on.kp Dplace_on.b .nil pass0 (pa_cons (pv 4) (pa_cons (pv 5) (pa_cons (pv 3) (pa_cons (pe_call Dway_at.ok (hr.mono (by omega)) rfl Dway_at.g Dway_at.kp Dway_at.b .nil pass0 (pa_cons (pv 4) (pa_cons (pv 5) (pa_cons (pv 1) (pa_cons (pv 2) pa_nil))))) pa_nil))))))))), ?_⟩
  refine ⟨_, rfl, p, us, es, rfl, ep, en, gn, e1, e20, fun sp ss ds H1 s1 nsp es1 sa dl last => ?_⟩
  refine ⟨_, rfl, sp, ss, ds, alph, rfl, es1, sa, dl, fun p2 H2 s2 e2 => ?_⟩
  have hd : ds[ds.length - 1]? = some X := last.trans eX
  have hn : n < X.size := by
    have := (List.getElem?_eq_some_iff.mp hW).1
    rw [X.steps_len] at this
    exact this
  have sa2 := sa.keep (Tw.Same.keepT s2)
  refine ⟨_, rfl, _, rfl, _, rfl, _, rfl, _, rfl, _, rfl, _, rfl, sp, p2, ss, ds, alph, k, n, X, W, c, rfl, s2 _ _ es1, sa2, dl, e2, hd, by rw [cnt_alph xlt]; exact hn, by rw [steps_all xlt]; exact hW, fun H3 s3 wl => ?_⟩
  obtain ⟨w', l', r', e3, e4⟩ := steps_at k X [] W c (List.mem_of_getElem? hW)
  rw [List.nil_append] at e3
  subst e3
  have hc : c ∈ alph := alph_mem (xlt c ((wk_mem k X c).mp (by rw [← X.steps_wk k []]; exact List.mem_map.mpr ⟨(W, c), List.mem_of_getElem? hW, rfl⟩)))
  exact ⟨sp, p2, ss, ds, alph, k2, X, W, c, l', r', rfl, s3 _ _ (s2 _ _ es1), sa2.keep (Tw.Same.keepT s3), dl, s3 _ _ e2, hd, e4, hc, wl, fun m H4 s4 hm => q m H4 (s1.trans (s2.trans (s3.trans s4))) (by rw [steps_all xlt] at hm; exact hm)⟩
end
/-! ### walks of the same tree -/
theorem steps_perm (k : Kd) (t : B) : ∀ q : List Nat, (t.steps k q).Perm (t.steps .first q) := by
  induction t with
  | nil => intro q; exact .refl _
  | node l x r h1 h2 =>
    intro q
    have a := h1 (q ++ [108])
    have b := h2 (q ++ [114])
    cases k
    · exact .refl _
    · show (l.steps .between (q ++ [108]) ++ [(q, x)] ++ r.steps .between (q ++ [114])).Perm ([(q, x)] ++ l.steps .first (q ++ [108]) ++ r.steps .first (q ++ [114]))
      exact List.Perm.append ((List.perm_append_comm).trans (List.Perm.append (.refl _) a)) b
    · show (l.steps .last (q ++ [108]) ++ r.steps .last (q ++ [114]) ++ [(q, x)]).Perm ([(q, x)] ++ l.steps .first (q ++ [108]) ++ r.steps .first (q ++ [114]))
      refine (List.perm_append_comm).trans ?_
      rw [List.append_assoc]
      exact List.Perm.append (.refl _) (List.Perm.append a b)
def B.paths (k : Kd) (t : B) : List (List Nat) := (t.steps k []).map (·.1)
theorem paths_nodup (k : Kd) (t : B) : (t.paths k).Nodup := ((steps_perm k t []).map _).nodup_iff.mpr (steps_nodup t [])
theorem paths_len (k : Kd) (t : B) : (t.paths k).length = t.size := by unfold B.paths; rw [List.length_map, B.steps_len]
theorem nodup_get {α : Type} : ∀ {l : List α}, l.Nodup → ∀ {i j : Nat} {a : α}, l[i]? = some a → l[j]? = some a → i = j
  | [], _, _, _, _, h, _ => by simp at h
  | x :: l, nd, i, j, a, hi, hj => by
    rw [List.nodup_cons] at nd
    cases i with
    | zero =>
      cases j with
      | zero => rfl
      | succ j =>
        cases hi
        exact absurd (List.mem_of_getElem? (show l[j]? = some x from hj)) nd.1
    | succ i =>
      cases j with
      | zero =>
        cases hj
        exact absurd (List.mem_of_getElem? (show l[i]? = some x from hi)) nd.1
      | succ j => exact congrArg (· + 1) (nodup_get nd.2 hi hj)
theorem path_get {k : Kd} {t : B} {m : Nat} {W : List Nat} {c : Nat} (h : (t.steps k [])[m]? = some (W, c)) : (t.paths k)[m]? = some W := by
  unfold B.paths
  rw [List.getElem?_map, h]
  rfl
theorem steps_other {k : Kd} (k2 : Kd) {t : B} {n : Nat} {W : List Nat} {c : Nat} (h : (t.steps k [])[n]? = some (W, c)) : ∃ m : Nat, (t.steps k2 [])[m]? = some (W, c) := by
  have m1 := (steps_perm k t []).mem_iff.mp (List.mem_of_getElem? h)
  exact List.getElem?_of_mem ((steps_perm k2 t []).mem_iff.mpr m1)
/-- the places ms in the walk k2 of the nodes of the walk k -/
def Oth (X : B) (k k2 : Kd) (ms : List Nat) : Prop := ∀ (n m : Nat), ms[n]? = some m → ∃ W c, (X.steps k [])[n]? = some (W, c) ∧ (X.steps k2 [])[m]? = some (W, c)
theorem Oth.eq {X : B} {k k2 : Kd} {ms fs : List Nat} (h : Oth X k k2 ms) (g : Oth X k k2 fs) (hl : ms.length = fs.length) : ms = fs := by
  apply List.ext_getElem?
  intro n
  by_cases hn : n < ms.length
  · have e1 := List.getElem?_eq_getElem hn
    have e2 := List.getElem?_eq_getElem (show n < fs.length by omega)
    obtain ⟨W, c, a1, a2⟩ := h n _ e1
    obtain ⟨W', c', b1, b2⟩ := g n _ e2
    rw [a1] at b1
    cases b1
    rw [e1, e2, nodup_get (paths_nodup k2 X) (path_get a2) (path_get b2)]
  · rw [List.getElem?_eq_none (by omega), List.getElem?_eq_none (by omega)]
theorem Oth.snoc {X : B} {k k2 : Kd} {ms : List Nat} (h : Oth X k k2 ms) {m : Nat} {W : List Nat} {c : Nat} (h1 : (X.steps k [])[ms.length]? = some (W, c)) (h2 : (X.steps k2 [])[m]? = some (W, c)) : Oth X k k2 (ms ++ [m]) := by
  intro n m' hn
  rw [List.getElem?_append] at hn
  split at hn
  · exact h n m' hn
  · rename_i hlt
    have h0 : n = ms.length := by
      have := (List.getElem?_eq_some_iff.mp hn).1
      rw [List.length_cons, List.length_nil] at this
      omega
    subst h0
    rw [Nat.sub_self] at hn
    cases hn
    exact ⟨W, c, h1, h2⟩
theorem Oth.lt {X : B} {k k2 : Kd} {ms : List Nat} (h : Oth X k k2 ms) : ∀ m ∈ ms, m < X.size := fun m hm => by
  obtain ⟨n, hn⟩ := List.getElem?_of_mem hm
  obtain ⟨W, c, _, a2⟩ := h n m hn
  have := (List.getElem?_eq_some_iff.mp a2).1
  rw [B.steps_len] at this
  exact this
theorem eqV_vt (a b : List Nat) : eqV (vt a) (vt b) = decide (a = b) := by
  show (tx a == tx b) = _
  by_cases h : a = b
  · rw [decide_eq_true h, h]
    simp
  · rw [decide_eq_false h]
    simp only [beq_eq_false_iff_ne, ne_eq]
    exact fun z => h (tx_inj z)
theorem idx_at {X : B} {k2 : Kd} {m : Nat} {W : List Nat} {c : Nat} (h2 : (X.steps k2 [])[m]? = some (W, c)) : ((X.paths k2).map vt)[m]? = some (vt W) := by
  rw [List.getElem?_map, path_get h2]
  rfl
theorem idx_eq (W : List Nat) : eqV (vt W) (vt W) = true := by
  rw [eqV_vt]
  exact decide_eq_true rfl
theorem idx_no {X : B} {k2 : Kd} {m : Nat} {W : List Nat} {c : Nat} (h2 : (X.steps k2 [])[m]? = some (W, c)) : ∀ (m' : Nat) (z' : V), m' < m → ((X.paths k2).map vt)[m']? = some z' → eqV z' (vt W) = false := fun m' z' hlt hz => by
  rw [List.getElem?_map] at hz
  obtain ⟨W', hW', rfl⟩ := Option.map_eq_some_iff.mp hz
  rw [eqV_vt]
  refine decide_eq_false fun z => ?_
  subst z
  have := nodup_get (paths_nodup k2 X) hW' (path_get h2)
  omega
theorem full_pos {es : List En} (g : GoodN 12 es) (h1 : 1 ≤ es.length) {X : B} (e : (fulls es)[es.length - 1]? = some X) : 1 ≤ X.size := by
  have hk : es.length - 1 < es.length := by omega
  obtain ⟨t, ls, ee⟩ : ∃ t ls, es[es.length - 1]? = some (t, ls) := ⟨_, _, List.getElem?_eq_getElem hk⟩
  have f := full_get g ee
  rw [e] at f
  cases f
  rw [size_sub]
  have := (g _ _ ee).s1
  have h2 : 1 ≤ t.size := this
  omega
theorem off_texts {H : Hp} {D : Deck} {n : Nat} (d : DeckOk H D n) {b : Addr} {L : List (List Nat)} (e : H b = some (.lst (L.map vt))) (hL : 1 ≤ L.length) : Off D b := by
  obtain ⟨W, L', rfl⟩ : ∃ W L', L = W :: L' := by
    cases L with
    | nil => exact absurd hL (by simp)
    | cons W L' => exact ⟨W, L', rfl⟩
  obtain ⟨cells, rests, h1, h2, h3, _⟩ := d.ex
  have no : ∀ (ns : List Int), H b ≠ some (.lst (ns.map V.int)) := fun ns z => by
    rw [e] at z
    cases ns with
    | nil => cases z
    | cons i ns => cases z
  refine ⟨fun z => ?_, fun z => ?_, fun z => ?_⟩
  · rw [z, h1] at e
    cases e
  · rw [z] at no
    exact no _ h2
  · rw [z] at no
    exact no _ h3
/-! ### expand_nest -/
/-- trees as told by the spots -/
def TrAt (H : Hp) (vs : List V) (ds : List B) : Prop := vs.length = ds.length ∧ ∀ (i : Nat) (v : V) (d : B), vs[i]? = some v → ds[i]? = some d → BAt H v d
theorem alph_all {X : B} (h : ∀ c ∈ X.pre, 97 ≤ c ∧ c ≤ 122) : X.cnt (Str.ofString "abcdefghijklmnopqrstuvwxyz").cps.toList = X.size := cnt_all fun c hc => by
  have := h c hc
  have e2 : (Str.ofString "abcdefghijklmnopqrstuvwxyz").cps.toList = (List.range 26).map (· + 97) := by decide +kernel
  rw [e2]
  exact List.mem_map.mpr ⟨c - 97, List.mem_range.mpr (by omega), by omega⟩
def spExp : Sp := fun vs H Q _ => ∃ (p : Addr) (us : List V) (es : List En) (X : B), vs = [.ref p] ∧ H p = some (.tup us) ∧ EnAt H us es ∧ GoodN 12 es ∧ 1 ≤ es.length ∧ es.length ≤ 20 ∧ (fulls es)[es.length - 1]? = some X ∧ X.size ≤ 12 ∧
  ∀ (v : V) (H' : Hp), Same H H' → BAt H' v X → Q v H'
section
variable {P : Program} {w : World} {K : PySem.W.Frag} {mg : Str → Option Value} {base : Heap} {f : Addr} {fd : FuncData}
theorem ok_expand {tM : Tok} (F : Fun K "expand_nest" "expand_nest" s_expand_nest f fd) (mMAX : mg "MAX_NODES" = some (.int 12 tM)) (M : Mgs mg) (Dspots_of : Df P w K mg base 31 "spots_of" ["nest"] (spSpots K))
    (Dnest_size : Df P w K mg base 32 "nest_size" ["nest"] (spOf (fun X _ => vn (X.cnt (Str.ofString "abcdefghijklmnopqrstuvwxyz").cps.toList)) [])) : FnOk P w K mg base CX0 33 f fd ["nest"] spExp := by
  refine F.ok sc_expand_nest (fun vs H Q E h => ?_) (fun cdv A outer s H vs Q E hr h => ?_)
  · obtain ⟨p, us, es, X, rfl, _⟩ := h
    rfl
  obtain ⟨p, us, es, X, rfl, ep, en, gn, e1, e20, eX, hX, q2⟩ := h
  obtain ⟨xsz, xlt⟩ := full_size gn e20 eX
  refine ⟨_, (pss_cons (ps_if (pt_cmpR op_gt (pe_call Dnest_size.ok (hr.mono (by omega)) rfl Dnest_size.g Dnest_size.kp Dnest_size.b .nil pass0 (pa_cons (pv 0) pa_nil)) (pe_glob (v := .int 12) rfl mMAX ⟨_, rfl⟩) (nomark _))
      (pss_one ps_never) pss_nil)
    (pss_cons (ps_set (i := 1) sc_expand_nest.nd rfl (.inl rfl) (pe_lst (pa_cons pe_non pa_nil)))
    (pss_cons (ps_for PassesOwn.never rfl (pi_list (pe_slice sl_list (pe_call Dspots_of.ok (hr.mono (by omega)) rfl Dspots_of.g Dspots_of.kp Dspots_of.b .nil pass0 (pa_cons (pv 0) pa_nil)) (po_some pe_int) po_none)) (pg_tup rfl (pgs_cons (pg_name (i := 2) sc_expand_nest.nd rfl (.inl rfl)) (pgs_cons (pg_name (i := 3) sc_expand_nest.nd rfl (.inl rfl)) (pgs_cons (pg_name (i := 4) sc_expand_nest.nd rfl (.inl rfl)) pgs_nil))))
      (pss_one (ps_expr (pe_bm PySem.F.plainAttrs_list PySem.F.slot_list_append PySem.F.type_list_append mt_append (pv 1) (pa_cons (pe_tup (pa_cons (pe_ix ix_list (pv 1) (pv 2) (fun _ _ => rfl)) (pa_cons (pv 3) (pa_cons (pe_ix ix_list (pv 1) (pv 4) (fun _ _ => rfl)) pa_nil)))) pa_nil)))))
    (pss_one (ps_ret (pe_ix ix_list (pv 1) (pe_un un_neg pe_int) (fun _ _ => rfl))))))), ?_⟩
  refine ⟨_, rfl, p, us, es, X, rfl, ep, en, gn, e1, e20, eX, fun H1 s1 => ?_⟩
  refine ⟨(X.size : Int), _, congrArg (fun n : Nat => V.int (n : Int)) (alph_all xlt), rfl, _, rfl, ?_⟩
  · rw [decide_eq_false (by omega : ¬ (X.size : Int) > 12)]
    refine iteF ?_
    refine ⟨(by show 1 ≤ sizeLine; decide), fun pt npt => ?_⟩
    have k2 := same_new npt (.lst [.non])
    have ept := upd_same (H := H1) (a := pt) (o := .lst [.non])
    have s2 := s1.trans k2
    generalize upd H1 pt (.lst [.non]) = H2 at ept s2 ⊢
    refine ⟨_, rfl, p, us, es, rfl, s2 _ _ ep, en.keep (Tw.Same.keepT s2), gn, e1, e20, fun sp ss ds H3 s3 nsp es3 sa dl last => ?_⟩
    refine ⟨1, rfl, sp, ss, rfl, SqL.of es3, fun pl npl => ?_⟩
    rw [show (1 : Int) = ((1 : Nat) : Int) from rfl, cut_from]
    have k4 := same_new npl (.lst (ss.drop 1))
    have el4 := upd_same (H := H3) (a := pl) (o := .lst (ss.drop 1))
    have s4 := s3.trans k4
    generalize upd H3 pl (.lst (ss.drop 1)) = H4 at k4 el4 s4 ⊢
    have len := sa.len
    have ept4 := s4 _ _ ept
    have d0 : 0 < ds.length := (List.getElem?_eq_some_iff.mp sa.pos).1
    have hd : ds[ds.length - 1]? = some X := last.trans eX
    have npl' : pl ≠ pt := fun z => by
      have := s3 _ _ ept
      rw [← z, npl] at this
      cases this
    refine ⟨pl, rfl, ⟨_, SqL.of el4⟩, ?_⟩
    refine for_list (K := K) (a := pl) (xs := ss.drop 1) (fun j σ H' => ∃ (o2 o3 o4 : Option V) (ts : List V), σ = [some (.ref p), some (.ref pt), o2, o3, o4] ∧ (∀ b o, b ≠ pt → H4 b = some o → H' b = some o) ∧ H' pt = some (.lst ts) ∧ TrAt H' ts (ds.take (j + 1)))
      ⟨_, _, _, [.non], rfl, (fun b o _ e => e), ept4, ?_⟩ (fun j σ H' _ hp => by obtain ⟨_, _, _, _, _, h, _⟩ := hp; exact SqL.of (h _ _ npl' el4)) (fun j x σ H5 hx hp => ?_) (fun σ H5 hp => ?_)
    · have nil0 : ds.take 1 = [.nil] := by
        have := sa.pos
        cases ds with
        | nil => cases this
        | cons d r => cases this; rfl
      rw [nil0]
      refine ⟨rfl, fun i v d h1 h2 => ?_⟩
      cases i with
      | zero => cases h1; cases h2; exact .nil
      | succ i => cases h1
    · obtain ⟨o2, o3, o4, ts, rfl, s5, ept5, ta⟩ := hp
      rw [List.getElem?_drop] at hx
      have hj := (List.getElem?_eq_some_iff.mp hx).1
      obtain ⟨a, i, i', c, l, r, h1, h2, hi, hi', e1, e2, e3⟩ := sa.each (1 + j) (by omega) (by omega)
      rw [h1] at hx
      cases hx
      have tl : ts.length = j + 1 := by rw [ta.1, List.length_take]; omega
      have aN : a ≠ pt := fun z => by
        have := k4 _ _ h2
        rw [z, ept4] at this
        cases this
      have get : ∀ (n : Nat) (d : B), n < 1 + j → ds[n]? = some d → ∃ v, ts[n]? = some v ∧ BAt H5 v d := fun n d hn hd => by
        have hv := List.getElem?_eq_getElem (show n < ts.length by omega)
        exact ⟨_, hv, ta.2 n _ d hv (by rw [List.getElem?_take, if_pos (by omega)]; exact hd)⟩
      obtain ⟨vl, gl, bl⟩ := get i l hi e1
      obtain ⟨vr, gr, br⟩ := get i' r hi' e2
      refine ⟨a, _, rfl, SqT.of (s5 _ _ aN (k4 _ _ h2)), rfl, _, _, rfl, _, _, rfl, _, _, rfl, rfl, ?_⟩
      refine ⟨_, rfl, .inl ⟨rfl, _, SqL.of ept5⟩, _, rfl, _, rfl, pt, _, _, _, rfl, rfl, SqL.of ept5, atI_nat gl, _, rfl, _, rfl, _, rfl, pt, _, _, _, rfl, rfl, SqL.of ept5, atI_nat gr, (by show 3 ≤ sizeLine; decide), fun tp ntp => ?_⟩
      have k6 := same_new ntp (.tup [vl, .str (ch c), vr])
      refine ⟨pt, _, _, rfl, rfl, k6 _ _ ept5, small1000 (by omega), ?_⟩
      have keepT : KeepT H5 (upd (upd H5 tp (.tup [vl, .str (ch c), vr])) pt (.lst (ts ++ [.ref tp]))) := fun b xs e => by
        rw [upd_ne (fun z => by rw [z, ept5] at e; cases e)]
        exact k6 _ _ e
      have tpn : tp ≠ pt := fun z => by rw [z, ept5] at ntp; cases ntp
      refine ⟨_, _, _, ts ++ [.ref tp], rfl, fun b o nb e => ?_, upd_same, ?_, fun n v d hv hd' => ?_⟩
      · rw [upd_ne nb]
        exact k6 _ _ (s5 _ _ nb e)
      · rw [List.length_append, tl, List.length_take]; show j + 1 + 1 = _; omega
      · rw [take_next (show ds[j + 1]? = some (.node l c r) by rw [Nat.add_comm j 1]; exact e3)] at hd'
        rw [List.getElem?_append] at hv hd'
        have tk : (ds.take (j + 1)).length = j + 1 := by rw [List.length_take]; omega
        by_cases hn : n < j + 1
        · rw [if_pos (by omega)] at hv
          rw [if_pos (by omega)] at hd'
          exact (ta.2 n v d hv hd').keep keepT
        · rw [if_neg (by omega)] at hv
          rw [if_neg (by omega)] at hd'
          have hn' : n - (ds.take (j + 1)).length = 0 := by
            have := (List.getElem?_eq_some_iff.mp hd').1
            rw [List.length_cons, List.length_nil] at this
            omega
          have hn2 : n - ts.length = 0 := by omega
          rw [hn'] at hd'
          rw [hn2] at hv
          cases hd'
          cases hv
          exact .node (by rw [upd_ne tpn]; exact upd_same) (bl.keep keepT) (br.keep keepT)
    · obtain ⟨o2, o3, o4, ts, rfl, s5, ept5, ta⟩ := hp
      rw [List.length_drop, List.take_of_length_le (by omega)] at ta
      have tl : ts.length = ds.length := ta.1
      have hv := List.getElem?_eq_getElem (show ts.length - 1 < ts.length by omega)
      refine ⟨_, rfl, _, rfl, pt, _, _, _, rfl, rfl, SqL.of ept5, at_last hv, ?_⟩
      refine q2 _ H5 (fun b o e => ?_) (ta.2 _ _ X hv (by rw [tl]; exact hd))
      have nb : b ≠ pt := fun z => by rw [z] at e; rw [s1 _ _ e] at npt; cases npt
      exact s5 _ _ nb (s4 _ _ (s2 _ _ e))
end
/-! ### nest_depth -/
section
variable {P : Program} {w : World} {K : PySem.W.Frag} {mg : Str → Option Value} {base : Heap} {f : Addr} {fd : FuncData}
theorem ok_ndepth (F : Fun K "nest_depth" "nest_depth" s_nest_depth f fd) (M : Mgs mg) (Dspots_of : Df P w K mg base 31 "spots_of" ["nest"] (spSpots K)) :
    FnOk P w K mg base CX0 32 f fd ["nest"] (spOf (fun X _ => vn X.deep) []) := by
  refine F.ok sc_nest_depth (fun vs H Q E h => ?_) (fun cdv A outer s H vs Q E hr h => ?_)
  · obtain ⟨p, us, es, X, rfl, _⟩ := h
    rfl
  obtain ⟨p, us, es, X, rfl, ep, en, gn, e1, e20, eX, q⟩ := h
  refine ⟨_, (pss_cons (ps_set (i := 1) sc_nest_depth.nd rfl (.inl rfl) (pe_lst (pa_cons pe_int pa_nil)))
    (pss_cons (ps_for PassesOwn.never rfl (pi_list (pe_slice sl_list (pe_call Dspots_of.ok (hr.mono (by omega)) rfl Dspots_of.g Dspots_of.kp Dspots_of.b .nil pass0 (pa_cons (pv 0) pa_nil)) (po_some pe_int) po_none)) (pg_tup rfl (pgs_cons (pg_name (i := 2) sc_nest_depth.nd rfl (.inl rfl)) (pgs_cons (pg_name (i := 3) sc_nest_depth.nd rfl (.inl rfl)) (pgs_cons (pg_name (i := 4) sc_nest_depth.nd rfl (.inl rfl)) pgs_nil))))
      (pss_one (ps_expr (pe_bm PySem.F.plainAttrs_list PySem.F.slot_list_append PySem.F.type_list_append mt_append (pv 1) (pa_cons (pe_op op_add pe_int (pe_callB (call_max2 rfl) rfl M.max (by decide +kernel) (pa_cons (pe_ix ix_list (pv 1) (pv 2) (fun _ _ => rfl)) (pa_cons (pe_ix ix_list (pv 1) (pv 4) (fun _ _ => rfl)) pa_nil)))) pa_nil)))))
    (pss_one (ps_ret (pe_ix ix_list (pv 1) (pe_un un_neg pe_int) (fun _ _ => rfl)))))), ?_⟩
  refine ⟨(by show 1 ≤ sizeLine; decide), fun pc npc => ?_⟩
  have k0 := same_new npc (.lst [.int 0])
  have ec0 := upd_same (H := H) (a := pc) (o := .lst [.int 0])
  generalize upd H pc (.lst [.int 0]) = H0 at k0 ec0 ⊢
  refine ⟨_, rfl, p, us, es, rfl, k0 _ _ ep, en.keep (Tw.Same.keepT k0), gn, e1, e20, fun sp ss ds H1 s1 nsp es1 sa dl last => ?_⟩
  have k1 := k0.trans s1
  have ec1 := s1 _ _ ec0
  have hd : ds[ds.length - 1]? = some X := last.trans eX
  refine ⟨1, rfl, sp, ss, rfl, SqL.of es1, fun pl npl => ?_⟩
  rw [show (1 : Int) = ((1 : Nat) : Int) from rfl, cut_from]
  have k2 := same_new npl (.lst (ss.drop 1))
  have el2 := upd_same (H := H1) (a := pl) (o := .lst (ss.drop 1))
  have ec2 := k2 _ _ ec1
  have s2 := k1.trans k2
  have sa2 := sa.keep (Tw.Same.keepT k2)
  generalize upd H1 pl (.lst (ss.drop 1)) = H2 at k2 el2 ec2 s2 sa2 ⊢
  have len := sa.len
  have d0 : 0 < ds.length := (List.getElem?_eq_some_iff.mp sa.pos).1
  have npl' : pl ≠ pc := Ne.symm (ne_of_none ec1 npl)
  have nil0 : ds.take 1 = [.nil] := by
    have := sa.pos
    cases ds with
    | nil => cases this
    | cons d r => cases this; rfl
  refine ⟨pl, rfl, ⟨_, SqL.of el2⟩, ?_⟩
  refine for_list (K := K) (a := pl) (xs := ss.drop 1) (fun j σ H' => ∃ o3 o4 o5 : Option V, σ = [some (.ref p), some (.ref pc), o3, o4, o5] ∧ Same H H' ∧ KeepT H2 H' ∧ H' pl = some (.lst (ss.drop 1)) ∧ H' pc = some (.lst ((ds.take (j + 1)).map fun d => vn d.deep)))
    ⟨_, _, _, rfl, s2, KeepT.refl H2, el2, by rw [nil0]; exact ec2⟩ (fun j σ H' _ hp => by obtain ⟨_, _, _, _, _, _, h, _⟩ := hp; exact SqL.of h) (fun j x σ H3 hx hp => ?_) (fun σ H3 hp => ?_)
  · obtain ⟨o3, o4, o5, rfl, s3, kt3, el3, ec3⟩ := hp
    rw [List.getElem?_drop] at hx
    have hj := (List.getElem?_eq_some_iff.mp hx).1
    obtain ⟨a, i, i', c, l, r, h1, h2, hi, hi', e1, e2, e3⟩ := sa2.each (1 + j) (by omega) (by omega)
    rw [h1] at hx
    cases hx
    have get : ∀ (n : Nat) (d : B), n < 1 + j → ds[n]? = some d → ((ds.take (j + 1)).map fun d => vn d.deep)[n]? = some (vn d.deep) := fun n d hn hd => by
      rw [List.getElem?_map, List.getElem?_take, if_pos (by omega), hd]
      rfl
    refine ⟨a, _, rfl, SqT.of (kt3 _ _ h2), rfl, _, _, rfl, _, _, rfl, _, _, rfl, rfl, ?_⟩
    have tk : ds.take (j + 1 + 1) = ds.take (j + 1) ++ [.node l c r] := take_next (show ds[j + 1]? = _ by rw [Nat.add_comm j 1]; exact e3)
    have sl : ((ds.take (j + 1)).map fun d => vn d.deep).length < sizeLine := by
      rw [List.length_map, List.length_take]; show _ < 16777216; omega
    refine ⟨_, rfl, .inl ⟨rfl, _, SqL.of ec3⟩, _, rfl, _, rfl, pc, _, _, _, rfl, rfl, SqL.of ec3, atI_nat (get i l hi e1), _, rfl, _, rfl, pc, _, _, _, rfl, rfl, SqL.of ec3, atI_nat (get i' r hi' e2), ?_⟩
    refine ⟨_, _, rfl, _, _, rfl, rfl, pc, _, _, rfl, rfl, ec3, sl, ?_⟩
    have em : (1 : Int) + (if (r.deep : Int) > (l.deep : Int) then (r.deep : Int) else (l.deep : Int)) = ((B.node l c r).deep : Int) := by
      show _ = ((1 + max l.deep r.deep : Nat) : Int)
      split <;> omega
    refine ⟨_, _, _, rfl, fun b o e => ?_, fun b xs e => ?_, ?_, ?_⟩
    · rw [upd_ne (ne_of_none e npc)]; exact s3 _ _ e
    · have e' := kt3 _ _ e
      rw [upd_ne (fun z => by rw [z, ec3] at e'; cases e')]; exact e'
    · rw [upd_ne npl']; exact el3
    · rw [upd_same, tk, List.map_append]
      exact congrArg (fun z : Int => some (HO.lst ((ds.take (j + 1)).map (fun d => vn d.deep) ++ [V.int z]))) em
  · obtain ⟨o3, o4, o5, rfl, s3, kt3, el3, ec3⟩ := hp
    rw [List.length_drop, List.take_of_length_le (by omega)] at ec3
    refine ⟨_, rfl, _, rfl, pc, _, _, _, rfl, rfl, SqL.of ec3, at_last (v := vn X.deep) (by rw [List.length_map, List.getElem?_map, hd]; rfl), q H3 s3⟩
end
/-! ### values of any kind, and how they are shown -/
mutual
inductive DQ (D : Deck) (H : Hp) : V → PyData → Prop
  | non : DQ D H .non .none
  | bl (b : Bool) : DQ D H (.bl b) (.bool b)
  | int (i : Int) : DQ D H (.int i) (.int i)
  | str (x : Str) : DQ D H (.str x) (.str x)
  | lst {a : Addr} {xs : List V} {ds : List PyData} : Off D a → H a = some (.lst xs) → DQAll D H xs ds → DQ D H (.ref a) (.list ds)
  | tup {a : Addr} {xs : List V} {ds : List PyData} : Off D a → H a = some (.tup xs) → DQAll D H xs ds → DQ D H (.ref a) (.tuple ds)
  | emp {a : Addr} : Off D a → H a = some (.dK []) → DQ D H (.ref a) (.dict [])
  | ent {a : Addr} {x : Str} {i : Int} : Off D a → H a = some (.dK [(.inr x, .int i)]) → DQ D H (.ref a) (.dict [(.str x, .int i)])
inductive DQAll (D : Deck) (H : Hp) : List V → List PyData → Prop
  | nil : DQAll D H [] []
  | cons {v : V} {vs : List V} {d : PyData} {ds : List PyData} : DQ D H v d → DQAll D H vs ds → DQAll D H (v :: vs) (d :: ds)
end
mutual
theorem dq_sameD {D : Deck} {H H' : Hp} (s : SameD D H H') : ∀ {v : V} {d : PyData}, DQ D H v d → DQ D H' v d
  | _, _, .non => .non
  | _, _, .bl b => .bl b
  | _, _, .int i => .int i
  | _, _, .str x => .str x
  | _, _, .lst o e a => .lst o (s.at o e) (dqAll_sameD s a)
  | _, _, .tup o e a => .tup o (s.at o e) (dqAll_sameD s a)
  | _, _, .emp o e => .emp o (s.at o e)
  | _, _, .ent o e => .ent o (s.at o e)
theorem dqAll_sameD {D : Deck} {H H' : Hp} (s : SameD D H H') : ∀ {vs : List V} {ds : List PyData}, DQAll D H vs ds → DQAll D H' vs ds
  | _, _, .nil => .nil
  | _, _, .cons h a => .cons (dq_sameD s h) (dqAll_sameD s a)
end
theorem dq_same {D : Deck} {H H' : Hp} (s : Same H H') {v : V} {d : PyData} (h : DQ D H v d) : DQ D H' v d := dq_sameD (SameD.of s) h
theorem dqAll_same {D : Deck} {H H' : Hp} (s : Same H H') {v : List V} {d : List PyData} (h : DQAll D H v d) : DQAll D H' v d := dqAll_sameD (SameD.of s) h
theorem dqAll_len {D : Deck} {H : Hp} : ∀ {vs : List V} {ds : List PyData}, DQAll D H vs ds → vs.length = ds.length
  | _, _, .nil => rfl
  | _, _, .cons _ a => congrArg (· + 1) (dqAll_len a)
theorem dqAll_get {D : Deck} {H : Hp} : ∀ {vs : List V} {ds : List PyData} {i : Nat} {v : V}, DQAll D H vs ds → vs[i]? = some v → ∃ d, ds[i]? = some d ∧ DQ D H v d
  | _, _, _, _, .nil, h => by simp at h
  | _, _, 0, _, .cons h _, e => by
    cases e
    exact ⟨_, rfl, h⟩
  | _, _, i + 1, _, .cons _ a, e => dqAll_get (i := i) a e
theorem dqAll_app {D : Deck} {H : Hp} : ∀ {vs vs' : List V} {ds ds' : List PyData}, DQAll D H vs ds → DQAll D H vs' ds' → DQAll D H (vs ++ vs') (ds ++ ds')
  | _, _, _, _, .nil, h => h
  | _, _, _, _, .cons h a, h' => .cons h (dqAll_app a h')
theorem BAt.dq {D : Deck} {H : Hp} {n : Nat} (d : DeckOk H D n) {v : V} {t : B} (h : BAt H v t) : DQ D H v t.data := by
  obtain ⟨c, r, h1, h2, h3, _⟩ := d.ex
  induction h with
  | nil => exact .non
  | node e _ _ i1 i2 => exact .tup ⟨ne_of e h1 (by intro z; cases z), ne_of e h2 (by intro z; cases z), ne_of e h3 (by intro z; cases z)⟩ e (.cons i1 (.cons (.str _) (.cons i2 .nil)))
def okI (i : Int) : Bool := decide (-9 ≤ i) && decide (i < 10 ^ 30)
def okS (x : Str) : Bool := decide (x.length ≤ 90) && x.cps.toList.all (· < 128)
mutual
def gd : PyData → Bool
  | .none => true
  | .bool _ => true
  | .int i => okI i
  | .str x => okS x
  | .list xs => gds xs
  | .tuple xs => gds xs
  | .dict kvs => match kvs with
    | [] => true
    | [(.str x, .int i)] => okS x && okI i
    | _ => false
def gds : List PyData → Bool
  | [] => true
  | x :: xs => gd x && gds xs
end
mutual
def wt : PyData → Nat
  | .none => 4
  | .bool _ => 5
  | .int _ => 31
  | .str _ => 902
  | .list xs => 3 + wts xs
  | .tuple xs => 3 + wts xs
  | .dict _ => 940
def wts : List PyData → Nat
  | [] => 0
  | x :: xs => wt x + 2 + wts xs
end
theorem gd_str {x : Str} (h : gd (.str x) = true) : x.length ≤ 90 ∧ ∀ c ∈ x.cps.toList, c < 128 := by
  simp only [gd, okS, Bool.and_eq_true, decide_eq_true_eq, List.all_eq_true] at h
  exact h
theorem okS_gd {x : Str} (h : okS x = true) : gd (.str x) = true := by simp only [gd]; exact h
theorem okI_gd {i : Int} (h : okI i = true) : gd (.int i) = true := by simp only [gd]; exact h
theorem reprText_le {x : Str} (h : gd (.str x) = true) : (reprText x).length ≤ 902 := by
  obtain ⟨h1, h2⟩ := gd_str h
  have := StrLaws.reprText_len x (fun c hc => Nat.lt_of_lt_of_le (h2 c hc) (by decide))
  omega
theorem int_show {i : Int} (h : gd (.int i) = true) : (Str.ofString (toString i)).length ≤ 31 ∧ i.natAbs.log2 < 1920 := by
  simp only [gd, okI, Bool.and_eq_true, decide_eq_true_eq] at h
  by_cases z : 0 ≤ i
  · exact small_shown z h.2
  · have : i = -1 ∨ i = -2 ∨ i = -3 ∨ i = -4 ∨ i = -5 ∨ i = -6 ∨ i = -7 ∨ i = -8 ∨ i = -9 := by omega
    rcases this with rfl | rfl | rfl | rfl | rfl | rfl | rfl | rfl | rfl <;> decide +kernel
theorem listText_le (ts : List Str) : (listText ts).length ≤ piled ts + 3 := by
  have h := textFrom_len_le ts 0 "["
  have e : (listText ts).length = (textFrom 0 "[" ts).length + 1 := by
    show (textFrom 0 "[" ts ++ "]").length = _
    rw [strLen_append]
    rfl
  have z : ∀ l : List Str, (l.map (·.length)).sum + 2 * l.length = piled l := by
    intro l
    induction l with
    | nil => rfl
    | cons t l ih =>
      rw [piled_cons, List.map_cons, List.sum_cons, List.length_cons]
      omega
  have z2 := z ts
  have z3 : (("[" : String) : Str).length = 1 := rfl
  omega
mutual
theorem shown_le : ∀ d : PyData, gd d = true → d.shown.length ≤ wt d ∧ d.showable = true
  | .none, _ => by
    simp only [PyData.shown, wt, PyData.showable, and_true]
    decide +kernel
  | .bool b, _ => by
    simp only [PyData.shown, wt, PyData.showable, and_true]
    cases b <;> decide +kernel
  | .int i, h => by
    obtain ⟨h1, h2⟩ := int_show h
    simp only [PyData.shown, wt, PyData.showable, decide_eq_true_eq]
    exact ⟨h1, h2⟩
  | .str x, h => by
    have h1 := reprText_le h
    simp only [PyData.shown, wt, PyData.showable, and_true]
    exact h1
  | .list xs, h => by
    simp only [gd] at h
    obtain ⟨h1, h2⟩ := showns_le xs h
    simp only [PyData.shown, wt, PyData.showable]
    exact ⟨Nat.le_trans (listText_le _) (by omega), h2⟩
  | .tuple xs, h => by
    simp only [gd] at h
    obtain ⟨h1, h2⟩ := showns_le xs h
    simp only [PyData.shown, wt, PyData.showable]
    exact ⟨Nat.le_trans (fmt_text _) (by omega), h2⟩
  | .dict kvs, h => by
    simp only [gd] at h
    cases kvs with
    | nil =>
      simp only [PyData.shown, PyData.shownKv, wt, PyData.showable, PyData.showableKv, and_true]
      decide +kernel
    | cons p r =>
      obtain ⟨k, v⟩ := p
      cases k <;> first | exact absurd h Bool.false_ne_true | skip
      rename_i x
      cases v <;> first | exact absurd h Bool.false_ne_true | skip
      rename_i i
      cases r with
      | cons _ _ => exact absurd h Bool.false_ne_true
      | nil =>
      obtain ⟨h1, h2⟩ := Bool.and_eq_true_iff.mp (show (okS x && okI i) = true from h)
      have a1 := reprText_le (okS_gd h1)
      obtain ⟨a2, a3⟩ := int_show (okI_gd h2)
      refine ⟨?_, ?_⟩
      · simp only [PyData.shown, PyData.shownKv, wt]
        have e0 : Str.join ", " [reprText x ++ ": " ++ Str.ofString (toString i)] = reprText x ++ ": " ++ Str.ofString (toString i) := rfl
        unfold dictText
        rw [e0]
        rw [strLen_append, strLen_append, strLen_append, strLen_append]
        have l1 : (("{" : String) : Str).length = 1 := rfl
        have l2 : (("}" : String) : Str).length = 1 := rfl
        have l3 : ((": " : String) : Str).length = 2 := rfl
        omega
      · simp only [PyData.showable, PyData.showableKv, Bool.and_true, Bool.true_and, decide_eq_true_eq]
        exact a3
theorem showns_le : ∀ ds : List PyData, gds ds = true → piled (PyData.shownAll ds) ≤ wts ds ∧ PyData.showableAll ds = true
  | [], _ => by
    simp only [PyData.shownAll, wts, PyData.showableAll, and_true]
    exact Nat.le_refl _
  | d :: ds, h => by
    simp only [gds, Bool.and_eq_true] at h
    obtain ⟨h1, h2⟩ := shown_le d h.1
    obtain ⟨h3, h4⟩ := showns_le ds h.2
    simp only [PyData.shownAll, wts, PyData.showableAll, h2, h4, Bool.and_self, and_true]
    rw [piled_cons]
    omega
end
/-! ### repr of such a value -/
section
variable {X : Cx} {pins : List (Addr × Obj)} {σ : L2.St} {H : Hp} {s : Shared} {D : Deck}
theorem obj_lst (I : Inv X pins σ H s) {a : Addr} {xs : List V} (e : H a = some (.lst xs)) : ∃ (its : List Value) (o : Obj) (n : Nat), Vals xs its ∧ s.heap.get? a = some o ∧ o.cls = .type "list" ∧ o.data = .seq its.toArray n := by
  obtain ⟨_, its, n, r, h⟩ := (show ObjOk X.prog X.w H s.heap a (.lst xs) from I.hok a _ e)
  exact ⟨its, _, n, r, h, rfl, rfl⟩
theorem obj_tup (I : Inv X pins σ H s) {a : Addr} {xs : List V} (e : H a = some (.tup xs)) : ∃ (its : List Value) (o : Obj) (n : Nat), Vals xs its ∧ s.heap.get? a = some o ∧ o.cls = .type "tuple" ∧ o.data = .seq its.toArray n := by
  obtain ⟨_, its, r, o, h1, h2, n, h3⟩ := (show ObjOk X.prog X.w H s.heap a (.tup xs) from I.hok a _ e)
  exact ⟨its, o, n, r, h1, h2, h3⟩
theorem obj_emp (I : Inv X pins σ H s) {a : Addr} (e : H a = some (.dK [])) : ∃ (o : Obj) (n : Nat), s.heap.get? a = some o ∧ o.cls = .type "dict" ∧ o.data = .dict #[] n ∧ (a == sysModules) = false := by
  obtain ⟨_, ne, vs, kv, o, es, ep, h1, ex, h2, _, ps, _⟩ := (show ObjOk X.prog X.w H s.heap a (.dK []) from I.hok a _ e)
  cases kv
  have hes : es = #[] := by
    cases hl : es.toList with
    | nil => exact Array.toList_eq_nil_iff.mp hl
    | cons e l =>
      rw [hl] at ps
      cases ps
  subst hes
  exact ⟨o, ep, h1, ex.1, h2, ne⟩
theorem obj_ent (I : Inv X pins σ H s) {a : Addr} {x : Str} {i : Int} (e : H a = some (.dK [(.inr x, .int i)])) : ∃ (o : Obj) (es : Array DictEntry) (n : Nat) (hh : Int) (t t2 : Tok), s.heap.get? a = some o ∧ o.cls = .type "dict" ∧ o.data = .dict es n ∧ es.toList = [⟨hh, .str x t, .int i t2⟩] ∧ (a == sysModules) = false := by
  obtain ⟨_, ne, vs, kv, o, es, ep, h1, ex, h2, _, ps, _⟩ := (show ObjOk X.prog X.w H s.heap a (.dK [(.inr x, .int i)]) from I.hok a _ e)
  cases kv with
  | @cons a' b' l1 l2 hh tt =>
  cases tt
  obtain ⟨k1, k2⟩ := b'
  obtain ⟨e1, t2, e2⟩ := hh
  have e1 : Sum.inr x = k1 := e1
  subst e1
  have e2 : k2 = .int i t2 := e2
  subst e2
  cases hl : es.toList with
  | nil => rw [hl] at ps; cases ps
  | cons en l =>
    rw [hl] at ps
    cases ps with
    | cons p1 p2 p3 =>
    cases p3
    obtain ⟨hv, kk, vv⟩ := en
    have p1 : Value.isStrOf x kk = true := p1
    have p2 : vv = .int i t2 := p2
    subst p2
    obtain ⟨t, rfl⟩ : ∃ t, kk = .str x t := by
      rcases keyIs_shape (k := .inr x) (show keyIs (.inr x) kk = true from p1) with ⟨_, _, e, _⟩ | ⟨y, t, e, rfl⟩
      · cases e
      · cases e; exact ⟨t, rfl⟩
    exact ⟨o, es, ep, hv, t, t2, h1, ex.1, h2, hl, ne⟩
mutual
theorem dq_reads (I : Inv X pins σ H s) : ∀ (d : PyData) (v : V) (u : Value), DQ D H v d → RelV v u → ∃ as, Reads s.heap u d as
  | .none, _, _, h, r => by
    cases h
    cases r
    exact ⟨_, .none⟩
  | .bool b, _, _, h, r => by
    cases h
    cases r
    exact ⟨_, .bool b⟩
  | .int i, _, _, h, r => by
    cases h
    obtain ⟨t, rfl⟩ := r
    exact ⟨_, .int i t⟩
  | .str x, _, _, h, r => by
    cases h
    obtain ⟨t, rfl⟩ := r
    exact ⟨_, .str x t⟩
  | .list ds, _, _, h, r => by
    cases h with
    | lst o e al =>
      cases r
      obtain ⟨its, ob, n, rv, h1, h2, h3⟩ := obj_lst I e
      obtain ⟨as, ra⟩ := dq_readsAll I ds _ its al rv
      exact ⟨_, .list h1 h2 h3 ra⟩
  | .tuple ds, _, _, h, r => by
    cases h with
    | tup o e al =>
      cases r
      obtain ⟨its, ob, n, rv, h1, h2, h3⟩ := obj_tup I e
      obtain ⟨as, ra⟩ := dq_readsAll I ds _ its al rv
      exact ⟨_, .tuple h1 h2 h3 ra⟩
  | .dict kvs, _, _, h, r => by
    cases h with
    | emp o e =>
      cases r
      obtain ⟨ob, n, h1, h2, h3, _⟩ := obj_emp I e
      exact ⟨_, .dict h1 h2 h3 .nil .nil⟩
    | ent o e =>
      cases r
      obtain ⟨ob, es, n, hh, t, t2, h1, h2, h3, h4, _⟩ := obj_ent I e
      exact ⟨_, .dict h1 h2 h3 (by rw [h4]; exact .cons (.str _ _) .nil) (by rw [h4]; exact .cons (.int _ _) .nil)⟩
theorem dq_readsAll (I : Inv X pins σ H s) : ∀ (ds : List PyData) (vs : List V) (us : List Value), DQAll D H vs ds → Vals vs us → ∃ as, ReadsAll s.heap us ds as
  | [], _, _, h, r => by
    cases h
    cases r
    exact ⟨_, .nil⟩
  | d :: ds, _, _, h, r => by
    cases h with
    | cons h1 h2 =>
      cases r with
      | cons r1 r2 =>
        obtain ⟨as, q1⟩ := dq_reads I d _ _ h1 r1
        obtain ⟨bs, q2⟩ := dq_readsAll I ds _ _ h2 r2
        exact ⟨_, .cons q1 q2⟩
end
theorem entries0 {as : List Addr} {h₀ : Heap} {d : Nat} {prog : Program} {w : World} : ReprEntriesK prog w as h₀ d (#[] : Array DictEntry).toList [] := .nil
mutual
theorem dq_repr (I : Inv X pins σ H s) : ∀ (d : PyData) (v : V) (u : Value), DQ D H v d → RelV v u → gd d = true → wt d ≤ 1000000 → ∃ bs, ReadAtMost s.heap d.depth bs ∧ ReprK X.prog X.w bs s.heap d.depth u d.shown
  | .none, _, _, h, r, _, _ => by
    cases h
    cases r
    exact ⟨[], (fun _ z => nomatch z), by simp only [PyData.shown]; exact .of_is ReprIs.none _ _ _⟩
  | .bool b, _, _, h, r, _, _ => by
    cases h
    cases r
    exact ⟨[], (fun _ z => nomatch z), by simp only [PyData.shown]; exact .of_is (ReprIs.bool b) _ _ _⟩
  | .int i, _, _, h, r, g, _ => by
    cases h
    obtain ⟨t, rfl⟩ := r
    exact ⟨[], (fun _ z => nomatch z), by simp only [PyData.shown]; exact .of_is (ReprIs.int t (int_show g).2) _ _ _⟩
  | .str x, _, _, h, r, g, _ => by
    cases h
    obtain ⟨t, rfl⟩ := r
    have hx : (reprText x).length ≤ sizeLine := small (Nat.le_trans (reprText_le g) (by decide))
    exact ⟨[], (fun _ z => nomatch z), by simp only [PyData.shown]; exact .of_is (ReprIs.str x t hx) _ _ _⟩
  | .list ds, _, _, h, r, g, z => by
    have rd := dq_reads I (.list ds) _ _ h r
    cases h with
    | @lst a xs _ o e al =>
      cases r
      simp only [gd] at g
      simp only [wt] at z
      obtain ⟨its, ob, n, rv, h1, h2, h3⟩ := obj_lst I e
      obtain ⟨bs, hb, hk⟩ := dq_reprAll I ds _ its al rv g (by omega)
      obtain ⟨as, rd⟩ := rd
      have hna : a ∉ bs := not_mem_of_deeper rd (by simp only [PyData.depth]; omega) hb
      refine ⟨a :: bs, ReadAtMost.cons rd (by simp only [PyData.depth]; omega) hb, ?_⟩
      simp only [PyData.depth, PyData.shown]
      cases its with
      | nil =>
        cases rv
        cases al
        simp only [PyData.shownAll, listText_nil]
        exact ReprK.listEmpty h1 h2 h3
      | cons y l => exact ReprK.list h1 h2 h3 hna (by simpa using hk.length_eq) (fun i w e => hk.item i w (by simpa using e))
  | .tuple ds, _, _, h, r, g, z => by
    have rd := dq_reads I (.tuple ds) _ _ h r
    cases h with
    | @tup a xs _ o e al =>
      cases r
      simp only [gd] at g
      simp only [wt] at z
      obtain ⟨its, ob, n, rv, h1, h2, h3⟩ := obj_tup I e
      obtain ⟨bs, hb, hk⟩ := dq_reprAll I ds _ its al rv g (by omega)
      obtain ⟨as, rd⟩ := rd
      have hna : a ∉ bs := not_mem_of_deeper rd (by simp only [PyData.depth]; omega) hb
      refine ⟨a :: bs, ReadAtMost.cons rd (by simp only [PyData.depth]; omega) hb, ?_⟩
      simp only [PyData.depth, PyData.shown]
      exact ReprK.tuple h1 h2 h3 hna hk
  | .dict kvs, _, _, h, r, g, _ => by
    have rd := dq_reads I (.dict kvs) _ _ h r
    cases h with
    | @emp a o e =>
      cases r
      obtain ⟨ob, n, h1, h2, h3, hs⟩ := obj_emp I e
      obtain ⟨as, rd⟩ := rd
      refine ⟨[a], ReadAtMost.cons rd (n := 0) (Nat.zero_le _) (fun _ z => nomatch z), ?_⟩
      simp only [PyData.depth, PyData.shown, PyData.shownKv, PyData.depthKv]
      exact ReprK.dict h1 h2 h3 hs (fun z => nomatch z) entries0
    | @ent a x i o e =>
      cases r
      obtain ⟨ob, es, n, hh, t, t2, h1, h2, h3, h4, hs⟩ := obj_ent I e
      obtain ⟨as, rd⟩ := rd
      simp only [gd, Bool.and_eq_true] at g
      refine ⟨[a], ReadAtMost.cons rd (n := 0) (Nat.zero_le _) (fun _ z => nomatch z), ?_⟩
      have hx : (reprText x).length ≤ sizeLine := small (Nat.le_trans (reprText_le (okS_gd g.1)) (by decide))
      simp only [PyData.depth, PyData.shown, PyData.shownKv, PyData.depthKv]
      exact ReprK.dict h1 h2 h3 hs (fun z => nomatch z) (by rw [h4]; exact .cons (.of_is (ReprIs.str x t hx) _ _ _) (.of_is (ReprIs.int t2 (int_show (okI_gd g.2)).2) _ _ _) .nil)
theorem dq_reprAll (I : Inv X pins σ H s) : ∀ (ds : List PyData) (vs : List V) (us : List Value), DQAll D H vs ds → Vals vs us → gds ds = true → wts ds ≤ 1000000 → ∃ bs, ReadAtMost s.heap (PyData.depthAll ds) bs ∧ ReprAllK X.prog X.w bs s.heap (PyData.depthAll ds) us (PyData.shownAll ds)
  | [], _, _, h, r, _, _ => by
    cases h
    cases r
    exact ⟨[], (fun _ z => nomatch z), by simp only [PyData.shownAll]; exact .nil⟩
  | d :: ds, _, _, h, r, g, z => by
    cases h with
    | cons h1 h2 =>
      cases r with
      | cons r1 r2 =>
        simp only [gds, Bool.and_eq_true] at g
        simp only [wts] at z
        obtain ⟨b1, hb1, k1⟩ := dq_repr I d _ _ h1 r1 g.1 (by omega)
        obtain ⟨b2, hb2, k2⟩ := dq_reprAll I ds _ _ h2 r2 g.2 (by omega)
        simp only [PyData.depthAll, PyData.shownAll]
        refine ⟨b1 ++ b2, (hb1.mono (Nat.le_max_left _ _)).append (hb2.mono (Nat.le_max_right _ _)), ?_⟩
        refine .cons ((k1.more ?_).level_le (Nat.le_max_left _ _)) (k2.more_le ?_ (Nat.le_max_right _ _))
        · intro b hb
          exact List.mem_append_left _ hb
        · intro b hb
          exact List.mem_append_right _ hb
end
end
theorem call_reprQ {X : Cx} (hg : X.A.guards = some []) (hu : X.A.units + 64 < cLine) : CallR X (.builtin "repr") (fun xs H Q => ∃ (v : V) (D : Deck) (d : PyData), xs = [v] ∧ DQ D H v d ∧ gd d = true ∧ wt d ≤ 1000000 ∧ d.depth ≤ 60 ∧ Q (.str d.shown) H) := by
  intro pins s σ H xs us Q I r h
  obtain ⟨v, D, d, rfl, hd, g, z, hz, q⟩ := h
  obtain ⟨u, rfl, rx⟩ := vals1 r
  obtain ⟨hl, _⟩ := shown_le d g
  have big : (1000000 : Nat) ≤ sizeLine := by decide
  have fits : d.shown.length ≤ sizeLine := by omega
  have fin : ∀ (h' : Heap) (t : Tok) (tk : Tok), (∀ b o, s.heap.get? b = some o → h'.get? b = some o) → EP X pins σ Q (.str d.shown t) { s with heap := h', toks := tk } := fun h' t tk hk => ⟨.str d.shown, H, I.kept (t' := tk) hk, ⟨t, rfl⟩, q⟩
  have nil0 : ∀ b ∈ ([] : List Addr), True := fun _ _ => trivial
  have key := dq_repr I d v u hd rx g z
  have rds := dq_reads I d v u hd rx
  cases hd with
  | non =>
    cases rx
    simp only [PyData.shown] at fin
    exact PySem.P.repr_of_none (fin s.heap _ _ fun _ _ e => e)
  | bl b =>
    cases rx
    simp only [PyData.shown] at fin
    exact PySem.P.repr_of_bool (fin s.heap _ _ fun _ _ e => e)
  | int i =>
    obtain ⟨t, rfl⟩ := rx
    simp only [PyData.shown] at fin
    exact PySem.P.repr_of_int (int_show g).2 (fin s.heap _ _ fun _ _ e => e)
  | str x =>
    obtain ⟨t, rfl⟩ := rx
    simp only [PyData.shown] at fin fits
    exact PySem.P.repr_of_str (fin s.heap _ _ fun _ _ e => e) fits
  | @lst a xs ds o e al =>
    cases rx
    simp only [gd] at g
    simp only [wt] at z
    simp only [PyData.shown] at fin fits
    simp only [PyData.depth] at hz
    obtain ⟨its, ob, n, rv, h1, h2, h3⟩ := obj_lst I e
    obtain ⟨bs, hb, hk⟩ := dq_reprAll I ds _ its al rv g (by omega)
    obtain ⟨as, rd⟩ := rds
    have hna : a ∉ bs := not_mem_of_deeper rd (by simp only [PyData.depth]; omega) hb
    refine call_repr_slot (by omega) ⟨ob, h1, h2⟩ F.slot_list_repr.toG ?_
    cases its with
    | nil =>
      cases rv
      cases al
      simp only [PyData.shownAll, listText_nil] at fin
      exact call_list_repr_empty ⟨ob, h1, h2⟩ h1 h3 ⟨_, _, rfl, fin s.heap _ _ fun _ _ e => e⟩
    | cons y l => exact call_list_reprK h1 h2 h3 hna (by simpa using hk.length_eq) (fun i w e => hk.item i w (by simpa using e)) hg (fun b _ => Clear.nil b) (by show X.A.units + 1 + (PyData.depthAll ds + 1) < cLine; omega) (fun _ _ e => e) (fun h' u tk hk => ⟨_, _, rfl, fin h' u tk hk⟩) fits
  | @tup a xs ds o e al =>
    cases rx
    simp only [gd] at g
    simp only [wt] at z
    simp only [PyData.shown] at fin fits
    simp only [PyData.depth] at hz
    obtain ⟨its, ob, n, rv, h1, h2, h3⟩ := obj_tup I e
    obtain ⟨bs, hb, hk⟩ := dq_reprAll I ds _ its al rv g (by omega)
    obtain ⟨as, rd⟩ := rds
    have hna : a ∉ bs := not_mem_of_deeper rd (by simp only [PyData.depth]; omega) hb
    refine call_repr_slot (by omega) ⟨ob, h1, h2⟩ F.slot_tuple_repr ?_
    exact call_tuple_reprK h1 h2 h3 hna hk hg (fun b _ => Clear.nil b) (by show X.A.units + 1 + (PyData.depthAll ds + 1) < cLine; omega) (fun _ _ e => e) (fun h' u tk hk => ⟨_, _, rfl, fin h' u tk hk⟩) fits
  | @emp a o e =>
    cases rx
    simp only [PyData.shown, PyData.shownKv] at fin fits
    obtain ⟨ob, n, h1, h2, h3, hs⟩ := obj_emp I e
    refine call_repr_slot (by omega) ⟨ob, h1, h2⟩ F.slot_dict_repr ?_
    exact call_dict_reprK h1 h2 h3 hs (as := []) (fun z => nomatch z) (d := 0) entries0 hg (fun b _ => Clear.nil b) (by show X.A.units + 1 + (0 + 1) < cLine; omega) (fun _ _ e => e) (fun h' u tk hk => ⟨_, _, rfl, fin h' u tk hk⟩) fits
  | @ent a x i o e =>
    cases rx
    simp only [PyData.shown, PyData.shownKv] at fin fits
    simp only [gd, Bool.and_eq_true] at g
    obtain ⟨ob, es, n, hh, t, t2, h1, h2, h3, h4, hs⟩ := obj_ent I e
    have hx : (reprText x).length ≤ sizeLine := small (Nat.le_trans (reprText_le (okS_gd g.1)) (by decide))
    refine call_repr_slot (by omega) ⟨ob, h1, h2⟩ F.slot_dict_repr ?_
    exact call_dict_reprK h1 h2 h3 hs (as := []) (fun z => nomatch z) (d := 0) (by rw [h4]; exact .cons (.of_is (ReprIs.str x t hx) _ _ _) (.of_is (ReprIs.int t2 (int_show (okI_gd g.2)).2) _ _ _) .nil) hg (fun b _ => Clear.nil b) (by show X.A.units + 1 + (0 + 1) < cLine; omega) (fun _ _ e => e) (fun h' u tk hk => ⟨_, _, rfl, fin h' u tk hk⟩) fits
def tyD : PyData → String
  | .none => "NoneType"
  | .bool _ => "bool"
  | .int _ => "int"
  | .str _ => "str"
  | .list _ => "list"
  | .tuple _ => "tuple"
  | .dict _ => "dict"
theorem dq_ty {K : PySem.W.Frag} {D : Deck} {H : Hp} {v : V} {d : PyData} (h : DQ D H v d) : TyX K H v (.type (tyD d)) := by
  cases h with
  | non => exact .base .non
  | bl b => exact .base (.bl b)
  | int i => exact .base (.int i)
  | str x => exact .base (.str x)
  | lst _ e _ => exact .base (.lst e)
  | tup _ e _ => exact .base (.tup e)
  | emp _ e => exact .base (.dK e)
  | ent _ e => exact .base (.dK e)
def isStrD : PyData → Bool
  | .str _ => true
  | _ => false
def isTupD : PyData → Bool
  | .tuple _ => true
  | _ => false
theorem kit_str (d : PyData) : kitB (tyD d) "str" = some (isStrD d) := by
  cases d <;> (simp only [tyD, isStrD]; decide +kernel)
theorem kit_tup (d : PyData) : kitB (tyD d) "tuple" = some (isTupD d) := by
  cases d <;> (simp only [tyD, isTupD]; decide +kernel)
theorem isStr_of {d : PyData} (h : isStrD d = true) : ∃ x, d = .str x := by
  cases d <;> first | exact ⟨_, rfl⟩ | exact absurd h Bool.false_ne_true
theorem gds_app : ∀ {a b : List PyData}, gds (a ++ b) = (gds a && gds b)
  | [], b => by simp only [List.nil_append, gds, Bool.true_and]
  | d :: a, b => by
    have h := gds_app (a := a) (b := b)
    simp only [List.cons_append, gds, h, Bool.and_assoc]
/-! ### whole numbers among all values -/
def isI : PyData → Bool
  | .int _ => true
  | .bool _ => true
  | _ => false
def isBo : PyData → Bool
  | .bool _ => true
  | _ => false
def isW : PyData → Bool
  | .int _ => true
  | _ => false
theorem kit_int (d : PyData) : kitB (tyD d) "int" = some (isI d) := by
  cases d <;> (simp only [tyD, isI]; decide +kernel)
theorem kit_bo (d : PyData) : kitB (tyD d) "bool" = some (isBo d) := by
  cases d <;> (simp only [tyD, isBo]; decide +kernel)
def isIx (d : PyData) (lo hi : Int) : Bool := match d with
  | .int i => decide (lo ≤ i) && decide (i ≤ hi)
  | _ => false
theorem DQ.intI {D : Deck} {H : Hp} {v : V} {i : Int} (h : DQ D H v (.int i)) : v = .int i := by cases h; rfl
def spWholeQ : Sp := fun vs H Q _ => ∃ (v : V) (D : Deck) (d : PyData), vs = [v] ∧ DQ D H v d ∧ Q (.bl (isW d)) H
def spIndexQ : Sp := fun vs H Q _ => ∃ (v : V) (D : Deck) (d : PyData) (m : Int), vs = [v, .int m] ∧ DQ D H v d ∧ Q (.bl (isIx d 0 (m - 1))) H
def spFrom : Sp := fun vs H Q _ => ∃ (v : V) (D : Deck) (d : PyData) (lo hi : Int), vs = [v, .int lo, .int hi] ∧ DQ D H v d ∧ Q (.bl (isIx d lo hi)) H
section
variable {P : Program} {w : World} {K : PySem.W.Frag} {mg : Str → Option Value} {base : Heap} {f : Addr} {fd : FuncData}
theorem ok_wholeQ {k : Nat} (F : Fun K "is_whole_number" "is_whole_number" s_is_whole_number f fd) (M : Mgs mg) : FnOk P w K mg base CX0 (k + 1) f fd ["value"] spWholeQ := by
  refine F.ok sc_is_whole_number (fun vs H Q E h => ?_) (fun cdv A outer s H vs Q E hr h => ?_)
  · obtain ⟨v, D, d, rfl, _⟩ := h
    rfl
  obtain ⟨v, D, d, rfl, hd, q⟩ := h
  refine ⟨_, (pss_one (ps_ret (pe_and (pe_callB call_isi rfl M.isinstance (by decide +kernel) (pa_cons (pv 0) (pa_cons (pe_bltn (v := .ty "int") rfl M.int (by decide +kernel) rfl) pa_nil))) (pe_one (pe_not (pe_callB call_isi rfl M.isinstance (by decide +kernel) (pa_cons (pv 0) (pa_cons (pe_bltn (v := .ty "bool") rfl M.bool (by decide +kernel) rfl) pa_nil)))))))), ?_⟩
  refine ⟨_, rfl, _, _, _, _, isI d, rfl, .ty _, dq_ty hd, kit_ty (kit_int d), _, rfl, ?_⟩
  cases hi : isI d with
  | false =>
    have : isW d = false := by cases d <;> first | rfl | cases hi
    rw [this] at q
    exact iteF q
  | true =>
    refine iteT ⟨_, rfl, _, _, _, _, isBo d, rfl, .ty _, dq_ty hd, kit_ty (kit_bo d), _, rfl, ?_⟩
    have : isW d = !isBo d := by cases d <;> first | rfl | cases hi
    rw [this] at q
    exact q
theorem ok_indexQ {k : Nat} (F : Fun K "is_index" "is_index" s_is_index f fd) (M : Mgs mg) (Dis_whole_number : Df P w K mg base (k + 1) "is_whole_number" ["value"] spWholeQ) : FnOk P w K mg base CX0 (k + 2) f fd ["value", "many"] spIndexQ := by
  refine F.ok (k := k + 1) sc_is_index (fun vs H Q E h => ?_) (fun cdv A outer s H vs Q E hr h => ?_)
  · obtain ⟨v, D, d, m, rfl, _⟩ := h
    rfl
  obtain ⟨v, D, d, m, rfl, hd, q⟩ := h
  refine ⟨_, (pss_one (ps_ret (pe_and (pe_call Dis_whole_number.ok (hr.mono (by omega)) rfl Dis_whole_number.g Dis_whole_number.kp Dis_whole_number.b .nil pass0 (pa_cons (pv 0) pa_nil)) (pe_one (pe_chain op_le op_lt pe_int (pv 0) (pv 1)))))), ?_⟩
  refine ⟨_, rfl, v, D, d, rfl, hd, _, rfl, ?_⟩
  cases d with
  | int i =>
    have := hd.intI
    subst this
    refine iteT ⟨_, rfl, _, _, rfl, rfl, _, rfl, ?_⟩
    have q : Q (.bl (decide (0 ≤ i) && decide (i ≤ m - 1))) H := q
    by_cases h0 : 0 ≤ i
    · rw [decide_eq_true h0] at q ⊢
      refine iteT ⟨_, rfl, _, _, rfl, rfl, ?_⟩
      show Q (V.bl (decide (i < m))) H
      rw [show decide (i < m) = decide (i ≤ m - 1) from decide_eq_decide.mpr (by omega)]
      exact q
    · rw [decide_eq_false h0] at q ⊢
      exact iteF q
  | _ => exact iteF q
end
/-! ### own errors with one field, over ValueError or LookupError -/
section
open PySem.Builtin PySem.Builtin.ObjectAttr PySem.HandSPX
/-- own classes, then the mro of the built-in one -/
def refsT (tail : List Value) : List Value → Bool
  | .ref _ :: r => refsT tail r
  | l => l == tail
/-- a family of errors: what the library says of its built-in class -/
structure Fam (B newId initId : String) (tail : List Value) : Prop where
  facts : ExcBaseFacts B newId initId tail
  pass : ∀ self, refuseLoop self "__setattr__" tail = pure ()
  obj : tail.contains (.type "object") = true
theorem famV : Fam "ValueError" "ValueError.__new__" "ValueError.__init__" [.type "ValueError", .type "Exception", .type "BaseException", .type "object"] := ⟨F.excBase_ValueError, fun self => F.store_ValueError.passes self, by decide +kernel⟩
theorem famL : Fam "LookupError" "LookupError.__new__" "LookupError.__init__" [.type "LookupError", .type "Exception", .type "BaseException", .type "object"] := ⟨F.excBase_LookupError, fun self => F.store_LookupError.passes self, by decide +kernel⟩
theorem refsT_or {tail : List Value} (l : List Value) (h : refsT tail l = true) : (∃ c r, l = .ref c :: r ∧ refsT tail r = true) ∨ l = tail := by
  unfold refsT at h
  split at h
  · exact .inl ⟨_, _, rfl, h⟩
  · exact .inr (beq_iff_eq.mp h)
theorem refsT_all {tail : List Value} {Good : List Value → Prop} (h0 : Good tail) (hs : ∀ c r, Good r → Good (.ref c :: r)) : ∀ l : List Value, refsT tail l = true → Good l
  | [], h => by
    rcases refsT_or [] h with ⟨_, _, e, _⟩ | e
    · cases e
    · rw [e]; exact h0
  | a :: r, h => by
    rcases refsT_or (a :: r) h with ⟨c, r', e, h'⟩ | e
    · cases e
      exact hs c r (refsT_all h0 hs r h')
    · rw [e]; exact h0
variable {B newId initId : String} {tail : List Value}
theorem Fam.passes (fam : Fam B newId initId tail) (self : Value) (l : List Value) (h : refsT tail l = true) : refuseLoop self "__setattr__" l = pure () :=
  refsT_all (Good := fun l => refuseLoop self "__setattr__" l = pure ()) (fam.pass self) (fun c r e => by rw [refuseLoop_ref]; exact e) l h
theorem refsT_has (X : String) (l : List Value) (h : refsT tail l = true) : l.contains (.type X) = tail.contains (.type X) :=
  refsT_all (Good := fun l => l.contains (.type X) = tail.contains (.type X)) rfl (fun c r e => by rw [List.contains_cons, e]; rfl) l h
theorem Fam.some (fam : Fam B newId initId tail) (l : List Value) (h : refsT tail l = true) : l.isEmpty = false := by
  cases l with
  | nil =>
    have e := refsT_has "object" [] h
    rw [fam.obj] at e
    exact absurd e (by decide)
  | cons _ _ => rfl
/-- the first field of an error -/
theorem first_field {prog : Program} {w : World} {A : Around} {R : Result → Shared → Prop} {hp : Heap} {g : Array GenState} {d : Drawn} {t : Nat} {os : OsState} {K : PySem.W.Frag} {name : Str} {tk : Tok} {v : Value} {x C : Addr} {fv : Array Value} {cd : ClassData}
    (fam : Fam B newId initId tail) (inK : K.In hp) (isX : hp.get? x = some { cls := .ref C, data := .fields fv }) (isC : PySem.W.clsIn K C = some cd)
    (isM : refsT tail cd.mro = true) (dict : cd.hasDict = true) (free : PySem.W.findIn K (.ref C) name = some none)
    (done : ∀ h' tk' dx, (∀ b o, b ≠ x → hp.get? b = some o → h'.get? b = some o) → hp.objs.size ≤ dx → dx ≠ x →
      h'.get? x = some { cls := .ref C, dict := some dx, data := .fields fv } → h'.Ns1 dx (fun y => if y = name then some v else none) → R (.ok (.ret .none)) ⟨h', g, d, tk', os⟩) :
    codeAny (model prog w) A (.call (.builtin "object.__setattr__") ⟨[.ref x, .str name tk, v], []⟩) R ⟨hp, g, d, t, os⟩ := by
  have at0 : PySem.W.InstAt hp x { cls := .ref C, data := .fields fv } C none := ⟨isX, rfl, rfl, trivial⟩
  have store := PySem.F.store_object
  have hasObj : cd.mro.contains (.type "object") = true := (refsT_has "object" _ isM).trans fam.obj
  have notNew : x ≠ hp.objs.size := Nat.ne_of_lt (Heap.lt_size isX)
  have isSub : PySem.W.Looks (model prog w) hp (isInstance (.ref x) (.type "object")) true := by
    refine at0.type.andThen (PySem.W.looks_mroIn inK ?_)
    unfold PySem.W.mroIn
    rw [isC, Option.bind_some, if_neg (by rw [fam.some _ isM]; decide), hasObj]
  refine codeAny_call_builtin store.slot.plain store.entry ?_
  refine @PySem.W.check_slot (model prog w) _ _ ⟨hp, g, d, t, os⟩ "object.__setattr__" "object" "__setattr__" (.ref x) [.str name tk, v] [] _ store.kind store.split isSub
    (store.args (.ref x) (.str name tk) v) ?_
  have mroL : PySem.W.Looks (model prog w) hp (mroOf (.ref C)) cd.mro := (PySem.W.looks_clsIn inK isC).andThen .now
  have noTaker : PySem.W.Looks (model prog w) hp (storeTaker? none) none := .now
  have clsL : PySem.W.Looks (model prog w) hp (classData C) cd := PySem.W.looks_clsIn inK isC
  rw [PySem.W.osa_eq, refuse_eq]
  refine wpAny_bind (wpAny_bind (at0.type.at (wpAny_bind (mroL.at ?_))))
  rw [fam.passes _ _ isM]
  refine wpAny_pure (wpAny_bind (at0.type.at (wpAny_bind ((PySem.W.looks_findIn inK free).at ?_))))
  refine wpAny_bind (noTaker.at ?_)
  show wpAny _ _ (storeInOwnDict (.ref x) (.ref C) (.str name tk) name v false) _ _ _
  obtain ⟨nm, bs, mro, nsA, qn, hd, sn, sb, ab, col, del⟩ := cd
  dsimp only at dict
  subst dict
  unfold storeInOwnDict ownDictForStores
  repeat (first
    | with_reducible refine store_in_new ?_ ?_
    | with_reducible refine wpAny_loadPart_at isX ?_
    | with_reducible refine clsL.at ?_
    | wp_step)
  · refine ⟨_, #[], _, (Heap.get?_update_ne _ _ _ _ notNew.symm).trans (Heap.get?_push_at rfl rfl), rfl, ?_, fun _ => rfl⟩
    intro e he
    exact absurd he (by simp)
  · intro h' tk' ns1 same
    have isX1 : (hp.push { cls := .type "dict", data := .dict #[] }).get? x = some { cls := .ref C, data := .fields fv } := Heap.get?_push_of_some _ isX
    refine done h' tk' hp.objs.size ?_ (Nat.le_refl _) notNew.symm ?_ ns1
    · intro b o hb ho
      refine (same.2 b (Nat.ne_of_lt (Heap.lt_size ho))).trans ?_
      exact (Heap.get?_update_ne _ _ _ _ hb).trans (Heap.get?_push_of_some _ ho)
    · exact (same.2 x notNew).trans (Heap.get?_update_self _ isX1 rfl)
end
abbrev veT : List Value := [.type "ValueError", .type "Exception", .type "BaseException", .type "object"]
abbrev leT : List Value := [.type "LookupError", .type "Exception", .type "BaseException", .type "object"]
/-! ### errors with the field value -/
def iA_value (p1 p2 : Pos) : Arguments := { posonlyargs := [], args := [{ arg := "self", annotation := none, pos := p1 }, { arg := "value", annotation := none, pos := p2 }], vararg := none, kwonlyargs := [], kw_defaults := [], kwarg := none, defaults := [] }
def iB_value (q1 q2 q3 q4 : Pos) : List Stmt := [.Assign [.Attribute (.Name "self" q1) "value" q2] (.Name "value" q3) q4]
def iS_value : Scope := { kind := .function, names := [(PySem.Str.ofString "self", .local), (PySem.Str.ofString "value", .local)], isGenerator := false, isCoroutine := false, more := [] }
/-- what the written part says of the class cn, at C, and of its __init__, at fI -/
structure Err_value (K : PySem.W.Frag) (mg : Str → Option Value) (newId : String) (tail : List Value) (cn qn : Str) (C fI : Addr) : Prop where
  gC : mg cn = some (.ref C)
  nd : (cn == ("__debug__" : Str)) = false
  cls : ∃ nm q N bs bm sn sub ab col dd k0 k1 k2 k3 k5, K.lookup C = some (excClassObj nm q C N bs bm true sn sub ab col dd k0 k1 k2 k3 k5 newId) ∧ refsT tail bm = true
  sa : PySem.W.findIn K (.ref C) "__setattr__" = some (some (.builtin "object.__setattr__"))
  ga : PySem.W.findIn K (.ref C) "__getattribute__" = some (some (.builtin "BaseException.__getattribute__"))
  gg : PySem.W.findIn K (.ref C) "__getattr__" = some none
  noN : PySem.W.findIn K (.ref C) "value" = some none
  iC : PySem.W.findIn K (.ref C) "__init__" = some (some (.ref fI))
  tC : PySem.W.typeIn K (.ref fI) = some (.type "function")
  kC : PySem.W.keepIn K (.ref C) = true
  exC : PySem.W.subIn K (.ref C) (.type "BaseException") = some true
  tyC : PySem.W.typeIn K (.ref C) = some (.type "type")
  hdC : PySem.W.hasDictIn K C = true
  fn : ∃ (oc : Value) (od : Option Addr) (doc pm : Value) (an : Option Addr) (cdv ct : Value) (osl : Array (Option Value)) (p1 p2 q1 q2 q3 q4 : Pos),
    K.lookup fI = some ⟨oc, od, .func (PySem.W.fnOf "__init__" qn (iA_value p1 p2) (iB_value q1 q2 q3 q4) iS_value .none .none doc pm an cdv ct), osl⟩ ∧ PySem.W.codeIn K cdv qn = true
section
open PySem.Builtin PySem.Builtin.ObjectAttr PySem.HandSPX
variable {prog : Program} {w : World} {A : Around} {E : Value → Shared → Prop} {R : Result → Shared → Prop} {s : Shared} {K : PySem.W.Frag} {mg : Str → Option Value} {C fI : Addr} {B newId initId : String} {tail : List Value} {cn qn : Str}
theorem init_value (fam : Fam B newId initId tail) (T : Err_value K mg newId tail cn qn C fI) {x t0 : Addr} {v : Value} (inK : K.In s.heap) (lim : s.heap.NoLimit) (isX : s.heap.get? x = some (excO C t0)) (offK : K.lookup x = none) (room : A.depth < recursionLimit)
    (done : ∀ h' tk dx, (∀ b o, b ≠ x → s.heap.get? b = some o → h'.get? b = some o) → h'.get? x = some { cls := .ref C, dict := some dx, data := .fields #[.ref t0, .none, .none, .none, .bool false, .none] } → s.heap.objs.size ≤ dx → dx ≠ x →
      h'.Ns1 dx (fun y => if y = "value" then some v else none) → R (.ok (.ret .none)) { s with heap := h', toks := tk }) :
    codeAny (model prog w) A (.call (.ref fI) ⟨[.ref x, v], []⟩) R s := by
  obtain ⟨oc, od, doc, pm, an, cdv, ct, osl, p1, p2, q1, q2, q3, q4, isF, isCode⟩ := T.fn
  obtain ⟨nm, q, N, bs, bm, sn, sub, ab, col, dd, k0, k1, k2, k3, k5, isC, isM⟩ := T.cls
  have cls : PySem.W.clsIn K C = some { name := nm, bases := bs, mro := .ref C :: bm, ns := N, qualname := q, hasDict := true, slotNames := sn, subclasses := sub, abstract := ab, collection := col, hasDel := false } := by
    unfold PySem.W.clsIn
    rw [isC] <;> rfl
  refine Att.call_fn (binds := [("self", .ref x), ("value", v)]) inK lim isF isCode room (BindsTo.of_eq (by first | rfl | with_unfolding_all rfl)) (by first | rfl | decide | with_unfolding_all rfl) (fun s₁ IC => ?_) rfl rfl rfl
  obtain ⟨h₁, tk₁, rfl⟩ := IC.toInCall.same
  have keep : ∀ b o, s.heap.get? b = some o → h₁.get? b = some o := IC.toInCall.keep
  have locals := IC.toInCall.ns
  have inK₁ : K.In h₁ := inK.keeps keep
  have isX₁ := keep _ _ isX
  show wpAny _ _ (execs _ _) _ _ _
  refine wpAny_execs_cons (plainObj_wpAny_Assign_Attribute ?_)
  refine wpAny_Name (wpAny_loadName_local (by rfl) (by rfl) locals (v := v) (by first | rfl | with_unfolding_all rfl | kernel_rfl) ?_) (by decide)
  refine wpAny_Name (wpAny_loadName_local (by rfl) (by rfl) locals (v := .ref x) (by first | rfl | with_unfolding_all rfl | kernel_rfl) ?_) (by decide)
  refine PySem.W.set_plain inK₁ (ox := excO C t0) (od := none) ⟨isX₁, rfl, rfl, trivial⟩ T.sa ?_
  refine first_field fam inK₁ isX₁ cls (show refsT tail (.ref C :: bm) = true from isM) rfl T.noN (fun h₃ tk₃ dx k₃ dn dne hx₃ hn₃ => ?_)
  show wpAny _ _ (execs _ _) _ _ _
  have z : s.heap.objs.size < h₁.objs.size := locals.lt
  exact wpAny_execs_nil (done h₃ tk₃ dx (fun b o hb e => k₃ b o hb (keep b o e)) hx₃ (Nat.le_of_lt (Nat.lt_of_lt_of_le z dn)) dne hn₃)
/-- a made error -/
structure Made_value (h h' : Heap) (e C d : Addr) (v : Value) : Prop where
  keep : ∀ b o, h.get? b = some o → h'.get? b = some o
  new : h.objs.size ≤ e
  obj : ∃ oe vs, h'.get? e = some oe ∧ oe.cls = .ref C ∧ oe.dict = some d ∧ oe.data = .fields vs ∧ vs[1]? = some .none
  dbig : h.objs.size ≤ d
  dne : d ≠ e
  ns : h'.Ns1 d (fun y => if y = "value" then some v else none)
theorem made_value (fam : Fam B newId initId tail) (T : Err_value K mg newId tail cn qn C fI) {v : Value} (inK : K.In s.heap) (lim : s.heap.NoLimit) (room : A.depth + 1 < recursionLimit)
    (done : ∀ h' tk e d, Made_value s.heap h' e C d v → R (.ok (.ret (.ref e))) { s with heap := h', toks := tk }) :
    codeAny (model prog w) A (.call (.ref C) ⟨[v], []⟩) R s := by
  obtain ⟨nm, q, N, bs, bm, sn, sub, ab, col, dd, k0, k1, k2, k3, k5, isC, isM⟩ := T.cls
  obtain ⟨hp, g, dr, tk, os⟩ := s
  have keep : ∀ b o, hp.get? b = some o → ((hp.push (PySem.W.kdv_tup [v])).push (excO C hp.objs.size)).get? b = some o := fun b o e => Heap.get?_push_of_some _ (Heap.get?_push_of_some _ e)
  have isE : ((hp.push (PySem.W.kdv_tup [v])).push (excO C hp.objs.size)).get? (hp.objs.size + 1) = some (excO C hp.objs.size) := by heap_get
  have offK : K.lookup (hp.objs.size + 1) = none := by
    cases e : K.lookup (hp.objs.size + 1) with
    | none => rfl
    | some o => exact absurd (Nat.lt_of_succ_lt (Heap.lt_size (inK _ _ e))) (Nat.lt_irrefl _)
  refine call_own fam.facts (fun X => refsT_has X bm isM) (inK _ _ isC) (PySem.W.looks_findIn inK T.iC) (fun self => PySem.W.bind_fn inK self T.tC) (by show 1 ≤ sizeLine; decide) ?_
  refine init_value (s := ⟨(hp.push (PySem.W.kdv_tup [v])).push (excO C hp.objs.size), g, dr, tk, os⟩) fam T (inK.keeps keep) (lim.keeps keep) isE offK ?_ fun h' tk' dx k' hx dn dne hns => ?_
  · show A.depth + 1 < recursionLimit
    exact room
  · have old : ∀ b o, hp.get? b = some o → h'.get? b = some o := fun b o e => k' b o (Nat.ne_of_lt (Nat.lt_succ_of_lt (Heap.lt_size e))) (keep b o e)
    have z : hp.objs.size + 1 + 1 ≤ dx := by
      have y := dn
      rw [Heap.size_push, Heap.size_push] at y
      exact y
    exact ⟨rfl, done h' tk' (hp.objs.size + 1) dx ⟨old, Nat.le_succ _, ⟨_, _, hx, rfl, rfl, rfl, rfl⟩, (show hp.objs.size ≤ dx by omega), dne, hns⟩⟩
end
theorem rel_value {v : V} {u : Value} (r : RelV v u) (f : Str) : RelO (List.lookup f [(("value" : Str), v)]) (if f = "value" then some u else none) := by
  by_cases h : f = "value"
  · subst h
    rw [if_pos rfl, show List.lookup ("value" : Str) [(("value" : Str), v)] = some v by simp [List.lookup]]
    exact r
  · have e : (f == ("value" : Str)) = false := by simpa using h
    rw [if_neg h, show List.lookup f [(("value" : Str), v)] = none by simp [List.lookup, e]]
    trivial
section
variable {X : Cx} {C fI : Addr} {B newId initId : String} {tail : List Value} {cn qn : Str}
/-- cn(e) -/
def tMk_value (C : Addr) (ta : TA) : L2.St → Hp → XK → Prop := fun σ H Q => ta σ H fun vs H1 => ∃ v, vs = [v] ∧ ∀ d, H1 d = none → Q (.ref C) (some d) (upd H1 d (.xd [(("value" : Str), v)]))
theorem pmk_value {a : Expr} {ta : TA} {p pos : Pos} {k : Nat} (fam : Fam B newId initId tail) (T : Err_value X.K X.mg newId tail cn qn C fI) (hr : Room k X.A) (ha : PA X [a] ta) (hg : Gl X cn)
    (he : starEach (a :: []) X.env = (false, eval a X.env) :: starEach [] X.env := by rfl) (hpl : (backTo pos (starEach [] X.env)).any (·.1) = false := by rfl) :
    PMk X (.Call (.Name cn p) [a] [] pos) (tMk_value C ta) := by
  intro pins s σ H Q I h
  refine wpAny_Call_Name_kw (ld_glob I hg T.gC ?_ T.nd)
  refine PySem.W.callWith_K (h₀ := X.base) I.ok.mod.kin T.kC (thn (ha.run pos pins s σ H _ I h) ?_) he hpl
  rintro us s1 ⟨vs, H1, I1, r1, v, rfl, q1⟩
  refine ⟨I1.kIn, ?_⟩
  cases r1 with
  | @cons _ v' _ us' rv rn =>
    cases rn
    show wpAny _ _ (call (.ref C) [v']) _ _ _
    have lim := I1.nolimit
    obtain ⟨hp, g, dr, tk, os⟩ := s1
    refine wpAny_call (made_value fam T I1.kIn lim (by have := hr.dp; omega) fun h' tk' e d M => ?_)
    show MkP X pins σ Q (.ref e) ⟨h', g, dr, tk', os⟩
    obtain ⟨oe, fv, hoe, hc, hd, hdat, h1⟩ := M.obj
    obtain ⟨G', g1, g2⟩ := restrict h' fun b => decide (b ≠ e)
    have gk : ∀ b, b ≠ e → G'.get? b = h'.get? b := fun b hb => g1 b (decide_eq_true hb)
    have ge : G'.get? e = none := g2 e (by simp)
    have old : ∀ b o, hp.get? b = some o → G'.get? b = some o := by
      intro b o z
      refine (gk b (Nat.ne_of_lt (Nat.lt_of_lt_of_le (Heap.lt_size z) M.new))).trans ?_
      exact M.keep b o z
    have ok : ObjOk X.prog X.w (upd H1 d (.xd [(("value" : Str), v)])) G' d (.xd [(("value" : Str), v)]) :=
      ⟨_, M.ns.at (fun o z => (gk d M.dne).trans z), fun f => rel_value rv f⟩
    have J : Inv X pins σ (upd H1 d (.xd [(("value" : Str), v)])) ⟨G', g, dr, tk', os⟩ := I1.laid (t' := tk') old M.dbig ok
    refine ⟨e, oe, fv, ⟨G', g, dr, tk', os⟩, _, .ref C, some d, rfl, J, ?_, ge, hoe, ⟨hc, hd⟩, hdat, h1, ?_, rfl, I1.bare, raises_own T.exC T.tyC, q1 d (I1.hok.fresh M.dbig)⟩
    · intro b o z
      by_cases hb : b = e
      · have z' : G'.get? b = some o := z
        rw [hb, ge] at z'
        cases z'
      · exact (gk b hb).symm.trans z
    · rw [upd_ne (Ne.symm M.dne)]
      exact I1.hok.fresh M.new
/-- raise cn(e) -/
def tRaise_value (C : Addr) (W : WX) (ta : TA) : TS := fun _ σ H => tMk_value C ta σ H fun cls d H' => W cls d σ H'
theorem ps_raise_value {a : Expr} {ta : TA} {W : WX} {p pos pos2 : Pos} {k : Nat} (hc : X.calm = true) (fam : Fam B newId initId tail) (T : Err_value X.K X.mg newId tail cn qn C fI) (hr : Room k X.A) (tk : Takes X W) (ha : PA X [a] ta) (hg : Gl X cn)
    (he : starEach (a :: []) X.env = (false, eval a X.env) :: starEach [] X.env := by rfl) (hpl : (backTo pos (starEach [] X.env)).any (·.1) = false := by rfl) :
    PS X (.Raise (some (.Call (.Name cn p) [a] [] pos)) none pos2) (tRaise_value C W ta) := ps_raise hc tk (pmk_value fam T hr ha hg he hpl)
/-- err.value, err the error that the suite holds (at a; its class cls, its dict d) -/
def tFld_value (C : Addr) (a : Addr) (cls : Value) (d : Option Addr) (te : TE) : TE := fun σ H Q => te σ H fun x H1 => x = .ref a ∧ cls = .ref C ∧ ∃ (dd : Addr) (v : V), d = some dd ∧ H1 dd = some (.xd [(("value" : Str), v)]) ∧ Q v H1
theorem pe_fld_value {a : Addr} {oe : Obj} {cls : Value} {d : Option Addr} {pn : List (Addr × Obj)} {e : Expr} {te : TE} {pos : Pos} (T : Err_value X.K X.mg newId tail cn qn C fI) (hz : Zc cls d oe) (hf : ∃ vs, oe.data = .fields vs) (he : PE (X.suite a ((a, oe) :: pn)) e te)
    (hb : attributeBase e "value" X.env (eval e X.env) = eval e X.env := by rfl) :
    PE (X.suite a ((a, oe) :: pn)) (.Attribute e "value" pos) (tFld_value C a cls d te) := by
  constructor
  intro pins s σ H Q I h
  refine attr_of hb (thn (he.run pins s σ H _ I h) ?_)
  rintro u s1 ⟨x, H1, I1, rx, rfl, rfl, dd, v, rfl, ea, q⟩
  cases rx
  obtain ⟨ha, _⟩ := I1.pin (a, oe) (List.mem_append_left _ List.mem_cons_self)
  obtain ⟨vs, hd⟩ := hf
  have ok : ObjOk X.prog X.w H1 s1.heap dd (.xd [(("value" : Str), v)]) := I1.hok dd _ ea
  obtain ⟨mA, hns, hr⟩ := ok
  obtain ⟨od, ho, hl⟩ := lookIn_ns hns
  have look : List.lookup ("value" : Str) [(("value" : Str), v)] = some v := by simp [List.lookup]
  obtain ⟨u, hu, ru⟩ := RelO.some_of (v := v) (o := mA "value") (by rw [← look]; exact hr "value")
  have J : PySem.W.InstAt s1.heap a oe C (some od) := ⟨ha, hz.1, by unfold PySem.W.notCls; rw [hd] <;> rfl, by rw [hz.2]; exact ho⟩
  exact HandSPX.exc_get I1.kIn J T.ga T.gg T.exC (PySem.W.findObj_own T.hdC T.noN rfl (by rw [hl, hu])) (handed_of ru) ⟨v, H1, I1.tok _, ru, q⟩
end
/-! ### isinstance of a caught error that has a dict; several clauses 'except x as n' -/
/-- isinstance(e, c), e the error of the suite: its class D, its dict d -/
def rIsD (K : PySem.W.Frag) (D a : Addr) (d : Option Addr) : List V → Hp → VK → Prop := fun xs H Q =>
  ∃ c u b dd fs, xs = [.ref a, c] ∧ ClsV c u ∧ d = some dd ∧ H dd = some (.xd fs) ∧ PySem.W.kitOne K (.ref D) u = some b ∧ Q (.bl b) H
def rIsDT (K : PySem.W.Frag) (D a : Addr) (d : Option Addr) : List V → Hp → VK → Prop := fun xs H Q =>
  ∃ tp cs us b dd fs, xs = [.ref a, .ref tp] ∧ H tp = some (.tup cs) ∧ Paired ClsV cs us ∧ d = some dd ∧ H dd = some (.xd fs) ∧ PySem.W.kitAny K (.ref D) us = some b ∧ Q (.bl b) H
section
variable {X : Cx} {a D : Addr} {d : Option Addr} {oe : Obj} {pn : List (Addr × Obj)}
theorem inst_of {pins : List (Addr × Obj)} {s : Shared} {σ : L2.St} {H : Hp} {dd : Addr} {fs : List (Str × V)} (hz : Zc (.ref D) (some dd) oe) (hf : ∃ vs, oe.data = .fields vs)
    (I : Inv (X.suite a ((a, oe) :: pn)) pins σ H s) (e : H dd = some (.xd fs)) : ∃ od, PySem.W.InstAt s.heap a oe D (some od) := by
  have here := (I.pin (a, oe) (List.mem_append_left _ List.mem_cons_self)).1
  have ok : ObjOk X.prog X.w H s.heap dd (.xd fs) := I.hok dd _ e
  obtain ⟨mA, ns, -⟩ := ok
  obtain ⟨od, ho, -⟩ := lookIn_ns ns
  refine ⟨od, here, hz.1, ?_, ?_⟩
  · obtain ⟨vs, hv⟩ := hf
    unfold PySem.W.notCls
    rw [hv] <;> rfl
  · rw [hz.2]; exact ho
theorem kit_exD {K : PySem.W.Frag} {od : Option Obj} (C : ExcC K D) : PySem.W.KitX K (.ref a) (.ref D) (fun h => PySem.W.InstAt h a oe D od) := by
  have known : (PySem.W.clsIn K D).isSome = true := by
    obtain ⟨cd, hc, _⟩ := PySem.W.any_some C.hd
    rw [hc] <;> rfl
  exact PySem.W.kitx_exc known C.hg C.hk C.hs C.ha C.hn C.ht C.hm
theorem call_isD (C : ExcC X.K D) (hz : Zc (.ref D) d oe) (hf : ∃ vs, oe.data = .fields vs) : CallR (X.suite a ((a, oe) :: pn)) (.builtin "isinstance") (rIsD X.K D a d) := by
  rintro pins s σ H _ us Q I r ⟨c, u, b, dd, fs, rfl, k, rfl, eH, e, q⟩
  obtain ⟨u1, u2, rfl, r1, r2⟩ := vals2 r
  cases k.eq r2
  cases (show u1 = Value.ref a from r1)
  obtain ⟨od, J⟩ := inst_of hz hf I eH
  refine PySem.W.kia_one (kit_exD C) I.kIn J e (by intro z; cases z) fun tk => ?_
  exact ⟨.bl b, H, I.tok tk, rfl, q⟩
theorem call_isDT (C : ExcC X.K D) (hz : Zc (.ref D) d oe) (hf : ∃ vs, oe.data = .fields vs) : CallR (X.suite a ((a, oe) :: pn)) (.builtin "isinstance") (rIsDT X.K D a d) := by
  rintro pins s σ H _ us Q I r ⟨tp, cs, ws, b, dd, fs, rfl, hT, k, rfl, eH, e, q⟩
  obtain ⟨u1, u2, rfl, r1, r2⟩ := vals2 r
  cases (show u2 = Value.ref tp from r2)
  cases (show u1 = Value.ref a from r1)
  obtain ⟨od, J⟩ := inst_of hz hf I eH
  have okT : ObjOk X.prog X.w H s.heap tp (.tup cs) := I.hok tp _ hT
  obtain ⟨-, its, rv, ⟨oc, od', dt, sl⟩, there, kind, n, data⟩ := okT
  dsimp only at kind data
  subst kind data
  cases ClsV.all k rv
  refine PySem.W.kia_tup (kit_exD C) I.kIn J there e (by intro z; cases z) fun tk => ?_
  exact ⟨.bl b, H, I.tok tk, rfl, q⟩
end
/-- an error of the body, landed in X: sI is the state without it, s the state with it -/
structure Down (X : Cx) (pins : List (Addr × Obj)) (σ : L2.St) (H : Hp) (cls : Value) (d : Option Addr) (a : Addr) (B : Heap) (sI s : Shared) : Prop where
  inv : Inv X pins σ H sI
  base : ∀ b o, sI.heap.get? b = some o → b ∉ frs X.stack → B.get? b = some o
  up : sI.heap.UpToSlots s.heap
  fly : HandSPX.FlyingZ B (X.env :: X.outer) a (Zc cls d) s.heap
  free : H a = none
  os : s.os = sI.os
  bare : AllBare s.gens
section
variable {X : Cx} {pins : List (Addr × Obj)} {σ : L2.St} {H : Hp} {cls : Value} {d : Option Addr} {a : Addr} {B : Heap} {sI s : Shared}
theorem Down.here (w : Down X pins σ H cls d a B sI s) : Inv X pins σ H s := w.inv.landed w.base w.fly.1 w.up w.os w.bare
theorem Down.moved (w : Down X pins σ H cls d a B sI s) {h' : Heap} (fl : HandSPX.FlyingZ B (X.env :: X.outer) a (Zc cls d) h') (up : s.heap.UpToSlots h') : Down X pins σ H cls d a B sI { s with heap := h' } :=
  { w with up := w.up.trans up, fly := fl }
theorem Down.apart (w : Down X pins σ H cls d a B sI s) : a ∉ (X.env :: X.outer).filterMap (·.frame) := by
  intro hm
  obtain ⟨oe, vs, he, -, hd⟩ := w.fly.there
  obtain ⟨-, o, e, no⟩ := w.fly.2.2.1.mem hm
  cases he.symm.trans e
  exact no vs hd
/-- the state, seen from the suite of a clause -/
theorem Down.suite (w : Down X pins σ H cls d a B sI s) (hf : X.env.frame = some X.env.locals) :
    ∃ oe, Zc cls d oe ∧ (∃ vs, oe.data = .fields vs) ∧ s.heap.get? a = some oe ∧ Inv (X.suite a ((a, oe) :: (X.pn ++ pins))) [] σ H s := by
  obtain ⟨oe, vs, he, hz, hd⟩ := w.fly.there
  have no := w.apart
  refine ⟨oe, hz, ⟨vs, hd⟩, he, w.here.suite he hd w.free ?_ ?_⟩
  · intro z
    subst z
    exact no (List.mem_filterMap.mpr ⟨X.env, .head _, hf⟩)
  · intro z
    obtain ⟨e, me, q⟩ := List.mem_filterMap.mp z
    exact no (List.mem_filterMap.mpr ⟨e, .tail _ me, q⟩)
/-- no clause is left: the error goes on -/
theorem Down.on {Wout : WX} {D : Ends} (w : Down X pins σ H cls d a B sI s) (hs : X.stack = X.env :: X.outer) (hf : X.env.frame = some X.env.locals) (tk : Takes X Wout) (q : Wout cls d σ H) :
    wpAny (model X.prog X.w) X.A (handleBy (.ref a) X.env []) (SP X pins D) X.xe s := by
  have go : wpAny (model X.prog X.w) X.A (setFlight (.ref a) X.env.frame) (fun _ s4 => wpAny (model X.prog X.w) X.A (throw (.ref a) : Sem Flow) (SP X pins D) X.xe s4) X.xe s := by
    rw [hf]
    refine HandSPX.setFlight_upZ w.fly fun h4 held up4 => wpAny_throw (tk _ _ ?_)
    refine ⟨a, B, sI, pins, σ, H, cls, d, rfl, w.inv, w.base, w.up.trans up4, .inr (.inr ?_), w.free, w.os, w.bare, q⟩
    rw [hs]
    exact held
  obtain ⟨-, -, -, oe, vs, T, -, -, he, -, hd, h1, -⟩ := id w.fly
  refine wpAny_handleBy_nil ?_
  unfold PySem.passOn
  refine wpAny_bind (wpAny_field he hd h1 ?_)
  have nn : ¬ (Value.ref T == Value.none) = true := by simp
  rw [if_neg nn]
  first
    | exact wpAny_bind go
    | exact wpAny_bind (wpAny_pure (wpAny_bind go))
/-- the first of the clauses: it is taken, or the next ones are asked -/
theorem Down.clause {D : Ends} {x n : Str} {c : Value} {i : Nat} {b₀ : Stmt} {body : List Stmt} {p p' : Pos} {rest : List ExceptHandler} {ts : Addr → Value → Option Addr → TS} {W : WX}
    (w : Down X pins σ H cls d a B sI s) (hf : X.env.frame = some X.env.locals) (hN : X.N.Nodup) (hi : X.N[i]? = some n) (hln : X.env.kindOf n = some .local) (hc : Names X x c)
    (hsu : ∀ (oe : Obj) (pn : List (Addr × Obj)), Zc cls d oe → (∃ vs, oe.data = .fields vs) → PSs (X.suite a ((a, oe) :: pn)) (b₀ :: body) (ts a cls d))
    (q : wAs X.K c i ts W D cls d σ H) (hr : W cls d σ H → wpAny (model X.prog X.w) X.A (handleBy (.ref a) X.env rest) (SP X pins D) X.xe s) :
    wpAny (model X.prog X.w) X.A (handleBy (.ref a) X.env (.ExceptHandler (some (.Name x p)) (some n) (b₀ :: body) p' :: rest)) (SP X pins D) X.xe s := by
  obtain ⟨b, is, yes, no⟩ := q
  obtain ⟨oe, hz, -, he, S⟩ := w.suite hf
  refine wpAny_handleBy_cons (codeAny_handlers_test ?_) (by intro z; cases z)
  have ty : PySem.W.Looks (model X.prog X.w) s.heap (typeOf (.ref a)) cls := by
    intro A Q E s' k q
    refine wpAny_typeOf_ref (k _ _ he) ?_
    rw [hz.1]
    exact q
  have match_ := PySem.W.exm_one (M := model X.prog X.w) w.here.kIn ty is
  have name_ : ∀ {Q E : Value → Shared → Prop}, Q c s → wpAny (model X.prog X.w) (X.A.mark (some (.ref a))) (eval (.Name x p) X.env) Q E s := by
    intro Q E q
    rcases hc with ⟨g, nd, m | ⟨m, v, nn⟩⟩
    · exact ld_glob (X := X.suite a _) S g m q nd
    · exact ld_blt (X := X.suite a _) S g m v q nn nd
  refine name_ (match_.here ?_)
  cases b with
  | false => exact hr (no rfl)
  | true =>
    refine codeAny_handlers_suite_as (HandSPX.lands_againZ w.fly fun h4 fl4 up4 => ?_)
    obtain ⟨oe4, hz4, hd4, -, S4⟩ := (w.moved fl4 up4).suite hf
    refine store_ok (X := X.suite a _) (v := .ref a) S4 hN hi (.inl hln) rfl (fun s5 S5 => ?_) (.inr hln)
    refine wpAny_mono ((hsu oe4 (X.pn ++ pins) hz4 hd4).run [] s5 _ H _ S5 (yes rfl a w.free)) (fun f s6 r => ?_) (by intro _ _ z; exact z.elim)
    have ok := w.inv.ok
    cases f with
    | ret u =>
      obtain ⟨v6, σ6, H6, S6, r6, q6⟩ := r
      exact gone_ok (S6.unsuite ok) hN hi hln fun s7 J7 => ⟨v6, _, _, J7, r6, q6⟩
    | next =>
      obtain ⟨σ6, H6, S6, q6⟩ := r
      exact gone_ok (S6.unsuite ok) hN hi hln fun s7 J7 => ⟨_, _, J7, q6⟩
    | brk =>
      obtain ⟨σ6, H6, S6, q6⟩ := r
      exact gone_ok (S6.unsuite ok) hN hi hln fun s7 J7 => ⟨_, _, J7, q6⟩
    | cont =>
      obtain ⟨σ6, H6, S6, q6⟩ := r
      exact gone_ok (S6.unsuite ok) hN hi hln fun s7 J7 => ⟨_, _, J7, q6⟩
theorem Down.new (w : Down X pins σ H cls d a B sI s) (hs : X.stack = X.env :: X.outer) : X.base.get? a = none := by
  cases e : X.base.get? a with
  | none => rfl
  | some o =>
    have no := w.apart
    have z := w.base a o (w.inv.bs a o e).1 (by rw [hs]; exact no)
    rw [w.fly.2.1] at z
    cases z
end
/-- clauses 'except x as n', n in slot i, with what each does and what the one behind the last wishes -/
inductive Clauses (X : Cx) (n : Str) (i : Nat) (Wout : WX) : List ExceptHandler → (Ends → WX) → Prop
  | nil : Clauses X n i Wout [] (fun _ => Wout)
  | cons {x : Str} {c : Value} {ts : Addr → Value → Option Addr → TS} {b₀ : Stmt} {body : List Stmt} {p p' : Pos} {rest : List ExceptHandler} {W : Ends → WX} (hc : Names X x c)
      (hsu : ∀ (a : Addr) (oe : Obj) (cls : Value) (d : Option Addr) (pn : List (Addr × Obj)), Zc cls d oe → (∃ vs, oe.data = .fields vs) → X.base.get? a = none → PSs (X.suite a ((a, oe) :: pn)) (b₀ :: body) (ts a cls d))
      (r : Clauses X n i Wout rest W) : Clauses X n i Wout (.ExceptHandler (some (.Name x p)) (some n) (b₀ :: body) p' :: rest) (fun D => wAs X.K c i ts (W D) D)
section
variable {X : Cx} {n : Str} {i : Nat} {Wout : WX}
theorem Clauses.run {hds : List ExceptHandler} {W : Ends → WX} (k : Clauses X n i Wout hds W) (hs : X.stack = X.env :: X.outer) (hf : X.env.frame = some X.env.locals) (hN : X.N.Nodup) (hi : X.N[i]? = some n) (hln : X.env.kindOf n = some .local) (tk : Takes X Wout)
    {pins : List (Addr × Obj)} {σ : L2.St} {H : Hp} {cls : Value} {d : Option Addr} {a : Addr} {B : Heap} {sI s : Shared} {D : Ends} (w : Down X pins σ H cls d a B sI s) (q : W D cls d σ H) :
    wpAny (model X.prog X.w) X.A (handleBy (.ref a) X.env hds) (SP X pins D) X.xe s := by
  induction k with
  | nil => exact w.on hs hf tk q
  | cons hc hsu r ih => exact w.clause hf hN hi hln hc (fun oe pn hz hf2 => hsu a oe cls d pn hz hf2 (w.new hs)) q ih
/-- try: body / except x1 as n: .. / except x2 as n: .. -/
theorem ps_tryA {body : List Stmt} {h₀ : ExceptHandler} {hds : List ExceptHandler} {pos : Pos} {tb : WX → TS} {W : Ends → WX} (hs : X.stack = X.env :: X.outer) (hf : X.env.frame = some X.env.locals) (hN : X.N.Nodup) (hi : X.N[i]? = some n) (hln : X.env.kindOf n = some .local)
    (tk : Takes X Wout) (hb : ∀ (W : WX) (pn : List (Addr × Obj)) (xe : Value → Shared → Prop), Takes (X.tr pn xe) W → PassesOwn (model X.prog X.w) X.A X.env xe → PSs (X.tr pn xe) body (tb W))
    (k : Clauses X n i Wout (h₀ :: hds) W) : PS X (.Try body (h₀ :: hds) [] [] pos) (fun D σ H => tb (W D) D σ H) := by
  constructor
  intro pins s σ H D I h
  have ok := I.ok
  let out : Value → Shared → Prop := fun e s₁ => wpAny (model X.prog X.w) X.A (noteFrame e X.env)
    (fun _ s₂ => wpAny (model X.prog X.w) X.A (setFlight e none) (fun _ s₃ => wpAny (model X.prog X.w) X.A (handleBy e X.env (h₀ :: hds)) (SP X pins D) X.xe s₃) X.xe s₂) X.xe s₁
  have tks : Takes (X.tr (X.pn ++ pins) out) (W D) := by
    rintro u s' ⟨a, B, sI, pins', σ', H', cls, d, rfl, J, nb, up, sky, na, os, ag, q⟩
    have fr : X.A.frames = some (X.env :: X.outer) := by rw [ok.frames, hs]
    have sky' := sky
    rw [show (X.tr (X.pn ++ pins) out).stack = X.env :: X.outer from hs] at sky'
    refine Sky.land (E₁ := X.xe) Zc.steady fr hf sky' fun h3 fl3 up3 => ?_
    exact k.run hs hf hN hi hln tk (sI := sI) (B := B) ⟨J.ofTry ok, nb, up.trans up3, fl3, na, os, ag⟩ q
  refine wpAny_Try_except (wpAny_mono ((hb (W D) (X.pn ++ pins) out tks PassesOwn.looking).run [] s σ H D (I.toTry _) h) ?_ fun _ _ he => he)
  · intro f s1 r
    cases f with
    | next =>
      obtain ⟨σ', H', J, q⟩ := r
      exact wpAny_execs_nil ⟨σ', H', J.ofTry ok, q⟩
    | ret u =>
      obtain ⟨v, σ', H', J, r', q⟩ := r
      exact ⟨v, σ', H', J.ofTry ok, r', q⟩
    | brk | cont =>
      obtain ⟨σ', H', J, q⟩ := r
      exact ⟨σ', H', J.ofTry ok, q⟩
end
/-! ### letters and open paths among all values -/
def isLow (c : Nat) : Bool := decide (97 ≤ c) && decide (c ≤ 122)
def isLt : List Nat → Bool
  | [c] => isLow c
  | _ => false
/-- is a value a small letter? -/
def letD : PyData → Bool
  | .str x => isLt x.cps.toList
  | _ => false
theorem letD_of {d : PyData} (h : letD d = true) : ∃ c, d = .str (ch c) ∧ isLow c = true := by
  cases d with
  | str x =>
    have h : isLt x.cps.toList = true := h
    cases hx : x.cps.toList with
    | nil => rw [hx] at h; cases h
    | cons c r =>
      cases r with
      | nil =>
        rw [hx] at h
        exact ⟨c, congrArg PyData.str (TL.ext_tl hx), h⟩
      | cons _ _ => rw [hx] at h; cases h
  | _ => cases h
def spLowX : Sp := fun vs H Q _ => ∃ (v : V) (D : Deck) (d : PyData), vs = [v] ∧ DQ D H v d ∧ gd d = true ∧ Q (.bl (letD d)) H
/-- a def whose promise has errors -/
structure DfX (P : Program) (w : World) (K : PySem.W.Frag) (mg : Str → Option Value) (base : Heap) (k : Nat) (nm : Str) (ps : List Str) (sp : Sp) where
  f : Addr
  fd : FuncData
  ok : FnOk P w K mg base (L2.CX P w) k f fd ps sp
  b : Binds K fd ps []
  kp : PySem.W.keepIn K (.ref f) = true
  g : mg nm = some (.ref f)
/-- what the value of a path leads to -/
def pathTo (t : B) : PyData → Option B
  | .str x => t.at x.cps.toList
  | _ => none
def spPartX (C : Addr) : Sp := fun vs H Q E => ∃ (v v' : V) (t : B) (D : Deck) (d : PyData), vs = [v, v'] ∧ BAt H v t ∧ DQ D H v' d ∧
  (∀ u, pathTo t d = some u → ∀ (H' : Hp) (vu : V), Same H H' → BAt H' vu u → Q vu H') ∧ (pathTo t d = none → ∀ (H' : Hp) (p : Addr), Same H H' → H' p = none → E (.ref C) (some p) (upd H' p (.xd [(("value" : Str), v')])))
def spOpenX : Sp := fun vs H Q _ => ∃ (v v' : V) (t : B) (D : Deck) (d : PyData), vs = [v, v'] ∧ BAt H v t ∧ DQ D H v' d ∧ ∀ (b : Bool) (H' : Hp), (b = true ↔ pathTo t d = some .nil) → Same H H' → Q (.bl b) H'
section
variable {P : Program} {w : World} {K : PySem.W.Frag} {mg : Str → Option Value} {base : Heap} {f : Addr} {fd : FuncData} {C fI : Addr} {qn : Str}
theorem ok_partX {k : Nat} (F : Fun K "part_at" "part_at" s_part_at f fd) (M : Mgs mg) (hE : Err_value K mg "LookupError.__new__" leT "NoPath" qn C fI) : FnOk P w K mg base (L2.CX P w) (k + 1) f fd ["tree", "path"] (spPartX C) := by
  refine F.okX sc_part_at (fun vs H Q E h => ?_) (fun cdv A outer s H vs Q E hr h => ?_)
  · obtain ⟨v, v', t, D, d, rfl, _⟩ := h
    rfl
  obtain ⟨v, v', t, D, d, rfl, ht, hd, q, qe⟩ := h
  refine ⟨_, (pss_cons (ps_if (pt_not (pt_val (pe_callB call_isi rfl M.isinstance (by decide +kernel) (pa_cons (pv 1) (pa_cons (pe_bltn (v := .ty "str") rfl M.str (by decide +kernel) rfl) pa_nil)))))
      (pss_one (ps_raise_value rfl famL hE hr (takes_of rfl rfl rfl rfl) (pa_cons (pv 1) pa_nil) rfl)) pss_nil)
    (pss_cons (ps_set (i := 2) sc_part_at.nd rfl (.inl rfl) (pv 0))
    (pss_cons (ps_for (passes_of rfl) rfl (pi_str (pv 1)) (pg_name (i := 3) sc_part_at.nd rfl (.inl rfl))
      (pss_cons (ps_if (PW.pt (pw_or (pt_cmpR op_isN (pv 2) pe_non (nomark _)) (pw_or1 (pt_cmpR op_notIn_seq (pv 3) (pe_tup (pa_cons pe_str (pa_cons pe_str pa_nil))) (by rfl)))))
      (pss_one (ps_raise_value rfl famL hE hr (takes_of rfl rfl rfl rfl) (pa_cons (pv 1) pa_nil) rfl)) pss_nil)
    (pss_one (ps_set (i := 2) sc_part_at.nd rfl (.inl rfl) (pe_ifExp (pt_cmpR op_eq (pv 3) pe_str (nomark _)) (pe_ix ix_tup (pv 2) pe_int (fun _ _ => rfl)) (pe_ix ix_tup (pv 2) pe_int (fun _ _ => rfl)))))))
    (pss_one (ps_ret (pv 2)))))), ?_⟩
  refine ⟨_, rfl, _, _, _, _, isStrD d, rfl, .ty _, dq_ty hd, kit_ty (kit_str d), _, rfl, ?_⟩
  cases hs : isStrD d with
  | false =>
    have no : pathTo t d = none := by cases d <;> first | rfl | exact absurd hs (by simp [isStrD])
    exact iteT ⟨_, rfl, v', rfl, fun p np => qe no H p (Same.refl H) np⟩
  | true =>
    refine iteF ?_
    obtain ⟨x, rfl⟩ := isStr_of hs
    cases hd
    refine ⟨_, rfl, ?_⟩
    refine ⟨_, rfl, x, rfl, ?_⟩
    refine for_text (x := x) (fun i σ H' => ∃ (vu : V) (u : B) (y : Option V), σ = [some v, some (.str x), some vu, y] ∧ Same H H' ∧ BAt H' vu u ∧ t.at x.cps.toList = u.at (x.cps.toList.drop i)) ⟨v, t, none, rfl, Same.refl H, ht, rfl⟩ (fun i c σ H' hc hp => ?_) (fun σ H' hp => ?_)
    · obtain ⟨vu, u, y, rfl, sm, hu, e⟩ := hp
      have hi : i < x.cps.toList.length := (List.getElem?_eq_some_iff.mp hc).1
      have hcd : x.cps.toList.drop i = c :: x.cps.toList.drop (i + 1) := by
        rw [List.drop_eq_getElem_cons hi, (List.getElem?_eq_some_iff.mp hc).2]
      rw [hcd] at e
      rcases hu.inv with ⟨rfl, rfl⟩ | ⟨a, l, r, lb, tl, tr, rfl, rfl, ea, hL, hR⟩
      · refine ⟨_, rfl, rfl, _, rfl, iteT (iteT ?_)⟩
        exact ⟨_, rfl, _, rfl, fun p np => qe (show t.at _ = none by rw [e]; rfl) H' p sm np⟩
      · refine ⟨_, rfl, rfl, _, rfl, iteF ?_⟩
        refine ⟨_, rfl, (by show 2 ≤ sizeLine; decide), fun tp ntp => ?_⟩
        have k1 := same_new ntp (.tup [.str "l", .str "r"])
        have s1 := sm.trans k1
        refine ⟨tp, _, rfl, .inr (SqT.of upd_same), rfl, rfl, _, rfl, ?_⟩
        generalize upd H' tp (.tup [.str "l", .str "r"]) = H1 at k1 s1 ⊢
        have ea1 := k1 _ _ ea
        by_cases h1 : c = 108
        · subst h1
          refine iteF ?_
          refine ⟨_, rfl, rfl, _, rfl, iteT ?_⟩
          exact ⟨_, rfl, a, _, 0, l, rfl, rfl, SqT.of ea1, atI_nat (j := 0) rfl, l, tl, _, rfl, s1, hL.same k1, by rw [e]; rfl⟩
        · by_cases h2 : c = 114
          · subst h2
            refine iteF ?_
            refine ⟨_, rfl, rfl, _, rfl, iteF ?_⟩
            exact ⟨_, rfl, a, _, 2, r, rfl, rfl, SqT.of ea1, atI_nat (j := 2) rfl, r, tr, _, rfl, s1, hR.same k1, by rw [e]; rfl⟩
          · have hin : inV (.str ⟨#[c]⟩) [V.str "l", V.str "r"] = false := by
              have el : Str.ofString "l" = ⟨#[108]⟩ := by decide +kernel
              have er : Str.ofString "r" = ⟨#[114]⟩ := by decide +kernel
              have ne : ∀ k : Nat, c ≠ k → ((⟨#[k]⟩ : Str) == ⟨#[c]⟩) = false := by
                intro k hk
                rw [beq_eq_false_iff_ne]
                intro z
                have z' := congrArg (fun y : Str => y.cps.toList) z
                exact hk (List.cons.inj z').1.symm
              unfold inV
              show ((Str.ofString "l" == ⟨#[c]⟩) || ((Str.ofString "r" == ⟨#[c]⟩) || false)) = false
              rw [el, er, ne 108 h1, ne 114 h2]
              rfl
            show if (!inV (.str ⟨#[c]⟩) [V.str "l", V.str "r"]) = true then _ else _
            rw [hin]
            refine iteT ?_
            exact ⟨_, rfl, _, rfl, fun p np => qe (show t.at _ = none by rw [e]; show (if c = 108 then _ else if c = 114 then _ else none) = none; rw [if_neg h1, if_neg h2]) H1 p s1 np⟩
    · obtain ⟨vu, u, y, rfl, sm, hu, e⟩ := hp
      rw [List.drop_length, u.at_nil] at e
      exact ⟨_, rfl, q u e H' vu sm hu⟩
theorem ok_openX {k : Nat} (F : Fun K "is_open" "is_open" s_is_open f fd) (gC : mg "NoPath" = some (.ref C)) (e1 : PySem.W.exmOne K (.ref C) (.ref C) = some true) (Dpart_at : DfX P w K mg base (k + 1) "part_at" ["tree", "path"] (spPartX C)) : FnOk P w K mg base CX0 (k + 2) f fd ["tree", "path"] spOpenX := by
  refine F.ok (k := k + 1) sc_is_open (fun vs H Q E h => ?_) (fun cdv A outer s H vs Q E hr h => ?_)
  · obtain ⟨v, v', t, D, d, rfl, _⟩ := h
    rfl
  obtain ⟨v, v', t, D, d, rfl, ht, hd, q⟩ := h
  refine ⟨_, (pss_one (ps_try_only (c := .ref C) (Wout := fun _ _ _ _ => False) rfl rfl ⟨rfl, by decide, .inl gC⟩ takes_none5 (fun W pn xe tk _ => pss_one (ps_ret (pe_cmpR op_isN (pe_callS Dpart_at.ok (hr.mono (by omega)) rfl Dpart_at.g Dpart_at.kp Dpart_at.b (fun σ => passAt tk σ) (pa_cons (pv 0) (pa_cons (pv 1) pa_nil))) pe_non (nomark _)))) (fun a oe cls d pn hz hf => pss_one (ps_ret pe_bl)))), ?_⟩
  refine ⟨_, rfl, _, rfl, v, v', t, D, d, rfl, ht, hd, fun u hu H1 vu s1 b1 => ?_, fun hn H1 p s1 np => ?_⟩
  · rcases b1.inv with ⟨rfl, rfl⟩ | ⟨a, l, r, lb, tl, tr, rfl, rfl, ea, hL, hR⟩
    · exact ⟨rfl, q true H1 ⟨fun _ => hu, fun _ => rfl⟩ s1⟩
    · exact ⟨rfl, q false H1 ⟨fun z => (by cases z), fun z => by rw [hu] at z; cases z⟩ s1⟩
  · refine ⟨true, e1, fun _ a0 na => ?_, fun z => nomatch z⟩
    exact q false _ ⟨fun z => (by cases z), fun z => by rw [hn] at z; cases z⟩ (s1.trans (same_new np _))
theorem ok_lowX {k : Nat} (F : Fun K "is_letter" "is_letter" s_is_letter f fd) (M : Mgs mg) : FnOk P w K mg base CX0 (k + 1) f fd ["value"] spLowX := by
  refine F.ok sc_is_letter (fun vs H Q E h => ?_) (fun cdv A outer s H vs Q E hr h => ?_)
  · obtain ⟨v, D, d, rfl, _⟩ := h
    rfl
  obtain ⟨v, D, d, rfl, hd, hg, q⟩ := h
  refine ⟨_, (pss_one (ps_ret (pe_and (pe_callB call_isi rfl M.isinstance (by decide +kernel) (pa_cons (pv 0) (pa_cons (pe_bltn (v := .ty "str") rfl M.str (by decide +kernel) rfl) pa_nil))) (pe_and (pe_cmpR op_eq (pe_callB call_len_str rfl M.len PySem.boot_len (pa_cons (pv 0) pa_nil)) pe_int (nomark _)) (pe_one (pe_chain op_le_str op_le_str pe_str (pv 0) pe_str)))))), ?_⟩
  refine ⟨_, rfl, _, _, _, _, isStrD d, rfl, .ty _, dq_ty hd, kit_ty (kit_str d), _, rfl, ?_⟩
  cases hs : isStrD d with
  | false =>
    have no : letD d = false := by cases d <;> first | rfl | exact absurd hs (by simp [isStrD])
    rw [no] at q
    exact iteF q
  | true =>
    obtain ⟨x, rfl⟩ := isStr_of hs
    cases hd
    have hx := (gd_str hg).1
    have q : Q (.bl (isLt x.cps.toList)) H := q
    refine iteT ⟨_, rfl, x, rfl, small (by omega), rfl, _, rfl, ?_⟩
    have ex : x = tx x.cps.toList := TL.ext_tl rfl
    rw [ex] at hx ⊢
    rw [tx_len] at hx ⊢
    generalize x.cps.toList = l at hx q ⊢
    match l, hx, q with
    | [], _, q => exact iteF q
    | a :: b :: r, _, q =>
      rw [show decide (V.int ((a :: b :: r).length : Nat) = V.int 1) = false from decide_eq_false fun z => by have := V.int.inj z; rw [List.length_cons, List.length_cons] at this; omega]
      exact iteF q
    | [c], _, q =>
      rw [show decide (V.int (([c] : List Nat).length : Nat) = V.int 1) = true from rfl]
      refine iteT ⟨_, rfl, _, _, rfl, rfl, _, rfl, ?_⟩
      have e1 : (!decide ((tx [c]).cps.toList < (Str.ofString "a").cps.toList)) = decide (97 ≤ c) := by
        rw [show (Str.ofString "a").cps.toList = [97] by decide +kernel, show (tx [c]).cps.toList = [c] from rfl]
        by_cases h : c < 97
        · rw [decide_eq_true (by simp [List.cons_lt_cons_iff, h]), decide_eq_false (by omega)]; rfl
        · rw [decide_eq_false (by simp [List.cons_lt_cons_iff, h]), decide_eq_true (by omega)]; rfl
      have e2 : (!decide ((Str.ofString "z").cps.toList < (tx [c]).cps.toList)) = decide (c ≤ 122) := by
        rw [show (Str.ofString "z").cps.toList = [122] by decide +kernel, show (tx [c]).cps.toList = [c] from rfl]
        by_cases h : 122 < c
        · rw [decide_eq_true (by simp [List.cons_lt_cons_iff, h]), decide_eq_false (by omega)]; rfl
        · rw [decide_eq_false (by simp [List.cons_lt_cons_iff, h]), decide_eq_true (by omega)]; rfl
      rw [e1]
      have q : Q (.bl (decide (97 ≤ c) && decide (c ≤ 122))) H := q
      by_cases h : 97 ≤ c
      · rw [decide_eq_true h] at q ⊢
        refine iteT ⟨_, _, rfl, rfl, ?_⟩
        rw [e2]
        exact q
      · rw [decide_eq_false h] at q ⊢
        exact iteF q
end
/-! ### is_letter, is_node -/
def isN : PyData → Bool
  | .tuple [_, m, _] => letD m
  | _ => false
def spAsk (f : PyData → Bool) : Sp := fun vs H Q _ => ∃ (v : V) (D : Deck) (d : PyData), vs = [v] ∧ DQ D H v d ∧ gd d = true ∧ Q (.bl (f d)) H
section
variable {P : Program} {w : World} {K : PySem.W.Frag} {mg : Str → Option Value} {base : Heap} {f fL : Addr} {fd fdL : FuncData}
theorem ok_nodeV {k : Nat} (F : Fun K "is_node" "is_node" s_is_node f fd) (M : Mgs mg) (Dis_letter : Df P w K mg base (k + 1) "is_letter" ["value"] spLowX) : FnOk P w K mg base CX0 (k + 2) f fd ["value"] (spAsk isN) := by
  refine F.ok sc_is_node (fun vs H Q E h => ?_) (fun cdv A outer s H vs Q E hr h => ?_)
  · obtain ⟨v, D, d, rfl, _⟩ := h
    rfl
  obtain ⟨v, D, d, rfl, hd, g, q⟩ := h
  refine ⟨_, (pss_one (ps_ret (pe_and (pe_callB call_isi rfl M.isinstance (by decide +kernel) (pa_cons (pv 0) (pa_cons (pe_bltn (v := .ty "tuple") rfl M.tuple (by decide +kernel) rfl) pa_nil))) (pe_and (pe_cmpR op_eq (pe_callB call_len_seq rfl M.len PySem.boot_len (pa_cons (pv 0) pa_nil)) pe_int (nomark _)) (pe_one (pe_call Dis_letter.ok (hr.mono (by omega)) rfl Dis_letter.g Dis_letter.kp Dis_letter.b .nil pass0 (pa_cons (pe_ix ix_tup (pv 0) pe_int (fun _ _ => rfl)) pa_nil))))))), ?_⟩
  refine ⟨_, rfl, _, _, _, _, isTupD d, rfl, .ty _, dq_ty hd, kit_ty (kit_tup d), _, rfl, ?_⟩
  cases hd with
  | @tup a xs ds o e al =>
    refine iteT ?_
    have hl := dqAll_len al
    refine ⟨_, rfl, a, xs, rfl, .inr (SqT.of e), rfl, _, rfl, ite2 (fun c => ?_) (fun c => ?_)⟩
    · have c' : (xs.length : Int) = 3 := V.int.inj (of_decide_eq_true c)
      cases al with
      | nil => exact absurd c' (by show ¬ (0 : Int) = 3; omega)
      | cons d1 al =>
      cases al with
      | nil => exact absurd c' (by show ¬ (1 : Int) = 3; omega)
      | cons d2 al =>
      cases al with
      | nil => exact absurd c' (by show ¬ (2 : Int) = 3; omega)
      | cons d3 al =>
      cases al with
      | cons _ _ => exact absurd c' (by simp; omega)
      | nil =>
        simp only [gd, gds, Bool.and_eq_true] at g
        exact ⟨_, rfl, a, _, 1, _, rfl, rfl, SqT.of e, atI_nat (j := 1) rfl, _, D, _, rfl, d2, g.2.1, q⟩
    · have c' : ¬ (xs.length : Int) = 3 := fun z => c (decide_eq_true (congrArg V.int z))
      have e2 : isN (.tuple ds) = false := by
        match ds, hl with
        | [], _ => rfl
        | [_], _ => rfl
        | [_, _], _ => rfl
        | [_, _, _], hl => exact absurd hl (by intro z; exact c' (by rw [z]; rfl))
        | _ :: _ :: _ :: _ :: _, _ => rfl
      rw [e2] at q
      exact q
  | non => exact iteF q
  | bl b => exact iteF q
  | int i => exact iteF q
  | lst _ _ _ => exact iteF q
  | str _ => exact iteF q
  | emp _ _ => exact iteF q
  | ent _ _ => exact iteF q
end
def keepV : V → List V
  | .non => []
  | v => [v]
theorem keep_step {xs : List V} {j : Nat} {x : V} (h : xs[j]? = some x) : (xs.take (j + 1)).flatMap keepV = (xs.take j).flatMap keepV ++ keepV x := by
  rw [List.take_add_one, h, List.flatMap_append]
  congr 1
  show keepV x ++ [] = keepV x
  rw [List.append_nil]
theorem keep_len : ∀ xs : List V, (xs.flatMap keepV).length ≤ xs.length
  | [] => Nat.le_refl _
  | x :: xs => by
    have h := keep_len xs
    have h1 : (keepV x).length ≤ 1 := by cases x <;> first | exact Nat.zero_le _ | exact Nat.le_refl _
    rw [List.flatMap_cons, List.length_append, List.length_cons]
    omega
def toGo (σ : L2.St) : Nat := match σ[1]? with
  | some (some (V.int c)) => (13 - c).toNat
  | _ => 0
/-! ### how many nodes -/
def cntD : PyData → Int
  | .none => 0
  | .tuple [l, m, r] => if letD m = true ∧ 0 ≤ cntD l ∧ 0 ≤ cntD r then cntD l + 1 + cntD r else -1
  | _ => -1
theorem cnt_tup (l m r : PyData) : cntD (.tuple [l, m, r]) = if letD m = true ∧ 0 ≤ cntD l ∧ 0 ≤ cntD r then cntD l + 1 + cntD r else -1 := by
  rw [cntD]
theorem cnt_not {d : PyData} (h : isN d = false) : cntD d ≤ 0 := by
  match d, h with
  | .none, _ => rw [cntD]; exact Int.le_refl _
  | .tuple [l, m, r], h =>
    have h' : letD m = false := h
    rw [cnt_tup, if_neg (by rw [h']; exact fun z => Bool.false_ne_true z.1)]
    decide
  | .tuple [], _ => rw [cntD] <;> first | decide | (intros; simp_all)
  | .tuple [_], _ => rw [cntD] <;> first | decide | (intros; simp_all)
  | .tuple [_, _], _ => rw [cntD] <;> first | decide | (intros; simp_all)
  | .tuple (_ :: _ :: _ :: _ :: _), _ => rw [cntD] <;> first | decide | (intros; simp_all)
  | .bool _, _ => rw [cntD] <;> first | decide | (intros; simp_all)
  | .int _, _ => rw [cntD] <;> first | decide | (intros; simp_all)
  | .str _, _ => rw [cntD] <;> first | decide | (intros; simp_all)
  | .list _, _ => rw [cntD] <;> first | decide | (intros; simp_all)
  | .dict _, _ => rw [cntD] <;> first | decide | (intros; simp_all)
theorem cnt_none : cntD .none = 0 := by rw [cntD]
theorem cnt_pos {d : PyData} (h : d ≠ .none) (h0 : 0 ≤ cntD d) : 0 < cntD d := by
  cases hN : isN d with
  | true =>
    match d, hN with
    | .tuple [l, m, r], _ =>
      rw [cnt_tup] at h0 ⊢
      split
      · rename_i z
        omega
      · rename_i z
        rw [if_neg z] at h0
        exact absurd h0 (by decide)
  | false =>
    have h1 := cnt_not hN
    have h2 : cntD d = 0 := by omega
    exfalso
    match d, hN, h with
    | .none, _, h => exact h rfl
    | .tuple [l, m, r], hN, _ =>
      have h' : letD m = false := hN
      rw [cnt_tup, if_neg (by rw [h']; exact fun z => Bool.false_ne_true z.1)] at h2
      exact absurd h2 (by decide)
    | .tuple [], _, _ => rw [cntD] at h2 <;> first | exact absurd h2 (by decide) | (intros; simp_all)
    | .tuple [_], _, _ => rw [cntD] at h2 <;> first | exact absurd h2 (by decide) | (intros; simp_all)
    | .tuple [_, _], _, _ => rw [cntD] at h2 <;> first | exact absurd h2 (by decide) | (intros; simp_all)
    | .tuple (_ :: _ :: _ :: _ :: _), _, _ => rw [cntD] at h2 <;> first | exact absurd h2 (by decide) | (intros; simp_all)
    | .bool _, _, _ => rw [cntD] at h2 <;> first | exact absurd h2 (by decide) | (intros; simp_all)
    | .int _, _, _ => rw [cntD] at h2 <;> first | exact absurd h2 (by decide) | (intros; simp_all)
    | .str _, _, _ => rw [cntD] at h2 <;> first | exact absurd h2 (by decide) | (intros; simp_all)
    | .list _, _, _ => rw [cntD] at h2 <;> first | exact absurd h2 (by decide) | (intros; simp_all)
    | .dict _, _, _ => rw [cntD] at h2 <;> first | exact absurd h2 (by decide) | (intros; simp_all)
def isTr (d : PyData) : Bool := decide (0 < cntD d ∧ cntD d < 13)
/-- all of them are trees, and there are few nodes -/
def okW (ws : List PyData) (c : Nat) : Prop := (∀ d ∈ ws, 0 < cntD d) ∧ (c : Int) + (ws.map cntD).sum ≤ 12
theorem sum_pos : ∀ ws : List PyData, (∀ d ∈ ws, 0 < cntD d) → 0 ≤ (ws.map cntD).sum
  | [], _ => Int.le_refl _
  | d :: ws, h => by
    have h1 := h d (List.mem_cons_self ..)
    have h2 := sum_pos ws fun e he => h e (List.mem_cons_of_mem _ he)
    rw [List.map_cons, List.sum_cons]
    omega
theorem okW_app {ws : List PyData} {p : PyData} {c : Nat} : okW (ws ++ [p]) c ↔ (∀ d ∈ ws, 0 < cntD d) ∧ 0 < cntD p ∧ (c : Int) + (ws.map cntD).sum + cntD p ≤ 12 := by
  unfold okW
  rw [List.map_append, List.sum_append]
  constructor
  · rintro ⟨h1, h2⟩
    have h2' : (c : Int) + ((ws.map cntD).sum + (cntD p + 0)) ≤ 12 := h2
    exact ⟨fun d hd => h1 d (List.mem_append_left _ hd), h1 p (List.mem_append_right _ (List.mem_singleton.mpr rfl)), by omega⟩
  · rintro ⟨h1, h2, h3⟩
    refine ⟨fun d hd => ?_, ?_⟩
    · rcases List.mem_append.mp hd with z | z
      · exact h1 d z
      · rw [List.mem_singleton.mp z]
        exact h2
    · show (c : Int) + ((ws.map cntD).sum + (cntD p + 0)) ≤ 12
      omega
def keepD : PyData → List PyData
  | .none => []
  | d => [d]
theorem keepD_or (d : PyData) : (d = .none ∧ keepD d = []) ∨ (d ≠ .none ∧ keepD d = [d]) := by
  cases d <;> first | exact .inl ⟨rfl, rfl⟩ | exact .inr ⟨by simp, rfl⟩
theorem okW_node {ws : List PyData} {l m r : PyData} {c : Nat} (hm : letD m = true) : okW (ws ++ (keepD l ++ keepD r)) (c + 1) ↔ okW (ws ++ [.tuple [l, m, r]]) c := by
  rw [okW_app, cnt_tup]
  have side : ∀ x : PyData, (∀ d ∈ keepD x, 0 < cntD d) ↔ 0 ≤ cntD x := by
    intro x
    rcases keepD_or x with ⟨rfl, e⟩ | ⟨hx, e⟩
    · rw [e, cnt_none]
      exact ⟨fun _ => Int.le_refl _, fun _ d hd => nomatch hd⟩
    · rw [e]
      exact ⟨fun h => Int.le_of_lt (h x (List.mem_singleton.mpr rfl)), fun h d hd => by rw [List.mem_singleton.mp hd]; exact cnt_pos hx h⟩
  have sums : ∀ x : PyData, ((keepD x).map cntD).sum = cntD x := by
    intro x
    rcases keepD_or x with ⟨rfl, e⟩ | ⟨hx, e⟩
    · rw [e, cnt_none]
      rfl
    · rw [e]
      show cntD x + 0 = cntD x
      omega
  unfold okW
  rw [List.map_append, List.sum_append, List.map_append, List.sum_append, sums, sums]
  constructor
  · rintro ⟨h1, h2⟩
    have hl := (side l).mp fun d hd => h1 d (List.mem_append_right _ (List.mem_append_left _ hd))
    have hr := (side r).mp fun d hd => h1 d (List.mem_append_right _ (List.mem_append_right _ hd))
    rw [if_pos ⟨hm, hl, hr⟩]
    exact ⟨fun d hd => h1 d (List.mem_append_left _ hd), by omega, by omega⟩
  · rintro ⟨h1, h2, h3⟩
    by_cases z : letD m = true ∧ 0 ≤ cntD l ∧ 0 ≤ cntD r
    · rw [if_pos z] at h2 h3
      refine ⟨fun d hd => ?_, by omega⟩
      rcases List.mem_append.mp hd with y | y
      · exact h1 d y
      · rcases List.mem_append.mp y with y | y
        · exact (side l).mpr z.2.1 d y
        · exact (side r).mpr z.2.2 d y
    · rw [if_neg z] at h2
      exact absurd h2 (by decide)
/-! ### is_tree -/
def spIsTreeX : Sp := fun vs H Q _ => ∃ (v : V) (D : Deck) (d : PyData), vs = [v] ∧ DQ D H v d ∧ gd d = true ∧ ∀ H', Same H H' → Q (.bl (isTr d)) H'
theorem dq_keep {D : Deck} {H : Hp} {v : V} {d : PyData} (h : DQ D H v d) : DQAll D H (keepV v) (keepD d) := by
  cases h with
  | non => exact .nil
  | bl b => exact .cons (.bl b) .nil
  | int i => exact .cons (.int i) .nil
  | str x => exact .cons (.str x) .nil
  | lst o e a => exact .cons (.lst o e a) .nil
  | tup o e a => exact .cons (.tup o e a) .nil
  | emp o e => exact .cons (.emp o e) .nil
  | ent o e => exact .cons (.ent o e) .nil
theorem gds_keep {d : PyData} (h : gd d = true) : gds (keepD d) = true := by
  rcases keepD_or d with ⟨_, e⟩ | ⟨_, e⟩
  · rw [e]; simp only [gds]
  · rw [e]; simp only [gds, h, Bool.and_self]
theorem dqAll_last {D : Deck} {H : Hp} {vs : List V} {ds : List PyData} (h : DQAll D H vs ds) (hne : vs ≠ []) : ∃ v d ds', vs[vs.length - 1]? = some v ∧ ds = ds' ++ [d] ∧ DQ D H v d ∧ DQAll D H vs.dropLast ds' := by
  match vs, ds, h with
  | [], _, _ => exact absurd rfl hne
  | [v], _, .cons h1 .nil => exact ⟨v, _, [], rfl, rfl, h1, .nil⟩
  | v :: w :: vs, _, .cons (d := d) h1 h2 =>
    obtain ⟨x, e, ds', a1, a2, a3, a4⟩ := dqAll_last h2 (by simp)
    refine ⟨x, e, d :: ds', ?_, by rw [a2]; rfl, a3, .cons h1 a4⟩
    show (w :: vs)[(w :: vs).length - 1]? = some x
    exact a1
section
variable {P : Program} {w : World} {K : PySem.W.Frag} {mg : Str → Option Value} {base : Heap} {f fN : Addr} {fd fdN : FuncData}
theorem ok_isTreeX {tM : Tok} (F : Fun K "is_tree" "is_tree" s_is_tree f fd) (mMAX : mg "MAX_NODES" = some (.int 12 tM)) (Dis_node : Df P w K mg base 2 "is_node" ["value"] (spAsk isN)) : FnOk P w K mg base CX0 3 f fd ["value"] spIsTreeX := by
  refine F.ok sc_is_tree (fun vs H Q E h => ?_) (fun cdv A outer s H vs Q E hr h => ?_)
  · obtain ⟨v, D, d, rfl, _⟩ := h
    rfl
  obtain ⟨v, D, d, rfl, hd, g, q⟩ := h
  refine ⟨_, (pss_cons (ps_set (i := 1) sc_is_tree.nd rfl (.inl rfl) pe_int)
    (pss_cons (ps_set (i := 2) sc_is_tree.nd rfl (.inl rfl) (pe_lst (pa_cons (pv 0) pa_nil)))
    (pss_cons (ps_while PassesOwn.never (pt_truth (pv 2) (by intro _; rfl))
      (pss_cons (ps_set (i := 3) sc_is_tree.nd rfl (.inl rfl) (pe_bm0 PySem.F.plainAttrs_list PySem.F.slot_list_pop PySem.F.type_list_pop mt_pop (pv 2)))
    (pss_cons (ps_aug (i := 1) sc_is_tree.nd rfl (.inl rfl) pe_int ip_add)
    (pss_cons (ps_if (PW.pt (pw_or (pt_cmpR op_gt (pv 1) (pe_glob (v := .int _) rfl mMAX ⟨_, rfl⟩) (nomark _)) (pw_or1 (pt_not (pt_val (pe_call Dis_node.ok (hr.mono (by omega)) rfl Dis_node.g Dis_node.kp Dis_node.b .nil pass0 (pa_cons (pv 3) pa_nil)))))))
      (pss_one (ps_ret pe_bl)) pss_nil)
    (pss_one (ps_expr (pe_bm PySem.F.plainAttrs_list PySem.F.slot_list_extend PySem.F.type_list_extend mt_extend (pv 2) (pa_cons (pe_lc (own := [("side", 4)]) (g := gName 4) rfl sc_is_tree.nd (pi_tup (pe_tup (pa_cons (pe_ix ix_tup (pv 3) pe_int (fun _ _ => rfl)) (pa_cons (pe_ix ix_tup (pv 3) pe_int (fun _ _ => rfl)) pa_nil)))) (blkOk_by (N := ["value", "count", "waiting", "part", "side"]) (sc := defScope s_is_tree) (by decide +kernel)) (fun _ _ _ _ _ => (pg_name (i := 4) sc_is_tree.nd rfl (.inl rfl))) (fun _ _ _ _ _ => pts_one (pt_cmpR op_notN (pv 4) pe_non (nomark _))) (fun _ _ _ _ _ => (pv 4))) pa_nil))))))))
    (pss_one (ps_ret pe_bl))))), ?_⟩
  refine ⟨_, rfl, (by show 1 ≤ sizeLine; decide), fun wa nw => ?_⟩
  have q0 := same_new nw (.lst [v])
  refine while_by (c := fun σ H' Q' => tVar 2 σ H' fun x H2 => ∃ k, TruV K x H2 k ∧ Q' k H2) (fun σ H' => ∃ (c : Nat) (y3 : Option V) (ws : List V) (ds : List PyData), σ = [some v, some (.int (c : Int)), some (.ref wa), y3, none] ∧ Same H H' ∧ H' wa = some (.lst ws) ∧ DQAll D H ws ds ∧ gds ds = true ∧ c ≤ 12 ∧ ws.length ≤ 2 * c + 1 ∧ (isTr d = true ↔ okW ds c))
    (fun σ _ => toGo σ)
    ?_ (fun σ H' hp => ?_) ?_
  · refine ⟨0, none, [v], [d], rfl, q0, upd_same, .cons hd .nil, by simp only [gds, g, Bool.and_self], by omega, by show 1 ≤ 1; omega, ?_⟩
    unfold isTr okW
    rw [decide_eq_true_eq]
    constructor
    · rintro ⟨h1, h2⟩
      refine ⟨fun e he => by rw [List.mem_singleton.mp he]; exact h1, ?_⟩
      show ((0 : Nat) : Int) + (cntD d + 0) ≤ 12
      omega
    · rintro ⟨h1, h2⟩
      have h3 := h1 d (List.mem_singleton.mpr rfl)
      have h2' : ((0 : Nat) : Int) + (cntD d + 0) ≤ 12 := h2
      exact ⟨h3, by omega⟩
  · obtain ⟨c, y3, ws, ds, rfl, sm, ew, al, gw, hc, hl, hT⟩ := hp
    refine ⟨_, rfl, !ws.isEmpty, .inl ⟨ws, SqL.of ew, rfl⟩, ?_⟩
    cases ws with
    | nil =>
      refine iteF ?_
      cases al
      have t : isTr d = true := hT.mpr ⟨(fun _ z => nomatch z), (by show (c : Int) + 0 ≤ 12; omega)⟩
      have := q H' sm
      rw [t] at this
      exact this
    | cons w0 ws0 =>
      refine iteT ?_
      obtain ⟨p, dp, ds', ep, rfl, hp, al'⟩ := dqAll_last al (by simp)
      rw [gds_app, Bool.and_eq_true] at gw
      have gp : gd dp = true := by
        have := gw.2
        simp only [gds, Bool.and_true] at this
        exact this
      refine ⟨.ref wa, rfl, .inl ⟨rfl, _, SqL.of ew⟩, wa, _, p, rfl, rfl, ew, ep, ?_⟩
      refine ⟨_, rfl, _, _, rfl, rfl, ?_⟩
      have sm2 : Same H (upd H' wa (.lst (w0 :: ws0).dropLast)) := fun b o z => by
        rw [upd_ne (ne_of_none z nw)]
        exact sm _ _ z
      have ew2 : (upd H' wa (.lst (w0 :: ws0).dropLast)) wa = some (.lst (w0 :: ws0).dropLast) := upd_same
      generalize upd H' wa (.lst (w0 :: ws0).dropLast) = H2 at sm2 ew2 ⊢
      refine ⟨_, rfl, _, _, rfl, rfl, _, rfl, ite2 (fun e => ?_) (fun e => ?_)⟩
      · have e' : (c : Int) + 1 > 12 := of_decide_eq_true e
        have t : isTr d = false := by
          rw [Bool.eq_false_iff]
          intro z
          obtain ⟨h1, h2, h3⟩ := okW_app.mp (hT.mp z)
          have := sum_pos ds' h1
          omega
        have := q H2 sm2
        rw [t] at this
        exact iteT this
      · have e' : ¬ (c : Int) + 1 > 12 := of_decide_eq_false (Bool.eq_false_iff.mpr e)
        refine ⟨_, rfl, p, D, dp, rfl, dq_same sm2 hp, gp, _, rfl, ?_⟩
        cases hN : isN dp with
        | false =>
          refine iteT ?_
          have t : isTr d = false := by
            rw [Bool.eq_false_iff]
            intro z
            obtain ⟨h1, h2, h3⟩ := okW_app.mp (hT.mp z)
            have := cnt_not hN
            omega
          have := q H2 sm2
          rw [t] at this
          exact this
        | true =>
          refine iteF ?_
          obtain ⟨dl, dm, dr, rfl⟩ : ∃ dl dm dr, dp = .tuple [dl, dm, dr] := by
            match dp, hN with
            | .tuple [l, m, r], _ => exact ⟨l, m, r, rfl⟩
          cases hp with
          | @tup a _ _ o e3 al3 =>
          cases al3 with
          | @cons vl _ _ _ hl' al3 =>
          cases al3 with
          | @cons vm _ _ _ hm' al3 =>
          cases al3 with
          | @cons vr _ _ _ hr' al3 =>
          cases al3 with
          | nil =>
            have hm : letD dm = true := hN
            have e3' := sm2 _ _ e3
            refine ⟨.ref wa, rfl, .inl ⟨rfl, _, SqL.of ew2⟩, _, rfl, a, _, 0, vl, rfl, rfl, SqT.of e3', atI_nat (j := 0) rfl, _, rfl, a, _, 2, vr, rfl, rfl, SqT.of e3', atI_nat (j := 2) rfl, (by show 2 ≤ sizeLine; decide), fun tp ntp => ?_⟩
            have q6 := same_new ntp (.tup [vl, vr])
            refine ⟨tp, rfl, ⟨_, SqT.of upd_same⟩, fun L nL => ?_⟩
            have q7 := same_new nL (.lst [])
            refine lc_tup (K := K) (a := tp) (xs := [vl, vr]) (fun j H'' => Same (upd H2 tp (.tup [vl, vr])) H'' ∧ H'' L = some (.lst ((([vl, vr] : List V).take j).flatMap keepV))) ⟨q7, upd_same⟩ (fun j H'' _ hp => SqT.of (hp.1 _ _ upd_same)) (fun j x H'' hx hp => ?_) (fun H'' hp => ?_)
            · obtain ⟨s7, eL⟩ := hp
              refine ⟨rfl, _, rfl, rfl, _, rfl, ?_⟩
              by_cases hxn : x = .non
              · refine iteNS hxn ⟨s7, ?_⟩
                rw [keep_step hx, hxn]
                show _ = some (HO.lst (_ ++ []))
                rw [List.append_nil]
                exact eL
              · rw [decide_eq_false hxn]
                refine iteT ⟨x, rfl, _, eL, ?_, fun b o z => ?_, ?_⟩
                · have := keep_len (([vl, vr] : List V).take j)
                  have h2 : (([vl, vr] : List V).take j).length ≤ 2 := by rw [List.length_take]; exact Nat.min_le_right _ _
                  exact small1000 (by omega)
                · rw [upd_ne (ne_of_none z nL)]
                  exact s7 _ _ z
                · rw [upd_same, keep_step hx]
                  cases x <;> first | rfl | exact absurd rfl hxn
            · obtain ⟨s7, eL⟩ := hp
              have s8 : Same H2 H'' := q6.trans s7
              have eL' : H'' L = some (.lst (keepV vl ++ keepV vr)) := by
                rw [eL]
                show some (HO.lst (keepV vl ++ (keepV vr ++ []))) = _
                rw [List.append_nil]
              have k1 : (keepV vl).length ≤ 1 := by cases vl <;> first | exact Nat.zero_le _ | exact Nat.le_refl _
              have k2 : (keepV vr).length ≤ 1 := by cases vr <;> first | exact Nat.zero_le _ | exact Nat.le_refl _
              have dl' : (w0 :: ws0).dropLast.length = ws0.length := by rw [List.length_dropLast]; rfl
              have hl2 : ws0.length + 1 ≤ 2 * c + 1 := hl
              refine ⟨wa, L, _, _, rfl, rfl, s8 _ _ ew2, eL', ?_, ?_⟩
              · rw [List.length_append, dl']
                exact small (by omega)
              simp only [gd, gds, Bool.and_true, Bool.and_eq_true] at gp
              refine ⟨⟨c + 1, some (.ref a), _, ds' ++ (keepD dl ++ keepD dr), rfl, fun b o z => ?_, upd_same, dqAll_app al' (dqAll_app (dq_keep hl') (dq_keep hr')), ?_, by omega, ?_, ?_⟩, ?_⟩
              · rw [upd_ne (ne_of_none z nw)]
                exact s8 _ _ (sm2 _ _ z)
              · rw [gds_app, gds_app, gw.1, gds_keep gp.1, gds_keep gp.2.2]
                rfl
              · rw [List.length_append, List.length_append, dl']
                omega
              · exact hT.trans (okW_node hm).symm
              · show (13 - ((c : Int) + 1)).toNat < (13 - (c : Int)).toNat
                omega
  · intro σ H' Q1 Q2 hQ h
    obtain ⟨v', e, k', t, q'⟩ := h
    exact ⟨v', e, k', t, hQ _ _ q'⟩
end
/-! ### trees among values; is_link -/
def toB : PyData → B
  | .tuple [l, .str x, r] => .node (toB l) (x.cps.toList.headD 0) (toB r)
  | _ => .nil
theorem toB_ok : ∀ d : PyData, 0 ≤ cntD d → (toB d).data = d ∧ ((toB d).size : Int) = cntD d ∧ ltB (toB d)
  | .none, _ => by
    refine ⟨?_, ?_, ?_⟩
    · simp only [toB, B.data]
    · simp only [toB, cntD]; rfl
    · simp only [toB]; exact fun c hc => nomatch hc
  | .tuple [l, m, r], h => by
    rw [cnt_tup] at h ⊢
    by_cases z : letD m = true ∧ 0 ≤ cntD l ∧ 0 ≤ cntD r
    · rw [if_pos z]
      obtain ⟨c, rfl, hc⟩ := letD_of z.1
      obtain ⟨a1, a2, a3⟩ := toB_ok l z.2.1
      obtain ⟨b1, b2, b3⟩ := toB_ok r z.2.2
      have e : toB (.tuple [l, .str (ch c), r]) = .node (toB l) c (toB r) := by rw [toB]; rfl
      rw [e]
      refine ⟨?_, ?_, ?_⟩
      · simp only [B.data, a1, b1]
      · show (((toB l).size + 1 + (toB r).size : Nat) : Int) = _
        omega
      · intro k hk
        rcases List.mem_cons.mp hk with rfl | hk
        · simp only [isLow, Bool.and_eq_true, decide_eq_true_eq] at hc
          exact hc
        · rcases List.mem_append.mp hk with hk | hk
          · exact a3 k hk
          · exact b3 k hk
    · rw [if_neg z] at h
      omega
  | .tuple [], h => by simp [cntD] at h
  | .tuple [_], h => by simp [cntD] at h
  | .tuple [_, _], h => by simp [cntD] at h
  | .tuple (_ :: _ :: _ :: _ :: _), h => by simp [cntD] at h
  | .bool _, h => by simp [cntD] at h
  | .int _, h => by simp [cntD] at h
  | .str _, h => by simp [cntD] at h
  | .list _, h => by simp [cntD] at h
  | .dict _, h => by simp [cntD] at h
theorem dq_bat {D : Deck} {H : Hp} : ∀ (t : B) (v : V), DQ D H v t.data → BAt H v t
  | .nil, v, h => by
    simp only [B.data] at h
    cases h
    exact .nil
  | .node l x r, v, h => by
    simp only [B.data] at h
    cases h with
    | tup o e al =>
      cases al with
      | cons h1 al =>
      cases al with
      | cons h2 al =>
      cases al with
      | cons h3 al =>
      cases al
      cases h2
      exact .node e (dq_bat l _ h1) (dq_bat r _ h3)
theorem isTr_tree {d : PyData} (h : isTr d = true) : (toB d).data = d ∧ 1 ≤ (toB d).size ∧ (toB d).size ≤ 12 ∧ ltB (toB d) := by
  unfold isTr at h
  rw [decide_eq_true_eq] at h
  obtain ⟨a, b, c⟩ := toB_ok d (by omega)
  exact ⟨a, by omega, by omega, c⟩
theorem isTr_bat {D : Deck} {H : Hp} {v : V} {d : PyData} (h : isTr d = true) (hd : DQ D H v d) : BAt H v (toB d) := dq_bat _ _ (by rw [(isTr_tree h).1]; exact hd)
theorem iteC {c : Bool} {A B : Prop} (h : c = true) (a : A) : if c = true then A else B := by rw [if_pos h]; exact a
/-- a link that fits the tree, before the entry n -/
def lkB (t : B) (n : Nat) : PyData → Bool
  | .tuple [a, b] => decide (pathTo t a = some .nil) && isIx b 0 ((n : Int) - 1)
  | _ => false
def spLink : Sp := fun vs H Q _ => ∃ (v tv : V) (D : Deck) (d : PyData) (t : B) (n : Nat), vs = [v, tv, vn n] ∧ DQ D H v d ∧ BAt H tv t ∧ ∀ H', Same H H' → Q (.bl (lkB t n d)) H'
section
variable {P : Program} {w : World} {K : PySem.W.Frag} {mg : Str → Option Value} {base : Heap} {f : Addr} {fd : FuncData}
theorem ok_link (F : Fun K "is_link" "is_link" s_is_link f fd) (M : Mgs mg) (Dis_open : Df P w K mg base 3 "is_open" ["tree", "path"] spOpenX) (Dis_index : Df P w K mg base 2 "is_index" ["value", "many"] spIndexQ) : FnOk P w K mg base CX0 4 f fd ["value", "tree", "entries"] spLink := by
  refine F.ok (k := 3) sc_is_link (fun vs H Q E h => ?_) (fun cdv A outer s H vs Q E hr h => ?_)
  · obtain ⟨v, tv, D, d, t, n, rfl, _⟩ := h
    rfl
  obtain ⟨v, tv, D, d, t, n, rfl, hd, ht, q⟩ := h
  refine ⟨_, (pss_cons (ps_if (PW.pt (pw_or (pt_not (pt_val (pe_callB call_isi rfl M.isinstance (by decide +kernel) (pa_cons (pv 0) (pa_cons (pe_bltn (v := .ty "tuple") rfl M.tuple (by decide +kernel) rfl) pa_nil))))) (pw_or1 (pt_cmpR op_ne (pe_callB call_len_seq rfl M.len PySem.boot_len (pa_cons (pv 0) pa_nil)) pe_int (nomark _)))))
      (pss_one (ps_ret pe_bl)) pss_nil)
    (pss_one (ps_ret (pe_and (pe_call Dis_open.ok (hr.mono (by omega)) rfl Dis_open.g Dis_open.kp Dis_open.b .nil pass0 (pa_cons (pv 1) (pa_cons (pe_ix ix_tup (pv 0) pe_int (fun _ _ => rfl)) pa_nil))) (pe_one (pe_call Dis_index.ok (hr.mono (by omega)) rfl Dis_index.g Dis_index.kp Dis_index.b .nil pass0 (pa_cons (pe_ix ix_tup (pv 0) pe_int (fun _ _ => rfl)) (pa_cons (pv 2) pa_nil)))))))), ?_⟩
  refine ⟨_, rfl, _, _, _, _, isTupD d, rfl, .ty _, dq_ty hd, kit_ty (kit_tup d), _, rfl, ?_⟩
  cases hd with
  | @tup a xs ds o e al =>
    refine iteF ?_
    have hl := dqAll_len al
    refine ⟨_, rfl, a, xs, rfl, .inr (SqT.of e), rfl, _, rfl, ?_⟩
    by_cases h2 : xs.length = 2
    · match xs, ds, h2, al with
      | [x1, x2], [y1, y2], _, .cons g1 (.cons g2 .nil) =>
      refine iteF ?_
      refine ⟨_, rfl, _, rfl, a, _, 0, x1, rfl, rfl, SqT.of e, atI_nat (j := 0) rfl, tv, x1, t, D, y1, rfl, ht, g1, fun b H1 hb s1 => ?_⟩
      have hb2 : decide (pathTo t y1 = some .nil) = b := by
        cases b with
        | true => exact decide_eq_true (hb.mp rfl)
        | false => exact decide_eq_false fun z => by have := hb.mpr z; cases this
      have q : ∀ H', Same H H' → Q (.bl (b && isIx y2 0 ((n : Int) - 1))) H' := by
        intro H' s'
        have := q H' s'
        have e2 : lkB t n (.tuple [y1, y2]) = (decide (pathTo t y1 = some .nil) && isIx y2 0 ((n : Int) - 1)) := rfl
        rw [e2, hb2] at this
        exact this
      refine ⟨_, rfl, ?_⟩
      cases b with
      | false => exact iteF (q H1 s1)
      | true =>
        refine iteT ?_
        exact ⟨_, rfl, a, _, 1, x2, rfl, rfl, SqT.of (s1 _ _ e), atI_nat (j := 1) rfl, _, rfl, x2, D, y2, _, rfl, dq_same s1 g2, q H1 s1⟩
    · have c : (!decide (V.int ((xs.length : Nat) : Int) = V.int 2)) = true := by
        rw [decide_eq_false fun z => h2 (by have := V.int.inj z; omega)]; rfl
      have no : lkB t n (.tuple ds) = false := by
        match ds, hl with
        | [], _ => rfl
        | [_], _ => rfl
        | [_, _], hl => exact absurd hl h2
        | _ :: _ :: _ :: _, _ => rfl
      have := q H (Same.refl H)
      rw [no] at this
      exact iteC c this
  | non => exact iteT (q H (Same.refl H))
  | bl b => exact iteT (q H (Same.refl H))
  | int i => exact iteT (q H (Same.refl H))
  | lst _ _ _ => exact iteT (q H (Same.refl H))
  | str _ => exact iteT (q H (Same.refl H))
  | emp _ _ => exact iteT (q H (Same.refl H))
  | ent _ _ => exact iteT (q H (Same.refl H))
end
/-! ### is_ascending of a list of texts -/
def asc (zs : List Str) : Bool := ((zs.zip (zs.drop 1)).map fun q => decide (q.1.cps.toList < q.2.cps.toList)).all id
def spAsc : Sp := fun vs H Q _ => ∃ (a : Addr) (zs : List Str), vs = [.ref a] ∧ H a = some (.lst (zs.map V.str)) ∧ zs.length ≤ 500000 ∧ ∀ H', Same H H' → Q (.bl (asc zs)) H'
theorem cut_from1 (xs : List V) : cutV xs (some 1) none = xs.drop 1 := by
  unfold cutV
  rw [show (1 : Int) = ((1 : Nat) : Int) from rfl, HT.sIx_nat, HT.sIx_none]
  by_cases h : 1 ≤ xs.length
  · rw [Nat.min_eq_left h, List.take_of_length_le (by rw [List.length_drop]; omega)]
  · rw [Nat.min_eq_right (by omega), List.drop_eq_nil_of_le (Nat.le_refl _), List.drop_eq_nil_of_le (by omega), List.take_nil]
section
variable {P : Program} {w : World} {K : PySem.W.Frag} {mg : Str → Option Value} {base : Heap} {f : Addr} {fd : FuncData}
theorem ok_asc {k : Nat} (F : Fun K "is_ascending" "is_ascending" s_is_ascending f fd) (M : Mgs mg) : FnOk P w K mg base CX0 (k + 1) f fd ["items"] spAsc := by
  refine F.ok sc_is_ascending (fun vs H Q E h => ?_) (fun cdv A outer s H vs Q E hr h => ?_)
  · obtain ⟨a, zs, rfl, _⟩ := h
    rfl
  refine ⟨_, (pss_one (ps_ret (pe_callB (cr_all rfl) rfl M.all (by decide +kernel) (pa_cons (pe_lc (own := [("one", 1), ("other", 2)]) (g := gTup K 2 (gCons (gName 1) (gCons (gName 2) gNil))) (tt := tYes) rfl sc_is_ascending.nd (pi_zip rfl M.zip (pa_cons (pv 0) (pa_cons (pe_slice sl_list (pv 0) (po_some pe_int) po_none) pa_nil))) (blkOk_by (N := ["items", "one", "other"]) (sc := defScope s_is_ascending) (by decide +kernel)) (fun _ _ _ _ _ => (pg_tup rfl (pgs_cons (pg_name (i := 1) sc_is_ascending.nd rfl (.inl rfl)) (pgs_cons (pg_name (i := 2) sc_is_ascending.nd rfl (.inl rfl)) pgs_nil)))) (fun _ _ _ _ _ => pts_nil) (fun _ _ _ _ _ => (pe_cmpR op_lt_str (pv 1) (pv 2) (nomark _)))) pa_nil)))), ?_⟩
  obtain ⟨a, zs, rfl, ha, hl, q⟩ := h
  refine ⟨_, rfl, _, rfl, 1, rfl, a, _, rfl, SqL.of ha, fun b nb => ?_⟩
  have q0 := same_new nb (.lst (cutV (zs.map V.str) (some 1) none))
  have eb := upd_same (H := H) (a := b) (o := .lst (cutV (zs.map V.str) (some 1) none))
  rw [cut_from1, ← List.map_drop] at q0 eb ⊢
  have ha0 := q0 _ _ ha
  generalize upd H b (.lst ((zs.drop 1).map V.str)) = H0 at q0 eb ha0 ⊢
  refine ⟨a, b, _, _, rfl, SqL.of ha0, SqL.of eb, fun D nD => ?_⟩
  have q1 := same_new nD (.lst [])
  refine lc_it (walk_zip (K := K) (a := a) (b := b) (xs := zs.map V.str) (ys := (zs.drop 1).map V.str) rfl) (fun i H' => Same H0 H' ∧ H' D = some (.lst ((((zs.zip (zs.drop 1)).take i).map fun q => decide (q.1.cps.toList < q.2.cps.toList)).map V.bl))) ⟨q1, upd_same⟩ (fun _ H' _ hp => ⟨SqL.of (hp.1 _ _ ha0), SqL.of (hp.1 _ _ eb)⟩) (fun i x H' H'' hi hp hy => ?_) (fun H' hp => ?_)
  · obtain ⟨sm, ed⟩ := hp
    obtain ⟨p, x1, y1, rfl, np, rfl, hc, hd⟩ := hy
    have hc : (zs.map V.str)[i]? = some x1 := hc
    have hd : ((zs.drop 1).map V.str)[i]? = some y1 := hd
    rw [List.getElem?_map] at hc hd
    obtain ⟨c, hc', rfl⟩ := Option.map_eq_some_iff.mp hc
    obtain ⟨d, hd', rfl⟩ := Option.map_eq_some_iff.mp hd
    have q2 := same_new np (.tup [.str c, .str d])
    have hz : (zs.zip (zs.drop 1))[i]? = some (c, d) := List.getElem?_zip_eq_some.mpr ⟨hc', hd'⟩
    have hi' : i < zs.length := (List.getElem?_eq_some_iff.mp hc').1
    refine ⟨p, _, rfl, SqT.of upd_same, rfl, _, _, rfl, _, _, rfl, rfl, rfl, kept ?_⟩
    refine ⟨_, rfl, _, rfl, _, _, rfl, rfl, _, q2 _ _ ed, ?_, fun b' o e => ?_, ?_⟩
    · rw [List.length_map, List.length_map, List.length_take]; exact Nat.lt_of_le_of_lt (show _ ≤ 500000 by omega) (by decide)
    · rw [upd_ne (ne_of_none e nD)]; exact q2 _ _ (sm _ _ e)
    · rw [upd_same, List.take_succ, hz, List.map_append, List.map_append]
      rfl
  · obtain ⟨sm, ed⟩ := hp
    refine ⟨D, _, rfl, SqL.of ed, ?_⟩
    have e : (zs.zip (zs.drop 1)).take (min (zs.map V.str).length ((zs.drop 1).map V.str).length) = zs.zip (zs.drop 1) := by
      refine List.take_of_length_le ?_
      rw [List.length_zip, List.length_map, List.length_map]
      exact Nat.le_refl _
    rw [e]
    exact q H' (q0.trans sm)
end
/-! ### is_entry -/
def lkP : PyData → Str
  | .tuple [.str x, _] => x
  | _ => Str.empty
def enB2 (n : Nat) (a : PyData) : PyData → Bool
  | .tuple ls => isTr a && ((ls.map (lkB (toB a) n)).all id && asc (ls.map lkP))
  | _ => false
def enB (n : Nat) : PyData → Bool
  | .tuple [a, b] => enB2 n a b
  | _ => false
theorem wts_len : ∀ ds : List PyData, 2 * ds.length ≤ wts ds
  | [] => Nat.zero_le _
  | d :: ds => by
    have := wts_len ds
    simp only [wts, List.length_cons]
    omega
theorem lkB_path {t : B} {n : Nat} {d : PyData} (h : lkB t n d = true) : ∃ x b, d = .tuple [.str x, b] ∧ lkP d = x := by
  unfold lkB at h
  split at h
  · rename_i a b
    rw [Bool.and_eq_true, decide_eq_true_eq] at h
    cases a with
    | str x => exact ⟨x, b, rfl, rfl⟩
    | _ => exact absurd h.1 (by simp [pathTo])
  · cases h
def spEntry : Sp := fun vs H Q _ => ∃ (v : V) (D : Deck) (d : PyData) (n : Nat), vs = [v, vn n] ∧ DQ D H v d ∧ gd d = true ∧ wt d ≤ 1000000 ∧ ∀ H', Same H H' → Q (.bl (enB n d)) H'
section
variable {P : Program} {w : World} {K : PySem.W.Frag} {mg : Str → Option Value} {base : Heap} {f : Addr} {fd : FuncData}
theorem ok_entry (F : Fun K "is_entry" "is_entry" s_is_entry f fd) (M : Mgs mg) (Dis_tree : Df P w K mg base 3 "is_tree" ["value"] spIsTreeX) (Dis_link : Df P w K mg base 4 "is_link" ["value", "tree", "entries"] spLink) (Dis_ascending : Df P w K mg base 1 "is_ascending" ["items"] spAsc) : FnOk P w K mg base CX0 5 f fd ["value", "entries"] spEntry := by
  refine F.ok (k := 4) sc_is_entry (fun vs H Q E h => ?_) (fun cdv A outer s H vs Q E hr h => ?_)
  · obtain ⟨v, D, d, n, rfl, _⟩ := h
    rfl
  obtain ⟨v, D, d, n, rfl, hd, g, hw, q⟩ := h
  refine ⟨_, (pss_cons (ps_if (PW.pt (pw_or (pt_not (pt_val (pe_callB call_isi rfl M.isinstance (by decide +kernel) (pa_cons (pv 0) (pa_cons (pe_bltn (v := .ty "tuple") rfl M.tuple (by decide +kernel) rfl) pa_nil))))) (pw_or1 (pt_cmpR op_ne (pe_callB call_len_seq rfl M.len PySem.boot_len (pa_cons (pv 0) pa_nil)) pe_int (nomark _)))))
      (pss_one (ps_ret pe_bl)) pss_nil)
    (pss_cons (ps_asg (pv 0) (pg_tup rfl (pgs_cons (pg_name (i := 2) sc_is_entry.nd rfl (.inr rfl)) (pgs_cons (pg_name (i := 3) sc_is_entry.nd rfl (.inl rfl)) pgs_nil))))
    (pss_cons (ps_if (PW.pt (pw_or (pt_not (pt_val (pe_call Dis_tree.ok (hr.mono (by omega)) rfl Dis_tree.g Dis_tree.kp Dis_tree.b .nil pass0 (pa_cons (pv 2) pa_nil)))) (pw_or1 (pt_not (pt_val (pe_callB call_isi rfl M.isinstance (by decide +kernel) (pa_cons (pv 3) (pa_cons (pe_bltn (v := .ty "tuple") rfl M.tuple (by decide +kernel) rfl) pa_nil))))))))
      (pss_one (ps_ret pe_bl)) pss_nil)
    (pss_one (ps_ret (pe_and (pe_callB (cr_all rfl) rfl M.all (by decide +kernel) (pa_cons (pe_lc (own := [("link", 4)]) (g := gName 4) (tt := tYes) rfl sc_is_entry.nd (pi_tup (pv 3)) (blkOk_by (N := ["value", "entries", "tree", "links", "link"]) (sc := defScope s_is_entry) (by decide +kernel)) (fun _ _ _ _ _ => (pg_name (i := 4) sc_is_entry.nd rfl (.inl rfl))) (fun _ _ _ _ _ => pts_nil) (fun _ _ _ _ _ => (pe_call Dis_link.ok (hr.mono (by omega)) rfl Dis_link.g Dis_link.kp Dis_link.b .nil pass0 (pa_cons (pv 4) (pa_cons (pv 2) (pa_cons (pv 1) pa_nil)))))) pa_nil)) (pe_one (pe_call Dis_ascending.ok (hr.mono (by omega)) rfl Dis_ascending.g Dis_ascending.kp Dis_ascending.b .nil pass0 (pa_cons (pe_lc (own := [("link", 4)]) (g := gName 4) (tt := tYes) rfl sc_is_entry.nd (pi_tup (pv 3)) (blkOk_by (N := ["value", "entries", "tree", "links", "link"]) (sc := defScope s_is_entry) (by decide +kernel)) (fun _ _ _ _ _ => (pg_name (i := 4) sc_is_entry.nd rfl (.inl rfl))) (fun _ _ _ _ _ => pts_nil) (fun _ _ _ _ _ => (pe_ix (show IxR _ (rIxT K) from ix_tup) (pv 4) pe_int (fun _ _ => rfl)))) pa_nil))))))))), ?_⟩
  refine ⟨_, rfl, _, _, _, _, isTupD d, rfl, .ty _, dq_ty hd, kit_ty (kit_tup d), _, rfl, ?_⟩
  cases hd with
  | @tup a xs ds o e al =>
    refine iteF ?_
    have hl := dqAll_len al
    refine ⟨_, rfl, a, xs, rfl, .inr (SqT.of e), rfl, _, rfl, ?_⟩
    by_cases h2 : xs.length = 2
    · match xs, ds, h2, al with
      | [x1, x2], [y1, y2], _, .cons g1 (.cons g2 .nil) =>
      refine iteF ?_
      simp only [gd, gds, Bool.and_eq_true] at g
      simp only [wt, wts] at hw
      refine ⟨_, rfl, a, _, rfl, SqT.of e, rfl, x1, _, rfl, x2, _, rfl, rfl, ?_⟩
      refine ⟨_, rfl, x1, D, y1, rfl, g1, g.1, fun H1 s1 => ?_⟩
      cases hT : isTr y1 with
      | false =>
        have no : enB n (.tuple [y1, y2]) = false := by
          show enB2 n y1 y2 = false
          cases y2 <;> first | rfl | (show (isTr y1 && _) = false; rw [hT]; rfl)
        have := q H1 s1
        rw [no] at this
        exact ⟨_, rfl, iteT this⟩
      | true =>
        have bt := (isTr_bat hT g1).same s1
        have g2' := dq_same s1 g2
        refine ⟨_, rfl, iteF ⟨_, rfl, _, _, _, _, isTupD y2, rfl, .ty _, dq_ty g2', kit_ty (kit_tup y2), _, rfl, ?_⟩⟩
        cases g2' with
        | @tup la zs ls ol el all =>
          refine iteF ?_
          have hw2 : 3 + wts ls ≤ 1000000 := by have : wt (.tuple ls) ≤ 1000000 := by omega
                                                simpa only [wt] using this
          have hln := wts_len ls
          have hzl := dqAll_len all
          have q' : ∀ H', Same H H' → Q (.bl ((ls.map (lkB (toB y1) n)).all id && asc (ls.map lkP))) H' := fun H' s' => by
            have := q H' s'
            have e2 : enB n (.tuple [y1, .tuple ls]) = (isTr y1 && ((ls.map (lkB (toB y1) n)).all id && asc (ls.map lkP))) := rfl
            rw [e2, hT, Bool.true_and] at this
            exact this
          refine ⟨_, rfl, la, rfl, ⟨_, SqT.of el⟩, fun L nL => ?_⟩
          have kL := same_new nL (.lst [])
          refine lc_tup (K := K) (a := la) (xs := zs) (fun j H'' => Same H1 H'' ∧ H'' L = some (.lst (((ls.take j).map (lkB (toB y1) n)).map V.bl))) ⟨kL, upd_same⟩ (fun j H'' _ hp => SqT.of (hp.1 _ _ el)) (fun j x H'' hx hp => ?_) (fun H'' hp => ?_)
          · obtain ⟨s7, eL⟩ := hp
            obtain ⟨dx, hdx, hq⟩ := dqAll_get all hx
            refine ⟨rfl, kept ⟨_, rfl, _, rfl, _, rfl, x, x1, D, dx, toB y1, n, rfl, dq_same s7 hq, bt.same s7, fun H3 s3 => ?_⟩⟩
            refine ⟨_, s3 _ _ eL, ?_, fun b o e => ?_, ?_⟩
            · rw [List.length_map, List.length_map, List.length_take]
              exact Nat.lt_of_le_of_lt (show _ ≤ 500000 by omega) (by decide)
            · rw [upd_ne (ne_of_none e nL)]
              exact s3 _ _ (s7 _ _ e)
            · rw [upd_same, List.take_succ, hdx, List.map_append, List.map_append]
              rfl
          · obtain ⟨s7, eL⟩ := hp
            rw [hzl, List.take_length] at eL
            have s17 := s1.trans s7
            refine ⟨L, _, rfl, SqL.of eL, ?_⟩
            refine ⟨_, rfl, ?_⟩
            cases hA : (ls.map (lkB (toB y1) n)).all id with
            | false =>
              have := q' H'' s17
              rw [hA] at this
              exact iteF this
            | true =>
              refine iteT ?_
              refine ⟨_, rfl, la, rfl, ⟨_, SqT.of (s7 _ _ el)⟩, fun L2 nL2 => ?_⟩
              have k2 := same_new nL2 (.lst [])
              have el2 := s7 _ _ el
              refine lc_tup (K := K) (a := la) (xs := zs) (fun j H3 => Same H'' H3 ∧ H3 L2 = some (.lst (((ls.take j).map lkP).map V.str))) ⟨k2, upd_same⟩ (fun j H3 _ hp => SqT.of (hp.1 _ _ el2)) (fun j x H3 hx hp => ?_) (fun H3 hp => ?_)
              · obtain ⟨s8, eL2⟩ := hp
                obtain ⟨dx, hdx, hq⟩ := dqAll_get all hx
                have ok : lkB (toB y1) n dx = true := List.all_eq_true.mp hA _ (List.mem_map.mpr ⟨dx, List.mem_of_getElem? hdx, rfl⟩)
                obtain ⟨sx, bx, rfl, hp2⟩ := lkB_path ok
                have hq3 := dq_same (s7.trans s8) hq
                cases hq3 with
                | tup ox ex ax =>
                cases ax with
                | cons a1 ax =>
                cases ax with
                | cons a2 ax =>
                cases ax
                cases a1
                refine ⟨rfl, kept ⟨_, rfl, _, _, 0, _, rfl, rfl, SqT.of ex, atI_nat (j := 0) rfl, ?_⟩⟩
                refine ⟨_, eL2, ?_, fun b o e => ?_, ?_⟩
                · rw [List.length_map, List.length_map, List.length_take]
                  exact Nat.lt_of_le_of_lt (show _ ≤ 500000 by omega) (by decide)
                · rw [upd_ne (ne_of_none e nL2)]
                  exact s8 _ _ e
                · rw [upd_same, List.take_succ, hdx, List.map_append, List.map_append]
                  show _ = some (HO.lst (_ ++ [V.str (lkP (.tuple [.str sx, bx]))]))
                  rw [hp2]
              · obtain ⟨s8, eL2⟩ := hp
                rw [hzl, List.take_length] at eL2
                refine ⟨L2, ls.map lkP, rfl, eL2, by rw [List.length_map]; omega, fun H4 s4 => ?_⟩
                have := q' H4 (s17.trans (s8.trans s4))
                rw [hA, Bool.true_and] at this
                exact this
        | non => exact iteT (q H1 s1)
        | bl b => exact iteT (q H1 s1)
        | int i => exact iteT (q H1 s1)
        | lst _ _ _ => exact iteT (q H1 s1)
        | str _ => exact iteT (q H1 s1)
        | emp _ _ => exact iteT (q H1 s1)
        | ent _ _ => exact iteT (q H1 s1)
    · have c : (!decide (V.int ((xs.length : Nat) : Int) = V.int 2)) = true := by
        rw [decide_eq_false fun z => h2 (by have := V.int.inj z; omega)]; rfl
      have no : enB n (.tuple ds) = false := by
        match ds, hl with
        | [], _ => rfl
        | [_], _ => rfl
        | [_, _], hl => exact absurd hl h2
        | _ :: _ :: _ :: _, _ => rfl
      have := q H (Same.refl H)
      rw [no] at this
      exact iteC c this
  | non => exact iteT (q H (Same.refl H))
  | bl b => exact iteT (q H (Same.refl H))
  | int i => exact iteT (q H (Same.refl H))
  | lst _ _ _ => exact iteT (q H (Same.refl H))
  | str _ => exact iteT (q H (Same.refl H))
  | emp _ _ => exact iteT (q H (Same.refl H))
  | ent _ _ => exact iteT (q H (Same.refl H))
end
end Tw --
/-! ### enumerate of a tuple -/
namespace PySem
open Sem (wp)
open AutoSeq1 (wpAny_loadPart')
set_option maxHeartbeats 1000000 in
theorem meets_enumerate_newB1 {v : Value} {o : Obj} {H : Heap → Prop} (B : Begins v o H) :
    Meets (Builtin.«enumerate.__new__» ⟨[.type "enumerate", v], []⟩) (fun _ R s => H s.heap ∧
      R (.ok (.ret (.ref (s.heap.push o).objs.size))) { s with heap := (s.heap.push o).push { cls := .type "enumerate", data := .fields #[.none, .bool false, .ref s.heap.objs.size, rawInt 0, .none, .none] } }) :=
  .of_wp fun prog w A R s h => by
    obtain ⟨hp, g, d, tk, os⟩ := s; obtain ⟨h1, h⟩ := h
    have hsub := sub_enumerate
    have q1 : ∀ {A' : Around} {E : Value → Shared → Prop} {Q : Value → Shared → Prop}, Q (.ref hp.objs.size) ⟨hp.push o, g, d, tk, os⟩ → wpAny (model prog w) A' (pyIter v) Q E ⟨hp, g, d, tk, os⟩ :=
      fun q => B.iter prog w _ _ ⟨hp, g, d, tk, os⟩ _ h1 q
    wp_walk using q1
    refine wpAny_stack_any fun st => wpAny_pure ?_
    split
    · rename_i c _ _ _ _ _
      cases (c == Value.type "enumerate")
      · wp_walk using q1
        exact ⟨_, rfl, h⟩
      · wp_walk using q1
        exact ⟨_, rfl, h⟩
    · wp_walk using q1
      exact ⟨_, rfl, h⟩
section
variable {prog : Program} {w : World} {A : Around} {E : Value → Shared → Prop} {s : Shared}
theorem enum_begins1 {v : Value} {o : Obj} {H : Heap → Prop} {Q : Value → Shared → Prop} (B : Begins v o H) (h1 : H s.heap)
    (h : ∀ h', IsEnum h' (s.heap.objs.size + 1) s.heap.objs.size 0 .none → h'.get? s.heap.objs.size = some o → h'.objs.size = s.heap.objs.size + 2 →
      (∀ b o, s.heap.get? b = some o → h'.get? b = some o) → Q (.ref (s.heap.objs.size + 1)) { s with heap := h' }) :
    wpAny (model prog w) A (call (.type "enumerate") [v]) Q E s := by
  refine callType_new F.called_enumerate (by decide) (F.typeCall_enumerate_1 _) (F.newCall_enumerate_1 _) (fun obj => F.args_object_init_2 obj _) F.entry_enumerate_new
    (meets_enumerate_newB1 B) ⟨h1, ?_⟩
  have hz : (s.heap.push o).objs.size = s.heap.objs.size + 1 := Heap.size_push ..
  show _ ∧ _
  rw [hz]
  have he : IsEnum ((s.heap.push o).push { cls := .type "enumerate", data := .fields #[.none, .bool false, .ref s.heap.objs.size, rawInt 0, .none, .none] }) (s.heap.objs.size + 1) s.heap.objs.size 0 .none := by
    have := Heap.get?_push_size (s.heap.push o) (o := { cls := .type "enumerate", data := .fields #[.none, .bool false, .ref s.heap.objs.size, rawInt 0, .none, .none] }) rfl
    rw [hz] at this; exact this
  refine ⟨⟨_, he, rfl⟩, h _ he (Heap.get?_push_of_some _ (Heap.get?_push_size _ B.free)) (by rw [Heap.size_push, hz]) fun b o x => Heap.get?_push_of_some _ (Heap.get?_push_of_some _ x)⟩
theorem enumT_end {e it l : Addr} {i : Nat} {items : Array Value} {old : Value} {Q : Option Value → Shared → Prop} (hh : A.handled = none)
    (he : IsEnum s.heap e it i old) (hit : s.heap.IsTupleIter it l i) (hl : s.heap.IsTuple l items) (hx : items[i]? = none)
    (hQ : ∀ h', Heap.ExtBut it s.heap h' → Q none { s with heap := h' }) : wpAny (model prog w) A (pyNext (.ref e)) Q E s := by
  have hT : s.TypeIs (.ref e) "enumerate" := ⟨_, he, rfl⟩
  unfold pyNext
  refine wpAny_bind (wpAny_attempt (wpAny_callSpecial?_slot (name := Str.ofString "__next__") hT F.slot_enumerate_next
    (wpAny_call_entry F.slot_enumerate_next hT F.entry_enumerate_next ?_ (F.args_enumerate_next_1 _))))
  show wpAny _ _ (field (.ref e) 2 >>= _) _ _ _
  refine wpAny_bind (wpAny_field he rfl (x := .ref it) rfl ?_)
  refine wpAny_bind (wpAny_nextOf_tuple_end hh hit hl hx fun h' x he' hx' => ?_)
  obtain ⟨o, ho, hc⟩ := hx'
  refine wpAny_bind (wpAny_isInstance (T := "StopIteration") (b := true) ⟨o, ho, hc⟩ isSubtype_stop ?_)
  exact wpAny_pure (hQ _ he')
end
end PySem
namespace L2
open PySem PySem.Spec PyProof.Rows
/-- the tuple at a, each item in a new pair -/
def IteT (K : PySem.W.Frag) (a : Addr) : It :=
  ⟨fun i H => ∃ (xs : List V) (x : V), SqT K H a xs ∧ xs[i]? = some x, fun i H v H' => ∃ T x, v = .ref T ∧ H T = none ∧ H' = upd H T (.tup [.int (i : Nat), x]) ∧ ∀ xs, SqT K H a xs → xs[i]? = some x, fun i H => ∃ xs : List V, SqT K H a xs ∧ xs.length ≤ i⟩
theorem tup_ne_enum {h : Heap} {a e it : Addr} {i : Int} {old : Value} {items : Array Value} (p : h.IsTuple a items) (he : IsEnum h e it i old) : e ≠ a := fun z => by
  obtain ⟨o, ho, hc, _⟩ := p
  rw [← z, he] at ho
  cases ho
  exact absurd (Value.type.inj hc) (by decide)
theorem tup_ne_iter {h : Heap} {a t it : Addr} {i : Nat} {items : Array Value} (p : h.IsTuple a items) (hi : h.IsTupleIter it t i) : a ≠ it := fun z => by
  obtain ⟨o, ho, hc, _⟩ := p
  obtain ⟨o2, ho2, hc2, _⟩ := hi
  rw [z, ho2] at ho
  cases ho
  rw [hc] at hc2
  exact absurd (Value.type.inj hc2) (by decide)
theorem turn_enumT {P : Program} {w : World} {K : PySem.W.Frag} {elts : List Expr} {kk : Nat} {tpos : Pos} (a e it : Addr) :
    Turn P w K (.Tuple elts kk tpos) (IteT K a) [e, it] e (fun i h => (∃ old, IsEnum h e it ((i : Nat) : Int) old) ∧ h.IsTupleIter it a i ∧ e ≠ it) where
  mem := by simp
  obj := fun i h st b hb => by
    obtain ⟨⟨old, he⟩, ⟨o, ho, hc, hd⟩, _⟩ := st
    have e' : b = e ∨ b = it := by simpa using hb
    rcases e' with z | z
    · rw [z]; exact ⟨_, he, fun v q => nomatch q⟩
    · rw [z]; exact ⟨o, ho, fun v q => by rw [hd] at q; cases q⟩
  keep := fun i h h' st k => let ⟨⟨old, he⟩, hi, hne⟩ := st; ⟨⟨old, k e (by simp) _ he⟩, hi.at fun o q => k it (by simp) o q, hne⟩
  item := by
    intro X hP hw hK hc i pins s σ H E I hf st hg
    subst hP hw hK
    obtain ⟨⟨old, he⟩, hit, hne⟩ := st
    obtain ⟨xs, x, hq, hx⟩ := hg
    obtain ⟨its, rv, p, hz⟩ := I.tuple hq
    obtain ⟨u, hu, ru⟩ := rv.get hx
    have p : s.heap.IsTuple a its.toArray := p
    have hel : e < s.heap.objs.size := Heap.lt_size he
    have hil : it < s.heap.objs.size := by obtain ⟨_, q, _⟩ := hit; exact Heap.lt_size q
    have hlt : i < its.toArray.size := by
      rw [List.size_toArray]
      exact (List.getElem?_eq_some_iff.mp hu).1
    have nea := tup_ne_enum p he
    have nai := tup_ne_iter p hit
    refine wpAny_pyNext_enum_itemD (Draws.tuple (A := X.A.in1) (I.ok.hd hc) it a nai its.toArray) he ⟨hit, p⟩ hlt hne (by simp [hne, nea]) fun y h' tk hP ho hst' hT hsz hk => ?_
    have ey : y = u := by
      have : its[i]? = some y := by simpa using hP
      rw [hu] at this
      exact (Option.some.inj this).symm
    subst ey
    refine ⟨_, rfl, wpAny_letOwnedTupleGo_enum (s := { s with heap := h', toks := tk + 1 }) ho fun h'' he' sb => ?_⟩
    have hT2 : h''.get? s.heap.objs.size = some { cls := .type "tuple", data := .seq #[.int i tk, y] } := (sb.2 _ (Nat.ne_of_gt hel)).trans hT
    have new : ObjOk X.prog X.w (upd H s.heap.objs.size (.tup [.int (i : Nat), x])) h'' s.heap.objs.size (.tup [.int (i : Nat), x]) :=
      ⟨by show 2 ≤ sizeLine; decide, [.int i tk, y], .cons ⟨_, rfl⟩ (.cons ru .nil), ⟨_, hT2, rfl, _, rfl⟩⟩
    have I1 : Inv X pins σ (upd H s.heap.objs.size (.tup [.int (i : Nat), x])) { s with heap := h'', toks := tk + 1 } :=
      I.turnedNew (ch := [e, it]) (fun b ob hb q => (sb.2 b (fun z => hb (by simp [z]))).trans (hk b ob (fun z => hb (by simp [z])) (fun z => hb (by simp [z])) q)) hf (Nat.le_refl _) new
    refine ⟨.ref s.heap.objs.size, _, I1, rfl, ⟨_, x, rfl, I.hok.fresh (Nat.le_refl _), rfl, fun ys hy => by rw [I.tuple_inj hy hq]; exact hx⟩, ⟨⟨y, ?_⟩, hst'.1.at fun o q => (sb.2 it (Ne.symm hne)).trans q, hne⟩, fun b hb => ?_⟩
    · have e1 : ((i + 1 : Nat) : Int) = (i : Int) + 1 := by omega
      rw [e1]; exact he'
    · have hb' : b < s.heap.objs.size := by
        have e' : b = e ∨ b = it := by simpa using hb
        rcases e' with z | z
        · rw [z]; exact hel
        · rw [z]; exact hil
      rw [upd_ne (Nat.ne_of_lt hb')]
      exact (hf b hb).1
  done := by
    intro X hP hw hK hc i pins s σ H E I hf st hg
    subst hP hw hK
    obtain ⟨⟨old, he⟩, hit, hne⟩ := st
    obtain ⟨xs, hq, hx⟩ := hg
    obtain ⟨its, rv, p, hz⟩ := I.tuple hq
    obtain ⟨f0, f1, f2, f3, f4, f5⟩ := hf it (by simp)
    have hl := rv.length
    have p : s.heap.IsTuple a its.toArray := p
    have nai := tup_ne_iter p hit
    exact enumT_end (I.ok.hd hc) he hit p (by simp; omega) fun h' eb => ⟨rfl, I.turned (t' := s.toks) (fun b o hb q => eb b o hb q) f0 f1 f3 f4 f5⟩
  self := fun A i s Q E st h => let ⟨⟨_, he⟩, _⟩ := st; wpAny_pyIter_enum he h
def iEnumT (K : PySem.W.Frag) (ta : TA) : TI := fun σ H R => ta σ H fun vs H1 => ∃ a xs, vs = [.ref a] ∧ SqT K H1 a xs ∧ R (IteT K a) H1
theorem pi_enumT {X : Cx} {e : Expr} {ta : TA} {p pos tpos : Pos} {elts : List Expr} {kk : Nat} (hg : Gl X "enumerate") (hm : X.mg "enumerate" = none) (ha : PA X [e] ta) (hs : starEach [e] X.env = [(false, eval e X.env)] := by rfl) :
    PI X (.Tuple elts kk tpos) (.Call (.Name "enumerate" p) [e] [] pos) (iEnumT X.K ta) := by
  refine ⟨fun pins s σ H R I h => ?_⟩
  refine Call_ (ld_blt I hg hm boot_enumerate (PyProof.Rows.callWith_type1 (thn (ha.run pos pins s σ H _ I h) fun us s1 ⟨vs, H1, I1, r1, q1⟩ => ?_) hs rfl))
  obtain ⟨a, xs, ex, hq, q⟩ := q1
  subst ex
  cases r1 with
  | cons r rr =>
    cases rr
    cases r
    obtain ⟨its, rv, p', hz⟩ := I1.tuple hq
    refine enum_begins1 (begins_tuple a its.toArray) (show s1.heap.IsTuple a its.toArray from p') fun h' he hit hsz hk => wpAny_pyIter_enum he ?_
    have I2 : Inv X pins σ H1 { s1 with heap := h' } := I1.kept (t' := s1.toks) hk
    refine ⟨s1.heap.objs.size + 1, [s1.heap.objs.size + 1, s1.heap.objs.size], _, _, H1, rfl, I2, turn_enumT a (s1.heap.objs.size + 1) s1.heap.objs.size, ⟨⟨.none, he⟩, ⟨_, hit, rfl, rfl⟩, Nat.succ_ne_self _⟩, fun b hb => ?_, q⟩
    have e' : b = s1.heap.objs.size + 1 ∨ b = s1.heap.objs.size := by simpa using hb
    have hle : s1.heap.objs.size ≤ b := by
      rcases e' with z | z
      · rw [z]; exact Nat.le_add_right _ _
      · rw [z]; exact Nat.le_refl _
    exact I1.fpOk hle (I1.hok.fresh hle)
/-- a for over enumerate(tuple) in a generator: an invariant by the turn -/
theorem walk_enumT {K : PySem.W.Frag} {a : Addr} {xs : List V} : Walk (IteT K a) xs.length (fun H => SqT K H a xs) (YPair (fun i => some (.int (i : Nat))) (fun i => xs[i]?)) := by
  refine ⟨fun i H hi q => ⟨xs, xs[i], q, by simp [hi]⟩, fun H q => ⟨xs, q, Nat.le_refl _⟩, fun i H v H' hi q y => ?_⟩
  obtain ⟨T, x', e1, hT, e2, y⟩ := y
  exact ⟨T, _, _, e1, hT, e2, rfl, y xs q⟩
end L2
namespace Tw
open PySem PySem.Spec PyProof.Rows L2
/-! ### is_nest -/
def nestB : PyData → Bool
  | .tuple es => decide (1 ≤ es.length) && (decide (es.length ≤ 20) && ((es.zipIdx.map fun x => enB x.2 x.1)).all id)
  | _ => false
def spNestQ : Sp := fun vs H Q _ => ∃ (v : V) (D : Deck) (d : PyData), vs = [v] ∧ DQ D H v d ∧ gd d = true ∧ wt d ≤ 1000000 ∧ ∀ H', Same H H' → Q (.bl (nestB d)) H'
theorem gds_get : ∀ {ds : List PyData} {i : Nat} {d : PyData}, gds ds = true → ds[i]? = some d → gd d = true
  | [], _, _, _, h => by simp at h
  | x :: xs, 0, _, g, h => by
    cases h
    simp only [gds, Bool.and_eq_true] at g
    exact g.1
  | x :: xs, i + 1, _, g, h => by
    simp only [gds, Bool.and_eq_true] at g
    exact gds_get (i := i) g.2 h
theorem wts_get : ∀ {ds : List PyData} {i : Nat} {d : PyData}, ds[i]? = some d → wt d ≤ wts ds
  | [], _, _, h => by simp at h
  | x :: xs, 0, _, h => by
    cases h
    simp only [wts]
    omega
  | x :: xs, i + 1, _, h => by
    have := wts_get (i := i) (show xs[i]? = _ from h)
    simp only [wts]
    omega
section
variable {P : Program} {w : World} {K : PySem.W.Frag} {mg : Str → Option Value} {base : Heap} {f : Addr} {fd : FuncData}
theorem ok_nestQ {tE : Tok} (F : Fun K "is_nest" "is_nest" s_is_nest f fd) (M : Mgs mg) (mEn : mg "enumerate" = none) (mENT : mg "MAX_ENTRIES" = some (.int 20 tE)) (Dis_entry : Df P w K mg base 5 "is_entry" ["value", "entries"] spEntry) : FnOk P w K mg base CX0 6 f fd ["value"] spNestQ := by
  refine F.ok (k := 5) sc_is_nest (fun vs H Q E h => ?_) (fun cdv A outer s H vs Q E hr h => ?_)
  · obtain ⟨v, D, d, rfl, _⟩ := h
    rfl
  obtain ⟨v, D, d, rfl, hd, g, hw, q⟩ := h
  refine ⟨_, (pss_cons (ps_if (PW.pt (pw_or (pt_not (pt_val (pe_callB call_isi rfl M.isinstance (by decide +kernel) (pa_cons (pv 0) (pa_cons (pe_bltn (v := .ty "tuple") rfl M.tuple (by decide +kernel) rfl) pa_nil))))) (pw_or1 (pt_not (pt_chain op_le op_le pe_int (pe_callB call_len_seq rfl M.len PySem.boot_len (pa_cons (pv 0) pa_nil)) (pe_glob (v := .int _) rfl mENT ⟨_, rfl⟩))))))
      (pss_one (ps_ret pe_bl)) pss_nil)
    (pss_one (ps_ret (pe_callB (cr_all rfl) rfl M.all (by decide +kernel) (pa_cons (pe_lc (own := [("at", 1), ("entry", 2)]) (g := gTup K 2 (gCons (gName 1) (gCons (gName 2) gNil))) (tt := tYes) rfl sc_is_nest.nd (pi_enumT rfl mEn (pa_cons (pv 0) pa_nil)) (blkOk_by (N := ["value", "at", "entry"]) (sc := defScope s_is_nest) (by decide +kernel)) (fun _ _ _ _ _ => (pg_tup rfl (pgs_cons (pg_name (i := 1) sc_is_nest.nd rfl (.inl rfl)) (pgs_cons (pg_name (i := 2) sc_is_nest.nd rfl (.inl rfl)) pgs_nil)))) (fun _ _ _ _ _ => pts_nil) (fun _ _ _ _ _ => (pe_call Dis_entry.ok (hr.mono (by omega)) rfl Dis_entry.g Dis_entry.kp Dis_entry.b .nil pass0 (pa_cons (pv 2) (pa_cons (pv 1) pa_nil))))) pa_nil))))), ?_⟩
  refine ⟨_, rfl, _, _, _, _, isTupD d, rfl, .ty _, dq_ty hd, kit_ty (kit_tup d), _, rfl, ?_⟩
  cases hd with
  | @tup a xs ds o e al =>
    refine iteF ?_
    have hl := dqAll_len al
    simp only [gd] at g
    simp only [wt] at hw
    have no : (decide (1 ≤ ds.length) && decide (ds.length ≤ 20)) = false → nestB (.tuple ds) = false := fun z => by
      show (decide (1 ≤ ds.length) && (decide (ds.length ≤ 20) && _)) = false
      rw [← Bool.and_assoc, z]
      rfl
    refine ⟨_, rfl, a, xs, rfl, .inr (SqT.of e), _, _, rfl, rfl, _, rfl, ?_⟩
    by_cases h1 : 1 ≤ xs.length
    · rw [decide_eq_true (show (1 : Int) ≤ ((xs.length : Nat) : Int) by omega)]
      refine iteT ⟨_, _, rfl, rfl, _, rfl, ?_⟩
      by_cases h2 : xs.length ≤ 20
      · rw [decide_eq_true (show ((xs.length : Nat) : Int) ≤ 20 by omega)]
        refine iteF ?_
        refine ⟨_, rfl, a, xs, rfl, SqT.of e, fun L nL => ?_⟩
        have kL := same_new nL (.lst [])
        refine lc_it (walk_enumT (K := K) (a := a) (xs := xs)) (fun j H'' => Same H H'' ∧ H'' L = some (.lst (((ds.zipIdx.take j).map fun x => enB x.2 x.1).map V.bl))) ⟨kL, upd_same⟩ (fun _ H'' _ hp => SqT.of (hp.1 _ _ e)) (fun i v H' H'' hi hp hy => ?_) (fun H'' hp => ?_)
        · obtain ⟨s7, eL⟩ := hp
          obtain ⟨T, x1, y1, rfl, nT, rfl, hx, hy⟩ := hy
          cases hx
          have hy : xs[i]? = some y1 := hy
          obtain ⟨dx, hdx, hq⟩ := dqAll_get al hy
          have k2 := same_new nT (.tup [.int (i : Nat), y1])
          have wx := wts_get hdx
          have hz : ds.zipIdx[i]? = some (dx, i) := by rw [List.getElem?_zipIdx, hdx]; simp
          refine ⟨T, _, rfl, SqT.of upd_same, rfl, _, _, rfl, _, _, rfl, rfl, rfl, kept ?_⟩
          refine ⟨_, rfl, _, rfl, y1, D, dx, i, rfl, dq_same (s7.trans k2) hq, gds_get g hdx, by omega, fun H3 s3 => ?_⟩
          refine ⟨_, s3 _ _ (k2 _ _ eL), ?_, fun b o e => ?_, ?_⟩
          · rw [List.length_map, List.length_map, List.length_take, List.length_zipIdx]
            exact small1000 (by omega)
          · rw [upd_ne (ne_of_none e nL)]
            exact s3 _ _ (k2 _ _ (s7 _ _ e))
          · rw [upd_same, List.take_succ, hz, List.map_append, List.map_append]
            rfl
        · obtain ⟨s7, eL⟩ := hp
          rw [List.take_of_length_le (by rw [List.length_zipIdx]; omega)] at eL
          refine ⟨L, _, rfl, SqL.of eL, ?_⟩
          have := q H'' s7
          have e2 : nestB (.tuple ds) = (decide (1 ≤ ds.length) && (decide (ds.length ≤ 20) && ((ds.zipIdx.map fun x => enB x.2 x.1)).all id)) := rfl
          rw [e2, decide_eq_true (show 1 ≤ ds.length by omega), decide_eq_true (show ds.length ≤ 20 by omega), Bool.true_and, Bool.true_and] at this
          exact this
      · rw [decide_eq_false (show ¬ ((xs.length : Nat) : Int) ≤ 20 by omega)]
        have := q H (Same.refl H)
        rw [no (by rw [decide_eq_false (show ¬ ds.length ≤ 20 by omega), Bool.and_false])] at this
        exact iteT this
    · rw [decide_eq_false (show ¬ (1 : Int) ≤ ((xs.length : Nat) : Int) by omega)]
      have := q H (Same.refl H)
      rw [no (by rw [decide_eq_false (show ¬ 1 ≤ ds.length by omega)]; rfl)] at this
      exact iteF ⟨_, rfl, iteT this⟩
  | non => exact iteT (q H (Same.refl H))
  | bl b => exact iteT (q H (Same.refl H))
  | int i => exact iteT (q H (Same.refl H))
  | lst _ _ _ => exact iteT (q H (Same.refl H))
  | str _ => exact iteT (q H (Same.refl H))
  | emp _ _ => exact iteT (q H (Same.refl H))
  | ent _ _ => exact iteT (q H (Same.refl H))
end
/-! ### a property R of the state that every run keeps (here: a token is out), known wherever a body begins -/
structure Stays (R : Shared → Prop) : Prop where
  on : ∀ {α : Type} {t : Sem α} {M : Model} {A : Around} {P P' : α → Shared → Prop} {E E' : Value → Shared → Prop} {s : Shared}, R s → wpAny M A t P E s → (∀ a z, R z → P a z → P' a z) → (∀ e z, E e z → E' e z) → wpAny M A t P' E' s
  hp : ∀ {s : Shared} {h : Heap}, R s → R { s with heap := h }
def Tk (s : Shared) : Prop := 1 ≤ s.toks
theorem tk_stays : Stays Tk where
  on := fun {α t M A P P' E E' s} r w f g => wpAny_mono (PySem.wpAny_toks_of (n := 1) r w) (fun a z q => f a z q.1 q.2) fun e z q => g e z q.2
  hp := fun r => r
section
variable {R : Shared → Prop} {X Y : Cx}
theorem Stays.then (SR : Stays R) {α : Type} {t : Sem α} {M : Model} {A : Around} {P P' : α → Shared → Prop} {E : Value → Shared → Prop} {s : Shared} (r : R s) (w : wpAny M A t P E s) (f : ∀ a z, R z → P a z → P' a z) : wpAny M A t P' E s := SR.on r w f fun _ _ z => z
theorem Stays.calm (SR : Stays R) {α : Type} {t : Sem α} {M : Model} {A : Around} {P P' : α → Shared → Prop} {E : Value → Shared → Prop} {s : Shared} (r : R s) (w : wpAny M A t P (fun _ _ => False) s) (f : ∀ a z, R z → P a z → P' a z) : wpAny M A t P' E s := SR.on r w f fun _ _ z => z.elim
/-- an expression's rule where R is known at its start; PET is the one of Tk -/
def PER (R : Shared → Prop) (X : Cx) (e : Expr) (t : TE) : Prop :=
  ∀ (pins : List (Addr × Obj)) (s : Shared) (σ : L2.St) (H : Hp) (Q : VK), R s → Inv X pins σ H s → t σ H Q → wpAny (model X.prog X.w) X.A (eval e X.env) (EP X pins σ Q) X.xe s
/-- what a walk leaves of an item: the next names and heap, or the end -/
def Left (Y : Cx) (R : Shared → Prop) (σb : L2.St) (fp : List Addr) (tn : Nat → Heap → Prop) (W : Nat → Nat → Hp → Prop) (m : Nat) (z : Shared) : Prop :=
  R z ∧ ∃ (i : Nat) (G : Hp), Inv Y [] σb G z ∧ tn i z.heap ∧ (∀ b ∈ fp, G b = none) ∧ W i m G
/-- the block's loop, run in the block's own context Y up to its end -/
theorem blk_loop (SR : Stays R) {σb : L2.St} {vs : List Nat} {elt tg iter : Expr} {ifs : List Expr} {scope : Scope} {pos : Pos} {it D : Addr} {J : It} {fp : List Addr} {tn : Nat → Heap → Prop} {W : Nat → Nat → Hp → Prop} {Z : Hp → Prop} {g : TG} {tt : TT} {te : TE}
    (calm : Y.calm = true) (xe : Y.xe = fun _ _ => False) (T : Turn Y.prog Y.w Y.K tg J fp it tn) (own : ∀ {σ' : L2.St} {G : Hp} {z : Shared}, Inv Y [] σ' G z → (∀ b ∈ fp, G b = none) → ∀ b ∈ fp, FpOk Y [] G b)
    (pg : PG Y tg g) (pt : PTs Y ifs tt) (pe : PER R Y elt te)
    (turn : ∀ i m G, W i m G → (J.stop i G ∧ Z G) ∨ (J.go i G ∧ ∃ Nx : Hp → Prop, (∀ G', Nx G' → ∃ m', m' < m ∧ W (i + 1) m' G') ∧ ∀ x G', J.yld i G x G' → g x σb G' fun σ2 G2 => wipe σ2 vs = σb ∧ tt σ2 G2 fun b G3 =>
      if b = true then te σ2 G3 fun y G4 => ∃ acc, G4 D = some (.lst acc) ∧ acc.length < sizeLine ∧ Nx (upd G4 D (.lst (acc ++ [y]))) else Nx G3))
    {m0 : Nat} {s : Shared} (start : Left Y R σb fp tn W m0 s) :
    codeAny (model Y.prog Y.w) Y.A (.compLoop (.ListComp elt [⟨tg, iter, ifs, 0⟩] scope pos) 0 (.ref it) (.ref D) Y.env) (fun r z => r = .ok .next ∧ R z ∧ ∃ G, Inv Y [] σb G z ∧ Z G) s := by
  refine compLoop_any (Left Y R σb fp tn W) (fun m z st => ?_) m0 start
  obtain ⟨rz, i, G, I, hn, hf, hw⟩ := st
  rcases turn i m G hw with ⟨hs, hz⟩ | ⟨hgo, Nx, less, item⟩
  · refine SR.calm rz (T.done Y rfl rfl rfl calm i [] z σb G (fun _ _ => False) I (own I hf) hn hs) fun a z1 r1 q => ?_
    obtain ⟨rfl, I1⟩ := q
    exact ⟨rfl, r1, G, I1, hz⟩
  refine SR.calm rz (T.item Y rfl rfl rfl calm i [] z σb G (fun _ _ => False) I (own I hf) hn hgo) fun a z1 r1 q1 => ?_
  obtain ⟨u, rfl, q1⟩ := q1
  refine SR.calm r1 q1 fun _ z2 r2 q2 => ?_
  obtain ⟨x, G2, I2, rx, yx, n2, f2⟩ := q2
  have P2 := I2.pinned (own I2 f2) (T.obj _ _ n2)
  -- behind the item all that the iterator is made of stands as it stood
  have next : ∀ {σ3 : L2.St} {G3 : Hp} {z3 : Shared}, wipe σ3 vs = σb → R z3 → Inv Y ([] ++ pinsAt fp z2.heap) σ3 G3 z3 → Nx G3 → ∃ m', m' < m ∧ Left Y R σb fp tn W m' z3 := by
    intro σ3 G3 z3 w3 r3 I3 x3
    obtain ⟨m', lt, w'⟩ := less G3 x3
    have at3 : ∀ b ∈ fp, ∀ o, z2.heap.get? b = some o → z3.heap.get? b = some o ∧ G3 b = none := by
      intro b hb o e
      have := I3.pin (b, o) (List.mem_append_right _ (by rw [List.nil_append]; exact mem_pinsAt hb e))
      exact ⟨this.1, this.2.1⟩
    have bare : Inv Y [] σ3 G3 z3 := Inv.unpinned (pins := []) I3
    refine ⟨m', lt, r3, i + 1, G3, bare.weak (by rw [← w3, wipe_length]) ?_, T.keep _ _ _ n2 fun b hb o e => (at3 b hb o e).1, ?_, w'⟩
    · intro j v e
      rw [← w3] at e
      exact (wipe_some e).1
    · intro b hb
      obtain ⟨o, e, _⟩ := T.obj _ _ n2 b hb
      exact (at3 b hb o e).2
  have pg' := pg.run _ z2 _ G2 x u _ P2 rx (item x G2 yx)
  rw [xe] at pg'
  refine SR.calm r2 pg' fun _ z4 r4 q4 => ?_
  obtain ⟨σ4, G4, I4, w4, q4⟩ := q4
  have pt' := pt.run _ z4 σ4 G4 _ I4 q4
  rw [xe] at pt'
  refine SR.calm r4 pt' fun b z5 r5 q5 => ?_
  obtain ⟨G5, I5, q5⟩ := q5
  match b, q5 with
  | false, q5 => exact next w4 r5 I5 q5
  | true, q5 =>
    have pe' := pe _ z5 σ4 G5 _ r5 I5 q5
    rw [xe] at pe'
    refine SR.calm r5 pe' fun v z6 r6 q6 => ?_
    obtain ⟨y, G6, I6, ry, acc, eD, lD, x6⟩ := q6
    refine SR.calm r6 (app_ok (X := Y) (Q := fun _ z => Inv Y ([] ++ pinsAt fp z2.heap) σ4 (upd G6 D (.lst (acc ++ [y]))) z) I6 eD lD ry fun _ J => J) fun _ z7 r7 I7 => next w4 r7 I7 x6
/-- the rules for a block's parts, in whatever context the block is run -/
structure BlkR (R : Shared → Prop) (X : Cx) (scope : Scope) (tg : Expr) (ifs : List Expr) (elt : Expr) (g : TG) (tt : TT) (te : TE) : Prop where
  tgt : ∀ z G C cl fp, PG (X.blk z G scope (compEnvC scope cl C X.env) fp) tg g
  tst : ∀ z G C cl fp, PTs (X.blk z G scope (compEnvC scope cl C X.env) fp) ifs tt
  item : ∀ z G C cl fp, PER R (X.blk z G scope (compEnvC scope cl C X.env) fp) elt te
/-- from the block's start to what the def goes on with -/
theorem blk_run (SR : Stays R) {pins : List (Addr × Obj)} {σ : L2.St} {own : List (Str × Nat)} {elt tg iter : Expr} {ifs : List Expr} {scope : Scope} {pos : Pos} {it L : Addr} {J : It} {fp : List Addr} {tn : Nat → Heap → Prop} {W : Nat → Nat → Hp → Prop} {Z : Hp → Prop}
    {g : TG} {tt : TT} {te : TE} {P : Result → Shared → Prop} {z : Shared} {G : Hp} {m0 : Nat} (calm : X.calm = true) (hN : X.N.Nodup) (ok : BlkOk X.N X.env.scope scope own) (B : BlkR R X scope tg ifs elt g tt te)
    (rz : R z) (I : Inv X pins σ G z) (T : Turn X.prog X.w X.K tg J fp it tn) (hn : tn 0 z.heap) (hf : ∀ b ∈ fp, FpOk X pins G b ∧ b < z.heap.objs.size) (w0 : W 0 m0 G)
    (turn : ∀ i m G, W i m G → (J.stop i G ∧ Z G) ∨ (J.go i G ∧ ∃ Nx : Hp → Prop, (∀ G', Nx G' → ∃ m', m' < m ∧ W (i + 1) m' G') ∧ ∀ x G', J.yld i G x G' → g x (wipe σ (own.map (·.2))) G' fun σ2 G2 => wipe σ2 (own.map (·.2)) = wipe σ (own.map (·.2)) ∧ tt σ2 G2 fun b G3 =>
      if b = true then te σ2 G3 fun y G4 => ∃ acc, G4 L = some (.lst acc) ∧ acc.length < sizeLine ∧ Nx (upd G4 L (.lst (acc ++ [y]))) else Nx G3))
    (fin : ∀ z' m G', Inv X pins σ G' z' → Z G' → z'.heap.Ns z.heap.objs.size m → FpOk X pins G' z.heap.objs.size → P (.ok .next) z') :
    codeAny (model X.prog X.w) X.A (.compStart (.ListComp elt [⟨tg, iter, ifs, 0⟩] scope pos) 0 (.ref it) (.ref L) (compEnvC scope (cellsFrom (z.heap.objs.size + 1) scope.names (cloFrom X.env.cells scope.names [])) z.heap.objs.size X.env)) P
      { z with heap := pushCells (z.heap.push { cls := .type "dict", data := .dict #[] }) scope.names } := by
  have J0 := block_start I ok hN hf
  have n0 : tn 0 (pushCells (z.heap.push { cls := .type "dict", data := .dict #[] }) scope.names) := T.keep 0 _ _ hn fun b _ o e => pushCells_keeps _ _ _ _ (Heap.get?_push_of_some _ e)
  have go := blk_loop (Y := X.blk z G scope (compEnvC scope (cellsFrom (z.heap.objs.size + 1) scope.names (cloFrom X.env.cells scope.names [])) z.heap.objs.size X.env) fp) (iter := iter) (pos := pos) (scope := scope) (Z := Z) (it := it) (D := L) SR calm rfl T
    (fun {σ' G' z'} K e b hb => ⟨e b hb, (K.ok.exf b hb).1, K.ok.exfs b hb, .inl hb, (K.ok.exf b hb).2, fun p hp => by cases hp⟩) (B.tgt _ _ _ _ _) (B.tst _ _ _ _ _) (B.item _ _ _ _ _) turn (m0 := m0) ⟨SR.hp rz, 0, G, J0, n0, fun b hb => (hf b hb).1.1, w0⟩
  have all := codeAny_mono go fun r z' q => by
    obtain ⟨rfl, _, G', K, hz⟩ := q
    have back : Inv X pins σ G' z' := I.call' (ch := fp) K.os K.base K.hok K.bare fun b hb => by
      obtain ⟨⟨_, a1, _, a3, a4, a5⟩, _⟩ := hf b hb
      exact ⟨a3, a1, a4, a5⟩
    obtain ⟨m, ns, _⟩ := K.loc
    exact fin z' m G' back hz ns (I.fpOk (Nat.le_refl _) K.free)
  exact codeAny_compStart_list all (T.self X.A 0 _ _ _ n0 all)
theorem lcR (SR : Stays R) {pins : List (Addr × Obj)} {s : Shared} {σ : L2.St} {H : Hp} {Q : VK} {elt tg iter : Expr} {ifs : List Expr} {scope : Scope} {own : List (Str × Nat)} {pos first : Pos} {wi : TI} {g : TG} {tt : TT} {te : TE} {use : Option (Value → Sem Unit)} {Qf : Value → Shared → Prop}
    (r0 : R s) (calm : X.calm = true) (hN : X.N.Nodup) (I : Inv X pins σ H s) (hi : PI X tg iter wi) (ok : BlkOk X.N X.env.scope scope own) (B : BlkR R X scope tg ifs elt g tt te) (hs : ∀ x, foldedSetIterable iter X.env x = pure x) (h : tLc wi g tt te (own.map (·.2)) σ H Q)
    (fin : ∀ L C z m G, Inv X pins σ G z → Q (.ref L) G → z.heap.Ns C m → FpOk X pins G C → compPost (model X.prog X.w) X.A X.xe use Qf (.ref L) C (.ok .next) z) :
    wpAny (model X.prog X.w) X.A (comprehension (.ListComp elt [⟨tg, iter, ifs, 0⟩] scope pos) scope X.env first (newList []) false (eval iter X.env) use) Qf X.xe s := by
  have hcl := closure_ok (env := X.env) (scope := scope) fun y hy e => I.ok.has _ (by
    rcases ok.free y hy e with a | a
    · exact Or.inl a
    · exact Or.inr a)
  have names : ∀ y ∈ scope.names, y.2 = .local → scope.names.lookup y.1 = some .local := fun y hy e => (ok.uniq y hy).trans (congrArg some e)
  refine wpAny_comprehension_free rfl hs hcl ok.kind names (SR.then r0 (hi.run pins s σ H _ I h) fun _ _ r1 q1 => SR.then r1 q1 fun _ s2 r2 q2 => ?_)
  obtain ⟨it, fp, tn, J, G, rfl, I2, T, n2, f2, q⟩ := q2
  have fresh : G s2.heap.objs.size = none := I2.hok.fresh (Nat.le_refl _)
  obtain ⟨W, ⟨m0, w0⟩, turn⟩ := q _ fresh
  have lt : ∀ b ∈ fp, b < s2.heap.objs.size := fun b hb => by
    obtain ⟨o, e, _⟩ := T.obj 0 _ n2 b hb
    exact Heap.lt_size e
  have I3 : Inv X pins σ (upd G s2.heap.objs.size (.lst [])) { s2 with heap := s2.heap.push { cls := .type "list", data := .seq #[] } } :=
    I2.laid (t' := s2.toks) (fun _ _ e => Heap.get?_push_of_some _ e) (Nat.le_refl _) ⟨Nat.zero_le _, [], 0, .nil, Heap.get?_push_size _ rfl⟩
  refine wpAny_newObj_type (newEnv_comp (blk_run SR calm hN ok B (SR.hp r2) I3 T (T.keep 0 _ _ n2 fun _ _ _ e => Heap.get?_push_of_some _ e) (fun b hb => ⟨⟨?_, (f2 b hb).2⟩, ?_⟩) w0 turn fun z' m G' K hq ns hC => fin _ _ z' m G' K hq ns hC)) (show 0 ≤ sizeLine by decide)
  · rw [upd_ne (Nat.ne_of_lt (lt b hb))]
    exact (f2 b hb).1
  · show b < (s2.heap.push _).objs.size
    rw [Heap.size_push]
    exact Nat.lt_succ_of_lt (lt b hb)
/-- name = [..] -/
theorem psR_setLc (SR : Stays R) {i : Nat} {y : Str} {py : Pos} {elt tg iter : Expr} {ifs : List Expr} {scope : Scope} {own : List (Str × Nat)} {pos spos : Pos} {wi : TI} {g : TG} {tt : TT} {te : TE} {pins : List (Addr × Obj)} {s : Shared} {σ : L2.St} {H : Hp} {D : Ends} (r0 : R s)
    (calm : X.calm = true) (hN : X.N.Nodup) (hy : X.N[i]? = some y) (loc : X.env.scope.names.lookup y = some .local) (sw : swapsWith (.ListComp elt [⟨tg, iter, ifs, 0⟩] scope pos) (some (.Name y py)) spos.line X.env = pure true) (hi : PI X tg iter wi) (ok : BlkOk X.N X.env.scope scope own)
    (B : BlkR R X scope tg ifs elt g tt te) (hs : ∀ x, foldedSetIterable iter X.env x = pure x) (I : Inv X pins σ H s) (h : tAsg (tLc wi g tt te (own.map (·.2))) (gName i) D σ H) :
    wpAny (model X.prog X.w) X.A (exec (.Assign [.Name y py] (.ListComp elt [⟨tg, iter, ifs, 0⟩] scope pos) spos) X.env) (SP X pins D) X.xe s := by
  have core := lcR (first := firstIterPos [⟨tg, iter, ifs, 0⟩] pos) (pos := pos) (use := some (assign (.Name y py) X.env)) (Qf := fun _ z => SP X pins D .next z) (Q := fun x G => D.nx (σ.set i (some x)) G) SR r0 calm hN I hi ok B hs h fun L C z m G K hq ns hC => by
    refine wpAny_assign_Name (store_ok2 (v := V.ref L) K hN hy (.inl loc) rfl (fun z2 K2 ⟨a, sb, ha⟩ => ?_) (.inr loc))
    obtain ⟨c0, c1, c2, c3, c4, c5⟩ := hC
    have ne : C ≠ a := ha.elim (fun e => e ▸ c1) fun e e2 => c4 y a e e2.symm
    exact ⟨m, ns.sameBut sb ne, fun z3 sb3 => ⟨_, G, K2.turned (t' := z2.toks) (fun b o hb e => (sb3.2 b hb).trans e) c0 c1 c3 c4 c5, hq⟩⟩
  rw [exec_Assign_Name_used _ _ _ _ sw]
  exact wpAny_bind (wpAny_standAt (wpAny_bind (wpAny_bind (thn core fun _ z hz => wpAny_pure (wpAny_pure hz)))))
end
section
variable {X : Cx}
theorem pst_setLcT {i : Nat} {y : Str} {py : Pos} {elt tg iter : Expr} {ifs : List Expr} {scope : Scope} {own : List (Str × Nat)} {pos spos : Pos} {wi : TI} {g : TG} {tt : TT} {te : TE} (calm : X.calm = true) (hN : X.N.Nodup) (hy : X.N[i]? = some y) (loc : X.env.scope.names.lookup y = some .local)
    (sw : swapsWith (.ListComp elt [⟨tg, iter, ifs, 0⟩] scope pos) (some (.Name y py)) spos.line X.env = pure true) (hi : PI X tg iter wi) (ok : BlkOk X.N X.env.scope scope own) (B : BlkR Tk X scope tg ifs elt g tt te) (hs : ∀ x, foldedSetIterable iter X.env x = pure x := by intro _; rfl) :
    PST X (.Assign [.Name y py] (.ListComp elt [⟨tg, iter, ifs, 0⟩] scope pos) spos) (tAsg (tLc wi g tt te (own.map (·.2))) (gName i)) := fun _ _ _ _ _ r0 I h => psR_setLc tk_stays r0 calm hN hy loc sw hi ok B hs I h
/-- a for's state between two turns -/
def ForAt (X : Cx) (pins : List (Addr × Obj)) (fp : List Addr) (tn : Nat → Heap → Prop) (W : Nat → Nat → L2.St → Hp → Prop) (m : Nat) (z : Shared) : Prop :=
  Tk z ∧ ∃ (i : Nat) (σ : L2.St) (G : Hp), Inv X pins σ G z ∧ tn i z.heap ∧ (∀ b ∈ fp, G b = none) ∧ W i m σ G
/-- for, its body wants a token out -/
theorem pst_forT {tg iter : Expr} {body : List Stmt} {wi : TI} {g : TG} {tb : TS} {pos : Pos} (own : PassesOwn (model X.prog X.w) X.A X.env X.xe) (calm : X.calm = true) (hi : PI X tg iter wi) (hg : PG X tg g) (hb : PSsT X body tb) (hs : ∀ x, foldedSetIterable iter X.env x = pure x := by intro _; rfl) :
    PST X (.For tg iter body [] pos) (tFor wi g tb) := by
  intro pins s σ H D r0 I h
  refine wpAny_For (tk_stays.then r0 (hi.run pins s σ H _ I h) fun _ _ r1 q1 => tk_stays.then r1 q1 fun _ s2 r2 q2 => ?_) hs
  obtain ⟨it, fp, tn, J, G, rfl, I2, T, n2, f2, W, ⟨m0, w0⟩, turn⟩ := q2
  refine codeAny_forLoop_any (ForAt X pins fp tn W) (fun m z st => ?_) m0 ⟨r2, 0, σ, G, I2, n2, fun b hb => (f2 b hb).1, w0⟩
  obtain ⟨rz, i, σ1, G1, I1, n1, e1, w1⟩ := st
  have seat : ∀ {G' : Hp}, (∀ b ∈ fp, G' b = none) → ∀ b ∈ fp, FpOk X pins G' b := fun e b hb => ⟨e b hb, (f2 b hb).2⟩
  rcases turn i m σ1 G1 w1 with ⟨stop, q⟩ | ⟨go, N, less, item⟩
  · refine wpAny_passesOwn own (tk_stays.then rz (T.done X rfl rfl rfl calm i pins z σ1 G1 X.xe I1 (seat e1) n1 stop) fun r z1 _ q1 => ?_)
    obtain ⟨rfl, K⟩ := q1
    exact wpAny_execs_nil ⟨σ1, G1, K, q⟩
  refine wpAny_passesOwn own (tk_stays.then rz (T.item X rfl rfl rfl calm i pins z σ1 G1 X.xe I1 (seat e1) n1 go) fun r z1 r1 q1 => ?_)
  obtain ⟨u, rfl, q1⟩ := q1
  refine wpAny_passesOwn own (tk_stays.then r1 q1 fun _ z2 r3 q2 => ?_)
  obtain ⟨x, G2, K2, rx, yx, n3, e2⟩ := q2
  have K2p := K2.pinned (seat e2) (T.obj _ _ n3)
  refine wpAny_passesOwn own (tk_stays.then r3 (hg.run _ z2 σ1 G2 x u _ K2p rx (item x G2 yx)) fun _ z3 r4 q3 => ?_)
  obtain ⟨σ3, G3, K3, q3⟩ := q3
  refine wpAny_passesOwn own (tk_stays.then r4 (hb _ z3 σ3 G3 _ r4 K3 q3) fun f z4 r5 q4 => ?_)
  have round : ∀ {σ4 : L2.St} {G4 : Hp}, Inv X (pins ++ pinsAt fp z2.heap) σ4 G4 z4 → N σ4 G4 → ∃ m', m' < m ∧ ForAt X pins fp tn W m' z4 := by
    intro σ4 G4 K4 x4
    obtain ⟨m', lt, w4⟩ := less σ4 G4 x4
    have there : ∀ b ∈ fp, ∀ o, z2.heap.get? b = some o → z4.heap.get? b = some o ∧ G4 b = none := fun b hb o e => by
      have p := K4.pin (b, o) (List.mem_append_right _ (List.mem_append_right _ (mem_pinsAt hb e)))
      exact ⟨p.1, p.2.1⟩
    refine ⟨m', lt, r5, i + 1, σ4, G4, K4.unpinned, T.keep _ _ _ n3 fun b hb o e => (there b hb o e).1, fun b hb => ?_, w4⟩
    obtain ⟨o, e, _⟩ := T.obj _ _ n3 b hb
    exact (there b hb o e).2
  match f, q4 with
  | .next, q4 => exact q4.elim fun _ z => z.elim fun _ z => round z.1 z.2
  | .cont, q4 => exact q4.elim fun _ z => z.elim fun _ z => round z.1 z.2
  | .brk, q4 => exact q4.elim fun σ4 z => z.elim fun G4 z => ⟨σ4, G4, z.1.unpinned, z.2⟩
  | .ret v, q4 => exact q4.elim fun x4 z => z.elim fun σ4 z => z.elim fun G4 z => ⟨x4, σ4, G4, z.1.unpinned, z.2.1, z.2.2⟩
theorem pet_tup {es : List Expr} {ta : TA} {x1} {pos : Pos} (h : PAT X es ta) : PET X (.Tuple es x1 pos) (tTup ta) := by
  intro pins s σ H Q r0 I hq
  refine wpAny_Tuple_spliced (thn (h pos pins s σ H _ r0 I hq) fun us z ⟨xs, G, K, rel, few, q⟩ => ?_)
  have new : G z.heap.objs.size = none := K.hok.fresh (Nat.le_refl _)
  have put := K.laid (o := .tup xs) (t' := z.toks) (h' := z.heap.push { cls := .type "tuple", data := .seq us.toArray }) (fun _ _ e => Heap.get?_push_of_some _ e) (Nat.le_refl _) ⟨few, us, rel, ⟨_, Heap.get?_push_size _ rfl, rfl, _, rfl⟩⟩
  exact ⟨by rw [← rel.length]; exact few, .ref _, _, put, rfl, q _ new⟩
theorem PSsT.nox {st : List Stmt} {t : TS} (h : PSsT X.nox st t) : PSsT X st t := fun pins s σ H D r0 I q =>
  wpAny_mono (h pins s σ H D r0 (I.wish _) q) (fun _ _ w => w.unwish) fun _ _ w => w.elim
end
/-- a def without cells whose body wants a token out: its parameters gave one -/
theorem Fun.okT {P : Program} {w : World} {K : PySem.W.Frag} {mg : Str → Option Value} {base : Heap} {x qual : Str} {st : Stmt} {f : Addr} {fd : FuncData} {N ps : List Str} {k : Nat} {sp : Sp} (F : Fun K x qual st f fd) (S : FnScope N ps (defScope st))
    (noCell : ∀ y ∈ (defScope st).names, y.2 ≠ .cell) (one : 1 ≤ ps.length) (len : ∀ vs H Q E, sp vs H Q E → vs.length = ps.length)
    (body : ∀ (cdv : Value) (A : Around) (outer : List Env) (s : Shared) (H : Hp) (vs : List V) (Q : VK) (E : XK), Room k (A.deeper (envOfC qual (defScope st) s.heap.objs.size f cdv)) → sp vs H Q E →
      ∃ t, PSsT (cxOf CX0 P w K mg base N qual (defScope st) f cdv A outer s H E).nox (defBody st) t ∧ t { nx := fun _ H' => Q .non H', rt := Q } (start N vs) H) : FnOk P w K mg base CX0 (k + 1) f fd ps sp := by
  obtain ⟨oc, od, kV, doc, pm, an, cdv, ct, osl, e, look, code⟩ := F.ex
  subst e
  refine fn_ofT look code S noCell one len fun A outer s H vs Q E room q => ?_
  obtain ⟨t, rule, read⟩ := body cdv A outer s H vs Q E room q
  exact ⟨t, PSsT.nox rule, read⟩
/-! ### sorted(xs), xs a list of (text, int): in its order -/
def ordTI (H : Hp) (ys : List V) : Prop := ∀ (i j : Nat) (t t' : Addr) (a b : Str) (m n : Int), i < j → ys[i]? = some (.ref t) → ys[j]? = some (.ref t') → H t = some (.tup [.str a, .int m]) → H t' = some (.tup [.str b, .int n]) → ¬ (b.cps.toList < a.cps.toList)
section
variable {X : Cx}
def rSortTO (K : PySem.W.Frag) : List V → Hp → VK → Prop := fun vs H Q => ∃ (a : Addr) (xs : List V), vs = [V.ref a] ∧ SqL K H a xs ∧ (∀ x ∈ xs, ∃ (t : Addr) (k : Str) (i : Int), x = .ref t ∧ H t = some (.tup [.str k, .int i])) ∧
  ∀ (ys : List V) (p : Addr), ys.Perm xs → ordTI H ys → H p = none → Q (.ref p) (upd H p (.lst ys))
theorem lex_items {a b : List Nat} {m n : Int} (h : b < a) : PyProof.Rows.lexLt PyProof.Rows.itemOrd [Sum.inr b, Sum.inl n] [Sum.inr a, Sum.inl m] = true := by
  rw [PyProof.Rows.lex_cons]
  have e : PyProof.Rows.itemOrd.blt (Sum.inr b) (Sum.inr a) = true := by
    show decide (b < a) = true
    exact decide_eq_true h
  rw [e]
  rfl
theorem cr_sortTO : CallR X (.builtin "sorted") (rSortTO X.K) := by
  intro pins s σ H vs us Q I r h
  obtain ⟨a, xs, rfl, hs, hx, q⟩ := h
  obtain ⟨its, rv, hl, hz⟩ := I.list hs
  obtain ⟨u, rfl, ru⟩ := vals1 r
  obtain rfl : u = Value.ref a := ru
  obtain ⟨e1, e2⟩ := refs_back rv fun x m => by
    obtain ⟨t, _, _, e, _⟩ := hx x m
    exact ⟨t, e⟩
  have raw : ∀ v ∈ its, ∃ (t : Addr) (o : Obj) (k : Str) (i : Int) (t1 t2 : Tok) (n : Nat), v = .ref t ∧ s.heap.get? t = some o ∧ o.cls = .type "tuple" ∧ o.data = .seq #[.str k t1, .int i t2] n ∧ H t = some (.tup [.str k, .int i]) := fun v hv => by
    obtain ⟨t, rfl⟩ := e2 v hv
    have hm : V.ref t ∈ xs := by rw [e1]; exact List.mem_map.mpr ⟨_, hv, rfl⟩
    obtain ⟨t', k, i, e, ht⟩ := hx _ hm
    cases e
    obtain ⟨_, its2, r2, o, ho, hc, n, hd⟩ := I.hok _ _ ht
    obtain ⟨u1, u2, rfl, ri, rj⟩ := vals2 r2
    obtain ⟨t1, rfl⟩ := ri
    obtain ⟨t2, rfl⟩ := rj
    exact ⟨t, o, k, i, t1, t2, n, rfl, ho, hc, hd, ht⟩
  obtain ⟨fs, hfs⟩ := tups_of (h := s.heap) (shape := shTI) (vs := its) fun v hv => by
    obtain ⟨t, o, k, i, t1, t2, n, rfl, ho, hc, hd, _⟩ := raw v hv
    exact ⟨.str k t1, t, o, _, n, rfl, ho, hc, hd, rfl, (fun e => absurd e (by decide)), fun _ => ⟨k, t1, rfl⟩⟩
  refine PyProof.Rows.G.sorted_tups (shape := shTI) hl.isList hfs (fun v hv => ?_) (by rw [← rv.length]; exact hz) fun st' hp hso _ => ?_
  · obtain ⟨t, o, k, i, t1, t2, n, rfl, ho, hc, hd, _⟩ := raw v hv
    exact ⟨[Sum.inr k.cps.toList, Sum.inl i], PyProof.Rows.G.tupKeyC_of ho hc hd rfl⟩
  · have hpl := Array.perm_iff_toList_perm.mp hp
    rw [pairsOf_toList] at hpl
    have twin : ∀ p ∈ (arrOf st').toList, p.1 = p.2 ∧ p.2 ∈ its := fun p hm => by
      have := hpl.mem_iff.mp hm
      obtain ⟨i, hi⟩ := List.getElem?_of_mem this
      obtain ⟨h1, h2⟩ := List.getElem?_zip_eq_some.mp hi
      rw [h1] at h2
      exact ⟨Option.some.inj h2, List.mem_of_getElem? (by rw [h1, h2] : its[i]? = some p.2)⟩
    have ord : ordTI H (((arrOf st').toList.map (·.2)).map backV) := by
      intro i j t t' x y m n hij hi hj ht ht' hlt
      rw [List.map_map, List.getElem?_map] at hi hj
      obtain ⟨p, hpi, ep⟩ := Option.map_eq_some_iff.mp hi
      obtain ⟨p', hpj, ep'⟩ := Option.map_eq_some_iff.mp hj
      obtain ⟨w1, w2⟩ := twin p (List.mem_of_getElem? hpi)
      obtain ⟨w1', w2'⟩ := twin p' (List.mem_of_getElem? hpj)
      obtain ⟨b, o, k, i1, t1, t2, nn, eb, ho, hc, hd, hb⟩ := raw p.2 w2
      obtain ⟨b', o', k', i1', t1', t2', nn', eb', ho', hc', hd', hb'⟩ := raw p'.2 w2'
      have ep : backV p.2 = .ref t := ep
      have ep' : backV p'.2 = .ref t' := ep'
      rw [eb] at ep
      rw [eb'] at ep'
      cases ep
      cases ep'
      rw [hb] at ht
      rw [hb'] at ht'
      cases ht
      cases ht'
      have hs2 := hso i j (Nat.le_of_lt hij) (by
        have := (List.getElem?_eq_some_iff.mp hpj).1
        rw [hpl.length_eq, ← pairsOf_toList, Array.length_toList] at this
        exact this)
      have k1 : PyProof.Rows.KK (PyProof.Rows.G.tupKindC s.heap shTI) (arrOf st') i = [Sum.inr x.cps.toList, Sum.inl m] := by
        unfold PyProof.Rows.KK
        rw [← Array.getElem?_toList, hpi]
        show (PyProof.Rows.G.tupKeyC s.heap shTI p.1).getD [] = _
        rw [w1, eb, PyProof.Rows.G.tupKeyC_of ho hc hd rfl]
        rfl
      have k2 : PyProof.Rows.KK (PyProof.Rows.G.tupKindC s.heap shTI) (arrOf st') j = [Sum.inr y.cps.toList, Sum.inl n] := by
        unfold PyProof.Rows.KK
        rw [← Array.getElem?_toList, hpj]
        show (PyProof.Rows.G.tupKeyC s.heap shTI p'.1).getD [] = _
        rw [w1', eb', PyProof.Rows.G.tupKeyC_of ho' hc' hd' rfl]
        rfl
      rw [k1, k2] at hs2
      have hs2 : PyProof.Rows.lexLt PyProof.Rows.itemOrd [Sum.inr y.cps.toList, Sum.inl n] [Sum.inr x.cps.toList, Sum.inl m] = false := hs2
      rw [lex_items hlt] at hs2
      cases hs2
    generalize hout : (arrOf st').map (·.2) = out
    have eo : out.toList = (arrOf st').toList.map (·.2) := by rw [← hout, Array.toList_map]
    rw [← eo] at ord
    have hp' : out.toList.Perm its := by
      rw [eo]
      have e := hpl.map Prod.snd
      rw [List.map_snd_zip (Nat.le_refl _)] at e
      exact e
    have h3 : ∀ u ∈ out.toList, ∃ a, u = Value.ref a := fun u hu => e2 u (hp'.mem_iff.mp hu)
    obtain ⟨ep, he'⟩ := PyProof.Rows.sortedAll_at s.heap its out
    have hpp : (out.toList.map backV).Perm xs := by rw [e1]; exact hp'.map backV
    have hlen : (out.toList.map backV).length ≤ sizeLine := by rw [hpp.length_eq]; exact hz
    exact ⟨.ref _, upd H (s.heap.objs.size + 1) (.lst (out.toList.map backV)), I.laid (t' := s.toks) (fun _ _ => PyProof.Rows.sortedAll_old) (Nat.le_succ _) ⟨hlen, out.toList, ep, vals_back h3, he'⟩, rfl, q _ _ hpp ord (I.hok.fresh (Nat.le_succ _))⟩
end
/-! ### mirrored trees and nests -/
def sw (c : Nat) : Nat := if c = 108 then 114 else if c = 114 then 108 else c
def sws (w : List Nat) : List Nat := w.map sw
theorem sw_sw (c : Nat) : sw (sw c) = c := by
  unfold sw
  by_cases h1 : c = 108
  · subst h1; rfl
  · by_cases h2 : c = 114
    · subst h2; rfl
    · rw [if_neg h1, if_neg h2, if_neg h1, if_neg h2]
theorem sws_sws (w : List Nat) : sws (sws w) = w := by
  unfold sws
  rw [List.map_map]
  induction w with
  | nil => rfl
  | cons c w ih => rw [List.map_cons, ih]; show sw (sw c) :: w = _; rw [sw_sw]
theorem sws_inj {a b : List Nat} (h : sws a = sws b) : a = b := by rw [← sws_sws a, h, sws_sws]
theorem sws_len (w : List Nat) : (sws w).length = w.length := by unfold sws; rw [List.length_map]
def B.mir : B → B
  | .nil => .nil
  | .node l x r => .node r.mir x l.mir
theorem B.mir_size : ∀ t : B, t.mir.size = t.size
  | .nil => rfl
  | .node l x r => by
    have h1 := l.mir_size
    have h2 := r.mir_size
    show r.mir.size + 1 + l.mir.size = l.size + 1 + r.size
    omega
theorem B.mir_deep : ∀ t : B, t.mir.deep = t.deep
  | .nil => rfl
  | .node l x r => by
    have h1 := l.mir_deep
    have h2 := r.mir_deep
    show 1 + max r.mir.deep l.mir.deep = 1 + max l.deep r.deep
    omega
theorem B.mir_cnt (zs : List Nat) : ∀ t : B, t.mir.cnt zs = t.cnt zs
  | .nil => rfl
  | .node l x r => by
    have h1 := l.mir_cnt zs
    have h2 := r.mir_cnt zs
    show r.mir.cnt zs + l.mir.cnt zs + (if x ∈ zs then 1 else 0) = l.cnt zs + r.cnt zs + (if x ∈ zs then 1 else 0)
    omega
theorem B.mir_pre (t : B) (c : Nat) : c ∈ t.mir.pre ↔ c ∈ t.pre := by
  induction t with
  | nil => exact Iff.rfl
  | node l x r h1 h2 =>
    show c ∈ x :: (r.mir.pre ++ l.mir.pre) ↔ c ∈ x :: (l.pre ++ r.pre)
    rw [List.mem_cons, List.mem_cons, List.mem_append, List.mem_append, h1, h2]
    exact or_congr_right or_comm
theorem B.mir_op (t : B) : ∀ w, w ∈ t.op → sws w ∈ t.mir.op := by
  induction t with
  | nil =>
    intro w h
    rw [List.mem_singleton.mp h]
    exact List.mem_singleton.mpr rfl
  | node l x r h1 h2 =>
    intro w h
    show sws w ∈ r.mir.op.map (108 :: ·) ++ l.mir.op.map (114 :: ·)
    rcases List.mem_append.mp h with h | h
    · obtain ⟨u, hu, rfl⟩ := List.mem_map.mp h
      exact List.mem_append_right _ (List.mem_map.mpr ⟨sws u, h1 u hu, rfl⟩)
    · obtain ⟨u, hu, rfl⟩ := List.mem_map.mp h
      exact List.mem_append_left _ (List.mem_map.mpr ⟨sws u, h2 u hu, rfl⟩)
theorem B.mir_sub : ∀ (t : B) (h h' : List Nat → B), (∀ w, h' (sws w) = (h w).mir) → t.mir.sub h' = (t.sub h).mir
  | .nil, h, h', e => e []
  | .node l x r, h, h', e => by
    have h1 := l.mir_sub (fun w => h (108 :: w)) (fun w => h' (114 :: w)) (fun w => e (108 :: w))
    have h2 := r.mir_sub (fun w => h (114 :: w)) (fun w => h' (108 :: w)) (fun w => e (114 :: w))
    show B.node (r.mir.sub fun w => h' (108 :: w)) x (l.mir.sub fun w => h' (114 :: w)) = .node (r.sub fun w => h (114 :: w)).mir x (l.sub fun w => h (108 :: w)).mir
    rw [h1, h2]
def Kd.opp : Kd → Kd
  | .first => .last
  | .between => .between
  | .last => .first
abbrev swS (s : List Nat × Nat) : List Nat × Nat := (sws s.1, s.2)
theorem sws_snoc (q : List Nat) (c : Nat) : sws q ++ [sw c] = sws (q ++ [c]) := by unfold sws; rw [List.map_append]; rfl
theorem steps_mir (t : B) : ∀ (k : Kd) (q : List Nat), t.mir.steps k.opp (sws q) = ((t.steps k q).map swS).reverse := by
  induction t with
  | nil => intro k q; cases k <;> rfl
  | node l x r h1 h2 =>
    intro k q
    have a := h1 k (q ++ [108])
    have b := h2 k (q ++ [114])
    rw [← sws_snoc] at a b
    have a : l.mir.steps k.opp (sws q ++ [114]) = _ := a
    have b : r.mir.steps k.opp (sws q ++ [108]) = _ := b
    cases k
    · show r.mir.steps .last (sws q ++ [108]) ++ l.mir.steps .last (sws q ++ [114]) ++ [(sws q, x)] = (([(q, x)] ++ l.steps .first (q ++ [108]) ++ r.steps .first (q ++ [114])).map swS).reverse
      rw [List.map_append, List.map_append, List.reverse_append, List.reverse_append, ← a, ← b, List.append_assoc]
      rfl
    · show r.mir.steps .between (sws q ++ [108]) ++ [(sws q, x)] ++ l.mir.steps .between (sws q ++ [114]) = ((l.steps .between (q ++ [108]) ++ [(q, x)] ++ r.steps .between (q ++ [114])).map swS).reverse
      rw [List.map_append, List.map_append, List.reverse_append, List.reverse_append, ← a, ← b, List.append_assoc]
      rfl
    · show [(sws q, x)] ++ r.mir.steps .first (sws q ++ [108]) ++ l.mir.steps .first (sws q ++ [114]) = ((l.steps .last (q ++ [108]) ++ r.steps .last (q ++ [114]) ++ [(q, x)]).map swS).reverse
      rw [List.map_append, List.map_append, List.reverse_append, List.reverse_append, ← a, ← b, List.append_assoc]
      rfl
theorem step_mir {X : B} {k : Kd} {n : Nat} {W : List Nat} {c : Nat} (h : (X.steps k [])[n]? = some (W, c)) : (X.mir.steps k.opp [])[X.size - 1 - n]? = some (sws W, c) := by
  have e : X.mir.steps k.opp [] = _ := steps_mir X k []
  have hn := (List.getElem?_eq_some_iff.mp h).1
  rw [X.steps_len] at hn
  have hl : ((X.steps k []).map swS).length = X.size := by rw [List.length_map, X.steps_len]
  rw [e, List.getElem?_reverse (by omega), hl, show X.size - 1 - (X.size - 1 - n) = n by omega, List.getElem?_map, h]
  rfl
theorem wk_mir {X : B} {k : Kd} {n c : Nat} (h : (X.wk k)[n]? = some c) : (X.mir.wk k.opp)[X.size - 1 - n]? = some c := by
  rw [← X.steps_wk k [], List.getElem?_map] at h
  obtain ⟨⟨W, c'⟩, hW, rfl⟩ := Option.map_eq_some_iff.mp h
  rw [← X.mir.steps_wk k.opp [], List.getElem?_map, step_mir hW]
  rfl
/-! nests -/
structure MirE (e e' : En) : Prop where
  tr : e'.1 = e.1.mir
  ls : e'.2.Perm (e.2.map fun l => (sws l.1, l.2))
structure MirN (es es' : List En) : Prop where
  len : es'.length = es.length
  at_ : ∀ (i : Nat) (e e' : En), es[i]? = some e → es'[i]? = some e' → MirE e e'
theorem map_sws (ls : List Lk) : (ls.map fun l => (sws l.1, l.2)).map (·.1) = (ls.map (·.1)).map sws := by rw [List.map_map, List.map_map]; rfl
theorem nodup_sws {L : List (List Nat)} (h : L.Nodup) : (L.map sws).Nodup := List.Pairwise.map _ (fun _ _ ne e => ne (sws_inj e)) h
theorem GoodN.mir {lim : Nat} {es es' : List En} (g : GoodN lim es) (m : MirN es es') : GoodN lim es' := fun i e' h' => by
  have hi := (List.getElem?_eq_some_iff.mp h').1
  rw [m.len] at hi
  have h := List.getElem?_eq_getElem hi
  have q := m.at_ i _ _ h h'
  have ge := g i _ h
  generalize es[i] = e at q ge
  have mem : ∀ l ∈ e'.2, ∃ k ∈ e.2, l = (sws k.1, k.2) := fun l hl => by
    obtain ⟨k, hk, rfl⟩ := List.mem_map.mp (q.ls.mem_iff.mp hl)
    exact ⟨k, hk, rfl⟩
  refine ⟨by rw [q.tr, B.mir_size]; exact ge.s1, by rw [q.tr, B.mir_size]; exact ge.s2, ?_, ?_, fun l hl => ?_, fun l hl => ?_⟩
  · rw [q.tr]
    intro c hc
    exact ge.lt c ((B.mir_pre _ c).mp hc)
  · have := (q.ls.map (·.1)).nodup_iff
    rw [this, map_sws]
    exact nodup_sws ge.nd
  · obtain ⟨k, hk, rfl⟩ := mem l hl
    rw [q.tr]
    exact B.mir_op _ _ (ge.op k hk)
  · obtain ⟨k, hk, rfl⟩ := mem l hl
    exact ge.ix k hk
theorem keys_eq : ∀ {ls : List Lk} {l l' : Lk}, (ls.map (·.1)).Nodup → l ∈ ls → l' ∈ ls → l.1 = l'.1 → l = l'
  | [], _, _, _, h, _, _ => by cases h
  | k :: ls, l, l', nd, h, h', e => by
    rw [List.map_cons, List.nodup_cons] at nd
    rcases List.mem_cons.mp h with r1 | r1
    · rcases List.mem_cons.mp h' with r2 | r2
      · rw [r1, r2]
      · exact absurd (show k.1 ∈ ls.map (·.1) from List.mem_map.mpr ⟨l', r2, by rw [← r1]; exact e.symm⟩) nd.1
    · rcases List.mem_cons.mp h' with r2 | r2
      · exact absurd (show k.1 ∈ ls.map (·.1) from List.mem_map.mpr ⟨l, r1, by rw [← r2]; exact e⟩) nd.1
      · exact keys_eq nd.2 r1 r2 e
theorem hung_of {F : List B} {ls : List Lk} {p : List Nat} {n : Nat} (nd : (ls.map (·.1)).Nodup) (h : (p, n) ∈ ls) : hungL F ls p = F.getD n .nil := by
  unfold hungL
  cases e : ls.find? (fun l => decide (l.1 = p)) with
  | none =>
    have := List.find?_eq_none.mp e (p, n) h
    simp at this
  | some l =>
    have h1 := List.mem_of_find?_eq_some e
    have h2 : l.1 = p := by simpa using List.find?_some e
    have := keys_eq nd h1 h h2
    subst this
    rfl
theorem hung_no {F : List B} {ls : List Lk} {p : List Nat} (h : ∀ l ∈ ls, l.1 ≠ p) : hungL F ls p = .nil := by
  unfold hungL
  rw [List.find?_eq_none.mpr fun l hl => by simpa using h l hl]
theorem fulls_mir {lim : Nat} {es es' : List En} (g : GoodN lim es) (m : MirN es es') : ∀ (k : Nat) (X : B), (fulls es)[k]? = some X → (fulls es')[k]? = some X.mir := by
  intro k
  induction k using Nat.strongRecOn with
  | ind k ih =>
  intro X hX
  have g' := g.mir m
  have hk := (List.getElem?_eq_some_iff.mp hX).1
  rw [fulls_len] at hk
  obtain ⟨⟨t, ls⟩, h⟩ : ∃ e, es[k]? = some e := ⟨_, List.getElem?_eq_getElem hk⟩
  obtain ⟨⟨t', ls'⟩, h'⟩ : ∃ e, es'[k]? = some e := ⟨_, List.getElem?_eq_getElem (by rw [m.len]; exact hk)⟩
  have q := m.at_ k _ _ h h'
  have ge := g k _ h
  have ge' := g' k _ h'
  have f1 := full_get g h
  have f2 := full_get g' h'
  rw [f1] at hX
  cases hX
  rw [f2]
  have et : t' = t.mir := q.tr
  subst et
  refine congrArg some (B.mir_sub t _ _ fun w => ?_)
  by_cases hw : ∃ n, (w, n) ∈ ls
  · obtain ⟨n, hn⟩ := hw
    have hn' : (sws w, n) ∈ ls' := q.ls.mem_iff.mpr (List.mem_map.mpr ⟨(w, n), hn, rfl⟩)
    rw [hung_of ge.nd hn, hung_of ge'.nd hn']
    have lt : n < k := ge.ix _ hn
    have eY := List.getElem?_eq_getElem (show n < (fulls es).length by rw [fulls_len]; omega)
    have eY' := ih n lt _ eY
    rw [List.getD_eq_getElem?_getD, List.getD_eq_getElem?_getD, eY, eY']
    rfl
  · rw [hung_no (p := w) (fun l hl z => hw ⟨l.2, by rw [← z]; exact hl⟩), hung_no fun l hl z => ?_]
    · rfl
    · obtain ⟨p, hp, rfl⟩ := List.mem_map.mp (q.ls.mem_iff.mp hl)
      have := sws_inj z
      exact hw ⟨p.2, by rw [← this]; exact hp⟩
/-! ### a nest as a value -/
theorem offT {H : Hp} {D : Deck} {n : Nat} (d : DeckOk H D n) {a : Addr} {xs : List V} (e : H a = some (.tup xs)) : Off D a := by
  obtain ⟨c, r, h1, h2, h3, _⟩ := d.ex
  exact ⟨ne_of e h1 (by intro z; cases z), ne_of e h2 (by intro z; cases z), ne_of e h3 (by intro z; cases z)⟩
theorem LkAt.dq {H : Hp} {D : Deck} {n : Nat} (d : DeckOk H D n) {vs : List V} {ls : List Lk} (h : LkAt H vs ls) : DQAll D H vs (ls.map lkD) := by
  induction h with
  | nil => exact .nil
  | cons e _ ih => exact .cons (.tup (offT d e) e (.cons (.str _) (.cons (.int _) .nil))) ih
theorem EnAt.dq {H : Hp} {D : Deck} {n : Nat} (d : DeckOk H D n) {vs : List V} {es : List En} (h : EnAt H vs es) : DQAll D H vs (es.map enD) := by
  induction h with
  | nil => exact .nil
  | cons e1 e2 e3 e4 _ ih => exact .cons (.tup (offT d e1) e1 (.cons (e2.dq d) (.cons (.tup (offT d e3) e3 (e4.dq d)) .nil))) ih
theorem tree_val : ∀ t : B, ltB t → cntD t.data = (t.size : Int) ∧ gd t.data = true ∧ wt t.data ≤ 915 * t.size + 4 ∧ toB t.data = t
  | .nil, _ => by
    refine ⟨?_, ?_, ?_, ?_⟩
    · simp only [B.data, cntD]; rfl
    · simp only [B.data, gd]
    · simp only [B.data, wt]; exact Nat.le_add_left _ _
    · simp only [B.data, toB]
  | .node l x r, h => by
    have hx := h x List.mem_cons_self
    obtain ⟨a1, a2, a3, a4⟩ := tree_val l fun c hc => h c (List.mem_cons_of_mem _ (List.mem_append_left _ hc))
    obtain ⟨b1, b2, b3, b4⟩ := tree_val r fun c hc => h c (List.mem_cons_of_mem _ (List.mem_append_right _ hc))
    have lt : letD (.str (ch x)) = true := by
      show isLow x = true
      simp only [isLow, Bool.and_eq_true, decide_eq_true_eq]
      exact hx
    have sx : okS (ch x) = true := by
      show (decide (1 ≤ 90) && [x].all (· < 128)) = true
      have : decide (x < 128) = true := decide_eq_true (by omega)
      rw [List.all_cons, this]
      rfl
    refine ⟨?_, ?_, ?_, ?_⟩
    · show cntD (.tuple [l.data, .str (ch x), r.data]) = _
      rw [cnt_tup, if_pos ⟨lt, by omega, by omega⟩, a1, b1]
      show _ = ((l.size + 1 + r.size : Nat) : Int)
      omega
    · show gd (.tuple [l.data, .str (ch x), r.data]) = true
      simp only [gd, gds, a2, b2, sx, Bool.and_self]
    · show wt (.tuple [l.data, .str (ch x), r.data]) ≤ 915 * (l.size + 1 + r.size) + 4
      have e : wt (.tuple [l.data, .str (ch x), r.data]) = wt l.data + wt r.data + 911 := by
        simp only [wt, wts]
        omega
      rw [e]
      show _ ≤ 915 * (l.size + 1 + r.size) + 4
      omega
    · show toB (.tuple [l.data, .str (ch x), r.data]) = _
      rw [toB, a4, b4]
      rfl
theorem big20 {n : Nat} (h : n < 20) : okI (n : Int) = true := by
  simp only [okI, Bool.and_eq_true, decide_eq_true_eq]
  exact ⟨by omega, Int.lt_of_lt_of_le (show (n : Int) < 20 by omega) (by decide)⟩
/-- the links' paths ascend -/
def ascE (ls : List Lk) : Prop := ∀ (i : Nat) (l l' : Lk), ls[i]? = some l → ls[i + 1]? = some l' → l.1 < l'.1
theorem link_val {t : B} {n : Nat} (hn : n ≤ 20) (ht : t.size ≤ 12) {l : Lk} (h1 : l.1 ∈ t.op) (h2 : l.2 < n) : gd (lkD l) = true ∧ wt (lkD l) = 940 ∧ lkB t n (lkD l) = true := by
  have dp := op_deep h1
  have dl := t.deep_le
  refine ⟨?_, ?_, ?_⟩
  · simp only [lkD, gd, gds, Bool.and_eq_true, and_true]
    refine ⟨?_, big20 (by omega)⟩
    simp only [okS, Bool.and_eq_true, decide_eq_true_eq, List.all_eq_true]
    refine ⟨by show l.1.length ≤ 90; omega, fun c hc => ?_⟩
    rcases op_signs t l.1 h1 c hc with rfl | rfl <;> decide
  · simp only [lkD, wt, wts]
  · show (decide (t.at l.1 = some .nil) && (decide ((0 : Int) ≤ (l.2 : Int)) && decide ((l.2 : Int) ≤ (n : Int) - 1))) = true
    rw [decide_eq_true ((t.op_at l.1).mp h1), decide_eq_true (by omega), decide_eq_true (by omega)]
    rfl
theorem asc_true {zs : List Str} (h : ∀ (i : Nat) (a b : Str), zs[i]? = some a → zs[i + 1]? = some b → a.cps.toList < b.cps.toList) : asc zs = true := by
  unfold asc
  rw [List.all_eq_true]
  intro b hb
  obtain ⟨⟨x, y⟩, hq, rfl⟩ := List.mem_map.mp hb
  obtain ⟨i, hi⟩ := List.getElem?_of_mem hq
  obtain ⟨h1, h2⟩ := List.getElem?_zip_eq_some.mp hi
  rw [List.getElem?_drop, Nat.add_comm] at h2
  exact decide_eq_true (h i x y h1 h2)
theorem links_val {t : B} {n : Nat} (hn : n ≤ 20) (ht : t.size ≤ 12) : ∀ ls : List Lk, (∀ l ∈ ls, l.1 ∈ t.op) → (∀ l ∈ ls, l.2 < n) → gds (ls.map lkD) = true ∧ wts (ls.map lkD) = 942 * ls.length ∧ ((ls.map lkD).map (lkB t n)).all id = true
  | [], _, _ => ⟨by simp only [List.map_nil, gds], by simp only [List.map_nil, wts, List.length_nil], rfl⟩
  | l :: ls, h1, h2 => by
    obtain ⟨a1, a2, a3⟩ := link_val hn ht (h1 l List.mem_cons_self) (h2 l List.mem_cons_self)
    obtain ⟨b1, b2, b3⟩ := links_val hn ht ls (fun k hk => h1 k (List.mem_cons_of_mem _ hk)) fun k hk => h2 k (List.mem_cons_of_mem _ hk)
    refine ⟨?_, ?_, ?_⟩
    · simp only [List.map_cons, gds, a1, b1, Bool.and_self]
    · simp only [List.map_cons, wts, a2, b2, List.length_cons]
      omega
    · rw [List.map_cons, List.map_cons, List.all_cons, a3, b3]
      rfl
theorem entry_val {n : Nat} (hn : n ≤ 20) {e : En} (g : GoodE 12 n e) (ha : ascE e.2) : gd (enD e) = true ∧ wt (enD e) ≤ 24000 ∧ enB n (enD e) = true := by
  obtain ⟨t, ls⟩ := e
  obtain ⟨a1, a2, a3, a4⟩ := tree_val t g.lt
  obtain ⟨b1, b2, b3⟩ := links_val hn g.s2 ls g.op g.ix
  have ll := links_len g (Nat.le_refl _)
  have s1 : 1 ≤ t.size := g.s1
  have s2 : t.size ≤ 12 := g.s2
  refine ⟨?_, ?_, ?_⟩
  · simp only [enD, gd, gds, a2, b1, Bool.and_self]
  · simp only [enD, wt, wts, b2]
    omega
  · show (isTr t.data && ((((ls.map lkD).map (lkB (toB t.data) n)).all id) && asc ((ls.map lkD).map lkP))) = true
    rw [a4, b3]
    have iT : isTr t.data = true := by
      unfold isTr
      rw [a1]
      exact decide_eq_true (by omega)
    rw [iT, asc_true]
    · rfl
    · intro i x y h1 h2
      rw [List.map_map, List.getElem?_map] at h1 h2
      obtain ⟨l, e1, rfl⟩ := Option.map_eq_some_iff.mp h1
      obtain ⟨l', e2, rfl⟩ := Option.map_eq_some_iff.mp h2
      exact ha i l l' e1 e2
theorem entries_val {k : Nat} : ∀ es : List En, k + es.length ≤ 20 → (∀ i e, es[i]? = some e → GoodE 12 (k + i) e ∧ ascE e.2) → gds (es.map enD) = true ∧ wts (es.map enD) ≤ 24002 * es.length ∧ ((((es.map enD).zipIdx k).map fun x => enB x.2 x.1)).all id = true
  | [], _, _ => ⟨by simp only [List.map_nil, gds], by simp only [List.map_nil, wts]; exact Nat.zero_le _, rfl⟩
  | e :: es, hk, h => by
    rw [List.length_cons] at hk
    obtain ⟨a1, a2, a3⟩ := entry_val (n := k) (by omega) (h 0 e rfl).1 (h 0 e rfl).2
    obtain ⟨b1, b2, b3⟩ := entries_val (k := k + 1) es (by omega) fun i x hx => by
      have := h (i + 1) x hx
      rw [show k + 1 + i = k + (i + 1) by omega]
      exact this
    refine ⟨?_, ?_, ?_⟩
    · simp only [List.map_cons, gds, a1, b1, Bool.and_self]
    · simp only [List.map_cons, wts, List.length_cons]
      omega
    · rw [List.map_cons, List.zipIdx_cons, List.map_cons, List.all_cons, a3, b3]
      rfl
theorem nest_val {es : List En} (g : GoodN 12 es) (h1 : 1 ≤ es.length) (h20 : es.length ≤ 20) (ha : ∀ e ∈ es, ascE e.2) : gd (nestD es) = true ∧ wt (nestD es) ≤ 1000000 ∧ nestB (nestD es) = true := by
  obtain ⟨a1, a2, a3⟩ := entries_val (k := 0) es (by omega) fun i e h => ⟨by rw [Nat.zero_add]; exact g i e h, ha e (List.mem_of_getElem? h)⟩
  refine ⟨?_, ?_, ?_⟩
  · simp only [nestD, gd, a1]
  · simp only [nestD, wt]
    omega
  · show (decide (1 ≤ (es.map enD).length) && (decide ((es.map enD).length ≤ 20) && (((es.map enD).zipIdx.map fun x => enB x.2 x.1)).all id)) = true
    rw [a3, List.length_map, decide_eq_true h1, decide_eq_true h20]
    rfl
/-! ### signs replaced in a path -/
theorem repl_one (a b : Nat) : ∀ l : List Nat, PySem.StrLaws.replL [a] [b] l = l.map fun c => if c = a then b else c
  | [] => by rw [PySem.StrLaws.replL_nil]; rfl
  | c :: r => by
    by_cases h : c = a
    · subst h
      rw [PySem.StrLaws.replL_hit (by simp) rfl]
      show [b] ++ PySem.StrLaws.replL [c] [b] r = _
      rw [repl_one c b r, List.map_cons, if_pos rfl]
      rfl
    · rw [PySem.StrLaws.replL_miss (by show ¬ [c] = [a]; exact fun z => h (List.cons.inj z).1), repl_one a b r, List.map_cons, if_neg h]
theorem rep_tx (a b : Nat) (l : List Nat) : Txt.replace (tx l) (ch a) (ch b) = tx (l.map fun c => if c = a then b else c) := by
  refine TL.ext_tl ?_
  show (Txt.replace (tx l) (ch a) (ch b)).cps.toList = _
  rw [PySem.StrLaws.replace_list (show 1 ≤ (ch a).length from Nat.le_refl _)]
  exact repl_one a b l
theorem strL1 : Str.ofString "l" = ch 108 := by decide +kernel
theorem strR1 : Str.ofString "r" = ch 114 := by decide +kernel
theorem strX1 : Str.ofString "x" = ch 120 := by decide +kernel
theorem swap_tx {p : List Nat} (h : ∀ c ∈ p, c = 108 ∨ c = 114) : Txt.replace (Txt.replace (Txt.replace (tx p) (Str.ofString "l") (Str.ofString "x")) (Str.ofString "r") (Str.ofString "l")) (Str.ofString "x") (Str.ofString "r") = tx (sws p) := by
  rw [strL1, strR1, strX1, rep_tx, rep_tx, rep_tx]
  refine congrArg tx ?_
  unfold sws
  rw [List.map_map, List.map_map]
  refine List.map_congr_left fun c hc => ?_
  rcases h c hc with rfl | rfl <;> rfl
theorem rep_b0 {p : List Nat} (h : p.length ≤ 100) {s : Str} (hs : s.length = 1) : (tx p).length + ((tx p).length + 1) * s.length ≤ 16777216 := by
  rw [hs, tx_len]
  omega
theorem rep_bnd {p : List Nat} (h : p.length ≤ 100) : (tx p).length + ((tx p).length + 1) * (Str.ofString "x").length ≤ 16777216 ∧
    (Txt.replace (tx p) (Str.ofString "l") (Str.ofString "x")).length + ((Txt.replace (tx p) (Str.ofString "l") (Str.ofString "x")).length + 1) * (Str.ofString "l").length ≤ 16777216 ∧
    (Txt.replace (Txt.replace (tx p) (Str.ofString "l") (Str.ofString "x")) (Str.ofString "r") (Str.ofString "l")).length + ((Txt.replace (Txt.replace (tx p) (Str.ofString "l") (Str.ofString "x")) (Str.ofString "r") (Str.ofString "l")).length + 1) * (Str.ofString "r").length ≤ 16777216 := by
  rw [strL1, strR1, strX1, rep_tx, rep_tx]
  exact ⟨rep_b0 h rfl, rep_b0 (by rw [List.length_map]; exact h) rfl, rep_b0 (by rw [List.length_map, List.length_map]; exact h) rfl⟩
/-! ### mirrored, _law_glass, _law_turned -/
def spMir (n : Nat) : Sp := fun vs H Q _ => ∃ (v : V) (t : B), vs = [v] ∧ BAt H v t ∧ t.size < n ∧ ∀ (v' : V) (H' : Hp), Same H H' → BAt H' v' t.mir → Q v' H'
abbrev swL (l : Lk) : Lk := (sws l.1, l.2)
theorem LkAt.at_ {H : Hp} {vs : List V} {ls : List Lk} (h : LkAt H vs ls) {i : Nat} {l : Lk} (e : ls[i]? = some l) : ∃ a : Addr, vs[i]? = some (.ref a) ∧ H a = some (.tup [vt l.1, .int (l.2 : Int)]) := by
  have hi := (List.getElem?_eq_some_iff.mp e).1
  have hl := h.len
  have hv := List.getElem?_eq_getElem (show i < vs.length by omega)
  obtain ⟨a, p, n, ev, el, ea⟩ := h.get hv
  rw [e] at el
  cases el
  exact ⟨a, by rw [hv, ev], ea⟩
theorem lex_of {a b : List Nat} (h : ¬ b < a) (n : a ≠ b) : a < b := by
  by_cases h2 : a < b
  · exact h2
  · exact absurd (List.le_antisymm (List.not_lt.mp h) (List.not_lt.mp h2)) n
theorem asc_of {H : Hp} {ys : List V} {ks : List Lk} (o : ordTI H ys) (lk : LkAt H ys ks) (nd : (ks.map (·.1)).Nodup) : ascE ks := by
  intro i l l' h h'
  obtain ⟨a, e1, e2⟩ := lk.at_ h
  obtain ⟨b, f1, f2⟩ := lk.at_ h'
  refine lex_of (o i (i + 1) a b _ _ _ _ (Nat.lt_succ_self i) e1 f1 e2 f2) fun z => ?_
  have g1 : (ks.map (·.1))[i]? = some l.1 := by rw [List.getElem?_map, h]; rfl
  have g2 : (ks.map (·.1))[i + 1]? = some l.1 := by rw [List.getElem?_map, h', z]; rfl
  have := nodup_get nd g1 g2
  omega
theorem MirN.snoc {es es' : List En} (m : MirN es es') {e e' : En} (h : MirE e e') : MirN (es ++ [e]) (es' ++ [e']) := by
  refine ⟨by rw [List.length_append, List.length_append, m.len]; rfl, fun i a b ha hb => ?_⟩
  rw [List.getElem?_append] at ha hb
  have := m.len
  split at ha
  · rename_i hi
    rw [if_pos (by omega)] at hb
    exact m.at_ i a b ha hb
  · rename_i hi
    rw [if_neg (by omega)] at hb
    have h0 : i - es.length = 0 := by
      have := (List.getElem?_eq_some_iff.mp ha).1
      rw [List.length_cons, List.length_nil] at this
      omega
    rw [this, h0] at hb
    rw [h0] at ha
    cases ha
    cases hb
    exact h
def spTurn : Sp := fun vs H Q _ => ∃ (p : Addr) (us : List V) (es : List En), vs = [.ref p] ∧ H p = some (.tup us) ∧ EnAt H us es ∧ GoodN 12 es ∧ es.length ≤ 20 ∧
  ∀ (p' : Addr) (us' : List V) (es' : List En) (H' : Hp), Same H H' → H' p' = some (.tup us') → EnAt H' us' es' → MirN es es' → (∀ e ∈ es', ascE e.2) → Q (.ref p') H'
section
variable {P : Program} {w : World} {K : PySem.W.Frag} {mg : Str → Option Value} {base : Heap} {f : Addr} {fd : FuncData}
theorem ok_mir (F : Fun K "mirrored" "mirrored" s_mirrored f fd) (b : Binds K fd ["tree"] []) (g : mg "mirrored" = some (.ref f)) : ∀ n : Nat, FnOk P w K mg base CX0 n f fd ["tree"] (spMir n)
  | 0 => by
    have no : ∀ vs H Q E, ¬ spMir 0 vs H Q E := fun vs H Q E h => by
      obtain ⟨v, t, _, _, h1, _⟩ := h
      exact absurd h1 (Nat.not_lt_zero _)
    exact ⟨fun vs H Q E h => absurd h (no vs H Q E), fun A outer s H args us vs Q E _ _ _ _ h => absurd h (no vs H Q E)⟩
  | n + 1 => by
    have Dself : Df P w K mg base n "mirrored" ["tree"] (spMir n) := ⟨f, fd, ok_mir F b g n, b, F.kp, g⟩
    refine F.ok sc_mirrored (fun vs H Q E h => ?_) (fun cdv A outer s H vs Q E hr h => ?_)
    · obtain ⟨v, t, rfl, _⟩ := h
      rfl
    obtain ⟨v, t, rfl, ht, hn, q⟩ := h
    refine ⟨_, (pss_cons (ps_if (pt_cmpR op_isN (pv 0) pe_non (nomark _))
      (pss_one (ps_ret pe_non)) pss_nil)
    (pss_cons (ps_asg (pv 0) (pg_tup rfl (pgs_cons (pg_name (i := 1) sc_mirrored.nd rfl (.inl rfl)) (pgs_cons (pg_name (i := 2) sc_mirrored.nd rfl (.inl rfl)) (pgs_cons (pg_name (i := 3) sc_mirrored.nd rfl (.inl rfl)) pgs_nil)))))
    (pss_one (ps_ret (pe_tup (pa_cons (pe_call Dself.ok (hr.mono (by omega)) rfl Dself.g Dself.kp Dself.b .nil pass0 (pa_cons (pv 3) pa_nil)) (pa_cons (pv 2) (pa_cons (pe_call Dself.ok (hr.mono (by omega)) rfl Dself.g Dself.kp Dself.b .nil pass0 (pa_cons (pv 1) pa_nil)) pa_nil)))))))), ?_⟩
    rcases ht.inv with ⟨rfl, rfl⟩ | ⟨a, vl, vr, x, tl, tr, rfl, rfl, ea, hl, hr'⟩
    · exact ⟨_, rfl, rfl, _, rfl, iteT (q _ _ (Same.refl H) .nil)⟩
    have hz : tl.size + 1 + tr.size < n + 1 := hn
    refine ⟨_, rfl, rfl, _, rfl, iteF ?_⟩
    refine ⟨_, rfl, a, _, rfl, SqT.of ea, rfl, vl, _, rfl, .str (ch x), _, rfl, vr, _, rfl, rfl, ?_⟩
    refine ⟨_, rfl, vr, tr, rfl, hr', by omega, fun v1 H1 s1 h1 => ?_⟩
    refine ⟨_, rfl, _, rfl, vl, tl, rfl, hl.same s1, by omega, fun v2 H2 s2 h2 => ?_⟩
    refine ⟨(by show 3 ≤ sizeLine; decide), fun r nr => ?_⟩
    have k2 := same_new nr (.tup [v1, .str (ch x), v2])
    exact q _ _ (s1.trans (s2.trans k2)) (.node upd_same (h1.same (s2.trans k2)) (h2.same k2))
theorem ok_glass (F : Fun K "_law_glass" "_law_glass" s__law_glass f fd) (b : Binds K fd ["_law_tree_here"] []) (g : mg "_law_glass" = some (.ref f)) : ∀ n : Nat, FnOk P w K mg base CX0 n f fd ["_law_tree_here"] (spMir n)
  | 0 => by
    have no : ∀ vs H Q E, ¬ spMir 0 vs H Q E := fun vs H Q E h => by
      obtain ⟨v, t, _, _, h1, _⟩ := h
      exact absurd h1 (Nat.not_lt_zero _)
    exact ⟨fun vs H Q E h => absurd h (no vs H Q E), fun A outer s H args us vs Q E _ _ _ _ h => absurd h (no vs H Q E)⟩
  | n + 1 => by
    have Dself : Df P w K mg base n "_law_glass" ["_law_tree_here"] (spMir n) := ⟨f, fd, ok_glass F b g n, b, F.kp, g⟩
    refine F.ok sc__law_glass (fun vs H Q E h => ?_) (fun cdv A outer s H vs Q E hr h => ?_)
    · obtain ⟨v, t, rfl, _⟩ := h
      rfl
    obtain ⟨v, t, rfl, ht, hn, q⟩ := h
    refine ⟨_, (pss_cons (ps_if (pt_cmpR op_isN (pv 0) pe_non (nomark _))
      (pss_one (ps_ret pe_non)) pss_nil)
    (pss_one (ps_ret (pe_tup (pa_cons (pe_call Dself.ok (hr.mono (by omega)) rfl Dself.g Dself.kp Dself.b .nil pass0 (pa_cons (pe_ix ix_tup (pv 0) pe_int (fun _ _ => rfl)) pa_nil)) (pa_cons (pe_ix ix_tup (pv 0) pe_int (fun _ _ => rfl)) (pa_cons (pe_call Dself.ok (hr.mono (by omega)) rfl Dself.g Dself.kp Dself.b .nil pass0 (pa_cons (pe_ix ix_tup (pv 0) pe_int (fun _ _ => rfl)) pa_nil)) pa_nil))))))), ?_⟩
    rcases ht.inv with ⟨rfl, rfl⟩ | ⟨a, vl, vr, x, tl, tr, rfl, rfl, ea, hl, hr'⟩
    · exact ⟨_, rfl, rfl, _, rfl, iteT (q _ _ (Same.refl H) .nil)⟩
    have hz : tl.size + 1 + tr.size < n + 1 := hn
    refine ⟨_, rfl, rfl, _, rfl, iteF ?_⟩
    refine ⟨_, rfl, a, _, 2, vr, rfl, rfl, SqT.of ea, atI_nat (j := 2) rfl, vr, tr, rfl, hr', by omega, fun v1 H1 s1 h1 => ?_⟩
    refine ⟨_, rfl, a, _, 1, _, rfl, rfl, SqT.of (s1 _ _ ea), atI_nat (j := 1) rfl, _, rfl, a, _, 0, vl, rfl, rfl, SqT.of (s1 _ _ ea), atI_nat (j := 0) rfl, vl, tl, rfl, hl.same s1, by omega, fun v2 H2 s2 h2 => ?_⟩
    refine ⟨(by show 3 ≤ sizeLine; decide), fun r nr => ?_⟩
    have k2 := same_new nr (.tup [v1, .str (ch x), v2])
    exact q _ _ (s1.trans (s2.trans k2)) (.node upd_same (h1.same (s2.trans k2)) (h2.same k2))
theorem ok_turn (F : Fun K "_law_turned" "_law_turned" s__law_turned f fd) (M : Mgs mg) (D_law_glass : Df P w K mg base 30 "_law_glass" ["_law_tree_here"] (spMir 30)) : FnOk P w K mg base CX0 31 f fd ["_law_nest_here"] spTurn := by
  refine Tw.Fun.okT F sc__law_turned (by decide +kernel) (by decide) (fun vs H Q E h => ?_) (fun cdv A outer s H vs Q E hr h => ?_)
  · obtain ⟨p, us, es, rfl, _⟩ := h
    rfl
  obtain ⟨p, us, es, rfl, ep, en, gn, e20, q⟩ := h
  refine ⟨_, (psst_cons (PST.of (ps_set (i := 1) sc__law_turned.nd rfl (.inl rfl) (pe_lst pa_nil)))
    (psst_cons (pst_forT PassesOwn.never rfl (pi_tup (pv 0)) (pg_tup rfl (pgs_cons (pg_name (i := 2) sc__law_turned.nd rfl (.inl rfl)) (pgs_cons (pg_name (i := 3) sc__law_turned.nd rfl (.inl rfl)) pgs_nil)))
      (psst_cons (pst_setLcT (i := 6) (own := [("_law_path", 4), ("_law_index", 5)]) (g := gTup K 2 (gCons (gName 4) (gCons (gName 5) gNil))) (tt := tYes) (by rfl) sc__law_turned.nd rfl rfl (sw_true rfl rfl rfl (by decide +kernel)) (pi_tup (pv 3)) (blkOk_by (N := ["_law_nest_here", "_law_found", "_law_tree_here", "_law_links", "_law_path", "_law_index", "_law_swapped"]) (sc := defScope s__law_turned) (by decide +kernel)) ⟨(fun _ _ _ _ _ => (pg_tup rfl (pgs_cons (pg_name (i := 4) sc__law_turned.nd rfl (.inl rfl)) (pgs_cons (pg_name (i := 5) sc__law_turned.nd rfl (.inl rfl)) pgs_nil)))), (fun _ _ _ _ _ => pts_nil), (fun _ _ _ _ _ => (pet_tup (pat_cons (CwR.pet_replT (CwR.pet_replT (CwR.pet_replC (pv 4)))) (pat_cons (CwR.PET.of (pv 5)) pat_nil))))⟩)
    (PSsT.of (pss_one (ps_expr (pe_bm PySem.F.plainAttrs_list PySem.F.slot_list_append PySem.F.type_list_append mt_append (pv 1) (pa_cons (pe_tup (pa_cons (pe_call D_law_glass.ok (hr.mono (by omega)) rfl D_law_glass.g D_law_glass.kp D_law_glass.b .nil pass0 (pa_cons (pv 2) pa_nil)) (pa_cons (pe_callTy call_tuple_of rfl M.tuple (by decide +kernel) (pa_cons (pe_callB (show CallR _ (.builtin "sorted") (rSortTO K) from cr_sortTO) rfl M.sorted (by decide +kernel) (pa_cons (pv 6) pa_nil)) pa_nil)) pa_nil))) pa_nil)))))))
    (PSsT.of (pss_one (ps_ret (pe_callTy call_tuple_of rfl M.tuple (by decide +kernel) (pa_cons (pv 1) pa_nil))))))), ?_⟩
  refine ⟨(by show 0 ≤ sizeLine; decide), fun pf npf => ?_⟩
  have k1 := same_new npf (.lst [])
  have ef := upd_same (H := H) (a := pf) (o := .lst [])
  generalize upd H pf (.lst []) = H1 at k1 ef ⊢
  have el := en.len
  refine ⟨_, rfl, p, rfl, ⟨_, SqT.of (k1 _ _ ep)⟩, ?_⟩
  refine for_tup (K := K) (a := p) (xs := us) (fun k σ H' => ∃ (o2 o3 o4 o5 o6 : Option V) (us' : List V) (es' : List En), σ = [some (.ref p), some (.ref pf), o2, o3, o4, o5, o6] ∧ Same H H' ∧ H' pf = some (.lst us') ∧ EnAt H' us' es' ∧ MirN (es.take k) es' ∧ ∀ e ∈ es', ascE e.2)
    ⟨_, _, _, _, _, [], [], rfl, k1, ef, .nil, ⟨rfl, fun i e e' h _ => by simp at h⟩, fun e h => by cases h⟩ (fun k σ H' _ hp => by obtain ⟨_, _, _, _, _, _, _, _, h, _⟩ := hp; exact SqT.of (h _ _ ep)) (fun k x σ H3 hx hp => ?_) (fun σ H3 hp => ?_)
  · obtain ⟨o2, o3, o4, o5, o6, us', es', rfl, s3, ef3, en3, m3, a3⟩ := hp
    obtain ⟨a, la, tv, ls', t, ls, rfl, ee, ea, at0, ela, lk⟩ := en.get hx
    have hk := (List.getElem?_eq_some_iff.mp ee).1
    have ge := gn k _ ee
    have ll := lk.len
    have lsl := links_len ge (Nat.le_refl _)
    have t12 : t.size ≤ 12 := ge.s2
    refine ⟨a, _, rfl, SqT.of (s3 _ _ ea), rfl, _, _, rfl, _, _, rfl, rfl, ?_⟩
    refine ⟨_, rfl, la, rfl, ⟨_, SqT.of (s3 _ _ ela)⟩, fun D nD => ?_⟩
    have kD := same_new nD (.lst [])
    refine lc_tup (K := K) (a := la) (xs := ls') (fun j H' => Same H3 H' ∧ ∃ vs, H' D = some (.lst vs) ∧ LkAt H' vs ((ls.take j).map swL)) ⟨kD, [], upd_same, .nil⟩ (fun j H' _ hp => SqT.of (hp.1 _ _ (s3 _ _ ela))) (fun j x H5 hx5 hp => ?_) (fun H5 hp => ?_)
    · obtain ⟨s5, vs, eD, lkD⟩ := hp
      obtain ⟨b, pq, n, rfl, el5, eb⟩ := lk.get hx5
      have hj := (List.getElem?_eq_some_iff.mp el5).1
      have pin := List.mem_of_getElem? el5
      have opp : pq ∈ t.op := ge.op (pq, n) pin
      have sg := op_signs t pq opp
      have dp := op_deep opp
      have dl := t.deep_le
      obtain ⟨b1, b2, b3⟩ := rep_bnd (p := pq) (by omega)
      refine ⟨b, _, rfl, SqT.of (s5 _ _ (s3 _ _ eb)), rfl, _, _, rfl, _, _, rfl, rfl, rfl, kept ?_⟩
      refine ⟨_, rfl, _, rfl, b1, _, rfl, b2, _, rfl, b3, _, rfl, (by show 2 ≤ sizeLine; decide), fun pt npt => ?_⟩
      rw [swap_tx sg]
      have k6 := same_new npt (.tup [.str (tx (sws pq)), .int (n : Int)])
      have et := upd_same (H := H5) (a := pt) (o := .tup [.str (tx (sws pq)), .int (n : Int)])
      have eD6 := k6 _ _ eD
      have vl := lkD.len
      rw [List.length_map, List.length_take] at vl
      have lk6 := lkD.keep (Tw.Same.keepT k6)
      have s6 := s5.trans k6
      generalize upd H5 pt (.tup [.str (tx (sws pq)), .int (n : Int)]) = H6 at k6 et eD6 lk6 s6 ⊢
      have kT : KeepT H6 (upd H6 D (.lst (vs ++ [.ref pt]))) := fun b xs e => by
        rw [upd_ne (fun z => by rw [z, eD6] at e; cases e)]; exact e
      refine ⟨vs, eD6, small1000 (by omega), fun b o e => ?_, vs ++ [.ref pt], upd_same, ?_⟩
      · rw [upd_ne (ne_of_none e nD)]; exact s6 _ _ e
      · rw [take_next el5, List.map_append]
        exact (lk6.keep kT).snoc (p := sws pq) (i := n) (kT _ _ et)
    · obtain ⟨s5, vs, eD, lkD⟩ := hp
      rw [ll, List.take_of_length_le (Nat.le_refl _)] at lkD
      have ef5 := s5 _ _ ef3
      have s35 := s3.trans s5
      refine ⟨_, rfl, .inl ⟨rfl, _, SqL.of ef5⟩, _, rfl, tv, t, rfl, (at0.same s3).same s5, by omega, fun v' H6 s6 at6 => ?_⟩
      have lk6 := lkD.keep (Tw.Same.keepT s6)
      refine ⟨_, rfl, D, vs, rfl, SqL.of (s6 _ _ eD), lk6.mem, fun ys ps perm ord nps => ?_⟩
      obtain ⟨ks, lkS, pk⟩ := lk6.perm perm
      have ndk : (ks.map (·.1)).Nodup := by
        rw [(pk.map (·.1)).nodup_iff, map_sws]
        exact nodup_sws ge.nd
      have asc := asc_of ord lkS ndk
      have k7 := same_new nps (.lst ys)
      have es7 := upd_same (H := H6) (a := ps) (o := .lst ys)
      have s7 := (s35.trans s6).trans k7
      have ef7 := k7 _ _ (s6 _ _ ef5)
      have at7 := at6.same k7
      have lk7 := lkS.keep (Tw.Same.keepT k7)
      have en7 := ((en3.keep (Tw.Same.keepT s5)).keep (Tw.Same.keepT s6)).keep (Tw.Same.keepT k7)
      generalize upd H6 ps (.lst ys) = H7 at k7 es7 s7 ef7 at7 lk7 en7 ⊢
      refine ⟨ps, ys, rfl, .inl ⟨SqL.of es7, fun pt npt => ?_⟩⟩
      have k8 := same_new npt (.tup ys)
      have et8 := upd_same (H := H7) (a := pt) (o := .tup ys)
      have s8 := s7.trans k8
      have ef8 := k8 _ _ ef7
      have at8 := at7.same k8
      have lk8 := lk7.keep (Tw.Same.keepT k8)
      have en8 := en7.keep (Tw.Same.keepT k8)
      generalize upd H7 pt (.tup ys) = H8 at k8 et8 s8 ef8 at8 lk8 en8 ⊢
      refine ⟨(by show 2 ≤ sizeLine; decide), fun pe npe => ?_⟩
      have k9 := same_new npe (.tup [v', .ref pt])
      have ee9 := upd_same (H := H8) (a := pe) (o := .tup [v', .ref pt])
      have s9 := s8.trans k9
      have ef9 := k9 _ _ ef8
      have et9 := k9 _ _ et8
      have at9 := at8.same k9
      have lk9 := lk8.keep (Tw.Same.keepT k9)
      have en9 := en8.keep (Tw.Same.keepT k9)
      generalize upd H8 pe (.tup [v', .ref pt]) = H9 at k9 ee9 s9 ef9 et9 at9 lk9 en9 ⊢
      have ul := en9.len
      have ml := m3.len
      rw [List.length_take] at ml
      have kT : KeepT H9 (upd H9 pf (.lst (us' ++ [.ref pe]))) := fun b xs e => by
        rw [upd_ne (fun z => by rw [z, ef9] at e; cases e)]; exact e
      refine ⟨pf, _, _, rfl, rfl, ef9, by show _ < 16777216; omega, ?_⟩
      refine ⟨_, _, _, _, _, us' ++ [.ref pe], es' ++ [(t.mir, ks)], rfl, fun b o e => by rw [upd_ne (ne_of_none e npf)]; exact s9 _ _ e, upd_same, (en9.keep kT).snoc (kT _ _ ee9) (at9.keep kT) (kT _ _ et9) (lk9.keep kT), ?_, fun e he => ?_⟩
      · rw [take_next ee]
        exact m3.snoc ⟨rfl, pk⟩
      · rcases List.mem_append.mp he with he | he
        · exact a3 e he
        · rw [List.mem_singleton.mp he]
          exact asc
  · obtain ⟨o2, o3, o4, o5, o6, us', es', rfl, s3, ef3, en3, m3, a3⟩ := hp
    rw [el, List.take_of_length_le (Nat.le_refl _)] at m3
    refine ⟨_, rfl, pf, us', rfl, .inl ⟨SqL.of ef3, fun pr npr => ?_⟩⟩
    have k4 := same_new npr (.tup us')
    exact q pr us' es' _ (s3.trans k4) upd_same (en3.keep (Tw.Same.keepT k4)) m3 a3
end
/-! ### _law_right -/
theorem kd_of {v : V} (h : v ∈ [V.str "first", V.str "between", V.str "last"]) : ∃ k : Kd, v = .str k.str := by
  simp only [List.mem_cons, List.mem_nil_iff, or_false] at h
  rcases h with rfl | rfl | rfl
  · exact ⟨.first, rfl⟩
  · exact ⟨.between, rfl⟩
  · exact ⟨.last, rfl⟩
theorem int_ok {m : Nat} (h : m < 10 ^ 30) : okR (.int (m : Int)) = true := by
  simp only [okR, Bool.and_eq_true, decide_eq_true_eq]
  exact ⟨by omega, int_lt h⟩
theorem one_ok {m : Nat} (h : m < 10 ^ 30) : okR (.int (m : Int)) = true ∧ wtR (.int (m : Int)) ≤ 1000000 ∧ (PyData.int (m : Int)).depth ≤ 60 := ⟨int_ok h, (by show 31 ≤ 1000000; decide), by simp only [PyData.depth]; decide⟩
def twoD (a b : Nat) : PyData := .list [.int (a : Int), .int (b : Int)]
theorem two_ok {a b : Nat} (h : a < 10 ^ 30) (h' : b < 10 ^ 30) : okR (twoD a b) = true ∧ wtR (twoD a b) ≤ 1000000 ∧ (twoD a b).depth ≤ 60 := by
  refine ⟨?_, ?_, ?_⟩
  · simp only [twoD, okR, okRs]
    have := int_ok h
    have h2 := int_ok h'
    simp only [okR] at this h2
    rw [this, h2]
    rfl
  · simp only [twoD, wtR, wtRs]; decide
  · simp only [twoD, PyData.depth, PyData.depthAll]; decide
theorem sign_ok {c : Nat} (h : c < 128) : okR (.str (ch c)) = true ∧ wtR (.str (ch c)) ≤ 1000000 ∧ (PyData.str (ch c)).depth ≤ 60 := by
  refine ⟨?_, ?_, ?_⟩
  · show (decide (1 ≤ 64) && [c].all (· < 128)) = true
    have : decide (c < 128) = true := decide_eq_true h
    rw [List.all_cons, this]
    rfl
  · simp only [wtR]
    show 10 * 1 + 2 ≤ 1000000
    decide
  · simp only [PyData.depth]; decide
theorem cnt_le' (zs : List Nat) : ∀ t : B, t.cnt zs ≤ t.size
  | .nil => Nat.le_refl _
  | .node l x r => by
    have h1 := cnt_le' zs l
    have h2 := cnt_le' zs r
    show l.cnt zs + r.cnt zs + (if x ∈ zs then 1 else 0) ≤ l.size + 1 + r.size
    split <;> omega
/-- the dict of the walks' counterparts -/
def kvO : List (Key × V) := [(.inr "first", .str "last"), (.inr "between", .str "between"), (.inr "last", .str "first")]
theorem opp_get (k : Kd) : valV (mergeK [] kvO) (.inr k.str) = some (.str k.opp.str) := by cases k <;> decide +kernel
theorem oth_mir {X : B} {k2 : Kd} {m m' : Nat} {W : List Nat} {c : Nat} (h1 : (X.steps k2 [])[m]? = some (W, c)) (h2 : (X.mir.steps k2.opp [])[m']? = some (sws W, c)) : m' = X.size - 1 - m := nodup_get (paths_nodup k2.opp X.mir) (path_get h2) (path_get (step_mir h1))
def spRight : Sp := fun vs H Q _ => ∃ (D : Deck) (n : Nat) (p : Addr) (us : List V) (es : List En) (X : B), vs = [.ref D.dk, .ref p] ∧ DeckOk H D n ∧ n + 10 ≤ 1000000 ∧ H p = some (.tup us) ∧ EnAt H us es ∧ GoodN 12 es ∧ 1 ≤ es.length ∧ es.length ≤ 20 ∧ (fulls es)[es.length - 1]? = some X ∧
  ∀ (H' : Hp) (n' : Nat), DeckOk H' D n' → n' ≤ n + 6 → SameD D H H' → Q (.bl true) H'
section
variable {P : Program} {w : World} {K : PySem.W.Frag} {mg : Str → Option Value} {base : Heap} {f : Addr} {fd : FuncData}
theorem ok_right (F : Fun K "_law_right" "_law_right" s__law_right f fd) (M : Mgs mg)
    (Dnest_size : Df P w K mg base 32 "nest_size" ["nest"] (spOf (fun X _ => vn (X.cnt (Str.ofString "abcdefghijklmnopqrstuvwxyz").cps.toList)) [])) (Dnest_depth : Df P w K mg base 32 "nest_depth" ["nest"] (spOf (fun X _ => vn X.deep) []))
    (Dcount_label : Df P w K mg base 32 "count_label" ["nest", "label"] (spLab K)) (Dlabel_in : Df P w K mg base 32 "label_in" ["nest", "kind", "place"] spLabIn) (Dother_place : Df P w K mg base 32 "other_place" ["nest", "kind", "place", "other"] spOther)
    (Dis_nest : Df P w K mg base 6 "is_nest" ["value"] spNestQ) (D_law_turned : Df P w K mg base 31 "_law_turned" ["_law_nest_here"] spTurn) (D_law_draw : Df P w K mg base 1 "_law_draw" ["_law_deck_here", "_law_many"] spDraw) (D_law_pick : Df P w K mg base 2 "_law_pick" ["_law_deck_here", "_law_items"] (spPick K))
    (D_law_same : DfG P w K mg base 1 "_law_same" ["_law_found", "_law_due"] (spSameV K)) :
    FnOkG P w K mg base 34 f fd ["_law_deck_here", "_law_nest_here"] spRight := by
  refine fnG F sc__law_right (fun vs H Q E h => ?_) (fun cdv A outer s H vs Q E gs hr h => ?_)
  · obtain ⟨D, n, p, us, es, X, rfl, _⟩ := h
    rfl
  obtain ⟨D, n, p, us, es, X, rfl, d, hn, ep, en, gn, e1, e20, eX, q⟩ := h
  obtain ⟨xsz, xlt⟩ := full_size gn e20 eX
  have x1 := full_pos gn e1 eX
  have wl : ∀ k, (X.wk k).length = X.size := X.wk_len
  have lt128 : ∀ k, ∀ c ∈ X.wk k, c < 128 := fun k c hc => by have := xlt c ((wk_mem k X c).mp hc); omega
  refine ⟨_, (pss_cons (ps_par (i := 2) (j := 3) (by rfl) sc__law_right.nd rfl rfl (by decide) rfl rfl (pa_cons (pe_call D_law_turned.ok (hr.mono (by omega)) rfl D_law_turned.g D_law_turned.kp D_law_turned.b .nil pass0 (pa_cons (pv 1) pa_nil)) (pa_cons (pe_call Dnest_size.ok (hr.mono (by omega)) rfl Dnest_size.g Dnest_size.kp Dnest_size.b .nil pass0 (pa_cons (pv 1) pa_nil)) pa_nil)) (by rfl))
    (pss_cons (ps_set (i := 4) sc__law_right.nd rfl (.inl rfl) (pe_disp (pps_cons pe_str pe_str (pps_cons pe_str pe_str (pps_cons pe_str pe_str pps_nil))) rfl rfl (by simp) (by decide)))
    (pss_cons (ps_if (pt_cmpR op_notBl (pe_call Dis_nest.ok (hr.mono (by omega)) rfl Dis_nest.g Dis_nest.kp Dis_nest.b .nil pass0 (pa_cons (pv 2) pa_nil)) pe_bl (nomark _))
      (pss_one (ps_ret pe_bl)) pss_nil)
    (pss_cons (ps_if (pt_not (pt_val (pe_callG D_law_same.ok gs (hr.mono (by omega)) rfl D_law_same.g D_law_same.kp D_law_same.b (pa_cons (pe_lst (pa_cons (pe_call Dnest_size.ok (hr.mono (by omega)) rfl Dnest_size.g Dnest_size.kp Dnest_size.b .nil pass0 (pa_cons (pv 2) pa_nil)) (pa_cons (pe_call Dnest_depth.ok (hr.mono (by omega)) rfl Dnest_depth.g Dnest_depth.kp Dnest_depth.b .nil pass0 (pa_cons (pv 2) pa_nil)) pa_nil))) (pa_cons (pe_lst (pa_cons (pv 3) (pa_cons (pe_call Dnest_depth.ok (hr.mono (by omega)) rfl Dnest_depth.g Dnest_depth.kp Dnest_depth.b .nil pass0 (pa_cons (pv 1) pa_nil)) pa_nil))) pa_nil)))))
      (pss_one (ps_ret pe_bl)) pss_nil)
    (pss_cons (ps_for PassesOwn.never rfl (pi_str pe_str) (pg_name (i := 5) sc__law_right.nd rfl (.inl rfl))
      (pss_one (ps_if (pt_not (pt_val (pe_callG D_law_same.ok gs (hr.mono (by omega)) rfl D_law_same.g D_law_same.kp D_law_same.b (pa_cons (pe_call Dcount_label.ok (hr.mono (by omega)) rfl Dcount_label.g Dcount_label.kp Dcount_label.b .nil pass0 (pa_cons (pv 2) (pa_cons (pv 5) pa_nil))) (pa_cons (pe_call Dcount_label.ok (hr.mono (by omega)) rfl Dcount_label.g Dcount_label.kp Dcount_label.b .nil pass0 (pa_cons (pv 1) (pa_cons (pv 5) pa_nil))) pa_nil)))))
      (pss_one (ps_ret pe_bl)) pss_nil)))
    (pss_cons (ps_for PassesOwn.never rfl (pi_list (pe_lst (pa_cons pe_str (pa_cons pe_str (pa_cons pe_str pa_nil))))) (pg_name (i := 6) sc__law_right.nd rfl (.inl rfl))
      (pss_one (ps_for PassesOwn.never rfl (pi_list (pe_lst (pa_cons (pe_call D_law_pick.ok (hr.mono (by omega)) rfl D_law_pick.g D_law_pick.kp D_law_pick.b .nil pass0 (pa_cons (pv 0) (pa_cons (pe_lst (pa_cons pe_int (pa_cons (pe_op op_sub (pv 3) pe_int) pa_nil))) pa_nil))) (pa_cons (pe_call D_law_draw.ok (hr.mono (by omega)) rfl D_law_draw.g D_law_draw.kp D_law_draw.b .nil pass0 (pa_cons (pv 0) (pa_cons (pv 3) pa_nil))) pa_nil)))) (pg_name (i := 7) sc__law_right.nd rfl (.inl rfl))
      (pss_cons (ps_set (i := 8) sc__law_right.nd rfl (.inl rfl) (pe_op op_sub (pe_op op_sub (pv 3) pe_int) (pv 7)))
    (pss_cons (ps_if (pt_not (pt_val (pe_callG D_law_same.ok gs (hr.mono (by omega)) rfl D_law_same.g D_law_same.kp D_law_same.b (pa_cons (pe_call Dlabel_in.ok (hr.mono (by omega)) rfl Dlabel_in.g Dlabel_in.kp Dlabel_in.b .nil pass0 (pa_cons (pv 2) (pa_cons (pe_dget (hu_of hr) (pv 4) (pv 6) (fun _ _ => rfl)) (pa_cons (pv 8) pa_nil)))) (pa_cons (pe_call Dlabel_in.ok (hr.mono (by omega)) rfl Dlabel_in.g Dlabel_in.kp Dlabel_in.b .nil pass0 (pa_cons (pv 1) (pa_cons (pv 6) (pa_cons (pv 7) pa_nil)))) pa_nil)))))
      (pss_one (ps_ret pe_bl)) pss_nil)
    (pss_one (ps_for PassesOwn.never rfl (pi_list (pe_lst (pa_cons pe_str (pa_cons pe_str (pa_cons pe_str pa_nil))))) (pg_name (i := 9) sc__law_right.nd rfl (.inl rfl))
      (pss_cons (ps_set (i := 10) sc__law_right.nd rfl (.inl rfl) (pe_call Dother_place.ok (hr.mono (by omega)) rfl Dother_place.g Dother_place.kp Dother_place.b .nil pass0 (pa_cons (pv 2) (pa_cons (pe_dget (hu_of hr) (pv 4) (pv 6) (fun _ _ => rfl)) (pa_cons (pv 8) (pa_cons (pe_dget (hu_of hr) (pv 4) (pv 9) (fun _ _ => rfl)) pa_nil))))))
    (pss_one (ps_if (pt_not (pt_val (pe_callG D_law_same.ok gs (hr.mono (by omega)) rfl D_law_same.g D_law_same.kp D_law_same.b (pa_cons (pv 10) (pa_cons (pe_op op_sub (pe_op op_sub (pv 3) pe_int) (pe_call Dother_place.ok (hr.mono (by omega)) rfl Dother_place.g Dother_place.kp Dother_place.b .nil pass0 (pa_cons (pv 1) (pa_cons (pv 6) (pa_cons (pv 7) (pa_cons (pv 9) pa_nil)))))) pa_nil)))))
      (pss_one (ps_ret pe_bl)) pss_nil))))))))))
    (pss_one (ps_ret pe_bl)))))))), ?_⟩
  refine ⟨_, rfl, p, us, es, rfl, ep, en, gn, e20, fun pg ug eg H1 s1 epg eng mm asc => ?_⟩
  have gg := gn.mir mm
  have lg := mm.len
  have eXg : (fulls eg)[eg.length - 1]? = some X.mir := by rw [lg]; exact fulls_mir gn mm _ _ eX
  have ms := X.mir_size
  have md := X.mir_deep
  refine ⟨_, rfl, p, us, es, X, rfl, s1 _ _ ep, en.keep (Tw.Same.keepT s1), gn, e1, e20, eX, fun H2 s2 => ⟨_, _, rfl, ?_⟩⟩
  have eN : ∀ X : B, (∀ c ∈ X.pre, 97 ≤ c ∧ c ≤ 122) → (fun (X : B) (_ : List V) => vn (X.cnt (Str.ofString "abcdefghijklmnopqrstuvwxyz").cps.toList)) X [] = vn X.size := fun X h => congrArg (fun n : Nat => V.int (n : Int)) (alph_all h)
  rw [eN X xlt]
  have s02 := s1.trans s2
  refine fun po npo => ⟨upd_same, kvO, rfl, by decide, ?_⟩
  have k3 : Same H2 (upd (upd H2 po (.dK [])) po (.dK (mergeK [] kvO))) := fun b o e => by rw [upd_ne (ne_of_none e npo), upd_ne (ne_of_none e npo)]; exact e
  have eo := upd_same (H := upd H2 po (.dK [])) (a := po) (o := .dK (mergeK [] kvO))
  have d3 := (d.same s02).same k3
  have oo := (d.same s02).new npo
  have s03 := s02.trans k3
  have s13 := s2.trans k3
  generalize upd (upd H2 po (.dK [])) po (.dK (mergeK [] kvO)) = H3 at k3 eo d3 s03 s13 ⊢
  have ep3 := s03 _ _ ep
  have en3 := en.keep (Tw.Same.keepT s03)
  have epg3 := s13 _ _ epg
  have eng3 := eng.keep (Tw.Same.keepT s13)
  obtain ⟨v1, v2, v3⟩ := nest_val gg (by omega) (by omega) asc
  refine ⟨_, rfl, .ref pg, D, nestD eg, rfl, .tup (offT d3 epg3) epg3 (eng3.dq d3), v1, v2, fun H4 s4 => ?_⟩
  rw [v3]
  refine ⟨_, _, rfl, rfl, false, rfl, iteF ?_⟩
  have xltg : ∀ c ∈ X.mir.pre, 97 ≤ c ∧ c ≤ 122 := fun c hc => xlt c ((B.mir_pre X c).mp hc)
  have g1 : 1 ≤ eg.length := by omega
  have g20 : eg.length ≤ 20 := by omega
  -- sizes and depths
  have ep4 := s4 _ _ ep3
  have en4 := en3.keep (Tw.Same.keepT s4)
  have epg4 := s4 _ _ epg3
  have eng4 := eng3.keep (Tw.Same.keepT s4)
  refine ⟨_, rfl, pg, ug, eg, X.mir, rfl, epg4, eng4, gg, g1, g20, eXg, fun H5 s5 => ?_⟩
  rw [eN X.mir xltg]
  refine ⟨_, rfl, pg, ug, eg, X.mir, rfl, s5 _ _ epg4, eng4.keep (Tw.Same.keepT s5), gg, g1, g20, eXg, fun H6 s6 => ⟨(by show 2 ≤ sizeLine; decide), fun l1 nl1 => ?_⟩⟩
  have k7 := same_new nl1 (.lst [vn X.mir.size, (fun (X : B) (_ : List V) => vn X.deep) X.mir []])
  have el1 := upd_same (H := H6) (a := l1) (o := .lst [vn X.mir.size, (fun (X : B) (_ : List V) => vn X.deep) X.mir []])
  have s47 := (s5.trans s6).trans k7
  generalize upd H6 l1 (.lst [vn X.mir.size, (fun (X : B) (_ : List V) => vn X.deep) X.mir []]) = H7 at k7 el1 s47 ⊢
  refine ⟨_, rfl, _, rfl, p, us, es, X, rfl, s47 _ _ ep4, en4.keep (Tw.Same.keepT s47), gn, e1, e20, eX, fun H8 s8 => ⟨(by show 2 ≤ sizeLine; decide), fun l2 nl2 => ?_⟩⟩
  have k9 := same_new nl2 (.lst [vn X.size, (fun (X : B) (_ : List V) => vn X.deep) X []])
  have el2 := upd_same (H := H8) (a := l2) (o := .lst [vn X.size, (fun (X : B) (_ : List V) => vn X.deep) X []])
  have el1 := k9 _ _ (s8 _ _ el1)
  have s49 := (s47.trans s8).trans k9
  generalize upd H8 l2 (.lst [vn X.size, (fun (X : B) (_ : List V) => vn X.deep) X []]) = H9 at k9 el1 el2 s49 ⊢
  have dl := X.deep_le
  obtain ⟨t1, t2, t3⟩ := two_ok xsz (Nat.lt_of_le_of_lt dl xsz)
  have dp1 : Dp K H9 (.ref l1) (twoD X.size X.deep) := by
    rw [← ms, ← md]
    exact .lst (SqL.of el1) (.cons (.int _) (.cons (.int _) .nil))
  refine ⟨_, _, twoD X.size X.deep, rfl, dp1, .lst (SqL.of el2) (.cons (.int _) (.cons (.int _) .nil)), t1, t2, t3, ?_⟩
  refine ⟨_, rfl, iteF ?_⟩
  have s39 := s4.trans s49
  have d9 := d3.same s39
  have s09 := s03.trans s39
  have ep9 := s39 _ _ ep3
  have en9 := en3.keep (Tw.Same.keepT s39)
  have epg9 := s39 _ _ epg3
  have eng9 := eng3.keep (Tw.Same.keepT s39)
  have eo9 := s39 _ _ eo
  clear k7 k9 el1 el2 s47 s49 dp1 t1 t2 t3
  -- the letters
  refine ⟨_, rfl, ?_⟩
  refine for_text (x := Str.ofString "abz") (fun j σ H' => ∃ (o5 o6 o7 o8 o9 o10 : Option V), σ = [some (.ref D.dk), some (.ref p), some (.ref pg), some (vn X.size), some (.ref po), o5, o6, o7, o8, o9, o10] ∧ Same H9 H') ⟨_, _, _, _, _, _, rfl, Same.refl _⟩ (fun j c σ Ha hc hp => ?_) (fun σ Ha hp => ?_)
  · obtain ⟨o5, o6, o7, o8, o9, o10, rfl, sa⟩ := hp
    refine ⟨_, rfl, _, rfl, pg, ug, eg, X.mir, [c], rfl, sa _ _ epg9, eng9.keep (Tw.Same.keepT sa), gg, g1, g20, eXg, fun Hb sb => ?_⟩
    refine ⟨_, rfl, _, rfl, p, us, es, X, [c], rfl, (sa.trans sb) _ _ ep9, en9.keep (Tw.Same.keepT (sa.trans sb)), gn, e1, e20, eX, fun Hc sc => ?_⟩
    rw [B.mir_cnt]
    obtain ⟨n1, n2, n3⟩ := one_ok (Nat.lt_of_le_of_lt (cnt_le' [c] X) xsz)
    refine ⟨_, _, .int ((X.cnt [c] : Nat) : Int), rfl, .int _, .int _, n1, n2, n3, ?_⟩
    exact ⟨_, rfl, iteF ⟨_, _, _, _, _, _, rfl, sa.trans (sb.trans sc)⟩⟩
  obtain ⟨o5, o6, o7, o8, o9, o10, rfl, sa⟩ := hp
  have da := d9.same sa
  have epa := sa _ _ ep9
  have ena := en9.keep (Tw.Same.keepT sa)
  have epga := sa _ _ epg9
  have enga := eng9.keep (Tw.Same.keepT sa)
  have eoa := sa _ _ eo9
  have s0a := s09.trans sa
  -- the kinds
  refine ⟨(by show 3 ≤ sizeLine; decide), fun pk npk => ?_⟩
  have kb := same_new npk (.lst [.str "first", .str "between", .str "last"])
  have epk := upd_same (H := Ha) (a := pk) (o := .lst [.str "first", .str "between", .str "last"])
  have ok := da.new npk
  have db := da.same kb
  have epb := kb _ _ epa
  have enb := ena.keep (Tw.Same.keepT kb)
  have epgb := kb _ _ epga
  have engb := enga.keep (Tw.Same.keepT kb)
  have eob := kb _ _ eoa
  have s0b := s0a.trans kb
  generalize upd Ha pk (.lst [.str "first", .str "between", .str "last"]) = Hb at kb epk db epb enb epgb engb eob s0b ⊢
  refine ⟨pk, rfl, ⟨_, SqL.of epk⟩, ?_⟩
  refine for_list (K := K) (a := pk) (xs := [.str "first", .str "between", .str "last"]) (fun j σ H' => ∃ (o6 o7 o8 o9 o10 : Option V) (n' : Nat), σ = [some (.ref D.dk), some (.ref p), some (.ref pg), some (vn X.size), some (.ref po), o5, o6, o7, o8, o9, o10] ∧ DeckOk H' D n' ∧ n' ≤ n + 2 * j ∧ SameD D Hb H') ⟨_, _, _, _, _, n, rfl, db, Nat.le_refl _, SameD.refl D Hb⟩ (fun j σ H' _ hp => by obtain ⟨_, _, _, _, _, _, _, _, _, sm⟩ := hp; exact SqL.of (sm.at ok epk)) (fun j z σ Hc hz hp => ?_) (fun σ Hc hp => ?_)
  · obtain ⟨o6, o7, o8, o9, o10, n', rfl, dc, nb, sc⟩ := hp
    have hj : j < 3 := (List.getElem?_eq_some_iff.mp hz).1
    obtain ⟨k, rfl⟩ := kd_of (List.mem_of_getElem? hz)
    refine ⟨_, rfl, _, rfl, _, _, rfl, rfl, (by show 2 ≤ sizeLine; decide), fun pi npi => ?_⟩
    have kd := same_new npi (.lst [.int 0, .int ((X.size : Int) - 1)])
    refine ⟨D, n', _, rfl, dc.same kd, by omega, .inr ⟨pi, _, rfl, upd_same, dc.new npi, List.cons_ne_nil _ _, (by show 2 ≤ 60; decide), fun x Hd hx dd sd => ?_⟩⟩
    obtain ⟨pl, rfl, hpl⟩ : ∃ pl : Nat, x = vn pl ∧ pl < X.size := by
      rcases List.mem_cons.mp hx with rfl | hx
      · exact ⟨0, rfl, x1⟩
      · rw [List.mem_singleton.mp hx]
        exact ⟨X.size - 1, congrArg V.int (by omega), by omega⟩
    refine ⟨_, rfl, _, rfl, D, n' + 1, (X.size : Int), rfl, dd, by omega, by omega, Int.lt_of_lt_of_le (int_lt xsz) (by decide), fun i He i0 i1 de se => ⟨(by show 2 ≤ sizeLine; decide), fun pq npq => ?_⟩⟩
    have kf := same_new npq (.lst [vn pl, .int i])
    have epq := upd_same (H := He) (a := pq) (o := .lst [vn pl, .int i])
    have df := de.same kf
    have sf : SameD D Hb (upd He pq (.lst [vn pl, .int i])) := sc.trans ((SameD.of kd).trans (sd.trans (se.trans (.of kf))))
    have oq := de.new npq
    generalize upd He pq (.lst [vn pl, .int i]) = Hf at kf epq df sf ⊢
    have epf := sf.keepT db _ _ epb
    have enf := enb.keep (sf.keepT db)
    have epgf := sf.keepT db _ _ epgb
    have engf := engb.keep (sf.keepT db)
    have oob : Off D po := oo
    have eof := sf.at oob eob
    refine ⟨pq, rfl, ⟨_, SqL.of epq⟩, ?_⟩
    refine for_list (K := K) (a := pq) (xs := [vn pl, .int i]) (fun j σ H' => ∃ (o7 o8 o9 o10 : Option V), σ = [some (.ref D.dk), some (.ref p), some (.ref pg), some (vn X.size), some (.ref po), o5, some (.str k.str), o7, o8, o9, o10] ∧ Same Hf H') ⟨_, _, _, _, rfl, Same.refl _⟩ (fun j σ H' _ hp => by obtain ⟨_, _, _, _, _, sm⟩ := hp; exact SqL.of (sm _ _ epq)) (fun j2 z σ Hg hz2 hp => ?_) (fun σ Hg hp => ?_)
    · obtain ⟨o7, o8, o9, o10, rfl, sg⟩ := hp
      obtain ⟨m0, rfl, hm0⟩ : ∃ m0 : Nat, z = vn m0 ∧ m0 < X.size := by
        rcases List.mem_cons.mp (List.mem_of_getElem? hz2) with rfl | hx
        · exact ⟨pl, rfl, hpl⟩
        · rw [List.mem_singleton.mp hx]
          exact ⟨i.toNat, congrArg V.int (by omega), by omega⟩
      obtain ⟨⟨W, c⟩, hW⟩ : ∃ x, (X.steps k [])[m0]? = some x := ⟨_, List.getElem?_eq_getElem (by rw [B.steps_len]; exact hm0)⟩
      have hWg := step_mir hW
      have hc : (X.wk k)[m0]? = some c := by rw [← X.steps_wk k [], List.getElem?_map, hW]; rfl
      have hcg := wk_mir hc
      refine ⟨_, rfl, _, _, rfl, rfl, _, rfl, _, _, rfl, rfl, ?_⟩
      have et : (X.size : Int) - 1 - ((m0 : Nat) : Int) = ((X.size - 1 - m0 : Nat) : Int) := by omega
      -- the labels
      refine ⟨_, rfl, _, rfl, _, rfl, po, .str k.opp.str, rfl, .inl ⟨_, .inr k.str, .inl (sg _ _ eof), rfl, (opp_get k).symm⟩, ?_⟩
      refine ⟨_, rfl, pg, ug, eg, X.mir, k.opp, X.size - 1 - m0, c, (by show _ = [V.ref pg, V.str k.opp.str, V.int ((X.size - 1 - m0 : Nat) : Int)]; rw [← et]; rfl), sg _ _ epgf, engf.keep (Tw.Same.keepT sg), gg, g1, g20, eXg, hcg, fun Hh sh => ?_⟩
      have sgh := sg.trans sh
      refine ⟨_, rfl, _, rfl, _, rfl, p, us, es, X, k, m0, c, rfl, sgh _ _ epf, enf.keep (Tw.Same.keepT sgh), gn, e1, e20, eX, hc, fun Hi si => ?_⟩
      obtain ⟨w1, w2, w3⟩ := sign_ok (lt128 k c (List.mem_of_getElem? hc))
      refine ⟨_, _, .str (ch c), rfl, .str _, .str _, w1, w2, w3, ?_⟩
      refine ⟨_, rfl, iteF ?_⟩
      have sgi := sgh.trans si
      -- the other walks
      refine ⟨(by show 3 ≤ sizeLine; decide), fun pt npt => ?_⟩
      have kj := same_new npt (.lst [.str "first", .str "between", .str "last"])
      have ept := upd_same (H := Hi) (a := pt) (o := .lst [.str "first", .str "between", .str "last"])
      have sfj := sgi.trans kj
      generalize upd Hi pt (.lst [.str "first", .str "between", .str "last"]) = Hj at kj ept sfj ⊢
      refine ⟨pt, rfl, ⟨_, SqL.of ept⟩, ?_⟩
      refine for_list (K := K) (a := pt) (xs := [.str "first", .str "between", .str "last"]) (fun j σ H' => ∃ (o9 o10 : Option V), σ = [some (.ref D.dk), some (.ref p), some (.ref pg), some (vn X.size), some (.ref po), o5, some (.str k.str), some (vn m0), some (.int ((X.size : Int) - 1 - ((m0 : Nat) : Int))), o9, o10] ∧ Same Hj H') ⟨_, _, rfl, Same.refl _⟩ (fun j σ H' _ hp => by obtain ⟨_, _, _, sm⟩ := hp; exact SqL.of (sm _ _ ept)) (fun j3 z σ Hl hz3 hp => ?_) (fun σ Hl hp => ?_)
      · obtain ⟨o9, o10, rfl, sl⟩ := hp
        obtain ⟨k2, rfl⟩ := kd_of (List.mem_of_getElem? hz3)
        have sfl := sfj.trans sl
        refine ⟨_, rfl, _, rfl, _, rfl, po, .str k.opp.str, rfl, .inl ⟨_, .inr k.str, .inl (sfl _ _ eof), rfl, (opp_get k).symm⟩, ?_⟩
        refine ⟨_, rfl, _, rfl, _, rfl, po, .str k2.opp.str, rfl, .inl ⟨_, .inr k2.str, .inl (sfl _ _ eof), rfl, (opp_get k2).symm⟩, ?_⟩
        refine ⟨pg, ug, eg, X.mir, k.opp, k2.opp, X.size - 1 - m0, sws W, c, (by show _ = [V.ref pg, V.str k.opp.str, V.int ((X.size - 1 - m0 : Nat) : Int), V.str k2.opp.str]; rw [← et]; rfl), sfl _ _ epgf, engf.keep (Tw.Same.keepT sfl), gg, g1, g20, eXg, hWg, fun m' Hm sm hm' => ?_⟩
        have sfm := sfl.trans sm
        refine ⟨_, rfl, _, rfl, _, _, rfl, rfl, ?_⟩
        refine ⟨_, rfl, _, rfl, _, rfl, _, rfl, p, us, es, X, k, k2, m0, W, c, rfl, sfm _ _ epf, enf.keep (Tw.Same.keepT sfm), gn, e1, e20, eX, hW, fun m Hn sn hm => ?_⟩
        have mlt := (List.getElem?_eq_some_iff.mp hm).1
        rw [B.steps_len] at mlt
        have e2 := oth_mir hm hm'
        subst e2
        refine ⟨_, _, rfl, rfl, ?_⟩
        have et2 : (X.size : Int) - 1 - ((m : Nat) : Int) = ((X.size - 1 - m : Nat) : Int) := by omega
        have dpx : Dp K Hn (.int ((X.size : Int) - 1 - ((m : Nat) : Int))) (.int ((X.size - 1 - m : Nat) : Int)) := by rw [et2]; exact .int _
        obtain ⟨n1, n2, n3⟩ := one_ok (m := X.size - 1 - m) (Nat.lt_of_le_of_lt (by omega) xsz)
        refine ⟨_, _, .int ((X.size - 1 - m : Nat) : Int), rfl, .int _, dpx, n1, n2, n3, ?_⟩
        exact ⟨_, rfl, iteF ⟨_, _, rfl, sl.trans (sm.trans sn)⟩⟩
      · obtain ⟨o9, o10, rfl, sl⟩ := hp
        exact ⟨_, _, _, _, rfl, sfj.trans sl⟩
    · obtain ⟨o7, o8, o9, o10, rfl, sg⟩ := hp
      exact ⟨_, _, _, _, _, n' + 2, rfl, df.same sg, by omega, sf.trans (.of sg)⟩
  · obtain ⟨o6, o7, o8, o9, o10, n', rfl, dc, nb, sc⟩ := hp
    exact q Hc n' dc (by have : ([V.str "first", V.str "between", V.str "last"] : List V).length = 3 := rfl; omega) ((SameD.of s0b).trans sc)
end
/-! ### law -/
theorem lim_at {i : Nat} (h : i < 3) : ∃ lim : Nat, atI [V.int 12, V.int 3, V.int 6] (0 + (i : Int)) = some (.int (lim : Int)) ∧ 1 ≤ lim ∧ lim ≤ 12 := by
  have : i = 0 ∨ i = 1 ∨ i = 2 := by omega
  rcases this with rfl | rfl | rfl
  · exact ⟨12, rfl, by decide, by decide⟩
  · exact ⟨3, rfl, by decide, by decide⟩
  · exact ⟨6, rfl, by decide, by decide⟩
theorem few_at {i : Nat} (h : i < 3) : ∃ few : Int, atI [V.int 0, V.int 0, V.int 2] (0 + (i : Int)) = some (.int few) := by
  have : i = 0 ∨ i = 1 ∨ i = 2 := by omega
  rcases this with rfl | rfl | rfl
  · exact ⟨0, rfl⟩
  · exact ⟨0, rfl⟩
  · exact ⟨2, rfl⟩
section
variable {P : Program} {w : World} {K : PySem.W.Frag} {mg : Str → Option Value} {base : Heap} {f : Addr} {fd : FuncData}
theorem run_law {s : Shared} {H : Hp} {a : Addr} {ns : List Int} (F : Fun K "law" "law" s_law f fd) (bd : BindsTo s fd ⟨[.ref a], []⟩ [("_law_script", .ref a)]) (en : Env0 P w K mg base callerA [] s H) (hS : SqL K H a (ns.map V.int))
    (M : Mgs mg) (D_law_deck : Df P w K mg base 1 "_law_deck" ["_law_script"] (spDeck K)) (D_law_nest : Df P w K mg base 42 "_law_nest" ["_law_deck_here", "_law_entries", "_law_limit", "_law_few"] spNest) (D_law_small_nest : Df P w K mg base 43 "_law_small_nest" ["_law_deck_here", "_law_limit"] spSmall)
    (D_law_right : DfG P w K mg base 34 "_law_right" ["_law_deck_here", "_law_nest_here"] spRight) (D_law_turned : Df P w K mg base 31 "_law_turned" ["_law_nest_here"] spTurn) (Dexpand_nest : Df P w K mg base 33 "expand_nest" ["nest"] spExp) (Dmirrored : Df P w K mg base 30 "mirrored" ["tree"] (spMir 30))
    (D_law_same : DfG P w K mg base 1 "_law_same" ["_law_found", "_law_due"] (spSameV K)) :
    codeAny (model P w) callerA (.call (.ref f) ⟨[.ref a], []⟩) (CR CX0 [] P w H s (fun v _ => v = .bl true) fun _ _ _ => False) s := by
  refine enter_def (k := 44) (vs := [.ref a]) (us := [.ref a]) F sc_law ⟨rfl, by decide, by decide⟩ en bd (.cons rfl .nil) rfl fun cdv hr => ?_
  refine ⟨_, (pss_cons (ps_set (i := 1) sc_law.nd rfl (.inl rfl) (pe_call D_law_deck.ok (hr.mono (by omega)) rfl D_law_deck.g D_law_deck.kp D_law_deck.b .nil pass0 (pa_cons (pv 0) pa_nil)))
    (pss_cons (ps_for PassesOwn.never rfl (pi_range1 rfl M.range (pa_cons pe_int pa_nil)) (pg_name (i := 2) sc_law.nd rfl (.inl rfl))
      (pss_cons (ps_set (i := 3) sc_law.nd rfl (.inl rfl) (pe_call D_law_nest.ok (hr.mono (by omega)) rfl D_law_nest.g D_law_nest.kp D_law_nest.b .nil pass0 (pa_cons (pv 1) (pa_cons pe_int (pa_cons (pe_ix ix_list (pe_lst (pa_cons pe_int (pa_cons pe_int (pa_cons pe_int pa_nil)))) (pv 2) (fun _ _ => rfl)) (pa_cons (pe_ix ix_list (pe_lst (pa_cons pe_int (pa_cons pe_int (pa_cons pe_int pa_nil)))) (pv 2) (fun _ _ => rfl)) pa_nil))))))
    (pss_cons (ps_if (pt_not (pt_val (pe_callG D_law_right.ok rfl (hr.mono (by omega)) rfl D_law_right.g D_law_right.kp D_law_right.b (pa_cons (pv 1) (pa_cons (pv 3) pa_nil)))))
      (pss_one (ps_ret pe_bl)) pss_nil)
    (pss_cons (ps_set (i := 4) sc_law.nd rfl (.inl rfl) (pe_call D_law_small_nest.ok (hr.mono (by omega)) rfl D_law_small_nest.g D_law_small_nest.kp D_law_small_nest.b .nil pass0 (pa_cons (pv 1) (pa_cons pe_int pa_nil))))
    (pss_one (ps_if (pt_not (pt_val (pe_callG D_law_same.ok rfl (hr.mono (by omega)) rfl D_law_same.g D_law_same.kp D_law_same.b (pa_cons (pe_call Dexpand_nest.ok (hr.mono (by omega)) rfl Dexpand_nest.g Dexpand_nest.kp Dexpand_nest.b .nil pass0 (pa_cons (pe_call D_law_turned.ok (hr.mono (by omega)) rfl D_law_turned.g D_law_turned.kp D_law_turned.b .nil pass0 (pa_cons (pv 4) pa_nil)) pa_nil)) (pa_cons (pe_call Dmirrored.ok (hr.mono (by omega)) rfl Dmirrored.g Dmirrored.kp Dmirrored.b .nil pass0 (pa_cons (pe_call Dexpand_nest.ok (hr.mono (by omega)) rfl Dexpand_nest.g Dexpand_nest.kp Dexpand_nest.b .nil pass0 (pa_cons (pv 4) pa_nil)) pa_nil)) pa_nil)))))
      (pss_one (ps_ret pe_bl)) pss_nil))))))
    (pss_one (ps_ret pe_bl)))), ?_⟩
  refine ⟨_, rfl, a, ns, rfl, hS, fun D H1 d1 s1 => ?_⟩
  refine ⟨3, rfl, by decide, by decide, ?_⟩
  refine for_range (lo := 0) (n := 3) (fun i σ H' => ∃ (o2 o3 o4 : Option V) (c : Nat), σ = [some (.ref a), some (.ref D.dk), o2, o3, o4] ∧ DeckOk H' D c ∧ c ≤ 9000 * i) ⟨none, none, none, 0, rfl, d1, by omega⟩ (fun i σ H2 hi hp => ?_) (fun σ H2 hp => ?_)
  · obtain ⟨o2, o3, o4, c, rfl, d2, hc⟩ := hp
    obtain ⟨lim, hl, l1, l12⟩ := lim_at (i := i) (by omega)
    obtain ⟨few, hf⟩ := few_at (i := i) (by omega)
    refine ⟨_, rfl, (by show 3 ≤ sizeLine; decide), fun b1 nb1 => ⟨_, rfl, b1, _, _, _, rfl, rfl, SqL.of upd_same, hl, ?_⟩⟩
    have j1 := same_new nb1 (.lst [.int 12, .int 3, .int 6])
    refine ⟨(by show 3 ≤ sizeLine; decide), fun b2 nb2 => ⟨_, rfl, b2, _, _, _, rfl, rfl, SqL.of upd_same, hf, ?_⟩⟩
    have j2 := same_new nb2 (.lst [.int 0, .int 0, .int 2])
    refine ⟨D, c, 20, lim, few, rfl, (d2.same j1).same j2, by omega, by decide, by decide, l1, l12, fun p us es n1 H3 d3 n3b s3 ep en0 gn e1 e20 => ?_⟩
    obtain ⟨X, eX⟩ : ∃ X, (fulls es)[es.length - 1]? = some X := ⟨_, List.getElem?_eq_getElem (by rw [fulls_len]; omega)⟩
    refine ⟨_, rfl, _, rfl, D, n1, p, us, es, X, rfl, d3, by omega, ep, en0, gn.more l12, e1, e20, eX, fun H4 n4 d4 n4b s4 => ?_⟩
    refine ⟨_, rfl, iteF ?_⟩
    clear ep en0 gn e1 e20 eX
    refine ⟨_, rfl, D, n4, 12, rfl, by decide, d4, by omega, fun p us es X n5 H5 d5 n5b s5 ep en0 gn e1 e4 eX xs => ?_⟩
    refine ⟨_, rfl, p, us, es, rfl, ep, en0, gn, by omega, fun pg ug eg H6 s6 epg eng mm asc => ?_⟩
    have lg := mm.len
    have eXg : (fulls eg)[eg.length - 1]? = some X.mir := by rw [lg]; exact fulls_mir gn mm _ _ eX
    have ms := X.mir_size
    refine ⟨pg, ug, eg, X.mir, rfl, epg, eng, gn.mir mm, by omega, by omega, eXg, by omega, fun v1 H7 s7 hv1 => ?_⟩
    have s57 := s6.trans s7
    refine ⟨_, rfl, p, us, es, X, rfl, s57 _ _ ep, en0.keep (Tw.Same.keepT s57), gn, e1, by omega, eX, xs, fun v2 H8 s8 hv2 => ?_⟩
    refine ⟨v2, X, rfl, hv2, by omega, fun v3 H9 s9 hv3 => ?_⟩
    obtain ⟨xsz, xlt⟩ := full_size gn (by omega) eX
    obtain ⟨k1, k2⟩ := okR_tree X.mir fun c hc => xlt c ((B.mir_pre X c).mp hc)
    have dl := X.mir.deep_le
    refine ⟨v1, v3, X.mir.data, rfl, (hv1.same (s8.trans s9)).dp, hv3.dp, k1, by omega, by rw [B.data_depth]; omega, ?_⟩
    refine ⟨_, rfl, iteF ?_⟩
    exact ⟨_, _, _, n5, rfl, d5.same (s57.trans (s8.trans s9)), by omega⟩
  · exact rfl
end
/-! ### what the top has left -/
theorem all_mk {l : PySem.W.OpenLaw} {w : World} {K : PySem.W.Frag} {h : Heap} {mg : Str → Option Value} {fa f1 f2 f3 f4 f5 f6 f7 f8 f9 f10 f11 f12 f13 f14 f15 f16 f17 f18 f19 f20 f21 f22 f23 f24 f25 f26 f27 f28 f29 f30 f31 f32 f33 f34 f35 f36 f37 f38 f39 f40 f41 f42 C_NoPath i_NoPath : Addr} (X : K.In h) (G : h.Ns mainGlobals mg) (hfa : mg "law" = some (.ref fa))
    {od1 an1 od2 an2 od3 an3 od4 an4 od5 an5 od6 an6 od7 an7 od8 an8 od9 an9 od10 an10 od11 an11 od12 an12 od13 an13 od14 an14 od15 an15 od16 an16 od17 an17 od18 an18 od19 an19 od20 an20 od21 an21 od22 an22 od23 an23 od24 an24 od25 an25 od26 an26 od27 an27 od28 an28 od29 an29 od30 an30 od31 an31 od32 an32 od33 an33 od34 an34 od35 an35 od36 an36 od37 an37 od38 an38 od39 an39 od40 an40 od41 an41 od42 an42 : Option Addr} {sl1 sl2 sl3 sl4 sl5 sl6 sl7 sl8 sl9 sl10 sl11 sl12 sl13 sl14 sl15 sl16 sl17 sl18 sl19 sl20 sl21 sl22 sl23 sl24 sl25 sl26 sl27 sl28 sl29 sl30 sl31 sl32 sl33 sl34 sl35 sl36 sl37 sl38 sl39 sl40 sl41 sl42 : Array (Option Value)}
    {oc1 kV1 dc1 pm1 cd1 ct1 oc2 kV2 dc2 pm2 cd2 ct2 oc3 kV3 dc3 pm3 cd3 ct3 oc4 kV4 dc4 pm4 cd4 ct4 oc5 kV5 dc5 pm5 cd5 ct5 oc6 kV6 dc6 pm6 cd6 ct6 oc7 kV7 dc7 pm7 cd7 ct7 oc8 kV8 dc8 pm8 cd8 ct8 oc9 kV9 dc9 pm9 cd9 ct9 oc10 kV10 dc10 pm10 cd10 ct10 oc11 kV11 dc11 pm11 cd11 ct11 oc12 kV12 dc12 pm12 cd12 ct12 oc13 kV13 dc13 pm13 cd13 ct13 oc14 kV14 dc14 pm14 cd14 ct14 oc15 kV15 dc15 pm15 cd15 ct15 oc16 kV16 dc16 pm16 cd16 ct16 oc17 kV17 dc17 pm17 cd17 ct17 oc18 kV18 dc18 pm18 cd18 ct18 oc19 kV19 dc19 pm19 cd19 ct19 oc20 kV20 dc20 pm20 cd20 ct20 oc21 kV21 dc21 pm21 cd21 ct21 oc22 kV22 dc22 pm22 cd22 ct22 oc23 kV23 dc23 pm23 cd23 ct23 oc24 kV24 dc24 pm24 cd24 ct24 oc25 kV25 dc25 pm25 cd25 ct25 oc26 kV26 dc26 pm26 cd26 ct26 oc27 kV27 dc27 pm27 cd27 ct27 oc28 kV28 dc28 pm28 cd28 ct28 oc29 kV29 dc29 pm29 cd29 ct29 oc30 kV30 dc30 pm30 cd30 ct30 oc31 kV31 dc31 pm31 cd31 ct31 oc32 kV32 dc32 pm32 cd32 ct32 oc33 kV33 dc33 pm33 cd33 ct33 oc34 kV34 dc34 pm34 cd34 ct34 oc35 kV35 dc35 pm35 cd35 ct35 oc36 kV36 dc36 pm36 cd36 ct36 oc37 kV37 dc37 pm37 cd37 ct37 oc38 kV38 dc38 pm38 cd38 ct38 oc39 kV39 dc39 pm39 cd39 ct39 oc40 kV40 dc40 pm40 cd40 ct40 oc41 kV41 dc41 pm41 cd41 ct41 oc42 kV42 dc42 pm42 cd42 ct42 : Value} {t1 t2 : Tok}
    {tL : Tok} {aT bT1 bT2 bT3 : Addr} {esT : Array DictEntry} {nT nT1 nT2 nT3 : Nat} {oT1 oT2 oT3 : Option Addr} {sT1 sT2 sT3 : Array (Option Value)} {tT11 tT12 tT13 tT21 tT22 tT23 tT31 tT32 tT33 : Tok} 
    {nm_NoPath q_NoPath : Str} {N_NoPath : Addr} {bs_NoPath sub_NoPath : List Value} {sn_NoPath : List Str} {ab_NoPath : Bool} {col_NoPath : Option Bool} {dd_NoPath : Option Addr} {m0_NoPath m1_NoPath m2_NoPath m3_NoPath m5_NoPath : Option Value}  {oc_NoPath dc_NoPath pm_NoPath cd_NoPath ct_NoPath : Value} {od_NoPath an_NoPath : Option Addr} {sl_NoPath : Array (Option Value)}
    (a_NoPath : PySem.W.nsIn K mainGlobals "NoPath" = some (some (.ref C_NoPath)))
    (x_NoPath : K.lookup C_NoPath = some (excClassObj nm_NoPath q_NoPath C_NoPath N_NoPath bs_NoPath [.type "LookupError", .type "Exception", .type "BaseException", .type "object"] true sn_NoPath sub_NoPath ab_NoPath col_NoPath dd_NoPath m0_NoPath m1_NoPath m2_NoPath m3_NoPath m5_NoPath "LookupError.__new__"))
    (sa_NoPath : PySem.W.findIn K (.ref C_NoPath) "__setattr__" = some (some (.builtin "object.__setattr__")))
    (ga_NoPath : PySem.W.findIn K (.ref C_NoPath) "__getattribute__" = some (some (.builtin "BaseException.__getattribute__")))
    (gg_NoPath : PySem.W.findIn K (.ref C_NoPath) "__getattr__" = some none)
    (nb_NoPath : PySem.W.findIn K (.ref C_NoPath) "value" = some none)
    (ii_NoPath : PySem.W.findIn K (.ref C_NoPath) "__init__" = some (some (.ref i_NoPath)))
    (ti_NoPath : PySem.W.typeIn K (.ref i_NoPath) = some (.type "function"))
    (li_NoPath : K.lookup i_NoPath = some ⟨oc_NoPath, od_NoPath, .func (PySem.W.fnOf "__init__" "NoPath.__init__" (iA_value ⟨12, 17, 12, 21⟩ ⟨12, 23, 12, 28⟩) (iB_value ⟨13, 8, 13, 12⟩ ⟨13, 8, 13, 18⟩ ⟨13, 21, 13, 26⟩ ⟨13, 8, 13, 26⟩) iS_value .none .none dc_NoPath pm_NoPath an_NoPath cd_NoPath ct_NoPath), sl_NoPath⟩)
    (ci_NoPath : PySem.W.codeIn K cd_NoPath "NoPath.__init__" = true)
    (kC_NoPath : PySem.W.keepIn K (.ref C_NoPath) = true)
    (eC_NoPath : PySem.W.subIn K (.ref C_NoPath) (.type "BaseException") = some true)
    (tC_NoPath : PySem.W.typeIn K (.ref C_NoPath) = some (.type "type"))
    (hC_NoPath : PySem.W.hasDictIn K C_NoPath = true)
    (h1_NoPath : PySem.W.findIn K (.ref C_NoPath) "__class__" = some (some (.builtin "object.__class__")))
    (h2_NoPath : PySem.W.specialIn K (.builtin "object.__class__") "__get__" = some (some (.builtin "getset_descriptor.__get__")))
    (h3_NoPath : PySem.W.takesIn K (.builtin "object.__class__") = some true)
    (h4_NoPath : PySem.W.mroIn K C_NoPath (.type "object") = some true)
    (ePP : PySem.W.exmOne K (.ref C_NoPath) (.ref C_NoPath) = some true)
    (aLn : PySem.W.nsIn K mainGlobals "LETTERS" = some (some (.str "abcdefghijklmnopqrstuvwxyz" tL)))
    (aTn : PySem.W.nsIn K mainGlobals "TURNS" = some (some (.ref aT)))
    (aTl : K.lookup aT = some ⟨.type "dict", none, .dict esT nT, #[]⟩)
    (aTk : PySem.W.KeysLit w.params esT.toList)
    (aT1 : PySem.W.nsIn K aT "first" = some (some (.ref bT1)))
    (bT1l : K.lookup bT1 = some ⟨.type "tuple", oT1, .seq #[.str "" tT11, .str "l" tT12, .str "r" tT13] nT1, sT1⟩)
    (aT2 : PySem.W.nsIn K aT "between" = some (some (.ref bT2)))
    (bT2l : K.lookup bT2 = some ⟨.type "tuple", oT2, .seq #[.str "l" tT21, .str "" tT22, .str "r" tT23] nT2, sT2⟩)
    (aT3 : PySem.W.nsIn K aT "last" = some (some (.ref bT3)))
    (bT3l : K.lookup bT3 = some ⟨.type "tuple", oT3, .seq #[.str "l" tT31, .str "r" tT32, .str "" tT33] nT3, sT3⟩)
    (a1 : PySem.W.nsIn K mainGlobals "is_letter" = some (some (.ref f1)))
    (l1 : K.lookup f1 = some ⟨oc1, od1, .func (PySem.W.fnOf "is_letter" "is_letter" (defArgs s_is_letter) (defBody s_is_letter) (defScope s_is_letter) .none kV1 dc1 pm1 an1 cd1 ct1), sl1⟩)
    (c1 : PySem.W.codeIn K cd1 "is_letter" = true)
    (k1 : PySem.W.keepIn K (.ref f1) = true)
    (a2 : PySem.W.nsIn K mainGlobals "is_whole_number" = some (some (.ref f2)))
    (l2 : K.lookup f2 = some ⟨oc2, od2, .func (PySem.W.fnOf "is_whole_number" "is_whole_number" (defArgs s_is_whole_number) (defBody s_is_whole_number) (defScope s_is_whole_number) .none kV2 dc2 pm2 an2 cd2 ct2), sl2⟩)
    (c2 : PySem.W.codeIn K cd2 "is_whole_number" = true)
    (k2 : PySem.W.keepIn K (.ref f2) = true)
    (a3 : PySem.W.nsIn K mainGlobals "is_index" = some (some (.ref f3)))
    (l3 : K.lookup f3 = some ⟨oc3, od3, .func (PySem.W.fnOf "is_index" "is_index" (defArgs s_is_index) (defBody s_is_index) (defScope s_is_index) .none kV3 dc3 pm3 an3 cd3 ct3), sl3⟩)
    (c3 : PySem.W.codeIn K cd3 "is_index" = true)
    (k3 : PySem.W.keepIn K (.ref f3) = true)
    (a4 : PySem.W.nsIn K mainGlobals "is_ascending" = some (some (.ref f4)))
    (l4 : K.lookup f4 = some ⟨oc4, od4, .func (PySem.W.fnOf "is_ascending" "is_ascending" (defArgs s_is_ascending) (defBody s_is_ascending) (defScope s_is_ascending) .none kV4 dc4 pm4 an4 cd4 ct4), sl4⟩)
    (c4 : PySem.W.codeIn K cd4 "is_ascending" = true)
    (k4 : PySem.W.keepIn K (.ref f4) = true)
    (a5 : PySem.W.nsIn K mainGlobals "is_node" = some (some (.ref f5)))
    (l5 : K.lookup f5 = some ⟨oc5, od5, .func (PySem.W.fnOf "is_node" "is_node" (defArgs s_is_node) (defBody s_is_node) (defScope s_is_node) .none kV5 dc5 pm5 an5 cd5 ct5), sl5⟩)
    (c5 : PySem.W.codeIn K cd5 "is_node" = true)
    (k5 : PySem.W.keepIn K (.ref f5) = true)
    (a6 : PySem.W.nsIn K mainGlobals "is_tree" = some (some (.ref f6)))
    (l6 : K.lookup f6 = some ⟨oc6, od6, .func (PySem.W.fnOf "is_tree" "is_tree" (defArgs s_is_tree) (defBody s_is_tree) (defScope s_is_tree) .none kV6 dc6 pm6 an6 cd6 ct6), sl6⟩)
    (c6 : PySem.W.codeIn K cd6 "is_tree" = true)
    (k6 : PySem.W.keepIn K (.ref f6) = true)
    (a7 : PySem.W.nsIn K mainGlobals "part_at" = some (some (.ref f7)))
    (l7 : K.lookup f7 = some ⟨oc7, od7, .func (PySem.W.fnOf "part_at" "part_at" (defArgs s_part_at) (defBody s_part_at) (defScope s_part_at) .none kV7 dc7 pm7 an7 cd7 ct7), sl7⟩)
    (c7 : PySem.W.codeIn K cd7 "part_at" = true)
    (k7 : PySem.W.keepIn K (.ref f7) = true)
    (a8 : PySem.W.nsIn K mainGlobals "is_open" = some (some (.ref f8)))
    (l8 : K.lookup f8 = some ⟨oc8, od8, .func (PySem.W.fnOf "is_open" "is_open" (defArgs s_is_open) (defBody s_is_open) (defScope s_is_open) .none kV8 dc8 pm8 an8 cd8 ct8), sl8⟩)
    (c8 : PySem.W.codeIn K cd8 "is_open" = true)
    (k8 : PySem.W.keepIn K (.ref f8) = true)
    (a9 : PySem.W.nsIn K mainGlobals "mirrored" = some (some (.ref f9)))
    (l9 : K.lookup f9 = some ⟨oc9, od9, .func (PySem.W.fnOf "mirrored" "mirrored" (defArgs s_mirrored) (defBody s_mirrored) (defScope s_mirrored) .none kV9 dc9 pm9 an9 cd9 ct9), sl9⟩)
    (c9 : PySem.W.codeIn K cd9 "mirrored" = true)
    (k9 : PySem.W.keepIn K (.ref f9) = true)
    (a10 : PySem.W.nsIn K mainGlobals "is_link" = some (some (.ref f10)))
    (l10 : K.lookup f10 = some ⟨oc10, od10, .func (PySem.W.fnOf "is_link" "is_link" (defArgs s_is_link) (defBody s_is_link) (defScope s_is_link) .none kV10 dc10 pm10 an10 cd10 ct10), sl10⟩)
    (c10 : PySem.W.codeIn K cd10 "is_link" = true)
    (k10 : PySem.W.keepIn K (.ref f10) = true)
    (a11 : PySem.W.nsIn K mainGlobals "is_entry" = some (some (.ref f11)))
    (l11 : K.lookup f11 = some ⟨oc11, od11, .func (PySem.W.fnOf "is_entry" "is_entry" (defArgs s_is_entry) (defBody s_is_entry) (defScope s_is_entry) .none kV11 dc11 pm11 an11 cd11 ct11), sl11⟩)
    (c11 : PySem.W.codeIn K cd11 "is_entry" = true)
    (k11 : PySem.W.keepIn K (.ref f11) = true)
    (a12 : PySem.W.nsIn K mainGlobals "is_nest" = some (some (.ref f12)))
    (l12 : K.lookup f12 = some ⟨oc12, od12, .func (PySem.W.fnOf "is_nest" "is_nest" (defArgs s_is_nest) (defBody s_is_nest) (defScope s_is_nest) .none kV12 dc12 pm12 an12 cd12 ct12), sl12⟩)
    (c12 : PySem.W.codeIn K cd12 "is_nest" = true)
    (k12 : PySem.W.keepIn K (.ref f12) = true)
    (a13 : PySem.W.nsIn K mainGlobals "spots_of" = some (some (.ref f13)))
    (l13 : K.lookup f13 = some ⟨oc13, od13, .func (PySem.W.fnOf "spots_of" "spots_of" (defArgs s_spots_of) (defBody s_spots_of) (defScope s_spots_of) .none kV13 dc13 pm13 an13 cd13 ct13), sl13⟩)
    (c13 : PySem.W.codeIn K cd13 "spots_of" = true)
    (k13 : PySem.W.keepIn K (.ref f13) = true)
    (a14 : PySem.W.nsIn K mainGlobals "add_spots" = some (some (.ref f14)))
    (l14 : K.lookup f14 = some ⟨oc14, od14, .func (PySem.W.fnOf "add_spots" "add_spots" (defArgs s_add_spots) (defBody s_add_spots) (defScope s_add_spots) .none kV14 dc14 pm14 an14 cd14 ct14), sl14⟩)
    (c14 : PySem.W.codeIn K cd14 "add_spots" = true)
    (k14 : PySem.W.keepIn K (.ref f14) = true)
    (a15 : PySem.W.nsIn K mainGlobals "counts_in" = some (some (.ref f15)))
    (l15 : K.lookup f15 = some ⟨oc15, od15, .func (PySem.W.fnOf "counts_in" "counts_in" (defArgs s_counts_in) (defBody s_counts_in) (defScope s_counts_in) .none kV15 dc15 pm15 an15 cd15 ct15), sl15⟩)
    (c15 : PySem.W.codeIn K cd15 "counts_in" = true)
    (k15 : PySem.W.keepIn K (.ref f15) = true)
    (a16 : PySem.W.nsIn K mainGlobals "nest_size" = some (some (.ref f16)))
    (l16 : K.lookup f16 = some ⟨oc16, od16, .func (PySem.W.fnOf "nest_size" "nest_size" (defArgs s_nest_size) (defBody s_nest_size) (defScope s_nest_size) .none kV16 dc16 pm16 an16 cd16 ct16), sl16⟩)
    (c16 : PySem.W.codeIn K cd16 "nest_size" = true)
    (k16 : PySem.W.keepIn K (.ref f16) = true)
    (a17 : PySem.W.nsIn K mainGlobals "count_label" = some (some (.ref f17)))
    (l17 : K.lookup f17 = some ⟨oc17, od17, .func (PySem.W.fnOf "count_label" "count_label" (defArgs s_count_label) (defBody s_count_label) (defScope s_count_label) .none kV17 dc17 pm17 an17 cd17 ct17), sl17⟩)
    (c17 : PySem.W.codeIn K cd17 "count_label" = true)
    (k17 : PySem.W.keepIn K (.ref f17) = true)
    (a18 : PySem.W.nsIn K mainGlobals "expand_nest" = some (some (.ref f18)))
    (l18 : K.lookup f18 = some ⟨oc18, od18, .func (PySem.W.fnOf "expand_nest" "expand_nest" (defArgs s_expand_nest) (defBody s_expand_nest) (defScope s_expand_nest) .none kV18 dc18 pm18 an18 cd18 ct18), sl18⟩)
    (c18 : PySem.W.codeIn K cd18 "expand_nest" = true)
    (k18 : PySem.W.keepIn K (.ref f18) = true)
    (a19 : PySem.W.nsIn K mainGlobals "nest_depth" = some (some (.ref f19)))
    (l19 : K.lookup f19 = some ⟨oc19, od19, .func (PySem.W.fnOf "nest_depth" "nest_depth" (defArgs s_nest_depth) (defBody s_nest_depth) (defScope s_nest_depth) .none kV19 dc19 pm19 an19 cd19 ct19), sl19⟩)
    (c19 : PySem.W.codeIn K cd19 "nest_depth" = true)
    (k19 : PySem.W.keepIn K (.ref f19) = true)
    (a20 : PySem.W.nsIn K mainGlobals "turned" = some (some (.ref f20)))
    (l20 : K.lookup f20 = some ⟨oc20, od20, .func (PySem.W.fnOf "turned" "turned" (defArgs s_turned) (defBody s_turned) (defScope s_turned) .none kV20 dc20 pm20 an20 cd20 ct20), sl20⟩)
    (c20 : PySem.W.codeIn K cd20 "turned" = true)
    (k20 : PySem.W.keepIn K (.ref f20) = true)
    (a21 : PySem.W.nsIn K mainGlobals "way_to" = some (some (.ref f21)))
    (l21 : K.lookup f21 = some ⟨oc21, od21, .func (PySem.W.fnOf "way_to" "way_to" (defArgs s_way_to) (defBody s_way_to) (defScope s_way_to) .none kV21 dc21 pm21 an21 cd21 ct21), sl21⟩)
    (c21 : PySem.W.codeIn K cd21 "way_to" = true)
    (k21 : PySem.W.keepIn K (.ref f21) = true)
    (a22 : PySem.W.nsIn K mainGlobals "place_on" = some (some (.ref f22)))
    (l22 : K.lookup f22 = some ⟨oc22, od22, .func (PySem.W.fnOf "place_on" "place_on" (defArgs s_place_on) (defBody s_place_on) (defScope s_place_on) .none kV22 dc22 pm22 an22 cd22 ct22), sl22⟩)
    (c22 : PySem.W.codeIn K cd22 "place_on" = true)
    (k22 : PySem.W.keepIn K (.ref f22) = true)
    (a23 : PySem.W.nsIn K mainGlobals "label_on" = some (some (.ref f23)))
    (l23 : K.lookup f23 = some ⟨oc23, od23, .func (PySem.W.fnOf "label_on" "label_on" (defArgs s_label_on) (defBody s_label_on) (defScope s_label_on) .none kV23 dc23 pm23 an23 cd23 ct23), sl23⟩)
    (c23 : PySem.W.codeIn K cd23 "label_on" = true)
    (k23 : PySem.W.keepIn K (.ref f23) = true)
    (a24 : PySem.W.nsIn K mainGlobals "way_at" = some (some (.ref f24)))
    (l24 : K.lookup f24 = some ⟨oc24, od24, .func (PySem.W.fnOf "way_at" "way_at" (defArgs s_way_at) (defBody s_way_at) (defScope s_way_at) .none kV24 dc24 pm24 an24 cd24 ct24), sl24⟩)
    (c24 : PySem.W.codeIn K cd24 "way_at" = true)
    (k24 : PySem.W.keepIn K (.ref f24) = true)
    (a25 : PySem.W.nsIn K mainGlobals "label_in" = some (some (.ref f25)))
    (l25 : K.lookup f25 = some ⟨oc25, od25, .func (PySem.W.fnOf "label_in" "label_in" (defArgs s_label_in) (defBody s_label_in) (defScope s_label_in) .none kV25 dc25 pm25 an25 cd25 ct25), sl25⟩)
    (c25 : PySem.W.codeIn K cd25 "label_in" = true)
    (k25 : PySem.W.keepIn K (.ref f25) = true)
    (a26 : PySem.W.nsIn K mainGlobals "other_place" = some (some (.ref f26)))
    (l26 : K.lookup f26 = some ⟨oc26, od26, .func (PySem.W.fnOf "other_place" "other_place" (defArgs s_other_place) (defBody s_other_place) (defScope s_other_place) .none kV26 dc26 pm26 an26 cd26 ct26), sl26⟩)
    (c26 : PySem.W.codeIn K cd26 "other_place" = true)
    (k26 : PySem.W.keepIn K (.ref f26) = true)
    (a27 : PySem.W.nsIn K mainGlobals "_law_deck" = some (some (.ref f27)))
    (l27 : K.lookup f27 = some ⟨oc27, od27, .func (PySem.W.fnOf "_law_deck" "_law_deck" (defArgs s__law_deck) (defBody s__law_deck) (defScope s__law_deck) .none kV27 dc27 pm27 an27 cd27 ct27), sl27⟩)
    (c27 : PySem.W.codeIn K cd27 "_law_deck" = true)
    (k27 : PySem.W.keepIn K (.ref f27) = true)
    (a28 : PySem.W.nsIn K mainGlobals "_law_draw" = some (some (.ref f28)))
    (l28 : K.lookup f28 = some ⟨oc28, od28, .func (PySem.W.fnOf "_law_draw" "_law_draw" (defArgs s__law_draw) (defBody s__law_draw) (defScope s__law_draw) .none kV28 dc28 pm28 an28 cd28 ct28), sl28⟩)
    (c28 : PySem.W.codeIn K cd28 "_law_draw" = true)
    (k28 : PySem.W.keepIn K (.ref f28) = true)
    (a29 : PySem.W.nsIn K mainGlobals "_law_pick" = some (some (.ref f29)))
    (l29 : K.lookup f29 = some ⟨oc29, od29, .func (PySem.W.fnOf "_law_pick" "_law_pick" (defArgs s__law_pick) (defBody s__law_pick) (defScope s__law_pick) .none kV29 dc29 pm29 an29 cd29 ct29), sl29⟩)
    (c29 : PySem.W.codeIn K cd29 "_law_pick" = true)
    (k29 : PySem.W.keepIn K (.ref f29) = true)
    (a30 : PySem.W.nsIn K mainGlobals "_law_same" = some (some (.ref f30)))
    (l30 : K.lookup f30 = some ⟨oc30, od30, .func (PySem.W.fnOf "_law_same" "_law_same" (defArgs s__law_same) (defBody s__law_same) (defScope s__law_same) .none kV30 dc30 pm30 an30 cd30 ct30), sl30⟩)
    (c30 : PySem.W.codeIn K cd30 "_law_same" = true)
    (k30 : PySem.W.keepIn K (.ref f30) = true)
    (a31 : PySem.W.nsIn K mainGlobals "_law_mixed" = some (some (.ref f31)))
    (l31 : K.lookup f31 = some ⟨oc31, od31, .func (PySem.W.fnOf "_law_mixed" "_law_mixed" (defArgs s__law_mixed) (defBody s__law_mixed) (defScope s__law_mixed) .none kV31 dc31 pm31 an31 cd31 ct31), sl31⟩)
    (c31 : PySem.W.codeIn K cd31 "_law_mixed" = true)
    (k31 : PySem.W.keepIn K (.ref f31) = true)
    (a32 : PySem.W.nsIn K mainGlobals "_law_tree" = some (some (.ref f32)))
    (l32 : K.lookup f32 = some ⟨oc32, od32, .func (PySem.W.fnOf "_law_tree" "_law_tree" (defArgs s__law_tree) (defBody s__law_tree) (defScope s__law_tree) .none kV32 dc32 pm32 an32 cd32 ct32), sl32⟩)
    (c32 : PySem.W.codeIn K cd32 "_law_tree" = true)
    (k32 : PySem.W.keepIn K (.ref f32) = true)
    (a33 : PySem.W.nsIn K mainGlobals "_law_drawn_tree" = some (some (.ref f33)))
    (l33 : K.lookup f33 = some ⟨oc33, od33, .func (PySem.W.fnOf "_law_drawn_tree" "_law_drawn_tree" (defArgs s__law_drawn_tree) (defBody s__law_drawn_tree) (defScope s__law_drawn_tree) .none kV33 dc33 pm33 an33 cd33 ct33), sl33⟩)
    (c33 : PySem.W.codeIn K cd33 "_law_drawn_tree" = true)
    (k33 : PySem.W.keepIn K (.ref f33) = true)
    (a34 : PySem.W.nsIn K mainGlobals "_law_nodes" = some (some (.ref f34)))
    (l34 : K.lookup f34 = some ⟨oc34, od34, .func (PySem.W.fnOf "_law_nodes" "_law_nodes" (defArgs s__law_nodes) (defBody s__law_nodes) (defScope s__law_nodes) .none kV34 dc34 pm34 an34 cd34 ct34), sl34⟩)
    (c34 : PySem.W.codeIn K cd34 "_law_nodes" = true)
    (k34 : PySem.W.keepIn K (.ref f34) = true)
    (a35 : PySem.W.nsIn K mainGlobals "_law_open" = some (some (.ref f35)))
    (l35 : K.lookup f35 = some ⟨oc35, od35, .func (PySem.W.fnOf "_law_open" "_law_open" (defArgs s__law_open) (defBody s__law_open) (defScope s__law_open) .none kV35 dc35 pm35 an35 cd35 ct35), sl35⟩)
    (c35 : PySem.W.codeIn K cd35 "_law_open" = true)
    (k35 : PySem.W.keepIn K (.ref f35) = true)
    (a36 : PySem.W.nsIn K mainGlobals "_law_nest" = some (some (.ref f36)))
    (l36 : K.lookup f36 = some ⟨oc36, od36, .func (PySem.W.fnOf "_law_nest" "_law_nest" (defArgs s__law_nest) (defBody s__law_nest) (defScope s__law_nest) .none kV36 dc36 pm36 an36 cd36 ct36), sl36⟩)
    (c36 : PySem.W.codeIn K cd36 "_law_nest" = true)
    (k36 : PySem.W.keepIn K (.ref f36) = true)
    (a37 : PySem.W.nsIn K mainGlobals "_law_sizes" = some (some (.ref f37)))
    (l37 : K.lookup f37 = some ⟨oc37, od37, .func (PySem.W.fnOf "_law_sizes" "_law_sizes" (defArgs s__law_sizes) (defBody s__law_sizes) (defScope s__law_sizes) .none kV37 dc37 pm37 an37 cd37 ct37), sl37⟩)
    (c37 : PySem.W.codeIn K cd37 "_law_sizes" = true)
    (k37 : PySem.W.keepIn K (.ref f37) = true)
    (a38 : PySem.W.nsIn K mainGlobals "_law_small_nest" = some (some (.ref f38)))
    (l38 : K.lookup f38 = some ⟨oc38, od38, .func (PySem.W.fnOf "_law_small_nest" "_law_small_nest" (defArgs s__law_small_nest) (defBody s__law_small_nest) (defScope s__law_small_nest) .none kV38 dc38 pm38 an38 cd38 ct38), sl38⟩)
    (c38 : PySem.W.codeIn K cd38 "_law_small_nest" = true)
    (k38 : PySem.W.keepIn K (.ref f38) = true)
    (a39 : PySem.W.nsIn K mainGlobals "_law_turned" = some (some (.ref f39)))
    (l39 : K.lookup f39 = some ⟨oc39, od39, .func (PySem.W.fnOf "_law_turned" "_law_turned" (defArgs s__law_turned) (defBody s__law_turned) (defScope s__law_turned) .none kV39 dc39 pm39 an39 cd39 ct39), sl39⟩)
    (c39 : PySem.W.codeIn K cd39 "_law_turned" = true)
    (k39 : PySem.W.keepIn K (.ref f39) = true)
    (a40 : PySem.W.nsIn K mainGlobals "_law_glass" = some (some (.ref f40)))
    (l40 : K.lookup f40 = some ⟨oc40, od40, .func (PySem.W.fnOf "_law_glass" "_law_glass" (defArgs s__law_glass) (defBody s__law_glass) (defScope s__law_glass) .none kV40 dc40 pm40 an40 cd40 ct40), sl40⟩)
    (c40 : PySem.W.codeIn K cd40 "_law_glass" = true)
    (k40 : PySem.W.keepIn K (.ref f40) = true)
    (a41 : PySem.W.nsIn K mainGlobals "_law_right" = some (some (.ref f41)))
    (l41 : K.lookup f41 = some ⟨oc41, od41, .func (PySem.W.fnOf "_law_right" "_law_right" (defArgs s__law_right) (defBody s__law_right) (defScope s__law_right) .none kV41 dc41 pm41 an41 cd41 ct41), sl41⟩)
    (c41 : PySem.W.codeIn K cd41 "_law_right" = true)
    (k41 : PySem.W.keepIn K (.ref f41) = true)
    (a42 : PySem.W.nsIn K mainGlobals "law" = some (some (.ref f42)))
    (l42 : K.lookup f42 = some ⟨oc42, od42, .func (PySem.W.fnOf "law" "law" (defArgs s_law) (defBody s_law) (defScope s_law) .none kV42 dc42 pm42 an42 cd42 ct42), sl42⟩)
    (c42 : PySem.W.codeIn K cd42 "law" = true)
    (k42 : PySem.W.keepIn K (.ref f42) = true)
    (z1 : PySem.W.nsIn K mainGlobals "zip" = some none)
    (z2 : PySem.W.nsIn K mainGlobals "all" = some none)
    (z3 : PySem.W.nsIn K mainGlobals "repr" = some none)
    (z4 : PySem.W.nsIn K mainGlobals "sum" = some none)
    (z5 : PySem.W.nsIn K mainGlobals "len" = some none)
    (z6 : PySem.W.nsIn K mainGlobals "isinstance" = some none)
    (z7 : PySem.W.nsIn K mainGlobals "list" = some none)
    (z8 : PySem.W.nsIn K mainGlobals "tuple" = some none)
    (z9 : PySem.W.nsIn K mainGlobals "str" = some none)
    (z10 : PySem.W.nsIn K mainGlobals "int" = some none)
    (z11 : PySem.W.nsIn K mainGlobals "bool" = some none)
    (z12 : PySem.W.nsIn K mainGlobals "dict" = some none)
    (z13 : PySem.W.nsIn K mainGlobals "range" = some none)
    (z14 : PySem.W.nsIn K mainGlobals "sorted" = some none)
    (z15 : PySem.W.nsIn K mainGlobals "abs" = some none)
    (z16 : PySem.W.nsIn K mainGlobals "min" = some none)
    (z17 : PySem.W.nsIn K mainGlobals "max" = some none)
    (z18 : PySem.W.nsIn K mainGlobals "LookupError" = some none)
    (z19 : PySem.W.nsIn K mainGlobals "enumerate" = some none)
    (v1 : PySem.W.nsIn K mainGlobals "MAX_NODES" = some (some (.int 12 t1)))
    (v2 : PySem.W.nsIn K mainGlobals "MAX_ENTRIES" = some (some (.int 20 t2)))
    : ∀ (base : Heap) (H : Hp) (s : Shared) (a : Addr) (ns : List Int), K.In base → base.Ns mainGlobals mg → Env0 l.prog w K mg base callerA [] s H → SqL K H a (ns.map V.int) → ns.length ≤ 63 →
      codeAny (model l.prog w) callerA (.call (.ref fa) ⟨[.ref a], []⟩) (CR CX0 [] l.prog w H s (fun v _ => v = .bl true) fun _ _ _ => False) s := by
  intro base H s a ns _ _ en hS hn
  have e := hfa.symm.trans (PySem.W.mg_of X G a42)
  cases e
  have gC_NoPath := PySem.W.mg_of X G a_NoPath
  have F1 := fun_mk (st := s_is_letter) l1 c1 k1
  have g1 := PySem.W.mg_of X G a1
  have F2 := fun_mk (st := s_is_whole_number) l2 c2 k2
  have g2 := PySem.W.mg_of X G a2
  have F3 := fun_mk (st := s_is_index) l3 c3 k3
  have g3 := PySem.W.mg_of X G a3
  have F4 := fun_mk (st := s_is_ascending) l4 c4 k4
  have g4 := PySem.W.mg_of X G a4
  have F5 := fun_mk (st := s_is_node) l5 c5 k5
  have g5 := PySem.W.mg_of X G a5
  have F6 := fun_mk (st := s_is_tree) l6 c6 k6
  have g6 := PySem.W.mg_of X G a6
  have F7 := fun_mk (st := s_part_at) l7 c7 k7
  have g7 := PySem.W.mg_of X G a7
  have F8 := fun_mk (st := s_is_open) l8 c8 k8
  have g8 := PySem.W.mg_of X G a8
  have F9 := fun_mk (st := s_mirrored) l9 c9 k9
  have g9 := PySem.W.mg_of X G a9
  have F10 := fun_mk (st := s_is_link) l10 c10 k10
  have g10 := PySem.W.mg_of X G a10
  have F11 := fun_mk (st := s_is_entry) l11 c11 k11
  have g11 := PySem.W.mg_of X G a11
  have F12 := fun_mk (st := s_is_nest) l12 c12 k12
  have g12 := PySem.W.mg_of X G a12
  have F13 := fun_mk (st := s_spots_of) l13 c13 k13
  have g13 := PySem.W.mg_of X G a13
  have F14 := fun_mk (st := s_add_spots) l14 c14 k14
  have g14 := PySem.W.mg_of X G a14
  have F15 := fun_mk (st := s_counts_in) l15 c15 k15
  have g15 := PySem.W.mg_of X G a15
  have F16 := fun_mk (st := s_nest_size) l16 c16 k16
  have g16 := PySem.W.mg_of X G a16
  have F17 := fun_mk (st := s_count_label) l17 c17 k17
  have g17 := PySem.W.mg_of X G a17
  have F18 := fun_mk (st := s_expand_nest) l18 c18 k18
  have g18 := PySem.W.mg_of X G a18
  have F19 := fun_mk (st := s_nest_depth) l19 c19 k19
  have g19 := PySem.W.mg_of X G a19
  have F20 := fun_mk (st := s_turned) l20 c20 k20
  have g20 := PySem.W.mg_of X G a20
  have F21 := fun_mk (st := s_way_to) l21 c21 k21
  have g21 := PySem.W.mg_of X G a21
  have F22 := fun_mk (st := s_place_on) l22 c22 k22
  have g22 := PySem.W.mg_of X G a22
  have F23 := fun_mk (st := s_label_on) l23 c23 k23
  have g23 := PySem.W.mg_of X G a23
  have F24 := fun_mk (st := s_way_at) l24 c24 k24
  have g24 := PySem.W.mg_of X G a24
  have F25 := fun_mk (st := s_label_in) l25 c25 k25
  have g25 := PySem.W.mg_of X G a25
  have F26 := fun_mk (st := s_other_place) l26 c26 k26
  have g26 := PySem.W.mg_of X G a26
  have F27 := fun_mk (st := s__law_deck) l27 c27 k27
  have g27 := PySem.W.mg_of X G a27
  have F28 := fun_mk (st := s__law_draw) l28 c28 k28
  have g28 := PySem.W.mg_of X G a28
  have F29 := fun_mk (st := s__law_pick) l29 c29 k29
  have g29 := PySem.W.mg_of X G a29
  have F30 := fun_mk (st := s__law_same) l30 c30 k30
  have g30 := PySem.W.mg_of X G a30
  have F31 := fun_mk (st := s__law_mixed) l31 c31 k31
  have g31 := PySem.W.mg_of X G a31
  have F32 := fun_mk (st := s__law_tree) l32 c32 k32
  have g32 := PySem.W.mg_of X G a32
  have F33 := fun_mk (st := s__law_drawn_tree) l33 c33 k33
  have g33 := PySem.W.mg_of X G a33
  have F34 := fun_mk (st := s__law_nodes) l34 c34 k34
  have g34 := PySem.W.mg_of X G a34
  have F35 := fun_mk (st := s__law_open) l35 c35 k35
  have g35 := PySem.W.mg_of X G a35
  have F36 := fun_mk (st := s__law_nest) l36 c36 k36
  have g36 := PySem.W.mg_of X G a36
  have F37 := fun_mk (st := s__law_sizes) l37 c37 k37
  have g37 := PySem.W.mg_of X G a37
  have F38 := fun_mk (st := s__law_small_nest) l38 c38 k38
  have g38 := PySem.W.mg_of X G a38
  have F39 := fun_mk (st := s__law_turned) l39 c39 k39
  have g39 := PySem.W.mg_of X G a39
  have F40 := fun_mk (st := s__law_glass) l40 c40 k40
  have g40 := PySem.W.mg_of X G a40
  have F41 := fun_mk (st := s__law_right) l41 c41 k41
  have g41 := PySem.W.mg_of X G a41
  have F42 := fun_mk (st := s_law) l42 c42 k42
  have m_zip := PySem.W.mg_none_of X G z1
  have m_all := PySem.W.mg_none_of X G z2
  have m_repr := PySem.W.mg_none_of X G z3
  have m_sum := PySem.W.mg_none_of X G z4
  have m_len := PySem.W.mg_none_of X G z5
  have m_isinstance := PySem.W.mg_none_of X G z6
  have m_list := PySem.W.mg_none_of X G z7
  have m_tuple := PySem.W.mg_none_of X G z8
  have m_str := PySem.W.mg_none_of X G z9
  have m_int := PySem.W.mg_none_of X G z10
  have m_bool := PySem.W.mg_none_of X G z11
  have m_dict := PySem.W.mg_none_of X G z12
  have m_range := PySem.W.mg_none_of X G z13
  have m_sorted := PySem.W.mg_none_of X G z14
  have m_abs := PySem.W.mg_none_of X G z15
  have m_min := PySem.W.mg_none_of X G z16
  have m_max := PySem.W.mg_none_of X G z17
  have m_LookupError := PySem.W.mg_none_of X G z18
  have m_enumerate := PySem.W.mg_none_of X G z19
  have m1 := PySem.W.mg_of X G v1
  have m2 := PySem.W.mg_of X G v2
  have b1 := F1.binds (ps := ["value"]) fun _ _ _ _ _ _ us hl => match us, hl with | [_], _ => rfl
  have b2 := F2.binds (ps := ["value"]) fun _ _ _ _ _ _ us hl => match us, hl with | [_], _ => rfl
  have b3 := F3.binds (ps := ["value", "many"]) fun _ _ _ _ _ _ us hl => match us, hl with | [_, _], _ => rfl
  have b4 := F4.binds (ps := ["items"]) fun _ _ _ _ _ _ us hl => match us, hl with | [_], _ => rfl
  have b5 := F5.binds (ps := ["value"]) fun _ _ _ _ _ _ us hl => match us, hl with | [_], _ => rfl
  have b6 := F6.binds (ps := ["value"]) fun _ _ _ _ _ _ us hl => match us, hl with | [_], _ => rfl
  have b7 := F7.binds (ps := ["tree", "path"]) fun _ _ _ _ _ _ us hl => match us, hl with | [_, _], _ => rfl
  have b8 := F8.binds (ps := ["tree", "path"]) fun _ _ _ _ _ _ us hl => match us, hl with | [_, _], _ => rfl
  have b9 := F9.binds (ps := ["tree"]) fun _ _ _ _ _ _ us hl => match us, hl with | [_], _ => rfl
  have b10 := F10.binds (ps := ["value", "tree", "entries"]) fun _ _ _ _ _ _ us hl => match us, hl with | [_, _, _], _ => rfl
  have b11 := F11.binds (ps := ["value", "entries"]) fun _ _ _ _ _ _ us hl => match us, hl with | [_, _], _ => rfl
  have b12 := F12.binds (ps := ["value"]) fun _ _ _ _ _ _ us hl => match us, hl with | [_], _ => rfl
  have b13 := F13.binds (ps := ["nest"]) fun _ _ _ _ _ _ us hl => match us, hl with | [_], _ => rfl
  have b14 := F14.binds (ps := ["spots", "tree", "path", "hung"]) fun _ _ _ _ _ _ us hl => match us, hl with | [_, _, _, _], _ => rfl
  have b15 := F15.binds (ps := ["spots", "letters"]) fun _ _ _ _ _ _ us hl => match us, hl with | [_, _], _ => rfl
  have b16 := F16.binds (ps := ["nest"]) fun _ _ _ _ _ _ us hl => match us, hl with | [_], _ => rfl
  have b17 := F17.binds (ps := ["nest", "label"]) fun _ _ _ _ _ _ us hl => match us, hl with | [_, _], _ => rfl
  have b18 := F18.binds (ps := ["nest"]) fun _ _ _ _ _ _ us hl => match us, hl with | [_], _ => rfl
  have b19 := F19.binds (ps := ["nest"]) fun _ _ _ _ _ _ us hl => match us, hl with | [_], _ => rfl
  have b20 := F20.binds (ps := ["spots", "counts", "at", "turn"]) fun _ _ _ _ _ _ us hl => match us, hl with | [_, _, _, _], _ => rfl
  have b21 := F21.binds (ps := ["spots", "counts", "kind", "index"]) fun _ _ _ _ _ _ us hl => match us, hl with | [_, _, _, _], _ => rfl
  have b22 := F22.binds (ps := ["spots", "sizes", "kind", "way"]) fun _ _ _ _ _ _ us hl => match us, hl with | [_, _, _, _], _ => rfl
  have b23 := F23.binds (ps := ["spots", "way"]) fun _ _ _ _ _ _ us hl => match us, hl with | [_, _], _ => rfl
  have b24 := F24.binds (ps := ["spots", "sizes", "kind", "place"]) fun _ _ _ _ _ _ us hl => match us, hl with | [_, _, _, _], _ => rfl
  have b25 := F25.binds (ps := ["nest", "kind", "place"]) fun _ _ _ _ _ _ us hl => match us, hl with | [_, _, _], _ => rfl
  have b26 := F26.binds (ps := ["nest", "kind", "place", "other"]) fun _ _ _ _ _ _ us hl => match us, hl with | [_, _, _, _], _ => rfl
  have b27 := F27.binds (ps := ["_law_script"]) fun _ _ _ _ _ _ us hl => match us, hl with | [_], _ => rfl
  have b28 := F28.binds (ps := ["_law_deck_here", "_law_many"]) fun _ _ _ _ _ _ us hl => match us, hl with | [_, _], _ => rfl
  have b29 := F29.binds (ps := ["_law_deck_here", "_law_items"]) fun _ _ _ _ _ _ us hl => match us, hl with | [_, _], _ => rfl
  have b30 := F30.binds (ps := ["_law_found", "_law_due"]) fun _ _ _ _ _ _ us hl => match us, hl with | [_, _], _ => rfl
  have b31 := F31.binds (ps := ["_law_deck_here", "_law_items"]) fun _ _ _ _ _ _ us hl => match us, hl with | [_, _], _ => rfl
  have b32 := F32.binds (ps := ["_law_deck_here", "_law_size", "_law_style", "_law_letters"]) fun _ _ _ _ _ _ us hl => match us, hl with | [_, _, _, _], _ => rfl
  have b33 := F33.binds (ps := ["_law_deck_here", "_law_limit"]) fun _ _ _ _ _ _ us hl => match us, hl with | [_, _], _ => rfl
  have b34 := F34.binds (ps := ["_law_tree_here", "_law_path"]) fun _ _ _ _ _ _ us hl => match us, hl with | [_, _], _ => rfl
  have b35 := F35.binds (ps := ["_law_tree_here"]) fun _ _ _ _ _ _ us hl => match us, hl with | [_], _ => rfl
  have b36 := F36.binds (ps := ["_law_deck_here", "_law_entries", "_law_limit", "_law_few"]) fun _ _ _ _ _ _ us hl => match us, hl with | [_, _, _, _], _ => rfl
  have b37 := F37.binds (ps := ["_law_nest_here"]) fun _ _ _ _ _ _ us hl => match us, hl with | [_], _ => rfl
  have b38 := F38.binds (ps := ["_law_deck_here", "_law_limit"]) fun _ _ _ _ _ _ us hl => match us, hl with | [_, _], _ => rfl
  have b39 := F39.binds (ps := ["_law_nest_here"]) fun _ _ _ _ _ _ us hl => match us, hl with | [_], _ => rfl
  have b40 := F40.binds (ps := ["_law_tree_here"]) fun _ _ _ _ _ _ us hl => match us, hl with | [_], _ => rfl
  have b41 := F41.binds (ps := ["_law_deck_here", "_law_nest_here"]) fun _ _ _ _ _ _ us hl => match us, hl with | [_, _], _ => rfl
  have E_NoPath : Err_value K mg "LookupError.__new__" leT "NoPath" "NoPath.__init__" C_NoPath i_NoPath :=
    { gC := gC_NoPath, nd := by decide +kernel, cls := ⟨nm_NoPath, q_NoPath, N_NoPath, bs_NoPath, _, sn_NoPath, sub_NoPath, ab_NoPath, col_NoPath, dd_NoPath, m0_NoPath, m1_NoPath, m2_NoPath, m3_NoPath, m5_NoPath, x_NoPath, by first | rfl | decide +kernel⟩, sa := sa_NoPath, ga := ga_NoPath, gg := gg_NoPath, noN := nb_NoPath, iC := ii_NoPath, tC := ti_NoPath, kC := kC_NoPath, exC := eC_NoPath, tyC := tC_NoPath, hdC := hC_NoPath,
      fn := ⟨_, _, _, _, _, _, _, _, _, _, _, _, _, _, li_NoPath, ci_NoPath⟩ }
  have X_NoPath : ExcC K C_NoPath := ⟨ga_NoPath, gg_NoPath, eC_NoPath, hC_NoPath, h1_NoPath, h2_NoPath, h3_NoPath, h4_NoPath⟩
  have M : Mgs mg := ⟨m_zip, m_all, m_repr, m_sum, m_len, m_isinstance, m_list, m_tuple, m_str, m_int, m_bool, m_dict, m_range, m_sorted, m_abs, m_min, m_max⟩
  have mLET := PySem.W.mg_of X G aLn
  have TT : Turns K w mg aT := ⟨PySem.W.mg_of X G aTn, fun k => by
    cases k
    · exact ⟨bT1, ⟨esT, nT, .ref bT1, aTl, aTk, aT1, rfl⟩, fun H => by rw [turns_first]; exact .inr ⟨_, _, _, bT1l, rfl, rfl, (by show 3 ≤ sizeLine; decide), .cons ⟨_, rfl⟩ (.cons ⟨_, rfl⟩ (.cons ⟨_, rfl⟩ .nil))⟩⟩
    · exact ⟨bT2, ⟨esT, nT, .ref bT2, aTl, aTk, aT2, rfl⟩, fun H => by rw [turns_between]; exact .inr ⟨_, _, _, bT2l, rfl, rfl, (by show 3 ≤ sizeLine; decide), .cons ⟨_, rfl⟩ (.cons ⟨_, rfl⟩ (.cons ⟨_, rfl⟩ .nil))⟩⟩
    · exact ⟨bT3, ⟨esT, nT, .ref bT3, aTl, aTk, aT3, rfl⟩, fun H => by rw [turns_last]; exact .inr ⟨_, _, _, bT3l, rfl, rfl, (by show 3 ≤ sizeLine; decide), .cons ⟨_, rfl⟩ (.cons ⟨_, rfl⟩ (.cons ⟨_, rfl⟩ .nil))⟩⟩⟩
  have Dadd_spots : Df l.prog w K mg base 30 "add_spots" ["spots", "tree", "path", "hung"] (spAdd 30) := ⟨f14, _, ok_add F14 M b14 g14 30, b14, k14, g14⟩
  have Dspots_of : Df l.prog w K mg base 31 "spots_of" ["nest"] (spSpots K) := ⟨f13, _, ok_spots F13 Dadd_spots, b13, k13, g13⟩
  have Dcounts_in : Df l.prog w K mg base 1 "counts_in" ["spots", "letters"] spCounts := ⟨f15, _, ok_counts (k := 0) F15, b15, k15, g15⟩
  have Dnest_size : Df l.prog w K mg base 32 "nest_size" ["nest"] (spOf (fun X _ => vn (X.cnt (Str.ofString "abcdefghijklmnopqrstuvwxyz").cps.toList)) []) := ⟨f16, _, ok_nsize F16 mLET Dspots_of Dcounts_in, b16, k16, g16⟩
  have Dcount_label : Df l.prog w K mg base 32 "count_label" ["nest", "label"] (spLab K) := ⟨f17, _, ok_clabel F17 Dspots_of Dcounts_in, b17, k17, g17⟩
  have Dnest_depth : Df l.prog w K mg base 32 "nest_depth" ["nest"] (spOf (fun X _ => vn X.deep) []) := ⟨f19, _, ok_ndepth F19 M Dspots_of, b19, k19, g19⟩
  have Dis_whole_number : Df l.prog w K mg base 1 "is_whole_number" ["value"] spWhole := ⟨f2, _, ok_whole (k := 0) F2 M, b2, k2, g2⟩
  have Dis_index : Df l.prog w K mg base 2 "is_index" ["value", "many"] spIndex := ⟨f3, _, ok_index (k := 0) F3 Dis_whole_number, b3, k3, g3⟩
  have Dturned : Df l.prog w K mg base 1 "turned" ["spots", "counts", "at", "turn"] spTurned := ⟨f20, _, ok_turned (k := 0) F20, b20, k20, g20⟩
  have Dway_to : Df l.prog w K mg base 2 "way_to" ["spots", "counts", "kind", "index"] (spWay K) := ⟨f21, _, ok_way F21 M TT Dturned, b21, k21, g21⟩
  have Dplace_on : Df l.prog w K mg base 2 "place_on" ["spots", "sizes", "kind", "way"] spPlaceOn := ⟨f22, _, ok_placeOn F22 M TT Dturned, b22, k22, g22⟩
  have Dway_at : Df l.prog w K mg base 3 "way_at" ["spots", "sizes", "kind", "place"] (spWayAt K) := ⟨f24, _, ok_wayAt F24 Dis_index Dway_to, b24, k24, g24⟩
  have Dlabel_on : Df l.prog w K mg base 1 "label_on" ["spots", "way"] spLabOn := ⟨f23, _, ok_labOn (k := 0) F23 M, b23, k23, g23⟩
  have Dlabel_in : Df l.prog w K mg base 32 "label_in" ["nest", "kind", "place"] spLabIn := ⟨f25, _, ok_labIn F25 mLET Dspots_of Dcounts_in Dlabel_on Dway_at, b25, k25, g25⟩
  have Dother_place : Df l.prog w K mg base 32 "other_place" ["nest", "kind", "place", "other"] spOther := ⟨f26, _, ok_other F26 mLET Dspots_of Dcounts_in Dplace_on Dway_at, b26, k26, g26⟩
  have D_law_deck : Df l.prog w K mg base 1 "_law_deck" ["_law_script"] (spDeck K) := ⟨f27, _, ok_deck (k := 0) F27 M, b27, k27, g27⟩
  have D_law_draw : Df l.prog w K mg base 1 "_law_draw" ["_law_deck_here", "_law_many"] spDraw := ⟨f28, _, ok_draw (k := 0) F28 M, b28, k28, g28⟩
  have D_law_pick : Df l.prog w K mg base 2 "_law_pick" ["_law_deck_here", "_law_items"] (spPick K) := ⟨f29, _, ok_pick (k := 0) F29 M D_law_draw, b29, k29, g29⟩
  have D_law_mixed : Df l.prog w K mg base 2 "_law_mixed" ["_law_deck_here", "_law_items"] spMixed := ⟨f31, _, ok_mixed (k := 0) F31 M D_law_draw, b31, k31, g31⟩
  have D_law_tree : Df l.prog w K mg base 33 "_law_tree" ["_law_deck_here", "_law_size", "_law_style", "_law_letters"] (spTree 30) := ⟨f32, _, ok_tree F32 b32 g32 D_law_draw D_law_pick 30, b32, k32, g32⟩
  have D_law_drawn_tree : Df l.prog w K mg base 34 "_law_drawn_tree" ["_law_deck_here", "_law_limit"] spDrawn := ⟨f33, _, ok_drawn F33 D_law_draw D_law_pick D_law_tree, b33, k33, g33⟩
  have D_law_nodes40 : Df l.prog w K mg base 40 "_law_nodes" ["_law_tree_here", "_law_path"] (spNodes 40) := ⟨f34, _, ok_nodes F34 b34 g34 40, b34, k34, g34⟩
  have D_law_nodes : Df l.prog w K mg base 70 "_law_nodes" ["_law_tree_here", "_law_path"] (spNodes 70) := ⟨f34, _, ok_nodes F34 b34 g34 70, b34, k34, g34⟩
  have D_law_open : Df l.prog w K mg base 41 "_law_open" ["_law_tree_here"] spOpen := ⟨f35, _, ok_open F35 D_law_nodes40, b35, k35, g35⟩
  have D_law_nest : Df l.prog w K mg base 42 "_law_nest" ["_law_deck_here", "_law_entries", "_law_limit", "_law_few"] spNest := ⟨f36, _, ok_nest F36 M D_law_draw D_law_pick D_law_mixed D_law_drawn_tree D_law_open, b36, k36, g36⟩
  have D_law_sizes : Df l.prog w K mg base 41 "_law_sizes" ["_law_nest_here"] spSizes := ⟨f37, _, ok_sizes F37 M m_sum D_law_nodes40, b37, k37, g37⟩
  have D_law_small_nest : Df l.prog w K mg base 43 "_law_small_nest" ["_law_deck_here", "_law_limit"] spSmall := ⟨f38, _, ok_small F38 D_law_nest D_law_sizes, b38, k38, g38⟩
  have DQwhole : Df l.prog w K mg base 1 "is_whole_number" ["value"] spWholeQ := ⟨f2, _, ok_wholeQ (k := 0) F2 M, b2, k2, g2⟩
  have DQindex : Df l.prog w K mg base 2 "is_index" ["value", "many"] spIndexQ := ⟨f3, _, ok_indexQ (k := 0) F3 M DQwhole, b3, k3, g3⟩
  have Dis_letter : Df l.prog w K mg base 1 "is_letter" ["value"] spLowX := ⟨f1, _, ok_lowX (k := 0) F1 M, b1, k1, g1⟩
  have Dis_node : Df l.prog w K mg base 2 "is_node" ["value"] (spAsk isN) := ⟨f5, _, ok_nodeV (k := 0) F5 M Dis_letter, b5, k5, g5⟩
  have Dis_tree : Df l.prog w K mg base 3 "is_tree" ["value"] spIsTreeX := ⟨f6, _, ok_isTreeX F6 m1 Dis_node, b6, k6, g6⟩
  have Dpart_at : DfX l.prog w K mg base 1 "part_at" ["tree", "path"] (spPartX C_NoPath) := ⟨f7, _, ok_partX (k := 0) F7 M E_NoPath, b7, k7, g7⟩
  have Dis_open : Df l.prog w K mg base 3 "is_open" ["tree", "path"] spOpenX := ⟨f8, _, ok_openX (k := 1) F8 gC_NoPath ePP ⟨f7, _, ok_partX (k := 1) F7 M E_NoPath, b7, k7, g7⟩, b8, k8, g8⟩
  have Dis_link : Df l.prog w K mg base 4 "is_link" ["value", "tree", "entries"] spLink := ⟨f10, _, ok_link F10 M Dis_open DQindex, b10, k10, g10⟩
  have Dis_ascending : Df l.prog w K mg base 1 "is_ascending" ["items"] spAsc := ⟨f4, _, ok_asc (k := 0) F4 M, b4, k4, g4⟩
  have Dis_entry : Df l.prog w K mg base 5 "is_entry" ["value", "entries"] spEntry := ⟨f11, _, ok_entry F11 M Dis_tree Dis_link Dis_ascending, b11, k11, g11⟩
  have Dis_nest : Df l.prog w K mg base 6 "is_nest" ["value"] spNestQ := ⟨f12, _, ok_nestQ F12 M m_enumerate m2 Dis_entry, b12, k12, g12⟩
  have Dexpand_nest : Df l.prog w K mg base 33 "expand_nest" ["nest"] spExp := ⟨f18, _, ok_expand F18 m1 M Dspots_of Dnest_size, b18, k18, g18⟩
  have Dmirrored : Df l.prog w K mg base 30 "mirrored" ["tree"] (spMir 30) := ⟨f9, _, ok_mir F9 b9 g9 30, b9, k9, g9⟩
  have D_law_glass : Df l.prog w K mg base 30 "_law_glass" ["_law_tree_here"] (spMir 30) := ⟨f40, _, ok_glass F40 b40 g40 30, b40, k40, g40⟩
  have D_law_turned : Df l.prog w K mg base 31 "_law_turned" ["_law_nest_here"] spTurn := ⟨f39, _, ok_turn F39 M D_law_glass, b39, k39, g39⟩
  have D_law_same : DfG l.prog w K mg base 1 "_law_same" ["_law_found", "_law_due"] (spSameV K) := ⟨f30, _, ok_same F30 m_repr, b30, k30, g30⟩
  have D_law_right : DfG l.prog w K mg base 34 "_law_right" ["_law_deck_here", "_law_nest_here"] spRight := ⟨f41, _, ok_right F41 M Dnest_size Dnest_depth Dcount_label Dlabel_in Dother_place Dis_nest D_law_turned D_law_draw D_law_pick D_law_same, b41, k41, g41⟩
  exact run_law F42 (.of_eq rfl) en hS M D_law_deck D_law_nest D_law_small_nest D_law_right D_law_turned Dexpand_nest Dmirrored D_law_same
theorem walk_at {l : PySem.W.OpenLaw} {q : Program} {loose : List Str} {XP : (Str → Option Value) → Heap → Prop} {YP : World → Heap → Prop} {d : DefRec} {K : Params → PySem.W.Frag} (most : l.most = some 63) (noDf : d.params.defaults = [])
    (inK : ∀ (w : World) (h : Heap), YP w h → (K w.params).In h)
    (F : ∀ (w : World) (mg : Str → Option Value) (fa : Addr) (h : Heap), (K w.params).In h → h.Ns mainGlobals mg → mg d.name = some (.ref fa) →
      ∀ (base : Heap) (H : Hp) (s : Shared) (a : Addr) (ns : List Int), (K w.params).In base → base.Ns mainGlobals mg → Env0 l.prog w (K w.params) mg base callerA [] s H → SqL (K w.params) H a (ns.map V.int) → ns.length ≤ 63 →
        codeAny (model l.prog w) callerA (.call (.ref fa) ⟨[.ref a], []⟩) (CR CX0 [] l.prog w H s (fun v _ => v = .bl true) fun _ _ _ => False) s) :
    PySem.W.WalkO q loose XP YP l.row.toRowW d [] (fun f vs => PySem.call f vs) := by
  refine Att.attach_call most noDf ?_
  intro w s₀ s₁ mg mb fa o pm cd doc a vs ns G Y ho hd hcd hmg hobj hints hlen hg
  exact law_at (inK w _ Y) G.T.g G.T.b G.T.builtins G.T.nolimit hg hobj hints (Nat.le_trans hlen (by decide)) fun base H h1 h2 en hS => F w mg fa _ (inK w _ Y) G.T.g hmg base H s₁ a ns h1 h2 en hS hlen
end Tw
open PySem PySem.W PyProof.Rows
set_option maxRecDepth 100000 in
set_option maxHeartbeats 0 in
theorem PySem.Challenge.cw_treewalks_k55_whole_mirrored_nests_holds : PySem.Challenge.rw_treewalks_k55_whole_mirrored_nests.Holds := by
  w_on; o_law; k_head; (case hw => w_witness2)
  k_fill
  refine Tw.walk_at (l := PySem.Challenge.rw_treewalks_k55_whole_mirrored_nests) rfl rfl (fun w h Y => by first | exact PySem.W.kIn_of Y | exact PySem.W.km_in_of Y) ?F
  case F =>
    intro w mg fa h KX G hmg
    refine' Tw.all_mk KX G hmg ?a_NoPath ?x_NoPath ?sa_NoPath ?ga_NoPath ?gg_NoPath ?nb_NoPath ?ii_NoPath ?ti_NoPath ?li_NoPath ?ci_NoPath ?kC_NoPath ?eC_NoPath ?tC_NoPath ?hC_NoPath ?h1_NoPath ?h2_NoPath ?h3_NoPath ?h4_NoPath ?ePP ?aLn ?aTn ?aTl ?aTk ?aT1 ?bT1l ?aT2 ?bT2l ?aT3 ?bT3l ?a1 ?l1 ?c1 ?k1 ?a2 ?l2 ?c2 ?k2 ?a3 ?l3 ?c3 ?k3 ?a4 ?l4 ?c4 ?k4 ?a5 ?l5 ?c5 ?k5 ?a6 ?l6 ?c6 ?k6 ?a7 ?l7 ?c7 ?k7 ?a8 ?l8 ?c8 ?k8 ?a9 ?l9 ?c9 ?k9 ?a10 ?l10 ?c10 ?k10 ?a11 ?l11 ?c11 ?k11 ?a12 ?l12 ?c12 ?k12 ?a13 ?l13 ?c13 ?k13 ?a14 ?l14 ?c14 ?k14 ?a15 ?l15 ?c15 ?k15 ?a16 ?l16 ?c16 ?k16 ?a17 ?l17 ?c17 ?k17 ?a18 ?l18 ?c18 ?k18 ?a19 ?l19 ?c19 ?k19 ?a20 ?l20 ?c20 ?k20 ?a21 ?l21 ?c21 ?k21 ?a22 ?l22 ?c22 ?k22 ?a23 ?l23 ?c23 ?k23 ?a24 ?l24 ?c24 ?k24 ?a25 ?l25 ?c25 ?k25 ?a26 ?l26 ?c26 ?k26 ?a27 ?l27 ?c27 ?k27 ?a28 ?l28 ?c28 ?k28 ?a29 ?l29 ?c29 ?k29 ?a30 ?l30 ?c30 ?k30 ?a31 ?l31 ?c31 ?k31 ?a32 ?l32 ?c32 ?k32 ?a33 ?l33 ?c33 ?k33 ?a34 ?l34 ?c34 ?k34 ?a35 ?l35 ?c35 ?k35 ?a36 ?l36 ?c36 ?k36 ?a37 ?l37 ?c37 ?k37 ?a38 ?l38 ?c38 ?k38 ?a39 ?l39 ?c39 ?k39 ?a40 ?l40 ?c40 ?k40 ?a41 ?l41 ?c41 ?k41 ?a42 ?l42 ?c42 ?k42 ?z1 ?z2 ?z3 ?z4 ?z5 ?z6 ?z7 ?z8 ?z9 ?z10 ?z11 ?z12 ?z13 ?z14 ?z15 ?z16 ?z17 ?z18 ?z19 ?v1 ?v2
    (case a_NoPath => k_is)
    (case x_NoPath => k_is)
    (case sa_NoPath => k_is)
    (case ga_NoPath => k_is)
    (case gg_NoPath => k_is)
    (case nb_NoPath => k_is)
    (case ii_NoPath => k_is)
    (case ti_NoPath => k_is)
    (case li_NoPath => k_is)
    (case ci_NoPath => k_is)
    (case kC_NoPath => k_is)
    (case eC_NoPath => k_is)
    (case tC_NoPath => k_is)
    (case hC_NoPath => k_is)
    (case h1_NoPath => k_is)
    (case h2_NoPath => k_is)
    (case h3_NoPath => k_is)
    (case h4_NoPath => k_is)
    (case ePP => first | k_is | rfl | decide +kernel)
    (case aLn => first | k_is | rfl | decide +kernel)
    (case aTn => first | k_is | rfl | decide +kernel)
    (case aTl => first | k_is | rfl | decide +kernel)
    (case aTk => exact ⟨⟨_, _, rfl, rfl⟩, ⟨_, _, rfl, rfl⟩, ⟨_, _, rfl, rfl⟩, trivial⟩)
    (case aT1 => first | k_is | rfl | decide +kernel)
    (case bT1l => first | k_is | rfl | decide +kernel)
    (case aT2 => first | k_is | rfl | decide +kernel)
    (case bT2l => first | k_is | rfl | decide +kernel)
    (case aT3 => first | k_is | rfl | decide +kernel)
    (case bT3l => first | k_is | rfl | decide +kernel)
    (case a1 => k_is)
    (case l1 => k_is)
    (case c1 => k_is)
    (case k1 => k_is)
    (case a2 => k_is)
    (case l2 => k_is)
    (case c2 => k_is)
    (case k2 => k_is)
    (case a3 => k_is)
    (case l3 => k_is)
    (case c3 => k_is)
    (case k3 => k_is)
    (case a4 => k_is)
    (case l4 => k_is)
    (case c4 => k_is)
    (case k4 => k_is)
    (case a5 => k_is)
    (case l5 => k_is)
    (case c5 => k_is)
    (case k5 => k_is)
    (case a6 => k_is)
    (case l6 => k_is)
    (case c6 => k_is)
    (case k6 => k_is)
    (case a7 => k_is)
    (case l7 => k_is)
    (case c7 => k_is)
    (case k7 => k_is)
    (case a8 => k_is)
    (case l8 => k_is)
    (case c8 => k_is)
    (case k8 => k_is)
    (case a9 => k_is)
    (case l9 => k_is)
    (case c9 => k_is)
    (case k9 => k_is)
    (case a10 => k_is)
    (case l10 => k_is)
    (case c10 => k_is)
    (case k10 => k_is)
    (case a11 => k_is)
    (case l11 => k_is)
    (case c11 => k_is)
    (case k11 => k_is)
    (case a12 => k_is)
    (case l12 => k_is)
    (case c12 => k_is)
    (case k12 => k_is)
    (case a13 => k_is)
    (case l13 => k_is)
    (case c13 => k_is)
    (case k13 => k_is)
    (case a14 => k_is)
    (case l14 => k_is)
    (case c14 => k_is)
    (case k14 => k_is)
    (case a15 => k_is)
    (case l15 => k_is)
    (case c15 => k_is)
    (case k15 => k_is)
    (case a16 => k_is)
    (case l16 => k_is)
    (case c16 => k_is)
    (case k16 => k_is)
    (case a17 => k_is)
    (case l17 => k_is)
    (case c17 => k_is)
    (case k17 => k_is)
    (case a18 => k_is)
    (case l18 => k_is)
    (case c18 => k_is)
    (case k18 => k_is)
    (case a19 => k_is)
    (case l19 => k_is)
    (case c19 => k_is)
    (case k19 => k_is)
    (case a20 => k_is)
    (case l20 => k_is)
    (case c20 => k_is)
    (case k20 => k_is)
    (case a21 => k_is)
    (case l21 => k_is)
    (case c21 => k_is)
    (case k21 => k_is)
    (case a22 => k_is)
    (case l22 => k_is)
    (case c22 => k_is)
    (case k22 => k_is)
    (case a23 => k_is)
    (case l23 => k_is)
    (case c23 => k_is)
    (case k23 => k_is)
    (case a24 => k_is)
    (case l24 => k_is)
    (case c24 => k_is)
    (case k24 => k_is)
    (case a25 => k_is)
    (case l25 => k_is)
    (case c25 => k_is)
    (case k25 => k_is)
    (case a26 => k_is)
    (case l26 => k_is)
    (case c26 => k_is)
    (case k26 => k_is)
    (case a27 => k_is)
    (case l27 => k_is)
    (case c27 => k_is)
    (case k27 => k_is)
    (case a28 => k_is)
    (case l28 => k_is)
    (case c28 => k_is)
    (case k28 => k_is)
    (case a29 => k_is)
    (case l29 => k_is)
    (case c29 => k_is)
    (case k29 => k_is)
    (case a30 => k_is)
    (case l30 => k_is)
    (case c30 => k_is)
    (case k30 => k_is)
    (case a31 => k_is)
    (case l31 => k_is)
    (case c31 => k_is)
    (case k31 => k_is)
    (case a32 => k_is)
    (case l32 => k_is)
    (case c32 => k_is)
    (case k32 => k_is)
    (case a33 => k_is)
    (case l33 => k_is)
    (case c33 => k_is)
    (case k33 => k_is)
    (case a34 => k_is)
    (case l34 => k_is)
    (case c34 => k_is)
    (case k34 => k_is)
    (case a35 => k_is)
    (case l35 => k_is)
    (case c35 => k_is)
    (case k35 => k_is)
    (case a36 => k_is)
    (case l36 => k_is)
    (case c36 => k_is)
    (case k36 => k_is)
    (case a37 => k_is)
    (case l37 => k_is)
    (case c37 => k_is)
    (case k37 => k_is)
    (case a38 => k_is)
    (case l38 => k_is)
    (case c38 => k_is)
    (case k38 => k_is)
    (case a39 => k_is)
    (case l39 => k_is)
    (case c39 => k_is)
    (case k39 => k_is)
    (case a40 => k_is)
    (case l40 => k_is)
    (case c40 => k_is)
    (case k40 => k_is)
    (case a41 => k_is)
    (case l41 => k_is)
    (case c41 => k_is)
    (case k41 => k_is)
    (case a42 => k_is)
    (case l42 => k_is)
    (case c42 => k_is)
    (case k42 => k_is)
    (case z1 => k_is)
    (case z2 => k_is)
    (case z3 => k_is)
    (case z4 => k_is)
    (case z5 => k_is)
    (case z6 => k_is)
    (case z7 => k_is)
    (case z8 => k_is)
    (case z9 => k_is)
    (case z10 => k_is)
    (case z11 => k_is)
    (case z12 => k_is)
    (case z13 => k_is)
    (case z14 => k_is)
    (case z15 => k_is)
    (case z16 => k_is)
    (case z17 => k_is)
    (case z18 => k_is)
    (case z19 => k_is)
    (case v1 => k_is)
    (case v2 => k_is)
