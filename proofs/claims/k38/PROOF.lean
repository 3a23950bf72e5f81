import PyProof.Rows.All
import Wide.All
import OpenK.AllK
import Wide.FinOn
import HandS.ForMost
import HandS.ForExc
import HandS.Wide
import HandS.IsInst
import HandS.Flow
import HandS.FStrTup
import HandS.NoneIn
import HandS.TupAny
import HandS.Style
import HandS.TryMany
import HandS.ExcIs
import HandS.ExcField
import HandS.ExcOwn
import KE.KExcInit
import KE.KExcIs
import HandS.Walk
import HandS.Zip
import KE.GoesZip
import KE.GoesMore
import HandS.Sort
import HandS.Set
import HandS.SetFor
import HandS.Strs
import HandS.SetTxt0
import HandS.TupSets
import HandS.DictComp
import KE.KSortTupG
import KE.KSortTupUse
import HandS.More
import HandS.Replace
import HandS.Star
import HandS.TupMul
import PyProof.CollectStr
import PySem.Challenge.RW_treewalks_k38_nests_judged
set_option Elab.async false
set_option maxRecDepth 100000
set_option maxHeartbeats 4000000
namespace Tw
open PySem PySem.Spec PyProof.Rows L2
/-! ### trees over signs -/
abbrev ch (c : Nat) : Str := ⟨#[c]⟩
def tx (l : List Nat) : Str := ⟨l.toArray⟩
theorem tx_cps (l : List Nat) : (tx l).cps.toList = l := rfl
theorem tx_size (l : List Nat) : (tx l).cps.size = l.length := rfl
theorem tx_len (l : List Nat) : (tx l).length = l.length := rfl
theorem tx_one (c : Nat) : tx [c] = ch c := rfl
theorem tx_app (a b : List Nat) : tx a ++ tx b = tx (a ++ b) := by
  show (⟨(tx a).cps ++ (tx b).cps⟩ : Str) = _
  simp [tx]
theorem ch_app (c : Nat) (b : List Nat) : ch c ++ tx b = tx (c :: b) := tx_app [c] b
theorem tx_inj {a b : List Nat} (h : tx a = tx b) : a = b := congrArg (fun z : Str => z.cps.toList) h
theorem ch_inj {a b : Nat} (h : ch a = ch b) : a = b := by have := tx_inj (a := [a]) (b := [b]) h; simpa using this
theorem ch_lt (a b : Nat) : decide ((ch a).cps.toList < (ch b).cps.toList) = decide (a < b) := by
  have : ((ch a).cps.toList < (ch b).cps.toList) ↔ a < b := by
    show [a] < [b] ↔ _
    simp [List.cons_lt_cons_iff]
  simp only [this]
theorem tx_to (l : List Nat) (k : Nat) : cutS (tx l) none (some (k : Int)) = tx (l.take k) := by
  unfold cutS tx
  show (⟨_⟩ : Str) = ⟨_⟩
  rw [HT.sIx_nat, HT.sIx_none]
  show (⟨((l.drop 0).take (min k l.length - 0)).toArray⟩ : Str) = ⟨(l.take k).toArray⟩
  rw [List.drop_zero, Nat.sub_zero, Nat.min_def]
  split
  · rfl
  · rw [List.take_of_length_le (Nat.le_refl _), List.take_of_length_le (by omega)]
theorem tx_from (l : List Nat) (k : Nat) : cutS (tx l) (some (k : Int)) none = tx (l.drop k) := by
  unfold cutS tx
  show (⟨_⟩ : Str) = ⟨_⟩
  rw [HT.sIx_nat, HT.sIx_none]
  show (⟨((l.drop (min k l.length)).take (l.length - min k l.length)).toArray⟩ : Str) = ⟨(l.drop k).toArray⟩
  by_cases h : k ≤ l.length
  · rw [Nat.min_eq_left h, List.take_of_length_le (by rw [List.length_drop]; omega)]
  · rw [Nat.min_eq_right (by omega), List.drop_eq_nil_of_le (Nat.le_refl _), List.drop_eq_nil_of_le (by omega), List.take_nil]
theorem joinL_ones : ∀ l : List Nat, TL.joinL [] (l.map fun c => [c]) = l
  | [] => rfl
  | [c] => rfl
  | c :: d :: r => by
    have := joinL_ones (d :: r)
    show [c] ++ ([] ++ TL.joinL [] ((d :: r).map fun c => [c])) = _
    rw [this]; rfl
theorem tx_join (l : List Nat) : Txt.join (Str.ofString "") (l.map ch) = tx l := by
  rw [TL.join_eq]
  have e := TL.tl_join (Str.ofString "") (l.map ch)
  refine TL.ext_tl (e.trans ?_)
  rw [List.map_map]
  exact joinL_ones l
theorem tx_joinOk (l : List Nat) (h : l.length ≤ 1000) : ((l.map ch).map (·.length)).sum + (l.map ch).length * (Str.ofString "").length ≤ 16777216 := by
  have e0 : (Str.ofString "").length = 0 := by decide +kernel
  have e1 : ∀ l : List Nat, ((l.map ch).map (·.length)).sum = l.length := by
    intro l
    induction l with
    | nil => rfl
    | cons c r ih =>
      rw [List.map_cons, List.map_cons, List.sum_cons, ih, List.length_cons]
      show 1 + r.length = _
      omega
  rw [e0, e1]
  omega
inductive B where
  | nil
  | node (l : B) (x : Nat) (r : B)
  deriving DecidableEq
def B.size : B → Nat
  | .nil => 0
  | .node l _ r => l.size + 1 + r.size
def B.deep : B → Nat
  | .nil => 0
  | .node l _ r => 1 + max l.deep r.deep
def B.data : B → PyData
  | .nil => .none
  | .node l x r => .tuple [l.data, .str (ch x), r.data]
def B.pre : B → List Nat
  | .nil => []
  | .node l x r => x :: (l.pre ++ r.pre)
def B.mid : B → List Nat
  | .nil => []
  | .node l x r => l.mid ++ x :: r.mid
theorem B.deep_le : ∀ t : B, t.deep ≤ t.size
  | .nil => Nat.le_refl _
  | .node l _ r => by
    have h1 := l.deep_le
    have h2 := r.deep_le
    show 1 + max l.deep r.deep ≤ l.size + 1 + r.size
    omega
theorem B.pre_len : ∀ t : B, t.pre.length = t.size
  | .nil => rfl
  | .node l x r => by
    have h1 := l.pre_len
    have h2 := r.pre_len
    show (x :: (l.pre ++ r.pre)).length = l.size + 1 + r.size
    rw [List.length_cons, List.length_append]
    omega
theorem B.mid_len : ∀ t : B, t.mid.length = t.size
  | .nil => rfl
  | .node l x r => by
    have h1 := l.mid_len
    have h2 := r.mid_len
    show (l.mid ++ x :: r.mid).length = l.size + 1 + r.size
    rw [List.length_append, List.length_cons]
    omega
theorem B.mid_mem (t : B) (c : Nat) : c ∈ t.mid ↔ c ∈ t.pre := by
  induction t with
  | nil => exact Iff.rfl
  | node l x r h1 h2 =>
    show c ∈ l.mid ++ x :: r.mid ↔ c ∈ x :: (l.pre ++ r.pre)
    rw [List.mem_append, List.mem_cons, List.mem_cons, List.mem_append, h1, h2]
    constructor
    · rintro (h | h | h)
      · exact .inr (.inl h)
      · exact .inl h
      · exact .inr (.inr h)
    · rintro (h | h | h)
      · exact .inr (.inl h)
      · exact .inl h
      · exact .inr (.inr h)
/-- the tree t lies at v -/
inductive BAt (H : Hp) : V → B → Prop
  | nil : BAt H .non .nil
  | node {a : Addr} {l r : V} {x : Nat} {tl tr : B} : H a = some (.tup [l, .str (ch x), r]) → BAt H l tl → BAt H r tr → BAt H (.ref a) (.node tl x tr)
/-- tuples stand still -/
def KeepT (H H' : Hp) : Prop := ∀ b xs, H b = some (.tup xs) → H' b = some (.tup xs)
theorem KeepT.refl (H : Hp) : KeepT H H := fun _ _ h => h
theorem KeepT.trans {H H1 H2 : Hp} (a : KeepT H H1) (b : KeepT H1 H2) : KeepT H H2 := fun c xs h => b c xs (a c xs h)
theorem Same.keepT {H H' : Hp} (h : Same H H') : KeepT H H' := fun b xs e => h b _ e
theorem BAt.keep {H H' : Hp} (k : KeepT H H') {v : V} {t : B} (h : BAt H v t) : BAt H' v t := by
  induction h with
  | nil => exact .nil
  | node e _ _ h1 h2 => exact .node (k _ _ e) h1 h2
theorem BAt.same {H H' : Hp} (k : Same H H') {v : V} {t : B} (h : BAt H v t) : BAt H' v t := h.keep (Tw.Same.keepT k)
theorem BAt.dp {K : PySem.W.Frag} {H : Hp} {v : V} {t : B} (h : BAt H v t) : Dp K H v t.data := by
  induction h with
  | nil => exact .non
  | node e _ _ h1 h2 => exact .tup (SqT.of e) (.cons h1 (.cons (.str _) (.cons h2 .nil)))
theorem BAt.inv {H : Hp} {v : V} {t : B} (h : BAt H v t) : (v = .non ∧ t = .nil) ∨ ∃ a l r x tl tr, v = .ref a ∧ t = .node tl x tr ∧ H a = some (.tup [l, .str (ch x), r]) ∧ BAt H l tl ∧ BAt H r tr := by
  cases h with
  | nil => exact .inl ⟨rfl, rfl⟩
  | node e h1 h2 => exact .inr ⟨_, _, _, _, _, _, rfl, rfl, e, h1, h2⟩
theorem same_new {H : Hp} {p : Addr} (h : H p = none) (o : HO) : Same H (upd H p o) := fun b u q => by rw [upd_ne (ne_of_none q h)]; exact q
theorem small {n : Nat} (h : n ≤ 1000) : n ≤ sizeLine := Nat.le_of_lt (small1000 h)
theorem at_map {α : Type} {f : α → V} {ns : List α} {i : Int} {v : α} (h0 : 0 ≤ i) (h : ns[i.toNat]? = some v) : atI (ns.map f) i = some (f v) := by
  have e : i = ((i.toNat : Nat) : Int) := by omega
  rw [e]
  exact atI_nat (by rw [List.getElem?_map, h]; rfl)
theorem ixN_nat {n : Nat} {i : Int} (h0 : 0 ≤ i) (h : i < n) : ixN n i = some i.toNat := by
  unfold ixN
  first
    | rw [if_pos h0, if_pos h]
    | (rw [if_pos h0]; rw [if_pos (by omega)])
    | simp [h0, h]
theorem cut_to (xs : List V) (k : Nat) : cutV xs none (some (k : Int)) = xs.take k := by
  unfold cutV
  rw [HT.sIx_nat, HT.sIx_none, List.drop_zero, Nat.sub_zero]
  rw [Nat.min_def]
  split
  · rfl
  · rw [List.take_of_length_le (Nat.le_refl _), List.take_of_length_le (by omega)]
theorem cut_from (xs : List V) (k : Nat) : cutV xs (some (k : Int)) none = xs.drop k := by
  unfold cutV
  rw [HT.sIx_nat, HT.sIx_none]
  by_cases h : k ≤ xs.length
  · rw [Nat.min_eq_left h, List.take_of_length_le (by rw [List.length_drop]; omega)]
  · rw [Nat.min_eq_right (by omega), List.drop_eq_nil_of_le (Nat.le_refl _), List.drop_eq_nil_of_le (by omega), List.take_nil]
theorem kept {σ : L2.St} {H : Hp} {A B : Hp → Prop} (h : A H) : tYes σ H (fun b H3 => if b = true then A H3 else B H3) := by
  show if true = true then A H else B H
  exact iteT h
theorem erase_map {α β : Type} (f : α → β) : ∀ (l : List α) (i : Nat), (l.map f).eraseIdx i = (l.eraseIdx i).map f
  | [], _ => rfl
  | _ :: _, 0 => rfl
  | x :: l, i + 1 => congrArg (f x :: ·) (erase_map f l i)
/-- a def that stands at a name, with its promise -/
structure Df (P : Program) (w : World) (K : PySem.W.Frag) (mg : Str → Option Value) (base : Heap) (k : Nat) (nm : Str) (ps : List Str) (sp : Sp) where
  f : Addr
  fd : FuncData
  ok : FnOk P w K mg base CX0 k f fd ps sp
  b : Binds K fd ps []
  kp : PySem.W.keepIn K (.ref f) = true
  g : mg nm = some (.ref f)
structure Mgs (mg : Str → Option Value) : Prop where
  zip : mg "zip" = none
  all : mg "all" = none
  repr : mg "repr" = none
  sum : mg "sum" = none
  len : mg "len" = none
  isinstance : mg "isinstance" = none
  list : mg "list" = none
  tuple : mg "tuple" = none
  str : mg "str" = none
  int : mg "int" = none
  bool : mg "bool" = none
  dict : mg "dict" = none
  range : mg "range" = none
  sorted : mg "sorted" = none
  abs : mg "abs" = none
  min : mg "min" = none
  max : mg "max" = none
theorem vals_signs : ∀ (l : List Nat) (vs : List Value), vs.length = l.length → (∀ (j : Nat) (v : Value), vs[j]? = some v → ∃ c u, l[j]? = some c ∧ v = .str ⟨#[c]⟩ u) → Vals (l.map fun c => V.str ⟨#[c]⟩) vs
  | [], [], _, _ => .nil
  | [], _ :: _, h, _ => by simp at h
  | _ :: _, [], h, _ => by simp at h
  | c :: l, v :: vs, h, k => by
    obtain ⟨c', u, e, rfl⟩ := k 0 v rfl
    cases e
    exact .cons ⟨u, rfl⟩ (vals_signs l vs (by simpa using h) fun j v e => k (j + 1) v e)
theorem call_signs {X : Cx} (hc : X.calm = true) : CallR X (.type "list") (fun xs H Q => ∃ x : Str, xs = [.str x] ∧ x.cps.size ≤ 1000 ∧ ∀ p, H p = none → Q (.ref p) (upd H p (.lst (x.cps.toList.map fun c => V.str ⟨#[c]⟩)))) := by
  intro pins s σ H xs us Q I r h
  obtain ⟨x, rfl, hz, q⟩ := h
  obtain ⟨u, rfl, t, rfl⟩ := vals1 r
  have hz' : x.cps.size ≤ sizeLine := small hz
  refine call_list_str (I.ok.hd hc) x t (fun h' tk acc' c' hk hS hacc => ?_) hz'
  have hv : Vals (x.cps.toList.map fun c => V.str ⟨#[c]⟩) acc'.toList := vals_signs _ _ (by rw [Array.length_toList, Array.length_toList]; exact hacc.1) fun j v e => by
    obtain ⟨c, u, h1, h2⟩ := hacc.2 j v (by rw [← Array.getElem?_toList]; exact e)
    exact ⟨c, u, by rw [Array.getElem?_toList]; exact h1, h2⟩
  exact ⟨.ref s.heap.objs.size, _, I.laid (t' := tk) hk (Nat.le_refl _) (show ObjOk X.prog X.w _ h' _ (.lst _) from ⟨by rw [List.length_map, Array.length_toList]; exact hz', acc'.toList, c', hv, by rw [Array.toArray_toList]; exact hS⟩), rfl, q _ (I.hok.fresh (Nat.le_refl _))⟩
/-- for c in text -/
theorem for_text {x : Str} {g : TG} {tb : TS} {D : Ends} {σ : L2.St} {H : Hp} (Pv : Nat → L2.St → Hp → Prop) (h0 : Pv 0 σ H)
    (hs : ∀ i c σ H, x.cps.toList[i]? = some c → Pv i σ H → g (.str ⟨#[c]⟩) σ H fun σ2 H2 => tb { D with nx := Pv (i + 1), ct := Pv (i + 1), bk := D.nx } σ2 H2)
    (hd : ∀ σ H, Pv x.cps.toList.length σ H → D.nx σ H) :
    ∃ W : Nat → Nat → L2.St → Hp → Prop, (∃ m, W 0 m σ H) ∧ ∀ i m σ H, W i m σ H →
      ((Its x).stop i H ∧ D.nx σ H) ∨ ((Its x).go i H ∧ ∃ N : L2.St → Hp → Prop, (∀ σ' H', N σ' H' → ∃ m', m' < m ∧ W (i + 1) m' σ' H') ∧ ∀ v H', (Its x).yld i H v H' → g v σ H' fun σ2 H2 => tb { D with nx := N, ct := N, bk := D.nx } σ2 H2) := by
  refine for_it walk_str Pv h0 (fun _ _ _ _ _ => trivial) (fun i v σ H H' hi hp hy => ?_) (fun σ H hp => hd σ H (by rw [Array.length_toList]; exact hp))
  obtain ⟨rfl, c, hc, rfl⟩ := hy
  exact hs i c σ H' (by rw [Array.getElem?_toList]; exact hc) hp
theorem lc_text {x : Str} {g : TG} {tt : TT} {te : TE} {vs : List Nat} {σ : L2.St} {H1 : Hp} {D : Addr} {Qd : Hp → Prop} (Pv : Nat → Hp → Prop) (h0 : Pv 0 (upd H1 D (.lst [])))
    (hs : ∀ i c H, x.cps.toList[i]? = some c → Pv i H → g (.str ⟨#[c]⟩) (wipe σ vs) H fun σ2 H2 => wipe σ2 vs = wipe σ vs ∧ tt σ2 H2 fun b H3 =>
      if b = true then te σ2 H3 fun y H4 => ∃ acc, H4 D = some (.lst acc) ∧ acc.length < sizeLine ∧ Pv (i + 1) (upd H4 D (.lst (acc ++ [y]))) else Pv (i + 1) H3) (hd : ∀ H, Pv x.cps.toList.length H → Qd H) :
    ∃ W : Nat → Nat → Hp → Prop, (∃ m, W 0 m (upd H1 D (.lst []))) ∧ ∀ i m H, W i m H →
      ((Its x).stop i H ∧ Qd H) ∨ ((Its x).go i H ∧ ∃ Nx : Hp → Prop, (∀ H', Nx H' → ∃ m', m' < m ∧ W (i + 1) m' H') ∧ ∀ v H', (Its x).yld i H v H' → g v (wipe σ vs) H' fun σ2 H2 => wipe σ2 vs = wipe σ vs ∧ tt σ2 H2 fun b H3 =>
        if b = true then te σ2 H3 fun y H4 => ∃ acc, H4 D = some (.lst acc) ∧ acc.length < sizeLine ∧ Nx (upd H4 D (.lst (acc ++ [y]))) else Nx H3) := by
  refine lc_it walk_str Pv h0 (fun _ _ _ _ => trivial) (fun i v H H' hi hp hy => ?_) (fun H hp => hd H (by rw [Array.length_toList]; exact hp))
  obtain ⟨rfl, c, hc, rfl⟩ := hy
  exact hs i c H' (by rw [Array.getElem?_toList]; exact hc) hp
/-! ### the text by places -/
def top (i : Nat) : Stmt := PySem.Challenge.pw_treewalks_k38_nests_judged.main.body.getD i (.Pass ⟨0, 0, 0, 0⟩)
abbrev s_is_letter : Stmt := top 5
abbrev s_is_whole_number : Stmt := top 6
abbrev s_is_index : Stmt := top 7
abbrev s_is_ascending : Stmt := top 8
abbrev s_is_node : Stmt := top 10
abbrev s_is_tree : Stmt := top 11
abbrev s_part_at : Stmt := top 12
abbrev s_is_open : Stmt := top 13
abbrev s_is_link : Stmt := top 15
abbrev s_is_entry : Stmt := top 16
abbrev s_is_nest : Stmt := top 17
abbrev s__law_deck : Stmt := top 19
abbrev s__law_draw : Stmt := top 20
abbrev s__law_pick : Stmt := top 21
abbrev s__law_same : Stmt := top 22
abbrev s__law_mixed : Stmt := top 23
abbrev s__law_tree : Stmt := top 24
abbrev s__law_drawn_tree : Stmt := top 25
abbrev s__law_nodes : Stmt := top 26
abbrev s__law_open : Stmt := top 27
abbrev s__law_nest : Stmt := top 28
abbrev s__law_whole : Stmt := top 29
abbrev s__law_count : Stmt := top 30
abbrev s__law_is_nest : Stmt := top 31
abbrev s__law_odd : Stmt := top 32
abbrev s__law_changed : Stmt := top 33
abbrev s__law_chain : Stmt := top 34
abbrev s_law : Stmt := top 35
abbrev s_NoPath___init__ : Stmt := inClass (top 3) 0
theorem sc_is_letter : FnScope ["value"] ["value"] (defScope s_is_letter) := ⟨rfl, rfl, rfl, by decide +kernel, rfl, by decide +kernel, by decide +kernel⟩
theorem sc_is_whole_number : FnScope ["value"] ["value"] (defScope s_is_whole_number) := ⟨rfl, rfl, rfl, by decide +kernel, rfl, by decide +kernel, by decide +kernel⟩
theorem sc_is_index : FnScope ["value", "many"] ["value", "many"] (defScope s_is_index) := ⟨rfl, rfl, rfl, by decide +kernel, rfl, by decide +kernel, by decide +kernel⟩
theorem sc_is_ascending : FnScope ["items", "one", "other"] ["items"] (defScope s_is_ascending) := ⟨rfl, rfl, rfl, by decide +kernel, rfl, by decide +kernel, by decide +kernel⟩
theorem sc_is_node : FnScope ["value"] ["value"] (defScope s_is_node) := ⟨rfl, rfl, rfl, by decide +kernel, rfl, by decide +kernel, by decide +kernel⟩
theorem sc_is_tree : FnScope ["value", "count", "waiting", "part", "side"] ["value"] (defScope s_is_tree) := ⟨rfl, rfl, rfl, by decide +kernel, rfl, by decide +kernel, by decide +kernel⟩
theorem sc_part_at : FnScope ["tree", "path", "part", "step"] ["tree", "path"] (defScope s_part_at) := ⟨rfl, rfl, rfl, by decide +kernel, rfl, by decide +kernel, by decide +kernel⟩
theorem sc_is_open : FnScope ["tree", "path"] ["tree", "path"] (defScope s_is_open) := ⟨rfl, rfl, rfl, by decide +kernel, rfl, by decide +kernel, by decide +kernel⟩
theorem sc_is_link : FnScope ["value", "tree", "entries"] ["value", "tree", "entries"] (defScope s_is_link) := ⟨rfl, rfl, rfl, by decide +kernel, rfl, by decide +kernel, by decide +kernel⟩
theorem sc_is_entry : FnScope ["value", "entries", "tree", "links", "link"] ["value", "entries"] (defScope s_is_entry) := ⟨rfl, rfl, rfl, by decide +kernel, rfl, by decide +kernel, by decide +kernel⟩
theorem sc_is_nest : FnScope ["value", "at", "entry"] ["value"] (defScope s_is_nest) := ⟨rfl, rfl, rfl, by decide +kernel, rfl, by decide +kernel, by decide +kernel⟩
theorem sc__law_deck : FnScope ["_law_script", "_law_cells", "_law_cell"] ["_law_script"] (defScope s__law_deck) := ⟨rfl, rfl, rfl, by decide +kernel, rfl, by decide +kernel, by decide +kernel⟩
theorem sc__law_draw : FnScope ["_law_deck_here", "_law_many", "_law_cells", "_law_count_here", "_law_rests", "_law_seat", "_law_digits", "_law_mixed_here"] ["_law_deck_here", "_law_many"] (defScope s__law_draw) := ⟨rfl, rfl, rfl, by decide +kernel, rfl, by decide +kernel, by decide +kernel⟩
theorem sc__law_pick : FnScope ["_law_deck_here", "_law_items"] ["_law_deck_here", "_law_items"] (defScope s__law_pick) := ⟨rfl, rfl, rfl, by decide +kernel, rfl, by decide +kernel, by decide +kernel⟩
theorem sc__law_same : FnScope ["_law_found", "_law_due"] ["_law_found", "_law_due"] (defScope s__law_same) := ⟨rfl, rfl, rfl, by decide +kernel, rfl, by decide +kernel, by decide +kernel⟩
theorem sc__law_mixed : FnScope ["_law_deck_here", "_law_items", "_law_pool", "_law_found"] ["_law_deck_here", "_law_items"] (defScope s__law_mixed) := ⟨rfl, rfl, rfl, by decide +kernel, rfl, by decide +kernel, by decide +kernel⟩
theorem sc__law_tree : FnScope ["_law_deck_here", "_law_size", "_law_style", "_law_letters", "_law_left", "_law_label"] ["_law_deck_here", "_law_size", "_law_style", "_law_letters"] (defScope s__law_tree) := ⟨rfl, rfl, rfl, by decide +kernel, rfl, by decide +kernel, by decide +kernel⟩
theorem sc__law_drawn_tree : FnScope ["_law_deck_here", "_law_limit", "_law_letters"] ["_law_deck_here", "_law_limit"] (defScope s__law_drawn_tree) := ⟨rfl, rfl, rfl, by decide +kernel, rfl, by decide +kernel, by decide +kernel⟩
theorem sc__law_nodes : FnScope ["_law_tree_here", "_law_path", "_law_left", "_law_label", "_law_right"] ["_law_tree_here", "_law_path"] (defScope s__law_nodes) := ⟨rfl, rfl, rfl, by decide +kernel, rfl, by decide +kernel, by decide +kernel⟩
theorem sc__law_open : FnScope ["_law_tree_here", "_law_path", "_law_label", "_law_known", "_law_found", "_law_side"] ["_law_tree_here"] (defScope s__law_open) := ⟨rfl, rfl, rfl, by decide +kernel, rfl, by decide +kernel, by decide +kernel⟩
theorem sc__law_nest : FnScope ["_law_deck_here", "_law_entries", "_law_limit", "_law_few", "_law_found", "_law_seat", "_law_tree_here", "_law_links", "_law_path", "_law_index"] ["_law_deck_here", "_law_entries", "_law_limit", "_law_few"] (defScope s__law_nest) := ⟨rfl, rfl, rfl, by decide +kernel, rfl, by decide +kernel, by decide +kernel⟩
theorem sc__law_whole : FnScope ["_law_value", "_law_low", "_law_high"] ["_law_value", "_law_low", "_law_high"] (defScope s__law_whole) := ⟨rfl, rfl, rfl, by decide +kernel, rfl, by decide +kernel, by decide +kernel⟩
theorem sc__law_count : FnScope ["_law_value"] ["_law_value"] (defScope s__law_count) := ⟨rfl, rfl, rfl, by decide +kernel, rfl, by decide +kernel, by decide +kernel⟩
theorem sc__law_is_nest : FnScope ["_law_value", "_law_seat", "_law_entry", "_law_paths", "_law_link"] ["_law_value"] (defScope s__law_is_nest) := ⟨rfl, rfl, rfl, by decide +kernel, rfl, by decide +kernel, by decide +kernel⟩
theorem sc__law_odd : FnScope ["_law_deck_here", "_law_some"] ["_law_deck_here"] (defScope s__law_odd) := ⟨rfl, rfl, rfl, by decide +kernel, rfl, by decide +kernel, by decide +kernel⟩
theorem sc__law_changed : FnScope ["_law_deck_here", "_law_value", "_law_depth", "_law_seat", "_law_part", "_law_some"] ["_law_deck_here", "_law_value", "_law_depth"] (defScope s__law_changed) := ⟨rfl, rfl, rfl, by decide +kernel, rfl, by decide +kernel, by decide +kernel⟩
theorem sc__law_chain : FnScope ["_law_size", "_law_found", "_law_turn"] ["_law_size"] (defScope s__law_chain) := ⟨rfl, rfl, rfl, by decide +kernel, rfl, by decide +kernel, by decide +kernel⟩
theorem sc_law : FnScope ["_law_script", "_law_deck_here", "_law_turn", "_law_nest_here", "_law_many", "_law_tree_here", "_law_leaf", "_law_ways", "_law_values", "_law_path", "_law_links", "_law_way", "_law_again", "_law_bent", "_law_value", "_law_kept"] ["_law_script"] (defScope s_law) := ⟨rfl, rfl, rfl, by decide +kernel, rfl, by decide +kernel, by decide +kernel⟩
theorem sc_NoPath___init__ : FnScope ["self", "value"] ["self", "value"] (defScope s_NoPath___init__) := ⟨rfl, rfl, rfl, by decide +kernel, rfl, by decide +kernel, by decide +kernel⟩
/-! ### sorted(set(text)) -/
section
open PySem.Froz
/-- the set of texts at a: its members are l; its table rises and can be walked -/
def SetX (P : Program) (w : World) (h : Heap) (a : Addr) (l : List Str) : Prop :=
  ∃ D : SD, h.get? a = some (sObj "set" D) ∧ TxOk P w D l ∧ Ris D.2.2.place.toList ∧ (w.params.followText "set-order" = true ∨ D.2.2.led = true)
theorem SetX.at {P : Program} {w : World} {h h' : Heap} {a : Addr} {l : List Str} (R : SetX P w h a l) (k : ∀ o, h.get? a = some o → h'.get? a = some o) : SetX P w h' a l := by
  obtain ⟨D, ho, r⟩ := R
  exact ⟨D, k _ ho, r⟩
theorem add_tab {w : World} {h : Int} {v : Value} {D : SD} (r : Ris D.2.2.place.toList) (l : w.params.followText "set-order" = true ∨ D.2.2.led = true) :
    Ris (addTx h v D).2.2.place.toList ∧ (w.params.followText "set-order" = true ∨ (addTx h v D).2.2.led = true) := by
  obtain ⟨es, ep, t⟩ := D
  have r1 := layNew_ris t es h v r
  have l1 := layNew_led t es h v
  unfold addTx
  dsimp only at l ⊢
  generalize layNew t es h v = L at r1 l1 ⊢
  obtain ⟨es1, t1, wd, gv⟩ := L
  dsimp only at r1 l1 ⊢
  generalize ht2 : (if t1.plain = true then ({ t1 with plain := false } : SetTable) else t1) = t2
  have r2 : Ris t2.place.toList ∧ t2.led = t1.led := by
    rw [← ht2]
    split
    · exact ⟨r1, rfl⟩
    · exact ⟨r1, rfl⟩
  unfold tailTx
  split
  · exact ⟨relayAll_ris t2 es1 _, l.imp id fun z => by show (relayAll t2 es1 _).2.1.led = true; rw [relayAll_led, r2.2, l1]; exact z⟩
  · exact ⟨r2.1, l.imp id fun z => by show t2.led = true; rw [r2.2, l1]; exact z⟩
section
variable {P : Program} {w : World} {A : Around} {E : Value → Shared → Prop} {s : Shared}
theorem setX_add {a : Addr} {l : List Str} {k : Str} {u : Tok} {Q : Bool → Shared → Prop} (R : SetX P w s.heap a l) (hb : l.length + 1 < scanBound)
    (h : ∀ (h' : Heap) (b : Bool), Heap.SameBut a s.heap h' → SetX P w h' a (if k ∈ l then l else k :: l) → Q b { s with heap := h' }) : wpAny (model P w) A (setAddHashed a (.str k u) (hashStr w k)) Q E s := by
  obtain ⟨D, ho, F, ris, led⟩ := R
  by_cases hk : k ∈ l
  · rw [if_pos hk] at h
    have h1 : ∀ b, Q b s := fun b => h s.heap b (Heap.SameBut.refl a s.heap) ⟨D, ho, F, ris, led⟩
    obtain ⟨es, ep, t⟩ := D
    have hd : (sObj "set" (es, ep, t)).data = .set es ep t := rfl
    have hf : t.fits es.size = true := F.fit
    have hel : ElemsOf (PySem.strKind P w) es.toList := F.el
    have hsz : es.size = l.length := F.sz
    obtain ⟨e, he, ke⟩ := (F.mem k).mp hk
    unfold setAddHashed setAddHashedIn
    refine wpAny_holding (wpAny_bind (wpAny_setState_of ho hd hf ?_))
    dsimp only
    rw [byScan_of (x := Value.str k u) rfl (by omega) hel]
    simp only [↓reduceIte]
    unfold setAddByScan
    refine wpAny_bind ?_
    refine wpAny_bind (wpAny_rule ?_)
    refine wpAny_bind (wpAny_setScan_of (knd := PySem.strKind P w) (k := k) (is_str k u) ho hd hf hel ?_)
    cases hfi : List.findIdx? (fun e => (PySem.strKind P w).is k e.2) es.toList with
    | none =>
      have c := List.findIdx?_eq_none_iff.mp hfi e he
      rw [ke] at c
      cases c
    | some j =>
      dsimp only
      exact wpAny_pure (wpAny_pure (h1 _))
  · rw [if_neg hk] at h
    obtain ⟨t1, t2⟩ := add_tab (w := w) (h := hashStr w k) (v := .str k u) ris led
    exact add_x ho F hk hb (h _ true (Heap.SameBut.update s.heap a _) ⟨_, get_upd _ ho rfl, add_ok u F, t1, t2⟩)
theorem setX_loop {I : Addr} {fp wr : List Addr} {G : Array GenState → Array GenState → Prop} {n : Nat} {Pv : Nat → Value → Prop} {St : Nat → Shared → Prop} {R : Result → Shared → Prop}
    (W : WalksS P w A.in1 I fp wr G n Pv St) (S : Addr) (hSf : S ∉ fp) (cs : List Nat) (hn : n = cs.length) (hb : cs.length + 1 < scanBound) (hval : ∀ i v, Pv i v → ∃ c t, cs[i]? = some c ∧ v = .str (ch c) t) :
    ∀ (k i : Nat) (s : Shared), n - i = k → i ≤ n → St i s → (∃ l, SetX P w s.heap S l ∧ l.length ≤ i ∧ l.Nodup ∧ ∀ x, x ∈ l ↔ x ∈ (cs.take i).map ch) →
      (∀ s' l, Moved (S :: wr) G s s' → SetX P w s'.heap S l → l.length ≤ n → l.Nodup → (∀ x, x ∈ l ↔ x ∈ cs.map ch) → R (.ok (.ret .none)) s') →
      codeAny (model P w) A (.builtin "set.update.loop" ⟨[.ref S, .ref I], []⟩) R s := by
  have hSw : S ∉ wr := fun h => hSf (W.sub _ h)
  have up : ∀ b ∈ wr, b ∈ S :: wr := fun b hb => List.mem_cons_of_mem _ hb
  intro k
  induction k with
  | zero =>
    intro i s hk' hi hst ⟨l, hS, hl, nd, mem⟩ hR
    have hin : i = n := by omega
    subst hin
    refine codeAny_builtin PyProof.Rows.F.entry_set_update_loop ?_
    rw [Around.under_plainId PyProof.Rows.F.plain_set_update_loop _]
    show wpAny _ A.in1 (pyNext (.ref I) >>= _) _ _ s
    refine wpAny_bind (W.done s _ _ hst fun s' hm => ?_)
    show wpAny _ A.in1 (ret Value.none) _ _ s'
    rw [List.take_of_length_le (by omega)] at mem
    exact wpAny_pure (hR s' l (hm.mono up) (hS.at fun o e => hm.heap S o hSw e) hl nd mem)
  | succ k ih =>
    intro i s hk' hi hst ⟨l, hS, hl, nd, mem⟩ hR
    have hlt : i < n := by omega
    refine codeAny_builtin PyProof.Rows.F.entry_set_update_loop ?_
    rw [Around.under_plainId PyProof.Rows.F.plain_set_update_loop _]
    show wpAny _ A.in1 (pyNext (.ref I) >>= _) _ _ s
    refine wpAny_bind (W.item i s _ _ hlt hst fun v s' hP hst' hm => ?_)
    obtain ⟨c, t, hc, rfl⟩ := hval i v hP
    have hS' : SetX P w s'.heap S l := hS.at fun o e => hm.heap S o hSw e
    show wpAny _ A.in1 (holding [Value.str (ch c) t] (setAdd S (.str (ch c) t)) >>= _) _ _ s'
    refine wpAny_bind (wpAny_holding ?_)
    unfold setAdd
    refine wpAny_holding ?_
    refine wpAny_bind ((PySem.strKind P w).pyHash (k := ch c) (is_str _ _) ?_)
    refine setX_add (s := { s' with toks := s'.toks + 1 }) hS' (by omega) fun h' b hsb hS2 => ?_
    have tk : (cs.take (i + 1)).map ch = (cs.take i).map ch ++ [ch c] := by
      rw [List.take_succ, hc, List.map_append]
      rfl
    refine wpAny_pure ⟨plainId_quiet PyProof.Rows.F.plain_set_update_loop _, ih (i + 1) _ (by omega) hlt (W.frame _ s' _ _ hst' (Nat.le_succ _) fun b hb o e => ?_) ⟨_, hS2, ?_, ?_, ?_⟩ fun s'' l2 hm'' hS'' hl'' nd'' mem'' => ?_⟩
    · rw [hsb.2 b (fun h : b = S => hSf (by rw [← h]; exact hb))]; exact e
    · split
      · omega
      · rw [List.length_cons]; omega
    · split
      · exact nd
      · exact List.nodup_cons.mpr ⟨by assumption, nd⟩
    · intro x
      rw [tk, List.mem_append, List.mem_singleton, ← mem x]
      split
      · rename_i hm
        constructor
        · exact .inl
        · rintro (h | rfl)
          · exact h
          · exact hm
      · rw [List.mem_cons]
        exact Or.comm
    · refine hR s'' l2 (Moved.trans W.gtrans ((hm.mono up).then_heap (Nat.le_succ _) fun b o hb e => ?_) hm'') hS'' hl'' nd'' mem''
      rw [hsb.2 b (fun h : b = S => hb (by rw [h]; exact List.mem_cons_self))]; exact e
end
end
/-! ### set(text), sorted of it -/
section
open PySem.Froz
abbrev freshS (w : World) : Obj := { cls := .type "set", dict := none, data := .set #[] 0 (.fresh 0 0 (!w.params.followText "set-order")) }
theorem setX_fresh {P : Program} {w : World} {h : Heap} {a : Addr} (ho : h.get? a = some (freshS w)) : SetX P w h a [] := by
  refine ⟨(#[], 0, .fresh 0 0 (!w.params.followText "set-order")), ho, .nil (by rfl), List.Pairwise.nil, ?_⟩
  show _ ∨ (!w.params.followText "set-order") = true
  cases w.params.followText "set-order"
  · exact .inr rfl
  · exact .inl rfl
section
variable {P : Program} {w : World} {A : Around} {E : Value → Shared → Prop} {s : Shared}
set_option maxHeartbeats 4000000 in
theorem call_setX {x : Str} {t : Tok} {Q : Value → Shared → Prop} (hh : A.handled = none) (hb : x.cps.size + 1 < scanBound)
    (h : ∀ (h' : Heap) (tk : Nat) (l : List Str), SetX P w h' s.heap.objs.size l → l.length ≤ x.cps.size → l.Nodup → (∀ y, y ∈ l ↔ y ∈ x.cps.toList.map ch) → (∀ b o, s.heap.get? b = some o → h'.get? b = some o) → Q (.ref s.heap.objs.size) { s with heap := h', toks := tk }) :
    wpAny (model P w) A (call (.type "set") [.str x t]) Q E s := by
  obtain ⟨c, tl, hmro⟩ := F.called_set.mro
  have hmade := F.called_set.made
  have hsub := F.called_set.sub
  refine wpAny_call (codeAny_of_tree ?_)
  show wpAny _ _ (callAny (.type "set") _) _ _ _
  refine wpAny_pure ⟨Code.quiet_builtin _ (by decide +kernel), codeAny_builtin F.entry_type_call ?_⟩
  rw [Around.under_plain (weight_type_call_type "set" [.str x t] []) rfl]
  have h1 := F.called_set.notType
  have h2 := F.called_set.canCreate
  have hct := F.typeCall_set_1 (.str x t)
  repeat (any_goals (first | assumption | wp_step))
  refine codeAny_mono (code_set_led1 (.str x t) (E := E) (Q₁ := fun obj s₁ => obj = .ref s.heap.objs.size ∧ s₁ = { s with heap := s.heap.push (freshS w) }) ⟨rfl, rfl⟩) fun r s₁ hr => ?_
  match r, hr with
  | .error e, hr => exact hr
  | .ok .next, hr => exact hr.elim
  | .ok .brk, hr => exact hr.elim
  | .ok .cont, hr => exact hr.elim
  | .ok (.ret obj), hr =>
    obtain ⟨rfl, rfl⟩ := hr
    have hS : (s.heap.push (freshS w)).get? s.heap.objs.size = some (freshS w) := Heap.get?_push_size _ rfl
    have hT : Shared.TypeIs { s with heap := s.heap.push (freshS w) } (.ref s.heap.objs.size) "set" := ⟨_, hS, rfl⟩
    have hli := F.called_set.init.lookup
    have hbi := F.called_set.init.bind (.ref s.heap.objs.size)
    repeat (any_goals (first | assumption | wp_step))
    refine codeAny_mono (codeAny_call_builtin (R := wants (fun r s₂ => r = .none ∧ ∃ h' tk l, s₂ = { s with heap := h', toks := tk } ∧ SetX P w h' s.heap.objs.size l ∧ l.length ≤ x.cps.size ∧ l.Nodup ∧ (∀ y, y ∈ l ↔ y ∈ x.cps.toList.map ch) ∧
        (∀ b o, s.heap.get? b = some o → h'.get? b = some o)) E) F.called_set.init.plain F.entry_set_init (check_set_init_1 hT ?_)) fun r₂ s₂ hr₂ => ?_
    · have hsls : isSubtype (.type "str") (.type "set") = pure false := by rw [isSubtype_type]; kernel_rfl
      have hslf : isSubtype (.type "str") (.type "frozenset") = pure false := by rw [isSubtype_type]; kernel_rfl
      have hne : (Value.type "str" == Value.type "dict") = false := by decide
      unfold Builtin.«set.__init__» noKeywords Builtin.Frozenset.updateFrom
      generalize hPI : pyIter = PI
      wp_walk
      subst hPI
      refine wpAny_pyIter_str fun o St W hst => ?_
      refine wpAny_bind (wpAny_runValue ?_)
      have hh3 : A.in1.in1.in1.handled = none := by simp [hh]
      have hSf : s.heap.objs.size ∉ [(s.heap.push (freshS w)).objs.size] := by
        rw [Heap.size_push]; simp only [List.mem_singleton]
        exact Nat.ne_of_lt (Nat.lt_succ_self _)
      have hval : ∀ (i : Nat) (v : Value), SignAt x i v → ∃ c t, x.cps.toList[i]? = some c ∧ v = .str (ch c) t := fun i v ⟨c, u, hc, e⟩ => ⟨c, u, by rw [Array.getElem?_toList]; exact hc, e⟩
      refine setX_loop ((W _ hh3).toS) s.heap.objs.size hSf x.cps.toList (Array.length_toList).symm (by rw [Array.length_toList]; exact hb) hval (x.cps.size - 0) 0 _ rfl (Nat.zero_le _) hst
        ⟨[], setX_fresh (Heap.get?_push_of_some _ hS), Nat.le_refl 0, List.nodup_nil, fun y => by simp⟩ fun s' l hm hS' hl nd mem => ?_
      obtain ⟨h', g2, d', tk', os'⟩ := s'
      have eg : g2 = s.gens := hm.gens
      have ed : d' = s.drawn := hm.drawn
      have eo : os' = s.os := hm.os
      subst eg; subst ed; subst eo
      show wpAny _ _ _ _ _ _
      refine wpAny_pure ?_
      show wpAny _ _ (ret Value.none) _ _ _
      refine wpAny_pure ⟨rfl, h', tk', l, rfl, hS', hl, nd, mem, fun b o e => ?_⟩
      have hb0 : b < s.heap.objs.size := Heap.lt_size e
      have hb1 : b ≠ s.heap.objs.size := Nat.ne_of_lt hb0
      have hb2 : b ≠ (s.heap.push (freshS w)).objs.size := by
        rw [Heap.size_push]; exact Nat.ne_of_lt (Nat.lt_succ_of_lt hb0)
      exact hm.heap b o (by simp only [List.mem_cons, List.mem_singleton, List.not_mem_nil, or_false, not_or]; exact ⟨hb1, hb2⟩) (Heap.get?_push_of_some _ (Heap.get?_push_of_some _ e))
    · match r₂, hr₂ with
      | .error e, hr₂ => exact hr₂
      | .ok .next, hr₂ => exact hr₂.elim
      | .ok .brk, hr₂ => exact hr₂.elim
      | .ok .cont, hr₂ => exact hr₂.elim
      | .ok (.ret r), hr₂ =>
        obtain ⟨rfl, h', tk, l, rfl, hS', hl, nd, mem, hk'⟩ := hr₂
        repeat (any_goals (first | assumption | wp_step))
        exact h _ _ _ hS' hl nd mem hk'
end
end
theorem perm_of_sub {α : Type} [DecidableEq α] : ∀ (l ss : List α), l.Nodup → (∀ x ∈ l, x ∈ ss) → ss.length ≤ l.length → ss.Perm l
  | [], ss, _, _, h => by
    have : ss = [] := List.eq_nil_of_length_eq_zero (Nat.le_zero.mp h)
    rw [this]
  | x :: l, ss, nd, sub, h => by
    obtain ⟨n1, n2⟩ := List.nodup_cons.mp nd
    have hx := sub x List.mem_cons_self
    have p := List.perm_cons_erase hx
    refine p.trans (List.Perm.cons x (perm_of_sub l (ss.erase x) n2 (fun y hy => ?_) ?_))
    · exact (List.mem_erase_of_ne (fun z : y = x => n1 (z ▸ hy))).mpr (sub y (List.mem_cons_of_mem _ hy))
    · rw [List.length_erase_of_mem hx]
      rw [List.length_cons] at h
      omega
section
open PySem.Froz
section
variable {P : Program} {w : World} {A : Around} {E : Value → Shared → Prop} {s : Shared}
theorem sorted_setX {a : Addr} {l : List Str} {Q : Value → Shared → Prop} (R : SetX P w s.heap a l) (nd : l.Nodup) (hh : A.handled = none) (h64 : l.length < 64)
    (hQ : ∀ s' p (out : Array Value) (c : Nat) (ys : List Str), (∀ b o, s.heap.get? b = some o → s'.heap.get? b = some o) → s'.gens = s.gens → s'.os = s.os → s.heap.objs.size ≤ p →
      s'.heap.get? p = some (seqObj "list" out c) → StrsAre out.toList ys → ys.Perm l → sortedS ys = true → Q (.ref p) s') :
    wpAny (model P w) A (call (.builtin "sorted") [.ref a]) Q E s := by
  obtain ⟨⟨es, ep, t⟩, ho, F, ris, led⟩ := R
  have hsz : es.size = l.length := F.sz
  have hsb : es.size < scanBound := by unfold scanBound; omega
  refine Calls.call_function_entry kind_sorted plain_sorted entry_sorted (args_sorted1 _) ?_
  unfold Builtin.«sorted»
  refine wpAny_bind (m := checkCount "sorted" 1 1 _) (wpAny_pure ?_)
  refine wpAny_bind (collect_set (A := A.in1) hh ⟨_, ho, rfl, rfl⟩ F.fit hsb ris led fun s1 vs k1 hz g1 o1 pm => ?_)
  have str : ∀ v ∈ vs, ∃ x t, v = Value.str x t := fun v hv => by
    obtain ⟨e, he, rfl⟩ := List.mem_map.mp (pm.mem_iff.mp hv)
    obtain ⟨⟨k, hk, _⟩, _⟩ := F.el e he
    have hk : Value.isStrOf k e.2 = true := hk
    cases h : e.2 <;> rw [h] at hk <;> first | exact ⟨_, _, rfl⟩ | exact absurd hk (by simp [Value.isStrOf])
  have hS : StrsAre vs (vs.map strOf) := strsAre_map vs str
  have hvl : vs.length = l.length := by rw [pm.length_eq, List.length_map, Array.length_toList]; exact hsz
  have pl : (vs.map strOf).Perm l := by
    refine perm_of_sub l _ nd (fun k hk => ?_) (by rw [List.length_map, hvl]; exact Nat.le_refl _)
    obtain ⟨e, he, q⟩ := (F.mem k).mp hk
    have q : Value.isStrOf k e.2 = true := q
    have hm : e.2 ∈ vs := pm.mem_iff.mpr (List.mem_map.mpr ⟨e, he, rfl⟩)
    refine List.mem_map.mpr ⟨e.2, hm, ?_⟩
    obtain ⟨x, u, hx⟩ := str _ hm
    rw [hx] at q ⊢
    have : x = k := by simpa [Value.isStrOf] using q
    exact this
  refine wpAny_bind (wpAny_newList ?_ (by rw [hvl, sizeLine_eq]; omega))
  have hoL : (s1.heap.push (seqObj "list" vs.toArray 0)).get? s1.heap.objs.size = some (seqObj "list" vs.toArray 0) := Heap.get?_push_size _ rfl
  refine wpAny_bind (wpAny_holding (wpAny_call_entry slot_list_sort ⟨_, hoL, rfl⟩ entry_list_sort (list_sort_treeK strKind_oneLt hoL hS.keysOf (fun v₁ v₂ rest e => keyKind_strs (by rw [← e]; exact hS)) (by rw [hvl]; exact h64) fun st' a1 a2 => ⟨_, rfl, ?_⟩) (args_list_sort _)))
  obtain ⟨ys, b1, b2, b3⟩ := sorted_out_str hS a1 a2
  generalize (arrOf st').map (·.2) = out at b1 ⊢
  obtain ⟨c, hc⟩ := sortedHeap_at (vs := vs) (out := out) hoL
  refine wpAny_pure ⟨_, rfl, hQ _ s1.heap.objs.size out c ys (fun b u e => ?_) g1 o1 hz hc b1 (b2.trans pl) b3⟩
  have q := k1 b u e
  have hlt := Heap.lt_size q
  show (sortedHeap (s1.heap.push (seqObj "list" vs.toArray 0)) s1.heap.objs.size vs out).get? b = some u
  rw [sortedHeap_old (Nat.ne_of_lt hlt) (by rw [size_push']; exact Nat.lt_succ_of_lt hlt)]
  exact Heap.get?_push_of_some _ q
end
def SetXO (P : Program) (w : World) (a : Addr) (l : List Str) : HO := .ext fun h => SetX P w h a l
section
variable {X : Cx}
theorem setXO_new {w : World} {P : Program} {H : Hp} {h : Heap} {a : Addr} {l : List Str} (R : SetX P w h a l) : ObjOk P w H h a (SetXO P w a l) := by
  have ⟨D, ho, _⟩ := R
  exact ⟨R, ⟨_, ho⟩, fun h1 h2 p k => SetX.at p k⟩
def rSetX (P : Program) (w : World) : List V → Hp → VK → Prop := fun xs H Q => ∃ cs : List Nat, xs = [.str (tx cs)] ∧ cs.length < 64 ∧
  ∀ (a : Addr) (l : List Str), H a = none → l.Nodup → (∀ y, y ∈ l ↔ y ∈ cs.map ch) → l.length < 64 → Q (.ref a) (upd H a (SetXO P w a l))
theorem cr_setX (hc : X.calm = true) : CallR X (.type "set") (rSetX X.prog X.w) := by
  intro pins s σ H xs us Q I r h
  obtain ⟨cs, rfl, hz, q⟩ := h
  obtain ⟨u, rfl, t, rfl⟩ := vals1 r
  have hz' : (tx cs).cps.size = cs.length := rfl
  refine call_setX (P := X.prog) (w := X.w) (I.ok.hd hc) (by rw [hz']; unfold scanBound; omega) fun h' tk l R hl nd mem k => ?_
  exact ⟨.ref s.heap.objs.size, upd H s.heap.objs.size (SetXO X.prog X.w s.heap.objs.size l), I.laid (t' := tk) k (Nat.le_refl _) (setXO_new R), rfl, q _ l (I.hok.fresh (Nat.le_refl _)) nd mem (by omega)⟩
def rSortX (P : Program) (w : World) : List V → Hp → VK → Prop := fun vs H Q => ∃ (a : Addr) (l : List Str), vs = [V.ref a] ∧ H a = some (SetXO P w a l) ∧ l.Nodup ∧ l.length < 64 ∧
  ∀ (ys : List Str) (p : Addr), ys.Perm l → sortedS ys = true → H p = none → Q (.ref p) (upd H p (.lst (ys.map V.str)))
theorem cr_sortX (hc : X.calm = true) : CallR X (.builtin "sorted") (rSortX X.prog X.w) := by
  intro pins s σ H vs us Q I r h
  obtain ⟨a, l, rfl, ha, nd, h64, q⟩ := h
  have R : SetX X.prog X.w s.heap a l := (I.hok a _ ha).1
  rw [Vals.ref1 r]
  refine sorted_setX R nd (I.ok.hd hc) h64 fun s' p out c ys k g o hp hg hi hs hm => ?_
  have hlen : (ys.map V.str).length ≤ sizeLine := by rw [List.length_map, hs.length_eq, sizeLine_eq]; omega
  have hn : H p = none := I.hok.fresh hp
  have J : Inv X pins σ (upd H p (.lst (ys.map V.str))) { s with heap := s'.heap, gens := s'.gens, drawn := s'.drawn, toks := s'.toks } :=
    I.call (ch := []) (Un.laid k hp hn) (I.hok.laid k hp ⟨hlen, out.toList, c, vals_of_strs hi, hg⟩) (by rw [g]; exact I.bare) (fun _ z => nomatch z)
  have e : s' = { s with heap := s'.heap, gens := s'.gens, drawn := s'.drawn, toks := s'.toks } := by
    cases s'
    cases s
    cases o
    rfl
  rw [e]
  exact ⟨.ref p, _, J, rfl, q ys p hs hm hn⟩
end
end
/-! ### [*text, ..] -/
section
variable {X : Cx} {e : Expr} {es : List Expr} {te : TE} {t : TA} {p : Pos}
theorem pa_starS (hc : X.calm = true) (he : PE X e te) (hr : PA X es t) (hs : starEach (.Starred e p :: es) X.env = (true, eval e X.env) :: starEach es X.env := by rfl) :
    PA X (.Starred e p :: es) (fun σ H Q => te σ H fun x H1 => ∃ z : Str, x = .str z ∧ z.cps.size ≤ 1000 ∧ t σ H1 fun ys H2 => Q ((z.cps.toList.map fun c => V.str ⟨#[c]⟩) ++ ys) H2) := by
  refine ⟨fun pos pins s σ H Q I h => ?_⟩
  refine PySem.W.items_star (thn (he.run pins s σ H _ I h) fun v s1 ⟨y, H1, I1, ry, z, ey, hz, q⟩ => ?_) hs
  subst ey
  obtain ⟨tk, rfl⟩ := ry
  have step : wpAny (model X.prog X.w) X.A (collect (.str z tk)) (fun us s2 => wpAny (model X.prog X.w) X.A (spliced (backTo pos (starEach es X.env))) (fun vs s3 => ∃ xs H3, Inv X pins σ H3 s3 ∧ Vals xs (us ++ vs) ∧ Q xs H3) X.xe s2) X.xe s1 := by
    refine wpAny_collect_str (I1.ok.hd hc) z tk (fun s' acc hk hg hd ho hacc => ?_) (small hz)
    have e0 : s' = { s1 with heap := s'.heap, toks := s'.toks } := by
      cases s'
      cases s1
      simp_all
    have hv : Vals (z.cps.toList.map fun c => V.str ⟨#[c]⟩) acc.toList := vals_signs _ _ (by rw [Array.length_toList, Array.length_toList]; exact hacc.1) fun j v e => by
      obtain ⟨c, u, h1, h2⟩ := hacc.2 j v (by rw [← Array.getElem?_toList]; exact e)
      exact ⟨c, u, by rw [Array.getElem?_toList]; exact h1, h2⟩
    have I2 : Inv X pins σ H1 s' := by
      rw [e0]
      exact I1.kept hk
    exact thn (hr.run pos pins s' σ H1 _ I2 q) fun ws s3 ⟨vs, H3, I3, r3, q3⟩ => ⟨_, H3, I3, hv.append r3, q3⟩
  unfold PySem.W.StarOf notIterableAtAll
  exact wpAny_bind (wpAny_specialOf (typeIs_str s1 z tk) PySem.F.slot_str_iter.lookup (wpAny_pure ⟨rfl, step⟩))
end
/-! ### xs != [], xs == [] -/
section
variable {X : Cx}
theorem op_neL (hu : X.A.units < cLine) : OpR X (compareOp .NotEq) (fun x y H Q => ∃ a b xs, x = .ref a ∧ y = .ref b ∧ SqL X.K H a xs ∧ SqL X.K H b [] ∧ Q (.bl (!xs.isEmpty)) H) := by
  intro pins s σ H x y v u Q I rx ry h
  obtain ⟨a, b, xs, rfl, rfl, hx, hy, q⟩ := h
  cases rx
  cases ry
  obtain ⟨its, r1, t1, _⟩ := I.list hx
  obtain ⟨its2, r2, t2, _⟩ := I.list hy
  cases r2
  cases r1 with
  | nil =>
    have rc := SeqAt.RcNeAt.lists (A := X.A) (s := s) (items := ([] : List Value).toArray) (items2 := ([] : List Value).toArray) (e := fun _ => true) t1.isList t2.isList rfl hu (fun j h1 _ => absurd h1 (by simp))
    exact rc X.prog X.w X.xe _ ⟨.bl _, H, I, rfl, q⟩
  | cons _ _ =>
    have rc := SeqAt.RcNeAt.lists_lengths (A := X.A) (s := s) t1.isList t2.isList (by simp) hu
    exact rc X.prog X.w X.xe _ ⟨.bl _, H, I, rfl, q⟩
theorem cmpOf_ltS {prog : Program} {w : World} {A : Around} (x y : Str) (t u : Tok) :
    CmpOf prog w A .Lt (fun i v => (#[Value.str x t, Value.str y u])[i]? = some v) (fun i j => decide (([x, y].getD i x).cps.toList < ([x, y].getD j x).cps.toList)) := fun i j vi vj s Q E hi hj h => by
  have one : ∀ (i : Nat) (v : Value), (#[Value.str x t, Value.str y u])[i]? = some v → ∃ tk, v = .str ([x, y].getD i x) tk := fun i v e => by
    match i with
    | 0 => exact ⟨t, by simpa using e.symm⟩
    | 1 => exact ⟨u, by simpa using e.symm⟩
    | n + 2 => simp at e
  obtain ⟨t1, rfl⟩ := one i vi hi
  obtain ⟨t2, rfl⟩ := one j vj hj
  exact lt_str h
theorem cmpOf_gtS {prog : Program} {w : World} {A : Around} (x y : Str) (t u : Tok) :
    CmpOf prog w A .Gt (fun i v => (#[Value.str x t, Value.str y u])[i]? = some v) (fun i j => decide (([x, y].getD j x).cps.toList < ([x, y].getD i x).cps.toList)) := fun i j vi vj s Q E hi hj h => by
  have one : ∀ (i : Nat) (v : Value), (#[Value.str x t, Value.str y u])[i]? = some v → ∃ tk, v = .str ([x, y].getD i x) tk := fun i v e => by
    match i with
    | 0 => exact ⟨t, by simpa using e.symm⟩
    | 1 => exact ⟨u, by simpa using e.symm⟩
    | n + 2 => simp at e
  obtain ⟨t1, rfl⟩ := one i vi hi
  obtain ⟨t2, rfl⟩ := one j vj hj
  exact PySem.P.gt_str h
theorem argBest1 (bt : Nat → Nat → Bool) : argBest bt 1 = if bt 1 0 = true then 1 else 0 := rfl
theorem max_two_str {prog : Program} {w : World} {A : Around} {E : Value → Shared → Prop} {s : Shared} {Q : Value → Shared → Prop} {x y : Str} {t u : Tok} (hh : A.handled = none)
    (h : ∀ h' tk, (∀ c o, s.heap.get? c = some o → h'.get? c = some o) → Q (if x.cps.toList < y.cps.toList then .str y u else .str x t) { s with heap := h', toks := tk }) :
    wpAny (model prog w) A (call (.builtin "max") [.str x t, .str y u]) Q E s := by
  have hT : (s.heap.push { cls := .type "tuple", data := .seq #[.str x t, .str y u] }).IsTuple s.heap.objs.size #[.str x t, .str y u] := ⟨_, Heap.get?_push_size _ rfl, rfl, 0, rfl⟩
  refine call_max_two (wpAny_pyIter_tuple hT ?_)
  have hsz : (s.heap.push { cls := .type "tuple", data := .seq #[.str x t, .str y u] }).objs.size = s.heap.objs.size + 1 := Heap.size_push ..
  refine ⟨_, [_, s.heap.objs.size], [_], _, _, _, _, rfl, Walks.tuple (A := A.in1) hh _ s.heap.objs.size (by rw [hsz]; exact Nat.ne_of_lt (Nat.lt_succ_self _)) #[.str x t, .str y u],
    ⟨⟨_, Heap.get?_push_size _ rfl, rfl, rfl⟩, hT.push _⟩, fun c hc => ?_, by simp, cmpOf_gtS x y t u, fun v h' tk hP hk => ?_⟩
  · show c < ((s.heap.push _).push _).objs.size
    rw [Heap.size_push, hsz]
    rcases List.mem_cons.mp hc with rfl | hc
    · rw [hsz]; exact Nat.lt_succ_self _
    · rcases List.mem_cons.mp hc with rfl | hc
      · exact Nat.lt_succ_of_lt (Nat.lt_succ_self _)
      · cases hc
  · have hold : ∀ c o, s.heap.get? c = some o → h'.get? c = some o := fun c o e => by
      refine hk c o (fun hm => ?_) (Heap.get?_push_of_some _ (Heap.get?_push_of_some _ e))
      rcases List.mem_cons.mp hm with e1 | hm
      · have := Heap.lt_size e; rw [e1, hsz] at this; exact Nat.lt_irrefl _ (Nat.lt_of_succ_lt this)
      · cases hm
    have := h h' tk hold
    have hv : v = if x.cps.toList < y.cps.toList then .str y u else .str x t := by
      rw [show #[Value.str x t, Value.str y u].size - 1 = 1 from rfl, argBest1] at hP
      replace hP : #[Value.str x t, Value.str y u][if decide (x.cps.toList < y.cps.toList) = true then 1 else 0]? = some v := hP
      by_cases hc : x.cps.toList < y.cps.toList
      · rw [if_pos (decide_eq_true hc)] at hP
        rw [if_pos hc]
        exact (Option.some.inj hP).symm
      · rw [if_neg (fun z => hc (of_decide_eq_true z))] at hP
        rw [if_neg hc]
        exact (Option.some.inj hP).symm
    rw [hv]; exact this
theorem min_two_str {prog : Program} {w : World} {A : Around} {E : Value → Shared → Prop} {s : Shared} {Q : Value → Shared → Prop} {x y : Str} {t u : Tok} (hh : A.handled = none)
    (h : ∀ h' tk, (∀ c o, s.heap.get? c = some o → h'.get? c = some o) → Q (if y.cps.toList < x.cps.toList then .str y u else .str x t) { s with heap := h', toks := tk }) :
    wpAny (model prog w) A (call (.builtin "min") [.str x t, .str y u]) Q E s := by
  have hT : (s.heap.push { cls := .type "tuple", data := .seq #[.str x t, .str y u] }).IsTuple s.heap.objs.size #[.str x t, .str y u] := ⟨_, Heap.get?_push_size _ rfl, rfl, 0, rfl⟩
  refine call_min_two (wpAny_pyIter_tuple hT ?_)
  have hsz : (s.heap.push { cls := .type "tuple", data := .seq #[.str x t, .str y u] }).objs.size = s.heap.objs.size + 1 := Heap.size_push ..
  refine ⟨_, [_, s.heap.objs.size], [_], _, _, _, _, rfl, Walks.tuple (A := A.in1) hh _ s.heap.objs.size (by rw [hsz]; exact Nat.ne_of_lt (Nat.lt_succ_self _)) #[.str x t, .str y u],
    ⟨⟨_, Heap.get?_push_size _ rfl, rfl, rfl⟩, hT.push _⟩, fun c hc => ?_, by simp, cmpOf_ltS x y t u, fun v h' tk hP hk => ?_⟩
  · show c < ((s.heap.push _).push _).objs.size
    rw [Heap.size_push, hsz]
    rcases List.mem_cons.mp hc with rfl | hc
    · rw [hsz]; exact Nat.lt_succ_self _
    · rcases List.mem_cons.mp hc with rfl | hc
      · exact Nat.lt_succ_of_lt (Nat.lt_succ_self _)
      · cases hc
  · have hold : ∀ c o, s.heap.get? c = some o → h'.get? c = some o := fun c o e => by
      refine hk c o (fun hm => ?_) (Heap.get?_push_of_some _ (Heap.get?_push_of_some _ e))
      rcases List.mem_cons.mp hm with e1 | hm
      · have := Heap.lt_size e; rw [e1, hsz] at this; exact Nat.lt_irrefl _ (Nat.lt_of_succ_lt this)
      · cases hm
    have := h h' tk hold
    have hv : v = if y.cps.toList < x.cps.toList then .str y u else .str x t := by
      rw [show #[Value.str x t, Value.str y u].size - 1 = 1 from rfl, argBest1] at hP
      replace hP : #[Value.str x t, Value.str y u][if decide (y.cps.toList < x.cps.toList) = true then 1 else 0]? = some v := hP
      by_cases hc : y.cps.toList < x.cps.toList
      · rw [if_pos (decide_eq_true hc)] at hP
        rw [if_pos hc]
        exact (Option.some.inj hP).symm
      · rw [if_neg (fun z => hc (of_decide_eq_true z))] at hP
        rw [if_neg hc]
        exact (Option.some.inj hP).symm
    rw [hv]; exact this
theorem call_max2S (hc : X.calm = true) : CallR X (.builtin "max") (fun xs H Q => ∃ a b : Nat, xs = [.str (ch a), .str (ch b)] ∧ Q (.str (ch (max a b))) H) := by
  intro pins s σ H xs us Q I r h
  obtain ⟨a, b, rfl, q⟩ := h
  obtain ⟨u, w', rfl, ⟨t, rfl⟩, ⟨t', rfl⟩⟩ := vals2 r
  refine max_two_str (I.ok.hd hc) fun h' tk k => ⟨_, H, I.kept k, ?_, q⟩
  have e : ((ch a).cps.toList < (ch b).cps.toList) ↔ a < b := by
    have := ch_lt a b
    simpa using this
  by_cases hj : a < b
  · rw [if_pos (e.mpr hj), Nat.max_eq_right (Nat.le_of_lt hj)]; exact ⟨_, rfl⟩
  · rw [if_neg (fun z => hj (e.mp z)), Nat.max_eq_left (by omega)]; exact ⟨_, rfl⟩
theorem call_min2S (hc : X.calm = true) : CallR X (.builtin "min") (fun xs H Q => ∃ a b : Nat, xs = [.str (ch a), .str (ch b)] ∧ Q (.str (ch (min a b))) H) := by
  intro pins s σ H xs us Q I r h
  obtain ⟨a, b, rfl, q⟩ := h
  obtain ⟨u, w', rfl, ⟨t, rfl⟩, ⟨t', rfl⟩⟩ := vals2 r
  refine min_two_str (I.ok.hd hc) fun h' tk k => ⟨_, H, I.kept k, ?_, q⟩
  have e : ((ch b).cps.toList < (ch a).cps.toList) ↔ b < a := by
    have := ch_lt b a
    simpa using this
  by_cases hj : b < a
  · rw [if_pos (e.mpr hj), Nat.min_eq_right (Nat.le_of_lt hj)]; exact ⟨_, rfl⟩
  · rw [if_neg (fun z => hj (e.mp z)), Nat.min_eq_left (by omega)]; exact ⟨_, rfl⟩
end
/-! ### the deck -/
structure Deck where
  dk : Addr
  ca : Addr
  ra : Addr
structure DeckOk (H : Hp) (D : Deck) (n : Nat) : Prop where
  ex : ∃ cells rests : List Int, H D.dk = some (.lst [.ref D.ca, .int (n : Int), .ref D.ra]) ∧ H D.ca = some (.lst (cells.map V.int)) ∧ H D.ra = some (.lst (rests.map V.int)) ∧ 0 < cells.length ∧ rests.length = cells.length ∧ cells.length ≤ 60
  dc : D.dk ≠ D.ca
  dr : D.dk ≠ D.ra
  cr : D.ca ≠ D.ra
/-- all stands still but the deck's list and its rests -/
def SameD (D : Deck) (H H' : Hp) : Prop := ∀ b o, b ≠ D.dk → b ≠ D.ra → H b = some o → H' b = some o
theorem SameD.refl (D : Deck) (H : Hp) : SameD D H H := fun _ _ _ _ h => h
theorem SameD.trans {D : Deck} {H H1 H2 : Hp} (a : SameD D H H1) (b : SameD D H1 H2) : SameD D H H2 := fun c o h1 h2 h => b c o h1 h2 (a c o h1 h2 h)
theorem SameD.of {D : Deck} {H H' : Hp} (h : Same H H') : SameD D H H' := fun b o _ _ e => h b o e
theorem DeckOk.lists {H : Hp} {D : Deck} {n : Nat} (d : DeckOk H D n) : (∃ xs, H D.dk = some (.lst xs)) ∧ (∃ xs, H D.ra = some (.lst xs)) := by
  obtain ⟨c, r, h1, _, h3, _⟩ := d.ex
  exact ⟨⟨_, h1⟩, ⟨_, h3⟩⟩
theorem SameD.keepT {D : Deck} {H H' : Hp} {n : Nat} (h : SameD D H H') (d : DeckOk H D n) : KeepT H H' := fun b xs e => by
  obtain ⟨⟨x1, h1⟩, ⟨x2, h2⟩⟩ := d.lists
  exact h b _ (ne_of e h1 (by intro z; cases z)) (ne_of e h2 (by intro z; cases z)) e
theorem SameD.free {D : Deck} {H H' : Hp} {n : Nat} (h : SameD D H H') (d : DeckOk H' D n) {p : Addr} (e : H' p = none) : H p = none := by
  obtain ⟨⟨x1, h1⟩, ⟨x2, h2⟩⟩ := d.lists
  have n1 : p ≠ D.dk := fun z => by rw [z, h1] at e; cases e
  have n2 : p ≠ D.ra := fun z => by rw [z, h2] at e; cases e
  cases q : H p with
  | none => rfl
  | some o =>
    rw [h p o n1 n2 q] at e
    cases e
theorem DeckOk.same {H H' : Hp} {D : Deck} {n : Nat} (d : DeckOk H D n) (h : Same H H') : DeckOk H' D n := by
  obtain ⟨c, r, h1, h2, h3, h4⟩ := d.ex
  exact ⟨⟨c, r, h _ _ h1, h _ _ h2, h _ _ h3, h4⟩, d.dc, d.dr, d.cr⟩
structure Off (D : Deck) (p : Addr) : Prop where
  dk : p ≠ D.dk
  ca : p ≠ D.ca
  ra : p ≠ D.ra
theorem DeckOk.new {H : Hp} {D : Deck} {n : Nat} (d : DeckOk H D n) {p : Addr} (e : H p = none) : Off D p := by
  obtain ⟨c, r, h1, h2, h3, _⟩ := d.ex
  refine ⟨fun z => ?_, fun z => ?_, fun z => ?_⟩
  · rw [z, h1] at e
    cases e
  · rw [z, h2] at e
    cases e
  · rw [z, h3] at e
    cases e
theorem DeckOk.put {H : Hp} {D : Deck} {n : Nat} (d : DeckOk H D n) {p : Addr} (f : Off D p) (o : HO) : DeckOk (upd H p o) D n := by
  obtain ⟨c, r, h1, h2, h3, h4⟩ := d.ex
  exact ⟨⟨c, r, by rw [upd_ne f.dk.symm]; exact h1, by rw [upd_ne f.ca.symm]; exact h2, by rw [upd_ne f.ra.symm]; exact h3, h4⟩, d.dc, d.dr, d.cr⟩
theorem SameD.put {D : Deck} {H H' : Hp} {p : Addr} (s : SameD D H H') (e : H p = none) (o : HO) : SameD D H (upd H' p o) := fun b u h1 h2 h => by
  rw [upd_ne (ne_of_none h e)]
  exact s b u h1 h2 h
theorem SameD.at {D : Deck} {H H' : Hp} {p : Addr} {o : HO} (s : SameD D H H') (f : Off D p) (e : H p = some o) : H' p = some o := s p o f.dk f.ra e
theorem modB (z p : Int) (h0 : 0 < p) : 0 ≤ z % p ∧ z % p < p := ⟨Int.emod_nonneg z (by omega), Int.emod_lt_of_pos z h0⟩
def spDraw : Sp := fun vs H Q _ => ∃ (D : Deck) (n : Nat) (m : Int), vs = [.ref D.dk, .int m] ∧ DeckOk H D n ∧ n ≤ 1000000 ∧ 0 < m ∧ m < 10000000000000000000000000000000 ∧ ∀ (i : Int) (H' : Hp), 0 ≤ i → i < m → DeckOk H' D (n + 1) → SameD D H H' → Q (.int i) H'
theorem sq_le {n : Nat} (h : n ≤ 1000000) : 75025 * (n : Int) * (n : Int) ≤ 75025000000000000 ∧ 0 ≤ 75025 * (n : Int) * (n : Int) := by
  have h1 : (n : Int) * (n : Int) ≤ 1000000 * 1000000 := Int.mul_le_mul (by omega) (by omega) (by omega) (by omega)
  have h0 : 0 ≤ (n : Int) * (n : Int) := Int.mul_nonneg (by omega) (by omega)
  rw [Int.mul_assoc]
  omega
section
variable {P : Program} {w : World} {K : PySem.W.Frag} {mg : Str → Option Value} {base : Heap} {f : Addr} {fd : FuncData}
theorem ok_draw {k : Nat} (F : Fun K "_law_draw" "_law_draw" s__law_draw f fd) (M : Mgs mg) : FnOk P w K mg base CX0 (k + 1) f fd ["_law_deck_here", "_law_many"] spDraw := by
  refine F.ok sc__law_draw (fun vs H Q E h => ?_) (fun cdv A outer s H vs Q E hr h => ?_)
  · obtain ⟨D, n, m, rfl, _⟩ := h
    rfl
  obtain ⟨D, n, m, rfl, d, hn, m0, m1, q⟩ := h
  obtain ⟨cells, rests, e1, e2, e3, c0, cr, c1⟩ := d.ex
  refine ⟨_, (pss_cons (ps_asg (pv 0) (pg_unl rfl (pgs_cons (pg_name (i := 2) sc__law_draw.nd rfl (.inl rfl)) (pgs_cons (pg_name (i := 3) sc__law_draw.nd rfl (.inl rfl)) (pgs_cons (pg_name (i := 4) sc__law_draw.nd rfl (.inl rfl)) pgs_nil)))))
    (pss_cons (ps_set (i := 5) sc__law_draw.nd rfl (.inl rfl) (pe_op op_mod (pv 3) (pe_callB call_len_seq rfl M.len PySem.boot_len (pa_cons (pv 2) pa_nil))))
    (pss_cons (ps_asg (pe_op op_add (pv 3) pe_int) (pg_sub (pv 0) pe_int set_list))
    (pss_cons (ps_if (pt_cmpR op_gt (pe_ix ix_list (pv 4) (pv 5) (fun _ _ => rfl)) pe_int (nomark _))
      (pss_cons (ps_set (i := 6) sc__law_draw.nd rfl (.inl rfl) (pe_ix ix_list (pv 4) (pv 5) (fun _ _ => rfl)))
    (pss_cons (ps_asg (pe_op op_fdivW (pv 6) (pv 1)) (pg_sub (pv 4) (pv 5) set_list))
    (pss_one (ps_ret (pe_op op_mod (pv 6) (pv 1)))))) pss_nil)
    (pss_cons (ps_set (i := 7) sc__law_draw.nd rfl (.inl rfl) (pe_op op_add (pe_op op_mod (pe_ix ix_list (pv 2) (pv 5) (fun _ _ => rfl)) pe_int) (pe_op op_mul (pe_op op_mul pe_int (pv 3)) (pv 3))))
    (pss_cons (ps_set (i := 7) sc__law_draw.nd rfl (.inl rfl) (pe_op op_mod (pe_op op_pow (pe_op op_add (pe_op op_add (pv 7) (pe_op op_mul pe_int (pv 3))) pe_int) pe_int) pe_int))
    (pss_cons (ps_set (i := 7) sc__law_draw.nd rfl (.inl rfl) (pe_op op_mod (pe_op op_pow (pe_op op_add (pv 7) (pe_op op_mul pe_int (pv 3))) pe_int) pe_int))
    (pss_one (ps_ret (pe_op op_mod (pe_op op_fdiv (pv 7) pe_int) (pv 1))))))))))), ?_⟩
  refine ⟨_, rfl, D.dk, _, rfl, SqL.of e1, rfl, _, _, rfl, _, _, rfl, _, _, rfl, rfl, ?_⟩
  have cl : ((cells.map V.int).length : Int) = (cells.length : Int) := by rw [List.length_map]
  refine ⟨_, rfl, _, rfl, D.ca, _, rfl, .inl (SqL.of e2), _, _, rfl, rfl, (by show (0 : Int) < ((cells.map V.int).length : Int); rw [cl]; omega), ?_⟩
  have i0 : 0 ≤ (n : Int) % ((cells.map V.int).length : Int) := Int.emod_nonneg _ (by rw [cl]; omega)
  have i1 : (n : Int) % ((cells.map V.int).length : Int) < (cells.length : Int) := by
    rw [cl]
    exact Int.emod_lt_of_pos _ (by omega)
  refine ⟨_, rfl, _, _, rfl, rfl, _, rfl, D.dk, _, _, 1, rfl, rfl, e1, rfl, ?_⟩
  have x2 : (upd H D.dk (.lst [.ref D.ca, .int ((n : Int) + 1), .ref D.ra])) D.ca = some (.lst (cells.map V.int)) := by rw [upd_ne d.dc.symm]; exact e2
  have x3 : (upd H D.dk (.lst [.ref D.ca, .int ((n : Int) + 1), .ref D.ra])) D.ra = some (.lst (rests.map V.int)) := by rw [upd_ne d.dr.symm]; exact e3
  have x1 : (upd H D.dk (.lst [.ref D.ca, .int ((n : Int) + 1), .ref D.ra])) D.dk = some (.lst [.ref D.ca, .int ((n + 1 : Nat) : Int), .ref D.ra]) := upd_same
  have sd : SameD D H (upd H D.dk (.lst [.ref D.ca, .int ((n : Int) + 1), .ref D.ra])) := fun b o h1 _ e => by rw [upd_ne h1]; exact e
  have rl : ((rests.map V.int).length : Int) = (cells.length : Int) := by rw [List.length_map, cr]
  have l1 : ((n : Int) % ((cells.map V.int).length : Int)).toNat < rests.length := by omega
  have l2 : ((n : Int) % ((cells.map V.int).length : Int)).toNat < cells.length := by omega
  have a1 := at_map (f := V.int) i0 (List.getElem?_eq_getElem l1)
  have a2 := at_map (f := V.int) i0 (List.getElem?_eq_getElem l2)
  refine ⟨_, rfl, _, rfl, D.ra, _, _, _, rfl, rfl, SqL.of x3, a1, _, _, rfl, rfl, _, rfl, ite2 (fun _ => ?_) (fun _ => ?_)⟩
  · refine ⟨_, rfl, _, rfl, D.ra, _, _, _, rfl, rfl, SqL.of x3, a1, ?_⟩
    refine ⟨_, rfl, _, rfl, _, _, rfl, rfl, wide_div (b := 110) m0 (Nat.lt_of_lt_of_le (show m.natAbs < 10000000000000000000000000000000 by omega) (by decide)) (by decide) (by decide), ?_⟩
    refine ⟨_, rfl, _, rfl, D.ra, _, _, _, rfl, rfl, x3, ixN_nat i0 (by rw [rl]; exact i1), ?_⟩
    refine ⟨_, rfl, _, rfl, _, _, rfl, rfl, m0, ?_⟩
    refine q _ _ (Int.emod_nonneg _ (by omega)) (Int.emod_lt_of_pos _ m0) ⟨⟨cells, rests.set ((n : Int) % ((cells.map V.int).length : Int)).toNat (rests[((n : Int) % ((cells.map V.int).length : Int)).toNat] / m), ?_, ?_, ?_, c0, ?_, c1⟩, d.dc, d.dr, d.cr⟩ ?_
    · rw [upd_ne d.dr]; exact x1
    · rw [upd_ne d.cr]; exact x2
    · rw [upd_same, List.map_set]
    · rw [List.length_set]; exact cr
    · exact sd.trans fun b o _ h2 e => by rw [upd_ne h2]; exact e
  · have b1 := modB cells[((n : Int) % ((cells.map V.int).length : Int)).toNat] 2147483563 (by decide)
    have b2 := sq_le hn
    refine ⟨_, rfl, _, rfl, D.ca, _, _, _, rfl, rfl, SqL.of x2, a2, _, _, rfl, rfl, (show (0 : Int) < 2147483563 by decide), _, rfl, _, _, rfl, rfl, .inl ⟨by decide, by decide⟩, _, rfl, _, _, rfl, rfl, .inr ⟨by omega, by omega⟩, _, _, rfl, rfl, ?_⟩
    refine ⟨_, rfl, _, rfl, _, _, rfl, rfl, .inl ⟨by decide, by decide⟩, _, _, rfl, rfl, _, _, rfl, rfl, _, _, rfl, rfl, ⟨by decide, by decide, by omega⟩, _, _, rfl, rfl, (show (0 : Int) < 2305843009213693921 by decide), ?_⟩
    generalize (cells[((n : Int) % ((cells.map V.int).length : Int)).toNat] % 2147483563 + 75025 * (n : Int) * (n : Int) + 10946 * (n : Int) + 53) ^ Int.toNat 3 = y1
    have b3 := modB y1 2305843009213693921 (by decide)
    refine ⟨_, rfl, _, rfl, _, _, rfl, rfl, .inl ⟨by decide, by decide⟩, _, _, rfl, rfl, _, _, rfl, rfl, ⟨by decide, by decide, by omega⟩, _, _, rfl, rfl, (show (0 : Int) < 2305843009213693951 by decide), ?_⟩
    refine ⟨_, rfl, _, _, rfl, rfl, ⟨by decide, by decide⟩, _, rfl, _, _, rfl, rfl, m0, ?_⟩
    exact q _ _ (Int.emod_nonneg _ (by omega)) (Int.emod_lt_of_pos _ m0) ⟨⟨cells, rests, x1, x2, x3, c0, cr, c1⟩, d.dc, d.dr, d.cr⟩ sd
end
/-! ### _law_deck -/
theorem rep_flat {α : Type} (a : α) : ∀ m : Nat, (List.replicate m [a]).flatten = List.replicate m a
  | 0 => rfl
  | m + 1 => by
    rw [List.replicate_succ, List.replicate_succ, List.flatten_cons, rep_flat a m]
    rfl
def spDeck (K : PySem.W.Frag) : Sp := fun vs H Q _ => ∃ (a : Addr) (ns : List Int), vs = [.ref a] ∧ SqL K H a (ns.map V.int) ∧ ∀ (D : Deck) (H' : Hp), DeckOk H' D 0 → Same H H' → Q (.ref D.dk) H'
section
variable {P : Program} {w : World} {K : PySem.W.Frag} {mg : Str → Option Value} {base : Heap} {f : Addr} {fd : FuncData}
theorem ok_deck {k : Nat} (F : Fun K "_law_deck" "_law_deck" s__law_deck f fd) (M : Mgs mg) : FnOk P w K mg base CX0 (k + 1) f fd ["_law_script"] (spDeck K) := by
  refine F.ok sc__law_deck (fun vs H Q E h => ?_) (fun cdv A outer s H vs Q E hr h => ?_)
  · obtain ⟨a, ns, rfl, _⟩ := h
    rfl
  obtain ⟨a, ns, rfl, hS, q⟩ := h
  refine ⟨_, (pss_cons (ps_set (i := 1) sc__law_deck.nd rfl (.inl rfl) (pe_op op_cat (pe_callTy call_list_of rfl M.list (by decide +kernel) (pa_cons (pe_slice sl_list (pv 0) po_none (po_some pe_int)) pa_nil)) (pe_op op_rep (pe_lst (pa_cons pe_int pa_nil)) (pe_callTy call_int1 rfl M.int (by decide +kernel) (pa_cons (pe_cmpR op_eq (pe_callB call_len_seq rfl M.len PySem.boot_len (pa_cons (pv 0) pa_nil)) pe_int (nomark _)) pa_nil)))))
    (pss_one (ps_ret (pe_lst (pa_cons (pv 1) (pa_cons pe_int (pa_cons (pe_lc (own := [("_law_cell", 2)]) (g := gName 2) (tt := tYes) rfl sc__law_deck.nd (pi_list (pv 1)) (blkOk_by (N := ["_law_script", "_law_cells", "_law_cell"]) (sc := defScope s__law_deck) (by decide +kernel)) (fun _ _ _ _ _ => (pg_name (i := 2) sc__law_deck.nd rfl (.inl rfl))) (fun _ _ _ _ _ => pts_nil) (fun _ _ _ _ _ => (pe_op op_mul (pv 2) (pe_callTy call_int1 rfl M.int (by decide +kernel) (pa_cons (pe_cmpR op_ge (pv 2) (pe_op op_pow pe_int pe_int) (nomark _)) pa_nil))))) pa_nil))))))), ?_⟩
  refine ⟨.ref a, rfl, 60, rfl, a, ns.map V.int, rfl, hS, fun c nc => ?_⟩
  rw [show (60 : Int) = ((60 : Nat) : Int) from rfl, cut_to, ← List.map_take]
  have s1 := same_new nc (.lst ((ns.take 60).map V.int))
  have ec := upd_same (H := H) (a := c) (o := .lst ((ns.take 60).map V.int))
  generalize upd H c (.lst ((ns.take 60).map V.int)) = H1 at s1 ec
  refine ⟨c, _, rfl, .inl (SqL.of ec), fun c2 nc2 => ?_⟩
  have s2 := same_new nc2 (.lst ((ns.take 60).map V.int))
  have ec2 := upd_same (H := H1) (a := c2) (o := .lst ((ns.take 60).map V.int))
  generalize upd H1 c2 (.lst ((ns.take 60).map V.int)) = H2 at s2 ec2
  refine ⟨(by show 1 ≤ sizeLine; decide), fun z nz => ?_⟩
  have s3 := same_new nz (.lst [.int 6])
  have ez := upd_same (H := H2) (a := z) (o := .lst [.int 6])
  have ec3 := s3 _ _ ec2
  generalize upd H2 z (.lst [.int 6]) = H3 at s3 ez ec3
  have sH := (s1.trans s2).trans s3
  refine ⟨.ref a, rfl, a, _, rfl, .inl (sH.seq hS), rfl, .inr ⟨_, rfl, z, _, _, rfl, rfl, ez, ?_, ?_, ?_, fun y ny => ?_⟩⟩
  · split <;> decide
  · split <;> decide
  · split <;> decide
  have s4 := same_new ny (.lst (List.replicate (Int.toNat (if decide (V.int ((ns.map V.int).length : Int) = V.int 0) = true then 1 else 0)) [V.int 6]).flatten)
  obtain ⟨ex, hex, hexl⟩ : ∃ ex : List Int, (List.replicate (Int.toNat (if decide (V.int ((ns.map V.int).length : Int) = V.int 0) = true then 1 else 0)) [V.int 6]).flatten = ex.map V.int ∧ 0 < (ns.take 60).length + ex.length ∧ (ns.take 60).length + ex.length ≤ 60 := by
    by_cases h0 : ns.length = 0
    · refine ⟨[6], ?_, Nat.succ_pos _, ?_⟩
      · rw [show (decide (V.int ((ns.map V.int).length : Int) = V.int 0)) = true by rw [List.length_map, h0]; rfl]
        rfl
      · rw [List.length_take, h0]
        decide
    · refine ⟨[], ?_, ?_, ?_⟩
      · rw [show (decide (V.int ((ns.map V.int).length : Int) = V.int 0)) = false by
          apply decide_eq_false
          intro z
          have z' := V.int.inj z
          rw [List.length_map] at z'
          omega]
        rfl
      · rw [List.length_take, List.length_nil]; omega
      · rw [List.length_take, List.length_nil]; omega
  refine ⟨c2, y, _, _, rfl, rfl, s4 _ _ ec3, upd_same, ?_, fun p np => ?_⟩
  · rw [hex, List.length_map, List.length_map]
    exact small (by omega)
  have s5 := same_new np (.lst ((ns.take 60).map V.int ++ (List.replicate (Int.toNat (if decide (V.int ((ns.map V.int).length : Int) = V.int 0) = true then 1 else 0)) [V.int 6]).flatten))
  have s6 := sH.trans (s4.trans s5)
  refine ⟨.ref p, rfl, _, rfl, p, rfl, ⟨_, SqL.of upd_same⟩, fun r nr => ?_⟩
  rw [hex, ← List.map_append] at s5 s6 nr ⊢
  generalize hH2 : upd (upd H3 y (.lst (ex.map V.int))) p (.lst ((ns.take 60 ++ ex).map V.int)) = H4 at s5 s6 nr ⊢
  have ep : H4 p = some (.lst ((ns.take 60 ++ ex).map V.int)) := by rw [← hH2]; exact upd_same
  have hpr : p ≠ r := ne_of_none ep nr
  refine lc_list (K := K) (a := p) (xs := (ns.take 60 ++ ex).map V.int) (fun i H' => Same H4 H' ∧ ∃ ys : List Int, ys.length = i ∧ H' r = some (.lst (ys.map V.int))) ⟨same_new nr _, [], rfl, upd_same⟩ (fun i H' _ hp => SqL.of (hp.1 _ _ ep)) (fun i x H' hx hp => ?_) (fun H5 hp => ?_)
  · obtain ⟨sm, ys, hy, hd⟩ := hp
    rw [List.getElem?_map] at hx
    obtain ⟨v, hv, rfl⟩ := Option.map_eq_some_iff.mp hx
    have hi : i < 61 := by
      have := (List.getElem?_eq_some_iff.mp hv).1
      rw [List.length_append] at this
      omega
    refine ⟨rfl, kept ?_⟩
    refine ⟨_, rfl, _, rfl, _, _, rfl, rfl, ⟨by decide, by decide, by decide⟩, _, _, rfl, rfl, .inr ⟨_, rfl, _, _, rfl, rfl, .inr ?_, _, hd, by rw [List.length_map]; exact small1000 (by omega), fun b o e => ?_, ys ++ [v * (if decide (v ≥ (10 : Int) ^ Int.toNat 18) = true then 1 else 0)], by rw [List.length_append, hy]; rfl, ?_⟩⟩
    · split <;> decide
    · rw [upd_ne (ne_of_none e nr)]
      exact sm _ _ e
    · rw [upd_same, List.map_append]
      rfl
  · obtain ⟨sm, ys, hy, hd⟩ := hp
    refine ⟨(by show 3 ≤ sizeLine; decide), fun t nt => ?_⟩
    have s9 := same_new nt (.lst [.ref p, .int 0, .ref r])
    have ep3 := sm _ _ ep
    refine q ⟨t, p, r⟩ _ ⟨⟨ns.take 60 ++ ex, ys, upd_same, s9 _ _ ep3, s9 _ _ hd, ?_, ?_, ?_⟩, (ne_of_none ep3 nt).symm, (ne_of_none hd nt).symm, hpr⟩ (s6.trans (sm.trans s9))
    · rw [List.length_append]; omega
    · rw [hy, List.length_map]
    · rw [List.length_append]; omega
end
/-! ### _law_pick, _law_mixed -/
abbrev vc (c : Nat) : V := .str (ch c)
abbrev vt (z : List Nat) : V := .str (tx z)
theorem at_ge {α : Type} {xs : List α} {i : Int} (h0 : 0 ≤ i) (h : i.toNat < xs.length) : atI xs i = some xs[i.toNat] := by
  have e := atI_nat (xs := xs) (j := i.toNat) (List.getElem?_eq_getElem h)
  rwa [Int.toNat_of_nonneg h0] at e
theorem erase_perm {α : Type} : ∀ {l : List α} {i : Nat} (h : i < l.length), List.Perm (l[i] :: l.eraseIdx i) l
  | x :: l, 0, _ => List.Perm.refl _
  | x :: l, i + 1, h => by
    have := erase_perm (l := l) (i := i) (Nat.lt_of_succ_lt_succ h)
    show List.Perm (l[i]'(Nat.lt_of_succ_lt_succ h) :: x :: l.eraseIdx i) (x :: l)
    exact (List.Perm.swap _ _ _).trans (this.cons x)
def spPick (K : PySem.W.Frag) : Sp := fun vs H Q _ => ∃ (D : Deck) (n : Nat) (v : V), vs = [.ref D.dk, v] ∧ DeckOk H D n ∧ n ≤ 1000000 ∧
  ((∃ ls : List Nat, v = vt ls ∧ ls ≠ [] ∧ ls.length ≤ 60 ∧ ∀ (c : Nat) (H' : Hp), c ∈ ls → DeckOk H' D (n + 1) → SameD D H H' → Q (vc c) H') ∨
   (∃ (a : Addr) (xs : List V), v = .ref a ∧ H a = some (.lst xs) ∧ Off D a ∧ xs ≠ [] ∧ xs.length ≤ 60 ∧ ∀ (x : V) (H' : Hp), x ∈ xs → DeckOk H' D (n + 1) → SameD D H H' → Q x H'))
section
variable {P : Program} {w : World} {K : PySem.W.Frag} {mg : Str → Option Value} {base : Heap} {f : Addr} {fd : FuncData}
theorem ok_pick {k : Nat} (F : Fun K "_law_pick" "_law_pick" s__law_pick f fd) (M : Mgs mg) (D_law_draw : Df P w K mg base (k + 1) "_law_draw" ["_law_deck_here", "_law_many"] spDraw) : FnOk P w K mg base CX0 (k + 2) f fd ["_law_deck_here", "_law_items"] (spPick K) := by
  refine F.ok sc__law_pick (fun vs H Q E h => ?_) (fun cdv A outer s H vs Q E hr h => ?_)
  · obtain ⟨D, n, v, rfl, _⟩ := h
    rfl
  obtain ⟨D, n, v, rfl, d, hn, hc⟩ := h
  refine ⟨_, (pss_one (ps_ret (pe_ix ix_seq (pv 1) (pe_call D_law_draw.ok (hr.mono (by omega)) rfl D_law_draw.g D_law_draw.kp D_law_draw.b .nil pass0 (pa_cons (pv 0) (pa_cons (pe_callB call_len rfl M.len PySem.boot_len (pa_cons (pv 1) pa_nil)) pa_nil))) (fun _ _ => rfl)))), ?_⟩
  rcases hc with ⟨ls, rfl, ne, hl, q⟩ | ⟨a, xs, rfl, ea, oa, ne, hl, q⟩
  · have lz : (tx ls).length ≤ sizeLine := small (by rw [tx_len]; omega)
    have l0 : 0 < ls.length := List.length_pos_iff.mpr ne
    refine ⟨_, rfl, _, rfl, _, rfl, _, _, rfl, ⟨lz, rfl⟩, D, n, _, rfl, d, hn, by rw [tx_len]; omega, by rw [tx_len]; omega, fun i H1 i0 i1 d1 s1 => ?_⟩
    rw [tx_len] at i1
    have hi : i.toNat < ls.length := by omega
    have ai : atI (tx ls).cps.toList i = some ls[i.toNat] := at_ge (xs := ls) i0 hi
    exact .inr (.inr ⟨_, _, _, rfl, rfl, lz, ai, q _ H1 (List.getElem_mem hi) d1 s1⟩)
  · have l0 : 0 < xs.length := List.length_pos_iff.mpr ne
    refine ⟨_, rfl, _, rfl, _, rfl, _, _, rfl, .inl ⟨_, SqL.of ea, rfl⟩, D, n, _, rfl, d, hn, by omega, by omega, fun i H1 i0 i1 d1 s1 => ?_⟩
    have hi : i.toNat < xs.length := by omega
    have ai : atI xs i = some xs[i.toNat] := at_ge i0 hi
    exact .inl ⟨a, xs, _, _, rfl, rfl, SqL.of (s1.at oa ea), ai, q _ H1 (List.getElem_mem hi) d1 s1⟩
def spMixed : Sp := fun vs H Q _ => ∃ (D : Deck) (n : Nat) (a : Addr) (ls : List V), vs = [.ref D.dk, .ref a] ∧ DeckOk H D n ∧ n + ls.length ≤ 1000000 ∧ H a = some (.lst ls) ∧ Off D a ∧ ls.length ≤ 60 ∧
  ∀ (p : Addr) (zs : List V) (H' : Hp), DeckOk H' D (n + ls.length) → SameD D H H' → H p = none → H' p = some (.lst zs) → zs.Perm ls → Off D p → Q (.ref p) H'
theorem ok_mixed {k : Nat} (F : Fun K "_law_mixed" "_law_mixed" s__law_mixed f fd) (M : Mgs mg) (D_law_draw : Df P w K mg base (k + 1) "_law_draw" ["_law_deck_here", "_law_many"] spDraw) : FnOk P w K mg base CX0 (k + 2) f fd ["_law_deck_here", "_law_items"] spMixed := by
  refine F.ok sc__law_mixed (fun vs H Q E h => ?_) (fun cdv A outer s H vs Q E hr h => ?_)
  · obtain ⟨D, n, a, ls, rfl, _⟩ := h
    rfl
  obtain ⟨D, n, a, ls, rfl, d, hn, ea, oa, hl, q⟩ := h
  refine ⟨_, (pss_cons (ps_set (i := 2) sc__law_mixed.nd rfl (.inl rfl) (pe_callTy call_list_of rfl M.list (by decide +kernel) (pa_cons (pv 1) pa_nil)))
    (pss_cons (ps_set (i := 3) sc__law_mixed.nd rfl (.inl rfl) (pe_lst pa_nil))
    (pss_cons (ps_while PassesOwn.never (pt_cmpR (op_neL hr.units0) (pv 2) (pe_lst pa_nil) (nomark _))
      (pss_one (ps_expr (pe_bm PySem.F.plainAttrs_list PySem.F.slot_list_append PySem.F.type_list_append mt_append (pv 3) (pa_cons (pe_bm PySem.F.plainAttrs_list PySem.F.slot_list_pop PySem.F.type_list_pop mt_popAt (pv 2) (pa_cons (pe_call D_law_draw.ok (hr.mono (by omega)) rfl D_law_draw.g D_law_draw.kp D_law_draw.b .nil pass0 (pa_cons (pv 0) (pa_cons (pe_callB call_len_seq rfl M.len PySem.boot_len (pa_cons (pv 2) pa_nil)) pa_nil))) pa_nil)) pa_nil)))))
    (pss_one (ps_ret (pv 3)))))), ?_⟩
  refine ⟨_, rfl, a, _, rfl, .inl (SqL.of ea), fun ra nra => ?_⟩
  refine ⟨(by show 0 ≤ sizeLine; decide), fun fa nfa => ?_⟩
  have q1 := same_new nra (.lst ls)
  have q2 := same_new nfa (.lst [])
  have era := q2 _ _ (upd_same (H := H) (a := ra) (o := .lst ls))
  have nrf : ra ≠ fa := ne_of_none upd_same nfa
  have nfaH : H fa = none := by
    rw [upd_ne nrf.symm] at nfa
    exact nfa
  have ora := d.new nra
  have ofa := d.new nfaH
  refine while_by (fun σ H' => σ = [some (.ref D.dk), some (.ref a), some (.ref ra), some (.ref fa)] ∧ ∃ rest xs : List V, DeckOk H' D (n + xs.length) ∧ SameD D H H' ∧ H' ra = some (.lst rest) ∧ H' fa = some (.lst xs) ∧ (xs ++ rest).Perm ls) (fun σ H' => match H' ra with | some (.lst xs) => xs.length | _ => 0)
    ⟨rfl, ls, [], (d.same q1).same q2, SameD.of (q1.trans q2), era, upd_same, List.Perm.refl _⟩ (fun σ H' hp => ?_) ?_
  · obtain ⟨rfl, rest, xs, d', s', er, ef, pm⟩ := hp
    have hlen : xs.length + rest.length = ls.length := by rw [← List.length_append]; exact pm.length_eq
    refine ⟨_, rfl, (by show 0 ≤ sizeLine; decide), fun el ne => ?_⟩
    have q3 := same_new ne (.lst [])
    refine ⟨ra, el, _, rfl, rfl, SqL.of (q3 _ _ er), SqL.of upd_same, _, rfl, ?_⟩
    have d1 := d'.same q3
    have s1 := s'.trans (SameD.of q3)
    have er1 := q3 _ _ er
    have ef1 := q3 _ _ ef
    generalize upd H' el (.lst []) = H1 at d1 s1 er1 ef1
    cases hg : rest with
    | nil =>
      refine iteF ?_
      subst hg
      rw [List.append_nil] at pm
      rw [List.length_nil, Nat.add_zero] at hlen
      rw [hlen] at d1
      exact ⟨_, rfl, q fa xs H1 d1 s1 nfaH ef1 pm ofa⟩
    | cons g0 gr =>
      refine iteT ?_
      have r0 : 0 < rest.length := by rw [hg]; exact Nat.succ_pos _
      refine ⟨_, rfl, .inl ⟨rfl, _, SqL.of ef1⟩, _, rfl, .inl ⟨rfl, _, SqL.of er1⟩, _, rfl, _, rfl, ra, _, rfl, .inl (SqL.of er1), D, _, _, rfl, d1, by omega, by omega, by omega, fun j H2 j0 j1 d2 s2 => ?_⟩
      have hj : j.toNat < rest.length := by omega
      have er2 := s2.at ora er1
      have ef2 := s2.at ofa ef1
      refine ⟨ra, _, j, j.toNat, rest[j.toNat], rfl, rfl, er2, by omega, by omega, (ixN_seq (ixN_nat j0 (by omega))).1, List.getElem?_eq_getElem hj, ?_⟩
      have ef3 : (upd H2 ra (.lst (rest.eraseIdx j.toNat))) fa = some (.lst xs) := by rw [upd_ne nrf.symm]; exact ef2
      refine ⟨fa, _, _, rfl, rfl, ef3, small1000 (by omega), ?_⟩
      refine ⟨⟨rfl, rest.eraseIdx j.toNat, xs ++ [rest[j.toNat]], ?_, ((s1.trans s2).put nra _).put nfaH _, ?_, upd_same, ?_⟩, ?_⟩
      · rw [List.length_append]
        exact (d2.put ora _).put ofa _
      · rw [upd_ne nrf, upd_same]
      · rw [List.append_assoc]
        exact (List.Perm.append_left xs (erase_perm hj)).trans pm
      · show (match (upd (upd H2 ra _) fa (.lst (xs ++ [rest[j.toNat]]))) ra with | some (.lst xs) => xs.length | _ => 0) < (match H' ra with | some (.lst xs) => xs.length | _ => 0)
        rw [upd_ne nrf, upd_same, er]
        show (rest.eraseIdx j.toNat).length < rest.length
        rw [List.length_eraseIdx_of_lt hj]
        omega
  · intro σ H' Q1 Q2 hQ h
    obtain ⟨v, e, h0, h⟩ := h
    refine ⟨v, e, h0, fun el ne => ?_⟩
    obtain ⟨a, b, zs, h1, h2, h3, h4, k, h5, h6⟩ := h el ne
    exact ⟨a, b, zs, h1, h2, h3, h4, k, h5, hQ _ _ h6⟩
end
/-! ### _law_tree, _law_drawn_tree -/
def ltB (t : B) : Prop := ∀ c ∈ t.pre, 97 ≤ c ∧ c ≤ 122
theorem iteI {i j : Int} {A B : Prop} (h : i = j) (a : A) : if decide (V.int i = V.int j) = true then A else B := by
  rw [if_pos (decide_eq_true (congrArg V.int h))]; exact a
theorem iteJ {i j : Int} {A B : Prop} (h : i ≠ j) (b : B) : if decide (V.int i = V.int j) = true then A else B := by
  rw [if_neg (fun z => h (V.int.inj (of_decide_eq_true z)))]; exact b
theorem pick_many {z : Int} {i way : Int} (z1 : 1 ≤ z) (i0 : 0 ≤ i) (i1 : i < z) (w0 : 0 ≤ way) (w1 : way ≤ 4) : ∃ m : Nat, atI [V.int i, V.int (z - 1), V.int 0, V.int ((z - 1) * (z % 2)), V.int ((z - 1) / 2)] way = some (.int (m : Int)) ∧ (m : Int) < z := by
  have h : way = ((0 : Nat) : Int) ∨ way = ((1 : Nat) : Int) ∨ way = ((2 : Nat) : Int) ∨ way = ((3 : Nat) : Int) ∨ way = ((4 : Nat) : Int) := by omega
  rcases h with rfl | rfl | rfl | rfl | rfl
  · exact ⟨i.toNat, by rw [Int.toNat_of_nonneg i0]; exact atI_nat rfl, by omega⟩
  · exact ⟨(z - 1).toNat, by rw [Int.toNat_of_nonneg (by omega)]; exact atI_nat rfl, by omega⟩
  · exact ⟨0, atI_nat rfl, by omega⟩
  · have h2 : z % 2 = 0 ∨ z % 2 = 1 := by omega
    rcases h2 with e | e
    · exact ⟨0, by rw [e, Int.mul_zero]; exact atI_nat rfl, by omega⟩
    · exact ⟨(z - 1).toNat, by rw [e, Int.mul_one, Int.toNat_of_nonneg (by omega)]; exact atI_nat rfl, by omega⟩
  · exact ⟨((z - 1) / 2).toNat, by rw [Int.toNat_of_nonneg (by omega)]; exact atI_nat rfl, by omega⟩
def spTree (N : Nat) : Sp := fun vs H Q _ => ∃ (D : Deck) (n z : Nat) (way : Int) (ls : List Nat), vs = [.ref D.dk, .int (z : Int), .int way, vt ls] ∧ DeckOk H D n ∧ n + 2 * z ≤ 1000000 ∧ z < N ∧ z ≤ 1000 ∧ 0 ≤ way ∧ way ≤ 4 ∧ ls ≠ [] ∧ ls.length ≤ 60 ∧
  ∀ (v : V) (t : B) (H' : Hp), DeckOk H' D (n + 2 * z) → SameD D H H' → BAt H' v t → t.size = z → (∀ c ∈ t.pre, c ∈ ls) → Q v H'
def spDrawn : Sp := fun vs H Q _ => ∃ (D : Deck) (n lim : Nat), vs = [.ref D.dk, .int (lim : Int)] ∧ DeckOk H D n ∧ n + 3 + 2 * lim ≤ 1000000 ∧ 1 ≤ lim ∧ lim ≤ 20 ∧
  ∀ (v : V) (t : B) (n' : Nat) (H' : Hp), DeckOk H' D n' → n' ≤ n + 3 + 2 * lim → SameD D H H' → BAt H' v t → 1 ≤ t.size → t.size ≤ lim → ltB t → Q v H'
section
variable {P : Program} {w : World} {K : PySem.W.Frag} {mg : Str → Option Value} {base : Heap} {f : Addr} {fd : FuncData}
theorem ok_tree (F : Fun K "_law_tree" "_law_tree" s__law_tree f fd) (b : Binds K fd ["_law_deck_here", "_law_size", "_law_style", "_law_letters"] []) (g : mg "_law_tree" = some (.ref f)) (D_law_draw : Df P w K mg base 1 "_law_draw" ["_law_deck_here", "_law_many"] spDraw) (D_law_pick : Df P w K mg base 2 "_law_pick" ["_law_deck_here", "_law_items"] (spPick K)) :
    ∀ N : Nat, FnOk P w K mg base CX0 (N + 3) f fd ["_law_deck_here", "_law_size", "_law_style", "_law_letters"] (spTree N)
  | 0 => by
    have no : ∀ vs H Q E, ¬ spTree 0 vs H Q E := fun vs H Q E h => by
      obtain ⟨D, n, z, way, ls, _, _, _, h1, _⟩ := h
      omega
    exact ⟨fun vs H Q E h => absurd h (no vs H Q E), fun A outer s H args us vs Q E _ _ _ _ h => absurd h (no vs H Q E)⟩
  | N + 1 => by
    have Dself : Df P w K mg base (N + 3) "_law_tree" ["_law_deck_here", "_law_size", "_law_style", "_law_letters"] (spTree N) := ⟨f, fd, ok_tree F b g D_law_draw D_law_pick N, b, F.kp, g⟩
    refine F.ok sc__law_tree (fun vs H Q E h => ?_) (fun cdv A outer s H vs Q E hr h => ?_)
    · obtain ⟨D, n, z, way, ls, rfl, _⟩ := h
      rfl
    obtain ⟨D, n, z, way, ls, rfl, d, hn, hz, hz1, w0, w1, lne, ll, q⟩ := h
    refine ⟨_, (pss_cons (ps_if (pt_cmpR op_eq (pv 1) pe_int (nomark _))
      (pss_one (ps_ret pe_non)) pss_nil)
    (pss_cons (ps_set (i := 4) sc__law_tree.nd rfl (.inl rfl) (pe_ix ix_list (pe_lst (pa_cons (pe_call D_law_draw.ok (hr.mono (by omega)) rfl D_law_draw.g D_law_draw.kp D_law_draw.b .nil pass0 (pa_cons (pv 0) (pa_cons (pv 1) pa_nil))) (pa_cons (pe_op op_sub (pv 1) pe_int) (pa_cons pe_int (pa_cons (pe_op op_mul (pe_op op_sub (pv 1) pe_int) (pe_op op_mod (pv 1) pe_int)) (pa_cons (pe_op op_fdiv (pe_op op_sub (pv 1) pe_int) pe_int) pa_nil)))))) (pv 2) (fun _ _ => rfl)))
    (pss_cons (ps_set (i := 5) sc__law_tree.nd rfl (.inl rfl) (pe_call D_law_pick.ok (hr.mono (by omega)) rfl D_law_pick.g D_law_pick.kp D_law_pick.b .nil pass0 (pa_cons (pv 0) (pa_cons (pv 3) pa_nil))))
    (pss_one (ps_ret (pe_tup (pa_cons (pe_call Dself.ok (hr.mono (by omega)) rfl Dself.g Dself.kp Dself.b .nil pass0 (pa_cons (pv 0) (pa_cons (pv 4) (pa_cons (pv 2) (pa_cons (pv 3) pa_nil))))) (pa_cons (pv 5) (pa_cons (pe_call Dself.ok (hr.mono (by omega)) rfl Dself.g Dself.kp Dself.b .nil pass0 (pa_cons (pv 0) (pa_cons (pe_op op_sub (pe_op op_sub (pv 1) pe_int) (pv 4)) (pa_cons (pv 2) (pa_cons (pv 3) pa_nil))))) pa_nil))))))))), ?_⟩
    by_cases e0 : z = 0
    · subst e0
      refine ⟨_, rfl, rfl, _, rfl, iteI rfl ?_⟩
      exact q .non .nil H d (SameD.refl D H) .nil rfl fun c hc => by cases hc
    · refine ⟨_, rfl, rfl, _, rfl, iteJ (by omega) ?_⟩
      refine ⟨_, rfl, _, rfl, D, n, _, rfl, d, by omega, by omega, by omega, fun i H1 i0 i1 d1 s1 => ?_⟩
      refine ⟨_, rfl, _, _, rfl, rfl, _, rfl, _, _, rfl, rfl, _, rfl, _, _, rfl, rfl, (show (0 : Int) < 2 by decide), _, _, rfl, rfl, .inl ⟨by omega, by omega⟩, ?_⟩
      refine ⟨_, rfl, _, _, rfl, rfl, _, _, rfl, rfl, ⟨by decide, by decide⟩, (by show 5 ≤ sizeLine; decide), fun l nl => ?_⟩
      obtain ⟨m, hm, ml⟩ := pick_many (show (1 : Int) ≤ (z : Int) by omega) i0 i1 w0 w1
      refine ⟨_, rfl, l, _, _, _, rfl, rfl, SqL.of upd_same, hm, ?_⟩
      have q1 := same_new nl (.lst [V.int i, V.int ((z : Int) - 1), V.int 0, V.int (((z : Int) - 1) * ((z : Int) % 2)), V.int (((z : Int) - 1) / 2)])
      have d2 := d1.same q1
      have s2 := s1.trans (SameD.of q1)
      refine ⟨_, rfl, _, rfl, D, n + 1, _, rfl, d2, by omega, .inl ⟨ls, rfl, lne, ll, fun c H3 hc d3 s3 => ?_⟩⟩
      refine ⟨_, rfl, _, rfl, _, rfl, _, rfl, D, n + 2, m, way, ls, rfl, d3, by omega, by omega, by omega, w0, w1, lne, ll, fun v1 t1 H4 d4 s4 a4 z4 c4 => ?_⟩
      refine ⟨_, rfl, _, rfl, _, rfl, _, _, rfl, rfl, _, rfl, _, _, rfl, rfl, _, rfl, _, rfl, ?_⟩
      have em : (z : Int) - 1 - (m : Int) = ((z - 1 - m : Nat) : Int) := by omega
      refine ⟨D, _, z - 1 - m, way, ls, by rw [← em]; rfl, d4, by omega, by omega, by omega, w0, w1, lne, ll, fun v2 t2 H5 d5 s5 a5 z5 c5 => ?_⟩
      refine ⟨(by show 3 ≤ sizeLine; decide), fun r nr => ?_⟩
      have q6 := same_new nr (.tup [v1, .str ⟨#[c]⟩, v2])
      refine q (.ref r) (.node t1 c t2) _ ?_ (((s2.trans s3).trans s4).trans (s5.trans (SameD.of q6))) (.node upd_same ((a4.keep (s5.keepT d4)).same q6) (a5.same q6)) ?_ ?_
      · rw [show n + 2 * z = n + 2 + 2 * m + 2 * (z - 1 - m) by omega]
        exact d5.same q6
      · show t1.size + 1 + t2.size = z
        omega
      · intro x hx
        rcases List.mem_cons.mp hx with rfl | hx
        · exact hc
        · rcases List.mem_append.mp hx with hx | hx
          · exact c4 x hx
          · exact c5 x hx
theorem some_letters {x : V} (h : x ∈ [V.str "a", V.str "ab", V.str "abcxyz", V.str "abcdefghijklmnopqrstuvwxyz"]) : ∃ ls : List Nat, x = vt ls ∧ ls ≠ [] ∧ ls.length ≤ 60 ∧ ∀ c ∈ ls, 97 ≤ c ∧ c ≤ 122 := by
  have go : ∀ s : Str, s.cps.toList ≠ [] → s.cps.toList.length ≤ 60 → (∀ c ∈ s.cps.toList, 97 ≤ c ∧ c ≤ 122) → ∃ ls : List Nat, V.str s = vt ls ∧ ls ≠ [] ∧ ls.length ≤ 60 ∧ ∀ c ∈ ls, 97 ≤ c ∧ c ≤ 122 := fun s h1 h2 h3 => ⟨s.cps.toList, by show V.str s = V.str ⟨s.cps.toList.toArray⟩; rw [Array.toArray_toList], h1, h2, h3⟩
  rcases List.mem_cons.mp h with rfl | h
  · exact go _ (by decide +kernel) (by decide +kernel) (by decide +kernel)
  rcases List.mem_cons.mp h with rfl | h
  · exact go _ (by decide +kernel) (by decide +kernel) (by decide +kernel)
  rcases List.mem_cons.mp h with rfl | h
  · exact go _ (by decide +kernel) (by decide +kernel) (by decide +kernel)
  rcases List.mem_cons.mp h with rfl | h
  · exact go _ (by decide +kernel) (by decide +kernel) (by decide +kernel)
  · cases h
theorem ok_drawn (F : Fun K "_law_drawn_tree" "_law_drawn_tree" s__law_drawn_tree f fd) (D_law_draw : Df P w K mg base 1 "_law_draw" ["_law_deck_here", "_law_many"] spDraw) (D_law_pick : Df P w K mg base 2 "_law_pick" ["_law_deck_here", "_law_items"] (spPick K))
    (D_law_tree : Df P w K mg base 33 "_law_tree" ["_law_deck_here", "_law_size", "_law_style", "_law_letters"] (spTree 30)) : FnOk P w K mg base CX0 34 f fd ["_law_deck_here", "_law_limit"] spDrawn := by
  refine F.ok sc__law_drawn_tree (fun vs H Q E h => ?_) (fun cdv A outer s H vs Q E hr h => ?_)
  · obtain ⟨D, n, lim, rfl, _⟩ := h
    rfl
  obtain ⟨D, n, lim, rfl, d, hn, l1, l2, q⟩ := h
  refine ⟨_, (pss_cons (ps_set (i := 2) sc__law_drawn_tree.nd rfl (.inl rfl) (pe_call D_law_pick.ok (hr.mono (by omega)) rfl D_law_pick.g D_law_pick.kp D_law_pick.b .nil pass0 (pa_cons (pv 0) (pa_cons (pe_lst (pa_cons pe_str (pa_cons pe_str (pa_cons pe_str (pa_cons pe_str pa_nil))))) pa_nil))))
    (pss_one (ps_ret (pe_call D_law_tree.ok (hr.mono (by omega)) rfl D_law_tree.g D_law_tree.kp D_law_tree.b .nil pass0 (pa_cons (pv 0) (pa_cons (pe_op op_add pe_int (pe_call D_law_draw.ok (hr.mono (by omega)) rfl D_law_draw.g D_law_draw.kp D_law_draw.b .nil pass0 (pa_cons (pv 0) (pa_cons (pv 1) pa_nil)))) (pa_cons (pe_call D_law_draw.ok (hr.mono (by omega)) rfl D_law_draw.g D_law_draw.kp D_law_draw.b .nil pass0 (pa_cons (pv 0) (pa_cons pe_int pa_nil))) (pa_cons (pv 2) pa_nil)))))))), ?_⟩
  refine ⟨_, rfl, (by show 4 ≤ sizeLine; decide), fun la nla => ?_⟩
  have q1 := same_new nla (.lst [V.str "a", V.str "ab", V.str "abcxyz", V.str "abcdefghijklmnopqrstuvwxyz"])
  refine ⟨D, n, _, rfl, d.same q1, by omega, .inr ⟨la, _, rfl, upd_same, d.new nla, List.cons_ne_nil _ _, by decide, fun x H1 hx d1 s1 => ?_⟩⟩
  obtain ⟨ls, rfl, lne, ll, lr⟩ := some_letters hx
  refine ⟨_, rfl, _, rfl, _, rfl, D, n + 1, _, rfl, d1, by omega, by omega, by omega, fun i H2 i0 i1 d2 s2 => ?_⟩
  refine ⟨_, _, rfl, rfl, _, rfl, D, n + 2, 5, rfl, d2, by omega, by decide, by decide, fun j H3 j0 j1 d3 s3 => ?_⟩
  refine ⟨_, rfl, ?_⟩
  have ei : (1 : Int) + i = ((1 + i.toNat : Nat) : Int) := by omega
  refine ⟨D, n + 3, 1 + i.toNat, j, ls, by rw [← ei]; rfl, d3, by omega, by omega, by omega, j0, by omega, lne, ll, fun v t H4 d4 s4 a4 z4 c4 => ?_⟩
  exact q v t _ H4 d4 (by omega) (((SameD.of q1).trans s1).trans ((s2.trans s3).trans s4)) a4 (by omega) (by omega) fun c hc => lr c (c4 c hc)
end
/-! ### walks -/
inductive Kd where
  | first
  | between
  | last
def Kd.str : Kd → Str
  | .first => "first"
  | .between => "between"
  | .last => "last"
def B.post : B → List Nat
  | .nil => []
  | .node l x r => l.post ++ r.post ++ [x]
def B.wk (k : Kd) (t : B) : List Nat := match k with
  | .first => t.pre
  | .between => t.mid
  | .last => t.post
def B.steps (k : Kd) : B → List Nat → List (List Nat × Nat)
  | .nil, _ => []
  | .node l x r, q => match k with
    | .first => [(q, x)] ++ l.steps k (q ++ [108]) ++ r.steps k (q ++ [114])
    | .between => l.steps k (q ++ [108]) ++ [(q, x)] ++ r.steps k (q ++ [114])
    | .last => l.steps k (q ++ [108]) ++ r.steps k (q ++ [114]) ++ [(q, x)]
theorem B.steps_wk (k : Kd) (t : B) : ∀ q : List Nat, (t.steps k q).map (·.2) = t.wk k := by
  induction t with
  | nil => intro q; cases k <;> rfl
  | node l x r h1 h2 =>
    intro q
    have a := h1 (q ++ [108])
    have b := h2 (q ++ [114])
    cases k
    · show ([(q, x)] ++ l.steps .first (q ++ [108]) ++ r.steps .first (q ++ [114])).map (·.2) = x :: (l.pre ++ r.pre)
      rw [List.map_append, List.map_append, a, b]; rfl
    · show (l.steps .between (q ++ [108]) ++ [(q, x)] ++ r.steps .between (q ++ [114])).map (·.2) = l.mid ++ x :: r.mid
      rw [List.map_append, List.map_append, a, b]
      show l.mid ++ [x] ++ r.mid = _
      rw [List.append_assoc]; rfl
    · show (l.steps .last (q ++ [108]) ++ r.steps .last (q ++ [114]) ++ [(q, x)]).map (·.2) = l.post ++ r.post ++ [x]
      rw [List.map_append, List.map_append, a, b]; rfl
theorem B.wk_len (k : Kd) (t : B) : (t.wk k).length = t.size := by
  cases k
  · exact t.pre_len
  · exact t.mid_len
  · show t.post.length = t.size
    induction t with
    | nil => rfl
    | node l x r h1 h2 =>
      show (l.post ++ r.post ++ [x]).length = l.size + 1 + r.size
      rw [List.length_append, List.length_append, h1, h2, List.length_cons, List.length_nil]
      omega
theorem B.steps_len (k : Kd) (t : B) (q : List Nat) : (t.steps k q).length = t.size := by
  rw [← t.wk_len k, ← t.steps_wk k q, List.length_map]
inductive StAt (H : Hp) : List V → List (List Nat × Nat) → Prop
  | nil : StAt H [] []
  | cons {a : Addr} {q : List Nat} {x : Nat} {vs : List V} {ss : List (List Nat × Nat)} : H a = some (.tup [.str (tx q), .str (ch x)]) → StAt H vs ss → StAt H (.ref a :: vs) ((q, x) :: ss)
theorem StAt.keep {H H' : Hp} (k : KeepT H H') {vs : List V} {ss : List (List Nat × Nat)} (h : StAt H vs ss) : StAt H' vs ss := by
  induction h with
  | nil => exact .nil
  | cons e _ ih => exact .cons (k _ _ e) ih
theorem StAt.same {H H' : Hp} (k : Same H H') {vs : List V} {ss : List (List Nat × Nat)} (h : StAt H vs ss) : StAt H' vs ss := h.keep (Tw.Same.keepT k)
theorem StAt.app {H : Hp} {vs us : List V} {ss ts : List (List Nat × Nat)} (h : StAt H vs ss) (g : StAt H us ts) : StAt H (vs ++ us) (ss ++ ts) := by
  induction h with
  | nil => exact g
  | cons e _ ih => exact .cons e ih
theorem StAt.len {H : Hp} {vs : List V} {ss : List (List Nat × Nat)} (h : StAt H vs ss) : vs.length = ss.length := by
  induction h with
  | nil => rfl
  | cons _ _ ih => rw [List.length_cons, List.length_cons, ih]
theorem StAt.get {H : Hp} {vs : List V} {ss : List (List Nat × Nat)} (h : StAt H vs ss) : ∀ {i : Nat} {v : V}, vs[i]? = some v → ∃ a q x, v = .ref a ∧ ss[i]? = some (q, x) ∧ H a = some (.tup [.str (tx q), .str (ch x)]) := by
  induction h with
  | nil => intro i v e; simp at e
  | cons e _ ih =>
    intro i v he
    cases i with
    | zero => cases he; exact ⟨_, _, _, rfl, rfl, e⟩
    | succ i => exact ih he
theorem str_l : Str.ofString "l" = tx [108] := by decide +kernel
theorem str_r : Str.ofString "r" = tx [114] := by decide +kernel
theorem str_0 : Str.ofString "" = tx [] := by decide +kernel

/-! ### parts and open paths -/
def B.at : B → List Nat → Option B
  | t, [] => some t
  | .nil, _ :: _ => none
  | .node l _ r, c :: w => if c = 108 then l.at w else if c = 114 then r.at w else none
theorem B.at_nil (t : B) : t.at [] = some t := by cases t <;> rfl
def B.op : B → List (List Nat)
  | .nil => [[]]
  | .node l _ r => l.op.map (108 :: ·) ++ r.op.map (114 :: ·)
theorem B.op_at (t : B) : ∀ w, w ∈ t.op ↔ t.at w = some .nil := by
  induction t with
  | nil =>
    intro w
    cases w with
    | nil => exact ⟨fun _ => rfl, fun _ => List.mem_singleton.mpr rfl⟩
    | cons c w => exact ⟨fun h => (by cases List.mem_singleton.mp h), fun h => (by cases h)⟩
  | node l x r h1 h2 =>
    intro w
    show w ∈ l.op.map (108 :: ·) ++ r.op.map (114 :: ·) ↔ _
    cases w with
    | nil =>
      refine ⟨fun h => ?_, fun h => (by cases h)⟩
      rcases List.mem_append.mp h with h | h
      · obtain ⟨_, _, e⟩ := List.mem_map.mp h; cases e
      · obtain ⟨_, _, e⟩ := List.mem_map.mp h; cases e
    | cons c w =>
      show _ ↔ (if c = 108 then l.at w else if c = 114 then r.at w else none) = some .nil
      rw [List.mem_append, List.mem_map, List.mem_map]
      by_cases c1 : c = 108
      · subst c1
        rw [if_pos rfl, ← h1 w]
        refine ⟨fun h => ?_, fun h => .inl ⟨w, h, rfl⟩⟩
        rcases h with ⟨u, hu, e⟩ | ⟨u, hu, e⟩
        · cases e; exact hu
        · cases e
      · rw [if_neg c1]
        by_cases c2 : c = 114
        · subst c2
          rw [if_pos rfl, ← h2 w]
          refine ⟨fun h => ?_, fun h => .inr ⟨w, h, rfl⟩⟩
          rcases h with ⟨u, hu, e⟩ | ⟨u, hu, e⟩
          · cases e
          · cases e; exact hu
        · rw [if_neg c2]
          refine ⟨fun h => ?_, fun h => (by cases h)⟩
          rcases h with ⟨u, hu, e⟩ | ⟨u, hu, e⟩
          · cases e; exact absurd rfl c1
          · cases e; exact absurd rfl c2
theorem nodup_cons_map (c : Nat) {L : List (List Nat)} (h : L.Nodup) : (L.map (c :: ·)).Nodup := List.Pairwise.map _ (fun _ _ ne e => ne (List.cons.inj e).2) h
theorem B.op_nodup (t : B) : t.op.Nodup := by
  induction t with
  | nil => exact List.nodup_cons.mpr ⟨by simp, List.nodup_nil⟩
  | node l x r h1 h2 =>
    show (l.op.map (108 :: ·) ++ r.op.map (114 :: ·)).Nodup
    refine List.nodup_append.mpr ⟨nodup_cons_map _ h1, nodup_cons_map _ h2, fun a ha b hb e => ?_⟩
    obtain ⟨_, _, rfl⟩ := List.mem_map.mp ha
    obtain ⟨_, _, rfl⟩ := List.mem_map.mp hb
    cases e
def isNode (o : Option B) : Prop := ∃ l x r, o = some (.node l x r)
theorem steps_mem (t : B) : ∀ (q p : List Nat), p ∈ (t.steps .first q).map (·.1) ↔ ∃ w, p = q ++ w ∧ isNode (t.at w) := by
  induction t with
  | nil =>
    intro q p
    refine ⟨fun h => (by cases h), ?_⟩
    rintro ⟨w, _, l, x, r, e⟩
    cases w with
    | nil => cases e
    | cons c w => cases e
  | node l x r h1 h2 =>
    intro q p
    show p ∈ ([(q, x)] ++ l.steps .first (q ++ [108]) ++ r.steps .first (q ++ [114])).map (·.1) ↔ _
    rw [List.map_append, List.map_append, List.mem_append, List.mem_append, h1, h2]
    constructor
    · rintro ((h | ⟨w, rfl, h⟩) | ⟨w, rfl, h⟩)
      · exact ⟨[], by rw [List.append_nil]; exact List.mem_singleton.mp h, _, _, _, rfl⟩
      · exact ⟨108 :: w, by rw [List.append_assoc]; rfl, h⟩
      · exact ⟨114 :: w, by rw [List.append_assoc]; rfl, h⟩
    · rintro ⟨w, rfl, h⟩
      cases w with
      | nil => exact .inl (.inl (List.mem_singleton.mpr (List.append_nil _)))
      | cons c w =>
        have h : isNode (if c = 108 then l.at w else if c = 114 then r.at w else none) := h
        by_cases c1 : c = 108
        · subst c1
          rw [if_pos rfl] at h
          exact .inl (.inr ⟨w, by rw [List.append_assoc]; rfl, h⟩)
        · rw [if_neg c1] at h
          by_cases c2 : c = 114
          · subst c2
            rw [if_pos rfl] at h
            exact .inr ⟨w, by rw [List.append_assoc]; rfl, h⟩
          · rw [if_neg c2] at h
            obtain ⟨_, _, _, e⟩ := h
            cases e
theorem steps_nodup (t : B) : ∀ q : List Nat, ((t.steps .first q).map (·.1)).Nodup := by
  induction t with
  | nil => intro q; exact List.nodup_nil
  | node l x r h1 h2 =>
    intro q
    show (([(q, x)] ++ l.steps .first (q ++ [108]) ++ r.steps .first (q ++ [114])).map (·.1)).Nodup
    rw [List.map_append, List.map_append]
    have ap : ∀ (c : Nat) (w : List Nat), q ≠ q ++ [c] ++ w := fun c w e => by
      have := congrArg List.length e
      simp only [List.length_append, List.length_cons, List.length_nil] at this
      omega
    refine List.nodup_append.mpr ⟨List.nodup_append.mpr ⟨List.nodup_cons.mpr ⟨by simp, List.nodup_nil⟩, h1 _, fun a ha b hb e => ?_⟩, h2 _, fun a ha b hb e => ?_⟩
    · obtain ⟨w, rfl, _⟩ := (steps_mem l _ b).mp hb
      rw [List.mem_singleton.mp ha] at e
      exact ap _ _ e
    · obtain ⟨w, rfl, _⟩ := (steps_mem r _ b).mp hb
      rcases List.mem_append.mp ha with ha | ha
      · rw [List.mem_singleton.mp ha] at e
        exact ap _ _ e
      · obtain ⟨u, rfl, _⟩ := (steps_mem l _ a).mp ha
        rw [List.append_assoc, List.append_assoc] at e
        have := List.append_cancel_left e
        cases this
theorem at_child {t : B} {w : List Nat} (h : isNode (t.at w)) {c : Nat} (hc : c = 108 ∨ c = 114) (hn : ¬ isNode (t.at (w ++ [c]))) : t.at (w ++ [c]) = some .nil := by
  induction w generalizing t with
  | nil =>
    obtain ⟨l, x, r, e⟩ := h
    have e : t = .node l x r := Option.some.inj ((B.at_nil t).symm.trans e)
    subst e
    rcases hc with rfl | rfl
    · show l.at [] = _
      cases l with
      | nil => rfl
      | node a b c => exact absurd ⟨a, b, c, rfl⟩ hn
    · show r.at [] = _
      cases r with
      | nil => rfl
      | node a b c => exact absurd ⟨a, b, c, rfl⟩ hn
  | cons d w ih =>
    cases t with
    | nil => obtain ⟨_, _, _, e⟩ := h; cases e
    | node l x r =>
      have h : isNode (if d = 108 then l.at w else if d = 114 then r.at w else none) := h
      have hn : ¬ isNode (if d = 108 then l.at (w ++ [c]) else if d = 114 then r.at (w ++ [c]) else none) := hn
      show (if d = 108 then l.at (w ++ [c]) else if d = 114 then r.at (w ++ [c]) else none) = _
      by_cases c1 : d = 108
      · rw [if_pos c1] at h hn ⊢; exact ih h hn
      · rw [if_neg c1] at h hn ⊢
        by_cases c2 : d = 114
        · rw [if_pos c2] at h hn ⊢; exact ih h hn
        · rw [if_neg c2] at h; obtain ⟨_, _, _, e⟩ := h; cases e
/-- the open paths below known ones, in the order of the known -/
def sidesOf (K : List (List Nat)) (q : List Nat) : List (List Nat) := [q ++ [108], q ++ [114]].filter fun p => decide (p ∉ K)
def opensOf (K : List (List Nat)) (L : List (List Nat)) : List (List Nat) := L.flatMap (sidesOf K)
theorem sides_mem {K : List (List Nat)} {q p : List Nat} : p ∈ sidesOf K q ↔ (∃ c, (c = 108 ∨ c = 114) ∧ p = q ++ [c]) ∧ p ∉ K := by
  unfold sidesOf
  rw [List.mem_filter, decide_eq_true_eq]
  constructor
  · rintro ⟨h, n⟩
    rcases List.mem_cons.mp h with rfl | h
    · exact ⟨⟨108, .inl rfl, rfl⟩, n⟩
    · rw [List.mem_singleton.mp h] at n ⊢
      exact ⟨⟨114, .inr rfl, rfl⟩, n⟩
  · rintro ⟨⟨c, rfl | rfl, rfl⟩, n⟩
    · exact ⟨List.mem_cons_self, n⟩
    · exact ⟨List.mem_cons_of_mem _ (List.mem_singleton.mpr rfl), n⟩
theorem opens_nodup (K : List (List Nat)) : ∀ {L : List (List Nat)}, L.Nodup → (opensOf K L).Nodup
  | [], _ => List.nodup_nil
  | q :: L, h => by
    obtain ⟨n1, n2⟩ := List.nodup_cons.mp h
    show (sidesOf K q ++ opensOf K L).Nodup
    refine List.nodup_append.mpr ⟨?_, opens_nodup K n2, fun a ha b hb e => ?_⟩
    · unfold sidesOf
      refine List.Nodup.sublist List.filter_sublist (List.nodup_cons.mpr ⟨fun z => ?_, List.nodup_cons.mpr ⟨by simp, List.nodup_nil⟩⟩)
      have := List.append_cancel_left (List.mem_singleton.mp z)
      cases this
    · obtain ⟨q2, hq2, hb⟩ := List.mem_flatMap.mp hb
      obtain ⟨⟨c, _, rfl⟩, _⟩ := sides_mem.mp ha
      obtain ⟨⟨d, _, e2⟩, _⟩ := sides_mem.mp hb
      rw [e2] at e
      have := (List.append_inj' e rfl).1
      exact n1 (this ▸ hq2)
theorem opens_open {t : B} {p : List Nat} (h : p ∈ opensOf ((t.steps .first []).map (·.1)) ((t.steps .first []).map (·.1))) : p ∈ t.op := by
  obtain ⟨q, hq, hp⟩ := List.mem_flatMap.mp h
  obtain ⟨⟨c, hc, rfl⟩, hn⟩ := sides_mem.mp hp
  obtain ⟨w, e, hw⟩ := (steps_mem t [] q).mp hq
  have e : q = w := e
  subst e
  exact (t.op_at _).mpr (at_child hw hc fun hn' => hn ((steps_mem t [] _).mpr ⟨q ++ [c], rfl, hn'⟩))
theorem opens_len (K : List (List Nat)) : ∀ L : List (List Nat), (opensOf K L).length ≤ 2 * L.length
  | [] => Nat.le_refl _
  | q :: L => by
    have h := opens_len K L
    have h2 : (sidesOf K q).length ≤ 2 := Nat.le_trans (List.length_filter_le _ _) (Nat.le_refl 2)
    show (sidesOf K q ++ opensOf K L).length ≤ 2 * (L.length + 1)
    rw [List.length_append]
    omega
theorem opens_words (K : List (List Nat)) {L : List (List Nat)} {n : Nat} (h : ∀ q ∈ L, q.length ≤ n) : ∀ p ∈ opensOf K L, p.length ≤ n + 1 := fun p hp => by
  obtain ⟨q, hq, hp⟩ := List.mem_flatMap.mp hp
  obtain ⟨⟨c, _, rfl⟩, _⟩ := sides_mem.mp hp
  have := h q hq
  rw [List.length_append]
  show q.length + 1 ≤ n + 1
  omega
/-! ### _law_nodes, _law_open -/
theorem iteS {x y : Str} {A B : Prop} (h : x = y) (a : A) : if decide (V.str x = V.str y) = true then A else B := by
  rw [if_pos (decide_eq_true (congrArg V.str h))]; exact a
theorem iteR {x y : Str} {A B : Prop} (h : x ≠ y) (b : B) : if decide (V.str x = V.str y) = true then A else B := by
  rw [if_neg (fun z => h (V.str.inj (of_decide_eq_true z)))]; exact b
theorem take_next {α : Type} {zs : List α} {i : Nat} {c : α} (h : zs[i]? = some c) : zs.take (i + 1) = zs.take i ++ [c] := by
  rw [List.take_succ, h]
  rfl
def spNodes (N : Nat) : Sp := fun vs H Q _ => ∃ (v : V) (t : B) (q : List Nat), vs = [v, vt q] ∧ BAt H v t ∧ t.size < N ∧ t.size + q.length ≤ 500 ∧
  ∀ (p : Addr) (us : List V) (H' : Hp), Same H H' → H' p = some (.lst us) → StAt H' us (t.steps .first q) → Q (.ref p) H'
theorem steps_words (t : B) : ∀ (q : List Nat), ∀ p ∈ (t.steps .first q).map (·.1), p.length ≤ q.length + t.size := by
  induction t with
  | nil => intro q p hp; cases hp
  | node l x r h1 h2 =>
    intro q p hp
    have hp : p ∈ ([(q, x)] ++ l.steps .first (q ++ [108]) ++ r.steps .first (q ++ [114])).map (·.1) := hp
    rw [List.map_append, List.map_append, List.mem_append, List.mem_append] at hp
    show p.length ≤ q.length + (l.size + 1 + r.size)
    rcases hp with (hp | hp) | hp
    · rw [List.mem_singleton.mp hp]
      show q.length ≤ _
      omega
    · have := h1 _ p hp
      rw [List.length_append] at this
      have e : [108].length = 1 := rfl
      omega
    · have := h2 _ p hp
      rw [List.length_append] at this
      have e : [114].length = 1 := rfl
      omega
theorem inV_texts (z : List Nat) (K : List (List Nat)) : inV (vt z) (K.map vt) = decide (z ∈ K) := by
  unfold inV
  by_cases h : z ∈ K
  · rw [decide_eq_true h, List.any_eq_true]
    exact ⟨vt z, List.mem_map.mpr ⟨z, h, rfl⟩, by show eqV (.str _) (.str _) = true; simp [eqV]⟩
  · rw [decide_eq_false h, Bool.eq_false_iff]
    intro e
    obtain ⟨y, hy, e⟩ := List.any_eq_true.mp e
    obtain ⟨k, hk, rfl⟩ := List.mem_map.mp hy
    have e : eqV (.str (tx k)) (.str (tx z)) = true := e
    simp only [eqV, beq_iff_eq] at e
    exact h (tx_inj e ▸ hk)
theorem flat_texts (K : List (List Nat)) : (K.map vt).all flatV = true := by
  rw [List.all_eq_true]
  intro x hx
  obtain ⟨k, _, rfl⟩ := List.mem_map.mp hx
  rfl
def spOpen : Sp := fun vs H Q _ => ∃ (v : V) (t : B), vs = [v] ∧ BAt H v t ∧ t.size ≤ 30 ∧
  ∀ (p : Addr) (H' : Hp), Same H H' → H p = none → H' p = some (.lst ((opensOf ((t.steps .first []).map (·.1)) ((t.steps .first []).map (·.1))).map vt)) → Q (.ref p) H'
section
variable {P : Program} {w : World} {K : PySem.W.Frag} {mg : Str → Option Value} {base : Heap} {f : Addr} {fd : FuncData}
theorem ok_nodes (F : Fun K "_law_nodes" "_law_nodes" s__law_nodes f fd) (b : Binds K fd ["_law_tree_here", "_law_path"] []) (g : mg "_law_nodes" = some (.ref f)) : ∀ N : Nat, FnOk P w K mg base CX0 N f fd ["_law_tree_here", "_law_path"] (spNodes N)
  | 0 => by
    have no : ∀ vs H Q E, ¬ spNodes 0 vs H Q E := fun vs H Q E h => by
      obtain ⟨v, t, q, _, _, h1, _⟩ := h
      omega
    exact ⟨fun vs H Q E h => absurd h (no vs H Q E), fun A outer s H args us vs Q E _ _ _ _ h => absurd h (no vs H Q E)⟩
  | N + 1 => by
    have Dself : Df P w K mg base N "_law_nodes" ["_law_tree_here", "_law_path"] (spNodes N) := ⟨f, fd, ok_nodes F b g N, b, F.kp, g⟩
    refine F.ok sc__law_nodes (fun vs H Q E h => ?_) (fun cdv A outer s H vs Q E hr h => ?_)
    · obtain ⟨v, t, q, rfl, _⟩ := h
      rfl
    obtain ⟨v, t, pth, rfl, hv, hn, hz, q⟩ := h
    refine ⟨_, (pss_cons (ps_if (pt_cmpR op_isN (pv 0) pe_non (nomark _))
      (pss_one (ps_ret (pe_lst pa_nil))) pss_nil)
    (pss_cons (ps_asg (pv 0) (pg_tup rfl (pgs_cons (pg_name (i := 2) sc__law_nodes.nd rfl (.inl rfl)) (pgs_cons (pg_name (i := 3) sc__law_nodes.nd rfl (.inl rfl)) (pgs_cons (pg_name (i := 4) sc__law_nodes.nd rfl (.inl rfl)) pgs_nil)))))
    (pss_one (ps_ret (pe_op op_cat (pe_op op_cat (pe_lst (pa_cons (pe_tup (pa_cons (pv 1) (pa_cons (pv 3) pa_nil))) pa_nil)) (pe_call Dself.ok (hr.mono (by omega)) rfl Dself.g Dself.kp Dself.b .nil pass0 (pa_cons (pv 2) (pa_cons (pe_op op_add_str (pv 1) pe_str) pa_nil)))) (pe_call Dself.ok (hr.mono (by omega)) rfl Dself.g Dself.kp Dself.b .nil pass0 (pa_cons (pv 4) (pa_cons (pe_op op_add_str (pv 1) pe_str) pa_nil)))))))), ?_⟩
    rcases hv.inv with ⟨rfl, rfl⟩ | ⟨a, l, r, x, tl, tr, rfl, rfl, ea, hl, hr'⟩
    · refine ⟨_, rfl, rfl, _, rfl, iteT ⟨(by show 0 ≤ sizeLine; decide), fun p np => ?_⟩⟩
      exact q p [] _ (same_new np _) upd_same .nil
    · refine ⟨_, rfl, rfl, _, rfl, iteF ?_⟩
      refine ⟨_, rfl, a, _, rfl, SqT.of ea, rfl, _, _, rfl, _, _, rfl, _, _, rfl, rfl, ?_⟩
      have sz : tl.size + 1 + tr.size < N + 1 := hn
      have sz2 : tl.size + 1 + tr.size + pth.length ≤ 500 := hz
      refine ⟨_, rfl, _, rfl, (by show 2 ≤ sizeLine; decide), fun tp ntp => ⟨(by show 1 ≤ sizeLine; decide), fun ro nro => ?_⟩⟩
      have q1 := same_new ntp (.tup [vt pth, .str (ch x)])
      have q2 := same_new nro (.lst [.ref tp])
      have etp := q2 _ _ (upd_same (H := H) (a := tp) (o := .tup [vt pth, .str (ch x)]))
      have ero := upd_same (H := upd H tp (.tup [vt pth, .str (ch x)])) (a := ro) (o := .lst [.ref tp])
      have s1 := q1.trans q2
      generalize upd (upd H tp (.tup [vt pth, .str (ch x)])) ro (.lst [.ref tp]) = H1 at etp ero s1
      refine ⟨_, rfl, _, rfl, _, _, rfl, rfl, ?_, ?_⟩
      · rw [str_l, tx_len, tx_len]; exact small (by show _ + 1 ≤ 1000; omega)
      rw [str_l, tx_app]
      refine ⟨l, tl, pth ++ [108], rfl, hl.same s1, by omega, by rw [List.length_append]; show _ + (_ + 1) ≤ 500; omega, fun lp ul H2 s2 elp stl => ?_⟩
      have ll := stl.len
      rw [B.steps_len] at ll
      have strt : StAt H2 [.ref tp] [(pth, x)] := .cons (s2 _ _ etp) .nil
      refine ⟨ro, lp, _, _, rfl, rfl, s2 _ _ ero, elp, small (by show 1 + _ ≤ 1000; omega), fun c1 n1 => ?_⟩
      have k1 := same_new n1 (.lst ([.ref tp] ++ ul))
      have s3 := (s1.trans s2).trans k1
      have st1 := (strt.app stl).same k1
      have ec1 := upd_same (H := H2) (a := c1) (o := .lst ([.ref tp] ++ ul))
      generalize upd H2 c1 (.lst ([.ref tp] ++ ul)) = H3 at s3 st1 ec1
      refine ⟨_, rfl, _, rfl, _, _, rfl, rfl, ?_, ?_⟩
      · rw [str_r, tx_len, tx_len]; exact small (by show _ + 1 ≤ 1000; omega)
      rw [str_r, tx_app]
      refine ⟨r, tr, pth ++ [114], rfl, hr'.same s3, by omega, by rw [List.length_append]; show _ + (_ + 1) ≤ 500; omega, fun rp ur H4 s4 erp str => ?_⟩
      have lr := str.len
      rw [B.steps_len] at lr
      refine ⟨c1, rp, _, _, rfl, rfl, s4 _ _ ec1, erp, small (by rw [List.length_append]; show 1 + _ + _ ≤ 1000; omega), fun c2 n2 => ?_⟩
      have k2 := same_new n2 (.lst ([.ref tp] ++ ul ++ ur))
      exact q c2 _ _ ((s3.trans s4).trans k2) upd_same (((st1.same s4).app str).same k2)
theorem ok_open (F : Fun K "_law_open" "_law_open" s__law_open f fd) (D_law_nodes : Df P w K mg base 40 "_law_nodes" ["_law_tree_here", "_law_path"] (spNodes 40)) : FnOk P w K mg base CX0 41 f fd ["_law_tree_here"] spOpen := by
  refine F.ok sc__law_open (fun vs H Q E h => ?_) (fun cdv A outer s H vs Q E hr h => ?_)
  · obtain ⟨v, t, rfl, _⟩ := h
    rfl
  obtain ⟨v, t, rfl, hv, hz, q⟩ := h
  refine ⟨_, (pss_cons (ps_set (i := 3) sc__law_open.nd rfl (.inr rfl) (pe_lc (own := [("_law_path", 1), ("_law_label", 2)]) (g := gTup K 2 (gCons (gName 1) (gCons (gName 2) gNil))) (tt := tYes) rfl sc__law_open.nd (pi_list (pe_call D_law_nodes.ok (hr.mono (by omega)) rfl D_law_nodes.g D_law_nodes.kp D_law_nodes.b .nil pass0 (pa_cons (pv 0) (pa_cons pe_str pa_nil)))) (blkOk_by (N := ["_law_tree_here", "_law_path", "_law_label", "_law_known", "_law_found", "_law_side"]) (sc := defScope s__law_open) (by decide +kernel)) (fun _ _ _ _ _ => (pg_tup rfl (pgs_cons (pg_name (i := 1) sc__law_open.nd rfl (.inl rfl)) (pgs_cons (pg_name (i := 2) sc__law_open.nd rfl (.inl rfl)) pgs_nil)))) (fun _ _ _ _ _ => pts_nil) (fun _ _ _ _ _ => (pv 1))))
    (pss_cons (ps_set (i := 4) sc__law_open.nd rfl (.inl rfl) (pe_lst pa_nil))
    (pss_cons (ps_for PassesOwn.never rfl (pi_list (pv 3)) (pg_name (i := 1) sc__law_open.nd rfl (.inr rfl))
      (pss_one (ps_expr (pe_bm PySem.F.plainAttrs_list PySem.F.slot_list_extend PySem.F.type_list_extend mt_extend (pv 4) (pa_cons (pe_lc (own := [("_law_side", 5)]) (g := gName 5) rfl sc__law_open.nd (pi_str pe_str) (blkOk_by (N := ["_law_tree_here", "_law_path", "_law_label", "_law_known", "_law_found", "_law_side"]) (sc := defScope s__law_open) (by decide +kernel)) (fun _ _ _ _ _ => (pg_name (i := 5) sc__law_open.nd rfl (.inl rfl))) (fun _ _ _ _ _ => pts_one (pt_cmpR (show OpR _ (compareOp .NotIn) (rIn K true) from op_notIn_seq) (pe_op op_add_str (pv 1) (pv 5)) (pv 3) (by rfl))) (fun _ _ _ _ _ => (pe_op op_add_str (pv 1) (pv 5)))) pa_nil)))))
    (pss_one (ps_ret (pv 4)))))), ?_⟩
  have wd := steps_words t []
  have wl : ((t.steps .first []).map (·.1)).length = t.size := by rw [List.length_map, B.steps_len]
  generalize hPs : (t.steps .first []).map (·.1) = Ps at q wd wl
  refine ⟨_, rfl, v, t, [], by rw [str_0]; rfl, hv, by omega, by show t.size + 0 ≤ 500; omega, fun p us H1 s1 ep st => ?_⟩
  refine ⟨p, rfl, ⟨_, SqL.of ep⟩, fun D nD => ?_⟩
  have k1 := same_new nD (.lst [])
  have hl := st.len
  rw [B.steps_len] at hl
  refine lc_list (K := K) (a := p) (xs := us) (fun i H' => Same H1 H' ∧ H' D = some (.lst ((Ps.take i).map vt))) ⟨k1, upd_same⟩ (fun i H' _ hp => SqL.of (hp.1 _ _ ep)) (fun i x H' hx hp => ?_) (fun H2 hp => ?_)
  · obtain ⟨sm, ed⟩ := hp
    obtain ⟨a, pq, c, rfl, es, ea⟩ := st.get hx
    have hc : Ps[i]? = some pq := by rw [← hPs, List.getElem?_map, es]; rfl
    have hi := (List.getElem?_eq_some_iff.mp hx).1
    refine ⟨a, _, rfl, SqT.of (sm _ _ ea), rfl, _, _, rfl, _, _, rfl, rfl, rfl, kept ?_⟩
    refine ⟨_, rfl, _, ed, ?_, fun b o e => ?_, ?_⟩
    · rw [List.length_map, List.length_take]; exact small1000 (by omega)
    · rw [upd_ne (ne_of_none e nD)]; exact sm _ _ e
    · rw [upd_same, take_next hc, List.map_append]; rfl
  · obtain ⟨sm, ed⟩ := hp
    rw [List.take_of_length_le (by omega)] at ed
    refine ⟨(by show 0 ≤ sizeLine; decide), fun fa nfa => ?_⟩
    have k2 := same_new nfa (.lst [])
    have nDf : D ≠ fa := ne_of_none ed nfa
    have s2 := (s1.trans sm).trans k2
    have ed2 := k2 _ _ ed
    have nfaH : H fa = none := by
      cases z : H fa with
      | none => rfl
      | some o => rw [(s1.trans sm) _ _ z] at nfa; cases nfa
    have efa := upd_same (H := H2) (a := fa) (o := .lst [])
    generalize upd H2 fa (.lst []) = H3 at s2 ed2 efa
    refine ⟨_, rfl, D, rfl, ⟨_, SqL.of ed2⟩, ?_⟩
    refine for_list (K := K) (a := D) (xs := Ps.map vt) (fun i σ H' => ∃ o1, σ = [some v, o1, none, some (.ref D), some (.ref fa), none] ∧ Same H H' ∧ H' D = some (.lst (Ps.map vt)) ∧ H' fa = some (.lst ((opensOf Ps (Ps.take i)).map vt))) ⟨_, rfl, s2, ed2, efa⟩ (fun i σ H' _ hp => by obtain ⟨_, _, _, h, _⟩ := hp; exact SqL.of h) (fun i x σ H' hx hp => ?_) (fun σ H' hp => ?_)
    · obtain ⟨o1, rfl, s', eD', ef'⟩ := hp
      rw [List.getElem?_map] at hx
      obtain ⟨pq, hpq, rfl⟩ := Option.map_eq_some_iff.mp hx
      have hi := (List.getElem?_eq_some_iff.mp hpq).1
      have pl := wd pq (List.mem_of_getElem? hpq)
      have pl : pq.length ≤ 30 := by
        have e : ([] : List Nat).length = 0 := rfl
        omega
      refine ⟨_, rfl, .inl ⟨rfl, _, SqL.of ef'⟩, _, rfl, fun L nL => ?_⟩
      have k4 := same_new nL (.lst [])
      have elr : (Str.ofString "lr").cps.toList = [108, 114] := by decide +kernel
      refine lc_text (x := Str.ofString "lr") (fun j H'' => Same H' H'' ∧ H'' L = some (.lst ((([pq ++ [108], pq ++ [114]].take j).filter fun p => decide (p ∉ Ps)).map vt))) ⟨k4, upd_same⟩ (fun j c H'' hc hp => ?_) (fun H'' hp => ?_)
      · obtain ⟨s5, eL⟩ := hp
        rw [elr] at hc
        have hj : j < 2 := (List.getElem?_eq_some_iff.mp hc).1
        have hcj : [pq ++ [108], pq ++ [114]][j]? = some (pq ++ [c]) := by
          match j, hj, hc with
          | 0, _, hc => cases hc; rfl
          | 1, _, hc => cases hc; rfl
        have ec : tx pq ++ ch c = tx (pq ++ [c]) := tx_app pq [c]
        have szc : (tx pq).length + (ch c).length ≤ sizeLine := small (by rw [tx_len]; show _ + 1 ≤ 1000; omega)
        refine ⟨rfl, ?_⟩
        refine ⟨_, rfl, _, rfl, _, _, rfl, rfl, szc, ?_⟩
        rw [ec]
        refine ⟨_, rfl, D, _, rfl, .inl (SqL.of (s5 _ _ eD')), rfl, flat_texts Ps, _, rfl, ?_⟩
        rw [if_pos rfl, inV_texts, take_next hcj, List.filter_append]
        by_cases hm : pq ++ [c] ∈ Ps
        · rw [decide_eq_true hm, List.filter_cons_of_neg (by simpa using hm), List.filter_nil, List.append_nil]
          exact iteF ⟨s5, eL⟩
        · rw [decide_eq_false hm, List.filter_cons_of_pos (by simpa using hm), List.filter_nil]
          refine iteT ⟨_, rfl, _, rfl, _, _, rfl, rfl, szc, ?_⟩
          rw [ec]
          refine ⟨_, eL, ?_, fun b o e => ?_, ?_⟩
          · rw [List.length_map]
            exact Nat.lt_of_le_of_lt (Nat.le_trans (List.length_filter_le _ _) (Nat.le_trans (List.length_take_le _ _) (by show j ≤ 2; omega))) (by decide)
          · rw [upd_ne (ne_of_none e nL)]; exact s5 _ _ e
          · rw [upd_same, List.map_append]; rfl
      · obtain ⟨s5, eL⟩ := hp
        have eL : H'' L = some (.lst ((sidesOf Ps pq).map vt)) := by
          rw [eL, elr]
          rfl
        have ol := opens_len Ps (Ps.take i)
        rw [List.length_take] at ol
        have sl : (sidesOf Ps pq).length ≤ 2 := Nat.le_trans (List.length_filter_le _ _) (Nat.le_refl 2)
        have eD5 := s5 _ _ eD'
        have ef5 := s5 _ _ ef'
        refine ⟨fa, L, _, _, rfl, rfl, ef5, eL, ?_, _, rfl, fun b o e => ?_, ?_, ?_⟩
        · rw [List.length_map, List.length_map]; exact small (by omega)
        · rw [upd_ne (ne_of_none e nfaH)]; exact s5 _ _ (s' _ _ e)
        · rw [upd_ne nDf]; exact eD5
        · rw [upd_same, take_next hpq]
          unfold opensOf
          rw [List.flatMap_append, List.map_append]
          show _ = some (HO.lst (_ ++ List.map vt (sidesOf Ps pq ++ [])))
          rw [List.append_nil]
    · obtain ⟨o1, rfl, s', eD', ef'⟩ := hp
      rw [List.length_map, List.take_length] at ef'
      exact ⟨_, rfl, q fa H' s' nfaH ef'⟩
end
/-! ### sorted(xs), xs a list of (text, int) -/
section
variable {X : Cx}
def shTI : Nat → Bool := fun i => i == 0
def rSortTI (K : PySem.W.Frag) : List V → Hp → VK → Prop := fun vs H Q => ∃ (a : Addr) (xs : List V), vs = [V.ref a] ∧ SqL K H a xs ∧ (∀ x ∈ xs, ∃ (t : Addr) (k : Str) (i : Int), x = .ref t ∧ H t = some (.tup [.str k, .int i])) ∧
  ∀ (ys : List V) (p : Addr), ys.Perm xs → H p = none → Q (.ref p) (upd H p (.lst ys))
theorem tups_of {h : Heap} {shape : Nat → Bool} : ∀ {vs : List Value}, (∀ v ∈ vs, ∃ f, PyProof.Rows.TupOf h shape v f) → ∃ fs, PyProof.Rows.TupsOf h shape vs fs
  | [], _ => ⟨[], .nil⟩
  | v :: vs, H => by
    obtain ⟨f, hf⟩ := H v List.mem_cons_self
    obtain ⟨fs, hfs⟩ := tups_of (vs := vs) fun u hu => H u (List.mem_cons_of_mem _ hu)
    exact ⟨f :: fs, .cons hf hfs⟩
theorem cr_sortTI : CallR X (.builtin "sorted") (rSortTI X.K) := by
  intro pins s σ H vs us Q I r h
  obtain ⟨a, xs, rfl, hs, hx, q⟩ := h
  obtain ⟨its, rv, hl, hz⟩ := I.list hs
  obtain ⟨u, rfl, ru⟩ := vals1 r
  obtain rfl : u = Value.ref a := ru
  obtain ⟨e1, e2⟩ := refs_back rv fun x m => by
    obtain ⟨t, _, _, e, _⟩ := hx x m
    exact ⟨t, e⟩
  have raw : ∀ v ∈ its, ∃ (t : Addr) (o : Obj) (k : Str) (i : Int) (t1 t2 : Tok) (n : Nat), v = .ref t ∧ s.heap.get? t = some o ∧ o.cls = .type "tuple" ∧ o.data = .seq #[.str k t1, .int i t2] n := fun v hv => by
    obtain ⟨t, rfl⟩ := e2 v hv
    have hm : V.ref t ∈ xs := by rw [e1]; exact List.mem_map.mpr ⟨_, hv, rfl⟩
    obtain ⟨t', k, i, e, ht⟩ := hx _ hm
    cases e
    obtain ⟨_, its2, r2, o, ho, hc, n, hd⟩ := I.hok _ _ ht
    obtain ⟨u1, u2, rfl, ri, rj⟩ := vals2 r2
    obtain ⟨t1, rfl⟩ := ri
    obtain ⟨t2, rfl⟩ := rj
    exact ⟨t, o, k, i, t1, t2, n, rfl, ho, hc, hd⟩
  obtain ⟨fs, hfs⟩ := tups_of (h := s.heap) (shape := shTI) (vs := its) fun v hv => by
    obtain ⟨t, o, k, i, t1, t2, n, rfl, ho, hc, hd⟩ := raw v hv
    exact ⟨.str k t1, t, o, _, n, rfl, ho, hc, hd, rfl, (fun e => absurd e (by decide)), fun _ => ⟨k, t1, rfl⟩⟩
  refine PyProof.Rows.G.sorted_tups (shape := shTI) hl.isList hfs (fun v hv => ?_) (by rw [← rv.length]; exact hz) fun st' hp _ _ => ?_
  · obtain ⟨t, o, k, i, t1, t2, n, rfl, ho, hc, hd⟩ := raw v hv
    exact ⟨[Sum.inr k.cps.toList, Sum.inl i], PyProof.Rows.G.tupKeyC_of ho hc hd rfl⟩
  · generalize hout : (arrOf st').map (·.2) = out
    have hp' : out.toList.Perm its := by
      rw [← hout, Array.toList_map]
      have e := (Array.perm_iff_toList_perm.mp hp).map Prod.snd
      rw [pairsOf_toList, List.map_snd_zip (Nat.le_refl _)] at e
      exact e
    have h3 : ∀ u ∈ out.toList, ∃ a, u = Value.ref a := fun u hu => e2 u (hp'.mem_iff.mp hu)
    obtain ⟨ep, he'⟩ := PyProof.Rows.sortedAll_at s.heap its out
    have hpp : (out.toList.map backV).Perm xs := by rw [e1]; exact hp'.map backV
    have hlen : (out.toList.map backV).length ≤ sizeLine := by rw [hpp.length_eq]; exact hz
    exact ⟨.ref _, upd H (s.heap.objs.size + 1) (.lst (out.toList.map backV)), I.laid (t' := s.toks) (fun _ _ => PyProof.Rows.sortedAll_old) (Nat.le_succ _) ⟨hlen, out.toList, ep, vals_back h3, he'⟩, rfl, q _ _ hpp (I.hok.fresh (Nat.le_succ _))⟩
end
/-! ### nests, _law_nest -/
abbrev Lk := List Nat × Nat
abbrev En := B × List Lk
inductive LkAt (H : Hp) : List V → List Lk → Prop
  | nil : LkAt H [] []
  | cons {a : Addr} {p : List Nat} {i : Nat} {vs : List V} {ls : List Lk} : H a = some (.tup [vt p, .int (i : Int)]) → LkAt H vs ls → LkAt H (.ref a :: vs) ((p, i) :: ls)
theorem LkAt.keep {H H' : Hp} (k : KeepT H H') {vs : List V} {ls : List Lk} (h : LkAt H vs ls) : LkAt H' vs ls := by
  induction h with
  | nil => exact .nil
  | cons e _ ih => exact .cons (k _ _ e) ih
theorem LkAt.len {H : Hp} {vs : List V} {ls : List Lk} (h : LkAt H vs ls) : vs.length = ls.length := by
  induction h with
  | nil => rfl
  | cons _ _ ih => rw [List.length_cons, List.length_cons, ih]
theorem LkAt.snoc {H : Hp} {vs : List V} {ls : List Lk} (h : LkAt H vs ls) {a : Addr} {p : List Nat} {i : Nat} (e : H a = some (.tup [vt p, .int (i : Int)])) : LkAt H (vs ++ [.ref a]) (ls ++ [(p, i)]) := by
  induction h with
  | nil => exact .cons e .nil
  | cons e' _ ih => exact .cons e' ih
theorem LkAt.mem {H : Hp} {vs : List V} {ls : List Lk} (h : LkAt H vs ls) : ∀ x ∈ vs, ∃ (t : Addr) (k : Str) (i : Int), x = .ref t ∧ H t = some (.tup [.str k, .int i]) := by
  induction h with
  | nil => intro x hx; cases hx
  | @cons a p i _ _ e _ ih =>
    intro x hx
    rcases List.mem_cons.mp hx with rfl | hx
    · exact ⟨a, _, _, rfl, e⟩
    · exact ih x hx
theorem LkAt.perm {H : Hp} {vs us : List V} (p : us.Perm vs) : ∀ {ls : List Lk}, LkAt H vs ls → ∃ ks, LkAt H us ks ∧ ks.Perm ls := by
  induction p with
  | nil => intro ls h; exact ⟨ls, h, .refl _⟩
  | cons x _ ih =>
    intro ls h
    cases h with
    | cons e h =>
      obtain ⟨ks, h1, h2⟩ := ih h
      exact ⟨_, .cons e h1, h2.cons _⟩
  | swap x y l =>
    intro ls h
    cases h with
    | cons e h =>
      cases h with
      | cons e' h => exact ⟨_, .cons e' (.cons e h), .swap _ _ _⟩
  | trans _ _ ih1 ih2 =>
    intro ls h
    obtain ⟨k1, a1, b1⟩ := ih2 h
    obtain ⟨k2, a2, b2⟩ := ih1 a1
    exact ⟨k2, a2, b2.trans b1⟩
inductive EnAt (H : Hp) : List V → List En → Prop
  | nil : EnAt H [] []
  | cons {a la : Addr} {tv : V} {us : List V} {t : B} {ls : List Lk} {vs : List V} {es : List En} : H a = some (.tup [tv, .ref la]) → BAt H tv t → H la = some (.tup us) → LkAt H us ls → EnAt H vs es → EnAt H (.ref a :: vs) ((t, ls) :: es)
theorem EnAt.keep {H H' : Hp} (k : KeepT H H') {vs : List V} {es : List En} (h : EnAt H vs es) : EnAt H' vs es := by
  induction h with
  | nil => exact .nil
  | cons e1 e2 e3 e4 _ ih => exact .cons (k _ _ e1) (e2.keep k) (k _ _ e3) (e4.keep k) ih
theorem EnAt.len {H : Hp} {vs : List V} {es : List En} (h : EnAt H vs es) : vs.length = es.length := by
  induction h with
  | nil => rfl
  | cons _ _ _ _ _ ih => rw [List.length_cons, List.length_cons, ih]
theorem EnAt.snoc {H : Hp} {vs : List V} {es : List En} (h : EnAt H vs es) {a la : Addr} {tv : V} {us : List V} {t : B} {ls : List Lk} (e1 : H a = some (.tup [tv, .ref la])) (e2 : BAt H tv t) (e3 : H la = some (.tup us)) (e4 : LkAt H us ls) :
    EnAt H (vs ++ [.ref a]) (es ++ [(t, ls)]) := by
  induction h with
  | nil => exact .cons e1 e2 e3 e4 .nil
  | cons a1 a2 a3 a4 _ ih => exact .cons a1 a2 a3 a4 ih
structure GoodE (lim n : Nat) (e : En) : Prop where
  s1 : 1 ≤ e.1.size
  s2 : e.1.size ≤ lim
  lt : ltB e.1
  nd : (e.2.map (·.1)).Nodup
  op : ∀ l ∈ e.2, l.1 ∈ e.1.op
  ix : ∀ l ∈ e.2, l.2 < n
def GoodN (lim : Nat) (es : List En) : Prop := ∀ i e, es[i]? = some e → GoodE lim i e
theorem GoodN.snoc {lim : Nat} {es : List En} (h : GoodN lim es) {e : En} (g : GoodE lim es.length e) : GoodN lim (es ++ [e]) := by
  intro i x hx
  rw [List.getElem?_append] at hx
  split at hx
  · exact h i x hx
  · rename_i hi
    have h0 : i - es.length = 0 := by
      have := (List.getElem?_eq_some_iff.mp hx).1
      rw [List.length_cons, List.length_nil] at this
      omega
    rw [h0] at hx
    cases hx
    have : i = es.length := by omega
    rw [this]
    exact g
theorem perm_vt {zs : List V} {P : List (List Nat)} (h : zs.Perm (P.map vt)) : ∃ Z : List (List Nat), zs = Z.map vt ∧ Z.Perm P := by
  generalize hL : P.map vt = L at h
  induction h generalizing P with
  | nil => exact ⟨[], rfl, by rw [List.map_eq_nil_iff.mp hL]⟩
  | cons x _ ih =>
    cases P with
    | nil => cases hL
    | cons p P =>
      cases hL
      obtain ⟨Z, rfl, pz⟩ := ih rfl
      exact ⟨p :: Z, rfl, pz.cons p⟩
  | swap x y l =>
    match P, hL with
    | p :: p' :: P, hL =>
      cases hL
      exact ⟨p' :: p :: P, rfl, .swap _ _ _⟩
  | trans _ _ ih1 ih2 =>
    obtain ⟨Z, rfl, pz⟩ := ih2 hL
    obtain ⟨Z', rfl, pz'⟩ := ih1 rfl
    exact ⟨Z', rfl, pz'.trans pz⟩
def spNest : Sp := fun vs H Q _ => ∃ (D : Deck) (n ent lim : Nat) (few : Int), vs = [.ref D.dk, .int (ent : Int), .int (lim : Int), .int few] ∧ DeckOk H D n ∧ n + 4000 ≤ 1000000 ∧ 1 ≤ ent ∧ ent ≤ 20 ∧ 1 ≤ lim ∧ lim ≤ 12 ∧
  ∀ (p : Addr) (us : List V) (es : List En) (n' : Nat) (H' : Hp), DeckOk H' D n' → n' ≤ n + 4000 → SameD D H H' → H' p = some (.tup us) → EnAt H' us es → GoodN lim es → 1 ≤ es.length → es.length ≤ ent → Q (.ref p) H'
section
variable {P : Program} {w : World} {K : PySem.W.Frag} {mg : Str → Option Value} {base : Heap} {f : Addr} {fd : FuncData}
theorem ok_nest (F : Fun K "_law_nest" "_law_nest" s__law_nest f fd) (M : Mgs mg) (D_law_draw : Df P w K mg base 1 "_law_draw" ["_law_deck_here", "_law_many"] spDraw) (D_law_pick : Df P w K mg base 2 "_law_pick" ["_law_deck_here", "_law_items"] (spPick K)) (D_law_mixed : Df P w K mg base 2 "_law_mixed" ["_law_deck_here", "_law_items"] spMixed)
    (D_law_drawn_tree : Df P w K mg base 34 "_law_drawn_tree" ["_law_deck_here", "_law_limit"] spDrawn) (D_law_open : Df P w K mg base 41 "_law_open" ["_law_tree_here"] spOpen) : FnOk P w K mg base CX0 42 f fd ["_law_deck_here", "_law_entries", "_law_limit", "_law_few"] spNest := by
  refine F.ok sc__law_nest (fun vs H Q E h => ?_) (fun cdv A outer s H vs Q E hr h => ?_)
  · obtain ⟨D, n, ent, lim, few, rfl, _⟩ := h
    rfl
  obtain ⟨D, n, ent, lim, few, rfl, d, hn, e1, e20, m1, m12, q⟩ := h
  refine ⟨_, (pss_cons (ps_set (i := 4) sc__law_nest.nd rfl (.inl rfl) (pe_lst pa_nil))
    (pss_cons (ps_for PassesOwn.never rfl (pi_range1 rfl M.range (pa_cons (pe_op op_add pe_int (pe_call D_law_draw.ok (hr.mono (by omega)) rfl D_law_draw.g D_law_draw.kp D_law_draw.b .nil pass0 (pa_cons (pv 0) (pa_cons (pv 1) pa_nil)))) pa_nil)) (pg_name (i := 5) sc__law_nest.nd rfl (.inl rfl))
      (pss_cons (ps_set (i := 6) sc__law_nest.nd rfl (.inl rfl) (pe_call D_law_drawn_tree.ok (hr.mono (by omega)) rfl D_law_drawn_tree.g D_law_drawn_tree.kp D_law_drawn_tree.b .nil pass0 (pa_cons (pv 0) (pa_cons (pv 2) pa_nil))))
    (pss_cons (ps_set (i := 7) sc__law_nest.nd rfl (.inl rfl) (pe_lst pa_nil))
    (pss_cons (ps_for PassesOwn.never rfl (pi_list (pe_call D_law_mixed.ok (hr.mono (by omega)) rfl D_law_mixed.g D_law_mixed.kp D_law_mixed.b .nil pass0 (pa_cons (pv 0) (pa_cons (pe_call D_law_open.ok (hr.mono (by omega)) rfl D_law_open.g D_law_open.kp D_law_open.b .nil pass0 (pa_cons (pv 6) pa_nil)) pa_nil)))) (pg_name (i := 8) sc__law_nest.nd rfl (.inl rfl))
      (pss_cons (ps_set (i := 9) sc__law_nest.nd rfl (.inl rfl) (pe_call D_law_pick.ok (hr.mono (by omega)) rfl D_law_pick.g D_law_pick.kp D_law_pick.b .nil pass0 (pa_cons (pv 0) (pa_cons (pe_lst (pa_cons (pe_op op_sub (pv 5) pe_int) (pa_cons (pe_op op_sub (pe_call D_law_draw.ok (hr.mono (by omega)) rfl D_law_draw.g D_law_draw.kp D_law_draw.b .nil pass0 (pa_cons (pv 0) (pa_cons (pe_op op_add (pv 5) pe_int) pa_nil))) pe_int) pa_nil))) pa_nil))))
    (pss_one (ps_if (PW.pt (pw_and (pt_cmpR op_ge (pv 9) pe_int (nomark _)) (pw_and1 (pt_cmpR op_ge (pe_call D_law_draw.ok (hr.mono (by omega)) rfl D_law_draw.g D_law_draw.kp D_law_draw.b .nil pass0 (pa_cons (pv 0) (pa_cons pe_int pa_nil))) (pv 3) (nomark _)))))
      (pss_one (ps_expr (pe_bm PySem.F.plainAttrs_list PySem.F.slot_list_append PySem.F.type_list_append mt_append (pv 7) (pa_cons (pe_tup (pa_cons (pv 8) (pa_cons (pv 9) pa_nil))) pa_nil)))) pss_nil))))
    (pss_one (ps_expr (pe_bm PySem.F.plainAttrs_list PySem.F.slot_list_append PySem.F.type_list_append mt_append (pv 4) (pa_cons (pe_tup (pa_cons (pv 6) (pa_cons (pe_callTy call_tuple_of rfl M.tuple (by decide +kernel) (pa_cons (pe_callB cr_sortTI rfl M.sorted (by decide +kernel) (pa_cons (pv 7) pa_nil)) pa_nil)) pa_nil))) pa_nil))))))))
    (pss_one (ps_ret (pe_callTy call_tuple_of rfl M.tuple (by decide +kernel) (pa_cons (pv 4) pa_nil)))))), ?_⟩
  refine ⟨(by show 0 ≤ sizeLine; decide), fun pf npf => ?_⟩
  have k1 := same_new npf (.lst [])
  have of := d.new npf
  have ef := upd_same (H := H) (a := pf) (o := .lst [])
  have d1 := d.same k1
  generalize upd H pf (.lst []) = H1 at k1 ef d1 ⊢
  refine ⟨_, rfl, _, rfl, D, n, _, rfl, d1, by omega, by omega, by omega, fun i H2 i0 i1 d2 s2 => ?_⟩
  refine ⟨_, _, rfl, rfl, _, rfl, by omega, by omega, ?_⟩
  refine for_range (lo := 0) (n := (1 + i).toNat) (fun k σ H' => ∃ (us : List V) (es : List En) (n' : Nat) (o5 o6 o7 o8 o9 : Option V), σ = [some (.ref D.dk), some (.int (ent : Int)), some (.int (lim : Int)), some (.int few), some (.ref pf), o5, o6, o7, o8, o9] ∧
    DeckOk H' D n' ∧ n' ≤ n + 1 + 150 * k ∧ SameD D H H' ∧ H' pf = some (.lst us) ∧ EnAt H' us es ∧ GoodN lim es ∧ es.length = k) ⟨[], [], n + 1, _, _, _, _, _, rfl, d2, by omega, (SameD.of k1).trans s2, s2.at of ef, .nil, (fun i e h => by cases h), rfl⟩ (fun k σ H3 hk hp => ?_) (fun σ H3 hp => ?_)
  · obtain ⟨us, es, n3, o5, o6, o7, o8, o9, rfl, d3, n3b, s3, ef3, en3, g3, l3⟩ := hp
    have hk20 : k < 20 := by omega
    refine ⟨_, rfl, _, rfl, D, n3, lim, rfl, d3, by omega, m1, by omega, fun tv t n4 H4 d4 n4b s4 at4 z1 z2 ltb => ?_⟩
    refine ⟨(by show 0 ≤ sizeLine; decide), fun pl npl => ?_⟩
    have k5 := same_new npl (.lst [])
    have ol := d4.new npl
    have el := upd_same (H := H4) (a := pl) (o := .lst [])
    have d5 := d4.same k5
    have at5 := at4.same k5
    have s5 := (s3.trans s4).trans (SameD.of k5)
    have nplH : H pl = none := (s3.trans s4).free d4 npl
    have nfl : pf ≠ pl := ne_of_none (s4.at of ef3) npl
    have ef5 : upd H4 pl (.lst []) pf = some (.lst us) := k5 _ _ (s4.at of ef3)
    have en5 : EnAt (upd H4 pl (.lst [])) us es := (en3.keep (s4.keepT d3)).keep (Tw.Same.keepT k5)
    generalize upd H4 pl (.lst []) = H5 at k5 el d5 at5 s5 ef5 en5 ⊢
    have ndO := opens_nodup ((t.steps .first []).map (·.1)) (steps_nodup t [])
    have lenO := opens_len ((t.steps .first []).map (·.1)) ((t.steps .first []).map (·.1))
    rw [List.length_map, B.steps_len] at lenO
    have opO := fun p => @opens_open t p
    refine ⟨_, rfl, _, rfl, tv, t, rfl, at5, by omega, fun po H6 s6 npo epo => ?_⟩
    generalize opensOf ((t.steps .first []).map (·.1)) ((t.steps .first []).map (·.1)) = O at ndO lenO opO epo
    have d6 := d5.same s6
    have oo : Off D po := by
      refine d5.new npo
    refine ⟨D, n4, po, _, rfl, d6, by rw [List.length_map]; omega, epo, oo, by rw [List.length_map]; omega, fun pm zs H7 d7 s7 npm epm perm om => ?_⟩
    rw [List.length_map] at d7
    obtain ⟨Z, rfl, pz⟩ := perm_vt perm
    have zl := pz.length_eq
    have s67 := (SameD.of (D := D) s6).trans s7
    have nlm : pl ≠ pm := ne_of_none (s6 _ _ el) npm
    refine ⟨pm, rfl, ⟨_, SqL.of epm⟩, ?_⟩
    refine for_list (K := K) (a := pm) (xs := Z.map vt) (fun j σ H' => ∃ (vs : List V) (ls : List Lk) (n' : Nat) (o8 o9 : Option V), σ = [some (.ref D.dk), some (.int (ent : Int)), some (.int (lim : Int)), some (.int few), some (.ref pf), some (.int (0 + (k : Int))), some tv, some (.ref pl), o8, o9] ∧
      DeckOk H' D n' ∧ n' ≤ n4 + O.length + 3 * j ∧ SameD D H H' ∧ KeepT H5 H' ∧ H' pm = some (.lst (Z.map vt)) ∧ H' pf = some (.lst us) ∧ H' pl = some (.lst vs) ∧ LkAt H' vs ls ∧ ls.length ≤ j ∧ (ls.map (·.1)).Sublist (Z.take j) ∧ ∀ l ∈ ls, l.2 < k)
      ⟨[], [], _, _, _, rfl, d7, by omega, s5.trans s67, s67.keepT d5, epm, s67.at of ef5, s67.at ol el, .nil, Nat.le_refl 0, .slnil, (fun l hl => by cases hl)⟩ (fun j σ H' _ hp => by obtain ⟨_, _, _, _, _, _, _, _, _, _, h, _⟩ := hp; exact SqL.of h) (fun j x σ H8 hx hp => ?_) (fun σ H8 hp => ?_)
    · obtain ⟨vs, ls, n8, o8, o9, rfl, d8, n8b, s8, kt8, em8, ef8, el8, lk8, ll8, sb8, ix8⟩ := hp
      rw [List.getElem?_map] at hx
      obtain ⟨pq, hpq, rfl⟩ := Option.map_eq_some_iff.mp hx
      have hj := (List.getElem?_eq_some_iff.mp hpq).1
      refine ⟨_, rfl, _, rfl, _, _, rfl, rfl, _, rfl, _, rfl, _, _, rfl, rfl, D, n8, _, rfl, d8, by omega, by omega, by omega, fun r H9 r0 r1 d9 s9 => ?_⟩
      refine ⟨_, _, rfl, rfl, (by show 2 ≤ sizeLine; decide), fun pi npi => ?_⟩
      have k9 := same_new npi (.lst [.int (0 + (k : Int) - 1), .int (r - 1)])
      refine ⟨D, n8 + 1, _, rfl, d9.same k9, by omega, .inr ⟨pi, _, rfl, upd_same, d9.new npi, List.cons_ne_nil _ _, (by show 2 ≤ 60; decide), fun x H10 hx d10 s10 => ?_⟩⟩
      obtain ⟨ix, rfl, ix0, ix1⟩ : ∃ ix : Int, x = .int ix ∧ -1 ≤ ix ∧ ix < (k : Int) := by
        rcases List.mem_cons.mp hx with rfl | hx
        · exact ⟨_, rfl, by omega, by omega⟩
        · rw [List.mem_singleton.mp hx]
          exact ⟨_, rfl, by omega, by omega⟩
      have s10' := (s9.trans (SameD.of k9)).trans s10
      have tk : Z.take (j + 1) = Z.take j ++ [pq] := take_next hpq
      refine ⟨_, rfl, _, _, rfl, rfl, _, rfl, ?_⟩
      by_cases hix : ix ≥ 0
      · rw [decide_eq_true hix]
        refine iteT ⟨_, rfl, D, n8 + 2, 4, rfl, d10, by omega, by decide, by decide, fun r2 H11 _ _ d11 s11 => ?_⟩
        have sA := s10'.trans s11
        refine ⟨_, rfl, _, _, rfl, rfl, _, rfl, ?_⟩
        by_cases hf : r2 ≥ few
        · rw [decide_eq_true hf]
          refine iteT ?_
          have el11 := sA.at ol el8
          refine ⟨_, rfl, .inl ⟨rfl, _, SqL.of el11⟩, _, rfl, _, rfl, (by show 2 ≤ sizeLine; decide), fun pt npt => ?_⟩
          have k12 := same_new npt (.tup [vt pq, .int ix])
          have et := upd_same (H := H11) (a := pt) (o := .tup [vt pq, .int ix])
          have vl := lk8.len
          refine ⟨pl, _, _, rfl, rfl, k12 _ _ el11, by show _ < 16777216; omega, ?_⟩
          have sB := sA.trans (SameD.of k12)
          have d12 := d11.same k12
          have el12 := k12 _ _ el11
          have em12 := k12 _ _ (sA.at om em8)
          have ef12 := k12 _ _ (sA.at of ef8)
          have lk12 := (lk8.keep (sA.keepT d8)).keep (Tw.Same.keepT k12)
          generalize upd H11 pt (.tup [vt pq, .int ix]) = H12 at k12 et sB d12 el12 em12 ef12 lk12 ⊢
          have kT : KeepT H12 (upd H12 pl (.lst (vs ++ [.ref pt]))) := fun b xs e => by
            rw [upd_ne (fun z => by rw [z, el12] at e; cases e)]; exact e
          have exi : ix = ((ix.toNat : Nat) : Int) := by omega
          rw [exi] at et
          refine ⟨vs ++ [.ref pt], ls ++ [(pq, ix.toNat)], n8 + 3, _, _, rfl, d12.put ol _, by omega, (s8.trans sB).put nplH _, (kt8.trans (sB.keepT d8)).trans kT, ?_, ?_, upd_same, (lk12.keep kT).snoc (kT _ _ et), by rw [List.length_append]; show _ + 1 ≤ _; omega, ?_, ?_⟩
          · rw [upd_ne (Ne.symm nlm)]; exact em12
          · rw [upd_ne nfl]; exact ef12
          · rw [tk, List.map_append]
            exact sb8.append (List.Sublist.refl _)
          · intro l hl
            rcases List.mem_append.mp hl with h | h
            · exact ix8 l h
            · rw [List.mem_singleton.mp h]
              show ix.toNat < k
              omega
        · rw [decide_eq_false hf]
          refine iteF ?_
          refine ⟨vs, ls, n8 + 3, _, _, rfl, d11, by omega, s8.trans sA, kt8.trans (sA.keepT d8), sA.at om em8, sA.at of ef8, sA.at ol el8, lk8.keep (sA.keepT d8), by omega, ?_, ix8⟩
          rw [tk]
          exact sb8.trans (List.sublist_append_left _ _)
      · rw [decide_eq_false hix]
        refine iteF (iteF ?_)
        refine ⟨vs, ls, n8 + 2, _, _, rfl, d10, by omega, s8.trans s10', kt8.trans (s10'.keepT d8), s10'.at om em8, s10'.at of ef8, s10'.at ol el8, lk8.keep (s10'.keepT d8), by omega, ?_, ix8⟩
        rw [tk]
        exact sb8.trans (List.sublist_append_left _ _)
    · obtain ⟨vs, ls, n8, o8, o9, rfl, d8, n8b, s8, kt8, em8, ef8, el8, lk8, ll8, sb8, ix8⟩ := hp
      rw [List.length_map] at n8b ll8 sb8
      have at8 := at5.keep kt8
      refine ⟨_, rfl, .inl ⟨rfl, _, SqL.of ef8⟩, _, rfl, _, rfl, pl, vs, rfl, SqL.of el8, lk8.mem, fun ys ps perm2 nps => ?_⟩
      obtain ⟨ks, lkS, pk⟩ := lk8.perm perm2
      have k9 := same_new nps (.lst ys)
      have es9 := upd_same (H := H8) (a := ps) (o := .lst ys)
      have d9 := d8.same k9
      have ef9 := k9 _ _ ef8
      have at9 := at8.same k9
      have lk9 := lkS.keep (Tw.Same.keepT k9)
      have en9 := (en5.keep kt8).keep (Tw.Same.keepT k9)
      have s9 := s8.trans (SameD.of k9)
      generalize upd H8 ps (.lst ys) = H9 at k9 es9 d9 ef9 at9 lk9 en9 s9 ⊢
      refine ⟨ps, ys, rfl, .inl ⟨SqL.of es9, fun pt npt => ?_⟩⟩
      have k10 := same_new npt (.tup ys)
      have et10 := upd_same (H := H9) (a := pt) (o := .tup ys)
      have d10 := d9.same k10
      have ef10 := k10 _ _ ef9
      have at10 := at9.same k10
      have lk10 := lk9.keep (Tw.Same.keepT k10)
      have en10 := en9.keep (Tw.Same.keepT k10)
      have s10 := s9.trans (SameD.of k10)
      generalize upd H9 pt (.tup ys) = H10 at k10 et10 d10 ef10 at10 lk10 en10 s10 ⊢
      refine ⟨(by show 2 ≤ sizeLine; decide), fun pe npe => ?_⟩
      have k11 := same_new npe (.tup [tv, .ref pt])
      have ee11 := upd_same (H := H10) (a := pe) (o := .tup [tv, .ref pt])
      have d11 := d10.same k11
      have ef11 := k11 _ _ ef10
      have et11 := k11 _ _ et10
      have at11 := at10.same k11
      have lk11 := lk10.keep (Tw.Same.keepT k11)
      have en11 := en10.keep (Tw.Same.keepT k11)
      have s11 := s10.trans (SameD.of k11)
      generalize upd H10 pe (.tup [tv, .ref pt]) = H11 at k11 ee11 d11 ef11 et11 at11 lk11 en11 s11 ⊢
      have ul := en11.len
      refine ⟨pf, _, _, rfl, rfl, ef11, by show _ < 16777216; omega, ?_⟩
      have kT : KeepT H11 (upd H11 pf (.lst (us ++ [.ref pe]))) := fun b xs e => by
        rw [upd_ne (fun z => by rw [z, ef11] at e; cases e)]; exact e
      have ksm : ∀ l ∈ ks, l ∈ ls := fun l hl => pk.mem_iff.mp hl
      have sub : ∀ l ∈ ls, l.1 ∈ O := fun l hl => pz.mem_iff.mp (List.mem_of_mem_take (sb8.subset (List.mem_map.mpr ⟨l, hl, rfl⟩)))
      have ndk : (ks.map (·.1)).Nodup := (pk.map (·.1)).nodup_iff.mpr (((pz.nodup_iff.mpr ndO).sublist (List.take_sublist _ _)).sublist sb8)
      refine ⟨us ++ [.ref pe], es ++ [(t, ks)], n8, _, _, _, _, _, rfl, d11.put of _, by omega, s11.put npf _, upd_same, (en11.keep kT).snoc (kT _ _ ee11) (at11.keep kT) (kT _ _ et11) (lk11.keep kT), g3.snoc ⟨z1, z2, ltb, ndk, fun l hl => opO l.1 (sub l (ksm l hl)), fun l hl => by rw [l3]; exact ix8 l (ksm l hl)⟩, by rw [List.length_append, l3]; rfl⟩
  · obtain ⟨us, es, n3, o5, o6, o7, o8, o9, rfl, d3, n3b, s3, ef3, en3, g3, l3⟩ := hp
    refine ⟨_, rfl, pf, us, rfl, .inl ⟨SqL.of ef3, fun pr npr => ?_⟩⟩
    have k4 := same_new npr (.tup us)
    exact q pr us es n3 _ (d3.same k4) (by omega) (s3.trans (SameD.of k4)) upd_same (en3.keep (Tw.Same.keepT k4)) g3 (by omega) (by omega)
end
/-! ### a def entered at one caller -/
theorem enter_def {P : Program} {w : World} {K : PySem.W.Frag} {mg : Str → Option Value} {base : Heap} {f : Addr} {fd : FuncData} {N ps : List Str} {k : Nat} {x qual : Str} {st : Stmt} (F : Fun K x qual st f fd) (S : FnScope N ps (defScope st))
    {A : Around} {outer : List Env} {s : Shared} {H : Hp} {args : Args} {us : List Value} {vs : List V} {Q : VK} {E : XK}
    (room : Room (k + 1) A) (en : Env0 P w K mg base A outer s H) (bd : BindsTo s fd args (ps.zip us)) (rel : Vals vs us) (hln : vs.length = ps.length)
    (body : ∀ cdv : Value, Room k (A.deeper (envOfC qual (defScope st) s.heap.objs.size f cdv)) →
      ∃ t, PSs (cxOf CX0 P w K mg base N qual (defScope st) f cdv A outer s H E).nox (defBody st) t ∧ t { nx := fun _ H' => Q .non H', rt := Q } (start N vs) H) :
    codeAny (model P w) A (.call (.ref f) args) (CR CX0 outer P w H s Q E) s := by
  obtain ⟨oc, od, kV, doc, pm, an, cdv, ct, osl, rfl, look, code⟩ := F.ex
  have still : ∀ b o, base.get? b = some o → s.heap.get? b = some o := fun b o e => (en.bs b o e).1
  have inK : K.In s.heap := en.mod.kin.keeps still
  have noL : s.heap.NoLimit := en.mod.nolimit.keeps still
  have kinds : ∀ y ∈ ps.zip us, (defScope st).names.lookup y.1 = some .local ∨
      ((defScope st).names.lookup y.1 = some .cell ∧ ((cellsFrom (s.heap.objs.size + 1) (defScope st).names []).lookup y.1).isSome = true) := by
    rintro ⟨nm, u⟩ hy
    cases S.par nm (List.of_mem_zip hy).1 with
    | inl z => exact .inl z
    | inr z => exact .inr ⟨z, PySem.W.cellsFrom_some _ _ _ (.inl z)⟩
  have step := codeAny_call_function (prog := P) (w := w) (A := A) (s := s) room.depth (inK _ _ look) rfl S.co S.gen rfl (PySem.W.codeRec_of inK code)
    (R := CR CX0 outer P w H s Q E) (args := args)
  refine step (bd _ _ _ _ ?_)
  refine wpAny_newFunctionEnv_cells S.kind kinds ?_
  intro env isEnv s1 inC
  subst isEnv
  refine ⟨noL.keeps inC.toInCall.keep, codeAny_func ?_⟩
  obtain ⟨t, ht, hq⟩ := body cdv (room.deeper _)
  have J : Inv (cxOf CX0 P w K mg base N qual (defScope st) f cdv A outer s H E) [] (start N vs) H s1 := inv_start S room.hd en hln rel inC
  refine wpAny_mono (ht.nox.run [] s1 (start N vs) H _ J hq) ?_ ?_
  · intro fl s' done
    cases fl with
    | ret u =>
      obtain ⟨v, σ', H', I', rv, qv⟩ := done
      exact ⟨v, H', I'.os, I'.bare, I'.base, I'.hok, rv, qv⟩
    | next =>
      obtain ⟨σ', H', I', qv⟩ := done
      exact ⟨V.non, H', I'.os, I'.bare, I'.base, I'.hok, rfl, qv⟩
    | brk => exact done.elim fun _ z => z.elim fun _ z => z.2.elim
    | cont => exact done.elim fun _ z => z.elim fun _ z => z.2.elim
  · intro e s' z
    exact z
/-! ### the law's own call -/
theorem law_at {P : Program} {w : World} {K : PySem.W.Frag} {mg mb : Str → Option Value} {fa a : Addr} {s₁ : Shared} {vs : List Value} {ns : List Int}
    (inK : K.In s₁.heap) (gl : s₁.heap.Ns mainGlobals mg) (bl : s₁.heap.Ns builtinsNs mb) (isB : ∀ x : Str, x ≠ "__name__" → mb x = bootBuiltins x) (lim : s₁.heap.NoLimit) (gens : s₁.gens = #[])
    (obj : s₁.heap.get? a = some { cls := .type "list", data := .seq vs.toArray }) (hints : IntsAre vs ns) (few : ns.length ≤ sizeLine)
    (run : ∀ (base : Heap) (H : Hp), K.In base → base.Ns mainGlobals mg → Env0 P w K mg base callerA [] s₁ H → SqL K H a (ns.map V.int) →
      codeAny (model P w) callerA (.call (.ref fa) ⟨[.ref a], []⟩) (CR CX0 [] P w H s₁ (fun v _ => v = .bl true) fun _ _ _ => False) s₁) :
    codeAny (model P w) callerA (.call (.ref fa) ⟨[.ref a], []⟩) (fun r s' => r = .ok (.ret (.bool true)) ∧ OldK s₁.heap s'.heap ∧ s'.os = s₁.os ∧ AllBare s'.gens) s₁ := by
  have rel := vals_ints hints
  have lens := hints.length
  have found : ∃ H : Hp, Only H ∧ SqL K H a (ns.map V.int) ∧ HOk P w H s₁.heap ∧ (∀ b u, H b = some u → b = a ∧ K.lookup a = none) := by
    cases inText : K.lookup a with
    | some o =>
      have same := inK a o inText
      rw [obj] at same
      cases same
      have never : ∀ (u : HO), (none : Option HO) ≠ some u := fun u z => by cases z
      refine ⟨fun _ => none, fun _ => .inl rfl, ?_, (fun b u z => (never u z).elim), (fun b u z => (never u z).elim)⟩
      refine .inr ⟨_, vs.toArray, _, inText, rfl, rfl, rfl, ?_, ?_⟩
      · rw [List.size_toArray, lens]
        exact few
      · rw [List.toList_toArray]
        exact rel
    | none =>
      let here : HO := .frz { cls := .type "list", data := .seq vs.toArray } (.lst (ns.map V.int))
      have only : ∀ b u, (if b = a then some here else none) = some u → b = a ∧ u = here := fun b u z => by
        by_cases hb : b = a
        · rw [if_pos hb] at z
          exact ⟨hb, (Option.some.inj z).symm⟩
        · rw [if_neg hb] at z
          cases z
      refine ⟨fun b => if b = a then some here else none, fun b => ?_, .inl (.inr ⟨{ cls := .type "list", data := .seq vs.toArray }, if_pos rfl⟩), fun b u z => ?_, fun b u z => ⟨(only b u z).1, rfl⟩⟩
      · by_cases hb : b = a
        · exact .inr ⟨_, _, if_pos hb⟩
        · exact .inl (if_neg hb)
      · obtain ⟨rfl, rfl⟩ := only b u z
        exact ⟨obj, by rw [List.length_map]; exact few, vs, _, rel, obj⟩
  obtain ⟨H, hO, hS, hok, hA⟩ := found
  have under : ∀ {b : Addr} {o : Obj}, s₁.heap.get? b = some o → H b = none → (hidT s₁.heap H).get? b = some o := fun e z => hidT_get e z
  have notDict : ∀ {b : Addr} {o : Obj} {es : Array DictEntry} {ep : Nat}, s₁.heap.get? b = some o → o.data = .dict es ep → H b = none := by
    intro b o es ep e isD
    cases z : H b with
    | none => rfl
    | some u =>
      obtain ⟨rfl, _⟩ := hA b u z
      rw [obj] at e
      cases e
      cases isD
  have ns' : ∀ {b : Addr} {m : Str → Option Value}, s₁.heap.Ns b m → (hidT s₁.heap H).Ns b m := by
    rintro b m ⟨o, es, ep, e, isD, r⟩
    exact ⟨o, es, ep, under e (notDict e isD), isD, r⟩
  have inK' : K.In (hidT s₁.heap H) := by
    intro b o e
    refine under (inK b o e) ?_
    cases z : H b with
    | none => rfl
    | some u =>
      obtain ⟨rfl, no⟩ := hA b u z
      rw [no] at e
      cases e
  obtain ⟨mc, l1, l2⟩ := lim
  have env : Env0 P w K mg (hidT s₁.heap H) callerA [] s₁ H :=
    ⟨rfl, ⟨inK', ns' gl, ⟨mb, ns' bl, isB⟩, ⟨mc, ns' l1, l2⟩⟩, fun _ _ e => of_hidT e, Nat.le_of_eq (hidT_size _ _), trivial, (fun _ hb => nomatch hb), hok, .of_eq gens⟩
  refine codeAny_mono (run _ H inK' (ns' gl) env hS) ?_
  intro r s' h
  cases r with
  | error e => exact h.elim
  | ok fl =>
    cases fl with
    | next => exact h.elim
    | brk => exact h.elim
    | cont => exact h.elim
    | ret u =>
      obtain ⟨v, H', os, bare, un, hok', rv, isT⟩ := h
      subst isT
      cases rv
      refine ⟨rfl, OldK.of_keep ?_, os, bare⟩
      intro b o e
      cases z : H b with
      | none => exact un.keep b o e z (fun y => nomatch y) (fun y => nomatch y)
      | some u =>
        rcases hO b with y | ⟨ob, xs, y⟩
        · rw [z] at y
          cases y
        · have y2 := un.frzs b ob _ y
          obtain ⟨e1, _⟩ := hok b _ y
          obtain ⟨e2, _⟩ := hok' b _ y2
          rw [e] at e1
          cases e1
          exact e2
/-! ### defs that ask for repr: the guards are carried -/
structure FnOkG (P : Program) (w : World) (K : PySem.W.Frag) (mg : Str → Option Value) (base : Heap) (k : Nat) (f : Addr) (fd : FuncData) (ps : List Str) (sp : Sp) : Prop where
  len : ∀ vs H Q E, sp vs H Q E → vs.length = ps.length
  run : ∀ (A : Around) (outer : List Env) (s : Shared) (H : Hp) (args : Args) (us : List Value) (vs : List V) (Q : VK) (E : XK), A.guards = some [] → Room k A → Env0 P w K mg base A outer s H →
    BindsTo s fd args (ps.zip us) → Vals vs us → sp vs H Q E → codeAny (model P w) A (.call (.ref f) args) (CR CX0 outer P w H s Q E) s
theorem fnG {P : Program} {w : World} {K : PySem.W.Frag} {mg : Str → Option Value} {base : Heap} {f : Addr} {fd : FuncData} {N ps : List Str} {k : Nat} {x qual : Str} {st : Stmt} {sp : Sp} (F : Fun K x qual st f fd) (S : FnScope N ps (defScope st))
    (len : ∀ vs H Q E, sp vs H Q E → vs.length = ps.length)
    (body : ∀ (cdv : Value) (A : Around) (outer : List Env) (s : Shared) (H : Hp) (vs : List V) (Q : VK) (E : XK), A.guards = some [] → Room k (A.deeper (envOfC qual (defScope st) s.heap.objs.size f cdv)) → sp vs H Q E →
      ∃ t, PSs (cxOf CX0 P w K mg base N qual (defScope st) f cdv A outer s H E).nox (defBody st) t ∧ t { nx := fun _ H' => Q .non H', rt := Q } (start N vs) H) :
    FnOkG P w K mg base (k + 1) f fd ps sp := by
  refine ⟨len, ?_⟩
  intro A outer s H args us vs Q E gs room en bd rel hsp
  exact enter_def F S room en bd rel (len _ _ _ _ hsp) fun cdv hr => body cdv A outer s H vs Q E gs hr hsp
theorem pe_callG {X : Cx} {k : Nat} {f : Addr} {fd : FuncData} {ps : List Str} {sp : Sp} {x : Str} {p pos : Pos} {e : Expr} {es : List Expr} {t : TA}
    (G : FnOkG X.prog X.w X.K X.mg X.base k f fd ps sp) (gs : X.A.guards = some []) (room : Room k X.A) (isG : Gl X x) (at0 : X.mg x = some (.ref f)) (kp : PySem.W.keepIn X.K (.ref f) = true) (bd : Binds X.K fd ps []) (args : PA X (e :: es) t)
    (nd : (x == ("__debug__" : Str)) = false := by decide) (he : starEach (e :: es) X.env = (false, eval e X.env) :: starEach es X.env := by rfl) (hp : (backTo pos (starEach es X.env)).any (·.1) = false := by rfl) :
    PE X (.Call (.Name x p) (e :: es) [] pos) (tCall sp [] E0 t) := by
  constructor
  intro pins s σ H Q I h
  refine wpAny_Call_Name_kw (ld_glob I isG at0 ?_ nd)
  refine PySem.W.callWith_K (h₀ := X.base) I.ok.mod.kin kp (thn (args.run pos pins s σ H _ I h) ?_) he hp
  rintro us s1 ⟨vs, H1, I1, rel, q⟩
  refine ⟨I1.kIn, ?_⟩
  have q' : sp vs H1 Q E0 := by
    rw [List.append_nil] at q
    exact q
  have hl : (us ++ []).length = ps.length := by
    rw [List.append_nil, ← rel.length]
    exact G.len _ _ _ _ q'
  have bd' := bd s1 us I1.kIn hl
  rw [List.append_nil] at bd'
  refine wpAny_call (codeAny_mono (G.run X.A X.stack s1 H1 ⟨us, []⟩ us vs Q E0 gs room I1.env0 bd' rel q') ?_)
  intro r s' done
  cases r with
  | error e => exact done.elim
  | ok fl =>
    cases fl with
    | ret u => exact I1.after done
    | next => exact done.elim
    | brk => exact done.elim
    | cont => exact done.elim
/-- a def that asks for repr, with its promise -/
structure DfG (P : Program) (w : World) (K : PySem.W.Frag) (mg : Str → Option Value) (base : Heap) (k : Nat) (nm : Str) (ps : List Str) (sp : Sp) where
  f : Addr
  fd : FuncData
  ok : FnOkG P w K mg base k f fd ps sp
  b : Binds K fd ps []
  kp : PySem.W.keepIn K (.ref f) = true
  g : mg nm = some (.ref f)
/-! ### repr of data without dicts -/
mutual
def okR : PyData → Bool
  | .none => true
  | .bool _ => true
  | .int i => decide (0 ≤ i) && decide (i < 10 ^ 30)
  | .str x => decide (x.length ≤ 64) && x.cps.toList.all (· < 128)
  | .list xs => okRs xs
  | .tuple xs => okRs xs
  | .dict _ => false
def okRs : List PyData → Bool
  | [] => true
  | x :: xs => okR x && okRs xs
end
mutual
def wtR : PyData → Nat
  | .none => 4
  | .bool _ => 5
  | .int _ => 31
  | .str x => 10 * x.length + 2
  | .list xs => 3 + wtRs xs
  | .tuple xs => 3 + wtRs xs
  | .dict _ => 0
def wtRs : List PyData → Nat
  | [] => 0
  | x :: xs => wtR x + 2 + wtRs xs
end
theorem small_shown {i : Int} (h0 : 0 ≤ i) (h : i < 10 ^ 30) : (Str.ofString (toString i)).length ≤ 31 ∧ i.natAbs.log2 < 1920 := by
  refine ⟨Nat.le_trans (toString_length_le h0 (by decide) h) (by decide), ?_⟩
  by_cases z : i.natAbs = 0
  · rw [z]; decide
  · rw [Nat.log2_lt z]
    have h2 : i.natAbs < 10 ^ 30 := by omega
    exact Nat.lt_of_lt_of_le h2 (Nat.le_trans (show 10 ^ 30 ≤ 2 ^ 100 by decide) (Nat.pow_le_pow_right (by decide) (by decide)))
theorem listText_leR (ts : List Str) : (listText ts).length ≤ piled ts + 3 := by
  have h := textFrom_len_le ts 0 "["
  have e : (listText ts).length = (textFrom 0 "[" ts).length + 1 := by
    show (textFrom 0 "[" ts ++ "]").length = _
    rw [strLen_append]
    rfl
  have z : ∀ l : List Str, (l.map (·.length)).sum + 2 * l.length = piled l := by
    intro l
    induction l with
    | nil => rfl
    | cons t l ih =>
      rw [piled_cons, List.map_cons, List.sum_cons, List.length_cons]
      omega
  have z2 := z ts
  have z3 : (("[" : String) : Str).length = 1 := rfl
  omega
mutual
theorem shownR : ∀ d : PyData, okR d = true → d.shown.length ≤ wtR d ∧ d.showable = true ∧ d.hasDict = false
  | .none, _ => by
    simp only [PyData.shown, wtR, PyData.showable, PyData.hasDict, and_true]
    decide +kernel
  | .bool b, _ => by
    simp only [PyData.shown, wtR, PyData.showable, PyData.hasDict, and_true]
    cases b <;> decide +kernel
  | .int i, h => by
    simp only [okR, Bool.and_eq_true, decide_eq_true_eq] at h
    obtain ⟨h1, h2⟩ := small_shown h.1 h.2
    simp only [PyData.shown, wtR, PyData.showable, PyData.hasDict, decide_eq_true_eq, and_true]
    exact ⟨h1, h2⟩
  | .str x, h => by
    simp only [okR, Bool.and_eq_true, decide_eq_true_eq, List.all_eq_true] at h
    have h1 := StrLaws.reprText_len x (fun c hc => Nat.lt_of_lt_of_le (h.2 c hc) (by decide))
    simp only [PyData.shown, wtR, PyData.showable, PyData.hasDict, and_true]
    omega
  | .list xs, h => by
    simp only [okR] at h
    obtain ⟨h1, h2, h3⟩ := shownRs xs h
    simp only [PyData.shown, wtR, PyData.showable, PyData.hasDict]
    exact ⟨Nat.le_trans (listText_leR _) (by omega), h2, h3⟩
  | .tuple xs, h => by
    simp only [okR] at h
    obtain ⟨h1, h2, h3⟩ := shownRs xs h
    simp only [PyData.shown, wtR, PyData.showable, PyData.hasDict]
    exact ⟨Nat.le_trans (fmt_text _) (by omega), h2, h3⟩
  | .dict _, h => by
    simp only [okR] at h
    exact absurd h Bool.false_ne_true
theorem shownRs : ∀ ds : List PyData, okRs ds = true → piled (PyData.shownAll ds) ≤ wtRs ds ∧ PyData.showableAll ds = true ∧ PyData.hasDictAll ds = false
  | [], _ => by
    simp only [PyData.shownAll, wtRs, PyData.showableAll, PyData.hasDictAll, and_true]
    exact Nat.le_refl _
  | d :: ds, h => by
    simp only [okRs, Bool.and_eq_true] at h
    obtain ⟨h1, h2, h5⟩ := shownR d h.1
    obtain ⟨h3, h4, h6⟩ := shownRs ds h.2
    simp only [PyData.shownAll, wtRs, PyData.showableAll, PyData.hasDictAll, h2, h4, h5, h6, Bool.and_self, Bool.or_self, and_true]
    rw [piled_cons]
    omega
end
def rReprR (K : PySem.W.Frag) : List V → Hp → VK → Prop := fun xs H Q => ∃ (a : Addr) (d : PyData), xs = [.ref a] ∧ Dp K H (.ref a) d ∧ okR d = true ∧ wtR d ≤ 1000000 ∧ d.depth ≤ 60 ∧ Q (.str d.shown) H
theorem call_reprR {X : Cx} (hg : X.A.guards = some []) (hu : X.A.units + 64 < cLine) : CallR X (.builtin "repr") (rReprR X.K) := by
  intro pins s σ H xs us Q I r h
  obtain ⟨a, d, rfl, hd, hs, hw, hz, q⟩ := h
  obtain ⟨u, rfl, rx⟩ := vals1 r
  cases rx
  obtain ⟨h1, h2, h3⟩ := shownR d hs
  obtain ⟨as, rd⟩ := Dp.reads I d _ _ hd rfl
  exact repr_of_reads' rd h2 (PyData.noDict_hsm h3) hg (by omega) (fun _ _ e => e) (fun h' u tk hk => ⟨.str d.shown, H, I.kept (t' := tk) hk, ⟨u, rfl⟩, q⟩) (by show _ ≤ 16777216; omega)
/-! ### data of nests; how large a nest is -/
theorem B.data_depth : ∀ t : B, t.data.depth = t.deep
  | .nil => by simp only [B.data, PyData.depth, B.deep]
  | .node l x r => by
    simp only [B.data, PyData.depth, PyData.depthAll, B.deep, l.data_depth, r.data_depth]
    omega
theorem okR_ch {c : Nat} (h : c < 128) : okR (.str (ch c)) = true := by
  simp only [okR, Bool.and_eq_true, decide_eq_true_eq, List.all_eq_true]
  refine ⟨by show 1 ≤ 64; decide, fun z hz => ?_⟩
  have : z = c := by simpa using hz
  omega
theorem okR_tree : ∀ t : B, ltB t → okR t.data = true ∧ wtR t.data ≤ 25 * t.size + 4
  | .nil, _ => by simp only [B.data, okR, wtR]; exact ⟨trivial, Nat.le_add_left ..⟩
  | .node l x r, h => by
    obtain ⟨a1, a2⟩ := okR_tree l fun c hc => h c (List.mem_cons_of_mem _ (List.mem_append_left _ hc))
    obtain ⟨b1, b2⟩ := okR_tree r fun c hc => h c (List.mem_cons_of_mem _ (List.mem_append_right _ hc))
    have hx := h x List.mem_cons_self
    have e1 : okR (.str (ch x)) = true := okR_ch (by omega)
    have e2 : wtR (.str (ch x)) = 12 := rfl
    simp only [B.data, okR, okRs, a1, b1, Bool.and_true, Bool.true_and]
    refine ⟨by simpa only [okR] using e1, ?_⟩
    show wtR (.tuple [l.data, .str (ch x), r.data]) ≤ 25 * (l.size + 1 + r.size) + 4
    have e3 : wtR (.tuple [l.data, .str (ch x), r.data]) = 3 + (wtR l.data + 2 + (wtR (.str (ch x)) + 2 + (wtR r.data + 2 + 0))) := by simp only [wtR, wtRs]
    rw [e3, e2]
    omega
theorem op_signs : ∀ (t : B) (w : List Nat), w ∈ t.op → ∀ c ∈ w, c = 108 ∨ c = 114
  | .nil, w, h, c, hc => by
    rw [List.mem_singleton.mp h] at hc
    cases hc
  | .node l x r, w, h, c, hc => by
    rcases List.mem_append.mp h with h | h
    · obtain ⟨u, hu, rfl⟩ := List.mem_map.mp h
      rcases List.mem_cons.mp hc with rfl | hc
      · exact .inl rfl
      · exact op_signs l u hu c hc
    · obtain ⟨u, hu, rfl⟩ := List.mem_map.mp h
      rcases List.mem_cons.mp hc with rfl | hc
      · exact .inr rfl
      · exact op_signs r u hu c hc
theorem int_lt {n : Nat} (h : n < 10 ^ 30) : (n : Int) < 10 ^ 30 := by exact_mod_cast h
theorem op_deep {t : B} : ∀ {w : List Nat}, w ∈ t.op → w.length ≤ t.deep := by
  induction t with
  | nil =>
    intro w h
    rw [List.mem_singleton.mp h]
    exact Nat.zero_le _
  | node l x r h1 h2 =>
    intro w h
    show w.length ≤ 1 + max l.deep r.deep
    rcases List.mem_append.mp h with h | h
    · obtain ⟨u, hu, rfl⟩ := List.mem_map.mp h
      have := h1 hu
      rw [List.length_cons]
      omega
    · obtain ⟨u, hu, rfl⟩ := List.mem_map.mp h
      have := h2 hu
      rw [List.length_cons]
      omega
theorem nodup_le {α : Type} [DecidableEq α] : ∀ {l m : List α}, l.Nodup → (∀ x ∈ l, x ∈ m) → l.length ≤ m.length
  | [], m, _, _ => Nat.zero_le _
  | x :: l, m, nd, h => by
    obtain ⟨n1, n2⟩ := List.nodup_cons.mp nd
    have hx := h x List.mem_cons_self
    have := nodup_le (l := l) (m := m.erase x) n2 fun y hy => (List.mem_erase_of_ne (fun z : y = x => n1 (z ▸ hy))).mpr (h y (List.mem_cons_of_mem _ hy))
    rw [List.length_erase_of_mem hx] at this
    have : 0 < m.length := List.length_pos_of_mem hx
    rw [List.length_cons]
    omega
theorem B.op_len (t : B) : t.op.length = t.size + 1 := by
  induction t with
  | nil => rfl
  | node l x r h1 h2 =>
    show (l.op.map (108 :: ·) ++ r.op.map (114 :: ·)).length = l.size + 1 + r.size + 1
    rw [List.length_append, List.length_map, List.length_map, h1, h2]
    omega
theorem links_len {lim k : Nat} {t : B} {ls : List Lk} (g : GoodE lim k (t, ls)) (h : lim ≤ 12) : ls.length ≤ 13 := by
  have h1 : (ls.map (·.1)).length ≤ t.op.length := nodup_le g.nd fun p hp => by
    obtain ⟨l, hl, rfl⟩ := List.mem_map.mp hp
    exact g.op l hl
  rw [List.length_map, t.op_len] at h1
  have : t.size ≤ lim := g.s2
  omega
def lkD (l : Lk) : PyData := .tuple [.str (tx l.1), .int (l.2 : Int)]
def enD (e : En) : PyData := .tuple [e.1.data, .tuple (e.2.map lkD)]
def nestD (es : List En) : PyData := .tuple (es.map enD)
theorem LkAt.dp {K : PySem.W.Frag} {H : Hp} {vs : List V} {ls : List Lk} (h : LkAt H vs ls) : DpAll K H vs (ls.map lkD) := by
  induction h with
  | nil => exact .nil
  | cons e _ ih => exact .cons (.tup (SqT.of e) (.cons (.str _) (.cons (.int _) .nil))) ih
theorem EnAt.dp {K : PySem.W.Frag} {H : Hp} {vs : List V} {es : List En} (h : EnAt H vs es) : DpAll K H vs (es.map enD) := by
  induction h with
  | nil => exact .nil
  | cons e1 e2 e3 e4 _ ih => exact .cons (.tup (SqT.of e1) (.cons e2.dp (.cons (.tup (SqT.of e3) e4.dp) .nil))) ih
theorem links_ok {t : B} {n : Nat} (hn : n ≤ 1000) (ht : t.deep ≤ 60) : ∀ ls : List Lk, (∀ l ∈ ls, l.1 ∈ t.op) → (∀ l ∈ ls, l.2 < n) → okRs (ls.map lkD) = true ∧ wtRs (ls.map lkD) ≤ 700 * ls.length ∧ PyData.depthAll (ls.map lkD) ≤ 1
  | [], _, _ => by
    refine ⟨by simp only [List.map_nil, okRs], by simp only [List.map_nil, wtRs]; exact Nat.zero_le _, by simp only [List.map_nil, PyData.depthAll]; omega⟩
  | l :: ls, h1, h2 => by
    obtain ⟨a, b, c⟩ := links_ok hn ht ls (fun k hk => h1 k (List.mem_cons_of_mem _ hk)) (fun k hk => h2 k (List.mem_cons_of_mem _ hk))
    have p1 := op_deep (h1 l List.mem_cons_self)
    have p2 := op_signs t l.1 (h1 l List.mem_cons_self)
    have p3 := h2 l List.mem_cons_self
    have k1 : okR (.str (tx l.1)) = true := by
      simp only [okR, Bool.and_eq_true, decide_eq_true_eq, List.all_eq_true, tx_len]
      refine ⟨decide_eq_true (by omega), fun z hz => ?_⟩
      have := p2 z hz
      omega
    have k2 : okR (.int (l.2 : Int)) = true := by
      simp only [okR, Bool.and_eq_true, decide_eq_true_eq]
      exact ⟨by omega, int_lt (Nat.lt_of_lt_of_le p3 (Nat.le_trans hn (by decide)))⟩
    have k3 : wtR (.str (tx l.1)) = 10 * l.1.length + 2 := rfl
    refine ⟨?_, ?_, ?_⟩
    · rw [List.map_cons]
      show (okR (.tuple [.str (tx l.1), .int (l.2 : Int)]) && okRs (ls.map lkD)) = true
      rw [a, Bool.and_true]
      show (okR (.str (tx l.1)) && (okR (.int (l.2 : Int)) && true)) = true
      rw [k1, k2]
      rfl
    · rw [List.map_cons]
      show wtR (.tuple [.str (tx l.1), .int (l.2 : Int)]) + 2 + wtRs (ls.map lkD) ≤ _
      have : wtR (.tuple [.str (tx l.1), .int (l.2 : Int)]) = 3 + (wtR (.str (tx l.1)) + 2 + (31 + 2 + 0)) := by simp only [wtR, wtRs]
      rw [this, k3, List.length_cons]
      omega
    · rw [List.map_cons]
      simp only [PyData.depthAll, lkD, PyData.depth]
      omega
theorem entries_ok : ∀ (es : List En), (∀ e ∈ es, ∃ n, n ≤ 20 ∧ GoodE 12 n e) → okRs (es.map enD) = true ∧ wtRs (es.map enD) ≤ 10000 * es.length ∧ PyData.depthAll (es.map enD) ≤ 14
  | [], _ => by
    refine ⟨by simp only [List.map_nil, okRs], by simp only [List.map_nil, wtRs]; exact Nat.zero_le _, by simp only [List.map_nil, PyData.depthAll]; omega⟩
  | e :: es, h => by
    obtain ⟨a, b, c⟩ := entries_ok es fun k hk => h k (List.mem_cons_of_mem _ hk)
    obtain ⟨n, hn, g⟩ := h e List.mem_cons_self
    obtain ⟨t, ls⟩ := e
    have td := t.deep_le
    have s2 : t.size ≤ 12 := g.s2
    obtain ⟨k1, k2⟩ := okR_tree t g.lt
    obtain ⟨m1, m2, m3⟩ := links_ok (t := t) (n := n) (by omega) (by omega) ls g.op g.ix
    have ll := links_len g (Nat.le_refl _)
    refine ⟨?_, ?_, ?_⟩
    · rw [List.map_cons]
      show ((okR t.data && (okRs (ls.map lkD) && true)) && okRs (es.map enD)) = true
      rw [a, k1, m1]
      rfl
    · rw [List.map_cons]
      show wtR (.tuple [t.data, .tuple (ls.map lkD)]) + 2 + wtRs (es.map enD) ≤ _
      have : wtR (.tuple [t.data, .tuple (ls.map lkD)]) = 3 + (wtR t.data + 2 + (3 + wtRs (ls.map lkD) + 2 + 0)) := by simp only [wtR, wtRs]
      rw [this, List.length_cons]
      omega
    · rw [List.map_cons]
      simp only [PyData.depthAll, enD, PyData.depth, B.data_depth]
      omega
theorem nest_ok {es : List En} (g : GoodN 12 es) (h : es.length ≤ 20) : okR (nestD es) = true ∧ wtR (nestD es) ≤ 1000000 ∧ (nestD es).depth ≤ 60 := by
  obtain ⟨a, b, c⟩ := entries_ok es fun e he => by
    obtain ⟨i, hi⟩ := List.getElem?_of_mem he
    have := (List.getElem?_eq_some_iff.mp hi).1
    exact ⟨i, by omega, g i e hi⟩
  refine ⟨?_, ?_, ?_⟩
  · simp only [nestD, okR, a]
  · simp only [nestD, wtR]
    omega
  · simp only [nestD, PyData.depth]
    omega
/-! ### values of any kind, and how they are shown -/
mutual
inductive DQ (D : Deck) (H : Hp) : V → PyData → Prop
  | non : DQ D H .non .none
  | bl (b : Bool) : DQ D H (.bl b) (.bool b)
  | int (i : Int) : DQ D H (.int i) (.int i)
  | str (x : Str) : DQ D H (.str x) (.str x)
  | lst {a : Addr} {xs : List V} {ds : List PyData} : Off D a → H a = some (.lst xs) → DQAll D H xs ds → DQ D H (.ref a) (.list ds)
  | tup {a : Addr} {xs : List V} {ds : List PyData} : Off D a → H a = some (.tup xs) → DQAll D H xs ds → DQ D H (.ref a) (.tuple ds)
  | emp {a : Addr} : Off D a → H a = some (.dK []) → DQ D H (.ref a) (.dict [])
  | ent {a : Addr} {x : Str} {i : Int} : Off D a → H a = some (.dK [(.inr x, .int i)]) → DQ D H (.ref a) (.dict [(.str x, .int i)])
inductive DQAll (D : Deck) (H : Hp) : List V → List PyData → Prop
  | nil : DQAll D H [] []
  | cons {v : V} {vs : List V} {d : PyData} {ds : List PyData} : DQ D H v d → DQAll D H vs ds → DQAll D H (v :: vs) (d :: ds)
end
mutual
theorem dq_sameD {D : Deck} {H H' : Hp} (s : SameD D H H') : ∀ {v : V} {d : PyData}, DQ D H v d → DQ D H' v d
  | _, _, .non => .non
  | _, _, .bl b => .bl b
  | _, _, .int i => .int i
  | _, _, .str x => .str x
  | _, _, .lst o e a => .lst o (s.at o e) (dqAll_sameD s a)
  | _, _, .tup o e a => .tup o (s.at o e) (dqAll_sameD s a)
  | _, _, .emp o e => .emp o (s.at o e)
  | _, _, .ent o e => .ent o (s.at o e)
theorem dqAll_sameD {D : Deck} {H H' : Hp} (s : SameD D H H') : ∀ {vs : List V} {ds : List PyData}, DQAll D H vs ds → DQAll D H' vs ds
  | _, _, .nil => .nil
  | _, _, .cons h a => .cons (dq_sameD s h) (dqAll_sameD s a)
end
theorem dq_same {D : Deck} {H H' : Hp} (s : Same H H') {v : V} {d : PyData} (h : DQ D H v d) : DQ D H' v d := dq_sameD (SameD.of s) h
theorem dqAll_same {D : Deck} {H H' : Hp} (s : Same H H') {v : List V} {d : List PyData} (h : DQAll D H v d) : DQAll D H' v d := dqAll_sameD (SameD.of s) h
theorem dqAll_len {D : Deck} {H : Hp} : ∀ {vs : List V} {ds : List PyData}, DQAll D H vs ds → vs.length = ds.length
  | _, _, .nil => rfl
  | _, _, .cons _ a => congrArg (· + 1) (dqAll_len a)
theorem dqAll_get {D : Deck} {H : Hp} : ∀ {vs : List V} {ds : List PyData} {i : Nat} {v : V}, DQAll D H vs ds → vs[i]? = some v → ∃ d, ds[i]? = some d ∧ DQ D H v d
  | _, _, _, _, .nil, h => by simp at h
  | _, _, 0, _, .cons h _, e => by
    cases e
    exact ⟨_, rfl, h⟩
  | _, _, i + 1, _, .cons _ a, e => dqAll_get (i := i) a e
theorem dqAll_app {D : Deck} {H : Hp} : ∀ {vs vs' : List V} {ds ds' : List PyData}, DQAll D H vs ds → DQAll D H vs' ds' → DQAll D H (vs ++ vs') (ds ++ ds')
  | _, _, _, _, .nil, h => h
  | _, _, _, _, .cons h a, h' => .cons h (dqAll_app a h')
theorem BAt.dq {D : Deck} {H : Hp} {n : Nat} (d : DeckOk H D n) {v : V} {t : B} (h : BAt H v t) : DQ D H v t.data := by
  obtain ⟨c, r, h1, h2, h3, _⟩ := d.ex
  induction h with
  | nil => exact .non
  | node e _ _ i1 i2 => exact .tup ⟨ne_of e h1 (by intro z; cases z), ne_of e h2 (by intro z; cases z), ne_of e h3 (by intro z; cases z)⟩ e (.cons i1 (.cons (.str _) (.cons i2 .nil)))
def okI (i : Int) : Bool := decide (-9 ≤ i) && decide (i < 10 ^ 30)
def okS (x : Str) : Bool := decide (x.length ≤ 90) && x.cps.toList.all (· < 128)
mutual
def gd : PyData → Bool
  | .none => true
  | .bool _ => true
  | .int i => okI i
  | .str x => okS x
  | .list xs => gds xs
  | .tuple xs => gds xs
  | .dict kvs => match kvs with
    | [] => true
    | [(.str x, .int i)] => okS x && okI i
    | _ => false
def gds : List PyData → Bool
  | [] => true
  | x :: xs => gd x && gds xs
end
mutual
def wt : PyData → Nat
  | .none => 4
  | .bool _ => 5
  | .int _ => 31
  | .str _ => 902
  | .list xs => 3 + wts xs
  | .tuple xs => 3 + wts xs
  | .dict _ => 940
def wts : List PyData → Nat
  | [] => 0
  | x :: xs => wt x + 2 + wts xs
end
theorem gd_str {x : Str} (h : gd (.str x) = true) : x.length ≤ 90 ∧ ∀ c ∈ x.cps.toList, c < 128 := by
  simp only [gd, okS, Bool.and_eq_true, decide_eq_true_eq, List.all_eq_true] at h
  exact h
theorem okS_gd {x : Str} (h : okS x = true) : gd (.str x) = true := by simp only [gd]; exact h
theorem okI_gd {i : Int} (h : okI i = true) : gd (.int i) = true := by simp only [gd]; exact h
theorem reprText_le {x : Str} (h : gd (.str x) = true) : (reprText x).length ≤ 902 := by
  obtain ⟨h1, h2⟩ := gd_str h
  have := StrLaws.reprText_len x (fun c hc => Nat.lt_of_lt_of_le (h2 c hc) (by decide))
  omega
theorem int_show {i : Int} (h : gd (.int i) = true) : (Str.ofString (toString i)).length ≤ 31 ∧ i.natAbs.log2 < 1920 := by
  simp only [gd, okI, Bool.and_eq_true, decide_eq_true_eq] at h
  by_cases z : 0 ≤ i
  · exact small_shown z h.2
  · have : i = -1 ∨ i = -2 ∨ i = -3 ∨ i = -4 ∨ i = -5 ∨ i = -6 ∨ i = -7 ∨ i = -8 ∨ i = -9 := by omega
    rcases this with rfl | rfl | rfl | rfl | rfl | rfl | rfl | rfl | rfl <;> decide +kernel
theorem listText_le (ts : List Str) : (listText ts).length ≤ piled ts + 3 := by
  have h := textFrom_len_le ts 0 "["
  have e : (listText ts).length = (textFrom 0 "[" ts).length + 1 := by
    show (textFrom 0 "[" ts ++ "]").length = _
    rw [strLen_append]
    rfl
  have z : ∀ l : List Str, (l.map (·.length)).sum + 2 * l.length = piled l := by
    intro l
    induction l with
    | nil => rfl
    | cons t l ih =>
      rw [piled_cons, List.map_cons, List.sum_cons, List.length_cons]
      omega
  have z2 := z ts
  have z3 : (("[" : String) : Str).length = 1 := rfl
  omega
mutual
theorem shown_le : ∀ d : PyData, gd d = true → d.shown.length ≤ wt d ∧ d.showable = true
  | .none, _ => by
    simp only [PyData.shown, wt, PyData.showable, and_true]
    decide +kernel
  | .bool b, _ => by
    simp only [PyData.shown, wt, PyData.showable, and_true]
    cases b <;> decide +kernel
  | .int i, h => by
    obtain ⟨h1, h2⟩ := int_show h
    simp only [PyData.shown, wt, PyData.showable, decide_eq_true_eq]
    exact ⟨h1, h2⟩
  | .str x, h => by
    have h1 := reprText_le h
    simp only [PyData.shown, wt, PyData.showable, and_true]
    exact h1
  | .list xs, h => by
    simp only [gd] at h
    obtain ⟨h1, h2⟩ := showns_le xs h
    simp only [PyData.shown, wt, PyData.showable]
    exact ⟨Nat.le_trans (listText_le _) (by omega), h2⟩
  | .tuple xs, h => by
    simp only [gd] at h
    obtain ⟨h1, h2⟩ := showns_le xs h
    simp only [PyData.shown, wt, PyData.showable]
    exact ⟨Nat.le_trans (fmt_text _) (by omega), h2⟩
  | .dict kvs, h => by
    simp only [gd] at h
    cases kvs with
    | nil =>
      simp only [PyData.shown, PyData.shownKv, wt, PyData.showable, PyData.showableKv, and_true]
      decide +kernel
    | cons p r =>
      obtain ⟨k, v⟩ := p
      cases k <;> first | exact absurd h Bool.false_ne_true | skip
      rename_i x
      cases v <;> first | exact absurd h Bool.false_ne_true | skip
      rename_i i
      cases r with
      | cons _ _ => exact absurd h Bool.false_ne_true
      | nil =>
      obtain ⟨h1, h2⟩ := Bool.and_eq_true_iff.mp (show (okS x && okI i) = true from h)
      have a1 := reprText_le (okS_gd h1)
      obtain ⟨a2, a3⟩ := int_show (okI_gd h2)
      refine ⟨?_, ?_⟩
      · simp only [PyData.shown, PyData.shownKv, wt]
        have e0 : Str.join ", " [reprText x ++ ": " ++ Str.ofString (toString i)] = reprText x ++ ": " ++ Str.ofString (toString i) := rfl
        unfold dictText
        rw [e0]
        rw [strLen_append, strLen_append, strLen_append, strLen_append]
        have l1 : (("{" : String) : Str).length = 1 := rfl
        have l2 : (("}" : String) : Str).length = 1 := rfl
        have l3 : ((": " : String) : Str).length = 2 := rfl
        omega
      · simp only [PyData.showable, PyData.showableKv, Bool.and_true, Bool.true_and, decide_eq_true_eq]
        exact a3
theorem showns_le : ∀ ds : List PyData, gds ds = true → piled (PyData.shownAll ds) ≤ wts ds ∧ PyData.showableAll ds = true
  | [], _ => by
    simp only [PyData.shownAll, wts, PyData.showableAll, and_true]
    exact Nat.le_refl _
  | d :: ds, h => by
    simp only [gds, Bool.and_eq_true] at h
    obtain ⟨h1, h2⟩ := shown_le d h.1
    obtain ⟨h3, h4⟩ := showns_le ds h.2
    simp only [PyData.shownAll, wts, PyData.showableAll, h2, h4, Bool.and_self, and_true]
    rw [piled_cons]
    omega
end
/-! ### repr of such a value -/
section
variable {X : Cx} {pins : List (Addr × Obj)} {σ : L2.St} {H : Hp} {s : Shared} {D : Deck}
theorem obj_lst (I : Inv X pins σ H s) {a : Addr} {xs : List V} (e : H a = some (.lst xs)) : ∃ (its : List Value) (o : Obj) (n : Nat), Vals xs its ∧ s.heap.get? a = some o ∧ o.cls = .type "list" ∧ o.data = .seq its.toArray n := by
  obtain ⟨_, its, n, r, h⟩ := (show ObjOk X.prog X.w H s.heap a (.lst xs) from I.hok a _ e)
  exact ⟨its, _, n, r, h, rfl, rfl⟩
theorem obj_tup (I : Inv X pins σ H s) {a : Addr} {xs : List V} (e : H a = some (.tup xs)) : ∃ (its : List Value) (o : Obj) (n : Nat), Vals xs its ∧ s.heap.get? a = some o ∧ o.cls = .type "tuple" ∧ o.data = .seq its.toArray n := by
  obtain ⟨_, its, r, o, h1, h2, n, h3⟩ := (show ObjOk X.prog X.w H s.heap a (.tup xs) from I.hok a _ e)
  exact ⟨its, o, n, r, h1, h2, h3⟩
theorem obj_emp (I : Inv X pins σ H s) {a : Addr} (e : H a = some (.dK [])) : ∃ (o : Obj) (n : Nat), s.heap.get? a = some o ∧ o.cls = .type "dict" ∧ o.data = .dict #[] n ∧ (a == sysModules) = false := by
  obtain ⟨_, ne, vs, kv, o, es, ep, h1, ex, h2, _, ps, _⟩ := (show ObjOk X.prog X.w H s.heap a (.dK []) from I.hok a _ e)
  cases kv
  have hes : es = #[] := by
    cases hl : es.toList with
    | nil => exact Array.toList_eq_nil_iff.mp hl
    | cons e l =>
      rw [hl] at ps
      cases ps
  subst hes
  exact ⟨o, ep, h1, ex.1, h2, ne⟩
theorem obj_ent (I : Inv X pins σ H s) {a : Addr} {x : Str} {i : Int} (e : H a = some (.dK [(.inr x, .int i)])) : ∃ (o : Obj) (es : Array DictEntry) (n : Nat) (hh : Int) (t t2 : Tok), s.heap.get? a = some o ∧ o.cls = .type "dict" ∧ o.data = .dict es n ∧ es.toList = [⟨hh, .str x t, .int i t2⟩] ∧ (a == sysModules) = false := by
  obtain ⟨_, ne, vs, kv, o, es, ep, h1, ex, h2, _, ps, _⟩ := (show ObjOk X.prog X.w H s.heap a (.dK [(.inr x, .int i)]) from I.hok a _ e)
  cases kv with
  | @cons a' b' l1 l2 hh tt =>
  cases tt
  obtain ⟨k1, k2⟩ := b'
  obtain ⟨e1, t2, e2⟩ := hh
  have e1 : Sum.inr x = k1 := e1
  subst e1
  have e2 : k2 = .int i t2 := e2
  subst e2
  cases hl : es.toList with
  | nil => rw [hl] at ps; cases ps
  | cons en l =>
    rw [hl] at ps
    cases ps with
    | cons p1 p2 p3 =>
    cases p3
    obtain ⟨hv, kk, vv⟩ := en
    have p1 : Value.isStrOf x kk = true := p1
    have p2 : vv = .int i t2 := p2
    subst p2
    obtain ⟨t, rfl⟩ : ∃ t, kk = .str x t := by
      rcases keyIs_shape (k := .inr x) (show keyIs (.inr x) kk = true from p1) with ⟨_, _, e, _⟩ | ⟨y, t, e, rfl⟩
      · cases e
      · cases e; exact ⟨t, rfl⟩
    exact ⟨o, es, ep, hv, t, t2, h1, ex.1, h2, hl, ne⟩
mutual
theorem dq_reads (I : Inv X pins σ H s) : ∀ (d : PyData) (v : V) (u : Value), DQ D H v d → RelV v u → ∃ as, Reads s.heap u d as
  | .none, _, _, h, r => by
    cases h
    cases r
    exact ⟨_, .none⟩
  | .bool b, _, _, h, r => by
    cases h
    cases r
    exact ⟨_, .bool b⟩
  | .int i, _, _, h, r => by
    cases h
    obtain ⟨t, rfl⟩ := r
    exact ⟨_, .int i t⟩
  | .str x, _, _, h, r => by
    cases h
    obtain ⟨t, rfl⟩ := r
    exact ⟨_, .str x t⟩
  | .list ds, _, _, h, r => by
    cases h with
    | lst o e al =>
      cases r
      obtain ⟨its, ob, n, rv, h1, h2, h3⟩ := obj_lst I e
      obtain ⟨as, ra⟩ := dq_readsAll I ds _ its al rv
      exact ⟨_, .list h1 h2 h3 ra⟩
  | .tuple ds, _, _, h, r => by
    cases h with
    | tup o e al =>
      cases r
      obtain ⟨its, ob, n, rv, h1, h2, h3⟩ := obj_tup I e
      obtain ⟨as, ra⟩ := dq_readsAll I ds _ its al rv
      exact ⟨_, .tuple h1 h2 h3 ra⟩
  | .dict kvs, _, _, h, r => by
    cases h with
    | emp o e =>
      cases r
      obtain ⟨ob, n, h1, h2, h3, _⟩ := obj_emp I e
      exact ⟨_, .dict h1 h2 h3 .nil .nil⟩
    | ent o e =>
      cases r
      obtain ⟨ob, es, n, hh, t, t2, h1, h2, h3, h4, _⟩ := obj_ent I e
      exact ⟨_, .dict h1 h2 h3 (by rw [h4]; exact .cons (.str _ _) .nil) (by rw [h4]; exact .cons (.int _ _) .nil)⟩
theorem dq_readsAll (I : Inv X pins σ H s) : ∀ (ds : List PyData) (vs : List V) (us : List Value), DQAll D H vs ds → Vals vs us → ∃ as, ReadsAll s.heap us ds as
  | [], _, _, h, r => by
    cases h
    cases r
    exact ⟨_, .nil⟩
  | d :: ds, _, _, h, r => by
    cases h with
    | cons h1 h2 =>
      cases r with
      | cons r1 r2 =>
        obtain ⟨as, q1⟩ := dq_reads I d _ _ h1 r1
        obtain ⟨bs, q2⟩ := dq_readsAll I ds _ _ h2 r2
        exact ⟨_, .cons q1 q2⟩
end
theorem entries0 {as : List Addr} {h₀ : Heap} {d : Nat} {prog : Program} {w : World} : ReprEntriesK prog w as h₀ d (#[] : Array DictEntry).toList [] := .nil
mutual
theorem dq_repr (I : Inv X pins σ H s) : ∀ (d : PyData) (v : V) (u : Value), DQ D H v d → RelV v u → gd d = true → wt d ≤ 1000000 → ∃ bs, ReadAtMost s.heap d.depth bs ∧ ReprK X.prog X.w bs s.heap d.depth u d.shown
  | .none, _, _, h, r, _, _ => by
    cases h
    cases r
    exact ⟨[], (fun _ z => nomatch z), by simp only [PyData.shown]; exact .of_is ReprIs.none _ _ _⟩
  | .bool b, _, _, h, r, _, _ => by
    cases h
    cases r
    exact ⟨[], (fun _ z => nomatch z), by simp only [PyData.shown]; exact .of_is (ReprIs.bool b) _ _ _⟩
  | .int i, _, _, h, r, g, _ => by
    cases h
    obtain ⟨t, rfl⟩ := r
    exact ⟨[], (fun _ z => nomatch z), by simp only [PyData.shown]; exact .of_is (ReprIs.int t (int_show g).2) _ _ _⟩
  | .str x, _, _, h, r, g, _ => by
    cases h
    obtain ⟨t, rfl⟩ := r
    have hx : (reprText x).length ≤ sizeLine := small (Nat.le_trans (reprText_le g) (by decide))
    exact ⟨[], (fun _ z => nomatch z), by simp only [PyData.shown]; exact .of_is (ReprIs.str x t hx) _ _ _⟩
  | .list ds, _, _, h, r, g, z => by
    have rd := dq_reads I (.list ds) _ _ h r
    cases h with
    | @lst a xs _ o e al =>
      cases r
      simp only [gd] at g
      simp only [wt] at z
      obtain ⟨its, ob, n, rv, h1, h2, h3⟩ := obj_lst I e
      obtain ⟨bs, hb, hk⟩ := dq_reprAll I ds _ its al rv g (by omega)
      obtain ⟨as, rd⟩ := rd
      have hna : a ∉ bs := not_mem_of_deeper rd (by simp only [PyData.depth]; omega) hb
      refine ⟨a :: bs, ReadAtMost.cons rd (by simp only [PyData.depth]; omega) hb, ?_⟩
      simp only [PyData.depth, PyData.shown]
      cases its with
      | nil =>
        cases rv
        cases al
        simp only [PyData.shownAll, listText_nil]
        exact ReprK.listEmpty h1 h2 h3
      | cons y l => exact ReprK.list h1 h2 h3 hna (by simpa using hk.length_eq) (fun i w e => hk.item i w (by simpa using e))
  | .tuple ds, _, _, h, r, g, z => by
    have rd := dq_reads I (.tuple ds) _ _ h r
    cases h with
    | @tup a xs _ o e al =>
      cases r
      simp only [gd] at g
      simp only [wt] at z
      obtain ⟨its, ob, n, rv, h1, h2, h3⟩ := obj_tup I e
      obtain ⟨bs, hb, hk⟩ := dq_reprAll I ds _ its al rv g (by omega)
      obtain ⟨as, rd⟩ := rd
      have hna : a ∉ bs := not_mem_of_deeper rd (by simp only [PyData.depth]; omega) hb
      refine ⟨a :: bs, ReadAtMost.cons rd (by simp only [PyData.depth]; omega) hb, ?_⟩
      simp only [PyData.depth, PyData.shown]
      exact ReprK.tuple h1 h2 h3 hna hk
  | .dict kvs, _, _, h, r, g, _ => by
    have rd := dq_reads I (.dict kvs) _ _ h r
    cases h with
    | @emp a o e =>
      cases r
      obtain ⟨ob, n, h1, h2, h3, hs⟩ := obj_emp I e
      obtain ⟨as, rd⟩ := rd
      refine ⟨[a], ReadAtMost.cons rd (n := 0) (Nat.zero_le _) (fun _ z => nomatch z), ?_⟩
      simp only [PyData.depth, PyData.shown, PyData.shownKv, PyData.depthKv]
      exact ReprK.dict h1 h2 h3 hs (fun z => nomatch z) entries0
    | @ent a x i o e =>
      cases r
      obtain ⟨ob, es, n, hh, t, t2, h1, h2, h3, h4, hs⟩ := obj_ent I e
      obtain ⟨as, rd⟩ := rd
      simp only [gd, Bool.and_eq_true] at g
      refine ⟨[a], ReadAtMost.cons rd (n := 0) (Nat.zero_le _) (fun _ z => nomatch z), ?_⟩
      have hx : (reprText x).length ≤ sizeLine := small (Nat.le_trans (reprText_le (okS_gd g.1)) (by decide))
      simp only [PyData.depth, PyData.shown, PyData.shownKv, PyData.depthKv]
      exact ReprK.dict h1 h2 h3 hs (fun z => nomatch z) (by rw [h4]; exact .cons (.of_is (ReprIs.str x t hx) _ _ _) (.of_is (ReprIs.int t2 (int_show (okI_gd g.2)).2) _ _ _) .nil)
theorem dq_reprAll (I : Inv X pins σ H s) : ∀ (ds : List PyData) (vs : List V) (us : List Value), DQAll D H vs ds → Vals vs us → gds ds = true → wts ds ≤ 1000000 → ∃ bs, ReadAtMost s.heap (PyData.depthAll ds) bs ∧ ReprAllK X.prog X.w bs s.heap (PyData.depthAll ds) us (PyData.shownAll ds)
  | [], _, _, h, r, _, _ => by
    cases h
    cases r
    exact ⟨[], (fun _ z => nomatch z), by simp only [PyData.shownAll]; exact .nil⟩
  | d :: ds, _, _, h, r, g, z => by
    cases h with
    | cons h1 h2 =>
      cases r with
      | cons r1 r2 =>
        simp only [gds, Bool.and_eq_true] at g
        simp only [wts] at z
        obtain ⟨b1, hb1, k1⟩ := dq_repr I d _ _ h1 r1 g.1 (by omega)
        obtain ⟨b2, hb2, k2⟩ := dq_reprAll I ds _ _ h2 r2 g.2 (by omega)
        simp only [PyData.depthAll, PyData.shownAll]
        refine ⟨b1 ++ b2, (hb1.mono (Nat.le_max_left _ _)).append (hb2.mono (Nat.le_max_right _ _)), ?_⟩
        refine .cons ((k1.more ?_).level_le (Nat.le_max_left _ _)) (k2.more_le ?_ (Nat.le_max_right _ _))
        · intro b hb
          exact List.mem_append_left _ hb
        · intro b hb
          exact List.mem_append_right _ hb
end
end
theorem call_reprQ {X : Cx} (hg : X.A.guards = some []) (hu : X.A.units + 64 < cLine) : CallR X (.builtin "repr") (fun xs H Q => ∃ (v : V) (D : Deck) (d : PyData), xs = [v] ∧ DQ D H v d ∧ gd d = true ∧ wt d ≤ 1000000 ∧ d.depth ≤ 60 ∧ Q (.str d.shown) H) := by
  intro pins s σ H xs us Q I r h
  obtain ⟨v, D, d, rfl, hd, g, z, hz, q⟩ := h
  obtain ⟨u, rfl, rx⟩ := vals1 r
  obtain ⟨hl, _⟩ := shown_le d g
  have big : (1000000 : Nat) ≤ sizeLine := by decide
  have fits : d.shown.length ≤ sizeLine := by omega
  have fin : ∀ (h' : Heap) (t : Tok) (tk : Tok), (∀ b o, s.heap.get? b = some o → h'.get? b = some o) → EP X pins σ Q (.str d.shown t) { s with heap := h', toks := tk } := fun h' t tk hk => ⟨.str d.shown, H, I.kept (t' := tk) hk, ⟨t, rfl⟩, q⟩
  have nil0 : ∀ b ∈ ([] : List Addr), True := fun _ _ => trivial
  have key := dq_repr I d v u hd rx g z
  have rds := dq_reads I d v u hd rx
  cases hd with
  | non =>
    cases rx
    simp only [PyData.shown] at fin
    exact PySem.P.repr_of_none (fin s.heap _ _ fun _ _ e => e)
  | bl b =>
    cases rx
    simp only [PyData.shown] at fin
    exact PySem.P.repr_of_bool (fin s.heap _ _ fun _ _ e => e)
  | int i =>
    obtain ⟨t, rfl⟩ := rx
    simp only [PyData.shown] at fin
    exact PySem.P.repr_of_int (int_show g).2 (fin s.heap _ _ fun _ _ e => e)
  | str x =>
    obtain ⟨t, rfl⟩ := rx
    simp only [PyData.shown] at fin fits
    exact PySem.P.repr_of_str (fin s.heap _ _ fun _ _ e => e) fits
  | @lst a xs ds o e al =>
    cases rx
    simp only [gd] at g
    simp only [wt] at z
    simp only [PyData.shown] at fin fits
    simp only [PyData.depth] at hz
    obtain ⟨its, ob, n, rv, h1, h2, h3⟩ := obj_lst I e
    obtain ⟨bs, hb, hk⟩ := dq_reprAll I ds _ its al rv g (by omega)
    obtain ⟨as, rd⟩ := rds
    have hna : a ∉ bs := not_mem_of_deeper rd (by simp only [PyData.depth]; omega) hb
    refine call_repr_slot (by omega) ⟨ob, h1, h2⟩ F.slot_list_repr.toG ?_
    cases its with
    | nil =>
      cases rv
      cases al
      simp only [PyData.shownAll, listText_nil] at fin
      exact call_list_repr_empty ⟨ob, h1, h2⟩ h1 h3 ⟨_, _, rfl, fin s.heap _ _ fun _ _ e => e⟩
    | cons y l => exact call_list_reprK h1 h2 h3 hna (by simpa using hk.length_eq) (fun i w e => hk.item i w (by simpa using e)) hg (fun b _ => Clear.nil b) (by show X.A.units + 1 + (PyData.depthAll ds + 1) < cLine; omega) (fun _ _ e => e) (fun h' u tk hk => ⟨_, _, rfl, fin h' u tk hk⟩) fits
  | @tup a xs ds o e al =>
    cases rx
    simp only [gd] at g
    simp only [wt] at z
    simp only [PyData.shown] at fin fits
    simp only [PyData.depth] at hz
    obtain ⟨its, ob, n, rv, h1, h2, h3⟩ := obj_tup I e
    obtain ⟨bs, hb, hk⟩ := dq_reprAll I ds _ its al rv g (by omega)
    obtain ⟨as, rd⟩ := rds
    have hna : a ∉ bs := not_mem_of_deeper rd (by simp only [PyData.depth]; omega) hb
    refine call_repr_slot (by omega) ⟨ob, h1, h2⟩ F.slot_tuple_repr ?_
    exact call_tuple_reprK h1 h2 h3 hna hk hg (fun b _ => Clear.nil b) (by show X.A.units + 1 + (PyData.depthAll ds + 1) < cLine; omega) (fun _ _ e => e) (fun h' u tk hk => ⟨_, _, rfl, fin h' u tk hk⟩) fits
  | @emp a o e =>
    cases rx
    simp only [PyData.shown, PyData.shownKv] at fin fits
    obtain ⟨ob, n, h1, h2, h3, hs⟩ := obj_emp I e
    refine call_repr_slot (by omega) ⟨ob, h1, h2⟩ F.slot_dict_repr ?_
    exact call_dict_reprK h1 h2 h3 hs (as := []) (fun z => nomatch z) (d := 0) entries0 hg (fun b _ => Clear.nil b) (by show X.A.units + 1 + (0 + 1) < cLine; omega) (fun _ _ e => e) (fun h' u tk hk => ⟨_, _, rfl, fin h' u tk hk⟩) fits
  | @ent a x i o e =>
    cases rx
    simp only [PyData.shown, PyData.shownKv] at fin fits
    simp only [gd, Bool.and_eq_true] at g
    obtain ⟨ob, es, n, hh, t, t2, h1, h2, h3, h4, hs⟩ := obj_ent I e
    have hx : (reprText x).length ≤ sizeLine := small (Nat.le_trans (reprText_le (okS_gd g.1)) (by decide))
    refine call_repr_slot (by omega) ⟨ob, h1, h2⟩ F.slot_dict_repr ?_
    exact call_dict_reprK h1 h2 h3 hs (as := []) (fun z => nomatch z) (d := 0) (by rw [h4]; exact .cons (.of_is (ReprIs.str x t hx) _ _ _) (.of_is (ReprIs.int t2 (int_show (okI_gd g.2)).2) _ _ _) .nil) hg (fun b _ => Clear.nil b) (by show X.A.units + 1 + (0 + 1) < cLine; omega) (fun _ _ e => e) (fun h' u tk hk => ⟨_, _, rfl, fin h' u tk hk⟩) fits
def tyD : PyData → String
  | .none => "NoneType"
  | .bool _ => "bool"
  | .int _ => "int"
  | .str _ => "str"
  | .list _ => "list"
  | .tuple _ => "tuple"
  | .dict _ => "dict"
theorem dq_ty {K : PySem.W.Frag} {D : Deck} {H : Hp} {v : V} {d : PyData} (h : DQ D H v d) : TyX K H v (.type (tyD d)) := by
  cases h with
  | non => exact .base .non
  | bl b => exact .base (.bl b)
  | int i => exact .base (.int i)
  | str x => exact .base (.str x)
  | lst _ e _ => exact .base (.lst e)
  | tup _ e _ => exact .base (.tup e)
  | emp _ e => exact .base (.dK e)
  | ent _ e => exact .base (.dK e)
def isStrD : PyData → Bool
  | .str _ => true
  | _ => false
def isTupD : PyData → Bool
  | .tuple _ => true
  | _ => false
theorem kit_str (d : PyData) : kitB (tyD d) "str" = some (isStrD d) := by
  cases d <;> (simp only [tyD, isStrD]; decide +kernel)
theorem kit_tup (d : PyData) : kitB (tyD d) "tuple" = some (isTupD d) := by
  cases d <;> (simp only [tyD, isTupD]; decide +kernel)
theorem isStr_of {d : PyData} (h : isStrD d = true) : ∃ x, d = .str x := by
  cases d <;> first | exact ⟨_, rfl⟩ | exact absurd h Bool.false_ne_true
theorem gds_app : ∀ {a b : List PyData}, gds (a ++ b) = (gds a && gds b)
  | [], b => by simp only [List.nil_append, gds, Bool.true_and]
  | d :: a, b => by
    have h := gds_app (a := a) (b := b)
    simp only [List.cons_append, gds, h, Bool.and_assoc]
/-! ### whole numbers among all values -/
def isI : PyData → Bool
  | .int _ => true
  | .bool _ => true
  | _ => false
def isBo : PyData → Bool
  | .bool _ => true
  | _ => false
def isW : PyData → Bool
  | .int _ => true
  | _ => false
theorem kit_int (d : PyData) : kitB (tyD d) "int" = some (isI d) := by
  cases d <;> (simp only [tyD, isI]; decide +kernel)
theorem kit_bo (d : PyData) : kitB (tyD d) "bool" = some (isBo d) := by
  cases d <;> (simp only [tyD, isBo]; decide +kernel)
def isIx (d : PyData) (lo hi : Int) : Bool := match d with
  | .int i => decide (lo ≤ i) && decide (i ≤ hi)
  | _ => false
theorem DQ.intI {D : Deck} {H : Hp} {v : V} {i : Int} (h : DQ D H v (.int i)) : v = .int i := by cases h; rfl
def spWholeQ : Sp := fun vs H Q _ => ∃ (v : V) (D : Deck) (d : PyData), vs = [v] ∧ DQ D H v d ∧ Q (.bl (isW d)) H
def spIndexQ : Sp := fun vs H Q _ => ∃ (v : V) (D : Deck) (d : PyData) (m : Int), vs = [v, .int m] ∧ DQ D H v d ∧ Q (.bl (isIx d 0 (m - 1))) H
def spFrom : Sp := fun vs H Q _ => ∃ (v : V) (D : Deck) (d : PyData) (lo hi : Int), vs = [v, .int lo, .int hi] ∧ DQ D H v d ∧ Q (.bl (isIx d lo hi)) H
section
variable {P : Program} {w : World} {K : PySem.W.Frag} {mg : Str → Option Value} {base : Heap} {f : Addr} {fd : FuncData}
theorem ok_wholeQ {k : Nat} (F : Fun K "is_whole_number" "is_whole_number" s_is_whole_number f fd) (M : Mgs mg) : FnOk P w K mg base CX0 (k + 1) f fd ["value"] spWholeQ := by
  refine F.ok sc_is_whole_number (fun vs H Q E h => ?_) (fun cdv A outer s H vs Q E hr h => ?_)
  · obtain ⟨v, D, d, rfl, _⟩ := h
    rfl
  obtain ⟨v, D, d, rfl, hd, q⟩ := h
  refine ⟨_, (pss_one (ps_ret (pe_and (pe_callB call_isi rfl M.isinstance (by decide +kernel) (pa_cons (pv 0) (pa_cons (pe_bltn (v := .ty "int") rfl M.int (by decide +kernel) rfl) pa_nil))) (pe_one (pe_not (pe_callB call_isi rfl M.isinstance (by decide +kernel) (pa_cons (pv 0) (pa_cons (pe_bltn (v := .ty "bool") rfl M.bool (by decide +kernel) rfl) pa_nil)))))))), ?_⟩
  refine ⟨_, rfl, _, _, _, _, isI d, rfl, .ty _, dq_ty hd, kit_ty (kit_int d), _, rfl, ?_⟩
  cases hi : isI d with
  | false =>
    have : isW d = false := by cases d <;> first | rfl | cases hi
    rw [this] at q
    exact iteF q
  | true =>
    refine iteT ⟨_, rfl, _, _, _, _, isBo d, rfl, .ty _, dq_ty hd, kit_ty (kit_bo d), _, rfl, ?_⟩
    have : isW d = !isBo d := by cases d <;> first | rfl | cases hi
    rw [this] at q
    exact q
theorem ok_indexQ {k : Nat} (F : Fun K "is_index" "is_index" s_is_index f fd) (M : Mgs mg) (Dis_whole_number : Df P w K mg base (k + 1) "is_whole_number" ["value"] spWholeQ) : FnOk P w K mg base CX0 (k + 2) f fd ["value", "many"] spIndexQ := by
  refine F.ok (k := k + 1) sc_is_index (fun vs H Q E h => ?_) (fun cdv A outer s H vs Q E hr h => ?_)
  · obtain ⟨v, D, d, m, rfl, _⟩ := h
    rfl
  obtain ⟨v, D, d, m, rfl, hd, q⟩ := h
  refine ⟨_, (pss_one (ps_ret (pe_and (pe_call Dis_whole_number.ok (hr.mono (by omega)) rfl Dis_whole_number.g Dis_whole_number.kp Dis_whole_number.b .nil pass0 (pa_cons (pv 0) pa_nil)) (pe_one (pe_chain op_le op_lt pe_int (pv 0) (pv 1)))))), ?_⟩
  refine ⟨_, rfl, v, D, d, rfl, hd, _, rfl, ?_⟩
  cases d with
  | int i =>
    have := hd.intI
    subst this
    refine iteT ⟨_, rfl, _, _, rfl, rfl, _, rfl, ?_⟩
    have q : Q (.bl (decide (0 ≤ i) && decide (i ≤ m - 1))) H := q
    by_cases h0 : 0 ≤ i
    · rw [decide_eq_true h0] at q ⊢
      refine iteT ⟨_, rfl, _, _, rfl, rfl, ?_⟩
      show Q (V.bl (decide (i < m))) H
      rw [show decide (i < m) = decide (i ≤ m - 1) from decide_eq_decide.mpr (by omega)]
      exact q
    · rw [decide_eq_false h0] at q ⊢
      exact iteF q
  | _ => exact iteF q
theorem ok_lwhole {k : Nat} (F : Fun K "_law_whole" "_law_whole" s__law_whole f fd) (M : Mgs mg) : FnOk P w K mg base CX0 (k + 1) f fd ["_law_value", "_law_low", "_law_high"] spFrom := by
  refine F.ok sc__law_whole (fun vs H Q E h => ?_) (fun cdv A outer s H vs Q E hr h => ?_)
  · obtain ⟨v, D, d, lo, hi, rfl, _⟩ := h
    rfl
  obtain ⟨v, D, d, lo, hi, rfl, hd, q⟩ := h
  refine ⟨_, (pss_one (ps_ret (pe_and (pe_callB call_isi rfl M.isinstance (by decide +kernel) (pa_cons (pv 0) (pa_cons (pe_bltn (v := .ty "int") rfl M.int (by decide +kernel) rfl) pa_nil))) (pe_and (pe_not (pe_callB call_isi rfl M.isinstance (by decide +kernel) (pa_cons (pv 0) (pa_cons (pe_bltn (v := .ty "bool") rfl M.bool (by decide +kernel) rfl) pa_nil)))) (pe_one (pe_chain op_le op_le (pv 1) (pv 0) (pv 2))))))), ?_⟩
  refine ⟨_, rfl, _, _, _, _, isI d, rfl, .ty _, dq_ty hd, kit_ty (kit_int d), _, rfl, ?_⟩
  cases d with
  | bool b => exact iteT ⟨_, rfl, _, _, _, _, true, rfl, .ty _, dq_ty hd, kit_ty (kit_bo (.bool b)), _, rfl, _, rfl, iteF q⟩
  | int i =>
    have := hd.intI
    subst this
    refine iteT ⟨_, rfl, _, _, _, _, false, rfl, .ty _, dq_ty hd, kit_ty (kit_bo (.int i)), _, rfl, _, rfl, iteT ⟨_, rfl, _, rfl, _, _, rfl, rfl, _, rfl, ?_⟩⟩
    have q : Q (.bl (decide (lo ≤ i) && decide (i ≤ hi))) H := q
    by_cases h0 : lo ≤ i
    · rw [decide_eq_true h0] at q ⊢
      exact iteT ⟨_, rfl, _, _, rfl, rfl, q⟩
    · rw [decide_eq_false h0] at q ⊢
      exact iteF q
  | _ => exact iteF q
end
/-! ### own errors with one field, over ValueError or LookupError -/
section
open PySem.Builtin PySem.Builtin.ObjectAttr PySem.HandSPX
/-- own classes, then the mro of the built-in one -/
def refsT (tail : List Value) : List Value → Bool
  | .ref _ :: r => refsT tail r
  | l => l == tail
/-- a family of errors: what the library says of its built-in class -/
structure Fam (B newId initId : String) (tail : List Value) : Prop where
  facts : ExcBaseFacts B newId initId tail
  pass : ∀ self, refuseLoop self "__setattr__" tail = pure ()
  obj : tail.contains (.type "object") = true
theorem famV : Fam "ValueError" "ValueError.__new__" "ValueError.__init__" [.type "ValueError", .type "Exception", .type "BaseException", .type "object"] := ⟨F.excBase_ValueError, fun self => F.store_ValueError.passes self, by decide +kernel⟩
theorem famL : Fam "LookupError" "LookupError.__new__" "LookupError.__init__" [.type "LookupError", .type "Exception", .type "BaseException", .type "object"] := ⟨F.excBase_LookupError, fun self => F.store_LookupError.passes self, by decide +kernel⟩
theorem refsT_or {tail : List Value} (l : List Value) (h : refsT tail l = true) : (∃ c r, l = .ref c :: r ∧ refsT tail r = true) ∨ l = tail := by
  unfold refsT at h
  split at h
  · exact .inl ⟨_, _, rfl, h⟩
  · exact .inr (beq_iff_eq.mp h)
theorem refsT_all {tail : List Value} {Good : List Value → Prop} (h0 : Good tail) (hs : ∀ c r, Good r → Good (.ref c :: r)) : ∀ l : List Value, refsT tail l = true → Good l
  | [], h => by
    rcases refsT_or [] h with ⟨_, _, e, _⟩ | e
    · cases e
    · rw [e]; exact h0
  | a :: r, h => by
    rcases refsT_or (a :: r) h with ⟨c, r', e, h'⟩ | e
    · cases e
      exact hs c r (refsT_all h0 hs r h')
    · rw [e]; exact h0
variable {B newId initId : String} {tail : List Value}
theorem Fam.passes (fam : Fam B newId initId tail) (self : Value) (l : List Value) (h : refsT tail l = true) : refuseLoop self "__setattr__" l = pure () :=
  refsT_all (Good := fun l => refuseLoop self "__setattr__" l = pure ()) (fam.pass self) (fun c r e => by rw [refuseLoop_ref]; exact e) l h
theorem refsT_has (X : String) (l : List Value) (h : refsT tail l = true) : l.contains (.type X) = tail.contains (.type X) :=
  refsT_all (Good := fun l => l.contains (.type X) = tail.contains (.type X)) rfl (fun c r e => by rw [List.contains_cons, e]; rfl) l h
theorem Fam.some (fam : Fam B newId initId tail) (l : List Value) (h : refsT tail l = true) : l.isEmpty = false := by
  cases l with
  | nil =>
    have e := refsT_has "object" [] h
    rw [fam.obj] at e
    exact absurd e (by decide)
  | cons _ _ => rfl
/-- the first field of an error -/
theorem first_field {prog : Program} {w : World} {A : Around} {R : Result → Shared → Prop} {hp : Heap} {g : Array GenState} {d : Drawn} {t : Nat} {os : OsState} {K : PySem.W.Frag} {name : Str} {tk : Tok} {v : Value} {x C : Addr} {fv : Array Value} {cd : ClassData}
    (fam : Fam B newId initId tail) (inK : K.In hp) (isX : hp.get? x = some { cls := .ref C, data := .fields fv }) (isC : PySem.W.clsIn K C = some cd)
    (isM : refsT tail cd.mro = true) (dict : cd.hasDict = true) (free : PySem.W.findIn K (.ref C) name = some none)
    (done : ∀ h' tk' dx, (∀ b o, b ≠ x → hp.get? b = some o → h'.get? b = some o) → hp.objs.size ≤ dx → dx ≠ x →
      h'.get? x = some { cls := .ref C, dict := some dx, data := .fields fv } → h'.Ns1 dx (fun y => if y = name then some v else none) → R (.ok (.ret .none)) ⟨h', g, d, tk', os⟩) :
    codeAny (model prog w) A (.call (.builtin "object.__setattr__") ⟨[.ref x, .str name tk, v], []⟩) R ⟨hp, g, d, t, os⟩ := by
  have at0 : PySem.W.InstAt hp x { cls := .ref C, data := .fields fv } C none := ⟨isX, rfl, rfl, trivial⟩
  have store := PySem.F.store_object
  have hasObj : cd.mro.contains (.type "object") = true := (refsT_has "object" _ isM).trans fam.obj
  have notNew : x ≠ hp.objs.size := Nat.ne_of_lt (Heap.lt_size isX)
  have isSub : PySem.W.Looks (model prog w) hp (isInstance (.ref x) (.type "object")) true := by
    refine at0.type.andThen (PySem.W.looks_mroIn inK ?_)
    unfold PySem.W.mroIn
    rw [isC, Option.bind_some, if_neg (by rw [fam.some _ isM]; decide), hasObj]
  refine codeAny_call_builtin store.slot.plain store.entry ?_
  refine @PySem.W.check_slot (model prog w) _ _ ⟨hp, g, d, t, os⟩ "object.__setattr__" "object" "__setattr__" (.ref x) [.str name tk, v] [] _ store.kind store.split isSub
    (store.args (.ref x) (.str name tk) v) ?_
  have mroL : PySem.W.Looks (model prog w) hp (mroOf (.ref C)) cd.mro := (PySem.W.looks_clsIn inK isC).andThen .now
  have noTaker : PySem.W.Looks (model prog w) hp (storeTaker? none) none := .now
  have clsL : PySem.W.Looks (model prog w) hp (classData C) cd := PySem.W.looks_clsIn inK isC
  rw [PySem.W.osa_eq, refuse_eq]
  refine wpAny_bind (wpAny_bind (at0.type.at (wpAny_bind (mroL.at ?_))))
  rw [fam.passes _ _ isM]
  refine wpAny_pure (wpAny_bind (at0.type.at (wpAny_bind ((PySem.W.looks_findIn inK free).at ?_))))
  refine wpAny_bind (noTaker.at ?_)
  show wpAny _ _ (storeInOwnDict (.ref x) (.ref C) (.str name tk) name v false) _ _ _
  obtain ⟨nm, bs, mro, nsA, qn, hd, sn, sb, ab, col, del⟩ := cd
  dsimp only at dict
  subst dict
  unfold storeInOwnDict ownDictForStores
  repeat (first
    | with_reducible refine store_in_new ?_ ?_
    | with_reducible refine wpAny_loadPart_at isX ?_
    | with_reducible refine clsL.at ?_
    | wp_step)
  · refine ⟨_, #[], _, (Heap.get?_update_ne _ _ _ _ notNew.symm).trans (Heap.get?_push_at rfl rfl), rfl, ?_, fun _ => rfl⟩
    intro e he
    exact absurd he (by simp)
  · intro h' tk' ns1 same
    have isX1 : (hp.push { cls := .type "dict", data := .dict #[] }).get? x = some { cls := .ref C, data := .fields fv } := Heap.get?_push_of_some _ isX
    refine done h' tk' hp.objs.size ?_ (Nat.le_refl _) notNew.symm ?_ ns1
    · intro b o hb ho
      refine (same.2 b (Nat.ne_of_lt (Heap.lt_size ho))).trans ?_
      exact (Heap.get?_update_ne _ _ _ _ hb).trans (Heap.get?_push_of_some _ ho)
    · exact (same.2 x notNew).trans (Heap.get?_update_self _ isX1 rfl)
end
abbrev veT : List Value := [.type "ValueError", .type "Exception", .type "BaseException", .type "object"]
abbrev leT : List Value := [.type "LookupError", .type "Exception", .type "BaseException", .type "object"]
/-! ### errors with the field value -/
def iA_value (p1 p2 : Pos) : Arguments := { posonlyargs := [], args := [{ arg := "self", annotation := none, pos := p1 }, { arg := "value", annotation := none, pos := p2 }], vararg := none, kwonlyargs := [], kw_defaults := [], kwarg := none, defaults := [] }
def iB_value (q1 q2 q3 q4 : Pos) : List Stmt := [.Assign [.Attribute (.Name "self" q1) "value" q2] (.Name "value" q3) q4]
def iS_value : Scope := { kind := .function, names := [(PySem.Str.ofString "self", .local), (PySem.Str.ofString "value", .local)], isGenerator := false, isCoroutine := false, more := [] }
/-- what the written part says of the class cn, at C, and of its __init__, at fI -/
structure Err_value (K : PySem.W.Frag) (mg : Str → Option Value) (newId : String) (tail : List Value) (cn qn : Str) (C fI : Addr) : Prop where
  gC : mg cn = some (.ref C)
  nd : (cn == ("__debug__" : Str)) = false
  cls : ∃ nm q N bs bm sn sub ab col dd k0 k1 k2 k3 k5, K.lookup C = some (excClassObj nm q C N bs bm true sn sub ab col dd k0 k1 k2 k3 k5 newId) ∧ refsT tail bm = true
  sa : PySem.W.findIn K (.ref C) "__setattr__" = some (some (.builtin "object.__setattr__"))
  ga : PySem.W.findIn K (.ref C) "__getattribute__" = some (some (.builtin "BaseException.__getattribute__"))
  gg : PySem.W.findIn K (.ref C) "__getattr__" = some none
  noN : PySem.W.findIn K (.ref C) "value" = some none
  iC : PySem.W.findIn K (.ref C) "__init__" = some (some (.ref fI))
  tC : PySem.W.typeIn K (.ref fI) = some (.type "function")
  kC : PySem.W.keepIn K (.ref C) = true
  exC : PySem.W.subIn K (.ref C) (.type "BaseException") = some true
  tyC : PySem.W.typeIn K (.ref C) = some (.type "type")
  hdC : PySem.W.hasDictIn K C = true
  fn : ∃ (oc : Value) (od : Option Addr) (doc pm : Value) (an : Option Addr) (cdv ct : Value) (osl : Array (Option Value)) (p1 p2 q1 q2 q3 q4 : Pos),
    K.lookup fI = some ⟨oc, od, .func (PySem.W.fnOf "__init__" qn (iA_value p1 p2) (iB_value q1 q2 q3 q4) iS_value .none .none doc pm an cdv ct), osl⟩ ∧ PySem.W.codeIn K cdv qn = true
section
open PySem.Builtin PySem.Builtin.ObjectAttr PySem.HandSPX
variable {prog : Program} {w : World} {A : Around} {E : Value → Shared → Prop} {R : Result → Shared → Prop} {s : Shared} {K : PySem.W.Frag} {mg : Str → Option Value} {C fI : Addr} {B newId initId : String} {tail : List Value} {cn qn : Str}
theorem init_value (fam : Fam B newId initId tail) (T : Err_value K mg newId tail cn qn C fI) {x t0 : Addr} {v : Value} (inK : K.In s.heap) (lim : s.heap.NoLimit) (isX : s.heap.get? x = some (excO C t0)) (offK : K.lookup x = none) (room : A.depth < recursionLimit)
    (done : ∀ h' tk dx, (∀ b o, b ≠ x → s.heap.get? b = some o → h'.get? b = some o) → h'.get? x = some { cls := .ref C, dict := some dx, data := .fields #[.ref t0, .none, .none, .none, .bool false, .none] } → s.heap.objs.size ≤ dx → dx ≠ x →
      h'.Ns1 dx (fun y => if y = "value" then some v else none) → R (.ok (.ret .none)) { s with heap := h', toks := tk }) :
    codeAny (model prog w) A (.call (.ref fI) ⟨[.ref x, v], []⟩) R s := by
  obtain ⟨oc, od, doc, pm, an, cdv, ct, osl, p1, p2, q1, q2, q3, q4, isF, isCode⟩ := T.fn
  obtain ⟨nm, q, N, bs, bm, sn, sub, ab, col, dd, k0, k1, k2, k3, k5, isC, isM⟩ := T.cls
  have cls : PySem.W.clsIn K C = some { name := nm, bases := bs, mro := .ref C :: bm, ns := N, qualname := q, hasDict := true, slotNames := sn, subclasses := sub, abstract := ab, collection := col, hasDel := false } := by
    unfold PySem.W.clsIn
    rw [isC] <;> rfl
  refine Att.call_fn (binds := [("self", .ref x), ("value", v)]) inK lim isF isCode room (BindsTo.of_eq (by first | rfl | with_unfolding_all rfl)) (by first | rfl | decide | with_unfolding_all rfl) (fun s₁ IC => ?_) rfl rfl rfl
  obtain ⟨h₁, tk₁, rfl⟩ := IC.toInCall.same
  have keep : ∀ b o, s.heap.get? b = some o → h₁.get? b = some o := IC.toInCall.keep
  have locals := IC.toInCall.ns
  have inK₁ : K.In h₁ := inK.keeps keep
  have isX₁ := keep _ _ isX
  show wpAny _ _ (execs _ _) _ _ _
  refine wpAny_execs_cons (plainObj_wpAny_Assign_Attribute ?_)
  refine wpAny_Name (wpAny_loadName_local (by rfl) (by rfl) locals (v := v) (by first | rfl | with_unfolding_all rfl | kernel_rfl) ?_) (by decide)
  refine wpAny_Name (wpAny_loadName_local (by rfl) (by rfl) locals (v := .ref x) (by first | rfl | with_unfolding_all rfl | kernel_rfl) ?_) (by decide)
  refine PySem.W.set_plain inK₁ (ox := excO C t0) (od := none) ⟨isX₁, rfl, rfl, trivial⟩ T.sa ?_
  refine first_field fam inK₁ isX₁ cls (show refsT tail (.ref C :: bm) = true from isM) rfl T.noN (fun h₃ tk₃ dx k₃ dn dne hx₃ hn₃ => ?_)
  show wpAny _ _ (execs _ _) _ _ _
  have z : s.heap.objs.size < h₁.objs.size := locals.lt
  exact wpAny_execs_nil (done h₃ tk₃ dx (fun b o hb e => k₃ b o hb (keep b o e)) hx₃ (Nat.le_of_lt (Nat.lt_of_lt_of_le z dn)) dne hn₃)
/-- a made error -/
structure Made_value (h h' : Heap) (e C d : Addr) (v : Value) : Prop where
  keep : ∀ b o, h.get? b = some o → h'.get? b = some o
  new : h.objs.size ≤ e
  obj : ∃ oe vs, h'.get? e = some oe ∧ oe.cls = .ref C ∧ oe.dict = some d ∧ oe.data = .fields vs ∧ vs[1]? = some .none
  dbig : h.objs.size ≤ d
  dne : d ≠ e
  ns : h'.Ns1 d (fun y => if y = "value" then some v else none)
theorem made_value (fam : Fam B newId initId tail) (T : Err_value K mg newId tail cn qn C fI) {v : Value} (inK : K.In s.heap) (lim : s.heap.NoLimit) (room : A.depth + 1 < recursionLimit)
    (done : ∀ h' tk e d, Made_value s.heap h' e C d v → R (.ok (.ret (.ref e))) { s with heap := h', toks := tk }) :
    codeAny (model prog w) A (.call (.ref C) ⟨[v], []⟩) R s := by
  obtain ⟨nm, q, N, bs, bm, sn, sub, ab, col, dd, k0, k1, k2, k3, k5, isC, isM⟩ := T.cls
  obtain ⟨hp, g, dr, tk, os⟩ := s
  have keep : ∀ b o, hp.get? b = some o → ((hp.push (PySem.W.kdv_tup [v])).push (excO C hp.objs.size)).get? b = some o := fun b o e => Heap.get?_push_of_some _ (Heap.get?_push_of_some _ e)
  have isE : ((hp.push (PySem.W.kdv_tup [v])).push (excO C hp.objs.size)).get? (hp.objs.size + 1) = some (excO C hp.objs.size) := by heap_get
  have offK : K.lookup (hp.objs.size + 1) = none := by
    cases e : K.lookup (hp.objs.size + 1) with
    | none => rfl
    | some o => exact absurd (Nat.lt_of_succ_lt (Heap.lt_size (inK _ _ e))) (Nat.lt_irrefl _)
  refine call_own fam.facts (fun X => refsT_has X bm isM) (inK _ _ isC) (PySem.W.looks_findIn inK T.iC) (fun self => PySem.W.bind_fn inK self T.tC) (by show 1 ≤ sizeLine; decide) ?_
  refine init_value (s := ⟨(hp.push (PySem.W.kdv_tup [v])).push (excO C hp.objs.size), g, dr, tk, os⟩) fam T (inK.keeps keep) (lim.keeps keep) isE offK ?_ fun h' tk' dx k' hx dn dne hns => ?_
  · show A.depth + 1 < recursionLimit
    exact room
  · have old : ∀ b o, hp.get? b = some o → h'.get? b = some o := fun b o e => k' b o (Nat.ne_of_lt (Nat.lt_succ_of_lt (Heap.lt_size e))) (keep b o e)
    have z : hp.objs.size + 1 + 1 ≤ dx := by
      have y := dn
      rw [Heap.size_push, Heap.size_push] at y
      exact y
    exact ⟨rfl, done h' tk' (hp.objs.size + 1) dx ⟨old, Nat.le_succ _, ⟨_, _, hx, rfl, rfl, rfl, rfl⟩, (show hp.objs.size ≤ dx by omega), dne, hns⟩⟩
end
theorem rel_value {v : V} {u : Value} (r : RelV v u) (f : Str) : RelO (List.lookup f [(("value" : Str), v)]) (if f = "value" then some u else none) := by
  by_cases h : f = "value"
  · subst h
    rw [if_pos rfl, show List.lookup ("value" : Str) [(("value" : Str), v)] = some v by simp [List.lookup]]
    exact r
  · have e : (f == ("value" : Str)) = false := by simpa using h
    rw [if_neg h, show List.lookup f [(("value" : Str), v)] = none by simp [List.lookup, e]]
    trivial
section
variable {X : Cx} {C fI : Addr} {B newId initId : String} {tail : List Value} {cn qn : Str}
/-- cn(e) -/
def tMk_value (C : Addr) (ta : TA) : L2.St → Hp → XK → Prop := fun σ H Q => ta σ H fun vs H1 => ∃ v, vs = [v] ∧ ∀ d, H1 d = none → Q (.ref C) (some d) (upd H1 d (.xd [(("value" : Str), v)]))
theorem pmk_value {a : Expr} {ta : TA} {p pos : Pos} {k : Nat} (fam : Fam B newId initId tail) (T : Err_value X.K X.mg newId tail cn qn C fI) (hr : Room k X.A) (ha : PA X [a] ta) (hg : Gl X cn)
    (he : starEach (a :: []) X.env = (false, eval a X.env) :: starEach [] X.env := by rfl) (hpl : (backTo pos (starEach [] X.env)).any (·.1) = false := by rfl) :
    PMk X (.Call (.Name cn p) [a] [] pos) (tMk_value C ta) := by
  intro pins s σ H Q I h
  refine wpAny_Call_Name_kw (ld_glob I hg T.gC ?_ T.nd)
  refine PySem.W.callWith_K (h₀ := X.base) I.ok.mod.kin T.kC (thn (ha.run pos pins s σ H _ I h) ?_) he hpl
  rintro us s1 ⟨vs, H1, I1, r1, v, rfl, q1⟩
  refine ⟨I1.kIn, ?_⟩
  cases r1 with
  | @cons _ v' _ us' rv rn =>
    cases rn
    show wpAny _ _ (call (.ref C) [v']) _ _ _
    have lim := I1.nolimit
    obtain ⟨hp, g, dr, tk, os⟩ := s1
    refine wpAny_call (made_value fam T I1.kIn lim (by have := hr.dp; omega) fun h' tk' e d M => ?_)
    show MkP X pins σ Q (.ref e) ⟨h', g, dr, tk', os⟩
    obtain ⟨oe, fv, hoe, hc, hd, hdat, h1⟩ := M.obj
    obtain ⟨G', g1, g2⟩ := restrict h' fun b => decide (b ≠ e)
    have gk : ∀ b, b ≠ e → G'.get? b = h'.get? b := fun b hb => g1 b (decide_eq_true hb)
    have ge : G'.get? e = none := g2 e (by simp)
    have old : ∀ b o, hp.get? b = some o → G'.get? b = some o := by
      intro b o z
      refine (gk b (Nat.ne_of_lt (Nat.lt_of_lt_of_le (Heap.lt_size z) M.new))).trans ?_
      exact M.keep b o z
    have ok : ObjOk X.prog X.w (upd H1 d (.xd [(("value" : Str), v)])) G' d (.xd [(("value" : Str), v)]) :=
      ⟨_, M.ns.at (fun o z => (gk d M.dne).trans z), fun f => rel_value rv f⟩
    have J : Inv X pins σ (upd H1 d (.xd [(("value" : Str), v)])) ⟨G', g, dr, tk', os⟩ := I1.laid (t' := tk') old M.dbig ok
    refine ⟨e, oe, fv, ⟨G', g, dr, tk', os⟩, _, .ref C, some d, rfl, J, ?_, ge, hoe, ⟨hc, hd⟩, hdat, h1, ?_, rfl, I1.bare, raises_own T.exC T.tyC, q1 d (I1.hok.fresh M.dbig)⟩
    · intro b o z
      by_cases hb : b = e
      · have z' : G'.get? b = some o := z
        rw [hb, ge] at z'
        cases z'
      · exact (gk b hb).symm.trans z
    · rw [upd_ne (Ne.symm M.dne)]
      exact I1.hok.fresh M.new
/-- raise cn(e) -/
def tRaise_value (C : Addr) (W : WX) (ta : TA) : TS := fun _ σ H => tMk_value C ta σ H fun cls d H' => W cls d σ H'
theorem ps_raise_value {a : Expr} {ta : TA} {W : WX} {p pos pos2 : Pos} {k : Nat} (hc : X.calm = true) (fam : Fam B newId initId tail) (T : Err_value X.K X.mg newId tail cn qn C fI) (hr : Room k X.A) (tk : Takes X W) (ha : PA X [a] ta) (hg : Gl X cn)
    (he : starEach (a :: []) X.env = (false, eval a X.env) :: starEach [] X.env := by rfl) (hpl : (backTo pos (starEach [] X.env)).any (·.1) = false := by rfl) :
    PS X (.Raise (some (.Call (.Name cn p) [a] [] pos)) none pos2) (tRaise_value C W ta) := ps_raise hc tk (pmk_value fam T hr ha hg he hpl)
/-- err.value, err the error that the suite holds (at a; its class cls, its dict d) -/
def tFld_value (C : Addr) (a : Addr) (cls : Value) (d : Option Addr) (te : TE) : TE := fun σ H Q => te σ H fun x H1 => x = .ref a ∧ cls = .ref C ∧ ∃ (dd : Addr) (v : V), d = some dd ∧ H1 dd = some (.xd [(("value" : Str), v)]) ∧ Q v H1
theorem pe_fld_value {a : Addr} {oe : Obj} {cls : Value} {d : Option Addr} {pn : List (Addr × Obj)} {e : Expr} {te : TE} {pos : Pos} (T : Err_value X.K X.mg newId tail cn qn C fI) (hz : Zc cls d oe) (hf : ∃ vs, oe.data = .fields vs) (he : PE (X.suite a ((a, oe) :: pn)) e te)
    (hb : attributeBase e "value" X.env (eval e X.env) = eval e X.env := by rfl) :
    PE (X.suite a ((a, oe) :: pn)) (.Attribute e "value" pos) (tFld_value C a cls d te) := by
  constructor
  intro pins s σ H Q I h
  refine attr_of hb (thn (he.run pins s σ H _ I h) ?_)
  rintro u s1 ⟨x, H1, I1, rx, rfl, rfl, dd, v, rfl, ea, q⟩
  cases rx
  obtain ⟨ha, _⟩ := I1.pin (a, oe) (List.mem_append_left _ List.mem_cons_self)
  obtain ⟨vs, hd⟩ := hf
  have ok : ObjOk X.prog X.w H1 s1.heap dd (.xd [(("value" : Str), v)]) := I1.hok dd _ ea
  obtain ⟨mA, hns, hr⟩ := ok
  obtain ⟨od, ho, hl⟩ := lookIn_ns hns
  have look : List.lookup ("value" : Str) [(("value" : Str), v)] = some v := by simp [List.lookup]
  obtain ⟨u, hu, ru⟩ := RelO.some_of (v := v) (o := mA "value") (by rw [← look]; exact hr "value")
  have J : PySem.W.InstAt s1.heap a oe C (some od) := ⟨ha, hz.1, by unfold PySem.W.notCls; rw [hd] <;> rfl, by rw [hz.2]; exact ho⟩
  exact HandSPX.exc_get I1.kIn J T.ga T.gg T.exC (PySem.W.findObj_own T.hdC T.noN rfl (by rw [hl, hu])) (handed_of ru) ⟨v, H1, I1.tok _, ru, q⟩
end
/-! ### isinstance of a caught error that has a dict; several clauses 'except x as n' -/
/-- isinstance(e, c), e the error of the suite: its class D, its dict d -/
def rIsD (K : PySem.W.Frag) (D a : Addr) (d : Option Addr) : List V → Hp → VK → Prop := fun xs H Q =>
  ∃ c u b dd fs, xs = [.ref a, c] ∧ ClsV c u ∧ d = some dd ∧ H dd = some (.xd fs) ∧ PySem.W.kitOne K (.ref D) u = some b ∧ Q (.bl b) H
def rIsDT (K : PySem.W.Frag) (D a : Addr) (d : Option Addr) : List V → Hp → VK → Prop := fun xs H Q =>
  ∃ tp cs us b dd fs, xs = [.ref a, .ref tp] ∧ H tp = some (.tup cs) ∧ Paired ClsV cs us ∧ d = some dd ∧ H dd = some (.xd fs) ∧ PySem.W.kitAny K (.ref D) us = some b ∧ Q (.bl b) H
section
variable {X : Cx} {a D : Addr} {d : Option Addr} {oe : Obj} {pn : List (Addr × Obj)}
theorem inst_of {pins : List (Addr × Obj)} {s : Shared} {σ : L2.St} {H : Hp} {dd : Addr} {fs : List (Str × V)} (hz : Zc (.ref D) (some dd) oe) (hf : ∃ vs, oe.data = .fields vs)
    (I : Inv (X.suite a ((a, oe) :: pn)) pins σ H s) (e : H dd = some (.xd fs)) : ∃ od, PySem.W.InstAt s.heap a oe D (some od) := by
  have here := (I.pin (a, oe) (List.mem_append_left _ List.mem_cons_self)).1
  have ok : ObjOk X.prog X.w H s.heap dd (.xd fs) := I.hok dd _ e
  obtain ⟨mA, ns, -⟩ := ok
  obtain ⟨od, ho, -⟩ := lookIn_ns ns
  refine ⟨od, here, hz.1, ?_, ?_⟩
  · obtain ⟨vs, hv⟩ := hf
    unfold PySem.W.notCls
    rw [hv] <;> rfl
  · rw [hz.2]; exact ho
theorem kit_exD {K : PySem.W.Frag} {od : Option Obj} (C : ExcC K D) : PySem.W.KitX K (.ref a) (.ref D) (fun h => PySem.W.InstAt h a oe D od) := by
  have known : (PySem.W.clsIn K D).isSome = true := by
    obtain ⟨cd, hc, _⟩ := PySem.W.any_some C.hd
    rw [hc] <;> rfl
  exact PySem.W.kitx_exc known C.hg C.hk C.hs C.ha C.hn C.ht C.hm
theorem call_isD (C : ExcC X.K D) (hz : Zc (.ref D) d oe) (hf : ∃ vs, oe.data = .fields vs) : CallR (X.suite a ((a, oe) :: pn)) (.builtin "isinstance") (rIsD X.K D a d) := by
  rintro pins s σ H _ us Q I r ⟨c, u, b, dd, fs, rfl, k, rfl, eH, e, q⟩
  obtain ⟨u1, u2, rfl, r1, r2⟩ := vals2 r
  cases k.eq r2
  cases (show u1 = Value.ref a from r1)
  obtain ⟨od, J⟩ := inst_of hz hf I eH
  refine PySem.W.kia_one (kit_exD C) I.kIn J e (by intro z; cases z) fun tk => ?_
  exact ⟨.bl b, H, I.tok tk, rfl, q⟩
theorem call_isDT (C : ExcC X.K D) (hz : Zc (.ref D) d oe) (hf : ∃ vs, oe.data = .fields vs) : CallR (X.suite a ((a, oe) :: pn)) (.builtin "isinstance") (rIsDT X.K D a d) := by
  rintro pins s σ H _ us Q I r ⟨tp, cs, ws, b, dd, fs, rfl, hT, k, rfl, eH, e, q⟩
  obtain ⟨u1, u2, rfl, r1, r2⟩ := vals2 r
  cases (show u2 = Value.ref tp from r2)
  cases (show u1 = Value.ref a from r1)
  obtain ⟨od, J⟩ := inst_of hz hf I eH
  have okT : ObjOk X.prog X.w H s.heap tp (.tup cs) := I.hok tp _ hT
  obtain ⟨-, its, rv, ⟨oc, od', dt, sl⟩, there, kind, n, data⟩ := okT
  dsimp only at kind data
  subst kind data
  cases ClsV.all k rv
  refine PySem.W.kia_tup (kit_exD C) I.kIn J there e (by intro z; cases z) fun tk => ?_
  exact ⟨.bl b, H, I.tok tk, rfl, q⟩
end
/-- an error of the body, landed in X: sI is the state without it, s the state with it -/
structure Down (X : Cx) (pins : List (Addr × Obj)) (σ : L2.St) (H : Hp) (cls : Value) (d : Option Addr) (a : Addr) (B : Heap) (sI s : Shared) : Prop where
  inv : Inv X pins σ H sI
  base : ∀ b o, sI.heap.get? b = some o → b ∉ frs X.stack → B.get? b = some o
  up : sI.heap.UpToSlots s.heap
  fly : HandSPX.FlyingZ B (X.env :: X.outer) a (Zc cls d) s.heap
  free : H a = none
  os : s.os = sI.os
  bare : AllBare s.gens
section
variable {X : Cx} {pins : List (Addr × Obj)} {σ : L2.St} {H : Hp} {cls : Value} {d : Option Addr} {a : Addr} {B : Heap} {sI s : Shared}
theorem Down.here (w : Down X pins σ H cls d a B sI s) : Inv X pins σ H s := w.inv.landed w.base w.fly.1 w.up w.os w.bare
theorem Down.moved (w : Down X pins σ H cls d a B sI s) {h' : Heap} (fl : HandSPX.FlyingZ B (X.env :: X.outer) a (Zc cls d) h') (up : s.heap.UpToSlots h') : Down X pins σ H cls d a B sI { s with heap := h' } :=
  { w with up := w.up.trans up, fly := fl }
theorem Down.apart (w : Down X pins σ H cls d a B sI s) : a ∉ (X.env :: X.outer).filterMap (·.frame) := by
  intro hm
  obtain ⟨oe, vs, he, -, hd⟩ := w.fly.there
  obtain ⟨-, o, e, no⟩ := w.fly.2.2.1.mem hm
  cases he.symm.trans e
  exact no vs hd
/-- the state, seen from the suite of a clause -/
theorem Down.suite (w : Down X pins σ H cls d a B sI s) (hf : X.env.frame = some X.env.locals) :
    ∃ oe, Zc cls d oe ∧ (∃ vs, oe.data = .fields vs) ∧ s.heap.get? a = some oe ∧ Inv (X.suite a ((a, oe) :: (X.pn ++ pins))) [] σ H s := by
  obtain ⟨oe, vs, he, hz, hd⟩ := w.fly.there
  have no := w.apart
  refine ⟨oe, hz, ⟨vs, hd⟩, he, w.here.suite he hd w.free ?_ ?_⟩
  · intro z
    subst z
    exact no (List.mem_filterMap.mpr ⟨X.env, .head _, hf⟩)
  · intro z
    obtain ⟨e, me, q⟩ := List.mem_filterMap.mp z
    exact no (List.mem_filterMap.mpr ⟨e, .tail _ me, q⟩)
/-- no clause is left: the error goes on -/
theorem Down.on {Wout : WX} {D : Ends} (w : Down X pins σ H cls d a B sI s) (hs : X.stack = X.env :: X.outer) (hf : X.env.frame = some X.env.locals) (tk : Takes X Wout) (q : Wout cls d σ H) :
    wpAny (model X.prog X.w) X.A (handleBy (.ref a) X.env []) (SP X pins D) X.xe s := by
  have go : wpAny (model X.prog X.w) X.A (setFlight (.ref a) X.env.frame) (fun _ s4 => wpAny (model X.prog X.w) X.A (throw (.ref a) : Sem Flow) (SP X pins D) X.xe s4) X.xe s := by
    rw [hf]
    refine HandSPX.setFlight_upZ w.fly fun h4 held up4 => wpAny_throw (tk _ _ ?_)
    refine ⟨a, B, sI, pins, σ, H, cls, d, rfl, w.inv, w.base, w.up.trans up4, .inr (.inr ?_), w.free, w.os, w.bare, q⟩
    rw [hs]
    exact held
  obtain ⟨-, -, -, oe, vs, T, -, -, he, -, hd, h1, -⟩ := id w.fly
  refine wpAny_handleBy_nil ?_
  unfold PySem.passOn
  refine wpAny_bind (wpAny_field he hd h1 ?_)
  have nn : ¬ (Value.ref T == Value.none) = true := by simp
  rw [if_neg nn]
  first
    | exact wpAny_bind go
    | exact wpAny_bind (wpAny_pure (wpAny_bind go))
/-- the first of the clauses: it is taken, or the next ones are asked -/
theorem Down.clause {D : Ends} {x n : Str} {c : Value} {i : Nat} {b₀ : Stmt} {body : List Stmt} {p p' : Pos} {rest : List ExceptHandler} {ts : Addr → Value → Option Addr → TS} {W : WX}
    (w : Down X pins σ H cls d a B sI s) (hf : X.env.frame = some X.env.locals) (hN : X.N.Nodup) (hi : X.N[i]? = some n) (hln : X.env.kindOf n = some .local) (hc : Names X x c)
    (hsu : ∀ (oe : Obj) (pn : List (Addr × Obj)), Zc cls d oe → (∃ vs, oe.data = .fields vs) → PSs (X.suite a ((a, oe) :: pn)) (b₀ :: body) (ts a cls d))
    (q : wAs X.K c i ts W D cls d σ H) (hr : W cls d σ H → wpAny (model X.prog X.w) X.A (handleBy (.ref a) X.env rest) (SP X pins D) X.xe s) :
    wpAny (model X.prog X.w) X.A (handleBy (.ref a) X.env (.ExceptHandler (some (.Name x p)) (some n) (b₀ :: body) p' :: rest)) (SP X pins D) X.xe s := by
  obtain ⟨b, is, yes, no⟩ := q
  obtain ⟨oe, hz, -, he, S⟩ := w.suite hf
  refine wpAny_handleBy_cons (codeAny_handlers_test ?_) (by intro z; cases z)
  have ty : PySem.W.Looks (model X.prog X.w) s.heap (typeOf (.ref a)) cls := by
    intro A Q E s' k q
    refine wpAny_typeOf_ref (k _ _ he) ?_
    rw [hz.1]
    exact q
  have match_ := PySem.W.exm_one (M := model X.prog X.w) w.here.kIn ty is
  have name_ : ∀ {Q E : Value → Shared → Prop}, Q c s → wpAny (model X.prog X.w) (X.A.mark (some (.ref a))) (eval (.Name x p) X.env) Q E s := by
    intro Q E q
    rcases hc with ⟨g, nd, m | ⟨m, v, nn⟩⟩
    · exact ld_glob (X := X.suite a _) S g m q nd
    · exact ld_blt (X := X.suite a _) S g m v q nn nd
  refine name_ (match_.here ?_)
  cases b with
  | false => exact hr (no rfl)
  | true =>
    refine codeAny_handlers_suite_as (HandSPX.lands_againZ w.fly fun h4 fl4 up4 => ?_)
    obtain ⟨oe4, hz4, hd4, -, S4⟩ := (w.moved fl4 up4).suite hf
    refine store_ok (X := X.suite a _) (v := .ref a) S4 hN hi (.inl hln) rfl (fun s5 S5 => ?_) (.inr hln)
    refine wpAny_mono ((hsu oe4 (X.pn ++ pins) hz4 hd4).run [] s5 _ H _ S5 (yes rfl a w.free)) (fun f s6 r => ?_) (by intro _ _ z; exact z.elim)
    have ok := w.inv.ok
    cases f with
    | ret u =>
      obtain ⟨v6, σ6, H6, S6, r6, q6⟩ := r
      exact gone_ok (S6.unsuite ok) hN hi hln fun s7 J7 => ⟨v6, _, _, J7, r6, q6⟩
    | next =>
      obtain ⟨σ6, H6, S6, q6⟩ := r
      exact gone_ok (S6.unsuite ok) hN hi hln fun s7 J7 => ⟨_, _, J7, q6⟩
    | brk =>
      obtain ⟨σ6, H6, S6, q6⟩ := r
      exact gone_ok (S6.unsuite ok) hN hi hln fun s7 J7 => ⟨_, _, J7, q6⟩
    | cont =>
      obtain ⟨σ6, H6, S6, q6⟩ := r
      exact gone_ok (S6.unsuite ok) hN hi hln fun s7 J7 => ⟨_, _, J7, q6⟩
theorem Down.new (w : Down X pins σ H cls d a B sI s) (hs : X.stack = X.env :: X.outer) : X.base.get? a = none := by
  cases e : X.base.get? a with
  | none => rfl
  | some o =>
    have no := w.apart
    have z := w.base a o (w.inv.bs a o e).1 (by rw [hs]; exact no)
    rw [w.fly.2.1] at z
    cases z
end
/-- clauses 'except x as n', n in slot i, with what each does and what the one behind the last wishes -/
inductive Clauses (X : Cx) (n : Str) (i : Nat) (Wout : WX) : List ExceptHandler → (Ends → WX) → Prop
  | nil : Clauses X n i Wout [] (fun _ => Wout)
  | cons {x : Str} {c : Value} {ts : Addr → Value → Option Addr → TS} {b₀ : Stmt} {body : List Stmt} {p p' : Pos} {rest : List ExceptHandler} {W : Ends → WX} (hc : Names X x c)
      (hsu : ∀ (a : Addr) (oe : Obj) (cls : Value) (d : Option Addr) (pn : List (Addr × Obj)), Zc cls d oe → (∃ vs, oe.data = .fields vs) → X.base.get? a = none → PSs (X.suite a ((a, oe) :: pn)) (b₀ :: body) (ts a cls d))
      (r : Clauses X n i Wout rest W) : Clauses X n i Wout (.ExceptHandler (some (.Name x p)) (some n) (b₀ :: body) p' :: rest) (fun D => wAs X.K c i ts (W D) D)
section
variable {X : Cx} {n : Str} {i : Nat} {Wout : WX}
theorem Clauses.run {hds : List ExceptHandler} {W : Ends → WX} (k : Clauses X n i Wout hds W) (hs : X.stack = X.env :: X.outer) (hf : X.env.frame = some X.env.locals) (hN : X.N.Nodup) (hi : X.N[i]? = some n) (hln : X.env.kindOf n = some .local) (tk : Takes X Wout)
    {pins : List (Addr × Obj)} {σ : L2.St} {H : Hp} {cls : Value} {d : Option Addr} {a : Addr} {B : Heap} {sI s : Shared} {D : Ends} (w : Down X pins σ H cls d a B sI s) (q : W D cls d σ H) :
    wpAny (model X.prog X.w) X.A (handleBy (.ref a) X.env hds) (SP X pins D) X.xe s := by
  induction k with
  | nil => exact w.on hs hf tk q
  | cons hc hsu r ih => exact w.clause hf hN hi hln hc (fun oe pn hz hf2 => hsu a oe cls d pn hz hf2 (w.new hs)) q ih
/-- try: body / except x1 as n: .. / except x2 as n: .. -/
theorem ps_tryA {body : List Stmt} {h₀ : ExceptHandler} {hds : List ExceptHandler} {pos : Pos} {tb : WX → TS} {W : Ends → WX} (hs : X.stack = X.env :: X.outer) (hf : X.env.frame = some X.env.locals) (hN : X.N.Nodup) (hi : X.N[i]? = some n) (hln : X.env.kindOf n = some .local)
    (tk : Takes X Wout) (hb : ∀ (W : WX) (pn : List (Addr × Obj)) (xe : Value → Shared → Prop), Takes (X.tr pn xe) W → PassesOwn (model X.prog X.w) X.A X.env xe → PSs (X.tr pn xe) body (tb W))
    (k : Clauses X n i Wout (h₀ :: hds) W) : PS X (.Try body (h₀ :: hds) [] [] pos) (fun D σ H => tb (W D) D σ H) := by
  constructor
  intro pins s σ H D I h
  have ok := I.ok
  let out : Value → Shared → Prop := fun e s₁ => wpAny (model X.prog X.w) X.A (noteFrame e X.env)
    (fun _ s₂ => wpAny (model X.prog X.w) X.A (setFlight e none) (fun _ s₃ => wpAny (model X.prog X.w) X.A (handleBy e X.env (h₀ :: hds)) (SP X pins D) X.xe s₃) X.xe s₂) X.xe s₁
  have tks : Takes (X.tr (X.pn ++ pins) out) (W D) := by
    rintro u s' ⟨a, B, sI, pins', σ', H', cls, d, rfl, J, nb, up, sky, na, os, ag, q⟩
    have fr : X.A.frames = some (X.env :: X.outer) := by rw [ok.frames, hs]
    have sky' := sky
    rw [show (X.tr (X.pn ++ pins) out).stack = X.env :: X.outer from hs] at sky'
    refine Sky.land (E₁ := X.xe) Zc.steady fr hf sky' fun h3 fl3 up3 => ?_
    exact k.run hs hf hN hi hln tk (sI := sI) (B := B) ⟨J.ofTry ok, nb, up.trans up3, fl3, na, os, ag⟩ q
  refine wpAny_Try_except (wpAny_mono ((hb (W D) (X.pn ++ pins) out tks PassesOwn.looking).run [] s σ H D (I.toTry _) h) ?_ fun _ _ he => he)
  · intro f s1 r
    cases f with
    | next =>
      obtain ⟨σ', H', J, q⟩ := r
      exact wpAny_execs_nil ⟨σ', H', J.ofTry ok, q⟩
    | ret u =>
      obtain ⟨v, σ', H', J, r', q⟩ := r
      exact ⟨v, σ', H', J.ofTry ok, r', q⟩
    | brk | cont =>
      obtain ⟨σ', H', J, q⟩ := r
      exact ⟨σ', H', J.ofTry ok, q⟩
end
/-! ### letters and open paths among all values -/
def isLow (c : Nat) : Bool := decide (97 ≤ c) && decide (c ≤ 122)
def isLt : List Nat → Bool
  | [c] => isLow c
  | _ => false
/-- is a value a small letter? -/
def letD : PyData → Bool
  | .str x => isLt x.cps.toList
  | _ => false
theorem letD_of {d : PyData} (h : letD d = true) : ∃ c, d = .str (ch c) ∧ isLow c = true := by
  cases d with
  | str x =>
    have h : isLt x.cps.toList = true := h
    cases hx : x.cps.toList with
    | nil => rw [hx] at h; cases h
    | cons c r =>
      cases r with
      | nil =>
        rw [hx] at h
        exact ⟨c, congrArg PyData.str (TL.ext_tl hx), h⟩
      | cons _ _ => rw [hx] at h; cases h
  | _ => cases h
def spLowX : Sp := fun vs H Q _ => ∃ (v : V) (D : Deck) (d : PyData), vs = [v] ∧ DQ D H v d ∧ gd d = true ∧ Q (.bl (letD d)) H
/-- a def whose promise has errors -/
structure DfX (P : Program) (w : World) (K : PySem.W.Frag) (mg : Str → Option Value) (base : Heap) (k : Nat) (nm : Str) (ps : List Str) (sp : Sp) where
  f : Addr
  fd : FuncData
  ok : FnOk P w K mg base (L2.CX P w) k f fd ps sp
  b : Binds K fd ps []
  kp : PySem.W.keepIn K (.ref f) = true
  g : mg nm = some (.ref f)
/-- what the value of a path leads to -/
def pathTo (t : B) : PyData → Option B
  | .str x => t.at x.cps.toList
  | _ => none
def spPartX (C : Addr) : Sp := fun vs H Q E => ∃ (v v' : V) (t : B) (D : Deck) (d : PyData), vs = [v, v'] ∧ BAt H v t ∧ DQ D H v' d ∧
  (∀ u, pathTo t d = some u → ∀ (H' : Hp) (vu : V), Same H H' → BAt H' vu u → Q vu H') ∧ (pathTo t d = none → ∀ (H' : Hp) (p : Addr), Same H H' → H' p = none → E (.ref C) (some p) (upd H' p (.xd [(("value" : Str), v')])))
def spOpenX : Sp := fun vs H Q _ => ∃ (v v' : V) (t : B) (D : Deck) (d : PyData), vs = [v, v'] ∧ BAt H v t ∧ DQ D H v' d ∧ ∀ (b : Bool) (H' : Hp), (b = true ↔ pathTo t d = some .nil) → Same H H' → Q (.bl b) H'
section
variable {P : Program} {w : World} {K : PySem.W.Frag} {mg : Str → Option Value} {base : Heap} {f : Addr} {fd : FuncData} {C fI : Addr} {qn : Str}
theorem ok_partX {k : Nat} (F : Fun K "part_at" "part_at" s_part_at f fd) (M : Mgs mg) (hE : Err_value K mg "LookupError.__new__" leT "NoPath" qn C fI) : FnOk P w K mg base (L2.CX P w) (k + 1) f fd ["tree", "path"] (spPartX C) := by
  refine F.okX sc_part_at (fun vs H Q E h => ?_) (fun cdv A outer s H vs Q E hr h => ?_)
  · obtain ⟨v, v', t, D, d, rfl, _⟩ := h
    rfl
  obtain ⟨v, v', t, D, d, rfl, ht, hd, q, qe⟩ := h
  refine ⟨_, (pss_cons (ps_if (pt_not (pt_val (pe_callB call_isi rfl M.isinstance (by decide +kernel) (pa_cons (pv 1) (pa_cons (pe_bltn (v := .ty "str") rfl M.str (by decide +kernel) rfl) pa_nil)))))
      (pss_one (ps_raise_value rfl famL hE hr (takes_of rfl rfl rfl rfl) (pa_cons (pv 1) pa_nil) rfl)) pss_nil)
    (pss_cons (ps_set (i := 2) sc_part_at.nd rfl (.inl rfl) (pv 0))
    (pss_cons (ps_for (passes_of rfl) rfl (pi_str (pv 1)) (pg_name (i := 3) sc_part_at.nd rfl (.inl rfl))
      (pss_cons (ps_if (PW.pt (pw_or (pt_cmpR op_isN (pv 2) pe_non (nomark _)) (pw_or1 (pt_cmpR op_notIn_seq (pv 3) (pe_tup (pa_cons pe_str (pa_cons pe_str pa_nil))) (by rfl)))))
      (pss_one (ps_raise_value rfl famL hE hr (takes_of rfl rfl rfl rfl) (pa_cons (pv 1) pa_nil) rfl)) pss_nil)
    (pss_one (ps_set (i := 2) sc_part_at.nd rfl (.inl rfl) (pe_ifExp (pt_cmpR op_eq (pv 3) pe_str (nomark _)) (pe_ix ix_tup (pv 2) pe_int (fun _ _ => rfl)) (pe_ix ix_tup (pv 2) pe_int (fun _ _ => rfl)))))))
    (pss_one (ps_ret (pv 2)))))), ?_⟩
  refine ⟨_, rfl, _, _, _, _, isStrD d, rfl, .ty _, dq_ty hd, kit_ty (kit_str d), _, rfl, ?_⟩
  cases hs : isStrD d with
  | false =>
    have no : pathTo t d = none := by cases d <;> first | rfl | exact absurd hs (by simp [isStrD])
    exact iteT ⟨_, rfl, v', rfl, fun p np => qe no H p (Same.refl H) np⟩
  | true =>
    refine iteF ?_
    obtain ⟨x, rfl⟩ := isStr_of hs
    cases hd
    refine ⟨_, rfl, ?_⟩
    refine ⟨_, rfl, x, rfl, ?_⟩
    refine for_text (x := x) (fun i σ H' => ∃ (vu : V) (u : B) (y : Option V), σ = [some v, some (.str x), some vu, y] ∧ Same H H' ∧ BAt H' vu u ∧ t.at x.cps.toList = u.at (x.cps.toList.drop i)) ⟨v, t, none, rfl, Same.refl H, ht, rfl⟩ (fun i c σ H' hc hp => ?_) (fun σ H' hp => ?_)
    · obtain ⟨vu, u, y, rfl, sm, hu, e⟩ := hp
      have hi : i < x.cps.toList.length := (List.getElem?_eq_some_iff.mp hc).1
      have hcd : x.cps.toList.drop i = c :: x.cps.toList.drop (i + 1) := by
        rw [List.drop_eq_getElem_cons hi, (List.getElem?_eq_some_iff.mp hc).2]
      rw [hcd] at e
      rcases hu.inv with ⟨rfl, rfl⟩ | ⟨a, l, r, lb, tl, tr, rfl, rfl, ea, hL, hR⟩
      · refine ⟨_, rfl, rfl, _, rfl, iteT (iteT ?_)⟩
        exact ⟨_, rfl, _, rfl, fun p np => qe (show t.at _ = none by rw [e]; rfl) H' p sm np⟩
      · refine ⟨_, rfl, rfl, _, rfl, iteF ?_⟩
        refine ⟨_, rfl, (by show 2 ≤ sizeLine; decide), fun tp ntp => ?_⟩
        have k1 := same_new ntp (.tup [.str "l", .str "r"])
        have s1 := sm.trans k1
        refine ⟨tp, _, rfl, .inr (SqT.of upd_same), rfl, rfl, _, rfl, ?_⟩
        generalize upd H' tp (.tup [.str "l", .str "r"]) = H1 at k1 s1 ⊢
        have ea1 := k1 _ _ ea
        by_cases h1 : c = 108
        · subst h1
          refine iteF ?_
          refine ⟨_, rfl, rfl, _, rfl, iteT ?_⟩
          exact ⟨_, rfl, a, _, 0, l, rfl, rfl, SqT.of ea1, atI_nat (j := 0) rfl, l, tl, _, rfl, s1, hL.same k1, by rw [e]; rfl⟩
        · by_cases h2 : c = 114
          · subst h2
            refine iteF ?_
            refine ⟨_, rfl, rfl, _, rfl, iteF ?_⟩
            exact ⟨_, rfl, a, _, 2, r, rfl, rfl, SqT.of ea1, atI_nat (j := 2) rfl, r, tr, _, rfl, s1, hR.same k1, by rw [e]; rfl⟩
          · have hin : inV (.str ⟨#[c]⟩) [V.str "l", V.str "r"] = false := by
              have el : Str.ofString "l" = ⟨#[108]⟩ := by decide +kernel
              have er : Str.ofString "r" = ⟨#[114]⟩ := by decide +kernel
              have ne : ∀ k : Nat, c ≠ k → ((⟨#[k]⟩ : Str) == ⟨#[c]⟩) = false := by
                intro k hk
                rw [beq_eq_false_iff_ne]
                intro z
                have z' := congrArg (fun y : Str => y.cps.toList) z
                exact hk (List.cons.inj z').1.symm
              unfold inV
              show ((Str.ofString "l" == ⟨#[c]⟩) || ((Str.ofString "r" == ⟨#[c]⟩) || false)) = false
              rw [el, er, ne 108 h1, ne 114 h2]
              rfl
            show if (!inV (.str ⟨#[c]⟩) [V.str "l", V.str "r"]) = true then _ else _
            rw [hin]
            refine iteT ?_
            exact ⟨_, rfl, _, rfl, fun p np => qe (show t.at _ = none by rw [e]; show (if c = 108 then _ else if c = 114 then _ else none) = none; rw [if_neg h1, if_neg h2]) H1 p s1 np⟩
    · obtain ⟨vu, u, y, rfl, sm, hu, e⟩ := hp
      rw [List.drop_length, u.at_nil] at e
      exact ⟨_, rfl, q u e H' vu sm hu⟩
theorem ok_openX {k : Nat} (F : Fun K "is_open" "is_open" s_is_open f fd) (gC : mg "NoPath" = some (.ref C)) (e1 : PySem.W.exmOne K (.ref C) (.ref C) = some true) (Dpart_at : DfX P w K mg base (k + 1) "part_at" ["tree", "path"] (spPartX C)) : FnOk P w K mg base CX0 (k + 2) f fd ["tree", "path"] spOpenX := by
  refine F.ok (k := k + 1) sc_is_open (fun vs H Q E h => ?_) (fun cdv A outer s H vs Q E hr h => ?_)
  · obtain ⟨v, v', t, D, d, rfl, _⟩ := h
    rfl
  obtain ⟨v, v', t, D, d, rfl, ht, hd, q⟩ := h
  refine ⟨_, (pss_one (ps_try_only (c := .ref C) (Wout := fun _ _ _ _ => False) rfl rfl ⟨rfl, by decide, .inl gC⟩ takes_none5 (fun W pn xe tk _ => pss_one (ps_ret (pe_cmpR op_isN (pe_callS Dpart_at.ok (hr.mono (by omega)) rfl Dpart_at.g Dpart_at.kp Dpart_at.b (fun σ => passAt tk σ) (pa_cons (pv 0) (pa_cons (pv 1) pa_nil))) pe_non (nomark _)))) (fun a oe cls d pn hz hf => pss_one (ps_ret pe_bl)))), ?_⟩
  refine ⟨_, rfl, _, rfl, v, v', t, D, d, rfl, ht, hd, fun u hu H1 vu s1 b1 => ?_, fun hn H1 p s1 np => ?_⟩
  · rcases b1.inv with ⟨rfl, rfl⟩ | ⟨a, l, r, lb, tl, tr, rfl, rfl, ea, hL, hR⟩
    · exact ⟨rfl, q true H1 ⟨fun _ => hu, fun _ => rfl⟩ s1⟩
    · exact ⟨rfl, q false H1 ⟨fun z => (by cases z), fun z => by rw [hu] at z; cases z⟩ s1⟩
  · refine ⟨true, e1, fun _ a0 na => ?_, fun z => nomatch z⟩
    exact q false _ ⟨fun z => (by cases z), fun z => by rw [hn] at z; cases z⟩ (s1.trans (same_new np _))
theorem ok_lowX {k : Nat} (F : Fun K "is_letter" "is_letter" s_is_letter f fd) (M : Mgs mg) : FnOk P w K mg base CX0 (k + 1) f fd ["value"] spLowX := by
  refine F.ok sc_is_letter (fun vs H Q E h => ?_) (fun cdv A outer s H vs Q E hr h => ?_)
  · obtain ⟨v, D, d, rfl, _⟩ := h
    rfl
  obtain ⟨v, D, d, rfl, hd, hg, q⟩ := h
  refine ⟨_, (pss_one (ps_ret (pe_and (pe_callB call_isi rfl M.isinstance (by decide +kernel) (pa_cons (pv 0) (pa_cons (pe_bltn (v := .ty "str") rfl M.str (by decide +kernel) rfl) pa_nil))) (pe_and (pe_cmpR op_eq (pe_callB call_len_str rfl M.len PySem.boot_len (pa_cons (pv 0) pa_nil)) pe_int (nomark _)) (pe_one (pe_chain op_le_str op_le_str pe_str (pv 0) pe_str)))))), ?_⟩
  refine ⟨_, rfl, _, _, _, _, isStrD d, rfl, .ty _, dq_ty hd, kit_ty (kit_str d), _, rfl, ?_⟩
  cases hs : isStrD d with
  | false =>
    have no : letD d = false := by cases d <;> first | rfl | exact absurd hs (by simp [isStrD])
    rw [no] at q
    exact iteF q
  | true =>
    obtain ⟨x, rfl⟩ := isStr_of hs
    cases hd
    have hx := (gd_str hg).1
    have q : Q (.bl (isLt x.cps.toList)) H := q
    refine iteT ⟨_, rfl, x, rfl, small (by omega), rfl, _, rfl, ?_⟩
    have ex : x = tx x.cps.toList := TL.ext_tl rfl
    rw [ex] at hx ⊢
    rw [tx_len] at hx ⊢
    generalize x.cps.toList = l at hx q ⊢
    match l, hx, q with
    | [], _, q => exact iteF q
    | a :: b :: r, _, q =>
      rw [show decide (V.int ((a :: b :: r).length : Nat) = V.int 1) = false from decide_eq_false fun z => by have := V.int.inj z; rw [List.length_cons, List.length_cons] at this; omega]
      exact iteF q
    | [c], _, q =>
      rw [show decide (V.int (([c] : List Nat).length : Nat) = V.int 1) = true from rfl]
      refine iteT ⟨_, rfl, _, _, rfl, rfl, _, rfl, ?_⟩
      have e1 : (!decide ((tx [c]).cps.toList < (Str.ofString "a").cps.toList)) = decide (97 ≤ c) := by
        rw [show (Str.ofString "a").cps.toList = [97] by decide +kernel, show (tx [c]).cps.toList = [c] from rfl]
        by_cases h : c < 97
        · rw [decide_eq_true (by simp [List.cons_lt_cons_iff, h]), decide_eq_false (by omega)]; rfl
        · rw [decide_eq_false (by simp [List.cons_lt_cons_iff, h]), decide_eq_true (by omega)]; rfl
      have e2 : (!decide ((Str.ofString "z").cps.toList < (tx [c]).cps.toList)) = decide (c ≤ 122) := by
        rw [show (Str.ofString "z").cps.toList = [122] by decide +kernel, show (tx [c]).cps.toList = [c] from rfl]
        by_cases h : 122 < c
        · rw [decide_eq_true (by simp [List.cons_lt_cons_iff, h]), decide_eq_false (by omega)]; rfl
        · rw [decide_eq_false (by simp [List.cons_lt_cons_iff, h]), decide_eq_true (by omega)]; rfl
      rw [e1]
      have q : Q (.bl (decide (97 ≤ c) && decide (c ≤ 122))) H := q
      by_cases h : 97 ≤ c
      · rw [decide_eq_true h] at q ⊢
        refine iteT ⟨_, _, rfl, rfl, ?_⟩
        rw [e2]
        exact q
      · rw [decide_eq_false h] at q ⊢
        exact iteF q
end
/-! ### is_letter, is_node -/
def isN : PyData → Bool
  | .tuple [_, m, _] => letD m
  | _ => false
def spAsk (f : PyData → Bool) : Sp := fun vs H Q _ => ∃ (v : V) (D : Deck) (d : PyData), vs = [v] ∧ DQ D H v d ∧ gd d = true ∧ Q (.bl (f d)) H
section
variable {P : Program} {w : World} {K : PySem.W.Frag} {mg : Str → Option Value} {base : Heap} {f fL : Addr} {fd fdL : FuncData}
theorem ok_nodeV {k : Nat} (F : Fun K "is_node" "is_node" s_is_node f fd) (M : Mgs mg) (Dis_letter : Df P w K mg base (k + 1) "is_letter" ["value"] spLowX) : FnOk P w K mg base CX0 (k + 2) f fd ["value"] (spAsk isN) := by
  refine F.ok sc_is_node (fun vs H Q E h => ?_) (fun cdv A outer s H vs Q E hr h => ?_)
  · obtain ⟨v, D, d, rfl, _⟩ := h
    rfl
  obtain ⟨v, D, d, rfl, hd, g, q⟩ := h
  refine ⟨_, (pss_one (ps_ret (pe_and (pe_callB call_isi rfl M.isinstance (by decide +kernel) (pa_cons (pv 0) (pa_cons (pe_bltn (v := .ty "tuple") rfl M.tuple (by decide +kernel) rfl) pa_nil))) (pe_and (pe_cmpR op_eq (pe_callB call_len_seq rfl M.len PySem.boot_len (pa_cons (pv 0) pa_nil)) pe_int (nomark _)) (pe_one (pe_call Dis_letter.ok (hr.mono (by omega)) rfl Dis_letter.g Dis_letter.kp Dis_letter.b .nil pass0 (pa_cons (pe_ix ix_tup (pv 0) pe_int (fun _ _ => rfl)) pa_nil))))))), ?_⟩
  refine ⟨_, rfl, _, _, _, _, isTupD d, rfl, .ty _, dq_ty hd, kit_ty (kit_tup d), _, rfl, ?_⟩
  cases hd with
  | @tup a xs ds o e al =>
    refine iteT ?_
    have hl := dqAll_len al
    refine ⟨_, rfl, a, xs, rfl, .inr (SqT.of e), rfl, _, rfl, ite2 (fun c => ?_) (fun c => ?_)⟩
    · have c' : (xs.length : Int) = 3 := V.int.inj (of_decide_eq_true c)
      cases al with
      | nil => exact absurd c' (by show ¬ (0 : Int) = 3; omega)
      | cons d1 al =>
      cases al with
      | nil => exact absurd c' (by show ¬ (1 : Int) = 3; omega)
      | cons d2 al =>
      cases al with
      | nil => exact absurd c' (by show ¬ (2 : Int) = 3; omega)
      | cons d3 al =>
      cases al with
      | cons _ _ => exact absurd c' (by simp; omega)
      | nil =>
        simp only [gd, gds, Bool.and_eq_true] at g
        exact ⟨_, rfl, a, _, 1, _, rfl, rfl, SqT.of e, atI_nat (j := 1) rfl, _, D, _, rfl, d2, g.2.1, q⟩
    · have c' : ¬ (xs.length : Int) = 3 := fun z => c (decide_eq_true (congrArg V.int z))
      have e2 : isN (.tuple ds) = false := by
        match ds, hl with
        | [], _ => rfl
        | [_], _ => rfl
        | [_, _], _ => rfl
        | [_, _, _], hl => exact absurd hl (by intro z; exact c' (by rw [z]; rfl))
        | _ :: _ :: _ :: _ :: _, _ => rfl
      rw [e2] at q
      exact q
  | non => exact iteF q
  | bl b => exact iteF q
  | int i => exact iteF q
  | lst _ _ _ => exact iteF q
  | str _ => exact iteF q
  | emp _ _ => exact iteF q
  | ent _ _ => exact iteF q
end
def keepV : V → List V
  | .non => []
  | v => [v]
theorem keep_step {xs : List V} {j : Nat} {x : V} (h : xs[j]? = some x) : (xs.take (j + 1)).flatMap keepV = (xs.take j).flatMap keepV ++ keepV x := by
  rw [List.take_add_one, h, List.flatMap_append]
  congr 1
  show keepV x ++ [] = keepV x
  rw [List.append_nil]
theorem keep_len : ∀ xs : List V, (xs.flatMap keepV).length ≤ xs.length
  | [] => Nat.le_refl _
  | x :: xs => by
    have h := keep_len xs
    have h1 : (keepV x).length ≤ 1 := by cases x <;> first | exact Nat.zero_le _ | exact Nat.le_refl _
    rw [List.flatMap_cons, List.length_append, List.length_cons]
    omega
def toGo (σ : L2.St) : Nat := match σ[1]? with
  | some (some (V.int c)) => (13 - c).toNat
  | _ => 0
/-! ### how many nodes -/
def cntD : PyData → Int
  | .none => 0
  | .tuple [l, m, r] => if letD m = true ∧ 0 ≤ cntD l ∧ 0 ≤ cntD r then cntD l + 1 + cntD r else -1
  | _ => -1
theorem cnt_tup (l m r : PyData) : cntD (.tuple [l, m, r]) = if letD m = true ∧ 0 ≤ cntD l ∧ 0 ≤ cntD r then cntD l + 1 + cntD r else -1 := by
  rw [cntD]
theorem cnt_not {d : PyData} (h : isN d = false) : cntD d ≤ 0 := by
  match d, h with
  | .none, _ => rw [cntD]; exact Int.le_refl _
  | .tuple [l, m, r], h =>
    have h' : letD m = false := h
    rw [cnt_tup, if_neg (by rw [h']; exact fun z => Bool.false_ne_true z.1)]
    decide
  | .tuple [], _ => rw [cntD] <;> first | decide | (intros; simp_all)
  | .tuple [_], _ => rw [cntD] <;> first | decide | (intros; simp_all)
  | .tuple [_, _], _ => rw [cntD] <;> first | decide | (intros; simp_all)
  | .tuple (_ :: _ :: _ :: _ :: _), _ => rw [cntD] <;> first | decide | (intros; simp_all)
  | .bool _, _ => rw [cntD] <;> first | decide | (intros; simp_all)
  | .int _, _ => rw [cntD] <;> first | decide | (intros; simp_all)
  | .str _, _ => rw [cntD] <;> first | decide | (intros; simp_all)
  | .list _, _ => rw [cntD] <;> first | decide | (intros; simp_all)
  | .dict _, _ => rw [cntD] <;> first | decide | (intros; simp_all)
theorem cnt_none : cntD .none = 0 := by rw [cntD]
theorem cnt_pos {d : PyData} (h : d ≠ .none) (h0 : 0 ≤ cntD d) : 0 < cntD d := by
  cases hN : isN d with
  | true =>
    match d, hN with
    | .tuple [l, m, r], _ =>
      rw [cnt_tup] at h0 ⊢
      split
      · rename_i z
        omega
      · rename_i z
        rw [if_neg z] at h0
        exact absurd h0 (by decide)
  | false =>
    have h1 := cnt_not hN
    have h2 : cntD d = 0 := by omega
    exfalso
    match d, hN, h with
    | .none, _, h => exact h rfl
    | .tuple [l, m, r], hN, _ =>
      have h' : letD m = false := hN
      rw [cnt_tup, if_neg (by rw [h']; exact fun z => Bool.false_ne_true z.1)] at h2
      exact absurd h2 (by decide)
    | .tuple [], _, _ => rw [cntD] at h2 <;> first | exact absurd h2 (by decide) | (intros; simp_all)
    | .tuple [_], _, _ => rw [cntD] at h2 <;> first | exact absurd h2 (by decide) | (intros; simp_all)
    | .tuple [_, _], _, _ => rw [cntD] at h2 <;> first | exact absurd h2 (by decide) | (intros; simp_all)
    | .tuple (_ :: _ :: _ :: _ :: _), _, _ => rw [cntD] at h2 <;> first | exact absurd h2 (by decide) | (intros; simp_all)
    | .bool _, _, _ => rw [cntD] at h2 <;> first | exact absurd h2 (by decide) | (intros; simp_all)
    | .int _, _, _ => rw [cntD] at h2 <;> first | exact absurd h2 (by decide) | (intros; simp_all)
    | .str _, _, _ => rw [cntD] at h2 <;> first | exact absurd h2 (by decide) | (intros; simp_all)
    | .list _, _, _ => rw [cntD] at h2 <;> first | exact absurd h2 (by decide) | (intros; simp_all)
    | .dict _, _, _ => rw [cntD] at h2 <;> first | exact absurd h2 (by decide) | (intros; simp_all)
def isT (d : PyData) : Bool := decide (0 < cntD d ∧ cntD d < 13)
/-- all of them are trees, and there are few nodes -/
def okW (ws : List PyData) (c : Nat) : Prop := (∀ d ∈ ws, 0 < cntD d) ∧ (c : Int) + (ws.map cntD).sum ≤ 12
theorem sum_pos : ∀ ws : List PyData, (∀ d ∈ ws, 0 < cntD d) → 0 ≤ (ws.map cntD).sum
  | [], _ => Int.le_refl _
  | d :: ws, h => by
    have h1 := h d (List.mem_cons_self ..)
    have h2 := sum_pos ws fun e he => h e (List.mem_cons_of_mem _ he)
    rw [List.map_cons, List.sum_cons]
    omega
theorem okW_app {ws : List PyData} {p : PyData} {c : Nat} : okW (ws ++ [p]) c ↔ (∀ d ∈ ws, 0 < cntD d) ∧ 0 < cntD p ∧ (c : Int) + (ws.map cntD).sum + cntD p ≤ 12 := by
  unfold okW
  rw [List.map_append, List.sum_append]
  constructor
  · rintro ⟨h1, h2⟩
    have h2' : (c : Int) + ((ws.map cntD).sum + (cntD p + 0)) ≤ 12 := h2
    exact ⟨fun d hd => h1 d (List.mem_append_left _ hd), h1 p (List.mem_append_right _ (List.mem_singleton.mpr rfl)), by omega⟩
  · rintro ⟨h1, h2, h3⟩
    refine ⟨fun d hd => ?_, ?_⟩
    · rcases List.mem_append.mp hd with z | z
      · exact h1 d z
      · rw [List.mem_singleton.mp z]
        exact h2
    · show (c : Int) + ((ws.map cntD).sum + (cntD p + 0)) ≤ 12
      omega
def keepD : PyData → List PyData
  | .none => []
  | d => [d]
theorem keepD_or (d : PyData) : (d = .none ∧ keepD d = []) ∨ (d ≠ .none ∧ keepD d = [d]) := by
  cases d <;> first | exact .inl ⟨rfl, rfl⟩ | exact .inr ⟨by simp, rfl⟩
theorem okW_node {ws : List PyData} {l m r : PyData} {c : Nat} (hm : letD m = true) : okW (ws ++ (keepD l ++ keepD r)) (c + 1) ↔ okW (ws ++ [.tuple [l, m, r]]) c := by
  rw [okW_app, cnt_tup]
  have side : ∀ x : PyData, (∀ d ∈ keepD x, 0 < cntD d) ↔ 0 ≤ cntD x := by
    intro x
    rcases keepD_or x with ⟨rfl, e⟩ | ⟨hx, e⟩
    · rw [e, cnt_none]
      exact ⟨fun _ => Int.le_refl _, fun _ d hd => nomatch hd⟩
    · rw [e]
      exact ⟨fun h => Int.le_of_lt (h x (List.mem_singleton.mpr rfl)), fun h d hd => by rw [List.mem_singleton.mp hd]; exact cnt_pos hx h⟩
  have sums : ∀ x : PyData, ((keepD x).map cntD).sum = cntD x := by
    intro x
    rcases keepD_or x with ⟨rfl, e⟩ | ⟨hx, e⟩
    · rw [e, cnt_none]
      rfl
    · rw [e]
      show cntD x + 0 = cntD x
      omega
  unfold okW
  rw [List.map_append, List.sum_append, List.map_append, List.sum_append, sums, sums]
  constructor
  · rintro ⟨h1, h2⟩
    have hl := (side l).mp fun d hd => h1 d (List.mem_append_right _ (List.mem_append_left _ hd))
    have hr := (side r).mp fun d hd => h1 d (List.mem_append_right _ (List.mem_append_right _ hd))
    rw [if_pos ⟨hm, hl, hr⟩]
    exact ⟨fun d hd => h1 d (List.mem_append_left _ hd), by omega, by omega⟩
  · rintro ⟨h1, h2, h3⟩
    by_cases z : letD m = true ∧ 0 ≤ cntD l ∧ 0 ≤ cntD r
    · rw [if_pos z] at h2 h3
      refine ⟨fun d hd => ?_, by omega⟩
      rcases List.mem_append.mp hd with y | y
      · exact h1 d y
      · rcases List.mem_append.mp y with y | y
        · exact (side l).mpr z.2.1 d y
        · exact (side r).mpr z.2.2 d y
    · rw [if_neg z] at h2
      exact absurd h2 (by decide)
/-! ### is_tree -/
def spIsTreeX : Sp := fun vs H Q _ => ∃ (v : V) (D : Deck) (d : PyData), vs = [v] ∧ DQ D H v d ∧ gd d = true ∧ ∀ H', Same H H' → Q (.bl (isT d)) H'
theorem dq_keep {D : Deck} {H : Hp} {v : V} {d : PyData} (h : DQ D H v d) : DQAll D H (keepV v) (keepD d) := by
  cases h with
  | non => exact .nil
  | bl b => exact .cons (.bl b) .nil
  | int i => exact .cons (.int i) .nil
  | str x => exact .cons (.str x) .nil
  | lst o e a => exact .cons (.lst o e a) .nil
  | tup o e a => exact .cons (.tup o e a) .nil
  | emp o e => exact .cons (.emp o e) .nil
  | ent o e => exact .cons (.ent o e) .nil
theorem gds_keep {d : PyData} (h : gd d = true) : gds (keepD d) = true := by
  rcases keepD_or d with ⟨_, e⟩ | ⟨_, e⟩
  · rw [e]; simp only [gds]
  · rw [e]; simp only [gds, h, Bool.and_self]
theorem dqAll_last {D : Deck} {H : Hp} {vs : List V} {ds : List PyData} (h : DQAll D H vs ds) (hne : vs ≠ []) : ∃ v d ds', vs[vs.length - 1]? = some v ∧ ds = ds' ++ [d] ∧ DQ D H v d ∧ DQAll D H vs.dropLast ds' := by
  match vs, ds, h with
  | [], _, _ => exact absurd rfl hne
  | [v], _, .cons h1 .nil => exact ⟨v, _, [], rfl, rfl, h1, .nil⟩
  | v :: w :: vs, _, .cons (d := d) h1 h2 =>
    obtain ⟨x, e, ds', a1, a2, a3, a4⟩ := dqAll_last h2 (by simp)
    refine ⟨x, e, d :: ds', ?_, by rw [a2]; rfl, a3, .cons h1 a4⟩
    show (w :: vs)[(w :: vs).length - 1]? = some x
    exact a1
section
variable {P : Program} {w : World} {K : PySem.W.Frag} {mg : Str → Option Value} {base : Heap} {f fN : Addr} {fd fdN : FuncData}
theorem ok_isTreeX {tM : Tok} (F : Fun K "is_tree" "is_tree" s_is_tree f fd) (mMAX : mg "MAX_NODES" = some (.int 12 tM)) (Dis_node : Df P w K mg base 2 "is_node" ["value"] (spAsk isN)) : FnOk P w K mg base CX0 3 f fd ["value"] spIsTreeX := by
  refine F.ok sc_is_tree (fun vs H Q E h => ?_) (fun cdv A outer s H vs Q E hr h => ?_)
  · obtain ⟨v, D, d, rfl, _⟩ := h
    rfl
  obtain ⟨v, D, d, rfl, hd, g, q⟩ := h
  refine ⟨_, (pss_cons (ps_set (i := 1) sc_is_tree.nd rfl (.inl rfl) pe_int)
    (pss_cons (ps_set (i := 2) sc_is_tree.nd rfl (.inl rfl) (pe_lst (pa_cons (pv 0) pa_nil)))
    (pss_cons (ps_while PassesOwn.never (pt_truth (pv 2) (by intro _; rfl))
      (pss_cons (ps_set (i := 3) sc_is_tree.nd rfl (.inl rfl) (pe_bm0 PySem.F.plainAttrs_list PySem.F.slot_list_pop PySem.F.type_list_pop mt_pop (pv 2)))
    (pss_cons (ps_aug (i := 1) sc_is_tree.nd rfl (.inl rfl) pe_int ip_add)
    (pss_cons (ps_if (PW.pt (pw_or (pt_cmpR op_gt (pv 1) (pe_glob (v := .int _) rfl mMAX ⟨_, rfl⟩) (nomark _)) (pw_or1 (pt_not (pt_val (pe_call Dis_node.ok (hr.mono (by omega)) rfl Dis_node.g Dis_node.kp Dis_node.b .nil pass0 (pa_cons (pv 3) pa_nil)))))))
      (pss_one (ps_ret pe_bl)) pss_nil)
    (pss_one (ps_expr (pe_bm PySem.F.plainAttrs_list PySem.F.slot_list_extend PySem.F.type_list_extend mt_extend (pv 2) (pa_cons (pe_lc (own := [("side", 4)]) (g := gName 4) rfl sc_is_tree.nd (pi_tup (pe_tup (pa_cons (pe_ix ix_tup (pv 3) pe_int (fun _ _ => rfl)) (pa_cons (pe_ix ix_tup (pv 3) pe_int (fun _ _ => rfl)) pa_nil)))) (blkOk_by (N := ["value", "count", "waiting", "part", "side"]) (sc := defScope s_is_tree) (by decide +kernel)) (fun _ _ _ _ _ => (pg_name (i := 4) sc_is_tree.nd rfl (.inl rfl))) (fun _ _ _ _ _ => pts_one (pt_cmpR op_notN (pv 4) pe_non (nomark _))) (fun _ _ _ _ _ => (pv 4))) pa_nil))))))))
    (pss_one (ps_ret pe_bl))))), ?_⟩
  refine ⟨_, rfl, (by show 1 ≤ sizeLine; decide), fun wa nw => ?_⟩
  have q0 := same_new nw (.lst [v])
  refine while_by (c := fun σ H' Q' => tVar 2 σ H' fun x H2 => ∃ k, TruV K x H2 k ∧ Q' k H2) (fun σ H' => ∃ (c : Nat) (y3 : Option V) (ws : List V) (ds : List PyData), σ = [some v, some (.int (c : Int)), some (.ref wa), y3, none] ∧ Same H H' ∧ H' wa = some (.lst ws) ∧ DQAll D H ws ds ∧ gds ds = true ∧ c ≤ 12 ∧ ws.length ≤ 2 * c + 1 ∧ (isT d = true ↔ okW ds c))
    (fun σ _ => toGo σ)
    ?_ (fun σ H' hp => ?_) ?_
  · refine ⟨0, none, [v], [d], rfl, q0, upd_same, .cons hd .nil, by simp only [gds, g, Bool.and_self], by omega, by show 1 ≤ 1; omega, ?_⟩
    unfold isT okW
    rw [decide_eq_true_eq]
    constructor
    · rintro ⟨h1, h2⟩
      refine ⟨fun e he => by rw [List.mem_singleton.mp he]; exact h1, ?_⟩
      show ((0 : Nat) : Int) + (cntD d + 0) ≤ 12
      omega
    · rintro ⟨h1, h2⟩
      have h3 := h1 d (List.mem_singleton.mpr rfl)
      have h2' : ((0 : Nat) : Int) + (cntD d + 0) ≤ 12 := h2
      exact ⟨h3, by omega⟩
  · obtain ⟨c, y3, ws, ds, rfl, sm, ew, al, gw, hc, hl, hT⟩ := hp
    refine ⟨_, rfl, !ws.isEmpty, .inl ⟨ws, SqL.of ew, rfl⟩, ?_⟩
    cases ws with
    | nil =>
      refine iteF ?_
      cases al
      have t : isT d = true := hT.mpr ⟨(fun _ z => nomatch z), (by show (c : Int) + 0 ≤ 12; omega)⟩
      have := q H' sm
      rw [t] at this
      exact this
    | cons w0 ws0 =>
      refine iteT ?_
      obtain ⟨p, dp, ds', ep, rfl, hp, al'⟩ := dqAll_last al (by simp)
      rw [gds_app, Bool.and_eq_true] at gw
      have gp : gd dp = true := by
        have := gw.2
        simp only [gds, Bool.and_true] at this
        exact this
      refine ⟨.ref wa, rfl, .inl ⟨rfl, _, SqL.of ew⟩, wa, _, p, rfl, rfl, ew, ep, ?_⟩
      refine ⟨_, rfl, _, _, rfl, rfl, ?_⟩
      have sm2 : Same H (upd H' wa (.lst (w0 :: ws0).dropLast)) := fun b o z => by
        rw [upd_ne (ne_of_none z nw)]
        exact sm _ _ z
      have ew2 : (upd H' wa (.lst (w0 :: ws0).dropLast)) wa = some (.lst (w0 :: ws0).dropLast) := upd_same
      generalize upd H' wa (.lst (w0 :: ws0).dropLast) = H2 at sm2 ew2 ⊢
      refine ⟨_, rfl, _, _, rfl, rfl, _, rfl, ite2 (fun e => ?_) (fun e => ?_)⟩
      · have e' : (c : Int) + 1 > 12 := of_decide_eq_true e
        have t : isT d = false := by
          rw [Bool.eq_false_iff]
          intro z
          obtain ⟨h1, h2, h3⟩ := okW_app.mp (hT.mp z)
          have := sum_pos ds' h1
          omega
        have := q H2 sm2
        rw [t] at this
        exact iteT this
      · have e' : ¬ (c : Int) + 1 > 12 := of_decide_eq_false (Bool.eq_false_iff.mpr e)
        refine ⟨_, rfl, p, D, dp, rfl, dq_same sm2 hp, gp, _, rfl, ?_⟩
        cases hN : isN dp with
        | false =>
          refine iteT ?_
          have t : isT d = false := by
            rw [Bool.eq_false_iff]
            intro z
            obtain ⟨h1, h2, h3⟩ := okW_app.mp (hT.mp z)
            have := cnt_not hN
            omega
          have := q H2 sm2
          rw [t] at this
          exact this
        | true =>
          refine iteF ?_
          obtain ⟨dl, dm, dr, rfl⟩ : ∃ dl dm dr, dp = .tuple [dl, dm, dr] := by
            match dp, hN with
            | .tuple [l, m, r], _ => exact ⟨l, m, r, rfl⟩
          cases hp with
          | @tup a _ _ o e3 al3 =>
          cases al3 with
          | @cons vl _ _ _ hl' al3 =>
          cases al3 with
          | @cons vm _ _ _ hm' al3 =>
          cases al3 with
          | @cons vr _ _ _ hr' al3 =>
          cases al3 with
          | nil =>
            have hm : letD dm = true := hN
            have e3' := sm2 _ _ e3
            refine ⟨.ref wa, rfl, .inl ⟨rfl, _, SqL.of ew2⟩, _, rfl, a, _, 0, vl, rfl, rfl, SqT.of e3', atI_nat (j := 0) rfl, _, rfl, a, _, 2, vr, rfl, rfl, SqT.of e3', atI_nat (j := 2) rfl, (by show 2 ≤ sizeLine; decide), fun tp ntp => ?_⟩
            have q6 := same_new ntp (.tup [vl, vr])
            refine ⟨tp, rfl, ⟨_, SqT.of upd_same⟩, fun L nL => ?_⟩
            have q7 := same_new nL (.lst [])
            refine lc_tup (K := K) (a := tp) (xs := [vl, vr]) (fun j H'' => Same (upd H2 tp (.tup [vl, vr])) H'' ∧ H'' L = some (.lst ((([vl, vr] : List V).take j).flatMap keepV))) ⟨q7, upd_same⟩ (fun j H'' _ hp => SqT.of (hp.1 _ _ upd_same)) (fun j x H'' hx hp => ?_) (fun H'' hp => ?_)
            · obtain ⟨s7, eL⟩ := hp
              refine ⟨rfl, _, rfl, rfl, _, rfl, ?_⟩
              by_cases hxn : x = .non
              · refine iteNS hxn ⟨s7, ?_⟩
                rw [keep_step hx, hxn]
                show _ = some (HO.lst (_ ++ []))
                rw [List.append_nil]
                exact eL
              · rw [decide_eq_false hxn]
                refine iteT ⟨x, rfl, _, eL, ?_, fun b o z => ?_, ?_⟩
                · have := keep_len (([vl, vr] : List V).take j)
                  have h2 : (([vl, vr] : List V).take j).length ≤ 2 := by rw [List.length_take]; exact Nat.min_le_right _ _
                  exact small1000 (by omega)
                · rw [upd_ne (ne_of_none z nL)]
                  exact s7 _ _ z
                · rw [upd_same, keep_step hx]
                  cases x <;> first | rfl | exact absurd rfl hxn
            · obtain ⟨s7, eL⟩ := hp
              have s8 : Same H2 H'' := q6.trans s7
              have eL' : H'' L = some (.lst (keepV vl ++ keepV vr)) := by
                rw [eL]
                show some (HO.lst (keepV vl ++ (keepV vr ++ []))) = _
                rw [List.append_nil]
              have k1 : (keepV vl).length ≤ 1 := by cases vl <;> first | exact Nat.zero_le _ | exact Nat.le_refl _
              have k2 : (keepV vr).length ≤ 1 := by cases vr <;> first | exact Nat.zero_le _ | exact Nat.le_refl _
              have dl' : (w0 :: ws0).dropLast.length = ws0.length := by rw [List.length_dropLast]; rfl
              have hl2 : ws0.length + 1 ≤ 2 * c + 1 := hl
              refine ⟨wa, L, _, _, rfl, rfl, s8 _ _ ew2, eL', ?_, ?_⟩
              · rw [List.length_append, dl']
                exact small (by omega)
              simp only [gd, gds, Bool.and_true, Bool.and_eq_true] at gp
              refine ⟨⟨c + 1, some (.ref a), _, ds' ++ (keepD dl ++ keepD dr), rfl, fun b o z => ?_, upd_same, dqAll_app al' (dqAll_app (dq_keep hl') (dq_keep hr')), ?_, by omega, ?_, ?_⟩, ?_⟩
              · rw [upd_ne (ne_of_none z nw)]
                exact s8 _ _ (sm2 _ _ z)
              · rw [gds_app, gds_app, gw.1, gds_keep gp.1, gds_keep gp.2.2]
                rfl
              · rw [List.length_append, List.length_append, dl']
                omega
              · exact hT.trans (okW_node hm).symm
              · show (13 - ((c : Int) + 1)).toNat < (13 - (c : Int)).toNat
                omega
  · intro σ H' Q1 Q2 hQ h
    obtain ⟨v', e, k', t, q'⟩ := h
    exact ⟨v', e, k', t, hQ _ _ q'⟩
end
/-! ### trees among values; is_link -/
abbrev vn (n : Nat) : V := .int (n : Int)
def toB : PyData → B
  | .tuple [l, .str x, r] => .node (toB l) (x.cps.toList.headD 0) (toB r)
  | _ => .nil
theorem toB_ok : ∀ d : PyData, 0 ≤ cntD d → (toB d).data = d ∧ ((toB d).size : Int) = cntD d ∧ ltB (toB d)
  | .none, _ => by
    refine ⟨?_, ?_, ?_⟩
    · simp only [toB, B.data]
    · simp only [toB, cntD]; rfl
    · simp only [toB]; exact fun c hc => nomatch hc
  | .tuple [l, m, r], h => by
    rw [cnt_tup] at h ⊢
    by_cases z : letD m = true ∧ 0 ≤ cntD l ∧ 0 ≤ cntD r
    · rw [if_pos z]
      obtain ⟨c, rfl, hc⟩ := letD_of z.1
      obtain ⟨a1, a2, a3⟩ := toB_ok l z.2.1
      obtain ⟨b1, b2, b3⟩ := toB_ok r z.2.2
      have e : toB (.tuple [l, .str (ch c), r]) = .node (toB l) c (toB r) := by rw [toB]; rfl
      rw [e]
      refine ⟨?_, ?_, ?_⟩
      · simp only [B.data, a1, b1]
      · show (((toB l).size + 1 + (toB r).size : Nat) : Int) = _
        omega
      · intro k hk
        rcases List.mem_cons.mp hk with rfl | hk
        · simp only [isLow, Bool.and_eq_true, decide_eq_true_eq] at hc
          exact hc
        · rcases List.mem_append.mp hk with hk | hk
          · exact a3 k hk
          · exact b3 k hk
    · rw [if_neg z] at h
      omega
  | .tuple [], h => by simp [cntD] at h
  | .tuple [_], h => by simp [cntD] at h
  | .tuple [_, _], h => by simp [cntD] at h
  | .tuple (_ :: _ :: _ :: _ :: _), h => by simp [cntD] at h
  | .bool _, h => by simp [cntD] at h
  | .int _, h => by simp [cntD] at h
  | .str _, h => by simp [cntD] at h
  | .list _, h => by simp [cntD] at h
  | .dict _, h => by simp [cntD] at h
theorem dq_bat {D : Deck} {H : Hp} : ∀ (t : B) (v : V), DQ D H v t.data → BAt H v t
  | .nil, v, h => by
    simp only [B.data] at h
    cases h
    exact .nil
  | .node l x r, v, h => by
    simp only [B.data] at h
    cases h with
    | tup o e al =>
      cases al with
      | cons h1 al =>
      cases al with
      | cons h2 al =>
      cases al with
      | cons h3 al =>
      cases al
      cases h2
      exact .node e (dq_bat l _ h1) (dq_bat r _ h3)
theorem isT_tree {d : PyData} (h : isT d = true) : (toB d).data = d ∧ 1 ≤ (toB d).size ∧ (toB d).size ≤ 12 ∧ ltB (toB d) := by
  unfold isT at h
  rw [decide_eq_true_eq] at h
  obtain ⟨a, b, c⟩ := toB_ok d (by omega)
  exact ⟨a, by omega, by omega, c⟩
theorem isT_bat {D : Deck} {H : Hp} {v : V} {d : PyData} (h : isT d = true) (hd : DQ D H v d) : BAt H v (toB d) := dq_bat _ _ (by rw [(isT_tree h).1]; exact hd)
theorem iteC {c : Bool} {A B : Prop} (h : c = true) (a : A) : if c = true then A else B := by rw [if_pos h]; exact a
/-- a link that fits the tree, before the entry n -/
def lkB (t : B) (n : Nat) : PyData → Bool
  | .tuple [a, b] => decide (pathTo t a = some .nil) && isIx b 0 ((n : Int) - 1)
  | _ => false
def spLink : Sp := fun vs H Q _ => ∃ (v tv : V) (D : Deck) (d : PyData) (t : B) (n : Nat), vs = [v, tv, vn n] ∧ DQ D H v d ∧ BAt H tv t ∧ ∀ H', Same H H' → Q (.bl (lkB t n d)) H'
section
variable {P : Program} {w : World} {K : PySem.W.Frag} {mg : Str → Option Value} {base : Heap} {f : Addr} {fd : FuncData}
theorem ok_link (F : Fun K "is_link" "is_link" s_is_link f fd) (M : Mgs mg) (Dis_open : Df P w K mg base 3 "is_open" ["tree", "path"] spOpenX) (Dis_index : Df P w K mg base 2 "is_index" ["value", "many"] spIndexQ) : FnOk P w K mg base CX0 4 f fd ["value", "tree", "entries"] spLink := by
  refine F.ok (k := 3) sc_is_link (fun vs H Q E h => ?_) (fun cdv A outer s H vs Q E hr h => ?_)
  · obtain ⟨v, tv, D, d, t, n, rfl, _⟩ := h
    rfl
  obtain ⟨v, tv, D, d, t, n, rfl, hd, ht, q⟩ := h
  refine ⟨_, (pss_cons (ps_if (PW.pt (pw_or (pt_not (pt_val (pe_callB call_isi rfl M.isinstance (by decide +kernel) (pa_cons (pv 0) (pa_cons (pe_bltn (v := .ty "tuple") rfl M.tuple (by decide +kernel) rfl) pa_nil))))) (pw_or1 (pt_cmpR op_ne (pe_callB call_len_seq rfl M.len PySem.boot_len (pa_cons (pv 0) pa_nil)) pe_int (nomark _)))))
      (pss_one (ps_ret pe_bl)) pss_nil)
    (pss_one (ps_ret (pe_and (pe_call Dis_open.ok (hr.mono (by omega)) rfl Dis_open.g Dis_open.kp Dis_open.b .nil pass0 (pa_cons (pv 1) (pa_cons (pe_ix ix_tup (pv 0) pe_int (fun _ _ => rfl)) pa_nil))) (pe_one (pe_call Dis_index.ok (hr.mono (by omega)) rfl Dis_index.g Dis_index.kp Dis_index.b .nil pass0 (pa_cons (pe_ix ix_tup (pv 0) pe_int (fun _ _ => rfl)) (pa_cons (pv 2) pa_nil)))))))), ?_⟩
  refine ⟨_, rfl, _, _, _, _, isTupD d, rfl, .ty _, dq_ty hd, kit_ty (kit_tup d), _, rfl, ?_⟩
  cases hd with
  | @tup a xs ds o e al =>
    refine iteF ?_
    have hl := dqAll_len al
    refine ⟨_, rfl, a, xs, rfl, .inr (SqT.of e), rfl, _, rfl, ?_⟩
    by_cases h2 : xs.length = 2
    · match xs, ds, h2, al with
      | [x1, x2], [y1, y2], _, .cons g1 (.cons g2 .nil) =>
      refine iteF ?_
      refine ⟨_, rfl, _, rfl, a, _, 0, x1, rfl, rfl, SqT.of e, atI_nat (j := 0) rfl, tv, x1, t, D, y1, rfl, ht, g1, fun b H1 hb s1 => ?_⟩
      have hb2 : decide (pathTo t y1 = some .nil) = b := by
        cases b with
        | true => exact decide_eq_true (hb.mp rfl)
        | false => exact decide_eq_false fun z => by have := hb.mpr z; cases this
      have q : ∀ H', Same H H' → Q (.bl (b && isIx y2 0 ((n : Int) - 1))) H' := by
        intro H' s'
        have := q H' s'
        have e2 : lkB t n (.tuple [y1, y2]) = (decide (pathTo t y1 = some .nil) && isIx y2 0 ((n : Int) - 1)) := rfl
        rw [e2, hb2] at this
        exact this
      refine ⟨_, rfl, ?_⟩
      cases b with
      | false => exact iteF (q H1 s1)
      | true =>
        refine iteT ?_
        exact ⟨_, rfl, a, _, 1, x2, rfl, rfl, SqT.of (s1 _ _ e), atI_nat (j := 1) rfl, _, rfl, x2, D, y2, _, rfl, dq_same s1 g2, q H1 s1⟩
    · have c : (!decide (V.int ((xs.length : Nat) : Int) = V.int 2)) = true := by
        rw [decide_eq_false fun z => h2 (by have := V.int.inj z; omega)]; rfl
      have no : lkB t n (.tuple ds) = false := by
        match ds, hl with
        | [], _ => rfl
        | [_], _ => rfl
        | [_, _], hl => exact absurd hl h2
        | _ :: _ :: _ :: _, _ => rfl
      have := q H (Same.refl H)
      rw [no] at this
      exact iteC c this
  | non => exact iteT (q H (Same.refl H))
  | bl b => exact iteT (q H (Same.refl H))
  | int i => exact iteT (q H (Same.refl H))
  | lst _ _ _ => exact iteT (q H (Same.refl H))
  | str _ => exact iteT (q H (Same.refl H))
  | emp _ _ => exact iteT (q H (Same.refl H))
  | ent _ _ => exact iteT (q H (Same.refl H))
end
/-! ### is_ascending of a list of texts -/
def asc (zs : List Str) : Bool := ((zs.zip (zs.drop 1)).map fun q => decide (q.1.cps.toList < q.2.cps.toList)).all id
def spAsc : Sp := fun vs H Q _ => ∃ (a : Addr) (zs : List Str), vs = [.ref a] ∧ H a = some (.lst (zs.map V.str)) ∧ zs.length ≤ 500000 ∧ ∀ H', Same H H' → Q (.bl (asc zs)) H'
theorem cut_from1 (xs : List V) : cutV xs (some 1) none = xs.drop 1 := by
  unfold cutV
  rw [show (1 : Int) = ((1 : Nat) : Int) from rfl, HT.sIx_nat, HT.sIx_none]
  by_cases h : 1 ≤ xs.length
  · rw [Nat.min_eq_left h, List.take_of_length_le (by rw [List.length_drop]; omega)]
  · rw [Nat.min_eq_right (by omega), List.drop_eq_nil_of_le (Nat.le_refl _), List.drop_eq_nil_of_le (by omega), List.take_nil]
section
variable {P : Program} {w : World} {K : PySem.W.Frag} {mg : Str → Option Value} {base : Heap} {f : Addr} {fd : FuncData}
theorem ok_asc {k : Nat} (F : Fun K "is_ascending" "is_ascending" s_is_ascending f fd) (M : Mgs mg) : FnOk P w K mg base CX0 (k + 1) f fd ["items"] spAsc := by
  refine F.ok sc_is_ascending (fun vs H Q E h => ?_) (fun cdv A outer s H vs Q E hr h => ?_)
  · obtain ⟨a, zs, rfl, _⟩ := h
    rfl
  refine ⟨_, (pss_one (ps_ret (pe_callB (cr_all rfl) rfl M.all (by decide +kernel) (pa_cons (pe_lc (own := [("one", 1), ("other", 2)]) (g := gTup K 2 (gCons (gName 1) (gCons (gName 2) gNil))) (tt := tYes) rfl sc_is_ascending.nd (pi_zip rfl M.zip (pa_cons (pv 0) (pa_cons (pe_slice sl_list (pv 0) (po_some pe_int) po_none) pa_nil))) (blkOk_by (N := ["items", "one", "other"]) (sc := defScope s_is_ascending) (by decide +kernel)) (fun _ _ _ _ _ => (pg_tup rfl (pgs_cons (pg_name (i := 1) sc_is_ascending.nd rfl (.inl rfl)) (pgs_cons (pg_name (i := 2) sc_is_ascending.nd rfl (.inl rfl)) pgs_nil)))) (fun _ _ _ _ _ => pts_nil) (fun _ _ _ _ _ => (pe_cmpR op_lt_str (pv 1) (pv 2) (nomark _)))) pa_nil)))), ?_⟩
  obtain ⟨a, zs, rfl, ha, hl, q⟩ := h
  refine ⟨_, rfl, _, rfl, 1, rfl, a, _, rfl, SqL.of ha, fun b nb => ?_⟩
  have q0 := same_new nb (.lst (cutV (zs.map V.str) (some 1) none))
  have eb := upd_same (H := H) (a := b) (o := .lst (cutV (zs.map V.str) (some 1) none))
  rw [cut_from1, ← List.map_drop] at q0 eb ⊢
  have ha0 := q0 _ _ ha
  generalize upd H b (.lst ((zs.drop 1).map V.str)) = H0 at q0 eb ha0 ⊢
  refine ⟨a, b, _, _, rfl, SqL.of ha0, SqL.of eb, fun D nD => ?_⟩
  have q1 := same_new nD (.lst [])
  refine lc_it (walk_zip (K := K) (a := a) (b := b) (xs := zs.map V.str) (ys := (zs.drop 1).map V.str) rfl) (fun i H' => Same H0 H' ∧ H' D = some (.lst ((((zs.zip (zs.drop 1)).take i).map fun q => decide (q.1.cps.toList < q.2.cps.toList)).map V.bl))) ⟨q1, upd_same⟩ (fun _ H' _ hp => ⟨SqL.of (hp.1 _ _ ha0), SqL.of (hp.1 _ _ eb)⟩) (fun i x H' H'' hi hp hy => ?_) (fun H' hp => ?_)
  · obtain ⟨sm, ed⟩ := hp
    obtain ⟨p, x1, y1, rfl, np, rfl, hc, hd⟩ := hy
    have hc : (zs.map V.str)[i]? = some x1 := hc
    have hd : ((zs.drop 1).map V.str)[i]? = some y1 := hd
    rw [List.getElem?_map] at hc hd
    obtain ⟨c, hc', rfl⟩ := Option.map_eq_some_iff.mp hc
    obtain ⟨d, hd', rfl⟩ := Option.map_eq_some_iff.mp hd
    have q2 := same_new np (.tup [.str c, .str d])
    have hz : (zs.zip (zs.drop 1))[i]? = some (c, d) := List.getElem?_zip_eq_some.mpr ⟨hc', hd'⟩
    have hi' : i < zs.length := (List.getElem?_eq_some_iff.mp hc').1
    refine ⟨p, _, rfl, SqT.of upd_same, rfl, _, _, rfl, _, _, rfl, rfl, rfl, kept ?_⟩
    refine ⟨_, rfl, _, rfl, _, _, rfl, rfl, _, q2 _ _ ed, ?_, fun b' o e => ?_, ?_⟩
    · rw [List.length_map, List.length_map, List.length_take]; exact Nat.lt_of_le_of_lt (show _ ≤ 500000 by omega) (by decide)
    · rw [upd_ne (ne_of_none e nD)]; exact q2 _ _ (sm _ _ e)
    · rw [upd_same, List.take_succ, hz, List.map_append, List.map_append]
      rfl
  · obtain ⟨sm, ed⟩ := hp
    refine ⟨D, _, rfl, SqL.of ed, ?_⟩
    have e : (zs.zip (zs.drop 1)).take (min (zs.map V.str).length ((zs.drop 1).map V.str).length) = zs.zip (zs.drop 1) := by
      refine List.take_of_length_le ?_
      rw [List.length_zip, List.length_map, List.length_map]
      exact Nat.le_refl _
    rw [e]
    exact q H' (q0.trans sm)
end
/-! ### is_entry -/
def lkP : PyData → Str
  | .tuple [.str x, _] => x
  | _ => Str.empty
def enB2 (n : Nat) (a : PyData) : PyData → Bool
  | .tuple ls => isT a && ((ls.map (lkB (toB a) n)).all id && asc (ls.map lkP))
  | _ => false
def enB (n : Nat) : PyData → Bool
  | .tuple [a, b] => enB2 n a b
  | _ => false
theorem wts_len : ∀ ds : List PyData, 2 * ds.length ≤ wts ds
  | [] => Nat.zero_le _
  | d :: ds => by
    have := wts_len ds
    simp only [wts, List.length_cons]
    omega
theorem lkB_path {t : B} {n : Nat} {d : PyData} (h : lkB t n d = true) : ∃ x b, d = .tuple [.str x, b] ∧ lkP d = x := by
  unfold lkB at h
  split at h
  · rename_i a b
    rw [Bool.and_eq_true, decide_eq_true_eq] at h
    cases a with
    | str x => exact ⟨x, b, rfl, rfl⟩
    | _ => exact absurd h.1 (by simp [pathTo])
  · cases h
def spEntry : Sp := fun vs H Q _ => ∃ (v : V) (D : Deck) (d : PyData) (n : Nat), vs = [v, vn n] ∧ DQ D H v d ∧ gd d = true ∧ wt d ≤ 1000000 ∧ ∀ H', Same H H' → Q (.bl (enB n d)) H'
section
variable {P : Program} {w : World} {K : PySem.W.Frag} {mg : Str → Option Value} {base : Heap} {f : Addr} {fd : FuncData}
theorem ok_entry (F : Fun K "is_entry" "is_entry" s_is_entry f fd) (M : Mgs mg) (Dis_tree : Df P w K mg base 3 "is_tree" ["value"] spIsTreeX) (Dis_link : Df P w K mg base 4 "is_link" ["value", "tree", "entries"] spLink) (Dis_ascending : Df P w K mg base 1 "is_ascending" ["items"] spAsc) : FnOk P w K mg base CX0 5 f fd ["value", "entries"] spEntry := by
  refine F.ok (k := 4) sc_is_entry (fun vs H Q E h => ?_) (fun cdv A outer s H vs Q E hr h => ?_)
  · obtain ⟨v, D, d, n, rfl, _⟩ := h
    rfl
  obtain ⟨v, D, d, n, rfl, hd, g, hw, q⟩ := h
  refine ⟨_, (pss_cons (ps_if (PW.pt (pw_or (pt_not (pt_val (pe_callB call_isi rfl M.isinstance (by decide +kernel) (pa_cons (pv 0) (pa_cons (pe_bltn (v := .ty "tuple") rfl M.tuple (by decide +kernel) rfl) pa_nil))))) (pw_or1 (pt_cmpR op_ne (pe_callB call_len_seq rfl M.len PySem.boot_len (pa_cons (pv 0) pa_nil)) pe_int (nomark _)))))
      (pss_one (ps_ret pe_bl)) pss_nil)
    (pss_cons (ps_asg (pv 0) (pg_tup rfl (pgs_cons (pg_name (i := 2) sc_is_entry.nd rfl (.inr rfl)) (pgs_cons (pg_name (i := 3) sc_is_entry.nd rfl (.inl rfl)) pgs_nil))))
    (pss_cons (ps_if (PW.pt (pw_or (pt_not (pt_val (pe_call Dis_tree.ok (hr.mono (by omega)) rfl Dis_tree.g Dis_tree.kp Dis_tree.b .nil pass0 (pa_cons (pv 2) pa_nil)))) (pw_or1 (pt_not (pt_val (pe_callB call_isi rfl M.isinstance (by decide +kernel) (pa_cons (pv 3) (pa_cons (pe_bltn (v := .ty "tuple") rfl M.tuple (by decide +kernel) rfl) pa_nil))))))))
      (pss_one (ps_ret pe_bl)) pss_nil)
    (pss_one (ps_ret (pe_and (pe_callB (cr_all rfl) rfl M.all (by decide +kernel) (pa_cons (pe_lc (own := [("link", 4)]) (g := gName 4) (tt := tYes) rfl sc_is_entry.nd (pi_tup (pv 3)) (blkOk_by (N := ["value", "entries", "tree", "links", "link"]) (sc := defScope s_is_entry) (by decide +kernel)) (fun _ _ _ _ _ => (pg_name (i := 4) sc_is_entry.nd rfl (.inl rfl))) (fun _ _ _ _ _ => pts_nil) (fun _ _ _ _ _ => (pe_call Dis_link.ok (hr.mono (by omega)) rfl Dis_link.g Dis_link.kp Dis_link.b .nil pass0 (pa_cons (pv 4) (pa_cons (pv 2) (pa_cons (pv 1) pa_nil)))))) pa_nil)) (pe_one (pe_call Dis_ascending.ok (hr.mono (by omega)) rfl Dis_ascending.g Dis_ascending.kp Dis_ascending.b .nil pass0 (pa_cons (pe_lc (own := [("link", 4)]) (g := gName 4) (tt := tYes) rfl sc_is_entry.nd (pi_tup (pv 3)) (blkOk_by (N := ["value", "entries", "tree", "links", "link"]) (sc := defScope s_is_entry) (by decide +kernel)) (fun _ _ _ _ _ => (pg_name (i := 4) sc_is_entry.nd rfl (.inl rfl))) (fun _ _ _ _ _ => pts_nil) (fun _ _ _ _ _ => (pe_ix (show IxR _ (rIxT K) from ix_tup) (pv 4) pe_int (fun _ _ => rfl)))) pa_nil))))))))), ?_⟩
  refine ⟨_, rfl, _, _, _, _, isTupD d, rfl, .ty _, dq_ty hd, kit_ty (kit_tup d), _, rfl, ?_⟩
  cases hd with
  | @tup a xs ds o e al =>
    refine iteF ?_
    have hl := dqAll_len al
    refine ⟨_, rfl, a, xs, rfl, .inr (SqT.of e), rfl, _, rfl, ?_⟩
    by_cases h2 : xs.length = 2
    · match xs, ds, h2, al with
      | [x1, x2], [y1, y2], _, .cons g1 (.cons g2 .nil) =>
      refine iteF ?_
      simp only [gd, gds, Bool.and_eq_true] at g
      simp only [wt, wts] at hw
      refine ⟨_, rfl, a, _, rfl, SqT.of e, rfl, x1, _, rfl, x2, _, rfl, rfl, ?_⟩
      refine ⟨_, rfl, x1, D, y1, rfl, g1, g.1, fun H1 s1 => ?_⟩
      cases hT : isT y1 with
      | false =>
        have no : enB n (.tuple [y1, y2]) = false := by
          show enB2 n y1 y2 = false
          cases y2 <;> first | rfl | (show (isT y1 && _) = false; rw [hT]; rfl)
        have := q H1 s1
        rw [no] at this
        exact ⟨_, rfl, iteT this⟩
      | true =>
        have bt := (isT_bat hT g1).same s1
        have g2' := dq_same s1 g2
        refine ⟨_, rfl, iteF ⟨_, rfl, _, _, _, _, isTupD y2, rfl, .ty _, dq_ty g2', kit_ty (kit_tup y2), _, rfl, ?_⟩⟩
        cases g2' with
        | @tup la zs ls ol el all =>
          refine iteF ?_
          have hw2 : 3 + wts ls ≤ 1000000 := by have : wt (.tuple ls) ≤ 1000000 := by omega
                                                simpa only [wt] using this
          have hln := wts_len ls
          have hzl := dqAll_len all
          have q' : ∀ H', Same H H' → Q (.bl ((ls.map (lkB (toB y1) n)).all id && asc (ls.map lkP))) H' := fun H' s' => by
            have := q H' s'
            have e2 : enB n (.tuple [y1, .tuple ls]) = (isT y1 && ((ls.map (lkB (toB y1) n)).all id && asc (ls.map lkP))) := rfl
            rw [e2, hT, Bool.true_and] at this
            exact this
          refine ⟨_, rfl, la, rfl, ⟨_, SqT.of el⟩, fun L nL => ?_⟩
          have kL := same_new nL (.lst [])
          refine lc_tup (K := K) (a := la) (xs := zs) (fun j H'' => Same H1 H'' ∧ H'' L = some (.lst (((ls.take j).map (lkB (toB y1) n)).map V.bl))) ⟨kL, upd_same⟩ (fun j H'' _ hp => SqT.of (hp.1 _ _ el)) (fun j x H'' hx hp => ?_) (fun H'' hp => ?_)
          · obtain ⟨s7, eL⟩ := hp
            obtain ⟨dx, hdx, hq⟩ := dqAll_get all hx
            refine ⟨rfl, kept ⟨_, rfl, _, rfl, _, rfl, x, x1, D, dx, toB y1, n, rfl, dq_same s7 hq, bt.same s7, fun H3 s3 => ?_⟩⟩
            refine ⟨_, s3 _ _ eL, ?_, fun b o e => ?_, ?_⟩
            · rw [List.length_map, List.length_map, List.length_take]
              exact Nat.lt_of_le_of_lt (show _ ≤ 500000 by omega) (by decide)
            · rw [upd_ne (ne_of_none e nL)]
              exact s3 _ _ (s7 _ _ e)
            · rw [upd_same, List.take_succ, hdx, List.map_append, List.map_append]
              rfl
          · obtain ⟨s7, eL⟩ := hp
            rw [hzl, List.take_length] at eL
            have s17 := s1.trans s7
            refine ⟨L, _, rfl, SqL.of eL, ?_⟩
            refine ⟨_, rfl, ?_⟩
            cases hA : (ls.map (lkB (toB y1) n)).all id with
            | false =>
              have := q' H'' s17
              rw [hA] at this
              exact iteF this
            | true =>
              refine iteT ?_
              refine ⟨_, rfl, la, rfl, ⟨_, SqT.of (s7 _ _ el)⟩, fun L2 nL2 => ?_⟩
              have k2 := same_new nL2 (.lst [])
              have el2 := s7 _ _ el
              refine lc_tup (K := K) (a := la) (xs := zs) (fun j H3 => Same H'' H3 ∧ H3 L2 = some (.lst (((ls.take j).map lkP).map V.str))) ⟨k2, upd_same⟩ (fun j H3 _ hp => SqT.of (hp.1 _ _ el2)) (fun j x H3 hx hp => ?_) (fun H3 hp => ?_)
              · obtain ⟨s8, eL2⟩ := hp
                obtain ⟨dx, hdx, hq⟩ := dqAll_get all hx
                have ok : lkB (toB y1) n dx = true := List.all_eq_true.mp hA _ (List.mem_map.mpr ⟨dx, List.mem_of_getElem? hdx, rfl⟩)
                obtain ⟨sx, bx, rfl, hp2⟩ := lkB_path ok
                have hq3 := dq_same (s7.trans s8) hq
                cases hq3 with
                | tup ox ex ax =>
                cases ax with
                | cons a1 ax =>
                cases ax with
                | cons a2 ax =>
                cases ax
                cases a1
                refine ⟨rfl, kept ⟨_, rfl, _, _, 0, _, rfl, rfl, SqT.of ex, atI_nat (j := 0) rfl, ?_⟩⟩
                refine ⟨_, eL2, ?_, fun b o e => ?_, ?_⟩
                · rw [List.length_map, List.length_map, List.length_take]
                  exact Nat.lt_of_le_of_lt (show _ ≤ 500000 by omega) (by decide)
                · rw [upd_ne (ne_of_none e nL2)]
                  exact s8 _ _ e
                · rw [upd_same, List.take_succ, hdx, List.map_append, List.map_append]
                  show _ = some (HO.lst (_ ++ [V.str (lkP (.tuple [.str sx, bx]))]))
                  rw [hp2]
              · obtain ⟨s8, eL2⟩ := hp
                rw [hzl, List.take_length] at eL2
                refine ⟨L2, ls.map lkP, rfl, eL2, by rw [List.length_map]; omega, fun H4 s4 => ?_⟩
                have := q' H4 (s17.trans (s8.trans s4))
                rw [hA, Bool.true_and] at this
                exact this
        | non => exact iteT (q H1 s1)
        | bl b => exact iteT (q H1 s1)
        | int i => exact iteT (q H1 s1)
        | lst _ _ _ => exact iteT (q H1 s1)
        | str _ => exact iteT (q H1 s1)
        | emp _ _ => exact iteT (q H1 s1)
        | ent _ _ => exact iteT (q H1 s1)
    · have c : (!decide (V.int ((xs.length : Nat) : Int) = V.int 2)) = true := by
        rw [decide_eq_false fun z => h2 (by have := V.int.inj z; omega)]; rfl
      have no : enB n (.tuple ds) = false := by
        match ds, hl with
        | [], _ => rfl
        | [_], _ => rfl
        | [_, _], hl => exact absurd hl h2
        | _ :: _ :: _ :: _, _ => rfl
      have := q H (Same.refl H)
      rw [no] at this
      exact iteC c this
  | non => exact iteT (q H (Same.refl H))
  | bl b => exact iteT (q H (Same.refl H))
  | int i => exact iteT (q H (Same.refl H))
  | lst _ _ _ => exact iteT (q H (Same.refl H))
  | str _ => exact iteT (q H (Same.refl H))
  | emp _ _ => exact iteT (q H (Same.refl H))
  | ent _ _ => exact iteT (q H (Same.refl H))
end
end Tw --
/-! ### enumerate of a tuple -/
namespace PySem
open Sem (wp)
open AutoSeq1 (wpAny_loadPart')
set_option maxHeartbeats 1000000 in
theorem meets_enumerate_newB1 {v : Value} {o : Obj} {H : Heap → Prop} (B : Begins v o H) :
    Meets (Builtin.«enumerate.__new__» ⟨[.type "enumerate", v], []⟩) (fun _ R s => H s.heap ∧
      R (.ok (.ret (.ref (s.heap.push o).objs.size))) { s with heap := (s.heap.push o).push { cls := .type "enumerate", data := .fields #[.none, .bool false, .ref s.heap.objs.size, rawInt 0, .none, .none] } }) :=
  .of_wp fun prog w A R s h => by
    obtain ⟨hp, g, d, tk, os⟩ := s; obtain ⟨h1, h⟩ := h
    have hsub := sub_enumerate
    have q1 : ∀ {A' : Around} {E : Value → Shared → Prop} {Q : Value → Shared → Prop}, Q (.ref hp.objs.size) ⟨hp.push o, g, d, tk, os⟩ → wpAny (model prog w) A' (pyIter v) Q E ⟨hp, g, d, tk, os⟩ :=
      fun q => B.iter prog w _ _ ⟨hp, g, d, tk, os⟩ _ h1 q
    wp_walk using q1
    refine wpAny_stack_any fun st => wpAny_pure ?_
    split
    · rename_i c _ _ _ _ _
      cases (c == Value.type "enumerate")
      · wp_walk using q1
        exact ⟨_, rfl, h⟩
      · wp_walk using q1
        exact ⟨_, rfl, h⟩
    · wp_walk using q1
      exact ⟨_, rfl, h⟩
section
variable {prog : Program} {w : World} {A : Around} {E : Value → Shared → Prop} {s : Shared}
theorem enum_begins1 {v : Value} {o : Obj} {H : Heap → Prop} {Q : Value → Shared → Prop} (B : Begins v o H) (h1 : H s.heap)
    (h : ∀ h', IsEnum h' (s.heap.objs.size + 1) s.heap.objs.size 0 .none → h'.get? s.heap.objs.size = some o → h'.objs.size = s.heap.objs.size + 2 →
      (∀ b o, s.heap.get? b = some o → h'.get? b = some o) → Q (.ref (s.heap.objs.size + 1)) { s with heap := h' }) :
    wpAny (model prog w) A (call (.type "enumerate") [v]) Q E s := by
  refine callType_new F.called_enumerate (by decide) (F.typeCall_enumerate_1 _) (F.newCall_enumerate_1 _) (fun obj => F.args_object_init_2 obj _) F.entry_enumerate_new
    (meets_enumerate_newB1 B) ⟨h1, ?_⟩
  have hz : (s.heap.push o).objs.size = s.heap.objs.size + 1 := Heap.size_push ..
  show _ ∧ _
  rw [hz]
  have he : IsEnum ((s.heap.push o).push { cls := .type "enumerate", data := .fields #[.none, .bool false, .ref s.heap.objs.size, rawInt 0, .none, .none] }) (s.heap.objs.size + 1) s.heap.objs.size 0 .none := by
    have := Heap.get?_push_size (s.heap.push o) (o := { cls := .type "enumerate", data := .fields #[.none, .bool false, .ref s.heap.objs.size, rawInt 0, .none, .none] }) rfl
    rw [hz] at this; exact this
  refine ⟨⟨_, he, rfl⟩, h _ he (Heap.get?_push_of_some _ (Heap.get?_push_size _ B.free)) (by rw [Heap.size_push, hz]) fun b o x => Heap.get?_push_of_some _ (Heap.get?_push_of_some _ x)⟩
theorem enumT_end {e it l : Addr} {i : Nat} {items : Array Value} {old : Value} {Q : Option Value → Shared → Prop} (hh : A.handled = none)
    (he : IsEnum s.heap e it i old) (hit : s.heap.IsTupleIter it l i) (hl : s.heap.IsTuple l items) (hx : items[i]? = none)
    (hQ : ∀ h', Heap.ExtBut it s.heap h' → Q none { s with heap := h' }) : wpAny (model prog w) A (pyNext (.ref e)) Q E s := by
  have hT : s.TypeIs (.ref e) "enumerate" := ⟨_, he, rfl⟩
  unfold pyNext
  refine wpAny_bind (wpAny_attempt (wpAny_callSpecial?_slot (name := Str.ofString "__next__") hT F.slot_enumerate_next
    (wpAny_call_entry F.slot_enumerate_next hT F.entry_enumerate_next ?_ (F.args_enumerate_next_1 _))))
  show wpAny _ _ (field (.ref e) 2 >>= _) _ _ _
  refine wpAny_bind (wpAny_field he rfl (x := .ref it) rfl ?_)
  refine wpAny_bind (wpAny_nextOf_tuple_end hh hit hl hx fun h' x he' hx' => ?_)
  obtain ⟨o, ho, hc⟩ := hx'
  refine wpAny_bind (wpAny_isInstance (T := "StopIteration") (b := true) ⟨o, ho, hc⟩ isSubtype_stop ?_)
  exact wpAny_pure (hQ _ he')
end
end PySem
namespace L2
open PySem PySem.Spec PyProof.Rows
/-- the tuple at a, each item in a new pair -/
def IteT (K : PySem.W.Frag) (a : Addr) : It :=
  ⟨fun i H => ∃ (xs : List V) (x : V), SqT K H a xs ∧ xs[i]? = some x, fun i H v H' => ∃ T x, v = .ref T ∧ H T = none ∧ H' = upd H T (.tup [.int (i : Nat), x]) ∧ ∀ xs, SqT K H a xs → xs[i]? = some x, fun i H => ∃ xs : List V, SqT K H a xs ∧ xs.length ≤ i⟩
theorem tup_ne_enum {h : Heap} {a e it : Addr} {i : Int} {old : Value} {items : Array Value} (p : h.IsTuple a items) (he : IsEnum h e it i old) : e ≠ a := fun z => by
  obtain ⟨o, ho, hc, _⟩ := p
  rw [← z, he] at ho
  cases ho
  exact absurd (Value.type.inj hc) (by decide)
theorem tup_ne_iter {h : Heap} {a t it : Addr} {i : Nat} {items : Array Value} (p : h.IsTuple a items) (hi : h.IsTupleIter it t i) : a ≠ it := fun z => by
  obtain ⟨o, ho, hc, _⟩ := p
  obtain ⟨o2, ho2, hc2, _⟩ := hi
  rw [z, ho2] at ho
  cases ho
  rw [hc] at hc2
  exact absurd (Value.type.inj hc2) (by decide)
theorem turn_enumT {P : Program} {w : World} {K : PySem.W.Frag} {elts : List Expr} {kk : Nat} {tpos : Pos} (a e it : Addr) :
    Turn P w K (.Tuple elts kk tpos) (IteT K a) [e, it] e (fun i h => (∃ old, IsEnum h e it ((i : Nat) : Int) old) ∧ h.IsTupleIter it a i ∧ e ≠ it) where
  mem := by simp
  obj := fun i h st b hb => by
    obtain ⟨⟨old, he⟩, ⟨o, ho, hc, hd⟩, _⟩ := st
    have e' : b = e ∨ b = it := by simpa using hb
    rcases e' with z | z
    · rw [z]; exact ⟨_, he, fun v q => nomatch q⟩
    · rw [z]; exact ⟨o, ho, fun v q => by rw [hd] at q; cases q⟩
  keep := fun i h h' st k => let ⟨⟨old, he⟩, hi, hne⟩ := st; ⟨⟨old, k e (by simp) _ he⟩, hi.at fun o q => k it (by simp) o q, hne⟩
  item := by
    intro X hP hw hK hc i pins s σ H E I hf st hg
    subst hP hw hK
    obtain ⟨⟨old, he⟩, hit, hne⟩ := st
    obtain ⟨xs, x, hq, hx⟩ := hg
    obtain ⟨its, rv, p, hz⟩ := I.tuple hq
    obtain ⟨u, hu, ru⟩ := rv.get hx
    have p : s.heap.IsTuple a its.toArray := p
    have hel : e < s.heap.objs.size := Heap.lt_size he
    have hil : it < s.heap.objs.size := by obtain ⟨_, q, _⟩ := hit; exact Heap.lt_size q
    have hlt : i < its.toArray.size := by
      rw [List.size_toArray]
      exact (List.getElem?_eq_some_iff.mp hu).1
    have nea := tup_ne_enum p he
    have nai := tup_ne_iter p hit
    refine wpAny_pyNext_enum_itemD (Draws.tuple (A := X.A.in1) (I.ok.hd hc) it a nai its.toArray) he ⟨hit, p⟩ hlt hne (by simp [hne, nea]) fun y h' tk hP ho hst' hT hsz hk => ?_
    have ey : y = u := by
      have : its[i]? = some y := by simpa using hP
      rw [hu] at this
      exact (Option.some.inj this).symm
    subst ey
    refine ⟨_, rfl, wpAny_letOwnedTupleGo_enum (s := { s with heap := h', toks := tk + 1 }) ho fun h'' he' sb => ?_⟩
    have hT2 : h''.get? s.heap.objs.size = some { cls := .type "tuple", data := .seq #[.int i tk, y] } := (sb.2 _ (Nat.ne_of_gt hel)).trans hT
    have new : ObjOk X.prog X.w (upd H s.heap.objs.size (.tup [.int (i : Nat), x])) h'' s.heap.objs.size (.tup [.int (i : Nat), x]) :=
      ⟨by show 2 ≤ sizeLine; decide, [.int i tk, y], .cons ⟨_, rfl⟩ (.cons ru .nil), ⟨_, hT2, rfl, _, rfl⟩⟩
    have I1 : Inv X pins σ (upd H s.heap.objs.size (.tup [.int (i : Nat), x])) { s with heap := h'', toks := tk + 1 } :=
      I.turnedNew (ch := [e, it]) (fun b ob hb q => (sb.2 b (fun z => hb (by simp [z]))).trans (hk b ob (fun z => hb (by simp [z])) (fun z => hb (by simp [z])) q)) hf (Nat.le_refl _) new
    refine ⟨.ref s.heap.objs.size, _, I1, rfl, ⟨_, x, rfl, I.hok.fresh (Nat.le_refl _), rfl, fun ys hy => by rw [I.tuple_inj hy hq]; exact hx⟩, ⟨⟨y, ?_⟩, hst'.1.at fun o q => (sb.2 it (Ne.symm hne)).trans q, hne⟩, fun b hb => ?_⟩
    · have e1 : ((i + 1 : Nat) : Int) = (i : Int) + 1 := by omega
      rw [e1]; exact he'
    · have hb' : b < s.heap.objs.size := by
        have e' : b = e ∨ b = it := by simpa using hb
        rcases e' with z | z
        · rw [z]; exact hel
        · rw [z]; exact hil
      rw [upd_ne (Nat.ne_of_lt hb')]
      exact (hf b hb).1
  done := by
    intro X hP hw hK hc i pins s σ H E I hf st hg
    subst hP hw hK
    obtain ⟨⟨old, he⟩, hit, hne⟩ := st
    obtain ⟨xs, hq, hx⟩ := hg
    obtain ⟨its, rv, p, hz⟩ := I.tuple hq
    obtain ⟨f0, f1, f2, f3, f4, f5⟩ := hf it (by simp)
    have hl := rv.length
    have p : s.heap.IsTuple a its.toArray := p
    have nai := tup_ne_iter p hit
    exact enumT_end (I.ok.hd hc) he hit p (by simp; omega) fun h' eb => ⟨rfl, I.turned (t' := s.toks) (fun b o hb q => eb b o hb q) f0 f1 f3 f4 f5⟩
  self := fun A i s Q E st h => let ⟨⟨_, he⟩, _⟩ := st; wpAny_pyIter_enum he h
def iEnumT (K : PySem.W.Frag) (ta : TA) : TI := fun σ H R => ta σ H fun vs H1 => ∃ a xs, vs = [.ref a] ∧ SqT K H1 a xs ∧ R (IteT K a) H1
theorem pi_enumT {X : Cx} {e : Expr} {ta : TA} {p pos tpos : Pos} {elts : List Expr} {kk : Nat} (hg : Gl X "enumerate") (hm : X.mg "enumerate" = none) (ha : PA X [e] ta) (hs : starEach [e] X.env = [(false, eval e X.env)] := by rfl) :
    PI X (.Tuple elts kk tpos) (.Call (.Name "enumerate" p) [e] [] pos) (iEnumT X.K ta) := by
  refine ⟨fun pins s σ H R I h => ?_⟩
  refine Call_ (ld_blt I hg hm boot_enumerate (PyProof.Rows.callWith_type1 (thn (ha.run pos pins s σ H _ I h) fun us s1 ⟨vs, H1, I1, r1, q1⟩ => ?_) hs rfl))
  obtain ⟨a, xs, ex, hq, q⟩ := q1
  subst ex
  cases r1 with
  | cons r rr =>
    cases rr
    cases r
    obtain ⟨its, rv, p', hz⟩ := I1.tuple hq
    refine enum_begins1 (begins_tuple a its.toArray) (show s1.heap.IsTuple a its.toArray from p') fun h' he hit hsz hk => wpAny_pyIter_enum he ?_
    have I2 : Inv X pins σ H1 { s1 with heap := h' } := I1.kept (t' := s1.toks) hk
    refine ⟨s1.heap.objs.size + 1, [s1.heap.objs.size + 1, s1.heap.objs.size], _, _, H1, rfl, I2, turn_enumT a (s1.heap.objs.size + 1) s1.heap.objs.size, ⟨⟨.none, he⟩, ⟨_, hit, rfl, rfl⟩, Nat.succ_ne_self _⟩, fun b hb => ?_, q⟩
    have e' : b = s1.heap.objs.size + 1 ∨ b = s1.heap.objs.size := by simpa using hb
    have hle : s1.heap.objs.size ≤ b := by
      rcases e' with z | z
      · rw [z]; exact Nat.le_add_right _ _
      · rw [z]; exact Nat.le_refl _
    exact I1.fpOk hle (I1.hok.fresh hle)
/-- a for over enumerate(tuple) in a generator: an invariant by the turn -/
theorem walk_enumT {K : PySem.W.Frag} {a : Addr} {xs : List V} : Walk (IteT K a) xs.length (fun H => SqT K H a xs) (YPair (fun i => some (.int (i : Nat))) (fun i => xs[i]?)) := by
  refine ⟨fun i H hi q => ⟨xs, xs[i], q, by simp [hi]⟩, fun H q => ⟨xs, q, Nat.le_refl _⟩, fun i H v H' hi q y => ?_⟩
  obtain ⟨T, x', e1, hT, e2, y⟩ := y
  exact ⟨T, _, _, e1, hT, e2, rfl, y xs q⟩
end L2
namespace Tw
open PySem PySem.Spec PyProof.Rows L2
/-! ### is_nest -/
def nestB : PyData → Bool
  | .tuple es => decide (1 ≤ es.length) && (decide (es.length ≤ 20) && ((es.zipIdx.map fun x => enB x.2 x.1)).all id)
  | _ => false
def spNestQ : Sp := fun vs H Q _ => ∃ (v : V) (D : Deck) (d : PyData), vs = [v] ∧ DQ D H v d ∧ gd d = true ∧ wt d ≤ 1000000 ∧ ∀ H', Same H H' → Q (.bl (nestB d)) H'
theorem gds_get : ∀ {ds : List PyData} {i : Nat} {d : PyData}, gds ds = true → ds[i]? = some d → gd d = true
  | [], _, _, _, h => by simp at h
  | x :: xs, 0, _, g, h => by
    cases h
    simp only [gds, Bool.and_eq_true] at g
    exact g.1
  | x :: xs, i + 1, _, g, h => by
    simp only [gds, Bool.and_eq_true] at g
    exact gds_get (i := i) g.2 h
theorem wts_get : ∀ {ds : List PyData} {i : Nat} {d : PyData}, ds[i]? = some d → wt d ≤ wts ds
  | [], _, _, h => by simp at h
  | x :: xs, 0, _, h => by
    cases h
    simp only [wts]
    omega
  | x :: xs, i + 1, _, h => by
    have := wts_get (i := i) (show xs[i]? = _ from h)
    simp only [wts]
    omega
section
variable {P : Program} {w : World} {K : PySem.W.Frag} {mg : Str → Option Value} {base : Heap} {f : Addr} {fd : FuncData}
theorem ok_nestQ {tE : Tok} (F : Fun K "is_nest" "is_nest" s_is_nest f fd) (M : Mgs mg) (mEn : mg "enumerate" = none) (mENT : mg "MAX_ENTRIES" = some (.int 20 tE)) (Dis_entry : Df P w K mg base 5 "is_entry" ["value", "entries"] spEntry) : FnOk P w K mg base CX0 6 f fd ["value"] spNestQ := by
  refine F.ok (k := 5) sc_is_nest (fun vs H Q E h => ?_) (fun cdv A outer s H vs Q E hr h => ?_)
  · obtain ⟨v, D, d, rfl, _⟩ := h
    rfl
  obtain ⟨v, D, d, rfl, hd, g, hw, q⟩ := h
  refine ⟨_, (pss_cons (ps_if (PW.pt (pw_or (pt_not (pt_val (pe_callB call_isi rfl M.isinstance (by decide +kernel) (pa_cons (pv 0) (pa_cons (pe_bltn (v := .ty "tuple") rfl M.tuple (by decide +kernel) rfl) pa_nil))))) (pw_or1 (pt_not (pt_chain op_le op_le pe_int (pe_callB call_len_seq rfl M.len PySem.boot_len (pa_cons (pv 0) pa_nil)) (pe_glob (v := .int _) rfl mENT ⟨_, rfl⟩))))))
      (pss_one (ps_ret pe_bl)) pss_nil)
    (pss_one (ps_ret (pe_callB (cr_all rfl) rfl M.all (by decide +kernel) (pa_cons (pe_lc (own := [("at", 1), ("entry", 2)]) (g := gTup K 2 (gCons (gName 1) (gCons (gName 2) gNil))) (tt := tYes) rfl sc_is_nest.nd (pi_enumT rfl mEn (pa_cons (pv 0) pa_nil)) (blkOk_by (N := ["value", "at", "entry"]) (sc := defScope s_is_nest) (by decide +kernel)) (fun _ _ _ _ _ => (pg_tup rfl (pgs_cons (pg_name (i := 1) sc_is_nest.nd rfl (.inl rfl)) (pgs_cons (pg_name (i := 2) sc_is_nest.nd rfl (.inl rfl)) pgs_nil)))) (fun _ _ _ _ _ => pts_nil) (fun _ _ _ _ _ => (pe_call Dis_entry.ok (hr.mono (by omega)) rfl Dis_entry.g Dis_entry.kp Dis_entry.b .nil pass0 (pa_cons (pv 2) (pa_cons (pv 1) pa_nil))))) pa_nil))))), ?_⟩
  refine ⟨_, rfl, _, _, _, _, isTupD d, rfl, .ty _, dq_ty hd, kit_ty (kit_tup d), _, rfl, ?_⟩
  cases hd with
  | @tup a xs ds o e al =>
    refine iteF ?_
    have hl := dqAll_len al
    simp only [gd] at g
    simp only [wt] at hw
    have no : (decide (1 ≤ ds.length) && decide (ds.length ≤ 20)) = false → nestB (.tuple ds) = false := fun z => by
      show (decide (1 ≤ ds.length) && (decide (ds.length ≤ 20) && _)) = false
      rw [← Bool.and_assoc, z]
      rfl
    refine ⟨_, rfl, a, xs, rfl, .inr (SqT.of e), _, _, rfl, rfl, _, rfl, ?_⟩
    by_cases h1 : 1 ≤ xs.length
    · rw [decide_eq_true (show (1 : Int) ≤ ((xs.length : Nat) : Int) by omega)]
      refine iteT ⟨_, _, rfl, rfl, _, rfl, ?_⟩
      by_cases h2 : xs.length ≤ 20
      · rw [decide_eq_true (show ((xs.length : Nat) : Int) ≤ 20 by omega)]
        refine iteF ?_
        refine ⟨_, rfl, a, xs, rfl, SqT.of e, fun L nL => ?_⟩
        have kL := same_new nL (.lst [])
        refine lc_it (walk_enumT (K := K) (a := a) (xs := xs)) (fun j H'' => Same H H'' ∧ H'' L = some (.lst (((ds.zipIdx.take j).map fun x => enB x.2 x.1).map V.bl))) ⟨kL, upd_same⟩ (fun _ H'' _ hp => SqT.of (hp.1 _ _ e)) (fun i v H' H'' hi hp hy => ?_) (fun H'' hp => ?_)
        · obtain ⟨s7, eL⟩ := hp
          obtain ⟨T, x1, y1, rfl, nT, rfl, hx, hy⟩ := hy
          cases hx
          have hy : xs[i]? = some y1 := hy
          obtain ⟨dx, hdx, hq⟩ := dqAll_get al hy
          have k2 := same_new nT (.tup [.int (i : Nat), y1])
          have wx := wts_get hdx
          have hz : ds.zipIdx[i]? = some (dx, i) := by rw [List.getElem?_zipIdx, hdx]; simp
          refine ⟨T, _, rfl, SqT.of upd_same, rfl, _, _, rfl, _, _, rfl, rfl, rfl, kept ?_⟩
          refine ⟨_, rfl, _, rfl, y1, D, dx, i, rfl, dq_same (s7.trans k2) hq, gds_get g hdx, by omega, fun H3 s3 => ?_⟩
          refine ⟨_, s3 _ _ (k2 _ _ eL), ?_, fun b o e => ?_, ?_⟩
          · rw [List.length_map, List.length_map, List.length_take, List.length_zipIdx]
            exact small1000 (by omega)
          · rw [upd_ne (ne_of_none e nL)]
            exact s3 _ _ (k2 _ _ (s7 _ _ e))
          · rw [upd_same, List.take_succ, hz, List.map_append, List.map_append]
            rfl
        · obtain ⟨s7, eL⟩ := hp
          rw [List.take_of_length_le (by rw [List.length_zipIdx]; omega)] at eL
          refine ⟨L, _, rfl, SqL.of eL, ?_⟩
          have := q H'' s7
          have e2 : nestB (.tuple ds) = (decide (1 ≤ ds.length) && (decide (ds.length ≤ 20) && ((ds.zipIdx.map fun x => enB x.2 x.1)).all id)) := rfl
          rw [e2, decide_eq_true (show 1 ≤ ds.length by omega), decide_eq_true (show ds.length ≤ 20 by omega), Bool.true_and, Bool.true_and] at this
          exact this
      · rw [decide_eq_false (show ¬ ((xs.length : Nat) : Int) ≤ 20 by omega)]
        have := q H (Same.refl H)
        rw [no (by rw [decide_eq_false (show ¬ ds.length ≤ 20 by omega), Bool.and_false])] at this
        exact iteT this
    · rw [decide_eq_false (show ¬ (1 : Int) ≤ ((xs.length : Nat) : Int) by omega)]
      have := q H (Same.refl H)
      rw [no (by rw [decide_eq_false (show ¬ 1 ≤ ds.length by omega)]; rfl)] at this
      exact iteF ⟨_, rfl, iteT this⟩
  | non => exact iteT (q H (Same.refl H))
  | bl b => exact iteT (q H (Same.refl H))
  | int i => exact iteT (q H (Same.refl H))
  | lst _ _ _ => exact iteT (q H (Same.refl H))
  | str _ => exact iteT (q H (Same.refl H))
  | emp _ _ => exact iteT (q H (Same.refl H))
  | ent _ _ => exact iteT (q H (Same.refl H))
end
/-! ### the law's count of a value's nodes -/
theorem dp_t (xs : List PyData) : (PyData.tuple xs).depth = PyData.depthAll xs + 1 := by simp only [PyData.depth]
theorem dp_c (x : PyData) (xs : List PyData) : PyData.depthAll (x :: xs) = max x.depth (PyData.depthAll xs) := by simp only [PyData.depthAll]
theorem dp_e : PyData.depthAll [] = 0 := by simp only [PyData.depthAll]
def cntL : PyData → Int
  | .none => 0
  | .tuple [l, m, r] => if letD m = true then cntL l + 1 + cntL r else 99
  | _ => 99
theorem cntL_tup (l m r : PyData) : cntL (.tuple [l, m, r]) = if letD m = true then cntL l + 1 + cntL r else 99 := by rw [cntL]
theorem cntL_none : cntL .none = 0 := by rw [cntL]
theorem cntL_not {d : PyData} (h : isN d = false) (hn : d ≠ .none) : cntL d = 99 := by
  unfold isN at h
  split at h
  · rw [cntL_tup, if_neg (by rw [h]; exact Bool.false_ne_true)]
  · rename_i x hx
    rw [cntL]
    · exact hn
    · exact hx
theorem cntL_rel : ∀ (n : Nat) (d : PyData), d.depth < n → (0 ≤ cntD d ∧ cntL d = cntD d) ∨ (cntD d < 0 ∧ 99 ≤ cntL d)
  | 0, _, h => absurd h (Nat.not_lt_zero _)
  | n + 1, d, h => by
    cases hN : isN d with
    | false =>
      by_cases hn : d = .none
      · subst hn
        exact .inl ⟨by rw [cnt_none]; decide, by rw [cnt_none, cntL_none]⟩
      · right
        rw [cntL_not hN hn]
        refine ⟨?_, by decide⟩
        have := cnt_not hN
        by_cases z : 0 ≤ cntD d
        · have := cnt_pos hn z
          omega
        · omega
    | true =>
      obtain ⟨l, m, r, rfl⟩ : ∃ dl dm dr, d = .tuple [dl, dm, dr] := by
        match d, hN with
        | .tuple [l, m, r], _ => exact ⟨l, m, r, rfl⟩
      have hm : letD m = true := hN
      have hd : (PyData.tuple [l, m, r]).depth = max l.depth (max m.depth (max r.depth 0)) + 1 := by rw [dp_t, dp_c, dp_c, dp_c, dp_e]
      rw [cnt_tup, cntL_tup, if_pos hm]
      rcases cntL_rel n l (by omega) with ⟨a1, a2⟩ | ⟨a1, a2⟩ <;> rcases cntL_rel n r (by omega) with ⟨b1, b2⟩ | ⟨b1, b2⟩
      · rw [if_pos ⟨hm, a1, b1⟩]
        exact .inl ⟨by omega, by rw [a2, b2]⟩
      · rw [if_neg (fun z => by omega)]
        exact .inr ⟨by decide, by omega⟩
      · rw [if_neg (fun z => by omega)]
        exact .inr ⟨by decide, by omega⟩
      · rw [if_neg (fun z => by omega)]
        exact .inr ⟨by decide, by omega⟩
theorem isT_count (d : PyData) : isT d = decide (1 ≤ cntL d ∧ cntL d ≤ 12) := by
  unfold isT
  rcases cntL_rel _ d (Nat.lt_succ_self _) with ⟨a1, a2⟩ | ⟨a1, a2⟩
  · rw [a2]; exact decide_eq_decide.mpr (by omega)
  · exact decide_eq_decide.mpr (by omega)

theorem al_codes : (Str.ofString "abcdefghijklmnopqrstuvwxyz").cps.toList = (List.range 26).map (97 + ·) := by decide +kernel
theorem al_flat : (List.map (fun c => V.str { cps := #[c] }) (Str.ofString "abcdefghijklmnopqrstuvwxyz").cps.toList).all flatV = true := by decide +kernel
theorem inV_chs (x : Str) : ∀ L : List Nat, inV (.str x) (L.map fun c => V.str ⟨#[c]⟩) = decide (∃ c ∈ L, ch c = x)
  | [] => by rw [decide_eq_false (by rintro ⟨c, h, _⟩; cases h)]; rfl
  | c :: L => by
    have ih := inV_chs x L
    show ((ch c == x) || inV (.str x) (L.map fun c => V.str ⟨#[c]⟩)) = _
    rw [ih, Bool.eq_iff_iff]
    simp only [Bool.or_eq_true, beq_iff_eq, decide_eq_true_eq, List.mem_cons]
    constructor
    · rintro (h | ⟨d, h1, h2⟩)
      · exact ⟨c, .inl rfl, h⟩
      · exact ⟨d, .inr h1, h2⟩
    · rintro ⟨d, h1 | h1, h2⟩
      · subst h1; exact .inl h2
      · exact .inr ⟨d, h1, h2⟩
theorem inV_low (x : Str) : inV (.str x) (List.map (fun c => V.str { cps := #[c] }) (Str.ofString "abcdefghijklmnopqrstuvwxyz").cps.toList) = isLt x.cps.toList := by
  rw [al_codes, inV_chs, Bool.eq_iff_iff, decide_eq_true_eq]
  constructor
  · rintro ⟨c, hc, rfl⟩
    obtain ⟨i, hi, rfl⟩ := List.mem_map.mp hc
    have := List.mem_range.mp hi
    show (decide (97 ≤ 97 + i) && decide (97 + i ≤ 122)) = true
    rw [decide_eq_true (by omega), decide_eq_true (by omega)]
    rfl
  · intro h
    have ex : x = tx x.cps.toList := TL.ext_tl rfl
    generalize x.cps.toList = l at h ex
    match l, h with
    | [c], h =>
      have h : (decide (97 ≤ c) && decide (c ≤ 122)) = true := h
      rw [Bool.and_eq_true, decide_eq_true_eq, decide_eq_true_eq] at h
      exact ⟨c, List.mem_map.mpr ⟨c - 97, List.mem_range.mpr (by omega), by omega⟩, ex.symm⟩
def spCount (n : Nat) : Sp := fun vs H Q _ => ∃ (v : V) (D : Deck) (d : PyData), vs = [v] ∧ DQ D H v d ∧ d.depth < n ∧ ∀ H', Same H H' → Q (.int (cntL d)) H'
section
variable {P : Program} {w : World} {K : PySem.W.Frag} {mg : Str → Option Value} {base : Heap} {f : Addr} {fd : FuncData}
theorem ok_count (F : Fun K "_law_count" "_law_count" s__law_count f fd) (M : Mgs mg) (b : Binds K fd ["_law_value"] []) (g : mg "_law_count" = some (.ref f)) : ∀ n : Nat, FnOk P w K mg base CX0 (n + 1) f fd ["_law_value"] (spCount n)
  | 0 => by
    have no : ∀ vs H Q E, ¬ spCount 0 vs H Q E := fun vs H Q E h => by
      obtain ⟨v, D, d, _, _, h1, _⟩ := h
      exact absurd h1 (Nat.not_lt_zero _)
    exact ⟨fun vs H Q E h => absurd h (no vs H Q E), fun A outer s H args us vs Q E _ _ _ _ h => absurd h (no vs H Q E)⟩
  | n + 1 => by
    have Dself : Df P w K mg base (n + 1) "_law_count" ["_law_value"] (spCount n) := ⟨f, fd, ok_count F M b g n, b, F.kp, g⟩
    refine F.ok (k := n + 1) sc__law_count (fun vs H Q E h => ?_) (fun cdv A outer s H vs Q E hr h => ?_)
    · obtain ⟨v, D, d, rfl, _⟩ := h
      rfl
    obtain ⟨v, D, d, rfl, hd, hn, q0⟩ := h
    refine ⟨_, (pss_cons (ps_if (pt_cmpR op_isN (pv 0) pe_non (nomark _))
      (pss_one (ps_ret pe_int)) pss_nil)
    (pss_cons (ps_if (PW.pt (pw_or (pt_not (pt_val (pe_callB call_isi rfl M.isinstance (by decide +kernel) (pa_cons (pv 0) (pa_cons (pe_bltn (v := .ty "tuple") rfl M.tuple (by decide +kernel) rfl) pa_nil))))) (pw_or (pt_cmpR op_ne (pe_callB call_len_seq rfl M.len PySem.boot_len (pa_cons (pv 0) pa_nil)) pe_int (nomark _)) (pw_or1 (pt_not (pt_val (pe_callB call_isi rfl M.isinstance (by decide +kernel) (pa_cons (pe_ix ix_tup (pv 0) pe_int (fun _ _ => rfl)) (pa_cons (pe_bltn (v := .ty "str") rfl M.str (by decide +kernel) rfl) pa_nil)))))))))
      (pss_one (ps_ret pe_int)) pss_nil)
    (pss_cons (ps_if (pt_cmpR (show OpR _ (compareOp .NotIn) (rIn K true) from op_notIn_seq) (pe_ix ix_tup (pv 0) pe_int (fun _ _ => rfl)) (pe_callTy (call_signs rfl) rfl M.list (by decide +kernel) (pa_cons pe_str pa_nil)) (by rfl))
      (pss_one (ps_ret pe_int)) pss_nil)
    (pss_one (ps_ret (pe_op op_add (pe_op op_add pe_int (pe_call Dself.ok (hr.mono (by omega)) rfl Dself.g Dself.kp Dself.b .nil pass0 (pa_cons (pe_ix ix_tup (pv 0) pe_int (fun _ _ => rfl)) pa_nil))) (pe_call Dself.ok (hr.mono (by omega)) rfl Dself.g Dself.kp Dself.b .nil pass0 (pa_cons (pe_ix ix_tup (pv 0) pe_int (fun _ _ => rfl)) pa_nil)))))))), ?_⟩
    cases hd with
    | non =>
      have q := q0 H (Same.refl H)
      rw [cntL_none] at q
      exact ⟨_, rfl, rfl, _, rfl, iteT q⟩
    | @tup a xs ds o e al =>
      refine ⟨_, rfl, rfl, _, rfl, iteF ?_⟩
      refine ⟨_, rfl, _, _, _, _, true, rfl, .ty _, dq_ty (.tup o e al), kit_ty (kit_tup (.tuple ds)), _, rfl, iteF ?_⟩
      have hl := dqAll_len al
      refine ⟨_, rfl, a, xs, rfl, .inr (SqT.of e), rfl, _, rfl, ?_⟩
      refine ite2 (fun c => ?_) (fun c => ?_)
      · have c' : ¬ (xs.length : Int) = 3 := fun z => by rw [z] at c; exact absurd c (by decide)
        have e2 : isN (.tuple ds) = false := by
          match ds, hl with
          | [], _ => rfl
          | [_], _ => rfl
          | [_, _], _ => rfl
          | [_, _, _], hl => exact absurd hl (by intro z; exact c' (by rw [z]; rfl))
          | _ :: _ :: _ :: _ :: _, _ => rfl
        have q := q0 H (Same.refl H)
        rw [cntL_not e2 (by intro z; cases z)] at q
        exact iteT q
      · have c' : (xs.length : Int) = 3 := by
          by_cases z : (xs.length : Int) = 3
          · exact z
          · exact absurd (show (!decide (V.int (xs.length : Int) = V.int 3)) = true by rw [decide_eq_false (fun y => z (V.int.inj y))]; rfl) c
        cases al with
        | nil => exact absurd c' (by show ¬ (0 : Int) = 3; omega)
        | cons d1 al =>
        cases al with
        | nil => exact absurd c' (by show ¬ (1 : Int) = 3; omega)
        | cons d2 al =>
        cases al with
        | nil => exact absurd c' (by show ¬ (2 : Int) = 3; omega)
        | cons d3 al =>
        cases al with
        | cons _ _ => exact absurd c' (by simp; omega)
        | nil =>
          rename_i v1 l v2 m v3 r
          rw [dp_t, dp_c, dp_c, dp_c, dp_e] at hn
          refine ⟨_, rfl, a, _, 1, _, rfl, rfl, SqT.of e, atI_nat (j := 1) rfl, _, _, _, _, isStrD m, rfl, .ty _, dq_ty d2, kit_ty (kit_str m), _, rfl, ?_⟩
          cases hs : isStrD m with
          | false =>
            have no : letD m = false := by cases m <;> first | rfl | exact absurd hs (by simp [isStrD])
            have q := q0 H (Same.refl H)
            rw [cntL_tup, no, if_neg Bool.false_ne_true] at q
            exact iteT q
          | true =>
            refine iteF ?_
            obtain ⟨x, rfl⟩ := isStr_of hs
            cases d2
            refine ⟨_, rfl, a, _, 1, _, rfl, rfl, SqT.of e, atI_nat (j := 1) rfl, ?_⟩
            refine ⟨Str.ofString "abcdefghijklmnopqrstuvwxyz", rfl, (by decide +kernel), fun p np => ?_⟩
            have k1 := same_new np (.lst (List.map (fun c => V.str { cps := #[c] }) (Str.ofString "abcdefghijklmnopqrstuvwxyz").cps.toList))
            have e1 := upd_same (H := H) (a := p) (o := .lst (List.map (fun c => V.str { cps := #[c] }) (Str.ofString "abcdefghijklmnopqrstuvwxyz").cps.toList))
            generalize upd H p (.lst (List.map (fun c => V.str { cps := #[c] }) (Str.ofString "abcdefghijklmnopqrstuvwxyz").cps.toList)) = H1 at k1 e1 ⊢
            refine ⟨p, _, rfl, .inl (SqL.of e1), rfl, al_flat, _, rfl, ?_⟩
            show if (!inV (.str x) (List.map (fun c => V.str { cps := #[c] }) (Str.ofString "abcdefghijklmnopqrstuvwxyz").cps.toList)) = true then _ else _
            rw [inV_low]
            have ee := k1 _ _ e
            cases hm : isLt x.cps.toList with
            | false =>
              have no : letD (.str x) = false := hm
              have q := q0 H1 k1
              rw [cntL_tup, no, if_neg Bool.false_ne_true] at q
              exact iteT q
            | true =>
              have yes : letD (.str x) = true := hm
              refine iteF ?_
              refine ⟨_, rfl, a, _, 0, _, rfl, rfl, SqT.of ee, atI_nat (j := 0) rfl, _, D, _, rfl, dq_same k1 d1, by omega, fun H2 s2 => ?_⟩
              refine ⟨_, _, rfl, rfl, ?_⟩
              refine ⟨_, rfl, a, _, 2, _, rfl, rfl, SqT.of (s2 _ _ ee), atI_nat (j := 2) rfl, _, D, _, rfl, dq_same (k1.trans s2) d3, by omega, fun H3 s3 => ?_⟩
              have q := q0 H3 (k1.trans (s2.trans s3))
              rw [cntL_tup, yes, if_pos rfl] at q
              refine ⟨_, _, rfl, rfl, ?_⟩
              show Q (V.int (1 + cntL l + cntL r)) H3
              rw [show 1 + cntL l + cntL r = cntL l + 1 + cntL r by omega]
              exact q
    | bl b => exact ⟨_, rfl, rfl, _, rfl, iteF ⟨_, rfl, _, _, _, _, false, rfl, .ty _, dq_ty (D := D) (H := H) (.bl b), kit_ty (kit_tup (.bool b)), _, rfl, iteT (q0 H (Same.refl H))⟩⟩
    | int i => exact ⟨_, rfl, rfl, _, rfl, iteF ⟨_, rfl, _, _, _, _, false, rfl, .ty _, dq_ty (D := D) (H := H) (.int i), kit_ty (kit_tup (.int i)), _, rfl, iteT (q0 H (Same.refl H))⟩⟩
    | str i => exact ⟨_, rfl, rfl, _, rfl, iteF ⟨_, rfl, _, _, _, _, false, rfl, .ty _, dq_ty (D := D) (H := H) (.str i), kit_ty (kit_tup (.str i)), _, rfl, iteT (q0 H (Same.refl H))⟩⟩
    | @lst a xs ds o e al => exact ⟨_, rfl, rfl, _, rfl, iteF ⟨_, rfl, _, _, _, _, false, rfl, .ty _, dq_ty (D := D) (H := H) (.lst o e al), kit_ty (kit_tup (.list ds)), _, rfl, iteT (q0 H (Same.refl H))⟩⟩
    | @emp a o e => exact ⟨_, rfl, rfl, _, rfl, iteF ⟨_, rfl, _, _, _, _, false, rfl, .ty _, dq_ty (D := D) (H := H) (.emp o e), kit_ty (kit_tup (.dict [])), _, rfl, iteT (q0 H (Same.refl H))⟩⟩
    | @ent a x i o e => exact ⟨_, rfl, rfl, _, rfl, iteF ⟨_, rfl, _, _, _, _, false, rfl, .ty _, dq_ty (D := D) (H := H) (.ent o e), kit_ty (kit_tup (.dict [(.str x, .int i)])), _, rfl, iteT (q0 H (Same.refl H))⟩⟩
end
/-! ### set(list of texts) -/
section
open PySem.Froz
section
variable {P : Program} {w : World} {A : Around} {E : Value → Shared → Prop} {s : Shared}
theorem setX_loopS {I : Addr} {fp wr : List Addr} {G : Array GenState → Array GenState → Prop} {n : Nat} {Pv : Nat → Value → Prop} {St : Nat → Shared → Prop} {R : Result → Shared → Prop}
    (W : WalksS P w A.in1 I fp wr G n Pv St) (S : Addr) (hSf : S ∉ fp) (cs : List Str) (hn : n = cs.length) (hb : cs.length + 1 < scanBound) (hval : ∀ i v, Pv i v → ∃ c t, cs[i]? = some c ∧ v = .str (c) t) :
    ∀ (k i : Nat) (s : Shared), n - i = k → i ≤ n → St i s → (∃ l, SetX P w s.heap S l ∧ l.length ≤ i ∧ l.Nodup ∧ ∀ x, x ∈ l ↔ x ∈ (cs.take i)) →
      (∀ s' l, Moved (S :: wr) G s s' → SetX P w s'.heap S l → l.length ≤ n → l.Nodup → (∀ x, x ∈ l ↔ x ∈ cs) → R (.ok (.ret .none)) s') →
      codeAny (model P w) A (.builtin "set.update.loop" ⟨[.ref S, .ref I], []⟩) R s := by
  have hSw : S ∉ wr := fun h => hSf (W.sub _ h)
  have up : ∀ b ∈ wr, b ∈ S :: wr := fun b hb => List.mem_cons_of_mem _ hb
  intro k
  induction k with
  | zero =>
    intro i s hk' hi hst ⟨l, hS, hl, nd, mem⟩ hR
    have hin : i = n := by omega
    subst hin
    refine codeAny_builtin PyProof.Rows.F.entry_set_update_loop ?_
    rw [Around.under_plainId PyProof.Rows.F.plain_set_update_loop _]
    show wpAny _ A.in1 (pyNext (.ref I) >>= _) _ _ s
    refine wpAny_bind (W.done s _ _ hst fun s' hm => ?_)
    show wpAny _ A.in1 (ret Value.none) _ _ s'
    rw [List.take_of_length_le (by omega)] at mem
    exact wpAny_pure (hR s' l (hm.mono up) (hS.at fun o e => hm.heap S o hSw e) hl nd mem)
  | succ k ih =>
    intro i s hk' hi hst ⟨l, hS, hl, nd, mem⟩ hR
    have hlt : i < n := by omega
    refine codeAny_builtin PyProof.Rows.F.entry_set_update_loop ?_
    rw [Around.under_plainId PyProof.Rows.F.plain_set_update_loop _]
    show wpAny _ A.in1 (pyNext (.ref I) >>= _) _ _ s
    refine wpAny_bind (W.item i s _ _ hlt hst fun v s' hP hst' hm => ?_)
    obtain ⟨c, t, hc, rfl⟩ := hval i v hP
    have hS' : SetX P w s'.heap S l := hS.at fun o e => hm.heap S o hSw e
    show wpAny _ A.in1 (holding [Value.str (c) t] (setAdd S (.str (c) t)) >>= _) _ _ s'
    refine wpAny_bind (wpAny_holding ?_)
    unfold setAdd
    refine wpAny_holding ?_
    refine wpAny_bind ((PySem.strKind P w).pyHash (k := c) (is_str _ _) ?_)
    refine setX_add (s := { s' with toks := s'.toks + 1 }) hS' (by omega) fun h' b hsb hS2 => ?_
    have tk : cs.take (i + 1) = (cs.take i) ++ [c] := by
      rw [List.take_succ, hc]
      rfl
    refine wpAny_pure ⟨plainId_quiet PyProof.Rows.F.plain_set_update_loop _, ih (i + 1) _ (by omega) hlt (W.frame _ s' _ _ hst' (Nat.le_succ _) fun b hb o e => ?_) ⟨_, hS2, ?_, ?_, ?_⟩ fun s'' l2 hm'' hS'' hl'' nd'' mem'' => ?_⟩
    · rw [hsb.2 b (fun h : b = S => hSf (by rw [← h]; exact hb))]; exact e
    · split
      · omega
      · rw [List.length_cons]; omega
    · split
      · exact nd
      · exact List.nodup_cons.mpr ⟨by assumption, nd⟩
    · intro x
      rw [tk, List.mem_append, List.mem_singleton, ← mem x]
      split
      · rename_i hm
        constructor
        · exact .inl
        · rintro (h | rfl)
          · exact h
          · exact hm
      · rw [List.mem_cons]
        exact Or.comm
    · refine hR s'' l2 (Moved.trans W.gtrans ((hm.mono up).then_heap (Nat.le_succ _) fun b o hb e => ?_) hm'') hS'' hl'' nd'' mem''
      rw [hsb.2 b (fun h : b = S => hb (by rw [h]; exact List.mem_cons_self))]; exact e
set_option maxHeartbeats 4000000 in
theorem call_setXS {l0 : Addr} {items : Array Value} (cs : List Str) {Q : Value → Shared → Prop} (hh : A.handled = none) (hl0 : s.heap.IsList l0 items) (hisz : items.size = cs.length) (hval : ∀ (i : Nat) (v : Value), items[i]? = some v → ∃ c t, cs[i]? = some c ∧ v = .str (c) t) (hb : cs.length + 1 < scanBound)
    (h : ∀ (h' : Heap) (tk : Nat) (l : List Str), SetX P w h' s.heap.objs.size l → l.length ≤ cs.length → l.Nodup → (∀ y, y ∈ l ↔ y ∈ cs) → (∀ b o, s.heap.get? b = some o → h'.get? b = some o) → Q (.ref s.heap.objs.size) { s with heap := h', toks := tk }) :
    wpAny (model P w) A (call (.type "set") [.ref l0]) Q E s := by
  obtain ⟨c, tl, hmro⟩ := F.called_set.mro
  have hmade := F.called_set.made
  have hsub := F.called_set.sub
  refine wpAny_call (codeAny_of_tree ?_)
  show wpAny _ _ (callAny (.type "set") _) _ _ _
  refine wpAny_pure ⟨Code.quiet_builtin _ (by decide +kernel), codeAny_builtin F.entry_type_call ?_⟩
  rw [Around.under_plain (weight_type_call_type "set" [.ref l0] []) rfl]
  have h1 := F.called_set.notType
  have h2 := F.called_set.canCreate
  have hct := F.typeCall_set_1 (.ref l0)
  repeat (any_goals (first | assumption | wp_step))
  refine codeAny_mono (code_set_led1 (.ref l0) (E := E) (Q₁ := fun obj s₁ => obj = .ref s.heap.objs.size ∧ s₁ = { s with heap := s.heap.push (freshS w) }) ⟨rfl, rfl⟩) fun r s₁ hr => ?_
  match r, hr with
  | .error e, hr => exact hr
  | .ok .next, hr => exact hr.elim
  | .ok .brk, hr => exact hr.elim
  | .ok .cont, hr => exact hr.elim
  | .ok (.ret obj), hr =>
    obtain ⟨rfl, rfl⟩ := hr
    have hS : (s.heap.push (freshS w)).get? s.heap.objs.size = some (freshS w) := Heap.get?_push_size _ rfl
    have hT : Shared.TypeIs { s with heap := s.heap.push (freshS w) } (.ref s.heap.objs.size) "set" := ⟨_, hS, rfl⟩
    have hli := F.called_set.init.lookup
    have hbi := F.called_set.init.bind (.ref s.heap.objs.size)
    repeat (any_goals (first | assumption | wp_step))
    refine codeAny_mono (codeAny_call_builtin (R := wants (fun r s₂ => r = .none ∧ ∃ h' tk l, s₂ = { s with heap := h', toks := tk } ∧ SetX P w h' s.heap.objs.size l ∧ l.length ≤ cs.length ∧ l.Nodup ∧ (∀ y, y ∈ l ↔ y ∈ cs) ∧
        (∀ b o, s.heap.get? b = some o → h'.get? b = some o)) E) F.called_set.init.plain F.entry_set_init (check_set_init_1 hT ?_)) fun r₂ s₂ hr₂ => ?_
    · obtain ⟨ol, hol, hcl, nl, hdl⟩ := hl0
      obtain ⟨ocls, odict, odata, oslots⟩ := ol
      simp only at hcl hdl
      subst hcl; subst hdl
      have hol' : (s.heap.push (freshS w)).get? l0 = some { cls := .type "list", dict := odict, data := .seq items nl, slots := oslots } := Heap.get?_push_of_some _ hol
      have hsls := F.sub_list_set
      have hslf := F.sub_list_frozenset
      have hne : (Value.type "list" == Value.type "dict") = false := by decide
      have hl1 : (s.heap.push (freshS w)).IsList l0 items := ⟨_, hol', rfl, nl, rfl⟩
      unfold Builtin.«set.__init__» noKeywords Builtin.Frozenset.updateFrom
      generalize hPI : pyIter = PI
      wp_walk
      subst hPI
      refine wpAny_pyIter_list hl1 ?_
      refine wpAny_bind (wpAny_runValue ?_)
      have hlS : l0 < s.heap.objs.size := Heap.lt_size hol
      have hh3 : A.in1.in1.in1.handled = none := by simp [hh]
      have hneI : l0 ≠ (s.heap.push (freshS w)).objs.size := by
        rw [Heap.size_push]; exact Nat.ne_of_lt (Nat.lt_succ_of_lt hlS)
      have hSf : s.heap.objs.size ∉ [(s.heap.push (freshS w)).objs.size, l0] := by
        rw [Heap.size_push]; simp only [List.mem_cons, List.mem_singleton, List.not_mem_nil, or_false, not_or]
        exact ⟨Nat.ne_of_lt (Nat.lt_succ_self _), Nat.ne_of_gt hlS⟩
      refine setX_loopS ((Walks.list hh3 _ l0 hneI items).toS) s.heap.objs.size hSf cs hisz hb hval (items.size - 0) 0 _ rfl (Nat.zero_le _) ⟨⟨_, Heap.get?_push_size _ rfl, rfl, rfl⟩, (hl1.push _)⟩
        ⟨[], setX_fresh (Heap.get?_push_of_some _ hS), Nat.le_refl 0, List.nodup_nil, fun y => by simp⟩ fun s' l hm hS' hl nd mem => ?_
      obtain ⟨h', g2, d', tk', os'⟩ := s'
      have eg : g2 = s.gens := hm.gens
      have ed : d' = s.drawn := hm.drawn
      have eo : os' = s.os := hm.os
      subst eg; subst ed; subst eo
      show wpAny _ _ _ _ _ _
      refine wpAny_pure ?_
      show wpAny _ _ (ret Value.none) _ _ _
      refine wpAny_pure ⟨rfl, h', tk', l, rfl, hS', by omega, nd, mem, fun b o e => ?_⟩
      have hb0 : b < s.heap.objs.size := Heap.lt_size e
      have hb1 : b ≠ s.heap.objs.size := Nat.ne_of_lt hb0
      have hb2 : b ≠ (s.heap.push (freshS w)).objs.size := by
        rw [Heap.size_push]; exact Nat.ne_of_lt (Nat.lt_succ_of_lt hb0)
      exact hm.heap b o (by simp only [List.mem_cons, List.mem_singleton, List.not_mem_nil, or_false, not_or]; exact ⟨hb1, hb2⟩) (Heap.get?_push_of_some _ (Heap.get?_push_of_some _ e))
    · match r₂, hr₂ with
      | .error e, hr₂ => exact hr₂
      | .ok .next, hr₂ => exact hr₂.elim
      | .ok .brk, hr₂ => exact hr₂.elim
      | .ok .cont, hr₂ => exact hr₂.elim
      | .ok (.ret r), hr₂ =>
        obtain ⟨rfl, h', tk, l, rfl, hS', hl, nd, mem, hk'⟩ := hr₂
        repeat (any_goals (first | assumption | wp_step))
        exact h _ _ _ hS' hl nd mem hk'
end
section
variable {X : Cx}
theorem vals_strs : ∀ {cs : List Str} {vs : List Value}, Vals (cs.map V.str) vs → ∀ (i : Nat) (v : Value), vs[i]? = some v → ∃ c t, cs[i]? = some c ∧ v = .str (c) t
  | [], _, .nil, _, _, h => by simp at h
  | c :: cs, _, .cons ⟨t, e⟩ r, 0, v, h => by
    cases h
    exact ⟨c, t, rfl, e⟩
  | c :: cs, _, .cons _ r, i + 1, v, h => vals_strs r i v h
def rSetXS (K : PySem.W.Frag) (P : Program) (w : World) : List V → Hp → VK → Prop := fun xs H Q => ∃ (l0 : Addr) (cs : List Str), xs = [.ref l0] ∧ SqL K H l0 (cs.map V.str) ∧ cs.length < 4000 ∧
  ∀ (a : Addr) (l : List Str), H a = none → l.Nodup → (∀ y, y ∈ l ↔ y ∈ cs) → l.length ≤ cs.length → Q (.ref a) (upd H a (SetXO P w a l))
theorem cr_setXS (hc : X.calm = true) : CallR X (.type "set") (rSetXS X.K X.prog X.w) := by
  intro pins s σ H xs us Q I r h
  obtain ⟨l0, cs, rfl, hl, hz, q⟩ := h
  rw [Vals.ref1 r]
  obtain ⟨its, rv, pl, _⟩ := I.list hl
  have hlen := rv.length
  rw [List.length_map] at hlen
  refine call_setXS (P := X.prog) (w := X.w) cs (I.ok.hd hc) pl.isList (by rw [List.size_toArray]; exact hlen.symm) (fun i v hv => vals_strs rv i v (by simpa using hv)) (by unfold scanBound; omega) fun h' tk l R hl2 nd mem k => ?_
  exact ⟨.ref s.heap.objs.size, upd H s.heap.objs.size (SetXO X.prog X.w s.heap.objs.size l), I.laid (t' := tk) k (Nat.le_refl _) (setXO_new R), rfl, q _ l (I.hok.fresh (Nat.le_refl _)) nd mem hl2⟩
end
end
/-! ### ascending, and equal to its sorted set -/
theorem risingS_tx : ∀ (p : List Nat) (l : List (List Nat)), risingS (tx p) (l.map tx) = true → (p :: l).Pairwise (fun a b => ¬ b < a)
  | p, [], _ => List.pairwise_singleton _ _
  | p, c :: l, h => by
    have h : (!ltCps c p && risingS (tx c) (l.map tx)) = true := h
    rw [Bool.and_eq_true] at h
    have h2 := risingS_tx c l h.2
    have h1 : ¬ c < p := by
      have := h.1
      rw [ltCps_eq] at this
      simpa using this
    refine List.pairwise_cons.mpr ⟨fun d hd => ?_, h2⟩
    rcases List.mem_cons.mp hd with rfl | hd
    · exact h1
    · have h3 := (List.pairwise_cons.mp h2).1 d hd
      exact List.not_lt.mpr (List.le_trans (List.not_lt.mp h1) (List.not_lt.mp h3))
theorem sortedS_tx : ∀ {l : List (List Nat)}, sortedS (l.map tx) = true → l.Pairwise (fun a b => ¬ b < a)
  | [], _ => .nil
  | p :: l, h => risingS_tx p l h
theorem lt_of_ndL {l : List (List Nat)} (h : l.Pairwise (fun a b => ¬ b < a)) (nd : l.Nodup) : l.Pairwise (· < ·) := by
  refine List.Pairwise.imp₂ ?_ h nd
  intro a b h1 h2
  by_cases h : a < b
  · exact h
  · exact absurd (List.le_antisymm (List.not_lt.mp h1) (List.not_lt.mp h)) h2
theorem eq_of_permL : ∀ {l z : List (List Nat)}, l.Pairwise (· < ·) → z.Pairwise (· < ·) → l.Perm z → l = z
  | [], _, _, _, p => (List.nil_perm.mp p).symm
  | _ :: _, [], _, _, p => absurd p.length_eq (by simp)
  | a :: l, b :: z, hl, hz, p => by
    obtain ⟨l1, l2⟩ := List.pairwise_cons.mp hl
    obtain ⟨z1, z2⟩ := List.pairwise_cons.mp hz
    have e : a = b := by
      rcases List.mem_cons.mp (p.mem_iff.mp List.mem_cons_self) with e | e
      · exact e
      · rcases List.mem_cons.mp (p.mem_iff.mpr (List.mem_cons_self (a := b) (l := z))) with e' | e'
        · exact e'.symm
        · exact absurd (List.lt_trans (l1 b e') (z1 a e)) (List.lt_irrefl _)
    subst e
    rw [eq_of_permL l2 z2 ((List.perm_cons a).mp p)]
def cds (zs : List Str) : List (List Nat) := zs.map fun x => x.cps.toList
theorem cds_tx (zs : List Str) : (cds zs).map tx = zs := by
  unfold cds
  rw [List.map_map]
  conv => rhs; rw [← List.map_id zs]
  rfl
theorem asc_cons (x y : Str) (r : List Str) : asc (x :: y :: r) = (decide (x.cps.toList < y.cps.toList) && asc (y :: r)) := rfl
theorem asc_pair : ∀ zs : List Str, asc zs = true → (cds zs).Pairwise (· < ·)
  | [], _ => .nil
  | [x], _ => List.pairwise_singleton _ _
  | x :: y :: r, h => by
    rw [asc_cons, Bool.and_eq_true, decide_eq_true_eq] at h
    have ih := asc_pair (y :: r) h.2
    refine List.pairwise_cons.mpr ⟨fun z hz => ?_, ih⟩
    rcases List.mem_cons.mp hz with rfl | hz
    · exact h.1
    · exact List.lt_trans h.1 ((List.pairwise_cons.mp ih).1 z hz)
theorem pair_asc : ∀ zs : List Str, (cds zs).Pairwise (· < ·) → asc zs = true
  | [], _ => rfl
  | [_], _ => rfl
  | x :: y :: r, h => by
    obtain ⟨h1, h2⟩ := List.pairwise_cons.mp (show (x.cps.toList :: cds (y :: r)).Pairwise (· < ·) from h)
    rw [asc_cons, pair_asc (y :: r) h2, decide_eq_true (h1 y.cps.toList List.mem_cons_self)]
    rfl
theorem cds_nodup {zs : List Str} (h : zs.Nodup) : (cds zs).Nodup := by
  unfold cds
  rw [List.nodup_iff_pairwise_ne, List.pairwise_map]
  exact (List.nodup_iff_pairwise_ne.mp h).imp fun {a b} (n : a ≠ b) e => n (TL.ext_tl e)
theorem nodup_cds {zs : List Str} (h : (cds zs).Nodup) : zs.Nodup := by
  unfold cds at h
  rw [List.nodup_iff_pairwise_ne, List.pairwise_map] at h
  rw [List.nodup_iff_pairwise_ne]
  exact h.imp fun {a b} n e => n (by rw [e])
theorem asc_sorted {zs l ys : List Str} (nd : l.Nodup) (mem : ∀ y, y ∈ l ↔ y ∈ zs) (p : ys.Perm l) (so : sortedS ys = true) : asc zs = true ↔ zs = ys := by
  have ny : ys.Nodup := p.nodup_iff.mpr nd
  have py : (cds ys).Pairwise (· < ·) := lt_of_ndL (sortedS_tx (by rw [cds_tx]; exact so)) (cds_nodup ny)
  constructor
  · intro h
    have pz := asc_pair zs h
    have nz : zs.Nodup := nodup_cds (List.nodup_iff_pairwise_ne.mpr (pz.imp fun {a b} (h : a < b) => show a ≠ b from fun e => List.lt_irrefl b (by rw [e] at h; exact h)))
    have pm : zs.Perm ys := ((List.perm_ext_iff_of_nodup nz nd).mpr fun a => (mem a).symm).trans p.symm
    have e := eq_of_permL pz py (pm.map _)
    rw [← cds_tx zs, ← cds_tx ys, e]
  · rintro rfl
    exact pair_asc _ py
/-! ### _law_is_nest -/
def spNestL : Sp := fun vs H Q _ => ∃ (v : V) (D : Deck) (d : PyData), vs = [v] ∧ DQ D H v d ∧ gd d = true ∧ wt d ≤ 1000000 ∧ d.depth < 40 ∧ ∀ H', Same H H' → Q (.bl (nestB d)) H'
theorem depth_get2 : ∀ {ds : List PyData} {i : Nat} {d : PyData}, ds[i]? = some d → d.depth ≤ PyData.depthAll ds
  | [], _, _, h => by simp at h
  | x :: xs, 0, _, h => by
    cases h
    rw [dp_c]
    omega
  | x :: xs, i + 1, _, h => by
    have := depth_get2 (i := i) (show xs[i]? = _ from h)
    rw [dp_c]
    omega
theorem nest_no {ds : List PyData} {i : Nat} {d : PyData} (h : ds[i]? = some d) (e : enB i d = false) : nestB (.tuple ds) = false := by
  show (decide (1 ≤ ds.length) && (decide (ds.length ≤ 20) && ((ds.zipIdx.map fun x => enB x.2 x.1)).all id)) = false
  have : ((ds.zipIdx.map fun x => enB x.2 x.1)).all id = false := by
    rw [Bool.eq_false_iff]
    intro z
    have hz : ds.zipIdx[i]? = some (d, i) := by rw [List.getElem?_zipIdx, h]; simp
    have := List.all_eq_true.mp z _ (List.mem_map.mpr ⟨_, List.mem_of_getElem? hz, rfl⟩)
    rw [show id (enB i d) = enB i d from rfl, e] at this
    cases this
  rw [this, Bool.and_false, Bool.and_false]
theorem nest_yes {ds : List PyData} (h1 : 1 ≤ ds.length) (h2 : ds.length ≤ 20) (h : ∀ (i : Nat) (d : PyData), ds[i]? = some d → enB i d = true) : nestB (.tuple ds) = true := by
  show (decide (1 ≤ ds.length) && (decide (ds.length ≤ 20) && ((ds.zipIdx.map fun x => enB x.2 x.1)).all id)) = true
  rw [decide_eq_true h1, decide_eq_true h2, Bool.true_and, Bool.true_and, List.all_eq_true]
  intro b hb
  obtain ⟨⟨d, i⟩, hx, rfl⟩ := List.mem_map.mp hb
  have := List.mem_zipIdx hx
  exact h i d (by rw [this.2.2]; simp)
theorem at_parent : ∀ (t : B) (q : List Nat) (c : Nat) {u : B}, t.at (q ++ [c]) = some u → isNode (t.at q) ∧ (c = 108 ∨ c = 114)
  | .nil, [], _, _, h => by cases h
  | .node l x r, [], c, u, h => by
    refine ⟨⟨l, x, r, rfl⟩, ?_⟩
    have h : (if c = 108 then l.at [] else if c = 114 then r.at [] else none) = some u := h
    by_cases c1 : c = 108
    · exact .inl c1
    · rw [if_neg c1] at h
      by_cases c2 : c = 114
      · exact .inr c2
      · rw [if_neg c2] at h
        cases h
  | .nil, _ :: _, _, _, h => by cases h
  | .node l x r, d :: q, c, u, h => by
    have h : (if d = 108 then l.at (q ++ [c]) else if d = 114 then r.at (q ++ [c]) else none) = some u := h
    show isNode (if d = 108 then l.at q else if d = 114 then r.at q else none) ∧ _
    by_cases c1 : d = 108
    · rw [if_pos c1] at h ⊢
      exact at_parent l q c h
    · rw [if_neg c1] at h ⊢
      by_cases c2 : d = 114
      · rw [if_pos c2] at h ⊢
        exact at_parent r q c h
      · rw [if_neg c2] at h
        cases h
abbrev opensT (t : B) : List (List Nat) := opensOf ((t.steps .first []).map (·.1)) ((t.steps .first []).map (·.1))
theorem open_opens {t : B} (ht : 1 ≤ t.size) {p : List Nat} (h : t.at p = some .nil) : p ∈ opensT t := by
  rcases List.eq_nil_or_concat p with rfl | ⟨q, c, rfl⟩
  · rw [B.at_nil] at h
    cases h
    exact absurd ht (by show ¬ 1 ≤ 0; omega)
  · rw [List.concat_eq_append] at h ⊢
    obtain ⟨hq, hc⟩ := at_parent t q c h
    refine List.mem_flatMap.mpr ⟨q, (steps_mem t [] q).mpr ⟨q, rfl, hq⟩, sides_mem.mpr ⟨⟨c, hc, rfl⟩, fun z => ?_⟩⟩
    obtain ⟨w, e, ⟨l, x, r, hw⟩⟩ := (steps_mem t [] _).mp z
    have e : q ++ [c] = w := e
    rw [← e, h] at hw
    cases hw
theorem opens_iff {t : B} (ht : 1 ≤ t.size) (p : List Nat) : p ∈ opensT t ↔ t.at p = some .nil := ⟨fun h => (t.op_at p).mp (opens_open h), open_opens ht⟩
theorem inV_vts (x : Str) : ∀ L : List (List Nat), inV (.str x) (L.map fun z => V.str (tx z)) = decide (x.cps.toList ∈ L)
  | [] => rfl
  | c :: L => by
    have ih := inV_vts x L
    show ((tx c == x) || inV (.str x) (L.map fun z => V.str (tx z))) = _
    rw [ih, Bool.eq_iff_iff]
    simp only [Bool.or_eq_true, beq_iff_eq, decide_eq_true_eq, List.mem_cons]
    constructor
    · rintro (h | h)
      · exact .inl (by rw [← h]; rfl)
      · exact .inr h
    · rintro (h | h)
      · exact .inl (by rw [← h]; exact (TL.ext_tl rfl : x = tx x.cps.toList).symm)
      · exact .inr h
theorem flat_vts : ∀ L : List (List Nat), (L.map fun z => V.str (tx z)).all flatV = true
  | [] => rfl
  | c :: L => by
    show (flatV (V.str (tx c)) && (L.map fun z => V.str (tx z)).all flatV) = true
    rw [flat_vts L]
    rfl
theorem eqv_strs : ∀ (zs ys : List Str), PyData.eqvAll (zs.map PyData.str) (ys.map PyData.str) = decide (zs = ys)
  | [], [] => by simp [PyData.eqvAll]
  | [], _ :: _ => by simp [PyData.eqvAll]
  | _ :: _, [] => by simp [PyData.eqvAll]
  | z :: zs, y :: ys => by
    have ih := eqv_strs zs ys
    have e1 : PyData.eqvAll ((z :: zs).map PyData.str) ((y :: ys).map PyData.str) = (PyData.eqv (.str z) (.str y) && PyData.eqvAll (zs.map PyData.str) (ys.map PyData.str)) := by simp only [List.map_cons, PyData.eqvAll]
    have e2 : PyData.eqv (.str z) (.str y) = (z == y) := by simp only [PyData.eqv]
    rw [e1, e2, ih]
    by_cases h : z = y <;> by_cases h2 : zs = ys <;> simp [h, h2]
theorem dp_strs {K : PySem.W.Frag} {H : Hp} : ∀ zs : List Str, DpAll K H (zs.map V.str) (zs.map PyData.str)
  | [] => .nil
  | z :: zs => .cons (.str z) (dp_strs zs)
theorem strOk_of {x : Str} (h : ∀ c ∈ x.cps.toList, c < 1000) : PyData.strOk x = true := by
  show x.cps.all (· < 0x110000) = true
  rw [← Array.all_toList, List.all_eq_true]
  intro c hc
  have := h c hc
  exact decide_eq_true (by omega)
theorem lay_strs : ∀ zs : List Str, (∀ z ∈ zs, ∀ c ∈ z.cps.toList, c < 1000) → PyData.canLayAll0 (zs.map PyData.str) = true
  | [], _ => by simp only [List.map_nil, PyData.canLayAll0]
  | z :: zs, h => by
    simp only [List.map_cons, PyData.canLayAll0, PyData.canLay0, strOk_of (h z List.mem_cons_self), lay_strs zs fun y hy => h y (List.mem_cons_of_mem _ hy), Bool.and_self]
theorem dep_strs : ∀ zs : List Str, PyData.depthAll (zs.map PyData.str) = 0
  | [] => by simp only [List.map_nil, PyData.depthAll]
  | z :: zs => by
    simp only [List.map_cons, PyData.depthAll, PyData.depth, dep_strs zs]
    rfl
theorem shaped_strs {zs : List Str} (h : ∀ z ∈ zs, ∀ c ∈ z.cps.toList, c < 1000) : SeqAt.shaped (.list (zs.map PyData.str)) = true := by
  show ((PyData.list (zs.map PyData.str)).canLay0 && decide ((PyData.list (zs.map PyData.str)).depth ≤ 64)) = true
  simp only [PyData.canLay0, PyData.depth, lay_strs zs h, dep_strs zs]
  decide
theorem lk_open {t : B} {n : Nat} {ls : List PyData} (h : ∀ d ∈ ls, lkB t n d = true) : ∀ y ∈ ls.map lkP, y.cps.toList ∈ t.op := fun y hy => by
  obtain ⟨d, hd, rfl⟩ := List.mem_map.mp hy
  have hk := h d hd
  obtain ⟨x, b, rfl, e⟩ := lkB_path hk
  rw [e]
  have hk : (decide (pathTo t (.str x) = some .nil) && isIx b 0 ((n : Int) - 1)) = true := hk
  rw [Bool.and_eq_true, decide_eq_true_eq] at hk
  exact (t.op_at _).mpr hk.1
theorem lk_wt {t : B} {n : Nat} : ∀ {ls : List PyData}, (∀ d ∈ ls, lkB t n d = true) → 900 * ls.length ≤ wts ls
  | [], _ => Nat.zero_le _
  | d :: ls, h => by
    have ih := lk_wt (t := t) (n := n) (ls := ls) fun e he => h e (List.mem_cons_of_mem _ he)
    obtain ⟨x, b, rfl, _⟩ := lkB_path (h d List.mem_cons_self)
    simp only [wts, wt, List.length_cons]
    omega
theorem en_link {i : Nat} {y : PyData} {ls : List PyData} {k : Nat} {d : PyData} (h : ls[k]? = some d) (e : lkB (toB y) i d = false) : enB i (.tuple [y, .tuple ls]) = false := by
  show (isT y && ((ls.map (lkB (toB y) i)).all id && asc (ls.map lkP))) = false
  have : (ls.map (lkB (toB y) i)).all id = false := by
    rw [Bool.eq_false_iff]
    intro z
    have := List.all_eq_true.mp z _ (List.mem_map.mpr ⟨d, List.mem_of_getElem? h, rfl⟩)
    rw [show id (lkB (toB y) i d) = lkB (toB y) i d from rfl, e] at this
    cases this
  rw [this, Bool.false_and, Bool.and_false]
section
variable {P : Program} {w : World} {K : PySem.W.Frag} {mg : Str → Option Value} {base : Heap} {f : Addr} {fd : FuncData}
theorem ok_nestL (F : Fun K "_law_is_nest" "_law_is_nest" s__law_is_nest f fd) (M : Mgs mg) (mset : mg "set" = none) (D_law_count : Df P w K mg base 41 "_law_count" ["_law_value"] (spCount 40)) (D_law_open : Df P w K mg base 41 "_law_open" ["_law_tree_here"] spOpen) (D_law_whole : Df P w K mg base 1 "_law_whole" ["_law_value", "_law_low", "_law_high"] spFrom) : FnOk P w K mg base CX0 42 f fd ["_law_value"] spNestL := by
  refine F.ok (k := 41) sc__law_is_nest (fun vs H Q E h => ?_) (fun cdv A outer s H vs Q E hr h => ?_)
  · obtain ⟨v, D, d, rfl, _⟩ := h
    rfl
  obtain ⟨v, D, d, rfl, hd, g, hw, hdp, q⟩ := h
  refine ⟨_, (pss_cons (ps_if (PW.pt (pw_or (pt_not (pt_val (pe_callB call_isi rfl M.isinstance (by decide +kernel) (pa_cons (pv 0) (pa_cons (pe_bltn (v := .ty "tuple") rfl M.tuple (by decide +kernel) rfl) pa_nil))))) (pw_or1 (pt_not (pt_chain op_le op_le pe_int (pe_callB call_len_seq rfl M.len PySem.boot_len (pa_cons (pv 0) pa_nil)) pe_int)))))
      (pss_one (ps_ret pe_bl)) pss_nil)
    (pss_cons (ps_for PassesOwn.never rfl (pi_range1 rfl M.range (pa_cons (pe_callB call_len_seq rfl M.len PySem.boot_len (pa_cons (pv 0) pa_nil)) pa_nil)) (pg_name (i := 1) sc__law_is_nest.nd rfl (.inl rfl))
      (pss_cons (ps_set (i := 2) sc__law_is_nest.nd rfl (.inl rfl) (pe_ix ix_tup (pv 0) (pv 1) (fun _ _ => rfl)))
    (pss_cons (ps_if (PW.pt (pw_or (pt_not (pt_val (pe_callB call_isi rfl M.isinstance (by decide +kernel) (pa_cons (pv 2) (pa_cons (pe_bltn (v := .ty "tuple") rfl M.tuple (by decide +kernel) rfl) pa_nil))))) (pw_or (pt_cmpR op_ne (pe_callB call_len_seq rfl M.len PySem.boot_len (pa_cons (pv 2) pa_nil)) pe_int (nomark _)) (pw_or1 (pt_not (pt_chain op_le op_le pe_int (pe_call D_law_count.ok (hr.mono (by omega)) rfl D_law_count.g D_law_count.kp D_law_count.b .nil pass0 (pa_cons (pe_ix ix_tup (pv 2) pe_int (fun _ _ => rfl)) pa_nil)) pe_int))))))
      (pss_one (ps_ret pe_bl)) pss_nil)
    (pss_cons (ps_if (pt_not (pt_val (pe_callB call_isi rfl M.isinstance (by decide +kernel) (pa_cons (pe_ix ix_tup (pv 2) pe_int (fun _ _ => rfl)) (pa_cons (pe_bltn (v := .ty "tuple") rfl M.tuple (by decide +kernel) rfl) pa_nil)))))
      (pss_one (ps_ret pe_bl)) pss_nil)
    (pss_cons (ps_set (i := 3) sc__law_is_nest.nd rfl (.inl rfl) (pe_lst pa_nil))
    (pss_cons (ps_for PassesOwn.never rfl (pi_tup (pe_ix ix_tup (pv 2) pe_int (fun _ _ => rfl))) (pg_name (i := 4) sc__law_is_nest.nd rfl (.inl rfl))
      (pss_cons (ps_if (PW.pt (pw_or (pt_not (pt_val (pe_callB call_isi rfl M.isinstance (by decide +kernel) (pa_cons (pv 4) (pa_cons (pe_bltn (v := .ty "tuple") rfl M.tuple (by decide +kernel) rfl) pa_nil))))) (pw_or (pt_cmpR op_ne (pe_callB call_len_seq rfl M.len PySem.boot_len (pa_cons (pv 4) pa_nil)) pe_int (nomark _)) (pw_or1 (pt_not (pt_val (pe_callB call_isi rfl M.isinstance (by decide +kernel) (pa_cons (pe_ix ix_tup (pv 4) pe_int (fun _ _ => rfl)) (pa_cons (pe_bltn (v := .ty "str") rfl M.str (by decide +kernel) rfl) pa_nil)))))))))
      (pss_one (ps_ret pe_bl)) pss_nil)
    (pss_cons (ps_if (PW.pt (pw_or (pt_cmpR (show OpR _ (compareOp .NotIn) (rIn K true) from op_notIn_seq) (pe_ix ix_tup (pv 4) pe_int (fun _ _ => rfl)) (pe_call D_law_open.ok (hr.mono (by omega)) rfl D_law_open.g D_law_open.kp D_law_open.b .nil pass0 (pa_cons (pe_ix ix_tup (pv 2) pe_int (fun _ _ => rfl)) pa_nil)) (by rfl)) (pw_or1 (pt_not (pt_val (pe_call D_law_whole.ok (hr.mono (by omega)) rfl D_law_whole.g D_law_whole.kp D_law_whole.b .nil pass0 (pa_cons (pe_ix ix_tup (pv 4) pe_int (fun _ _ => rfl)) (pa_cons pe_int (pa_cons (pe_op op_sub (pv 1) pe_int) pa_nil)))))))))
      (pss_one (ps_ret pe_bl)) pss_nil)
    (pss_one (ps_expr (pe_bm PySem.F.plainAttrs_list PySem.F.slot_list_append PySem.F.type_list_append mt_append (pv 3) (pa_cons (pe_ix ix_tup (pv 4) pe_int (fun _ _ => rfl)) pa_nil)))))))
    (pss_one (ps_if (pt_cmpR (op_neD hr.units) (pv 3) (pe_callB (show CallR _ (.builtin "sorted") (rSortX P w) from cr_sortX rfl) rfl M.sorted (by decide +kernel) (pa_cons (pe_callTy (show CallR _ (.type "set") (rSetXS K P w) from cr_setXS rfl) rfl mset (by decide +kernel) (pa_cons (pv 3) pa_nil)) pa_nil)) (nomark _))
      (pss_one (ps_ret pe_bl)) pss_nil))))))))
    (pss_one (ps_ret pe_bl)))), ?_⟩
  refine ⟨_, rfl, _, _, _, _, isTupD d, rfl, .ty _, dq_ty hd, kit_ty (kit_tup d), _, rfl, ?_⟩
  cases hd with
  | @tup a xs ds o e al =>
    refine iteF ?_
    have hl := dqAll_len al
    simp only [gd] at g
    simp only [wt] at hw
    rw [dp_t] at hdp
    have no : (decide (1 ≤ ds.length) && decide (ds.length ≤ 20)) = false → nestB (.tuple ds) = false := fun z => by
      show (decide (1 ≤ ds.length) && (decide (ds.length ≤ 20) && _)) = false
      rw [← Bool.and_assoc, z]
      rfl
    refine ⟨_, rfl, a, xs, rfl, .inr (SqT.of e), _, _, rfl, rfl, _, rfl, ?_⟩
    by_cases h1 : 1 ≤ xs.length
    · rw [decide_eq_true (show (1 : Int) ≤ ((xs.length : Nat) : Int) by omega)]
      refine iteT ⟨_, _, rfl, rfl, _, rfl, ?_⟩
      by_cases h2 : xs.length ≤ 20
      · rw [decide_eq_true (show ((xs.length : Nat) : Int) ≤ 20 by omega)]
        refine iteF ?_
        refine ⟨_, rfl, a, xs, rfl, .inr (SqT.of e), (xs.length : Int), rfl, by omega, by omega, ?_⟩
        refine for_range (lo := 0) (n := xs.length) (fun i σ H' => ∃ y1 y2 y3 y4 : Option V, σ = [some (.ref a), y1, y2, y3, y4] ∧ Same H H' ∧ ∀ (k : Nat) (d : PyData), k < i → ds[k]? = some d → enB k d = true) ⟨none, none, none, none, rfl, Same.refl _, fun k d h => absurd h (Nat.not_lt_zero _)⟩ (fun i σ H1 hi hp => ?_) (fun σ H1 hp => ?_)
        · obtain ⟨y1, y2, y3, y4, rfl, s1, hok⟩ := hp
          obtain ⟨u, hu⟩ : ∃ u, xs[i]? = some u := ⟨_, List.getElem?_eq_getElem hi⟩
          obtain ⟨dx, hdx, hq⟩ := dqAll_get al hu
          have hq1 := dq_same s1 hq
          have dpx := depth_get2 hdx
          have wx := wts_get hdx
          refine ⟨_, rfl, _, rfl, a, _, _, u, rfl, rfl, SqT.of (s1 _ _ e), (by rw [Int.zero_add]; exact atI_nat hu), ?_⟩
          have fail : enB i dx = false → ∀ H', Same H H' → Q (.bl false) H' := fun e' H' s' => by
            have := q H' s'
            rw [nest_no hdx e'] at this
            exact this
          refine ⟨_, rfl, _, _, _, _, isTupD dx, rfl, .ty _, dq_ty hq1, kit_ty (kit_tup dx), _, rfl, ?_⟩
          cases hq1 with
          | @tup b ys ess ob eb alb =>
            refine iteF ?_
            have hlb := dqAll_len alb
            refine ⟨_, rfl, b, ys, rfl, .inr (SqT.of eb), rfl, _, rfl, ?_⟩
            by_cases h3 : ys.length = 2
            · match ys, ess, h3, alb with
              | [v1, v2], [d1, d2], _, .cons g1 (.cons g2 .nil) =>
              refine iteF ?_
              rw [dp_t, dp_c, dp_c, dp_e] at dpx
              simp only [wt, wts] at wx
              refine ⟨_, rfl, b, _, 0, v1, rfl, rfl, SqT.of eb, atI_nat (j := 0) rfl, v1, D, d1, rfl, g1, by omega, fun H2 s2 => ?_⟩
              have s02 := s1.trans s2
              have eb2 := s2 _ _ eb
              have g1' := dq_same s2 g1
              have g2' := dq_same s2 g2
              have hT := isT_count d1
              have noT : isT d1 = false → enB i (.tuple [d1, d2]) = false := fun z => by
                show enB2 i d1 d2 = false
                cases d2 <;> first | rfl | (show (isT d1 && _) = false; rw [z]; rfl)
              refine ⟨_, _, rfl, rfl, _, rfl, ?_⟩
              by_cases c1 : 1 ≤ cntL d1
              · rw [decide_eq_true c1]
                refine iteT ⟨_, _, rfl, rfl, _, rfl, ?_⟩
                by_cases c2 : cntL d1 ≤ 12
                · rw [decide_eq_true c2]
                  rw [decide_eq_true ⟨c1, c2⟩] at hT
                  refine iteF ?_
                  obtain ⟨t1, t2, t3, t4⟩ := isT_tree hT
                  have bt := isT_bat hT g1'
                  refine ⟨_, rfl, b, _, 1, v2, rfl, rfl, SqT.of eb2, atI_nat (j := 1) rfl, _, _, _, _, isTupD d2, rfl, .ty _, dq_ty g2', kit_ty (kit_tup d2), _, rfl, ?_⟩
                  cases g2' with
                  | @tup lb zs ls ol el all =>
                    refine iteF ?_
                    have hzl := dqAll_len all
                    have wl : wts ls ≤ 1000000 := by simp only [wt] at wx; omega
                    have failL : ∀ {k : Nat} {d : PyData}, ls[k]? = some d → lkB (toB d1) i d = false → ∀ H', Same H H' → Q (.bl false) H' := fun {k d} h e' => fail (en_link h e')
                    refine ⟨(by show 0 ≤ sizeLine; decide), fun L nL => ?_⟩
                    have kL := same_new nL (.lst [])
                    have eL0 := upd_same (H := H2) (a := L) (o := .lst [])
                    refine ⟨_, rfl, b, _, 1, .ref lb, rfl, rfl, SqT.of (kL _ _ eb2), atI_nat (j := 1) rfl, lb, rfl, ⟨_, SqT.of (kL _ _ el)⟩, ?_⟩
                    refine for_tup (K := K) (a := lb) (xs := zs) (fun j σ H' => ∃ y4 : Option V, σ = [some (.ref a), some (.int (0 + (i : Int))), some (.ref b), some (.ref L), y4] ∧ Same H2 H' ∧ H' L = some (.lst (((ls.take j).map lkP).map V.str)) ∧ ∀ (k : Nat) (d : PyData), k < j → ls[k]? = some d → lkB (toB d1) i d = true)
                      ⟨_, rfl, kL, eL0, fun k d h => absurd h (Nat.not_lt_zero _)⟩ (fun j σ H' _ hp => by obtain ⟨_, _, sm, _⟩ := hp; exact SqT.of (sm _ _ el)) (fun j z σ H3 hz hp => ?_) (fun σ H3 hp => ?_)
                    · obtain ⟨y4, rfl, s3, eL, hks⟩ := hp
                      obtain ⟨dz, hdz, hqz⟩ := dqAll_get all hz
                      have hq3 := dq_same s3 hqz
                      have s03 := s02.trans s3
                      have fl := failL hdz
                      refine ⟨_, rfl, _, _, _, _, isTupD dz, rfl, .ty _, dq_ty hq3, kit_ty (kit_tup dz), _, rfl, ?_⟩
                      cases hq3 with
                      | @tup cz ws fs oz ez alz =>
                        refine iteF ?_
                        have hlz := dqAll_len alz
                        refine ⟨_, rfl, cz, ws, rfl, .inr (SqT.of ez), rfl, _, rfl, ?_⟩
                        by_cases h4 : ws.length = 2
                        · match ws, fs, h4, alz with
                          | [w1, w2], [e1, e2], _, .cons k1 (.cons k2 .nil) =>
                          refine iteF ?_
                          refine ⟨_, rfl, cz, _, 0, w1, rfl, rfl, SqT.of ez, atI_nat (j := 0) rfl, _, _, _, _, isStrD e1, rfl, .ty _, dq_ty k1, kit_ty (kit_str e1), _, rfl, ?_⟩
                          have lkF : pathTo (toB d1) e1 ≠ some .nil → lkB (toB d1) i (.tuple [e1, e2]) = false := fun z => by
                            show (decide (pathTo (toB d1) e1 = some .nil) && isIx e2 0 ((i : Int) - 1)) = false
                            rw [decide_eq_false z, Bool.false_and]
                          cases k1 with
                          | @str x =>
                            refine iteF ?_
                            refine ⟨_, rfl, cz, _, 0, .str x, rfl, rfl, SqT.of ez, atI_nat (j := 0) rfl, ?_⟩
                            refine ⟨_, rfl, b, _, 0, v1, rfl, rfl, SqT.of (s3 _ _ eb2), atI_nat (j := 0) rfl, v1, toB d1, rfl, bt.same s3, by omega, fun pa H4 s4 hn eP => ?_⟩
                            have s04 := s03.trans s4
                            refine ⟨pa, (opensT (toB d1)).map fun z => V.str (tx z), rfl, .inl (SqL.of eP), rfl, flat_vts _, _, rfl, ?_⟩
                            show if (!inV (.str x) ((opensT (toB d1)).map fun z => V.str (tx z))) = true then _ else _
                            rw [inV_vts]
                            by_cases hx : x.cps.toList ∈ opensT (toB d1)
                            · rw [decide_eq_true hx]
                              have hat := (opens_iff t2 _).mp hx
                              refine iteF ⟨_, rfl, cz, _, 1, w2, rfl, rfl, SqT.of (s4 _ _ ez), atI_nat (j := 1) rfl, _, rfl, _, _, rfl, rfl, w2, D, e2, 0, (i : Int) - 1, ?_, dq_same s4 k2, ?_⟩
                              · rw [Int.zero_add]
                                rfl
                              · have hlk : lkB (toB d1) i (.tuple [.str x, e2]) = isIx e2 0 ((i : Int) - 1) := by
                                  show (decide ((toB d1).at x.cps.toList = some .nil) && isIx e2 0 ((i : Int) - 1)) = _
                                  rw [decide_eq_true hat, Bool.true_and]
                                cases hix : isIx e2 0 ((i : Int) - 1) with
                                | false => exact ⟨_, rfl, iteT (fl (hlk.trans hix) H4 s04)⟩
                                | true =>
                                  refine ⟨_, rfl, iteF ?_⟩
                                  have hlz' := wts_len ls
                                  refine ⟨_, rfl, .inl ⟨rfl, _, SqL.of (s4 _ _ eL)⟩, _, rfl, cz, _, 0, .str x, rfl, rfl, SqT.of (s4 _ _ ez), atI_nat (j := 0) rfl, L, _, _, rfl, rfl, s4 _ _ eL, ?_, ?_⟩
                                  · simp only [List.length_map, List.length_take]
                                    have : wts ls ≤ 1000000 := wl
                                    show _ < (16777216 : Nat)
                                    omega
                                  · refine ⟨_, rfl, fun b o e => ?_, ?_, fun k d hk hd => ?_⟩
                                    · rw [upd_ne (ne_of_none e nL)]
                                      exact s4 _ _ (s3 _ _ e)
                                    · rw [upd_same, List.take_succ, hdz, List.map_append, List.map_append]
                                      rfl
                                    · by_cases hkj : k < j
                                      · exact hks k d hkj hd
                                      · have hkj : k = j := by omega
                                        subst hkj
                                        rw [hdz] at hd
                                        cases hd
                                        exact hlk.trans hix
                            · rw [decide_eq_false hx]
                              exact iteT (fl (lkF fun z => hx ((opens_iff t2 _).mpr z)) H4 s04)
                          | tup _ _ _ => exact iteT (fl (lkF fun z => nomatch z) H3 s03)
                          | non => exact iteT (fl (lkF fun z => nomatch z) H3 s03)
                          | bl b => exact iteT (fl (lkF fun z => nomatch z) H3 s03)
                          | int i => exact iteT (fl (lkF fun z => nomatch z) H3 s03)
                          | lst _ _ _ => exact iteT (fl (lkF fun z => nomatch z) H3 s03)
                          | emp _ _ => exact iteT (fl (lkF fun z => nomatch z) H3 s03)
                          | ent _ _ => exact iteT (fl (lkF fun z => nomatch z) H3 s03)
                        · have c : (!decide (V.int ((ws.length : Nat) : Int) = V.int 2)) = true := by
                            rw [decide_eq_false fun z => h4 (by have := V.int.inj z; omega)]; rfl
                          refine iteC c (fl ?_ H3 s03)
                          match fs, hlz with
                          | [], _ => rfl
                          | [_], _ => rfl
                          | [_, _], hlz => exact absurd hlz h4
                          | _ :: _ :: _ :: _, _ => rfl
                      | non => exact iteT (fl rfl H3 s03)
                      | bl b => exact iteT (fl rfl H3 s03)
                      | int i => exact iteT (fl rfl H3 s03)
                      | lst _ _ _ => exact iteT (fl rfl H3 s03)
                      | str _ => exact iteT (fl rfl H3 s03)
                      | emp _ _ => exact iteT (fl rfl H3 s03)
                      | ent _ _ => exact iteT (fl rfl H3 s03)
                    · obtain ⟨y4, rfl, s3, eL, hks⟩ := hp
                      rw [hzl, List.take_length] at eL
                      have hall : ∀ d ∈ ls, lkB (toB d1) i d = true := fun d hd => by
                        obtain ⟨k, hk⟩ := List.getElem?_of_mem hd
                        exact hks k d (by have := (List.getElem?_eq_some_iff.mp hk).1; omega) hk
                      have hlen := lk_wt hall
                      refine ⟨_, rfl, _, rfl, L, ls.map lkP, rfl, SqL.of eL, by rw [List.length_map]; omega, fun sa l nsa nd mem hl5 => ?_⟩
                      have hop := lk_open hall
                      have h64 : l.length < 64 := by
                        have h1 : (cds l).length ≤ (toB d1).op.length := nodup_le (cds_nodup nd) fun p hp => by
                          obtain ⟨y, hy, rfl⟩ := List.mem_map.mp hp
                          exact hop y ((mem y).mp hy)
                        rw [B.op_len] at h1
                        have h2 : (cds l).length = l.length := by unfold cds; rw [List.length_map]
                        omega
                      refine ⟨sa, l, rfl, upd_same, nd, h64, fun ysT py perm so npy => ?_⟩
                      have k5 := same_new nsa (SetXO P w sa l)
                      have k6 := same_new npy (.lst (ysT.map V.str))
                      have lo : ∀ z ∈ ls.map lkP, ∀ c ∈ z.cps.toList, c < 1000 := fun z hz c hc => by
                        have := op_signs _ _ (hop z hz) c hc
                        omega
                      have lo2 : ∀ z ∈ ysT, ∀ c ∈ z.cps.toList, c < 1000 := fun z hz => lo z ((mem z).mp (perm.mem_iff.mp hz))
                      refine ⟨.list ((ls.map lkP).map PyData.str), .list (ysT.map PyData.str), .lst (SqL.of (k6 _ _ (k5 _ _ eL))) (dp_strs _), .lst (SqL.of upd_same) (dp_strs _), shaped_strs lo, shaped_strs lo2, _, rfl, ?_⟩
                      have hx : PyData.eqv (.list ((ls.map lkP).map PyData.str)) (.list (ysT.map PyData.str)) = asc (ls.map lkP) := by
                        have h1 : PyData.eqv (.list ((ls.map lkP).map PyData.str)) (.list (ysT.map PyData.str)) = PyData.eqvAll ((ls.map lkP).map PyData.str) (ysT.map PyData.str) := by simp only [PyData.eqv]
                        rw [h1, eqv_strs, Bool.eq_iff_iff, decide_eq_true_eq]
                        exact (asc_sorted nd mem perm so).symm
                      rw [hx]
                      have sfin := s02.trans (s3.trans (k5.trans k6))
                      cases ha : asc (ls.map lkP) with
                      | false =>
                        refine iteT (fail ?_ _ sfin)
                        show (isT d1 && ((ls.map (lkB (toB d1) i)).all id && asc (ls.map lkP))) = false
                        rw [ha, Bool.and_false, Bool.and_false]
                      | true =>
                        refine iteF ⟨_, _, _, _, rfl, sfin, fun k d hk hd => ?_⟩
                        by_cases hki : k < i
                        · exact hok k d hki hd
                        · have hki : k = i := by omega
                          subst hki
                          rw [hdx] at hd
                          cases hd
                          show (isT d1 && ((ls.map (lkB (toB d1) k)).all id && asc (ls.map lkP))) = true
                          rw [hT, ha, Bool.and_true, Bool.true_and, List.all_eq_true]
                          intro b hb
                          obtain ⟨d, hd, rfl⟩ := List.mem_map.mp hb
                          exact hall d hd
                  | non => exact iteT (fail rfl H2 s02)
                  | bl b => exact iteT (fail rfl H2 s02)
                  | int i => exact iteT (fail rfl H2 s02)
                  | lst _ _ _ => exact iteT (fail rfl H2 s02)
                  | str _ => exact iteT (fail rfl H2 s02)
                  | emp _ _ => exact iteT (fail rfl H2 s02)
                  | ent _ _ => exact iteT (fail rfl H2 s02)
                · rw [decide_eq_false c2]
                  exact iteT (fail (noT (by rw [hT]; exact decide_eq_false fun z => c2 z.2)) H2 s02)
              · rw [decide_eq_false c1]
                exact iteF ⟨_, rfl, iteT (fail (noT (by rw [hT]; exact decide_eq_false fun z => c1 z.1)) H2 s02)⟩
            · have c : (!decide (V.int ((ys.length : Nat) : Int) = V.int 2)) = true := by
                rw [decide_eq_false fun z => h3 (by have := V.int.inj z; omega)]; rfl
              refine iteC c (fail ?_ H1 s1)
              match ess, hlb with
              | [], _ => rfl
              | [_], _ => rfl
              | [_, _], hlb => exact absurd hlb h3
              | _ :: _ :: _ :: _, _ => rfl
          | non => exact iteT (fail rfl H1 s1)
          | bl b => exact iteT (fail rfl H1 s1)
          | int i => exact iteT (fail rfl H1 s1)
          | lst _ _ _ => exact iteT (fail rfl H1 s1)
          | str _ => exact iteT (fail rfl H1 s1)
          | emp _ _ => exact iteT (fail rfl H1 s1)
          | ent _ _ => exact iteT (fail rfl H1 s1)
        · obtain ⟨y1, y2, y3, y4, rfl, s1, hok⟩ := hp
          have := q H1 s1
          rw [nest_yes (by omega) (by omega) (fun i d hd => hok i d (by have := (List.getElem?_eq_some_iff.mp hd).1; omega) hd)] at this
          exact this
      · rw [decide_eq_false (show ¬ ((xs.length : Nat) : Int) ≤ 20 by omega)]
        have := q H (Same.refl H)
        rw [no (by rw [decide_eq_false (show ¬ ds.length ≤ 20 by omega), Bool.and_false])] at this
        exact iteT this
    · rw [decide_eq_false (show ¬ (1 : Int) ≤ ((xs.length : Nat) : Int) by omega)]
      have := q H (Same.refl H)
      rw [no (by rw [decide_eq_false (show ¬ 1 ≤ ds.length by omega)]; rfl)] at this
      exact iteF ⟨_, rfl, iteT this⟩
  | non => exact iteT (q H (Same.refl H))
  | bl b => exact iteT (q H (Same.refl H))
  | int i => exact iteT (q H (Same.refl H))
  | lst _ _ _ => exact iteT (q H (Same.refl H))
  | str _ => exact iteT (q H (Same.refl H))
  | emp _ _ => exact iteT (q H (Same.refl H))
  | ent _ _ => exact iteT (q H (Same.refl H))
end
/-! ### _law_same, _law_odd -/
theorem dq_newT {D : Deck} {H : Hp} {n : Nat} (dk : DeckOk H D n) {p : Addr} (np : H p = none) {xs : List V} {ds : List PyData} (al : DQAll D H xs ds) : DQ D (upd H p (.tup xs)) (.ref p) (.tuple ds) := .tup (dk.new np) upd_same (dqAll_same (same_new np _) al)
theorem dq_newL {D : Deck} {H : Hp} {n : Nat} (dk : DeckOk H D n) {p : Addr} (np : H p = none) {xs : List V} {ds : List PyData} (al : DQAll D H xs ds) : DQ D (upd H p (.lst xs)) (.ref p) (.list ds) := .lst (dk.new np) upd_same (dqAll_same (same_new np _) al)
theorem dq_newE {D : Deck} {H : Hp} {n : Nat} (dk : DeckOk H D n) {p : Addr} (np : H p = none) : DQ D (upd H p (.dK [])) (.ref p) (.dict []) := .emp (dk.new np) upd_same
theorem dq_new1 {D : Deck} {H : Hp} {n : Nat} (dk : DeckOk H D n) {p : Addr} (np : H p = none) : DQ D (upd H p (.dK [(.inr "a", .int 1)])) (.ref p) (.dict [(.str "a", .int 1)]) := .ent (dk.new np) upd_same
def spSameQ : Sp := fun vs H Q _ => ∃ (u v : V) (D : Deck) (d : PyData), vs = [u, v] ∧ DQ D H u d ∧ DQ D H v d ∧ gd d = true ∧ wt d ≤ 1000000 ∧ d.depth ≤ 60 ∧ Q (.bl true) H
def odds : List PyData := [.none, .bool true, .bool false, .int 0, .int 1, .int (-1), .int 2, .int ((10 : Int) ^ Int.toNat 29), .str "", .str "l", .str "r", .str "lr", .str "a", .str "A", .str "first", .tuple [], .list [], .dict [], .tuple [.int 0], .list [.int 0],
  .tuple [.bool true], .tuple [.none, .str "a", .none], .tuple [.str "l", .int 0], .tuple [.dict []], .tuple [.list [.int 0]], .dict [(.str "a", .int 1)]]
theorem odds_ok : odds.all (fun d => gd d && decide (wt d ≤ 3000) && decide (d.depth ≤ 3)) = true := by decide +kernel
def spOdd : Sp := fun vs H Q _ => ∃ (D : Deck) (n : Nat), vs = [.ref D.dk] ∧ DeckOk H D n ∧ n ≤ 900000 ∧ ∀ (v : V) (d : PyData) (H' : Hp), DQ D H' v d → gd d = true → wt d ≤ 3000 → d.depth ≤ 3 → d ∈ odds → DeckOk H' D (n + 1) → SameD D H H' → Q v H'
section
variable {P : Program} {w : World} {K : PySem.W.Frag} {mg : Str → Option Value} {base : Heap} {f : Addr} {fd : FuncData}
theorem ok_sameQ {k : Nat} (F : Fun K "_law_same" "_law_same" s__law_same f fd) (M : Mgs mg) : FnOkG P w K mg base (k + 1) f fd ["_law_found", "_law_due"] spSameQ := by
  refine fnG F sc__law_same (fun vs H Q E h => ?_) (fun cdv A outer s H vs Q E gs hr h => ?_)
  · obtain ⟨u, v, D, d, rfl, _⟩ := h
    rfl
  obtain ⟨u, v, D, d, rfl, h1, h2, g, wl, dp, q⟩ := h
  refine ⟨_, (pss_one (ps_ret (pe_cmpR op_eq (pe_callB (call_reprQ gs hr.units) rfl M.repr (by decide +kernel) (pa_cons (pv 0) pa_nil)) (pe_callB (call_reprQ gs hr.units) rfl M.repr (by decide +kernel) (pa_cons (pv 1) pa_nil)) (nomark _)))), ?_⟩
  refine ⟨_, rfl, u, D, d, rfl, h1, g, wl, dp, _, rfl, v, D, d, rfl, h2, g, wl, dp, ?_⟩
  refine ⟨rfl, ?_⟩
  rw [decide_eq_true (rfl : V.str d.shown = V.str d.shown)]
  exact q
theorem ok_odd (F : Fun K "_law_odd" "_law_odd" s__law_odd f fd) (D_law_pick : Df P w K mg base 2 "_law_pick" ["_law_deck_here", "_law_items"] (spPick K)) : FnOk P w K mg base CX0 3 f fd ["_law_deck_here"] spOdd := by
  refine F.ok (k := 2) sc__law_odd (fun vs H Q E h => ?_) (fun cdv A outer s H vs Q E hr h => ?_)
  · obtain ⟨D, n, rfl, _⟩ := h
    rfl
  obtain ⟨D, n, rfl, dk, hn, q⟩ := h
  refine ⟨_, (pss_cons (ps_set (i := 1) sc__law_odd.nd rfl (.inl rfl) (pe_lst (pa_cons pe_non (pa_cons pe_bl (pa_cons pe_bl (pa_cons pe_int (pa_cons pe_int (pa_cons (pe_un un_neg pe_int) (pa_cons pe_int (pa_cons (pe_op op_pow pe_int pe_int) (pa_cons pe_str (pa_cons pe_str (pa_cons pe_str (pa_cons pe_str (pa_cons pe_str (pa_cons pe_str (pa_cons pe_str (pa_cons (pe_tup pa_nil) (pa_cons (pe_lst pa_nil) (pa_cons pe_dnewK (pa_cons (pe_tup (pa_cons pe_int pa_nil)) (pa_cons (pe_lst (pa_cons pe_int pa_nil)) pa_nil))))))))))))))))))))))
    (pss_one (ps_ret (pe_call D_law_pick.ok (hr.mono (by omega)) rfl D_law_pick.g D_law_pick.kp D_law_pick.b .nil pass0 (pa_cons (pv 0) (pa_cons (pe_op op_cat (pv 1) (pe_lst (pa_cons (pe_tup (pa_cons pe_bl pa_nil)) (pa_cons (pe_tup (pa_cons pe_non (pa_cons pe_str (pa_cons pe_non pa_nil)))) (pa_cons (pe_tup (pa_cons pe_str (pa_cons pe_int pa_nil))) (pa_cons (pe_tup (pa_cons pe_dnewK pa_nil)) (pa_cons (pe_tup (pa_cons (pe_lst (pa_cons pe_int pa_nil)) pa_nil)) (pa_cons (pe_disp (pps_cons pe_str pe_int pps_nil) rfl rfl (by simp) (by decide)) pa_nil)))))))) pa_nil)))))), ?_⟩
  have sm := Same.refl H
  refine ⟨1, rfl, ?_⟩
  refine ⟨_, _, rfl, rfl, ⟨by decide, by decide, by decide⟩, ?_⟩
  refine ⟨(by show 0 ≤ sizeLine; decide), fun p1 n1 => ?_⟩
  have q1 := same_new n1 (.tup [])
  have a1 := dq_newT (xs := []) (ds := []) dk n1 .nil
  have x1 := upd_same (H := H) (a := p1) (o := .tup [])
  have f1 := dk.new n1
  have dk := dk.same q1
  have sm := sm.trans q1
  clear q1 n1
  generalize upd H p1 (.tup []) = H1 at x1 dk sm a1 ⊢
  refine ⟨(by show 0 ≤ sizeLine; decide), fun p2 n2 => ?_⟩
  have q2 := same_new n2 (.lst [])
  have a2 := dq_newL (xs := []) (ds := []) dk n2 .nil
  have x2 := upd_same (H := H1) (a := p2) (o := .lst [])
  have f2 := dk.new n2
  have a1 := dq_same q2 a1
  have dk := dk.same q2
  have sm := sm.trans q2
  clear q2 n2
  generalize upd H1 p2 (.lst []) = H2 at x2 dk sm a2 a1 ⊢
  refine fun p3 n3 => ?_
  have q3 := same_new n3 (.dK [])
  have a3 := dq_newE dk n3
  have x3 := upd_same (H := H2) (a := p3) (o := .dK [])
  have f3 := dk.new n3
  have a1 := dq_same q3 a1
  have a2 := dq_same q3 a2
  have dk := dk.same q3
  have sm := sm.trans q3
  clear q3 n3
  generalize upd H2 p3 (.dK []) = H3 at x3 dk sm a3 a1 a2 ⊢
  refine ⟨(by show 1 ≤ sizeLine; decide), fun p4 n4 => ?_⟩
  have q4 := same_new n4 (.tup [.int 0])
  have a4 := dq_newT dk n4 (.cons (.int 0) .nil)
  have x4 := upd_same (H := H3) (a := p4) (o := .tup [.int 0])
  have f4 := dk.new n4
  have a1 := dq_same q4 a1
  have a2 := dq_same q4 a2
  have a3 := dq_same q4 a3
  have dk := dk.same q4
  have sm := sm.trans q4
  clear q4 n4
  generalize upd H3 p4 (.tup [.int 0]) = H4 at x4 dk sm a4 a1 a2 a3 ⊢
  refine ⟨(by show 1 ≤ sizeLine; decide), fun p5 n5 => ?_⟩
  have q5 := same_new n5 (.lst [.int 0])
  have a5 := dq_newL dk n5 (.cons (.int 0) .nil)
  have x5 := upd_same (H := H4) (a := p5) (o := .lst [.int 0])
  have f5 := dk.new n5
  have a1 := dq_same q5 a1
  have a2 := dq_same q5 a2
  have a3 := dq_same q5 a3
  have a4 := dq_same q5 a4
  have dk := dk.same q5
  have sm := sm.trans q5
  clear q5 n5
  generalize upd H4 p5 (.lst [.int 0]) = H5 at x5 dk sm a5 a1 a2 a3 a4 ⊢
  refine ⟨(by show 20 ≤ sizeLine; decide), fun p6 n6 => ?_⟩
  have q6 := same_new n6 (.lst [.non, .bl true, .bl false, .int 0, .int 1, .int (-1), .int 2, .int ((10 : Int) ^ Int.toNat 29), .str "", .str "l", .str "r", .str "lr", .str "a", .str "A", .str "first", .ref p1, .ref p2, .ref p3, .ref p4, .ref p5])
  have x6 := upd_same (H := H5) (a := p6) (o := .lst [.non, .bl true, .bl false, .int 0, .int 1, .int (-1), .int 2, .int ((10 : Int) ^ Int.toNat 29), .str "", .str "l", .str "r", .str "lr", .str "a", .str "A", .str "first", .ref p1, .ref p2, .ref p3, .ref p4, .ref p5])
  have f6 := dk.new n6
  have a1 := dq_same q6 a1
  have a2 := dq_same q6 a2
  have a3 := dq_same q6 a3
  have a4 := dq_same q6 a4
  have a5 := dq_same q6 a5
  have dk := dk.same q6
  have sm := sm.trans q6
  clear q6 n6
  generalize upd H5 p6 (.lst [.non, .bl true, .bl false, .int 0, .int 1, .int (-1), .int 2, .int ((10 : Int) ^ Int.toNat 29), .str "", .str "l", .str "r", .str "lr", .str "a", .str "A", .str "first", .ref p1, .ref p2, .ref p3, .ref p4, .ref p5]) = H6 at x6 dk sm a1 a2 a3 a4 a5 ⊢
  refine ⟨_, rfl, _, rfl, ?_⟩
  refine ⟨(by show 1 ≤ sizeLine; decide), fun p7 n7 => ?_⟩
  have q7 := same_new n7 (.tup [.bl true])
  have a7 := dq_newT dk n7 (.cons (.bl true) .nil)
  have x7 := upd_same (H := H6) (a := p7) (o := .tup [.bl true])
  have f7 := dk.new n7
  have a1 := dq_same q7 a1
  have a2 := dq_same q7 a2
  have a3 := dq_same q7 a3
  have a4 := dq_same q7 a4
  have a5 := dq_same q7 a5
  have x6 := q7 _ _ x6
  have dk := dk.same q7
  have sm := sm.trans q7
  clear q7 n7
  generalize upd H6 p7 (.tup [.bl true]) = H7 at x7 dk sm a7 a1 a2 a3 a4 a5 x6 ⊢
  refine ⟨(by show 3 ≤ sizeLine; decide), fun p8 n8 => ?_⟩
  have q8 := same_new n8 (.tup [.non, .str "a", .non])
  have a8 := dq_newT dk n8 (.cons .non (.cons (.str "a") (.cons .non .nil)))
  have x8 := upd_same (H := H7) (a := p8) (o := .tup [.non, .str "a", .non])
  have f8 := dk.new n8
  have a1 := dq_same q8 a1
  have a2 := dq_same q8 a2
  have a3 := dq_same q8 a3
  have a4 := dq_same q8 a4
  have a5 := dq_same q8 a5
  have x6 := q8 _ _ x6
  have a7 := dq_same q8 a7
  have dk := dk.same q8
  have sm := sm.trans q8
  clear q8 n8
  generalize upd H7 p8 (.tup [.non, .str "a", .non]) = H8 at x8 dk sm a8 a1 a2 a3 a4 a5 x6 a7 ⊢
  refine ⟨(by show 2 ≤ sizeLine; decide), fun p9 n9 => ?_⟩
  have q9 := same_new n9 (.tup [.str "l", .int 0])
  have a9 := dq_newT dk n9 (.cons (.str "l") (.cons (.int 0) .nil))
  have x9 := upd_same (H := H8) (a := p9) (o := .tup [.str "l", .int 0])
  have f9 := dk.new n9
  have a1 := dq_same q9 a1
  have a2 := dq_same q9 a2
  have a3 := dq_same q9 a3
  have a4 := dq_same q9 a4
  have a5 := dq_same q9 a5
  have x6 := q9 _ _ x6
  have a7 := dq_same q9 a7
  have a8 := dq_same q9 a8
  have dk := dk.same q9
  have sm := sm.trans q9
  clear q9 n9
  generalize upd H8 p9 (.tup [.str "l", .int 0]) = H9 at x9 dk sm a9 a1 a2 a3 a4 a5 x6 a7 a8 ⊢
  refine fun p10 n10 => ?_
  have q10 := same_new n10 (.dK [])
  have a10 := dq_newE dk n10
  have x10 := upd_same (H := H9) (a := p10) (o := .dK [])
  have f10 := dk.new n10
  have a1 := dq_same q10 a1
  have a2 := dq_same q10 a2
  have a3 := dq_same q10 a3
  have a4 := dq_same q10 a4
  have a5 := dq_same q10 a5
  have x6 := q10 _ _ x6
  have a7 := dq_same q10 a7
  have a8 := dq_same q10 a8
  have a9 := dq_same q10 a9
  have dk := dk.same q10
  have sm := sm.trans q10
  clear q10 n10
  generalize upd H9 p10 (.dK []) = H10 at x10 dk sm a10 a1 a2 a3 a4 a5 x6 a7 a8 a9 ⊢
  refine ⟨(by show 1 ≤ sizeLine; decide), fun p11 n11 => ?_⟩
  have q11 := same_new n11 (.tup [.ref p10])
  have a11 := dq_newT dk n11 (.cons a10 .nil)
  have x11 := upd_same (H := H10) (a := p11) (o := .tup [.ref p10])
  have f11 := dk.new n11
  have a1 := dq_same q11 a1
  have a2 := dq_same q11 a2
  have a3 := dq_same q11 a3
  have a4 := dq_same q11 a4
  have a5 := dq_same q11 a5
  have x6 := q11 _ _ x6
  have a7 := dq_same q11 a7
  have a8 := dq_same q11 a8
  have a9 := dq_same q11 a9
  have a10 := dq_same q11 a10
  have dk := dk.same q11
  have sm := sm.trans q11
  clear q11 n11
  generalize upd H10 p11 (.tup [.ref p10]) = H11 at x11 dk sm a11 a1 a2 a3 a4 a5 x6 a7 a8 a9 a10 ⊢
  refine ⟨(by show 1 ≤ sizeLine; decide), fun p12 n12 => ?_⟩
  have q12 := same_new n12 (.lst [.int 0])
  have a12 := dq_newL dk n12 (.cons (.int 0) .nil)
  have x12 := upd_same (H := H11) (a := p12) (o := .lst [.int 0])
  have f12 := dk.new n12
  have a1 := dq_same q12 a1
  have a2 := dq_same q12 a2
  have a3 := dq_same q12 a3
  have a4 := dq_same q12 a4
  have a5 := dq_same q12 a5
  have x6 := q12 _ _ x6
  have a7 := dq_same q12 a7
  have a8 := dq_same q12 a8
  have a9 := dq_same q12 a9
  have a10 := dq_same q12 a10
  have a11 := dq_same q12 a11
  have dk := dk.same q12
  have sm := sm.trans q12
  clear q12 n12
  generalize upd H11 p12 (.lst [.int 0]) = H12 at x12 dk sm a12 a1 a2 a3 a4 a5 x6 a7 a8 a9 a10 a11 ⊢
  refine ⟨(by show 1 ≤ sizeLine; decide), fun p13 n13 => ?_⟩
  have q13 := same_new n13 (.tup [.ref p12])
  have a13 := dq_newT dk n13 (.cons a12 .nil)
  have x13 := upd_same (H := H12) (a := p13) (o := .tup [.ref p12])
  have f13 := dk.new n13
  have a1 := dq_same q13 a1
  have a2 := dq_same q13 a2
  have a3 := dq_same q13 a3
  have a4 := dq_same q13 a4
  have a5 := dq_same q13 a5
  have x6 := q13 _ _ x6
  have a7 := dq_same q13 a7
  have a8 := dq_same q13 a8
  have a9 := dq_same q13 a9
  have a10 := dq_same q13 a10
  have a11 := dq_same q13 a11
  have a12 := dq_same q13 a12
  have dk := dk.same q13
  have sm := sm.trans q13
  clear q13 n13
  generalize upd H12 p13 (.tup [.ref p12]) = H13 at x13 dk sm a13 a1 a2 a3 a4 a5 x6 a7 a8 a9 a10 a11 a12 ⊢
  refine fun p14 n14 => ?_
  refine ⟨upd_same, [(.inr "a", .int 1)], rfl, (by decide), ?_⟩
  have e14 : upd (upd H13 p14 (.dK [])) p14 (.dK (mergeK [] [(.inr "a", .int 1)])) = upd H13 p14 (.dK [(.inr "a", .int 1)]) := by
    funext b
    by_cases hb : b = p14
    · rw [hb, upd_same, upd_same]
      rfl
    · rw [upd_ne hb, upd_ne hb, upd_ne hb]
  rw [e14]
  have q14 := same_new n14 (.dK [(.inr "a", .int 1)])
  have a14 := dq_new1 dk n14
  have x14 := upd_same (H := H13) (a := p14) (o := .dK [(.inr "a", .int 1)])
  have f14 := dk.new n14
  have a1 := dq_same q14 a1
  have a2 := dq_same q14 a2
  have a3 := dq_same q14 a3
  have a4 := dq_same q14 a4
  have a5 := dq_same q14 a5
  have x6 := q14 _ _ x6
  have a7 := dq_same q14 a7
  have a8 := dq_same q14 a8
  have a9 := dq_same q14 a9
  have a10 := dq_same q14 a10
  have a11 := dq_same q14 a11
  have a12 := dq_same q14 a12
  have a13 := dq_same q14 a13
  have dk := dk.same q14
  have sm := sm.trans q14
  clear q14 n14
  generalize upd H13 p14 (.dK [(.inr "a", .int 1)]) = H14 at x14 dk sm a14 a1 a2 a3 a4 a5 x6 a7 a8 a9 a10 a11 a12 a13 ⊢
  refine ⟨(by show 6 ≤ sizeLine; decide), fun p15 n15 => ?_⟩
  have q15 := same_new n15 (.lst [.ref p7, .ref p8, .ref p9, .ref p11, .ref p13, .ref p14])
  have x15 := upd_same (H := H14) (a := p15) (o := .lst [.ref p7, .ref p8, .ref p9, .ref p11, .ref p13, .ref p14])
  have f15 := dk.new n15
  have a1 := dq_same q15 a1
  have a2 := dq_same q15 a2
  have a3 := dq_same q15 a3
  have a4 := dq_same q15 a4
  have a5 := dq_same q15 a5
  have x6 := q15 _ _ x6
  have a7 := dq_same q15 a7
  have a8 := dq_same q15 a8
  have a9 := dq_same q15 a9
  have a10 := dq_same q15 a10
  have a11 := dq_same q15 a11
  have a12 := dq_same q15 a12
  have a13 := dq_same q15 a13
  have a14 := dq_same q15 a14
  have dk := dk.same q15
  have sm := sm.trans q15
  clear q15 n15
  generalize upd H14 p15 (.lst [.ref p7, .ref p8, .ref p9, .ref p11, .ref p13, .ref p14]) = H15 at x15 dk sm a1 a2 a3 a4 a5 x6 a7 a8 a9 a10 a11 a12 a13 a14 ⊢
  refine ⟨p6, p15, _, _, rfl, rfl, x6, x15, (by show 26 ≤ sizeLine; decide), ?_⟩
  refine fun p16 n16 => ?_
  have q16 := same_new n16 (.lst ([.non, .bl true, .bl false, .int 0, .int 1, .int (-1), .int 2, .int ((10 : Int) ^ Int.toNat 29), .str "", .str "l", .str "r", .str "lr", .str "a", .str "A", .str "first", .ref p1, .ref p2, .ref p3, .ref p4, .ref p5] ++ [.ref p7, .ref p8, .ref p9, .ref p11, .ref p13, .ref p14]))
  have x16 := upd_same (H := H15) (a := p16) (o := .lst ([.non, .bl true, .bl false, .int 0, .int 1, .int (-1), .int 2, .int ((10 : Int) ^ Int.toNat 29), .str "", .str "l", .str "r", .str "lr", .str "a", .str "A", .str "first", .ref p1, .ref p2, .ref p3, .ref p4, .ref p5] ++ [.ref p7, .ref p8, .ref p9, .ref p11, .ref p13, .ref p14]))
  have f16 := dk.new n16
  have a1 := dq_same q16 a1
  have a2 := dq_same q16 a2
  have a3 := dq_same q16 a3
  have a4 := dq_same q16 a4
  have a5 := dq_same q16 a5
  have x6 := q16 _ _ x6
  have a7 := dq_same q16 a7
  have a8 := dq_same q16 a8
  have a9 := dq_same q16 a9
  have a10 := dq_same q16 a10
  have a11 := dq_same q16 a11
  have a12 := dq_same q16 a12
  have a13 := dq_same q16 a13
  have a14 := dq_same q16 a14
  have x15 := q16 _ _ x15
  have dk := dk.same q16
  have sm := sm.trans q16
  clear q16 n16
  generalize upd H15 p16 (.lst ([.non, .bl true, .bl false, .int 0, .int 1, .int (-1), .int 2, .int ((10 : Int) ^ Int.toNat 29), .str "", .str "l", .str "r", .str "lr", .str "a", .str "A", .str "first", .ref p1, .ref p2, .ref p3, .ref p4, .ref p5] ++ [.ref p7, .ref p8, .ref p9, .ref p11, .ref p13, .ref p14])) = H16 at x16 dk sm a1 a2 a3 a4 a5 x6 a7 a8 a9 a10 a11 a12 a13 a14 x15 ⊢
  have al : DQAll D H16 ([.non, .bl true, .bl false, .int 0, .int 1, .int (-1), .int 2, .int ((10 : Int) ^ Int.toNat 29), .str "", .str "l", .str "r", .str "lr", .str "a", .str "A", .str "first", .ref p1, .ref p2, .ref p3, .ref p4, .ref p5] ++ [.ref p7, .ref p8, .ref p9, .ref p11, .ref p13, .ref p14]) odds := .cons .non (.cons (.bl true) (.cons (.bl false) (.cons (.int 0) (.cons (.int 1) (.cons (.int (-1)) (.cons (.int 2) (.cons (.int _) (.cons (.str "") (.cons (.str "l") (.cons (.str "r") (.cons (.str "lr") (.cons (.str "a") (.cons (.str "A") (.cons (.str "first") (.cons a1 (.cons a2 (.cons a3 (.cons a4 (.cons a5 (.cons a7 (.cons a8 (.cons a9 (.cons a11 (.cons a13 (.cons a14 .nil)))))))))))))))))))))))))
  refine ⟨D, n, _, rfl, dk, by omega, .inr ⟨p16, _, rfl, x16, f16, (by simp), (by show 26 ≤ 60; decide), fun x H' hx dk' s' => ?_⟩⟩
  obtain ⟨i, hi⟩ := List.getElem?_of_mem hx
  obtain ⟨d, hd1, hd2⟩ := dqAll_get al hi
  have ok := List.all_eq_true.mp odds_ok d (List.mem_of_getElem? hd1)
  simp only [Bool.and_eq_true, decide_eq_true_eq] at ok
  exact q x d H' (dq_sameD s' hd2) ok.1.1 ok.1.2 ok.2 (List.mem_of_getElem? hd1) dk' ((SameD.of sm).trans s')
end
/-! ### _law_chain -/
def chainB : Nat → B
  | 0 => .nil
  | n + 1 => .node .nil 97 (chainB n)
def spChain : Sp := fun vs H Q _ => ∃ (D : Deck) (n k : Nat), vs = [.int (k : Int)] ∧ DeckOk H D n ∧ k ≤ 100 ∧ ∀ (v : V) (H' : Hp), DQ D H' v (chainB k).data → Same H H' → Q v H'
section
variable {P : Program} {w : World} {K : PySem.W.Frag} {mg : Str → Option Value} {base : Heap} {f : Addr} {fd : FuncData}
theorem ok_chain (F : Fun K "_law_chain" "_law_chain" s__law_chain f fd) (M : Mgs mg) : FnOk P w K mg base CX0 1 f fd ["_law_size"] spChain := by
  refine F.ok (k := 0) sc__law_chain (fun vs H Q E h => ?_) (fun cdv A outer s H vs Q E hr h => ?_)
  · obtain ⟨D, n, k, rfl, _⟩ := h
    rfl
  obtain ⟨D, n, k, rfl, dk, hk, q⟩ := h
  refine ⟨_, (pss_cons (ps_set (i := 1) sc__law_chain.nd rfl (.inl rfl) pe_non)
    (pss_cons (ps_for PassesOwn.never rfl (pi_range1 rfl M.range (pa_cons (pv 0) pa_nil)) (pg_name (i := 2) sc__law_chain.nd rfl (.inl rfl))
      (pss_one (ps_set (i := 1) sc__law_chain.nd rfl (.inl rfl) (pe_tup (pa_cons pe_non (pa_cons pe_str (pa_cons (pv 1) pa_nil)))))))
    (pss_one (ps_ret (pv 1))))), ?_⟩
  refine ⟨_, rfl, (k : Int), rfl, by omega, by omega, ?_⟩
  refine for_range (lo := 0) (n := k) (fun i σ H' => ∃ (v : V) (y : Option V), σ = [some (.int (k : Int)), some v, y] ∧ Same H H' ∧ DQ D H' v (chainB i).data) ⟨_, none, rfl, Same.refl _, .non⟩ (fun i σ H1 hi hp => ?_) (fun σ H1 hp => ?_)
  · obtain ⟨v, y, rfl, s1, hv⟩ := hp
    refine ⟨_, rfl, (by show 3 ≤ sizeLine; decide), fun p np => ?_⟩
    have s2 := same_new np (.tup [.non, .str "a", v])
    have dk1 := dk.same s1
    refine ⟨_, _, rfl, s1.trans s2, ?_⟩
    exact .tup (dk1.new np) upd_same (.cons .non (.cons (.str _) (.cons (dq_same s2 hv) .nil)))
  · obtain ⟨v, y, rfl, s1, hv⟩ := hp
    exact ⟨_, rfl, q _ _ hv s1⟩
end
/-! ### t[::-1] -/
section
variable {prog : Program} {w : World} {A : Around} {E : Value → Shared → Prop} {s : Shared}
open HT in
theorem back_bounds {sl : Addr} {vl vu vs : Value} {n : Nat} {Q : Int × Int × Nat → Shared → Prop} (hs : s.heap.IsSliceOf sl vl vu vs) (pl : IsPart vl none) (pu : IsPart vu none) (ps : IsPart vs (some (-1)))
    (h : Q ((n : Int) - 1, -1, n) s) : wpAny (model prog w) A (Builtin.Slice.sliceApplied (.ref sl) (pure (n : Int))) Q E s := by
  obtain ⟨ob, isOb, isCl, isDt⟩ := id hs
  unfold Builtin.Slice.sliceApplied Builtin.Slice.sliceFields
  refine wpAny_bind (wpAny_bind (wpAny_field isOb isDt (x := vl) rfl (wpAny_bind (wpAny_field isOb isDt (x := vu) rfl (wpAny_bind (wpAny_field isOb isDt (x := vs) rfl (wpAny_pure ?_)))))))
  refine wpAny_bind (slicePart_ ps ?_)
  show wpAny _ _ (if ((-1 : Int) == 0) = true then _ else _) _ _ s
  rw [if_neg (by decide)]
  refine wpAny_bind (slicePart_ pl (wpAny_bind (slicePart_ pu (wpAny_bind (wpAny_pure ?_)))))
  have e : Builtin.Slice.slicePlaces ((n : Int) - 1) (-1) (-1) = n := by
    unfold Builtin.Slice.slicePlaces
    rw [if_neg (by decide)]
    by_cases h0 : (n : Int) - 1 > -1
    · rw [if_pos h0, show (- -1 : Int) = 1 by decide, Int.ediv_one]
      omega
    · rw [if_neg h0]
      omega
  show wpAny _ _ (pure ((n : Int) - 1, (-1 : Int), Builtin.Slice.slicePlaces ((n : Int) - 1) (-1) (-1))) _ _ s
  rw [e]
  exact wpAny_pure h
theorem fm_congr {α β : Type} {f g : α → Option β} : ∀ (l : List α), (∀ k ∈ l, f k = g k) → l.filterMap f = l.filterMap g
  | [], _ => rfl
  | x :: l, h => by
    rw [List.filterMap_cons, List.filterMap_cons, h x (List.mem_cons_self ..), fm_congr l fun k hk => h k (List.mem_cons_of_mem _ hk)]
theorem back_pick (xs : Array Value) : ((List.range xs.size).filterMap fun (k : Nat) => xs[((xs.size : Int) - 1 + (k : Int) * (-1)).toNat]?).toArray = xs.toList.reverse.toArray := by
  congr 1
  have e1 : ((List.range xs.size).filterMap fun (k : Nat) => xs[((xs.size : Int) - 1 + (k : Int) * (-1)).toNat]?) = ((List.range xs.size).map fun k => xs.size - 1 - k).filterMap (xs[·]?) := by
    rw [List.filterMap_map]
    refine fm_congr _ fun k hk => ?_
    have := List.mem_range.mp hk
    show xs[((xs.size : Int) - 1 + (k : Int) * (-1)).toNat]? = xs[xs.size - 1 - k]?
    rw [show ((xs.size : Int) - 1 + (k : Int) * (-1)).toNat = xs.size - 1 - k by omega]
  rw [e1, PySem.W.krv_range, List.filterMap_reverse, PySem.W.krv_all]
open HT in
theorem getItem_back {t sl : Addr} {items : Array Value} {vl vu vs : Value} {Q : Value → Shared → Prop} (ht : IsTup s.heap t items) (hs : s.heap.IsSliceOf sl vl vu vs) (pl : IsPart vl none) (pu : IsPart vu none) (ps : IsPart vs (some (-1)))
    (h : Q (.ref s.heap.objs.size) { s with heap := s.heap.push { cls := .type "tuple", data := .seq items.toList.reverse.toArray } }) (hsz : items.size ≤ sizeLine) : wpAny (model prog w) A (getItem (.ref t) (.ref sl)) Q E s := by
  obtain ⟨ob, isOb, isCl, isDt⟩ := id hs
  have isSl : s.TypeIs (.ref sl) "slice" := ⟨ob, isOb, isCl⟩
  have fits : sizeOk (.seq items.toList.reverse.toArray) := by
    show items.toList.reverse.toArray.size ≤ sizeLine
    rw [List.size_toArray, List.length_reverse, Array.length_toList]
    exact hsz
  unfold getItem
  refine wpAny_holding ?_
  refine wpAny_bind (wpAny_sequenceKey ht.typeIs (by decide) ?_)
  have body : wpAny (model prog w) A.in1 (Builtin.«tuple.__getitem__» ⟨[.ref t, .ref sl], []⟩) (fun fin s' => ∃ v, fin = Fin.done (Flow.ret v) ∧ Q v s') E s := by
    show wpAny _ _ (Builtin.Tuple.tupleItemsOf (.ref t) >>= _) _ _ s
    refine wpAny_bind (tupleItemsOf_ ht (wpAny_bind (wpAny_typeOf isSl ?_)))
    rw [if_pos (by decide)]
    refine wpAny_bind (back_bounds hs pl pu ps ?_)
    have off : ¬ ((((items.size : Int) - 1) == 0 && (-1 : Int) == 1 && items.size == items.size) = true) := by
      rw [show ((-1 : Int) == 1) = false by decide, Bool.and_false, Bool.false_and]
      exact Bool.false_ne_true
    show wpAny _ _ (if (((items.size : Int) - 1) == 0 && (-1 : Int) == 1 && items.size == items.size) = true then _ else _) _ _ s
    rw [if_neg off, back_pick]
    first
      | exact wpAny_bind (m := Builtin.Tuple.tupleExact _) (wpAny_newObj_type (wpAny_pure ⟨_, rfl, h⟩) fits)
      | exact wpAny_bind (m := Builtin.Tuple.tupleExact _) (wpAny_newObj_type (wpAny_bind (wpAny_pure (wpAny_pure ⟨_, rfl, h⟩))) fits)
      | exact wpAny_bind (wpAny_bind (m := Builtin.Tuple.tupleExact _) (wpAny_newObj_type (wpAny_pure (wpAny_pure ⟨_, rfl, h⟩)) fits))
      | exact wpAny_bind (wpAny_bind (m := Builtin.Tuple.tupleExact _) (wpAny_newObj_type (wpAny_pure ⟨_, rfl, h⟩) fits))
  refine wpAny_bind (wpAny_callSpecial?_slot (name := Str.ofString "__getitem__") ht.typeIs PyProof.Rows.slot_tuple_getitem ?_)
  refine wpAny_call_entry PyProof.Rows.slot_tuple_getitem ht.typeIs entry_tuple_getitem (wpAny_mono body (fun fin s' z => ?_) fun _ _ z => z) (args_tuple_getitem _ _)
  obtain ⟨v, e, q⟩ := z
  exact ⟨v, e, wpAny_pure q⟩
end
/-- t[::-1], t a tuple -/
def tRevT (K : PySem.W.Frag) (te : TE) : TE := fun σ H Q => te σ H fun x H1 => ∃ a xs, x = .ref a ∧ SqT K H1 a xs ∧ ∀ p, H1 p = none → Q (.ref p) (upd H1 p (.tup xs.reverse))
theorem pe_revT {X : Cx} {e : Expr} {te : TE} {k : Nat} {p1 p2 p3 pos : Pos} (he : PE X e te) : PE X (.Subscript e (.Slice none none (some (.UnaryOp .USub (.Constant (.int 1) k p1) p2)) p3) pos) (tRevT X.K te) := by
  constructor
  intro pins s σ H Q I h
  refine Subscript_ (thn (he.run pins s σ H _ I h) ?_)
  rintro v s1 ⟨x, H1, I1, r1, a, xs, rfl, hx, q⟩
  cases r1
  have minus : PO X (some (.UnaryOp .USub (.Constant (.int 1) k p1) p2)) (tPart (tUn (rU fun i => .int (-i)) (tC (.int 1)))) := po_some (pe_un un_neg pe_int)
  refine wpAny_Slice (thn (po_none.run pins s1 σ H1 (fun o H2 => o = none ∧ H2 = H1) I1 ⟨rfl, rfl⟩) ?_)
  rintro vl s2 ⟨l, H2, I2, pl, rfl, rfl⟩
  refine thn (po_none.run pins s2 σ H2 (fun o H3 => o = none ∧ H3 = H2) I2 ⟨rfl, rfl⟩) ?_
  rintro vu s3 ⟨u, H3, I3, pu, rfl, rfl⟩
  refine thn (minus.run pins s3 σ H3 (fun o H4 => o = some (-1) ∧ H4 = H3) I3 ⟨1, rfl, -1, rfl, rfl, rfl⟩) ?_
  rintro vs s4 ⟨o, H4, I4, ps, rfl, rfl⟩
  have J : Inv X pins σ H4 { s4 with heap := s4.heap.push { cls := .type "slice", data := .fields #[vl, vu, vs] } } := I4.kept (t' := s4.toks) fun _ _ z => Heap.get?_push_of_some _ z
  obtain ⟨its, r, ht, hz⟩ := J.tuple hx
  have lens := r.length
  show wpAny (model X.prog X.w) X.A (subscriptTail e (.Slice none none (some (.UnaryOp .USub (.Constant (.int 1) k p1) p2)) p3) (.ref a) (.ref s4.heap.objs.size)) _ X.xe _
  refine tail_any (ops := [.ref a, .ref s4.heap.objs.size]) ht.typeIs (PyProof.Rows.slot_tuple_getitem.lookup) ?_ (by with_unfolding_all rfl)
  refine getItem_back ht (Heap.IsSliceOf.new _ vl vu vs) pl pu ps ?_ (by rw [List.size_toArray]; omega)
  refine ⟨.ref _, _, J.laid (t' := s4.toks) (o := .tup xs.reverse) (fun _ _ z => Heap.get?_push_of_some _ z) (Nat.le_refl _) ?_, rfl, q _ (J.hok.fresh (Nat.le_refl _))⟩
  exact ⟨by rw [List.length_reverse]; exact hz, _, r.reverse, ⟨_, Heap.get?_push_size _ rfl, rfl, _, rfl⟩⟩
/-! ### t != () -/
theorem op_neE {X : Cx} (hu : X.A.units < cLine) : OpR X (compareOp .NotEq) (fun x y H Q => ∃ a b xs, x = .ref a ∧ y = .ref b ∧ SqT X.K H a xs ∧ SqT X.K H b [] ∧ Q (.bl (!xs.isEmpty)) H) := by
  intro pins s σ H x y v u Q I rx ry h
  obtain ⟨a, b, xs, rfl, rfl, hx, hy, q⟩ := h
  cases rx
  cases ry
  obtain ⟨its, r1, t1, _⟩ := I.tuple hx
  obtain ⟨its2, r2, t2, _⟩ := I.tuple hy
  cases r2
  have rc := SeqAt.RcNeAt.tuples (A := X.A) (s := s) (items := its.toArray) (items2 := ([] : List Value).toArray) (e := fun _ => true) t1 t2 hu (fun j _ h2 => absurd h2 (by simp))
  refine rc X.prog X.w X.xe _ ?_
  have e : (!((List.range (min its.toArray.size ([] : List Value).toArray.size)).all (fun _ => true) && its.toArray.size == ([] : List Value).toArray.size)) = !xs.isEmpty := by
    cases r1 with
    | nil => rfl
    | cons _ _ => simp
  rw [e]
  exact ⟨.bl _, H, I, rfl, q⟩
theorem cut_whole {xs : List V} {lo hi : Option Int} (h : HT.sIx xs.length 0 lo = 0 ∧ HT.sIx xs.length xs.length hi = xs.length) : cutV xs lo hi = xs := by
  unfold cutV
  rw [h.1, h.2, List.drop_zero, Nat.sub_zero, List.take_length]
theorem slA_of {K : PySem.W.Frag} {D : Deck} {H : Hp} {n : Nat} (dk : DeckOk H D n) {a : Addr} {xs : List V} {lo hi : Option Int} {Q : VK} (hx : H a = some (.tup xs)) (oa : Off D a)
    (q : ∀ (p : Addr) (H' : Hp), Same H H' → H' p = some (.tup (cutV xs lo hi)) → Off D p → Q (.ref p) H') : rSlA K (.ref a) lo hi H Q :=
  ⟨a, xs, rfl, SqT.of hx, fun hw => q a H (Same.refl H) (by rw [cut_whole hw]; exact hx) oa, fun _ p np => q p _ (same_new np _) upd_same (dk.new np)⟩
theorem catA_of {K : PySem.W.Frag} {D : Deck} {H : Hp} {n : Nat} (dk : DeckOk H D n) {a b : Addr} {xs ys : List V} {Q : VK} (hx : H a = some (.tup xs)) (oa : Off D a) (hy : H b = some (.tup ys)) (ob : Off D b) (hz : xs.length + ys.length ≤ sizeLine)
    (q : ∀ (p : Addr) (H' : Hp), Same H H' → H' p = some (.tup (xs ++ ys)) → Off D p → Q (.ref p) H') : rCatA K (.ref a) (.ref b) H Q :=
  ⟨a, b, xs, ys, rfl, rfl, SqT.of hx, SqT.of hy, hz, fun e => q b H (Same.refl H) (by rw [e]; exact hy) ob, fun _ e => q a H (Same.refl H) (by rw [e, List.append_nil]; exact hx) oa, fun _ _ p np => q p _ (same_new np _) upd_same (dk.new np)⟩
/-! ### weights of changed tuples -/
theorem wts_app : ∀ a b : List PyData, wts (a ++ b) = wts a + wts b
  | [], b => by simp only [List.nil_append, wts, Nat.zero_add]
  | d :: a, b => by
    have h := wts_app a b
    simp only [List.cons_append, wts, h]
    omega
theorem wts_take : ∀ (a : List PyData) (k : Nat), wts (a.take k) + wts (a.drop k) = wts a := fun a k => by
  rw [← wts_app, List.take_append_drop]
theorem depthAll_app : ∀ a b : List PyData, PyData.depthAll (a ++ b) = max (PyData.depthAll a) (PyData.depthAll b)
  | [], b => by simp only [List.nil_append, PyData.depthAll]; omega
  | d :: a, b => by
    have h := depthAll_app a b
    simp only [List.cons_append, PyData.depthAll, h]
    omega
theorem depthAll_parts (a : List PyData) (k : Nat) : PyData.depthAll (a.take k) ≤ PyData.depthAll a ∧ PyData.depthAll (a.drop k) ≤ PyData.depthAll a := by
  have h := depthAll_app (a.take k) (a.drop k)
  rw [List.take_append_drop] at h
  omega
theorem gds_parts {a : List PyData} (k : Nat) (h : gds a = true) : gds (a.take k) = true ∧ gds (a.drop k) = true := by
  rw [← List.take_append_drop k a, gds_app, Bool.and_eq_true] at h
  exact h
theorem rev_ok : ∀ a : List PyData, wts a.reverse = wts a ∧ PyData.depthAll a.reverse = PyData.depthAll a ∧ gds a.reverse = gds a
  | [] => ⟨rfl, rfl, rfl⟩
  | d :: a => by
    obtain ⟨h1, h2, h3⟩ := rev_ok a
    rw [List.reverse_cons, wts_app, depthAll_app, gds_app, h1, h2, h3]
    simp only [wts, PyData.depthAll, gds, Bool.and_true]
    refine ⟨by omega, by omega, Bool.and_comm _ _⟩
theorem dqAll_take {D : Deck} {H : Hp} : ∀ {vs : List V} {ds : List PyData} (k : Nat), DQAll D H vs ds → DQAll D H (vs.take k) (ds.take k) ∧ DQAll D H (vs.drop k) (ds.drop k)
  | _, _, 0, h => ⟨.nil, h⟩
  | _, _, _ + 1, .nil => ⟨.nil, .nil⟩
  | _, _, k + 1, .cons h a => ⟨.cons h (dqAll_take k a).1, (dqAll_take k a).2⟩
theorem dqAll_rev {D : Deck} {H : Hp} : ∀ {vs : List V} {ds : List PyData}, DQAll D H vs ds → DQAll D H vs.reverse ds.reverse
  | _, _, .nil => .nil
  | _, _, .cons h a => by
    rw [List.reverse_cons, List.reverse_cons]
    exact dqAll_app (dqAll_rev a) (.cons h .nil)
theorem wt_get : ∀ {ds : List PyData} {i : Nat} {d : PyData}, ds[i]? = some d → wt d + 2 + wts (ds.take i) + wts (ds.drop (i + 1)) = wts ds
  | [], _, _, h => by simp at h
  | x :: xs, 0, _, h => by
    cases h
    simp only [List.take_zero, wts, List.drop_succ_cons, List.drop_zero, Nat.add_zero]
  | x :: xs, i + 1, d, h => by
    have := wt_get (ds := xs) (i := i) h
    simp only [List.take_succ_cons, wts, List.drop_succ_cons]
    omega
theorem gd_get : ∀ {ds : List PyData} {i : Nat} {d : PyData}, ds[i]? = some d → gds ds = true → gd d = true
  | [], _, _, h, _ => by simp at h
  | x :: xs, 0, _, h, k => by
    cases h
    simp only [gds, Bool.and_eq_true] at k
    exact k.1
  | x :: xs, i + 1, d, h, k => by
    simp only [gds, Bool.and_eq_true] at k
    exact gd_get (ds := xs) (i := i) h k.2

/-! ### the bounds of texts and ints within a value -/
mutual
def tm (m : Nat) : PyData → Bool
  | .none => true
  | .bool _ => true
  | .int i => decide (-1 - (m : Int) ≤ i) && decide (i ≤ 10 ^ 29 + (m : Int))
  | .str x => decide (x.length ≤ 20 + m)
  | .list xs => tms m xs
  | .tuple xs => tms m xs
  | .dict _ => true
def tms (m : Nat) : List PyData → Bool
  | [] => true
  | x :: xs => tm m x && tms m xs
end
theorem tms_app {m : Nat} : ∀ {a b : List PyData}, tms m (a ++ b) = (tms m a && tms m b)
  | [], b => by simp only [List.nil_append, tms, Bool.true_and]
  | d :: a, b => by
    have h := tms_app (m := m) (a := a) (b := b)
    simp only [List.cons_append, tms, h, Bool.and_assoc]
theorem tm_get {m : Nat} : ∀ {ds : List PyData} {i : Nat} {d : PyData}, ds[i]? = some d → tms m ds = true → tm m d = true
  | [], _, _, h, _ => by simp at h
  | x :: xs, 0, _, h, k => by
    cases h
    simp only [tms, Bool.and_eq_true] at k
    exact k.1
  | x :: xs, i + 1, d, h, k => by
    simp only [tms, Bool.and_eq_true] at k
    exact tm_get (ds := xs) (i := i) h k.2
theorem tms_parts {m : Nat} {a : List PyData} (k : Nat) (h : tms m a = true) : tms m (a.take k) = true ∧ tms m (a.drop k) = true := by
  rw [← List.take_append_drop k a, tms_app, Bool.and_eq_true] at h
  exact h
theorem tms_rev {m : Nat} : ∀ a : List PyData, tms m a.reverse = tms m a
  | [] => rfl
  | d :: a => by
    rw [List.reverse_cons, tms_app, tms_rev a]
    simp only [tms, Bool.and_true]
    exact Bool.and_comm _ _
mutual
theorem tm_mono {m k : Nat} (h : m ≤ k) : ∀ {d : PyData}, tm m d = true → tm k d = true
  | .none, _ => by simp only [tm]
  | .bool _, _ => by simp only [tm]
  | .int i, z => by
    simp only [tm, Bool.and_eq_true, decide_eq_true_eq] at z ⊢
    omega
  | .str x, z => by
    simp only [tm, decide_eq_true_eq] at z ⊢
    omega
  | .list xs, z => by
    simp only [tm] at z ⊢
    exact tms_mono h z
  | .tuple xs, z => by
    simp only [tm] at z ⊢
    exact tms_mono h z
  | .dict _, _ => by simp only [tm]
theorem tms_mono {m k : Nat} (h : m ≤ k) : ∀ {ds : List PyData}, tms m ds = true → tms k ds = true
  | [], _ => by simp only [tms]
  | d :: ds, z => by
    simp only [tms, Bool.and_eq_true] at z ⊢
    exact ⟨tm_mono h z.1, tms_mono h z.2⟩
end
/-- a value that may be shown and whose texts are short -/
def Gm (D : Deck) (H : Hp) (W B m : Nat) (v : V) : Prop := ∃ d : PyData, DQ D H v d ∧ gd d = true ∧ tm m d = true ∧ wt d ≤ W ∧ d.depth ≤ B
/-- a changed value: dep levels deep -/
def spChanged (N : Nat) : Sp := fun vs H Q _ => ∃ (D : Deck) (n m dep : Nat) (v : V) (d : PyData), vs = [.ref D.dk, v, .int (dep : Int)] ∧ DeckOk H D n ∧ n + 2 * dep + 20 ≤ 900000 ∧ DQ D H v d ∧ gd d = true ∧ tm m d = true ∧ m ≤ 5 ∧ wt d ≤ 200000 ∧ d.depth ≤ 30 ∧ dep < N ∧
  ∀ (v' : V) (n' : Nat) (H' : Hp), DeckOk H' D n' → n' ≤ n + 2 * dep + 6 → SameD D H H' → Gm D H' (2 * wt d + 20000) (d.depth + 3) (m + 1) v' → Q v' H'
theorem tm_int {m : Nat} (hm : m ≤ 5) {i : Int} (h : tm m (.int i) = true) : gd (.int i) = true := by
  simp only [tm, Bool.and_eq_true, decide_eq_true_eq] at h
  refine okI_gd ?_
  unfold okI
  rw [decide_eq_true (by omega), decide_eq_true (by have : (10 : Int) ^ 29 + 5 < 10 ^ 30 := by decide
                                                    omega)]
  rfl
/-- a text of ascii signs, not longer than 20 + m -/
def Asc (m : Nat) (x : Str) : Prop := x.length ≤ 20 + m ∧ ∀ c ∈ x.cps.toList, c < 128
theorem Asc.gd {m : Nat} {x : Str} (h : Asc m x) (hm : m ≤ 70) : gd (.str x) = true ∧ tm m (.str x) = true := by
  refine ⟨?_, ?_⟩
  · refine okS_gd ?_
    unfold okS
    rw [decide_eq_true (by have := h.1; omega), Bool.true_and, List.all_eq_true]
    exact fun c hc => decide_eq_true (h.2 c hc)
  · simp only [tm, decide_eq_true_eq]
    exact h.1
theorem asc_tx {m : Nat} {l : List Nat} (h : l.length ≤ 20 + m) (a : ∀ c ∈ l, c < 128) : Asc m (tx l) := ⟨h, a⟩
theorem odds_tm : odds.all (tm 0) = true := by decide +kernel
theorem Gm.sameD {D : Deck} {H H' : Hp} {W B m : Nat} {v : V} (s : SameD D H H') (h : Gm D H W B m v) : Gm D H' W B m v := by
  obtain ⟨d, h1, h2⟩ := h
  exact ⟨d, dq_sameD s h1, h2⟩
theorem Gm.mono {D : Deck} {H : Hp} {W B m W' B' m' : Nat} {v : V} (h : Gm D H W B m v) (hw : W ≤ W') (hb : B ≤ B') (hm : m ≤ m') : Gm D H W' B' m' v := by
  obtain ⟨d, h1, h2, h3, h4, h5⟩ := h
  exact ⟨d, h1, h2, tm_mono hm h3, Nat.le_trans h4 hw, Nat.le_trans h5 hb⟩
theorem at_at {xs : List V} {i : Int} {v : V} (h0 : 0 ≤ i) (h : xs[i.toNat]? = some v) : atI xs i = some v := by
  have e : i = ((i.toNat : Nat) : Int) := by omega
  rw [e]
  exact atI_nat h
theorem pick_good {D : Deck} {H : Hp} {xs : List V} {ds : List PyData} {i : Nat} {v : V} {W B m : Nat} (al : DQAll D H xs ds) (h : ∀ d ∈ ds, gd d = true ∧ tm m d = true ∧ wt d ≤ W ∧ d.depth ≤ B) (hv : xs[i]? = some v) : Gm D H W B m v := by
  obtain ⟨d, hd, hq⟩ := dqAll_get al hv
  exact ⟨d, hq, h d (List.mem_of_getElem? hd)⟩
theorem cut_tx (l : List Nat) (lo hi : Option Int) : ∃ i j, cutS (tx l) lo hi = tx ((l.drop i).take j) := ⟨_, _, rfl⟩
theorem asc_good {m : Nat} {x : Str} (h : Asc m x) (hm : m ≤ 70) {W B : Nat} (hW : 902 ≤ W) : gd (.str x) = true ∧ tm m (.str x) = true ∧ wt (.str x) ≤ W ∧ (PyData.str x).depth ≤ B := by
  obtain ⟨h1, h2⟩ := h.gd hm
  exact ⟨h1, h2, by simp only [wt]; exact hW, by simp only [PyData.depth]; exact Nat.zero_le _⟩
theorem seq_cut {t u : TS} {D : Ends} {σ : L2.St} {H : Hp} (I : L2.St → Hp → Prop) (h2 : ∀ σ' H', I σ' H' → u D σ' H') (h1 : (∀ σ' H', I σ' H' → u D σ' H') → t { D with nx := u D } σ H) : tSeq t u D σ H := h1 h2
theorem seq_cutN {t u : TS} {D : Ends} {r1 : VK} {r2 r3 : L2.St → Hp → Prop} {σ : L2.St} {H : Hp} (I : L2.St → Hp → Prop) (h2 : ∀ σ' H', I σ' H' → u D σ' H') (h1 : (∀ σ' H', I σ' H' → u D σ' H') → t { D with nx := u D } σ H) : (Ends.mk (tSeq t u D) r1 r2 r3).nx σ H := h1 h2
/-! ### ints and bools: v + 1, v - 1 -/
theorem op_addV {X : Cx} : OpR X (binaryOp .Add) (fun x y H Q => ∃ j : Int, y = .int j ∧ ((∃ i : Int, x = .int i ∧ Q (.int (i + j)) H) ∨ ∃ b, x = .bl b ∧ Q (.int (b2i b + j)) H)) := by
  intro pins s σ H x y v u Q I rx ry h
  obtain ⟨j, rfl, ⟨i, rfl, q⟩ | ⟨b, rfl, q⟩⟩ := h
  · exact op_add pins s σ H _ _ v u Q I rx ry ⟨i, j, rfl, rfl, q⟩
  · cases rx
    obtain ⟨t, rfl⟩ := ry
    exact PySem.IntBool.add_bool_int ⟨.int (b2i b + j), H, I.tok _, ⟨_, rfl⟩, q⟩
theorem op_subV {X : Cx} : OpR X (binaryOp .Sub) (fun x y H Q => ∃ j : Int, y = .int j ∧ ((∃ i : Int, x = .int i ∧ Q (.int (i - j)) H) ∨ ∃ b, x = .bl b ∧ Q (.int (b2i b - j)) H)) := by
  intro pins s σ H x y v u Q I rx ry h
  obtain ⟨j, rfl, ⟨i, rfl, q⟩ | ⟨b, rfl, q⟩⟩ := h
  · exact op_sub pins s σ H _ _ v u Q I rx ry ⟨i, j, rfl, rfl, q⟩
  · cases rx
    obtain ⟨t, rfl⟩ := ry
    exact PySem.IntBool.sub_bool_int ⟨.int (b2i b - j), H, I.tok _, ⟨_, rfl⟩, q⟩
theorem op_eqI {X : Cx} : OpR X (compareOp .Eq) (fun x y H Q => ∃ j : Int, y = .int j ∧ ((∃ i : Int, x = .int i ∧ Q (.bl (decide (i = j))) H) ∨ ∃ b, x = .bl b ∧ Q (.bl (b2i b == j)) H)) := by
  intro pins s σ H x y v u Q I rx ry h
  obtain ⟨j, rfl, ⟨i, rfl, q⟩ | ⟨b, rfl, q⟩⟩ := h
  · refine op_eq pins s σ H _ _ v u Q I rx ry ⟨rfl, ?_⟩
    rw [dec_int]
    exact (Bool.beq_eq_decide_eq i j).symm ▸ q
  · cases rx
    obtain ⟨t, rfl⟩ := ry
    exact PySem.EqBoolInt.eq_bool_int ⟨.bl (b2i b == j), H, I, rfl, q⟩
/-! ### _law_changed -/
section
variable {P : Program} {w : World} {K : PySem.W.Frag} {mg : Str → Option Value} {base : Heap} {f : Addr} {fd : FuncData}
theorem ok_changed (F : Fun K "_law_changed" "_law_changed" s__law_changed f fd) (b : Binds K fd ["_law_deck_here", "_law_value", "_law_depth"] []) (g0 : mg "_law_changed" = some (.ref f)) (M : Mgs mg) (D_law_draw : Df P w K mg base 1 "_law_draw" ["_law_deck_here", "_law_many"] spDraw)
    (D_law_pick : Df P w K mg base 2 "_law_pick" ["_law_deck_here", "_law_items"] (spPick K)) (D_law_odd : Df P w K mg base 3 "_law_odd" ["_law_deck_here"] spOdd) : ∀ n : Nat, FnOk P w K mg base CX0 (n + 4) f fd ["_law_deck_here", "_law_value", "_law_depth"] (spChanged n)
  | 0 => by
    have no : ∀ vs H Q E, ¬ spChanged 0 vs H Q E := fun vs H Q E h => by
      obtain ⟨D, n, m, dep, v, d, _, _, _, _, _, _, _, _, _, h1, _⟩ := h
      exact absurd h1 (Nat.not_lt_zero _)
    exact ⟨fun vs H Q E h => absurd h (no vs H Q E), fun A outer s H args us vs Q E _ _ _ _ h => absurd h (no vs H Q E)⟩
  | N + 1 => by
    have Dself : Df P w K mg base (N + 4) "_law_changed" ["_law_deck_here", "_law_value", "_law_depth"] (spChanged N) := ⟨f, fd, ok_changed F b g0 M D_law_draw D_law_pick D_law_odd N, b, F.kp, g0⟩
    refine F.ok (k := N + 4) sc__law_changed (fun vs H Q E h => ?_) (fun cdv A outer s H vs Q E hr h => ?_)
    · obtain ⟨D, n, m, dep, v, d, rfl, _⟩ := h
      rfl
    obtain ⟨D, n, m, dep, v, d, rfl, dk, hn, hd, g, ht, hm, hw, hdp, hN, q⟩ := h
    have big : (400000 : Nat) ≤ sizeLine := by decide
    refine ⟨_, (pss_cons (ps_if (PW.pt (pw_and (pt_cmpR op_gt (pv 2) pe_int (nomark _)) (pw_and (pt_val (pe_callB call_isi rfl M.isinstance (by decide +kernel) (pa_cons (pv 1) (pa_cons (pe_bltn (v := .ty "tuple") rfl M.tuple (by decide +kernel) rfl) pa_nil)))) (pw_and (pt_cmpR (op_neE hr.units0) (pv 1) (pe_tup pa_nil) (nomark _)) (pw_and1 (pt_cmpR op_gt (pe_call D_law_draw.ok (hr.mono (by omega)) rfl D_law_draw.g D_law_draw.kp D_law_draw.b .nil pass0 (pa_cons (pv 0) (pa_cons pe_int pa_nil))) pe_int (nomark _)))))))
      (pss_cons (ps_set (i := 3) sc__law_changed.nd rfl (.inl rfl) (pe_call D_law_draw.ok (hr.mono (by omega)) rfl D_law_draw.g D_law_draw.kp D_law_draw.b .nil pass0 (pa_cons (pv 0) (pa_cons (pe_callB call_len_seq rfl M.len PySem.boot_len (pa_cons (pv 1) pa_nil)) pa_nil))))
    (pss_cons (ps_set (i := 4) sc__law_changed.nd rfl (.inl rfl) (pe_call Dself.ok (hr.mono (by omega)) rfl Dself.g Dself.kp Dself.b .nil pass0 (pa_cons (pv 0) (pa_cons (pe_ix ix_tup (pv 1) (pv 3) (fun _ _ => rfl)) (pa_cons (pe_op op_sub (pv 2) pe_int) pa_nil)))))
    (pss_one (ps_ret (pe_op op_catA (pe_op op_catA (pe_slice sl_tupA (pv 1) po_none (po_some (pv 3))) (pe_tup (pa_cons (pv 4) pa_nil))) (pe_slice sl_tupA (pv 1) (po_some (pe_op op_add (pv 3) pe_int)) po_none)))))) pss_nil)
    (pss_cons (ps_set (i := 5) sc__law_changed.nd rfl (.inl rfl) (pe_lst (pa_cons (pe_call D_law_odd.ok (hr.mono (by omega)) rfl D_law_odd.g D_law_odd.kp D_law_odd.b .nil pass0 (pa_cons (pv 0) pa_nil)) (pa_cons (pe_call D_law_odd.ok (hr.mono (by omega)) rfl D_law_odd.g D_law_odd.kp D_law_odd.b .nil pass0 (pa_cons (pv 0) pa_nil)) pa_nil))))
    (pss_cons (ps_if (pt_val (pe_callB call_isi rfl M.isinstance (by decide +kernel) (pa_cons (pv 1) (pa_cons (pe_bltn (v := .ty "tuple") rfl M.tuple (by decide +kernel) rfl) pa_nil))))
      (pss_one (ps_set (i := 5) sc__law_changed.nd rfl (.inl rfl) (pe_op op_cat (pv 5) (pe_lst (pa_cons (pe_callTy call_list_of rfl M.list (by decide +kernel) (pa_cons (pv 1) pa_nil)) (pa_cons (pe_slice sl_tupA (pv 1) (po_some pe_int) po_none) (pa_cons (pe_op op_catA (pv 1) (pe_slice sl_tupA (pv 1) (po_some (pe_un un_neg pe_int)) po_none)) (pa_cons (pe_revT (pv 1)) (pa_cons (pe_tup (pa_cons (pv 1) pa_nil)) pa_nil))))))))) (pss_one (ps_if (pt_val (pe_callB call_isi rfl M.isinstance (by decide +kernel) (pa_cons (pv 1) (pa_cons (pe_bltn (v := .ty "str") rfl M.str (by decide +kernel) rfl) pa_nil))))
      (pss_one (ps_set (i := 5) sc__law_changed.nd rfl (.inl rfl) (pe_op op_cat (pv 5) (pe_lst (pa_cons (pe_op op_add_str (pv 1) pe_str) (pa_cons (pe_op op_add_str (pv 1) pe_str) (pa_cons (pe_slice sl_str (pv 1) po_none (po_some (pe_un un_neg pe_int))) (pa_cons (pe_op op_add_str pe_str (pv 1)) (pa_cons (pe_op op_add_str (pv 1) pe_str) pa_nil))))))))) (pss_one (ps_if (pt_val (pe_callB call_isi rfl M.isinstance (by decide +kernel) (pa_cons (pv 1) (pa_cons (pe_bltn (v := .ty "int") rfl M.int (by decide +kernel) rfl) pa_nil))))
      (pss_one (ps_set (i := 5) sc__law_changed.nd rfl (.inl rfl) (pe_op op_cat (pv 5) (pe_lst (pa_cons (pe_op op_addV (pv 1) pe_int) (pa_cons (pe_op op_subV (pv 1) pe_int) (pa_cons (pe_cmpR op_eqI (pv 1) pe_int (nomark _)) (pa_cons (pe_cmpR op_eqI (pv 1) pe_int (nomark _)) pa_nil)))))))) pss_nil)))))
    (pss_one (ps_ret (pe_call D_law_pick.ok (hr.mono (by omega)) rfl D_law_pick.g D_law_pick.kp D_law_pick.b .nil pass0 (pa_cons (pv 0) (pa_cons (pv 5) pa_nil)))))))), ?_⟩
    refine seq_cut (fun σ H' => σ = [some (.ref D.dk), some v, some (.int (dep : Int)), none, none, none] ∧ ∃ n1, DeckOk H' D n1 ∧ n1 ≤ n + 1 ∧ SameD D H H') (fun σ H' hq => ?_) (fun rest => ?_)
    rotate_left
    · -- one part of it
      refine ⟨_, rfl, _, _, rfl, rfl, _, rfl, ?_⟩
      by_cases hdep : (0 : Int) < (dep : Int)
      · rw [decide_eq_true hdep]
        refine iteT ?_
        refine ⟨_, rfl, _, _, _, _, isTupD d, rfl, .ty _, dq_ty hd, kit_ty (kit_tup d), _, rfl, ?_⟩
        cases hd with
        | @tup a xs ds o e al =>
          refine iteT ?_
          have hl := dqAll_len al
          have hwl := wts_len ds
          simp only [wt] at hw
          simp only [gd] at g
          simp only [tm] at ht
          refine ⟨_, rfl, (by show 0 ≤ sizeLine; decide), fun e0 ne0 => ?_⟩
          have qe := same_new ne0 (.tup [])
          have de := dk.same qe
          have ee := qe _ _ e
          refine ⟨a, e0, xs, rfl, rfl, SqT.of ee, SqT.of upd_same, _, rfl, ?_⟩
          generalize upd H e0 (.tup []) = H0 at qe de ee ⊢
          by_cases hxs : xs = []
          · have he : xs.isEmpty = true := by rw [hxs]; rfl
            rw [he]
            exact iteF (rest _ _ ⟨rfl, n, de, Nat.le_succ _, SameD.of qe⟩)
          · have he : xs.isEmpty = false := by cases xs <;> first | rfl | exact absurd rfl hxs
            have x1 : 1 ≤ xs.length := by
              cases xs with
              | nil => exact absurd rfl hxs
              | cons _ _ => exact Nat.succ_pos _
            rw [he]
            refine iteT ?_
            refine ⟨_, rfl, D, n, 6, rfl, de, by omega, by decide, by decide, fun i H1 i0 i1 d1 s1' => ?_⟩
            have s1 := (SameD.of qe).trans s1'
            have e1 := s1.at o e
            refine ⟨_, _, rfl, rfl, _, rfl, ?_⟩
            by_cases hc : (0 : Int) < i
            · rw [decide_eq_true hc]
              refine iteT ?_
              refine ⟨_, rfl, _, rfl, a, xs, rfl, .inr (SqT.of e1), D, n + 1, _, rfl, d1, by omega, by omega, by omega, fun j H2 j0 j1 d2 s2 => ?_⟩
              have e2 := s2.at o e1
              have hj : j.toNat < xs.length := by omega
              have ej : j = ((j.toNat : Nat) : Int) := by omega
              obtain ⟨dj, edj, hdj⟩ := dqAll_get al (List.getElem?_eq_getElem hj)
              have wj := wt_get edj
              have gj := gd_get edj g
              have tj := tm_get edj ht
              have pj := depth_get2 edj
              simp only [PyData.depth] at hdp q
              refine ⟨_, rfl, _, rfl, _, rfl, a, xs, j, xs[j.toNat], rfl, rfl, SqT.of e2, at_at j0 (List.getElem?_eq_getElem hj), ?_⟩
              have s3 := s1.trans s2
              refine ⟨_, rfl, _, _, rfl, rfl, D, n + 1 + 1, m, dep - 1, xs[j.toNat], dj, ?_, d2, by omega, dq_sameD s3 hdj, gj, tj, hm, by omega, by omega, by omega, fun v' n' H4 d4 hn' s4 gv => ?_⟩
              · show [V.ref D.dk, xs[j.toNat], V.int ((dep : Int) - 1)] = [V.ref D.dk, xs[j.toNat], V.int ((dep - 1 : Nat) : Int)]
                rw [show ((dep - 1 : Nat) : Int) = (dep : Int) - 1 by omega]
              · obtain ⟨d', hd', gd', td', wd', pd'⟩ := gv
                have s24 := s3.trans s4
                have e4 := s24.at o e
                refine ⟨_, rfl, _, rfl, j, rfl, slA_of d4 e4 o fun p1 H5 t5 x1' o1 => ?_⟩
                rw [ej, cut_to] at x1'
                have d5 := d4.same t5
                refine ⟨_, rfl, (by show 1 ≤ sizeLine; decide), fun p2 np2 => ?_⟩
                have q2 := same_new np2 (.tup [v'])
                have d6 := d5.same q2
                have o2 := d5.new np2
                have k1 : (xs.take j.toNat).length ≤ xs.length := by rw [List.length_take]; omega
                refine catA_of d6 (q2 _ _ x1') o1 upd_same o2 (by show (xs.take j.toNat).length + 1 ≤ sizeLine; omega) fun p3 H7 t7 x3 o3 => ?_
                have d7 := d6.same t7
                have s7 := s24.trans (SameD.of (t5.trans (q2.trans t7)))
                have e7 := s7.at o e
                refine ⟨_, rfl, _, rfl, _, _, rfl, rfl, _, rfl, ?_⟩
                dsimp only [tNoPart]
                refine slA_of d7 e7 o fun p4 H8 t8 x4 o4 => ?_
                rw [show cutV xs (some (j + 1)) none = xs.drop (j.toNat + 1) by rw [show j + 1 = ((j.toNat + 1 : Nat) : Int) by omega, cut_from]] at x4
                have d8 := d7.same t8
                have k2 : (xs.drop (j.toNat + 1)).length ≤ xs.length := by rw [List.length_drop]; omega
                refine catA_of d8 (t8 _ _ x3) o3 x4 o4 (by rw [List.length_append]; show (xs.take j.toNat).length + 1 + _ ≤ sizeLine; omega) fun p5 H9 t9 x5 o5 => ?_
                have s9 := s7.trans (SameD.of (t8.trans t9))
                have al9 := dqAll_sameD s9 al
                have parts := dqAll_take j.toNat al9
                have parts2 := dqAll_take (j.toNat + 1) al9
                have hv9 : DQ D H9 v' d' := dq_same ((t5.trans (q2.trans t7)).trans (t8.trans t9)) hd'
                have f5 : DQ D H9 (.ref p5) (.tuple ((ds.take j.toNat ++ [d']) ++ ds.drop (j.toNat + 1))) := .tup o5 x5 (dqAll_app (dqAll_app parts.1 (.cons hv9 .nil)) parts2.2)
                have u1 := depthAll_parts ds j.toNat
                have u2 := depthAll_parts ds (j.toNat + 1)
                have u3 := gds_parts j.toNat g
                have u4 := gds_parts (j.toNat + 1) g
                have u5 := tms_parts j.toNat (tms_mono (Nat.le_succ m) ht)
                have u6 := tms_parts (j.toNat + 1) (tms_mono (Nat.le_succ m) ht)
                refine q _ n' H9 (d8.same t9) (by omega) s9 ⟨_, f5, ?_, ?_, ?_, ?_⟩
                · simp only [Tw.gd]
                  rw [gds_app, gds_app, u3.1, u4.2]
                  simp only [gds, gd', Bool.and_self]
                · simp only [tm]
                  rw [tms_app, tms_app, u5.1, u6.2]
                  simp only [tms, td', Bool.and_self]
                · simp only [wt]
                  rw [wts_app, wts_app]
                  simp only [wts]
                  omega
                · simp only [PyData.depth]
                  rw [depthAll_app, depthAll_app]
                  simp only [PyData.depthAll]
                  omega
            · rw [decide_eq_false hc]
              exact iteF (rest _ _ ⟨rfl, n + 1, d1, Nat.le_refl _, s1⟩)
        | _ => exact iteF (rest _ _ ⟨rfl, n, dk, Nat.le_succ _, SameD.refl _ _⟩)
      · rw [decide_eq_false hdep]
        exact iteF (rest _ _ ⟨rfl, n, dk, Nat.le_succ _, SameD.refl _ _⟩)
    · -- the whole
      obtain ⟨rfl, n1, d1, hn1, s1⟩ := hq
      refine ⟨_, rfl, D, n1, rfl, d1, by omega, fun va da Ha ha ga wa pa ma da1 sa => ?_⟩
      refine ⟨_, rfl, D, n1 + 1, rfl, da1, by omega, fun vb db Hb hb gb wb pb mb db1 sb => ?_⟩
      refine ⟨(by show 2 ≤ sizeLine; decide), fun L nL => ?_⟩
      have tL := same_new nL (.lst [va, vb])
      have eL := upd_same (H := Hb) (a := L) (o := .lst [va, vb])
      have oL := db1.new nL
      have dL := db1.same tL
      have sL := s1.trans (sa.trans (sb.trans (SameD.of tL)))
      have hdL := dq_sameD sL hd
      have GA : Gm D (upd Hb L (.lst [va, vb])) (2 * wt d + 20000) (d.depth + 3) (m + 1) va := ⟨da, dq_sameD (sb.trans (SameD.of tL)) ha, ga, tm_mono (Nat.zero_le _) (List.all_eq_true.mp odds_tm da ma), by omega, by omega⟩
      have GB : Gm D (upd Hb L (.lst [va, vb])) (2 * wt d + 20000) (d.depth + 3) (m + 1) vb := ⟨db, dq_same tL hb, gb, tm_mono (Nat.zero_le _) (List.all_eq_true.mp odds_tm db mb), by omega, by omega⟩
      generalize upd Hb L (.lst [va, vb]) = H0 at tL eL dL sL hdL GA GB ⊢
      refine seq_cutN (fun σ H' => ∃ (C : Addr) (ys : List V), σ = [some (.ref D.dk), some v, some (.int (dep : Int)), none, none, some (.ref C)] ∧ H' C = some (.lst ys) ∧ Off D C ∧ DeckOk H' D (n1 + 1 + 1) ∧ ys ≠ [] ∧ ys.length ≤ 60 ∧ SameD D H H' ∧ ∀ y ∈ ys, Gm D H' (2 * wt d + 20000) (d.depth + 3) (m + 1) y) (fun σ H' hp => ?_) (fun rest => ?_)
      · obtain ⟨C, ys, rfl, eC, oC, dC, ne, yl, sC, all⟩ := hp
        refine ⟨_, rfl, _, rfl, D, n1 + 1 + 1, _, rfl, dC, by omega, .inr ⟨C, ys, rfl, eC, oC, ne, yl, fun x Hx hx dx sx => ?_⟩⟩
        exact q x _ Hx dx (by omega) (sC.trans sx) ((all x hx).sameD sx)
      · have plain := rest [some (.ref D.dk), some v, some (.int (dep : Int)), none, none, some (.ref L)] H0 ⟨L, _, rfl, eL, oL, dL, by simp, (by show 2 ≤ 60; decide), sL, fun y hy => by
          simp only [List.mem_cons, List.not_mem_nil, or_false] at hy
          rcases hy with rfl | rfl
          · exact GA
          · exact GB⟩
        have fin : ∀ (zs : List V) (H2 : Hp) (M C : Addr), Same H0 H2 → H2 M = none → (upd H2 M (.lst zs)) C = none → zs.length ≤ 20 → (∀ z ∈ zs, Gm D H2 (2 * wt d + 20000) (d.depth + 3) (m + 1) z) → ∃ (C' : Addr) (ys : List V), [some (.ref D.dk), some v, some (.int (dep : Int)), none, none, some (.ref C)] = [some (.ref D.dk), some v, some (.int (dep : Int)), none, none, some (.ref C')] ∧ (upd (upd H2 M (.lst zs)) C (.lst ([va, vb] ++ zs))) C' = some (.lst ys) ∧ Off D C' ∧ DeckOk (upd (upd H2 M (.lst zs)) C (.lst ([va, vb] ++ zs))) D (n1 + 1 + 1) ∧ ys ≠ [] ∧ ys.length ≤ 60 ∧ SameD D H (upd (upd H2 M (.lst zs)) C (.lst ([va, vb] ++ zs))) ∧ ∀ y ∈ ys, Gm D (upd (upd H2 M (.lst zs)) C (.lst ([va, vb] ++ zs))) (2 * wt d + 20000) (d.depth + 3) (m + 1) y := fun zs H2 M C s02 nM nC zl al => by
          have tM := same_new nM (.lst zs)
          have tC := same_new nC (.lst ([va, vb] ++ zs))
          have d2 := dL.same s02
          have d3 := d2.same tM
          refine ⟨C, [va, vb] ++ zs, rfl, upd_same, d3.new nC, d3.same tC, by simp, ?_, sL.trans (SameD.of (s02.trans (tM.trans tC))), fun y hy => ?_⟩
          · rw [List.length_append]
            show 2 + zs.length ≤ 60
            omega
          · rcases List.mem_append.mp hy with hy | hy
            · simp only [List.mem_cons, List.not_mem_nil, or_false] at hy
              rcases hy with rfl | rfl
              · exact GA.sameD (SameD.of (s02.trans (tM.trans tC)))
              · exact GB.sameD (SameD.of (s02.trans (tM.trans tC)))
            · exact (al y hy).sameD (SameD.of (tM.trans tC))
        have gI : ∀ {H' : Hp} {k : Int}, -1 - ((m + 1 : Nat) : Int) ≤ k → k ≤ 10 ^ 29 + ((m + 1 : Nat) : Int) → Gm D H' (2 * wt d + 20000) (d.depth + 3) (m + 1) (.int k) := fun {H' k} h1 h2 => by
          have ht' : tm (m + 1) (.int k) = true := by
            simp only [tm, Bool.and_eq_true, decide_eq_true_eq]
            exact ⟨h1, h2⟩
          refine ⟨.int k, .int k, ?_, ht', by simp only [wt]; omega, by simp only [PyData.depth]; omega⟩
          refine okI_gd ?_
          unfold okI
          rw [decide_eq_true (by omega), decide_eq_true (by have : (10 : Int) ^ 29 + 6 < 10 ^ 30 := by decide
                                                            omega)]
          rfl
        have gB : ∀ {H' : Hp} (k : Bool), Gm D H' (2 * wt d + 20000) (d.depth + 3) (m + 1) (.bl k) := fun {H'} k => ⟨.bool k, .bl k, rfl, rfl, by simp only [wt]; omega, by simp only [PyData.depth]; omega⟩
        refine ⟨_, rfl, _, _, _, _, isTupD d, rfl, .ty _, dq_ty hdL, kit_ty (kit_tup d), _, rfl, ?_⟩
        have hd0 := hdL
        cases hdL with
        | @tup a xs ds o e al =>
          refine iteT ?_
          have hl := dqAll_len al
          have hwl := wts_len ds
          have hw' := hw
          simp only [wt] at hw'
          simp only [Tw.gd] at g
          simp only [tm] at ht
          refine ⟨_, rfl, _, rfl, a, xs, rfl, .inr (SqT.of e), fun p1 np1 => ?_⟩
          have t1 := same_new np1 (.lst xs)
          have x1 := upd_same (H := H0) (a := p1) (o := .lst xs)
          have o1 := dL.new np1
          generalize upd H0 p1 (.lst xs) = H1 at t1 x1 ⊢
          have d2 := dL.same t1
          have e2 := t1 _ _ e
          refine ⟨_, rfl, 1, rfl, ?_⟩
          dsimp only [tNoPart]
          refine slA_of d2 e2 o fun p2 H2 t2 x2 o2 => ?_
          have d3 := d2.same t2
          have e3 := t2 _ _ e2
          refine ⟨_, rfl, _, rfl, 1, rfl, -1, rfl, ?_⟩
          dsimp only [tNoPart]
          refine slA_of d3 e3 o fun p3 H3 t3 x3 o3 => ?_
          have d4 := d3.same t3
          have e4 := t3 _ _ e3
          refine catA_of d4 e4 o x3 o3 (by have := cutV_length xs (some (-1)) none; omega) fun p4 H4 t4 x4 o4 => ?_
          have d5 := d4.same t4
          have e5 := t4 _ _ e4
          refine ⟨_, rfl, a, xs, rfl, SqT.of e5, fun p5 np5 => ?_⟩
          have t5 := same_new np5 (.tup xs.reverse)
          have x5 := upd_same (H := H4) (a := p5) (o := .tup xs.reverse)
          have o5 := d5.new np5
          generalize upd H4 p5 (.tup xs.reverse) = H5 at t5 x5 ⊢
          have d6 := d5.same t5
          refine ⟨_, rfl, (by show 1 ≤ sizeLine; decide), fun p6 np6 => ?_⟩
          have t6 := same_new np6 (.tup [.ref a])
          have x6 := upd_same (H := H5) (a := p6) (o := .tup [.ref a])
          have o6 := d6.new np6
          generalize upd H5 p6 (.tup [.ref a]) = H6 at t6 x6 ⊢
          have z5 := t6
          have z4 := t5.trans z5
          have z3 := t4.trans z4
          have z2 := t3.trans z3
          have z1 := t2.trans z2
          have z0 := t1.trans z1
          refine ⟨(by show 5 ≤ sizeLine; decide), fun M nM => ?_⟩
          have tM := same_new nM (.lst [.ref p1, .ref p2, .ref p4, .ref p5, .ref p6])
          refine ⟨L, M, _, _, rfl, rfl, tM _ _ (z0 _ _ eL), upd_same, (by show 7 ≤ 16777216; decide), fun C nC => ?_⟩
          refine rest _ _ (fin _ _ M C z0 nM nC (by show 5 ≤ 20; decide) fun z hz => ?_)
          have alx := dqAll_same z0 al
          obtain ⟨r1, r2, r3⟩ := rev_ok ds
          have ht' := tms_mono (Nat.le_succ m) ht
          have part : ∀ (i j : Nat), gds ((ds.drop i).take j) = true ∧ tms (m + 1) ((ds.drop i).take j) = true ∧ wts ((ds.drop i).take j) ≤ wts ds ∧ PyData.depthAll ((ds.drop i).take j) ≤ PyData.depthAll ds := fun i j => by
            have a1 := gds_parts i g
            have a2 := gds_parts j a1.2
            have b1 := tms_parts i ht'
            have b2 := tms_parts j b1.2
            have c1 := wts_take ds i
            have c2 := wts_take (ds.drop i) j
            have e1 := depthAll_parts ds i
            have e2 := depthAll_parts (ds.drop i) j
            exact ⟨a2.1, b2.1, by omega, by omega⟩
          simp only [List.mem_cons, List.not_mem_nil, or_false] at hz
          rcases hz with rfl | rfl | rfl | rfl | rfl
          · refine ⟨.list ds, .lst o1 (z1 _ _ x1) alx, ?_⟩
            simp only [Tw.gd, tm, wt, PyData.depth]
            exact ⟨g, ht', by omega, by omega⟩
          · refine ⟨_, .tup o2 (z2 _ _ x2) (dqAll_take _ (dqAll_take _ alx).2).1, ?_⟩
            simp only [Tw.gd, tm, wt, PyData.depth]
            obtain ⟨a1, a2, a3, a4⟩ := part (HT.sIx xs.length 0 (some 1)) (HT.sIx xs.length xs.length none - HT.sIx xs.length 0 (some 1))
            exact ⟨a1, a2, by omega, by omega⟩
          · refine ⟨_, .tup o4 (z4 _ _ x4) (dqAll_app alx (dqAll_take _ (dqAll_take _ alx).2).1), ?_⟩
            simp only [Tw.gd, tm, wt, PyData.depth]
            obtain ⟨a1, a2, a3, a4⟩ := part (HT.sIx xs.length 0 (some (-1))) (HT.sIx xs.length xs.length none - HT.sIx xs.length 0 (some (-1)))
            rw [gds_app, tms_app, wts_app, depthAll_app, g, a1, ht', a2]
            exact ⟨rfl, rfl, by omega, by omega⟩
          · refine ⟨_, .tup o5 (z5 _ _ x5) (dqAll_rev alx), ?_⟩
            simp only [Tw.gd, tm, wt, PyData.depth]
            rw [r1, r2, r3, tms_rev]
            exact ⟨g, ht', by omega, by omega⟩
          · refine ⟨.tuple [.tuple ds], .tup o6 x6 (.cons (.tup o (z0 _ _ e) alx) .nil), ?_⟩
            simp only [Tw.gd, gds, tm, tms, wt, wts, PyData.depth, PyData.depthAll, g, ht']
            exact ⟨rfl, rfl, by omega, by omega⟩
        | str x =>
          refine iteF ⟨_, rfl, _, _, _, _, _, rfl, .ty _, dq_ty hd0, kit_ty (kit_str _), _, rfl, iteT ?_⟩
          have ga := (gd_str g).2
          simp only [tm, decide_eq_true_eq] at ht
          obtain ⟨l, rfl⟩ : ∃ l, x = tx l := ⟨x.cps.toList, rfl⟩
          have hl : l.length ≤ 20 + m := ht
          have ha : ∀ c ∈ l, c < 128 := ga
          have lz : (tx l).length ≤ sizeLine := by rw [tx_len]; omega
          obtain ⟨i, j, ec⟩ := cut_tx l none (some (-1))
          have e1 : tx l ++ Str.ofString "l" = tx (l ++ [108]) := by rw [show Str.ofString "l" = tx [108] by decide +kernel, tx_app]
          have e2 : tx l ++ Str.ofString "r" = tx (l ++ [114]) := by rw [show Str.ofString "r" = tx [114] by decide +kernel, tx_app]
          have e3 : Str.ofString "r" ++ tx l = tx (114 :: l) := by rw [show Str.ofString "r" = tx [114] by decide +kernel, tx_app]; rfl
          have e4 : tx l ++ Str.ofString "x" = tx (l ++ [120]) := by rw [show Str.ofString "x" = tx [120] by decide +kernel, tx_app]
          have one : ∀ s : String, (Str.ofString s).length ≤ 1 → (tx l).length + (Str.ofString s).length ≤ sizeLine ∧ (Str.ofString s).length + (tx l).length ≤ sizeLine := fun s h => by rw [tx_len]; omega
          refine ⟨_, rfl, _, rfl, _, _, rfl, rfl, (one "l" (by decide +kernel)).1, ?_⟩
          rw [e1]
          refine ⟨_, rfl, _, _, rfl, rfl, (one "r" (by decide +kernel)).1, ?_⟩
          rw [e2]
          refine ⟨_, rfl, 1, rfl, -1, rfl, tx l, rfl, lz, ?_⟩
          rw [ec]
          refine ⟨_, rfl, _, _, rfl, rfl, (one "r" (by decide +kernel)).2, ?_⟩
          rw [e3]
          refine ⟨_, rfl, _, _, rfl, rfl, (one "x" (by decide +kernel)).1, ?_⟩
          rw [e4]
          refine ⟨(by show 5 ≤ sizeLine; decide), fun M nM => ?_⟩
          have tM := same_new nM (.lst [.str (tx (l ++ [108])), .str (tx (l ++ [114])), .str (tx ((l.drop i).take j)), .str (tx (114 :: l)), .str (tx (l ++ [120]))])
          refine ⟨L, M, _, _, rfl, rfl, tM _ _ eL, upd_same, (by show 7 ≤ 16777216; decide), fun C nC => ?_⟩
          refine rest _ _ (fin _ _ M C (Same.refl H0) nM nC (by show 5 ≤ 20; decide) fun z hz => ?_)
          have G : ∀ {k : List Nat}, k.length ≤ 20 + (m + 1) → (∀ c ∈ k, c < 128) → Gm D H0 (2 * wt (.str (tx l)) + 20000) ((PyData.str (tx l)).depth + 3) (m + 1) (.str (tx k)) := fun {k} h1 h2 => by
            have := (asc_tx (m := m + 1) h1 h2).gd (by omega)
            exact ⟨.str (tx k), .str _, this.1, this.2, by simp only [wt]; omega, by simp only [PyData.depth]; omega⟩
          have plus : ∀ (c : Nat), c < 128 → Gm D H0 (2 * wt (.str (tx l)) + 20000) ((PyData.str (tx l)).depth + 3) (m + 1) (.str (tx (l ++ [c]))) := fun c hc => G (by rw [List.length_append]; show _ + 1 ≤ _; omega) fun e he => by
            rcases List.mem_append.mp he with h | h
            · exact ha e h
            · rw [List.mem_singleton.mp h]; exact hc
          simp only [List.mem_cons, List.not_mem_nil, or_false] at hz
          rcases hz with rfl | rfl | rfl | rfl | rfl
          · exact plus 108 (by decide)
          · exact plus 114 (by decide)
          · exact G (by rw [List.length_take, List.length_drop]; omega) fun c hc => ha c (List.mem_of_mem_drop (List.mem_of_mem_take hc))
          · exact G (by rw [List.length_cons]; omega) fun c hc => by
              rcases List.mem_cons.mp hc with rfl | h
              · decide
              · exact ha c h
          · exact plus 120 (by decide)
        | int i =>
          refine iteF ⟨_, rfl, _, _, _, _, _, rfl, .ty _, dq_ty hd0, kit_ty (kit_str _), _, rfl, iteF ⟨_, rfl, _, _, _, _, _, rfl, .ty _, dq_ty hd0, kit_ty (kit_int _), _, rfl, iteT ?_⟩⟩
          refine ⟨_, rfl, _, rfl, 1, rfl, .inl ⟨i, rfl, _, rfl, 1, rfl, .inl ⟨i, rfl, _, rfl, 1, rfl, .inl ⟨i, rfl, _, rfl, 0, rfl, .inl ⟨i, rfl, (by show 4 ≤ sizeLine; decide), fun M nM => ?_⟩⟩⟩⟩⟩
          have tM := same_new nM (.lst [.int (i + 1), .int (i - 1), .bl (decide (i = 1)), .bl (decide (i = 0))])
          refine ⟨L, M, _, _, rfl, rfl, tM _ _ eL, upd_same, (by show 6 ≤ 16777216; decide), fun C nC => ?_⟩
          refine rest _ _ (fin _ _ M C (Same.refl H0) nM nC (by show 4 ≤ 20; decide) fun z hz => ?_)
          simp only [tm, Bool.and_eq_true, decide_eq_true_eq] at ht
          simp only [List.mem_cons, List.not_mem_nil, or_false] at hz
          rcases hz with rfl | rfl | rfl | rfl
          · exact gI (by omega) (by omega)
          · exact gI (by omega) (by omega)
          · exact gB _
          · exact gB _
        | bl b =>
          refine iteF ⟨_, rfl, _, _, _, _, _, rfl, .ty _, dq_ty hd0, kit_ty (kit_str _), _, rfl, iteF ⟨_, rfl, _, _, _, _, _, rfl, .ty _, dq_ty hd0, kit_ty (kit_int _), _, rfl, iteT ?_⟩⟩
          refine ⟨_, rfl, _, rfl, 1, rfl, .inr ⟨b, rfl, _, rfl, 1, rfl, .inr ⟨b, rfl, _, rfl, 1, rfl, .inr ⟨b, rfl, _, rfl, 0, rfl, .inr ⟨b, rfl, (by show 4 ≤ sizeLine; decide), fun M nM => ?_⟩⟩⟩⟩⟩
          have tM := same_new nM (.lst [.int (b2i b + 1), .int (b2i b - 1), .bl (b2i b == 1), .bl (b2i b == 0)])
          refine ⟨L, M, _, _, rfl, rfl, tM _ _ eL, upd_same, (by show 6 ≤ 16777216; decide), fun C nC => ?_⟩
          refine rest _ _ (fin _ _ M C (Same.refl H0) nM nC (by show 4 ≤ 20; decide) fun z hz => ?_)
          have bb : 0 ≤ b2i b ∧ b2i b ≤ 1 := by cases b <;> decide
          simp only [List.mem_cons, List.not_mem_nil, or_false] at hz
          rcases hz with rfl | rfl | rfl | rfl
          · exact gI (by omega) (by omega)
          · exact gI (by omega) (by omega)
          · exact gB _
          · exact gB _
        | non => exact iteF ⟨_, rfl, _, _, _, _, _, rfl, .ty _, dq_ty hd0, kit_ty (kit_str _), _, rfl, iteF ⟨_, rfl, _, _, _, _, _, rfl, .ty _, dq_ty hd0, kit_ty (kit_int _), _, rfl, iteF plain⟩⟩
        | lst _ _ _ => exact iteF ⟨_, rfl, _, _, _, _, _, rfl, .ty _, dq_ty hd0, kit_ty (kit_str _), _, rfl, iteF ⟨_, rfl, _, _, _, _, _, rfl, .ty _, dq_ty hd0, kit_ty (kit_int _), _, rfl, iteF plain⟩⟩
        | emp _ _ => exact iteF ⟨_, rfl, _, _, _, _, _, rfl, .ty _, dq_ty hd0, kit_ty (kit_str _), _, rfl, iteF ⟨_, rfl, _, _, _, _, _, rfl, .ty _, dq_ty hd0, kit_ty (kit_int _), _, rfl, iteF plain⟩⟩
        | ent _ _ => exact iteF ⟨_, rfl, _, _, _, _, _, rfl, .ty _, dq_ty hd0, kit_ty (kit_str _), _, rfl, iteF ⟨_, rfl, _, _, _, _, _, rfl, .ty _, dq_ty hd0, kit_ty (kit_int _), _, rfl, iteF plain⟩⟩
end
/-! ### lists of good values -/
def Gl (D : Deck) (H : Hp) (W B m : Nat) (xs : List V) : Prop := ∃ ds : List PyData, DQAll D H xs ds ∧ gds ds = true ∧ tms m ds = true ∧ wts ds ≤ W ∧ PyData.depthAll ds ≤ B
theorem Gl.nil {D : Deck} {H : Hp} {W B m : Nat} : Gl D H W B m [] := ⟨[], .nil, by simp only [gds], by simp only [tms], by simp only [wts]; omega, by rw [dp_e]; omega⟩
theorem Gl.cons {D : Deck} {H : Hp} {W W' B m : Nat} {v : V} {xs : List V} (h : Gm D H W B m v) (a : Gl D H W' B m xs) : Gl D H (W + 2 + W') B m (v :: xs) := by
  obtain ⟨d, h1, h2, h3, h4, h5⟩ := h
  obtain ⟨ds, a1, a2, a3, a4, a5⟩ := a
  refine ⟨d :: ds, .cons h1 a1, ?_, ?_, ?_, ?_⟩
  · simp only [gds, h2, a2, Bool.and_self]
  · simp only [tms, h3, a3, Bool.and_self]
  · simp only [wts]; omega
  · rw [dp_c]; omega
theorem Gl.app {D : Deck} {H : Hp} {W W' B m : Nat} {xs ys : List V} (h : Gl D H W B m xs) (a : Gl D H W' B m ys) : Gl D H (W + W') B m (xs ++ ys) := by
  obtain ⟨d, h1, h2, h3, h4, h5⟩ := h
  obtain ⟨ds, a1, a2, a3, a4, a5⟩ := a
  refine ⟨d ++ ds, dqAll_app h1 a1, ?_, ?_, ?_, ?_⟩
  · rw [gds_app, h2, a2]; rfl
  · rw [tms_app, h3, a3]; rfl
  · rw [wts_app]; omega
  · rw [depthAll_app]; omega
theorem Gl.rev {D : Deck} {H : Hp} {W B m : Nat} {xs : List V} (h : Gl D H W B m xs) : Gl D H W B m xs.reverse := by
  obtain ⟨d, h1, h2, h3, h4, h5⟩ := h
  obtain ⟨r1, r2, r3⟩ := rev_ok d
  exact ⟨d.reverse, dqAll_rev h1, r3.trans h2, (tms_rev d).trans h3, by omega, by omega⟩
theorem Gl.rep {D : Deck} {H : Hp} {W B m : Nat} {xs : List V} (h : Gl D H W B m xs) : ∀ k : Nat, Gl D H (k * W) B m (List.replicate k xs).flatten
  | 0 => .nil
  | k + 1 => by
    rw [List.replicate_succ, List.flatten_cons, show (k + 1) * W = W + k * W by rw [Nat.succ_mul]; omega]
    exact h.app (h.rep k)
theorem Gl.one {D : Deck} {H : Hp} {W B m : Nat} {v : V} (h : Gm D H W B m v) : Gl D H (W + 2) B m [v] := Gl.cons (W' := 0) h .nil
theorem Gl.mono {D : Deck} {H : Hp} {W W' B B' m : Nat} {xs : List V} (h : Gl D H W B m xs) (w : W ≤ W') (b : B ≤ B') : Gl D H W' B' m xs := by
  obtain ⟨d, h1, h2, h3, h4, h5⟩ := h
  exact ⟨d, h1, h2, h3, by omega, by omega⟩
theorem Gl.sameD {D : Deck} {H H' : Hp} {W B m : Nat} {xs : List V} (s : SameD D H H') (h : Gl D H W B m xs) : Gl D H' W B m xs := by
  obtain ⟨d, h1, h2⟩ := h
  exact ⟨d, dqAll_sameD s h1, h2⟩
theorem Gl.tup {D : Deck} {H : Hp} {W B m : Nat} {xs : List V} {a : Addr} (h : Gl D H W B m xs) (o : Off D a) (e : H a = some (.tup xs)) : Gm D H (W + 3) (B + 1) m (.ref a) := by
  obtain ⟨d, h1, h2, h3, h4, h5⟩ := h
  exact ⟨.tuple d, .tup o e h1, by simp only [gd]; exact h2, by simp only [tm]; exact h3, by simp only [wt]; omega, by rw [dp_t]; omega⟩
theorem Gl.lst {D : Deck} {H : Hp} {W B m : Nat} {xs : List V} {a : Addr} (h : Gl D H W B m xs) (o : Off D a) (e : H a = some (.lst xs)) : Gm D H (W + 3) (B + 1) m (.ref a) := by
  obtain ⟨d, h1, h2, h3, h4, h5⟩ := h
  exact ⟨.list d, .lst o e h1, by simp only [gd]; exact h2, by simp only [tm]; exact h3, by simp only [wt]; omega, by simp only [PyData.depth]; omega⟩
theorem Gm.non {D : Deck} {H : Hp} {B m : Nat} : Gm D H 4 B m .non := ⟨.none, .non, rfl, rfl, by simp only [wt]; omega, by simp only [PyData.depth]; omega⟩
theorem Gm.bl {D : Deck} {H : Hp} {B m : Nat} (b : Bool) : Gm D H 5 B m (.bl b) := ⟨.bool b, .bl b, rfl, rfl, by simp only [wt]; omega, by simp only [PyData.depth]; omega⟩
theorem Gm.int {D : Deck} {H : Hp} {B : Nat} {i : Int} (h1 : -1 ≤ i) (h2 : i ≤ 1000) : Gm D H 31 B 0 (.int i) := by
  have ht : tm 0 (.int i) = true := by
    simp only [tm, Bool.and_eq_true, decide_eq_true_eq]
    have : (1000 : Int) ≤ 10 ^ 29 := by decide
    omega
  exact ⟨.int i, .int i, tm_int (by omega) ht, ht, by simp only [wt]; omega, by simp only [PyData.depth]; omega⟩
theorem Gm.str {D : Deck} {H : Hp} {B : Nat} {x : Str} (h : Asc 0 x) : Gm D H 902 B 0 (.str x) := by
  obtain ⟨h1, h2⟩ := h.gd (m := 0) (by omega)
  exact ⟨.str x, .str x, h1, h2, by simp only [wt]; omega, by simp only [PyData.depth]; omega⟩
theorem Gm.same {D : Deck} {H H' : Hp} {W B m : Nat} {v : V} (s : Same H H') (h : Gm D H W B m v) : Gm D H' W B m v := h.sameD (SameD.of s)
theorem Gl.same {D : Deck} {H H' : Hp} {W B m : Nat} {v : List V} (s : Same H H') (h : Gl D H W B m v) : Gl D H' W B m v := h.sameD (SameD.of s)
/-! ### trees and nests are good -/
theorem ch_asc {c : Nat} (h : c < 128) : Asc 0 (ch c) := ⟨by show 1 ≤ 20 + 0; omega, fun z hz => by
  have : z = c := by simpa using hz
  omega⟩
theorem tree_gm {D : Deck} {H : Hp} {n : Nat} (dk : DeckOk H D n) {v : V} {t : B} (h : BAt H v t) (hl : ltB t) : Gm D H (920 * t.size + 4) (t.size + 0) 0 v := by
  induction h with
  | nil => exact Gm.non
  | @node a vl vr x l r e b1 b2 i1 i2 =>
    obtain ⟨c, r', h1, h2, h3, _⟩ := dk.ex
    have o : Off D a := ⟨ne_of e h1 (by intro z; cases z), ne_of e h2 (by intro z; cases z), ne_of e h3 (by intro z; cases z)⟩
    have j1 := i1 fun c hc => hl c (List.mem_cons_of_mem _ (List.mem_append_left _ hc))
    have j2 := i2 fun c hc => hl c (List.mem_cons_of_mem _ (List.mem_append_right _ hc))
    have hx := hl x List.mem_cons_self
    have jx : Gm D H 902 (l.size + r.size) 0 (.str (ch x)) := Gm.str (ch_asc (by omega))
    have g := (Gl.cons (j1.mono (Nat.le_refl _) (show _ ≤ l.size + r.size by omega) (Nat.le_refl _)) (Gl.cons jx (Gl.one (j2.mono (Nat.le_refl _) (show _ ≤ l.size + r.size by omega) (Nat.le_refl _))))).tup o e
    refine g.mono ?_ ?_ (Nat.le_refl _)
    · show _ ≤ 920 * (l.size + 1 + r.size) + 4
      omega
    · show _ ≤ (l.size + 1 + r.size) + 0
      omega
theorem links_gl {D : Deck} {H : Hp} {n : Nat} (dk : DeckOk H D n) {t : B} {N : Nat} (hN : N ≤ 20) (ht : t.deep ≤ 20) : ∀ {us : List V} {ls : List Lk}, LkAt H us ls → (∀ l ∈ ls, l.1 ∈ t.op) → (∀ l ∈ ls, l.2 < N) → Gl D H (942 * ls.length) 1 0 us
  | _, _, .nil, _, _ => .nil
  | _, _, @LkAt.cons _ a p i vs ls e k, h1, h2 => by
    have ih := links_gl dk hN ht k (fun l hl => h1 l (List.mem_cons_of_mem _ hl)) (fun l hl => h2 l (List.mem_cons_of_mem _ hl))
    obtain ⟨c, r', q1, q2, q3, _⟩ := dk.ex
    have o : Off D a := ⟨ne_of e q1 (by intro z; cases z), ne_of e q2 (by intro z; cases z), ne_of e q3 (by intro z; cases z)⟩
    have p1 := op_deep (h1 _ List.mem_cons_self)
    have p2 := op_signs t p (h1 _ List.mem_cons_self)
    have p3 : i < N := h2 _ List.mem_cons_self
    have p1 : p.length ≤ t.deep := p1
    have g := (Gl.cons (B := 0) (Gm.str (D := D) (H := H) (x := tx p) ⟨by rw [tx_len]; omega, fun z hz => by have := p2 z hz; omega⟩) (Gl.one (Gm.int (i := (i : Int)) (by omega) (by omega)))).tup o e
    refine ((Gl.cons (g.mono (W' := 940) (by omega) (Nat.le_refl _) (Nat.le_refl _)) ih).mono ?_ (Nat.le_refl _))
    show 940 + 2 + 942 * ls.length ≤ 942 * (ls.length + 1)
    omega
theorem entries_gl {D : Deck} {H : Hp} {n : Nat} (dk : DeckOk H D n) : ∀ {us : List V} {es : List En}, EnAt H us es → (∀ e ∈ es, ∃ n, n ≤ 20 ∧ GoodE 4 n e) → Gl D H (8500 * es.length) 6 0 us
  | _, _, .nil, _ => .nil
  | _, _, @EnAt.cons _ a la tv us t ls vs es e1 e2 e3 e4 k, h => by
    have ih := entries_gl dk k fun e he => h e (List.mem_cons_of_mem _ he)
    obtain ⟨N, hN, g⟩ := h _ List.mem_cons_self
    have td := t.deep_le
    have s2 : t.size ≤ 4 := g.s2
    have ll : ls.length ≤ 5 := by
      have h1 : (ls.map (·.1)).length ≤ t.op.length := nodup_le g.nd fun p hp => by
        obtain ⟨l, hl, rfl⟩ := List.mem_map.mp hp
        exact g.op l hl
      rw [List.length_map, t.op_len] at h1
      omega
    obtain ⟨c, r', q1, q2, q3, _⟩ := dk.ex
    have off : ∀ {b : Addr} {xs : List V}, H b = some (.tup xs) → Off D b := fun e => ⟨ne_of e q1 (by intro z; cases z), ne_of e q2 (by intro z; cases z), ne_of e q3 (by intro z; cases z)⟩
    have gt := tree_gm dk e2 g.lt
    have gk := (links_gl (t := t) dk hN (by omega) e4 g.op g.ix).tup (off e3) e3
    have ge := (Gl.cons (gt.mono (W' := 3700) (B' := 5) (by omega) (by omega) (Nat.le_refl _)) (Gl.one (gk.mono (W' := 4720) (B' := 5) (by omega) (by omega) (Nat.le_refl _)))).tup (off e1) e1
    refine (Gl.cons (ge.mono (W' := 8498) (B' := 6) (by omega) (Nat.le_refl _) (Nat.le_refl _)) ih).mono ?_ (Nat.le_refl _)
    show 8498 + 2 + 8500 * es.length ≤ 8500 * (es.length + 1)
    omega
/-! ### the heap without one object -/
def wo (H : Hp) (C : Addr) : Hp := fun a => if a = C then none else H a
theorem wo_same {H : Hp} {C : Addr} : Same (wo H C) H := fun b o h => by
  unfold wo at h
  by_cases e : b = C
  · rw [if_pos e] at h; cases h
  · rw [if_neg e] at h; exact h
theorem wo_at {H : Hp} {C b : Addr} (h : b ≠ C) : wo H C b = H b := if_neg h
theorem wo_mono {H H' : Hp} {C : Addr} (s : ∀ b o, b ≠ C → H b = some o → H' b = some o) : Same (wo H C) (wo H' C) := fun b o h => by
  by_cases e : b = C
  · subst e
    have : wo H b b = none := if_pos rfl
    rw [this] at h; cases h
  · rw [wo_at e] at h ⊢
    exact s b o e h
theorem wo_of {H H' : Hp} {C : Addr} (s : Same H H') (n : H C = none) : Same H (wo H' C) := fun b o h => by
  have e : b ≠ C := fun z => by rw [z, n] at h; cases h
  rw [wo_at e]
  exact s b o h
def AllG (D : Deck) (H : Hp) (vs : List V) : Prop := ∀ v ∈ vs, Gm D H 320000 30 3 v
theorem AllG.same {D : Deck} {H H' : Hp} {vs : List V} (s : Same H H') (h : AllG D H vs) : AllG D H' vs := fun v hv => (h v hv).same s
theorem AllG.sameD {D : Deck} {H H' : Hp} {vs : List V} (s : SameD D H H') (h : AllG D H vs) : AllG D H' vs := fun v hv => (h v hv).sameD s
theorem AllG.nil {D : Deck} {H : Hp} : AllG D H [] := fun v hv => by cases hv
theorem AllG.cons {D : Deck} {H : Hp} {v : V} {vs : List V} {W B m : Nat} (g : Gm D H W B m v) (h : AllG D H vs) (w : W ≤ 320000 := by omega) (b : B ≤ 30 := by omega) (hm : m ≤ 3 := by omega) : AllG D H (v :: vs) := fun u hu => by
  rcases List.mem_cons.mp hu with rfl | hu
  · exact g.mono w b hm
  · exact h u hu
theorem AllG.app {D : Deck} {H : Hp} {vs ws : List V} (h : AllG D H vs) (k : AllG D H ws) : AllG D H (vs ++ ws) := fun u hu => by
  rcases List.mem_append.mp hu with hu | hu
  · exact h u hu
  · exact k u hu
/-- what stands through a turn -/
structure Fx (D : Deck) (H : Hp) (p wy : Addr) (us : List V) (tv lf : V) (ws : List (List Nat)) : Prop where
  ep : H p = some (.tup us)
  op : Off D p
  gl : Gl D H 51000 6 0 us
  gt : Gm D H 3700 5 0 tv
  gf : Gm D H 1000 3 0 lf
  ew : H wy = some (.lst (ws.map vt))
  ow : Off D wy
theorem Fx.sameD {D : Deck} {H H' : Hp} {p wy : Addr} {us : List V} {tv lf : V} {ws : List (List Nat)} (s : SameD D H H') (h : Fx D H p wy us tv lf ws) : Fx D H' p wy us tv lf ws :=
  ⟨s.at h.op h.ep, h.op, h.gl.sameD s, h.gt.sameD s, h.gf.sameD s, s.at h.ow h.ew, h.ow⟩
theorem Fx.same {D : Deck} {H H' : Hp} {p wy : Addr} {us : List V} {tv lf : V} {ws : List (List Nat)} (s : Same H H') (h : Fx D H p wy us tv lf ws) : Fx D H' p wy us tv lf ws := h.sameD (SameD.of s)
structure Sx (D : Deck) (H : Hp) (c : Nat) (p wy : Addr) (us : List V) (tv lf : V) (ws : List (List Nat)) (vs : List V) : Prop where
  dk : DeckOk H D c
  fx : Fx D H p wy us tv lf ws
  ag : AllG D H vs
section
variable {D : Deck} {H H' : Hp} {c : Nat} {p wy : Addr} {us : List V} {tv lf : V} {ws : List (List Nat)} {vs : List V}
theorem Sx.same (S : Sx D H c p wy us tv lf ws vs) (s : Same H H') : Sx D H' c p wy us tv lf ws vs := ⟨S.dk.same s, S.fx.same s, S.ag.same s⟩
theorem Sx.put (S : Sx D H c p wy us tv lf ws vs) {W B m : Nat} {v : V} (g : Gm D H W B m v) (w : W ≤ 320000 := by omega) (b : B ≤ 30 := by omega) (hm : m ≤ 3 := by omega) : Sx D H c p wy us tv lf ws (v :: vs) := ⟨S.dk, S.fx, S.ag.cons g w b hm⟩
theorem Sx.tup (S : Sx D H c p wy us tv lf ws vs) {a : Addr} {xs : List V} {W B m : Nat} (n : H a = none) (g : Gl D H W B m xs) : Gm D (upd H a (.tup xs)) (W + 3) (B + 1) m (.ref a) := (g.same (same_new n _)).tup (S.dk.new n) upd_same
theorem Sx.lst (S : Sx D H c p wy us tv lf ws vs) {a : Addr} {xs : List V} {W B m : Nat} (n : H a = none) (g : Gl D H W B m xs) : Gm D (upd H a (.lst xs)) (W + 3) (B + 1) m (.ref a) := (g.same (same_new n _)).lst (S.dk.new n) upd_same
theorem Sx.new (S : Sx D H c p wy us tv lf ws vs) {a : Addr} (n : H a = none) (o : HO) : Sx D (upd H a o) c p wy us tv lf ws vs := S.same (same_new n o)
theorem Sx.nest (S : Sx D H c p wy us tv lf ws vs) : Gm D H 51003 7 0 (.ref p) := S.fx.gl.tup S.fx.op S.fx.ep
end
theorem chain_gm {D : Deck} {H : Hp} {v : V} (k : Nat) (h : DQ D H v (chainB k).data) (hk : k = 12 ∨ k = 13) : Gm D H 13000 13 0 v := by
  refine ⟨_, h, ?_⟩
  rcases hk with rfl | rfl <;> exact ⟨by decide +kernel, by decide +kernel, by decide +kernel, by decide +kernel⟩
theorem opens_le2 (K : List (List Nat)) : ∀ L : List (List Nat), (opensOf K L).length ≤ 2 * L.length
  | [] => by unfold opensOf; exact Nat.zero_le _
  | q :: L => by
    have h := opens_le2 K L
    unfold opensOf at h ⊢
    rw [List.flatMap_cons, List.length_append, List.length_cons]
    have : (sidesOf K q).length ≤ 2 := List.length_filter_le _ _
    omega
theorem opens_some {t : B} (ht : 1 ≤ t.size) : ∃ w0 wr, opensT t = w0 :: wr := by
  cases h : opensT t with
  | cons a b => exact ⟨a, b, rfl⟩
  | nil =>
    exfalso
    have l := t.op_len
    cases h2 : t.op with
    | nil => rw [h2] at l; exact absurd l.symm (Nat.succ_ne_zero _)
    | cons q r =>
      have m := (opens_iff ht q).mpr ((t.op_at q).mp (by rw [h2]; exact List.mem_cons_self))
      rw [h] at m
      cases m
theorem at_last {xs : List V} {v : V} (h : xs[xs.length - 1]? = some v) : atI xs (-1) = some v := by
  have h0 := (List.getElem?_eq_some_iff.mp h).1
  have e : ixN xs.length (-1) = some (xs.length - 1) := by
    unfold ixN
    rw [if_neg (by decide), if_pos (by omega)]
    congr 1
    omega
  unfold atI
  rw [e]
  exact h
theorem ascl : Asc 0 "l" := ⟨by decide +kernel, by decide +kernel⟩
theorem ascA : Asc 0 "a" := ⟨by decide +kernel, by decide +kernel⟩
theorem wo_upd {H : Hp} {C a : Addr} {o : HO} (h : a ≠ C) : wo (upd H a o) C = upd (wo H C) a o := by
  funext b
  unfold wo upd
  by_cases e : b = C
  · rw [if_pos e]
    rw [if_neg (show ¬ b = a from fun z => h (z.symm.trans e))]
    exact (if_pos e).symm
  · rw [if_neg e]
    by_cases e2 : b = a
    · rw [if_pos e2, if_pos e2]
    · rw [if_neg e2, if_neg e2]
      exact (if_neg e).symm
theorem wo_self {H : Hp} {C : Addr} {o : HO} : wo (upd H C o) C = wo H C := by
  funext b
  unfold wo upd
  by_cases e : b = C
  · rw [if_pos e, if_pos e]
  · rw [if_neg e, if_neg e, if_neg e]
theorem wo_none {H : Hp} {C a : Addr} (h : H a = none) : wo H C a = none := by
  unfold wo
  by_cases e : a = C
  · rw [if_pos e]
  · rw [if_neg e]; exact h
section
variable {K : PySem.W.Frag} {D : Deck} {H H' : Hp} {c : Nat} {p wy C : Addr} {us : List V} {tv lf : V} {ws : List (List Nat)} {vs ys : List V}
theorem Sx.dkw (S : Sx D (wo H C) c p wy us tv lf ws vs) : DeckOk H D c := S.dk.same wo_same
/-- one object more, ahead of which C stands -/
theorem Sx.newW (S : Sx D (wo H C) c p wy us tv lf ws vs) (hC : H C = some (.lst ys)) {a : Addr} (n : H a = none) (o : HO) : Sx D (wo (upd H a o) C) c p wy us tv lf ws vs := by
  rw [wo_upd (fun z => by rw [z, hC] at n; cases n)]
  exact S.new (wo_none n) o
theorem Sx.tupW (S : Sx D (wo H C) c p wy us tv lf ws vs) (hC : H C = some (.lst ys)) {a : Addr} {xs : List V} {W B m : Nat} (n : H a = none) (g : Gl D (wo H C) W B m xs) : Gm D (wo (upd H a (.tup xs)) C) (W + 3) (B + 1) m (.ref a) := by
  rw [wo_upd (fun z => by rw [z, hC] at n; cases n)]
  exact S.tup (wo_none n) g
theorem Sx.lstW (S : Sx D (wo H C) c p wy us tv lf ws vs) (hC : H C = some (.lst ys)) {a : Addr} {xs : List V} {W B m : Nat} (n : H a = none) (g : Gl D (wo H C) W B m xs) : Gm D (wo (upd H a (.lst xs)) C) (W + 3) (B + 1) m (.ref a) := by
  rw [wo_upd (fun z => by rw [z, hC] at n; cases n)]
  exact S.lst (wo_none n) g
theorem same_at {a : Addr} {o o' : HO} (n : H a = none) (h : H C = some o') : upd H a o C = some o' := same_new n o _ _ h
/-- the nest and one entry more -/
theorem Sx.cat (S : Sx D H c p wy us tv lf ws vs) (lu : us.length ≤ 6) {t1 t2 : Addr} (n1 : H t1 = none) {W B : Nat} (g : Gm D H W B 0 (.ref t2)) {Q : VK} (hW : W ≤ 200000) (hB : B ≤ 10)
    (q : ∀ (r : Addr) (H' : Hp), Same H H' → Sx D H' c p wy us tv lf ws vs → Gm D H' 260000 11 0 (.ref r) → Q (.ref r) H') : rCatA K (.ref p) (.ref t1) (upd H t1 (.tup [.ref t2])) Q := by
  have k := same_new n1 (.tup [.ref t2])
  have S1 := S.new n1 (.tup [.ref t2])
  refine catA_of S1.dk S1.fx.ep S1.fx.op upd_same (S.dk.new n1) (by show us.length + 1 ≤ 16777216; omega) fun r H' s er or => ?_
  refine q r H' (k.trans s) (S1.same s) ?_
  exact (((S1.fx.gl.same s).mono (Nat.le_refl _) (show 6 ≤ 10 by omega)).app ((Gl.one ((g.same k).same s)).mono (Nat.le_refl _) hB)).tup or er |>.mono (by omega) (by omega) (Nat.le_refl _)
theorem Sx.catW (S : Sx D (wo H C) c p wy us tv lf ws vs) (hC : H C = some (.lst ys)) (lu : us.length ≤ 6) {t1 t2 : Addr} (n1 : H t1 = none) {W B : Nat} (g : Gm D (wo H C) W B 0 (.ref t2)) {Q : VK} (hW : W ≤ 200000) (hB : B ≤ 10)
    (q : ∀ (r : Addr) (H' : Hp), Same H H' → Sx D (wo H' C) c p wy us tv lf ws vs → Gm D (wo H' C) 260000 11 0 (.ref r) → Q (.ref r) H') : rCatA K (.ref p) (.ref t1) (upd H t1 (.tup [.ref t2])) Q := by
  have k := same_new n1 (.tup [.ref t2])
  have S1 := S.newW hC n1 (.tup [.ref t2])
  have hC1 := same_at (o := .tup [.ref t2]) n1 hC
  refine catA_of S1.dkw (wo_same _ _ S1.fx.ep) S1.fx.op upd_same (S.dkw.new n1) (by show us.length + 1 ≤ 16777216; omega) fun r H' s er or => ?_
  have sw : Same (wo (upd H t1 (.tup [.ref t2])) C) (wo H' C) := wo_mono fun b o _ e => s b o e
  have kw : Same (wo H C) (wo (upd H t1 (.tup [.ref t2])) C) := wo_mono fun b o _ e => k b o e
  have erw : wo H' C r = some (.tup (us ++ [.ref t2])) := by
    rw [wo_at (ne_of er (s _ _ hC1) (by intro z; cases z))]
    exact er
  refine q r H' (k.trans s) (S1.same sw) ?_
  exact (((S1.fx.gl.same sw).mono (Nat.le_refl _) (show 6 ≤ 10 by omega)).app ((Gl.one ((g.same kw).same sw)).mono (Nat.le_refl _) hB)).tup or erw |>.mono (by omega) (by omega) (Nat.le_refl _)
end
/-! ### law -/
section
variable {P : Program} {w : World} {K : PySem.W.Frag} {mg : Str → Option Value} {base : Heap} {f : Addr} {fd : FuncData}
theorem run_law {s : Shared} {H : Hp} {a : Addr} {ns : List Int} (F : Fun K "law" "law" s_law f fd) (bd : BindsTo s fd ⟨[.ref a], []⟩ [("_law_script", .ref a)]) (en : Env0 P w K mg base callerA [] s H) (hS : SqL K H a (ns.map V.int))
    (M : Mgs mg) (D_law_deck : Df P w K mg base 1 "_law_deck" ["_law_script"] (spDeck K)) (D_law_nest : Df P w K mg base 42 "_law_nest" ["_law_deck_here", "_law_entries", "_law_limit", "_law_few"] spNest)
    (D_law_drawn_tree : Df P w K mg base 34 "_law_drawn_tree" ["_law_deck_here", "_law_limit"] spDrawn) (D_law_open : Df P w K mg base 41 "_law_open" ["_law_tree_here"] spOpen) (D_law_chain : Df P w K mg base 1 "_law_chain" ["_law_size"] spChain)
    (D_law_odd : Df P w K mg base 3 "_law_odd" ["_law_deck_here"] spOdd) (D_law_changed : Df P w K mg base 10 "_law_changed" ["_law_deck_here", "_law_value", "_law_depth"] (spChanged 6))
    (Dis_nest : Df P w K mg base 6 "is_nest" ["value"] spNestQ) (D_law_is_nest : Df P w K mg base 42 "_law_is_nest" ["_law_value"] spNestL) (D_law_same : DfG P w K mg base 1 "_law_same" ["_law_found", "_law_due"] spSameQ) :
    codeAny (model P w) callerA (.call (.ref f) ⟨[.ref a], []⟩) (CR CX0 [] P w H s (fun v _ => v = .bl true) fun _ _ _ => False) s := by
  refine enter_def (k := 60) (vs := [.ref a]) (us := [.ref a]) F sc_law ⟨rfl, by decide, by decide⟩ en bd (.cons rfl .nil) rfl fun cdv hr => ?_
  refine ⟨_, (pss_cons (ps_set (i := 1) sc_law.nd rfl (.inl rfl) (pe_call D_law_deck.ok (hr.mono (by omega)) rfl D_law_deck.g D_law_deck.kp D_law_deck.b .nil pass0 (pa_cons (pv 0) pa_nil)))
    (pss_cons (ps_for PassesOwn.never rfl (pi_range1 rfl M.range (pa_cons pe_int pa_nil)) (pg_name (i := 2) sc_law.nd rfl (.inl rfl))
      (pss_cons (ps_set (i := 3) sc_law.nd rfl (.inl rfl) (pe_call D_law_nest.ok (hr.mono (by omega)) rfl D_law_nest.g D_law_nest.kp D_law_nest.b .nil pass0 (pa_cons (pv 1) (pa_cons pe_int (pa_cons pe_int (pa_cons pe_int pa_nil))))))
    (pss_cons (ps_par (i := 4) (j := 5) (by rfl) sc_law.nd rfl rfl (by decide) rfl rfl (pa_cons (pe_callB call_len_seq rfl M.len PySem.boot_len (pa_cons (pv 3) pa_nil)) (pa_cons (pe_call D_law_drawn_tree.ok (hr.mono (by omega)) rfl D_law_drawn_tree.g D_law_drawn_tree.kp D_law_drawn_tree.b .nil pass0 (pa_cons (pv 1) (pa_cons pe_int pa_nil))) pa_nil)) (by rfl))
    (pss_cons (ps_par (i := 6) (j := 7) (by rfl) sc_law.nd rfl rfl (by decide) rfl rfl (pa_cons (pe_tup (pa_cons (pe_tup (pa_cons pe_non (pa_cons pe_str (pa_cons pe_non pa_nil)))) (pa_cons (pe_tup pa_nil) pa_nil))) (pa_cons (pe_call D_law_open.ok (hr.mono (by omega)) rfl D_law_open.g D_law_open.kp D_law_open.b .nil pass0 (pa_cons (pv 5) pa_nil)) pa_nil)) (by rfl))
    (pss_cons (ps_set (i := 8) sc_law.nd rfl (.inl rfl) (pe_lst (pa_cons (pv 3) (pa_cons (pe_callTy call_list_of rfl M.list (by decide +kernel) (pa_cons (pv 3) pa_nil)) (pa_cons (pe_revT (pv 3)) (pa_cons (pe_op op_repT (pe_tup (pa_cons (pv 6) pa_nil)) pe_int) (pa_cons (pe_op op_repT (pe_tup (pa_cons (pv 6) pa_nil)) pe_int) (pa_cons (pe_tup pa_nil) (pa_cons (pv 6) (pa_cons (pe_tup (pa_cons (pe_tup (pa_cons (pe_call D_law_chain.ok (hr.mono (by omega)) rfl D_law_chain.g D_law_chain.kp D_law_chain.b .nil pass0 (pa_cons pe_int pa_nil)) (pa_cons (pe_tup pa_nil) pa_nil))) pa_nil)) pa_nil))))))))))
    (pss_cons (ps_set (i := 8) sc_law.nd rfl (.inl rfl) (pe_op op_cat (pv 8) (pe_lst (pa_cons (pe_tup (pa_cons (pe_tup (pa_cons (pe_call D_law_chain.ok (hr.mono (by omega)) rfl D_law_chain.g D_law_chain.kp D_law_chain.b .nil pass0 (pa_cons pe_int pa_nil)) (pa_cons (pe_tup pa_nil) pa_nil))) pa_nil)) (pa_cons (pe_op op_catA (pe_tup (pa_cons (pv 6) pa_nil)) (pv 3)) (pa_cons (pe_op op_catA (pv 3) (pe_tup (pa_cons (pe_tup (pa_cons (pe_tup (pa_cons pe_non (pa_cons pe_str (pa_cons pe_non pa_nil)))) (pa_cons (pe_tup (pa_cons (pe_tup (pa_cons pe_str (pa_cons (pv 4) pa_nil))) pa_nil)) pa_nil))) pa_nil))) pa_nil))))))
    (pss_cons (ps_for PassesOwn.never rfl (pi_list (pe_lst (pa_cons pe_str (pa_cons pe_str (pa_cons pe_str (pa_cons pe_str (pa_cons pe_str (pa_cons pe_str (pa_cons pe_str (pa_cons pe_str (pa_cons pe_str (pa_cons (pe_ix ix_list (pv 7) pe_int (fun _ _ => rfl)) (pa_cons (pe_ix ix_list (pv 7) (pe_un un_neg pe_int) (fun _ _ => rfl)) pa_nil))))))))))))) (pg_name (i := 9) sc_law.nd rfl (.inl rfl))
      (pss_one (ps_expr (pe_bm PySem.F.plainAttrs_list PySem.F.slot_list_append PySem.F.type_list_append mt_append (pv 8) (pa_cons (pe_op op_catA (pv 3) (pe_tup (pa_cons (pe_tup (pa_cons (pv 5) (pa_cons (pe_tup (pa_cons (pe_tup (pa_cons (pv 9) (pa_cons (pe_op op_sub (pv 4) pe_int) pa_nil))) pa_nil)) pa_nil))) pa_nil))) pa_nil)))))
    (pss_cons (ps_for PassesOwn.never rfl (pi_list (pe_lst (pa_cons (pe_tup (pa_cons (pe_tup (pa_cons (pe_ix ix_list (pv 7) pe_int (fun _ _ => rfl)) (pa_cons pe_int pa_nil))) (pa_cons (pe_tup (pa_cons (pe_ix ix_list (pv 7) pe_int (fun _ _ => rfl)) (pa_cons pe_int pa_nil))) pa_nil))) (pa_cons (pe_callTy call_tuple_of rfl M.tuple (by decide +kernel) (pa_cons (pe_lc (own := [("_law_way", 11)]) (g := gName 11) (tt := tYes) rfl sc_law.nd (pi_list (pe_revL (pe_callB cr_sortedS rfl M.sorted (by decide +kernel) (pa_cons (pv 7) pa_nil)))) (blkOk_by (N := ["_law_script", "_law_deck_here", "_law_turn", "_law_nest_here", "_law_many", "_law_tree_here", "_law_leaf", "_law_ways", "_law_values", "_law_path", "_law_links", "_law_way", "_law_again", "_law_bent", "_law_value", "_law_kept"]) (sc := defScope s_law) (by decide +kernel)) (fun _ _ _ _ _ => (pg_name (i := 11) sc_law.nd rfl (.inl rfl))) (fun _ _ _ _ _ => pts_nil) (fun _ _ _ _ _ => (pe_tup (pa_cons (pv 11) (pa_cons pe_int pa_nil))))) pa_nil)) (pa_cons (pe_lst (pa_cons (pe_tup (pa_cons (pe_ix ix_list (pv 7) pe_int (fun _ _ => rfl)) (pa_cons pe_int pa_nil))) pa_nil)) pa_nil))))) (pg_name (i := 10) sc_law.nd rfl (.inl rfl))
      (pss_one (ps_expr (pe_bm PySem.F.plainAttrs_list PySem.F.slot_list_append PySem.F.type_list_append mt_append (pv 8) (pa_cons (pe_op op_catA (pv 3) (pe_tup (pa_cons (pe_tup (pa_cons (pv 5) (pa_cons (pv 10) pa_nil))) pa_nil))) pa_nil)))))
    (pss_cons (ps_set (i := 8) sc_law.nd rfl (.inl rfl) (pe_op op_cat (pv 8) (pe_lst (pa_cons (pe_op op_catA (pv 3) (pe_tup (pa_cons (pe_tup (pa_cons (pv 5) (pa_cons (pe_tup (pa_cons (pe_tup (pa_cons (pe_ix ix_list (pv 7) pe_int (fun _ _ => rfl)) (pa_cons pe_bl pa_nil))) pa_nil)) pa_nil))) pa_nil))) (pa_cons (pe_op op_catA (pv 3) (pe_tup (pa_cons (pe_tup (pa_cons (pv 5) (pa_cons (pe_tup (pa_cons (pe_tup (pa_cons (pe_ix ix_list (pv 7) pe_int (fun _ _ => rfl)) (pa_cons (pe_un un_neg pe_int) pa_nil))) pa_nil)) pa_nil))) pa_nil))) (pa_cons (pe_call D_law_odd.ok (hr.mono (by omega)) rfl D_law_odd.g D_law_odd.kp D_law_odd.b .nil pass0 (pa_cons (pv 1) pa_nil)) pa_nil))))))
    (pss_cons (ps_for PassesOwn.never rfl (pi_range1 rfl M.range (pa_cons pe_int pa_nil)) (pg_name (i := 12) sc_law.nd rfl (.inl rfl))
      (pss_cons (ps_set (i := 13) sc_law.nd rfl (.inl rfl) (pe_call D_law_changed.ok (hr.mono (by omega)) rfl D_law_changed.g D_law_changed.kp D_law_changed.b .nil pass0 (pa_cons (pv 1) (pa_cons (pv 3) (pa_cons pe_int pa_nil)))))
    (pss_one (ps_set (i := 8) sc_law.nd rfl (.inl rfl) (pe_op op_cat (pv 8) (pe_lst (pa_cons (pv 13) (pa_cons (pe_call D_law_changed.ok (hr.mono (by omega)) rfl D_law_changed.g D_law_changed.kp D_law_changed.b .nil pass0 (pa_cons (pv 1) (pa_cons (pv 13) (pa_cons pe_int pa_nil)))) pa_nil))))))))
    (pss_one (ps_for PassesOwn.never rfl (pi_list (pv 8)) (pg_name (i := 14) sc_law.nd rfl (.inl rfl))
      (pss_cons (ps_set (i := 15) sc_law.nd rfl (.inl rfl) (pe_callB (call_reprQ rfl hr.units) rfl M.repr (by decide +kernel) (pa_cons (pv 14) pa_nil)))
    (pss_one (ps_if (PW.pt (pw_or (pt_not (pt_val (pe_callG D_law_same.ok rfl (hr.mono (by omega)) rfl D_law_same.g D_law_same.kp D_law_same.b (pa_cons (pe_call Dis_nest.ok (hr.mono (by omega)) rfl Dis_nest.g Dis_nest.kp Dis_nest.b .nil pass0 (pa_cons (pv 14) pa_nil)) (pa_cons (pe_call D_law_is_nest.ok (hr.mono (by omega)) rfl D_law_is_nest.g D_law_is_nest.kp D_law_is_nest.b .nil pass0 (pa_cons (pv 14) pa_nil)) pa_nil))))) (pw_or1 (pt_cmpR op_ne (pe_callB (call_reprQ rfl hr.units) rfl M.repr (by decide +kernel) (pa_cons (pv 14) pa_nil)) (pv 15) (nomark _)))))
      (pss_one (ps_ret pe_bl)) pss_nil)))))))))))))))
    (pss_one (ps_ret pe_bl)))), ?_⟩
  refine ⟨_, rfl, a, ns, rfl, hS, fun D H1 d1 s1 => ?_⟩
  refine ⟨4, rfl, by decide, by decide, ?_⟩
  refine for_range (lo := 0) (n := 4) (fun i σ H' => ∃ (o2 o3 o4 o5 o6 o7 o8 o9 o10 o11 o12 o13 o14 o15 : Option V) (c : Nat), σ = [some (.ref a), some (.ref D.dk), o2, o3, o4, o5, o6, o7, o8, o9, o10, o11, o12, o13, o14, o15] ∧ DeckOk H' D c ∧ c ≤ 10000 * i) ⟨none, none, none, none, none, none, none, none, none, none, none, none, none, none, 0, rfl, d1, by omega⟩ (fun i σ H2 hi hp => ?_) (fun σ H2 hp => ?_)
  · obtain ⟨o2, o3, o4, o5, o6, o7, o8, o9, o10, o11, o12, o13, o14, o15, c, rfl, d2, hc⟩ := hp
    dsimp only [gName]
    refine ⟨_, rfl, D, c, 6, 4, 1, rfl, d2, by omega, by decide, by decide, by decide, by decide, fun p us es c3 H3 d3 hc3 s3 ep en3 gn e1 e6 => ?_⟩
    have lus := en3.len
    refine ⟨_, rfl, p, us, rfl, .inr (SqT.of ep), _, rfl, D, c3, 4, rfl, d3, by omega, by decide, by decide, fun tv t c4 H4 d4 hc4 s4 bt t1 t4 tl => ?_⟩
    refine ⟨_, _, rfl, ?_⟩
    refine ⟨(by show 3 ≤ sizeLine; decide), fun q1 nq1 => ⟨(by show 0 ≤ sizeLine; decide), fun q2 nq2 => ⟨(by show 2 ≤ sizeLine; decide), fun q3 nq3 => ?_⟩⟩⟩
    have k1 := same_new nq1 (.tup [.non, .str "a", .non])
    have d5 := d4.same k1
    have e1' := upd_same (H := H4) (a := q1) (o := .tup [.non, .str "a", .non])
    have o1 := d4.new nq1
    have g1 := (Gl.cons (B := 0) (W := 4) (m := 0) (D := D) (H := upd H4 q1 (.tup [.non, .str "a", .non])) Gm.non (Gl.cons (Gm.str (x := "a") ascA) (Gl.one Gm.non))).tup o1 e1'
    have k2 := same_new nq2 (.tup [])
    have d6 := d5.same k2
    have e2' := upd_same (H := upd H4 q1 (.tup [.non, .str "a", .non])) (a := q2) (o := .tup [])
    have g2 := (Gl.nil (W := 0) (B := 0) (m := 0)).tup (d5.new nq2) e2'
    have k3 := same_new nq3 (.tup [.ref q1, .ref q2])
    have d7 := d6.same k3
    have g3 := (Gl.cons ((g1.same k2).same k3) (Gl.one ((g2.same k3).mono (Nat.le_refl _) (show 0 + 1 ≤ 0 + 1 by omega) (Nat.le_refl _)))).tup (d6.new nq3) upd_same
    have k13 := k1.trans (k2.trans k3)
    generalize upd (upd (upd H4 q1 (.tup [.non, .str "a", .non])) q2 (.tup [])) q3 (.tup [.ref q1, .ref q2]) = H7 at k13 d7 g3 ⊢
    refine ⟨_, rfl, tv, t, rfl, bt.same k13, by omega, fun wy H8 s8 nw eW => ?_⟩
    have s38 := s4.trans (SameD.of (k13.trans s8))
    obtain ⟨cl, rl, q1', q2', q3', _⟩ := d3.ex
    have fx : Fx D H8 p wy us tv (.ref q3) (opensT t) := ⟨s38.at ⟨ne_of ep q1' (by intro z; cases z), ne_of ep q2' (by intro z; cases z), ne_of ep q3' (by intro z; cases z)⟩ ep, ⟨ne_of ep q1' (by intro z; cases z), ne_of ep q2' (by intro z; cases z), ne_of ep q3' (by intro z; cases z)⟩,
      ((entries_gl d3 en3 (fun e he => by
        obtain ⟨i, hi⟩ := List.getElem?_of_mem he
        have := (List.getElem?_eq_some_iff.mp hi).1
        exact ⟨i, by omega, gn i e hi⟩)).mono (by omega) (Nat.le_refl _)).sameD s38, ((tree_gm d4 bt tl).mono (by omega) (by omega) (Nat.le_refl _)).same (k13.trans s8), (g3.same s8).mono (by omega) (by omega) (Nat.le_refl _), eW, d7.new nw⟩
    have d8 := d7.same s8
    have wsg : ∀ x ∈ opensT t, Asc 0 (tx x) := fun x hx => by
      have h1 := opens_open hx
      have h2 := op_deep h1
      have h3 := t.deep_le
      exact ⟨by rw [tx_len]; omega, fun z hz => by have := op_signs t x h1 z hz; omega⟩
    obtain ⟨w0, wr, hws⟩ := opens_some t1
    have lws : (opensT t).length ≤ 8 := by
      have h1 := opens_le2 ((t.steps .first []).map (·.1)) ((t.steps .first []).map (·.1))
      rw [List.length_map, B.steps_len] at h1
      exact Nat.le_trans h1 (by omega)
    generalize opensT t = ws at fx wsg hws lws
    clear k1 k2 k3 d5 d6 nq1 nq2 nq3 s38 q1' q2' q3' en3 ep gn eW nw s8 k13 g1 g2 g3 d7 bt s4 d4 d3 s3 e1' e2' o1
    have lu : us.length ≤ 6 := by omega
    clear lus t1 t4 tl e1 e6
    refine ⟨_, _, rfl, ?_⟩
    have S : Sx D H8 c4 p wy us tv (.ref q3) ws [] := ⟨d8, fx, AllG.nil⟩
    clear fx d8
    -- the first eight
    refine ⟨_, rfl, _, rfl, p, us, rfl, .inr (SqT.of S.fx.ep), fun a1 n1 => ?_⟩
    have g1 := S.lst n1 S.fx.gl
    have S := S.new n1 (.lst us)
    generalize upd H8 a1 (.lst us) = H9 at g1 S ⊢
    refine ⟨_, rfl, p, us, rfl, SqT.of S.fx.ep, fun a2 n2 => ?_⟩
    have g2 := S.tup n2 S.fx.gl.rev
    have S := (S.put g1).new n2 (.tup us.reverse)
    generalize upd H9 a2 (.tup us.reverse) = H10 at g2 S ⊢
    refine ⟨_, rfl, (by show 1 ≤ sizeLine; decide), fun b1 m1 => ?_⟩
    have S := (S.put g2).new m1 (.tup [.ref q3])
    have e1 := upd_same (H := H10) (a := b1) (o := .tup [.ref q3])
    generalize upd H10 b1 (.tup [.ref q3]) = H11 at e1 S ⊢
    refine ⟨b1, 20, [.ref q3], rfl, rfl, SqT.of e1, by simp, by decide, by decide, (by show 1 ≤ 1000; omega), fun a3 n3 => ?_⟩
    have g3 := S.tup n3 ((Gl.one S.fx.gf).rep (Int.toNat 20))
    have S := S.new n3 (.tup (List.replicate (Int.toNat 20) [.ref q3]).flatten)
    generalize upd H11 a3 (.tup (List.replicate (Int.toNat 20) [.ref q3]).flatten) = H12 at g3 S ⊢
    have t20 : Int.toNat 20 = 20 := rfl
    rw [t20] at g3
    refine ⟨_, rfl, (by show 1 ≤ sizeLine; decide), fun b2 m2 => ?_⟩
    have S := (S.put g3).new m2 (.tup [.ref q3])
    have e2 := upd_same (H := H12) (a := b2) (o := .tup [.ref q3])
    generalize upd H12 b2 (.tup [.ref q3]) = H13 at e2 S ⊢
    refine ⟨b2, 21, [.ref q3], rfl, rfl, SqT.of e2, by simp, by decide, by decide, (by show 1 ≤ 1000; omega), fun a4 n4 => ?_⟩
    have g4 := S.tup n4 ((Gl.one S.fx.gf).rep (Int.toNat 21))
    have S := S.new n4 (.tup (List.replicate (Int.toNat 21) [.ref q3]).flatten)
    generalize upd H13 a4 (.tup (List.replicate (Int.toNat 21) [.ref q3]).flatten) = H14 at g4 S ⊢
    have t21 : Int.toNat 21 = 21 := rfl
    rw [t21] at g4
    have S := S.put g4
    clear t20 t21 g1 g2 g3 g4 e1 e2 n1 n2 n3 n4 m1 m2
    refine ⟨(by show 0 ≤ sizeLine; decide), fun a5 n5 => ?_⟩
    have g5 := S.tup n5 (Gl.nil (W := 0) (B := 0) (m := 0))
    have S := (S.new n5 (.tup [])).put g5
    generalize upd H14 a5 (.tup []) = H15 at S ⊢
    clear g5 n5
    have S := S.put S.fx.gf
    refine ⟨_, rfl, D, c4, 12, rfl, S.dk, by decide, fun cv H16 qc s16 => ?_⟩
    have gc := chain_gm 12 qc (.inl rfl)
    have S := S.same s16
    clear qc s16
    refine ⟨(by show 0 ≤ sizeLine; decide), fun b1 m1 => ?_⟩
    have gb := S.tup m1 (Gl.nil (W := 0) (B := 12) (m := 0))
    have gc := gc.same (same_new m1 (.tup []))
    have S := S.new m1 (.tup [])
    generalize upd H16 b1 (.tup []) = H17 at S gb gc ⊢
    refine ⟨(by show 2 ≤ sizeLine; decide), fun b2 m2 => ?_⟩
    have gd := S.tup m2 (Gl.cons gc (Gl.one gb))
    have S := S.new m2 (.tup [cv, .ref b1])
    generalize upd H17 b2 (.tup [cv, .ref b1]) = H18 at S gd ⊢
    refine ⟨(by show 1 ≤ sizeLine; decide), fun b3 m3 => ?_⟩
    have ge := S.tup m3 (Gl.one gd)
    have S := (S.new m3 (.tup [.ref b2])).put ge
    generalize upd H18 b3 (.tup [.ref b2]) = H19 at S ⊢
    clear gb gc gd ge m1 m2 m3
    refine ⟨(by show 8 ≤ sizeLine; decide), fun C nC => ?_⟩
    have eC := upd_same (H := H19) (a := C) (o := .lst [.ref p, .ref a1, .ref a2, .ref a3, .ref a4, .ref a5, .ref q3, .ref b3])
    have oC := S.dk.new nC
    have S := S.new nC (.lst [.ref p, .ref a1, .ref a2, .ref a3, .ref a4, .ref a5, .ref q3, .ref b3])
    generalize upd H19 C (.lst [.ref p, .ref a1, .ref a2, .ref a3, .ref a4, .ref a5, .ref q3, .ref b3]) = H20 at S eC ⊢
    have ag : AllG D H20 [.ref p, .ref a1, .ref a2, .ref a3, .ref a4, .ref a5, .ref q3, .ref b3] := AllG.cons S.nest (fun v hv => S.ag v (List.mem_reverse.mp (show v ∈ [.ref b3, .ref q3, .ref a5, .ref a4, .ref a3, .ref a2, .ref a1].reverse from hv)))
    have S : Sx D H20 c4 p wy us tv (.ref q3) ws [] := ⟨S.dk, S.fx, AllG.nil⟩
    have ly : [V.ref p, .ref a1, .ref a2, .ref a3, .ref a4, .ref a5, .ref q3, .ref b3].length = 8 := rfl
    generalize [V.ref p, .ref a1, .ref a2, .ref a3, .ref a4, .ref a5, .ref q3, .ref b3] = ys at ag eC ly
    clear nC
    -- three more
    have S : Sx D H20 c4 p wy us tv (.ref q3) ws ys := ⟨S.dk, S.fx, ag⟩
    clear ag
    refine ⟨_, rfl, D, c4, 13, rfl, S.dk, by decide, fun cv H21 qc s21 => ?_⟩
    have gc := chain_gm 13 qc (.inr rfl)
    have S := S.same s21
    have eC := s21 _ _ eC
    clear qc s21
    refine ⟨(by show 0 ≤ sizeLine; decide), fun b1 m1 => ?_⟩
    have gb := S.tup m1 (Gl.nil (W := 0) (B := 12) (m := 0))
    have gc := gc.same (same_new m1 (.tup []))
    have S := S.new m1 (.tup [])
    have eC := same_new m1 (.tup []) _ _ eC
    generalize upd H21 b1 (.tup []) = H22 at S gb gc eC ⊢
    refine ⟨(by show 2 ≤ sizeLine; decide), fun b2 m2 => ?_⟩
    have gd := S.tup m2 (Gl.cons gc (Gl.one gb))
    have S := S.new m2 (.tup [cv, .ref b1])
    have eC := same_new m2 (.tup [cv, .ref b1]) _ _ eC
    generalize upd H22 b2 (.tup [cv, .ref b1]) = H23 at S gd eC ⊢
    refine ⟨(by show 1 ≤ sizeLine; decide), fun b3' m3 => ?_⟩
    have ge := S.tup m3 (Gl.one gd)
    have S := (S.new m3 (.tup [.ref b2])).put ge
    have eC := same_new m3 (.tup [.ref b2]) _ _ eC
    generalize upd H23 b3' (.tup [.ref b2]) = H24 at S eC ⊢
    clear gb gc gd ge m1 m2 m3
    refine ⟨_, rfl, (by show 1 ≤ sizeLine; decide), fun c1 k1 => ⟨_, rfl, ?_⟩⟩
    have gl := Gl.one S.fx.gf
    have o1 := S.dk.new k1
    have e1 := upd_same (H := H24) (a := c1) (o := .tup [.ref q3])
    have S := S.new k1 (.tup [.ref q3])
    have eC := same_new k1 (.tup [.ref q3]) _ _ eC
    generalize upd H24 c1 (.tup [.ref q3]) = H25 at S e1 eC ⊢
    refine catA_of S.dk e1 o1 S.fx.ep S.fx.op (by show 1 + us.length ≤ 16777216; omega) fun c2 H26 s26 e2 o2' => ?_
    have g2 := (((Gl.one S.fx.gf).mono (Nat.le_refl _) (show 3 ≤ 6 by omega)).app S.fx.gl).same s26 |>.tup o2' e2
    have S := (S.same s26).put g2
    have eC := s26 _ _ eC
    clear gl o1 e1 s26 e2 o2' g2 k1
    refine ⟨_, rfl, (by show 3 ≤ sizeLine; decide), fun d1 m1 => ?_⟩
    have h1 := S.tup m1 (Gl.cons (B := 0) (W := 4) (m := 0) Gm.non (Gl.cons (Gm.str (x := "a") ascA) (Gl.one Gm.non)))
    have S := S.new m1 (.tup [.non, .str "a", .non])
    have eC := same_new m1 (.tup [.non, .str "a", .non]) _ _ eC
    generalize upd H26 d1 (.tup [.non, .str "a", .non]) = H27 at S h1 eC ⊢
    refine ⟨_, rfl, (by show 2 ≤ sizeLine; decide), fun d2' m2 => ?_⟩
    have h2 := S.tup m2 (Gl.cons (B := 0) (Gm.str (x := "l") ascl) (Gl.one (Gm.int (i := ((us.length : Nat) : Int)) (by omega) (by omega))))
    have h1 := h1.same (same_new m2 (.tup [.str "l", .int ((us.length : Nat) : Int)]))
    have S := S.new m2 (.tup [.str "l", .int ((us.length : Nat) : Int)])
    have eC := same_new m2 (.tup [.str "l", .int ((us.length : Nat) : Int)]) _ _ eC
    generalize upd H27 d2' (.tup [.str "l", .int ((us.length : Nat) : Int)]) = H28 at S h1 h2 eC ⊢
    refine ⟨(by show 1 ≤ sizeLine; decide), fun d3 m3 => ?_⟩
    have h3 := S.tup m3 (Gl.one h2)
    have h1 := h1.same (same_new m3 (.tup [.ref d2']))
    have S := S.new m3 (.tup [.ref d2'])
    have eC := same_new m3 (.tup [.ref d2']) _ _ eC
    generalize upd H28 d3 (.tup [.ref d2']) = H29 at S h1 h3 eC ⊢
    refine ⟨(by show 2 ≤ sizeLine; decide), fun d4 m4 => ?_⟩
    have h4 := S.tup m4 (Gl.cons (h1.mono (Nat.le_refl _) (show 0 + 1 ≤ 2 by omega) (Nat.le_refl _)) (Gl.one h3))
    have S := S.new m4 (.tup [.ref d1, .ref d3])
    have eC := same_new m4 (.tup [.ref d1, .ref d3]) _ _ eC
    generalize upd H29 d4 (.tup [.ref d1, .ref d3]) = H30 at S h4 eC ⊢
    refine ⟨(by show 1 ≤ sizeLine; decide), fun d5 m5 => ?_⟩
    refine S.cat lu m5 h4 (by omega) (by omega) fun d6 H31 s31 S h5 => ?_
    have S := S.put h5
    have eC := s31 _ _ eC
    clear h1 h2 h3 h4 h5 s31 m1 m2 m3 m4 m5
    refine ⟨(by show 3 ≤ sizeLine; decide), fun L nL => ?_⟩
    have eL := upd_same (H := H31) (a := L) (o := .lst [.ref b3', .ref c2, .ref d6])
    have S := S.new nL (.lst [.ref b3', .ref c2, .ref d6])
    have eC := same_new nL (.lst [.ref b3', .ref c2, .ref d6]) _ _ eC
    generalize upd H31 L (.lst [.ref b3', .ref c2, .ref d6]) = H32 at S eL eC ⊢
    refine ⟨C, L, ys, _, rfl, rfl, eC, eL, (by rw [ly]; show 8 + 3 ≤ sizeLine; decide), fun C2 nC2 => ?_⟩
    have eC2 := upd_same (H := H32) (a := C2) (o := .lst (ys ++ [.ref b3', .ref c2, .ref d6]))
    have oC2 := S.dk.new nC2
    have k32 := wo_of (same_new nC2 (.lst (ys ++ [.ref b3', .ref c2, .ref d6]))) nC2
    have ag : AllG D H32 (ys ++ [.ref b3', .ref c2, .ref d6]) := fun v hv => S.ag v (by
      rcases List.mem_append.mp hv with hv | hv
      · exact List.mem_cons_of_mem _ (List.mem_cons_of_mem _ (List.mem_cons_of_mem _ hv))
      · simp only [List.mem_cons, List.not_mem_nil, or_false] at hv
        rcases hv with rfl | rfl | rfl
        · exact List.mem_cons_of_mem _ (List.mem_cons_of_mem _ List.mem_cons_self)
        · exact List.mem_cons_of_mem _ List.mem_cons_self
        · exact List.mem_cons_self)
    have S : Sx D H32 c4 p wy us tv (.ref q3) ws (ys ++ [.ref b3', .ref c2, .ref d6]) := ⟨S.dk, S.fx, ag⟩
    have S := S.same k32
    have ly : (ys ++ [V.ref b3', .ref c2, .ref d6]).length = 11 := by rw [List.length_append, ly]; rfl
    clear eC eL ag nL k32
    generalize ys ++ [V.ref b3', .ref c2, .ref d6] = zs at S eC2 ly ⊢
    generalize upd H32 C2 (.lst zs) = H33 at S eC2 ⊢
    -- eleven paths
    have wsw : ws ≠ [] := by rw [hws]; exact List.cons_ne_nil _ _
    obtain ⟨wl, hwl⟩ : ∃ wl, ws[ws.length - 1]? = some wl := ⟨_, List.getElem?_eq_getElem (show ws.length - 1 < ws.length by rw [hws, List.length_cons]; omega)⟩
    have hw0 : ws[0]? = some w0 := by rw [hws]; rfl
    have ew := wo_same _ _ S.fx.ew
    have at0 : atI (ws.map vt) 0 = some (vt w0) := atI_nat (j := 0) (by rw [List.getElem?_map, hw0]; rfl)
    have atl : atI (ws.map vt) (-1) = some (vt wl) := at_last (by rw [List.length_map, List.getElem?_map, hwl]; rfl)
    have a0 : Asc 0 (tx w0) := wsg w0 (List.mem_of_getElem? hw0)
    have al : Asc 0 (tx wl) := wsg wl (List.mem_of_getElem? hwl)
    refine ⟨_, rfl, wy, _, 0, vt w0, rfl, rfl, SqL.of ew, at0, _, rfl, _, rfl, wy, _, _, vt wl, rfl, rfl, SqL.of ew, atl, ?_⟩
    refine ⟨(by show 11 ≤ sizeLine; decide), fun L nL => ?_⟩
    have okx : ∀ x ∈ [V.str "", .str "l", .str "r", .str "ll", .str "lr", .str "rr", .str "x", .str "lx", .str "lll", vt w0, vt wl], ∃ z, x = V.str z ∧ Asc 0 z := by
      intro x hx
      simp only [List.mem_cons, List.not_mem_nil, or_false] at hx
      rcases hx with rfl | rfl | rfl | rfl | rfl | rfl | rfl | rfl | rfl | rfl | rfl
      · exact ⟨_, rfl, by decide +kernel, by decide +kernel⟩
      · exact ⟨_, rfl, by decide +kernel, by decide +kernel⟩
      · exact ⟨_, rfl, by decide +kernel, by decide +kernel⟩
      · exact ⟨_, rfl, by decide +kernel, by decide +kernel⟩
      · exact ⟨_, rfl, by decide +kernel, by decide +kernel⟩
      · exact ⟨_, rfl, by decide +kernel, by decide +kernel⟩
      · exact ⟨_, rfl, by decide +kernel, by decide +kernel⟩
      · exact ⟨_, rfl, by decide +kernel, by decide +kernel⟩
      · exact ⟨_, rfl, by decide +kernel, by decide +kernel⟩
      · exact ⟨_, rfl, a0⟩
      · exact ⟨_, rfl, al⟩
    have S := S.newW eC2 nL (.lst [.str "", .str "l", .str "r", .str "ll", .str "lr", .str "rr", .str "x", .str "lx", .str "lll", vt w0, vt wl])
    have eL : wo (upd H33 L (.lst [.str "", .str "l", .str "r", .str "ll", .str "lr", .str "rr", .str "x", .str "lx", .str "lll", vt w0, vt wl])) C2 L = some (.lst [.str "", .str "l", .str "r", .str "ll", .str "lr", .str "rr", .str "x", .str "lx", .str "lll", vt w0, vt wl]) := by
      rw [wo_at (fun z => by rw [z, eC2] at nL; cases nL)]
      exact upd_same
    have eC2 := same_at (o := .lst [.str "", .str "l", .str "r", .str "ll", .str "lr", .str "rr", .str "x", .str "lx", .str "lll", vt w0, vt wl]) nL eC2
    have l11 : [V.str "", .str "l", .str "r", .str "ll", .str "lr", .str "rr", .str "x", .str "lx", .str "lll", vt w0, vt wl].length = 11 := rfl
    generalize upd H33 L (.lst [.str "", .str "l", .str "r", .str "ll", .str "lr", .str "rr", .str "x", .str "lx", .str "lll", vt w0, vt wl]) = H34 at S eL eC2 ⊢
    generalize [V.str "", .str "l", .str "r", .str "ll", .str "lr", .str "rr", .str "x", .str "lx", .str "lll", vt w0, vt wl] = xs at eL okx l11 ⊢
    refine ⟨L, rfl, ⟨_, SqL.of (wo_same _ _ eL)⟩, ?_⟩
    clear nL ew
    refine for_list (K := K) (a := L) (xs := xs) (fun j σ H' => ∃ (ys : List V) (o9 : Option V), σ = [some (.ref a), some (.ref D.dk), some (.int (0 + (i : Int))), some (.ref p), some (.int ((us.length : Nat) : Int)), some tv, some (.ref q3), some (.ref wy), some (.ref C2), o9, o10, o11, o12, o13, o14, o15] ∧ H' C2 = some (.lst ys) ∧ ys.length = 11 + j ∧ Sx D (wo H' C2) c4 p wy us tv (.ref q3) ws ys ∧ wo H' C2 L = some (.lst xs))
      ⟨zs, _, rfl, eC2, ly, S, eL⟩ (fun j σ H' _ hp => by obtain ⟨_, _, _, _, _, _, h⟩ := hp; exact SqL.of (wo_same _ _ h)) (fun j z σ H' hz hp => ?_) (fun σ H' hp => ?_)
    · clear S eL eC2
      obtain ⟨ys, o9, rfl, eC, yl, S, eL⟩ := hp
      obtain ⟨z, rfl, hz2⟩ := okx z (List.mem_of_getElem? hz)
      refine ⟨_, rfl, .inl ⟨rfl, _, SqL.of eC⟩, _, rfl, _, rfl, _, rfl, _, rfl, _, _, rfl, rfl, ?_⟩
      refine ⟨(by show 2 ≤ sizeLine; decide), fun b1 m1 => ?_⟩
      have g1 := S.tupW eC m1 (Gl.cons (B := 0) (Gm.str hz2) (Gl.one (Gm.int (i := ((us.length : Nat) : Int) - 1) (by omega) (by omega))))
      have S := S.newW eC m1 (.tup [.str z, .int (((us.length : Nat) : Int) - 1)])
      have eL := wo_mono (C := C2) (fun b o _ e => same_new m1 (.tup [.str z, .int (((us.length : Nat) : Int) - 1)]) b o e) _ _ eL
      have eC := same_at (o := .tup [.str z, .int (((us.length : Nat) : Int) - 1)]) m1 eC
      generalize upd H' b1 (.tup [.str z, .int (((us.length : Nat) : Int) - 1)]) = G1 at S g1 eL eC ⊢
      refine ⟨(by show 1 ≤ sizeLine; decide), fun b2 m2 => ?_⟩
      have g2 := S.tupW eC m2 (Gl.one g1)
      have S := S.newW eC m2 (.tup [.ref b1])
      have eL := wo_mono (C := C2) (fun b o _ e => same_new m2 (.tup [.ref b1]) b o e) _ _ eL
      have eC := same_at (o := .tup [.ref b1]) m2 eC
      generalize upd G1 b2 (.tup [.ref b1]) = G2 at S g2 eL eC ⊢
      refine ⟨(by show 2 ≤ sizeLine; decide), fun b3 m3 => ?_⟩
      have g3 := S.tupW eC m3 (Gl.cons (S.fx.gt) (Gl.one (g2.mono (Nat.le_refl _) (show 0 + 1 + 1 ≤ 5 by omega) (Nat.le_refl _))))
      have S := S.newW eC m3 (.tup [tv, .ref b2])
      have eL := wo_mono (C := C2) (fun b o _ e => same_new m3 (.tup [tv, .ref b2]) b o e) _ _ eL
      have eC := same_at (o := .tup [tv, .ref b2]) m3 eC
      generalize upd G2 b3 (.tup [tv, .ref b2]) = G3 at S g3 eL eC ⊢
      refine ⟨(by show 1 ≤ sizeLine; decide), fun b4 m4 => ?_⟩
      refine S.catW eC lu m4 g3 (by omega) (by omega) fun r G4 s4 S g4 => ?_
      have eL := wo_mono (C := C2) (fun b o _ e => s4 b o e) _ _ eL
      have eC := s4 _ _ eC
      refine ⟨C2, ys, _, rfl, rfl, eC, (by rw [yl]; show _ < (16777216 : Nat); have := (List.getElem?_eq_some_iff.mp hz).1; omega), ?_⟩
      refine ⟨ys ++ [.ref r], _, rfl, upd_same, (by rw [List.length_append, yl]; rfl), ?_, ?_⟩
      · rw [wo_self]
        exact ⟨S.dk, S.fx, S.ag.app (AllG.cons g4 AllG.nil)⟩
      · rw [wo_self]
        exact eL
    · -- three kinds of links
      clear S eL eC2 okx hw0 wsw hwl
      obtain ⟨ys, o9, rfl, eC, yl, S, _⟩ := hp
      have yl : ys.length = 22 := by rw [yl, l11]
      have ew := wo_same _ _ S.fx.ew
      refine ⟨_, rfl, wy, _, 0, vt w0, rfl, rfl, SqL.of ew, at0, (by show 2 ≤ sizeLine; decide), fun b1 m1 => ?_⟩
      have g1 := S.tupW eC m1 (Gl.cons (B := 0) (Gm.str a0) (Gl.one (Gm.int (i := 0) (by omega) (by omega))))
      have S := S.newW eC m1 (.tup [vt w0, .int 0])
      have eC := same_at (o := .tup [vt w0, .int 0]) m1 eC
      generalize upd H' b1 (.tup [vt w0, .int 0]) = G1 at S eC g1 ⊢
      have ew := wo_same _ _ S.fx.ew
      refine ⟨_, rfl, wy, _, 0, vt w0, rfl, rfl, SqL.of ew, at0, (by show 2 ≤ sizeLine; decide), fun b2 m2 => ?_⟩
      have g2 := S.tupW eC m2 (Gl.cons (B := 0) (Gm.str a0) (Gl.one (Gm.int (i := 0) (by omega) (by omega))))
      have S := S.newW eC m2 (.tup [vt w0, .int 0])
      have g1 := g1.same (wo_mono (C := C2) fun b o _ e => same_new m2 (.tup [vt w0, .int 0]) b o e)
      have eC := same_at (o := .tup [vt w0, .int 0]) m2 eC
      generalize upd G1 b2 (.tup [vt w0, .int 0]) = G2 at S eC g1 g2 ⊢
      refine ⟨(by show 2 ≤ sizeLine; decide), fun b3 m3 => ?_⟩
      have g3 := S.tupW eC m3 (Gl.cons g1 (Gl.one g2))
      have S := S.newW eC m3 (.tup [.ref b1, .ref b2])
      have eC := same_at (o := .tup [.ref b1, .ref b2]) m3 eC
      generalize upd G2 b3 (.tup [.ref b1, .ref b2]) = G3 at S eC g3 ⊢
      clear g1 g2 m1 m2 m3 ew
      have g3 := g3.mono (W' := 10000) (B' := 5) (by omega) (by omega) (Nat.le_refl _)
      have ew := wo_same _ _ S.fx.ew
      have ewx : (ws.map tx).map V.str = ws.map vt := by rw [List.map_map]; rfl
      refine ⟨_, rfl, wy, ws.map tx, rfl, SqL.of (by rw [ewx]; exact ew), (by rw [List.length_map]; omega), fun zT py perm so npy => ?_⟩
      have lz : zT.length ≤ 8 := by rw [perm.length_eq, List.length_map]; exact lws
      have hzT : ∀ z ∈ zT, Asc 0 z := fun z hz => by
        obtain ⟨q, hq, rfl⟩ := List.mem_map.mp (perm.mem_iff.mp hz)
        exact wsg q hq
      have ey := upd_same (H := G3) (a := py) (o := .lst (zT.map V.str))
      have S := S.newW eC npy (.lst (zT.map V.str))
      have g3 := g3.same (wo_mono (C := C2) fun b o _ e => same_new npy (.lst (zT.map V.str)) b o e)
      have eC := same_at (o := .lst (zT.map V.str)) npy eC
      generalize upd G3 py (.lst (zT.map V.str)) = G4 at S eC ey g3 ⊢
      refine ⟨py, _, rfl, SqL.of ey, fun pr npr => ?_⟩
      have er := upd_same (H := G4) (a := pr) (o := .lst (zT.map V.str).reverse)
      have S := S.newW eC npr (.lst (zT.map V.str).reverse)
      have g3 := g3.same (wo_mono (C := C2) fun b o _ e => same_new npr (.lst (zT.map V.str).reverse) b o e)
      have eC := same_at (o := .lst (zT.map V.str).reverse) npr eC
      generalize upd G4 pr (.lst (zT.map V.str).reverse) = G5 at S eC er g3 ⊢
      clear ew ewx ey npy npr so perm
      refine ⟨pr, rfl, ⟨_, SqL.of er⟩, fun L2 nL2 => ?_⟩
      have nLC : L2 ≠ C2 := fun z => by rw [z, eC] at nL2; cases nL2
      refine lc_list (K := K) (a := pr) (xs := (zT.map V.str).reverse) (fun j H' => Same G5 H' ∧ ∃ acc : List V, H' L2 = some (.lst acc) ∧ acc.length = j ∧ Gl D (wo (wo H' C2) L2) (942 * j) 1 0 acc) ⟨same_new nL2 _, [], upd_same, rfl, Gl.nil⟩ (fun j H' _ hp => SqL.of (hp.1 _ _ er)) (fun j z H' hz hp => ?_) (fun H' hp => ?_)
      · obtain ⟨sm, acc, eA, lA, gA⟩ := hp
        obtain ⟨z, hz2, rfl⟩ := List.mem_map.mp (List.mem_reverse.mp (List.mem_of_getElem? hz))
        have hj : j < 8 := by
          have := (List.getElem?_eq_some_iff.mp hz).1
          rw [List.length_reverse, List.length_map] at this
          omega
        refine ⟨rfl, kept ⟨_, rfl, (by show 2 ≤ sizeLine; decide), fun b m => ?_⟩⟩
        have nbL : b ≠ L2 := fun z => by rw [z, eA] at m; cases m
        have nbC : b ≠ C2 := fun z => by rw [z, sm _ _ eC] at m; cases m
        have ob : Off D b := (S.dkw.same sm).new m
        have e1 : wo (wo (upd H' b (.tup [.str z, .int 0])) C2) L2 = upd (wo (wo H' C2) L2) b (.tup [.str z, .int 0]) := by rw [wo_upd nbC, wo_upd nbL]
        have gb : Gm D (wo (wo (upd H' b (.tup [.str z, .int 0])) C2) L2) 940 1 0 (.ref b) := by
          rw [e1]
          exact (Gl.tup (Gl.cons (B := 0) (Gm.str (hzT z hz2)) (Gl.one (Gm.int (i := 0) (by omega) (by omega)))) ob upd_same).mono (by omega) (Nat.le_refl _) (Nat.le_refl _)
        have gA' : Gl D (wo (wo (upd H' b (.tup [.str z, .int 0])) C2) L2) (942 * j) 1 0 acc := by
          rw [e1]
          exact gA.same (same_new (wo_none (wo_none m)) _)
        refine ⟨acc, same_new m _ _ _ eA, (by rw [lA]; show j < 16777216; omega), fun b' o e => ?_, acc ++ [.ref b], upd_same, (by rw [List.length_append, lA]; rfl), ?_⟩
        · rw [upd_ne (ne_of_none e nL2)]
          exact same_new m _ _ _ (sm _ _ e)
        · rw [wo_upd nLC, wo_self]
          exact (gA'.app (Gl.one gb)).mono (by omega) (Nat.le_refl _)
      obtain ⟨sm, acc, eA, lA, gA⟩ := hp
      have lA : acc.length ≤ 8 := by rw [lA, List.length_reverse, List.length_map]; exact lz
      rw [List.length_reverse, List.length_map] at gA
      have gA := gA.same wo_same
      have S := S.same (wo_mono (C := C2) fun b o _ e => sm b o e)
      have g3 := g3.same (wo_mono (C := C2) fun b o _ e => sm b o e)
      have eC := sm _ _ eC
      clear sm er nLC nL2
      refine ⟨L2, acc, rfl, .inl ⟨SqL.of eA, fun b4 m4 => ?_⟩⟩
      have g4 := S.tupW eC m4 gA
      have S := S.newW eC m4 (.tup acc)
      have g3 := g3.same (wo_mono (C := C2) fun b o _ e => same_new m4 (.tup acc) b o e)
      have eC := same_at (o := .tup acc) m4 eC
      generalize upd H' b4 (.tup acc) = G6 at S eC g3 g4 ⊢
      have g4 := g4.mono (W' := 10000) (B' := 5) (by omega) (by omega) (Nat.le_refl _)
      clear eA gA m4 lA
      have ew := wo_same _ _ S.fx.ew
      refine ⟨_, rfl, wy, _, 0, vt w0, rfl, rfl, SqL.of ew, at0, (by show 2 ≤ sizeLine; decide), fun b1 m1 => ?_⟩
      have g1 := S.tupW eC m1 (Gl.cons (B := 0) (Gm.str a0) (Gl.one (Gm.int (i := 0) (by omega) (by omega))))
      have S := S.newW eC m1 (.tup [vt w0, .int 0])
      have g3 := g3.same (wo_mono (C := C2) fun b o _ e => same_new m1 (.tup [vt w0, .int 0]) b o e)
      have g4 := g4.same (wo_mono (C := C2) fun b o _ e => same_new m1 (.tup [vt w0, .int 0]) b o e)
      have eC := same_at (o := .tup [vt w0, .int 0]) m1 eC
      generalize upd G6 b1 (.tup [vt w0, .int 0]) = G7 at S eC g1 g3 g4 ⊢
      refine ⟨(by show 1 ≤ sizeLine; decide), fun b5 m5 => ?_⟩
      have g5 := S.lstW eC m5 (Gl.one g1)
      have S := S.newW eC m5 (.lst [.ref b1])
      have g3 := g3.same (wo_mono (C := C2) fun b o _ e => same_new m5 (.lst [.ref b1]) b o e)
      have g4 := g4.same (wo_mono (C := C2) fun b o _ e => same_new m5 (.lst [.ref b1]) b o e)
      have eC := same_at (o := .lst [.ref b1]) m5 eC
      generalize upd G7 b5 (.lst [.ref b1]) = G8 at S eC g3 g4 g5 ⊢
      have g5 := g5.mono (W' := 10000) (B' := 5) (by omega) (by omega) (Nat.le_refl _)
      clear g1 m1 m5 ew
      refine ⟨(by show 3 ≤ sizeLine; decide), fun L3 nL3 => ?_⟩
      have eL : wo (upd G8 L3 (.lst [.ref b3, .ref b4, .ref b5])) C2 L3 = some (.lst [.ref b3, .ref b4, .ref b5]) := by
        rw [wo_at (fun z => by rw [z, eC] at nL3; cases nL3)]
        exact upd_same
      have S := S.newW eC nL3 (.lst [.ref b3, .ref b4, .ref b5])
      have g3 := g3.same (wo_mono (C := C2) fun b o _ e => same_new nL3 (.lst [.ref b3, .ref b4, .ref b5]) b o e)
      have g4 := g4.same (wo_mono (C := C2) fun b o _ e => same_new nL3 (.lst [.ref b3, .ref b4, .ref b5]) b o e)
      have g5 := g5.same (wo_mono (C := C2) fun b o _ e => same_new nL3 (.lst [.ref b3, .ref b4, .ref b5]) b o e)
      have eC := same_at (o := .lst [.ref b3, .ref b4, .ref b5]) nL3 eC
      generalize upd G8 L3 (.lst [.ref b3, .ref b4, .ref b5]) = G9 at S eC eL g3 g4 g5 ⊢
      have okl : ∀ x ∈ [V.ref b3, .ref b4, .ref b5], Gm D (wo G9 C2) 10000 5 0 x := by
        intro x hx
        simp only [List.mem_cons, List.not_mem_nil, or_false] at hx
        rcases hx with rfl | rfl | rfl
        · exact g3
        · exact g4
        · exact g5
      have l3 : [V.ref b3, .ref b4, .ref b5].length = 3 := rfl
      clear g3 g4 g5 nL3
      generalize [V.ref b3, .ref b4, .ref b5] = xl at eL okl l3 ⊢
      refine ⟨L3, rfl, ⟨_, SqL.of (wo_same _ _ eL)⟩, ?_⟩
      refine for_list (K := K) (a := L3) (xs := xl) (fun j σ H' => ∃ (ys : List V) (o10 : Option V), σ = [some (.ref a), some (.ref D.dk), some (.int (0 + (i : Int))), some (.ref p), some (.int ((us.length : Nat) : Int)), some tv, some (.ref q3), some (.ref wy), some (.ref C2), o9, o10, o11, o12, o13, o14, o15] ∧ H' C2 = some (.lst ys) ∧ ys.length = 22 + j ∧ Sx D (wo H' C2) c4 p wy us tv (.ref q3) ws ys ∧ wo H' C2 L3 = some (.lst xl) ∧ Same (wo G9 C2) (wo H' C2))
        ⟨ys, _, rfl, eC, yl, S, eL, Same.refl _⟩ (fun j σ H' _ hp => by obtain ⟨_, _, _, _, _, _, h, _⟩ := hp; exact SqL.of (wo_same _ _ h)) (fun j z σ H' hz hp => ?_) (fun σ H' hp => ?_)
      · clear S eL eC yl
        obtain ⟨ys, o10, rfl, eC, yl, S, eL, sm⟩ := hp
        have g2 := (okl z (List.mem_of_getElem? hz)).same sm
        refine ⟨_, rfl, .inl ⟨rfl, _, SqL.of eC⟩, _, rfl, _, rfl, _, rfl, ?_⟩
        refine ⟨(by show 2 ≤ sizeLine; decide), fun b3 m3 => ?_⟩
        have g3 := S.tupW eC m3 (Gl.cons (S.fx.gt) (Gl.one g2))
        have S := S.newW eC m3 (.tup [tv, z])
        have eL := wo_mono (C := C2) (fun b o _ e => same_new m3 (.tup [tv, z]) b o e) _ _ eL
        have sm := sm.trans (wo_mono (C := C2) (fun b o _ e => same_new m3 (.tup [tv, z]) b o e))
        have eC := same_at (o := .tup [tv, z]) m3 eC
        generalize upd H' b3 (.tup [tv, z]) = K3 at S g3 eL eC sm ⊢
        refine ⟨(by show 1 ≤ sizeLine; decide), fun b4 m4 => ?_⟩
        refine S.catW eC lu m4 g3 (by omega) (by omega) fun r K4 s4 S g4 => ?_
        have eL := wo_mono (C := C2) (fun b o _ e => s4 b o e) _ _ eL
        have sm := sm.trans (wo_mono (C := C2) (fun b o _ e => s4 b o e))
        have eC := s4 _ _ eC
        refine ⟨C2, ys, _, rfl, rfl, eC, (by rw [yl]; show _ < (16777216 : Nat); have := (List.getElem?_eq_some_iff.mp hz).1; omega), ?_⟩
        refine ⟨ys ++ [.ref r], _, rfl, upd_same, (by rw [List.length_append, yl]; rfl), ?_, ?_, ?_⟩
        · rw [wo_self]
          exact ⟨S.dk, S.fx, S.ag.app (AllG.cons g4 AllG.nil)⟩
        · rw [wo_self]
          exact eL
        · rw [wo_self]
          exact sm
      -- three more
      clear S eL eC okl yl
      obtain ⟨ys, o10, rfl, eC, yl, S, _, _⟩ := hp
      rw [l3] at yl
      have S := S.same wo_same
      have ew := S.fx.ew
      refine ⟨_, rfl, _, rfl, _, rfl, _, rfl, wy, _, 0, vt w0, rfl, rfl, SqL.of ew, at0, (by show 2 ≤ sizeLine; decide), fun b1 m1 => ?_⟩
      have g1 := S.tup m1 (Gl.cons (B := 0) (Gm.str a0) (Gl.one (Gm.bl true)))
      have S := S.new m1 (.tup [vt w0, .bl true])
      have eC := same_at (o := .tup [vt w0, .bl true]) m1 eC
      generalize upd H' b1 (.tup [vt w0, .bl true]) = A1 at S eC g1 ⊢
      refine ⟨(by show 1 ≤ sizeLine; decide), fun b2 m2 => ?_⟩
      have g2 := S.tup m2 (Gl.one g1)
      have S := S.new m2 (.tup [.ref b1])
      have eC := same_at (o := .tup [.ref b1]) m2 eC
      generalize upd A1 b2 (.tup [.ref b1]) = A2 at S eC g2 ⊢
      refine ⟨(by show 2 ≤ sizeLine; decide), fun b3 m3 => ?_⟩
      have g3 := S.tup m3 (Gl.cons (S.fx.gt) (Gl.one (g2.mono (Nat.le_refl _) (show 0 + 1 + 1 ≤ 5 by omega) (Nat.le_refl _))))
      have S := S.new m3 (.tup [tv, .ref b2])
      have eC := same_at (o := .tup [tv, .ref b2]) m3 eC
      generalize upd A2 b3 (.tup [tv, .ref b2]) = A3 at S eC g3 ⊢
      refine ⟨(by show 1 ≤ sizeLine; decide), fun b4 m4 => ?_⟩
      refine S.cat lu m4 g3 (by omega) (by omega) fun rA A4 s4 S g4 => ?_
      have eC := s4 _ _ eC
      have S := S.put g4
      clear g1 g2 g3 g4 m1 m2 m3 m4 s4 ew
      have ew := S.fx.ew
      refine ⟨_, rfl, _, rfl, _, rfl, wy, _, 0, vt w0, rfl, rfl, SqL.of ew, at0, _, rfl, (by show 2 ≤ sizeLine; decide), fun b1 m1 => ?_⟩
      have g1 := S.tup m1 (Gl.cons (B := 0) (Gm.str a0) (Gl.one (Gm.int (i := -1) (by omega) (by omega))))
      have S := S.new m1 (.tup [vt w0, .int (-1)])
      have eC := same_at (o := .tup [vt w0, .int (-1)]) m1 eC
      generalize upd A4 b1 (.tup [vt w0, .int (-1)]) = B1 at S eC g1 ⊢
      refine ⟨(by show 1 ≤ sizeLine; decide), fun b2 m2 => ?_⟩
      have g2 := S.tup m2 (Gl.one g1)
      have S := S.new m2 (.tup [.ref b1])
      have eC := same_at (o := .tup [.ref b1]) m2 eC
      generalize upd B1 b2 (.tup [.ref b1]) = B2 at S eC g2 ⊢
      refine ⟨(by show 2 ≤ sizeLine; decide), fun b3 m3 => ?_⟩
      have g3 := S.tup m3 (Gl.cons (S.fx.gt) (Gl.one (g2.mono (Nat.le_refl _) (show 0 + 1 + 1 ≤ 5 by omega) (Nat.le_refl _))))
      have S := S.new m3 (.tup [tv, .ref b2])
      have eC := same_at (o := .tup [tv, .ref b2]) m3 eC
      generalize upd B2 b3 (.tup [tv, .ref b2]) = B3 at S eC g3 ⊢
      refine ⟨(by show 1 ≤ sizeLine; decide), fun b4 m4 => ?_⟩
      refine S.cat lu m4 g3 (by omega) (by omega) fun rB B4 s4 S g4 => ?_
      have eC := s4 _ _ eC
      have S := S.put g4
      clear g1 g2 g3 g4 m1 m2 m3 m4 s4 ew
      refine ⟨_, rfl, D, c4, rfl, S.dk, by omega, fun v d F1 dq gv wv pv mv dk' sd => ?_⟩
      have go : Gm D F1 3000 3 0 v := ⟨d, dq, gv, List.all_eq_true.mp odds_tm d mv, wv, pv⟩
      have S : Sx D F1 (c4 + 1) p wy us tv (.ref q3) ws (v :: .ref rB :: .ref rA :: ys) := ⟨dk', S.fx.sameD sd, AllG.cons go (S.ag.sameD sd)⟩
      have eC := sd.at oC2 eC
      clear go dq dk' sd
      refine ⟨(by show 3 ≤ sizeLine; decide), fun L nL => ?_⟩
      have eL := upd_same (H := F1) (a := L) (o := .lst [.ref rA, .ref rB, v])
      have S := S.new nL (.lst [.ref rA, .ref rB, v])
      have eC := same_at (o := .lst [.ref rA, .ref rB, v]) nL eC
      generalize upd F1 L (.lst [.ref rA, .ref rB, v]) = F2 at S eL eC ⊢
      refine ⟨C2, L, ys, _, rfl, rfl, eC, eL, (by rw [yl]; show 22 + 3 + 3 ≤ sizeLine; decide), fun C3 nC3 => ?_⟩
      have eC3 := upd_same (H := F2) (a := C3) (o := .lst (ys ++ [.ref rA, .ref rB, v]))
      have oC3 := S.dk.new nC3
      have ag : AllG D F2 (ys ++ [.ref rA, .ref rB, v]) := fun z hz => S.ag z (by
        rcases List.mem_append.mp hz with hz | hz
        · exact List.mem_cons_of_mem _ (List.mem_cons_of_mem _ (List.mem_cons_of_mem _ hz))
        · simp only [List.mem_cons, List.not_mem_nil, or_false] at hz
          rcases hz with rfl | rfl | rfl
          · exact List.mem_cons_of_mem _ (List.mem_cons_of_mem _ List.mem_cons_self)
          · exact List.mem_cons_of_mem _ List.mem_cons_self
          · exact List.mem_cons_self)
      have S : Sx D F2 (c4 + 1) p wy us tv (.ref q3) ws (ys ++ [.ref rA, .ref rB, v]) := ⟨S.dk, S.fx, ag⟩
      have S := S.new nC3 (.lst (ys ++ [.ref rA, .ref rB, v]))
      have ly : (ys ++ [V.ref rA, .ref rB, v]).length = 28 := by rw [List.length_append, yl]; rfl
      clear eC eL ag nL yl nC3 eC2
      generalize upd F2 C3 (.lst (ys ++ [.ref rA, .ref rB, v])) = F3 at S eC3 ⊢
      generalize ys ++ [V.ref rA, .ref rB, v] = zs2 at S eC3 ly ⊢
      -- fourteen times two changed ones
      refine ⟨14, rfl, by decide, by decide, ?_⟩
      refine for_range (lo := 0) (n := 14) (fun k σ H' => ∃ (C : Addr) (ys : List V) (c5 : Nat) (o12 o13 : Option V), σ = [some (.ref a), some (.ref D.dk), some (.int (0 + (i : Int))), some (.ref p), some (.int ((us.length : Nat) : Int)), some tv, some (.ref q3), some (.ref wy), some (.ref C), o9, o10, o11, o12, o13, o14, o15] ∧ H' C = some (.lst ys) ∧ Off D C ∧ ys.length = 28 + 2 * k ∧ Sx D H' c5 p wy us tv (.ref q3) ws ys ∧ c5 ≤ 10000 * i + 4100 + 40 * k)
        ⟨C3, _, _, _, _, rfl, eC3, oC3, ly, S, by omega⟩ (fun k σ H' hk hp => ?_) (fun σ H' hp => ?_)
      · clear S eC3 oC3 ly
        obtain ⟨C, ys, c5, o12, o13, rfl, eC, oC, yl, S, hc5⟩ := hp
        dsimp only [gName]
        obtain ⟨d, n1, n2, n3, n4, n5⟩ := S.nest
        refine ⟨_, rfl, _, rfl, D, c5, 0, 5, .ref p, d, rfl, S.dk, by omega, n1, n2, n3, by omega, by omega, by omega, by omega, fun v1 c6 G1 dk1 hc6 sd1 gm1 => ?_⟩
        have gm1 := gm1.mono (W' := 122006) (B' := 10) (m' := 1) (by omega) (by omega) (by omega)
        have S : Sx D G1 c6 p wy us tv (.ref q3) ws ys := ⟨dk1, S.fx.sameD sd1, S.ag.sameD sd1⟩
        have eC := sd1.at oC eC
        clear dk1 sd1 n1 n2 n3 n4 n5
        obtain ⟨d1, k1, k2, k3, k4, k5⟩ := id gm1
        refine ⟨_, rfl, _, rfl, _, rfl, _, rfl, D, c6, 1, 5, v1, d1, rfl, S.dk, by omega, k1, k2, k3, by omega, by omega, by omega, by omega, fun v2 c7 G2 dk2 hc7 sd2 gm2 => ?_⟩
        have gm2 := gm2.mono (W' := 320000) (B' := 30) (m' := 2) (by omega) (by omega) (by omega)
        have S : Sx D G2 c7 p wy us tv (.ref q3) ws (v2 :: v1 :: ys) := ⟨dk2, S.fx.sameD sd2, AllG.cons gm2 (AllG.cons (gm1.sameD sd2) (S.ag.sameD sd2))⟩
        have eC := sd2.at oC eC
        clear dk2 sd2 gm1 gm2 k1 k2 k3 k4 k5
        refine ⟨(by show 2 ≤ sizeLine; decide), fun L nL => ?_⟩
        have eL := upd_same (H := G2) (a := L) (o := .lst [v1, v2])
        have S := S.new nL (.lst [v1, v2])
        have eC := same_at (o := .lst [v1, v2]) nL eC
        generalize upd G2 L (.lst [v1, v2]) = G3 at S eL eC ⊢
        refine ⟨C, L, ys, _, rfl, rfl, eC, eL, (by rw [yl]; show _ ≤ (16777216 : Nat); show 28 + 2 * k + 2 ≤ _; omega), fun C4 nC4 => ?_⟩
        refine ⟨C4, ys ++ [v1, v2], c7, _, _, rfl, upd_same, S.dk.new nC4, (by rw [List.length_append, yl]; show 28 + 2 * k + 2 = _; omega), ⟨S.dk.same (same_new nC4 _), S.fx.same (same_new nC4 _), fun z hz => (S.ag.same (same_new nC4 _)) z (by
          rcases List.mem_append.mp hz with hz | hz
          · exact List.mem_cons_of_mem _ (List.mem_cons_of_mem _ hz)
          · simp only [List.mem_cons, List.not_mem_nil, or_false] at hz
            rcases hz with rfl | rfl
            · exact List.mem_cons_of_mem _ List.mem_cons_self
            · exact List.mem_cons_self)⟩, by omega⟩
      clear S eC3 oC3 ly
      obtain ⟨C, ys, c5, o12, o13, rfl, eC, oC, yl, S, hc5⟩ := hp
      -- each of them is asked
      refine ⟨_, rfl, C, rfl, ⟨_, SqL.of eC⟩, ?_⟩
      refine for_list (K := K) (a := C) (xs := ys) (fun j σ H2' => ∃ (o14 o15 : Option V), σ = [some (.ref a), some (.ref D.dk), some (.int (0 + (i : Int))), some (.ref p), some (.int ((us.length : Nat) : Int)), some tv, some (.ref q3), some (.ref wy), some (.ref C), o9, o10, o11, o12, o13, o14, o15] ∧ Same H' H2') ⟨_, _, rfl, Same.refl _⟩ (fun j σ H2' _ hp => by obtain ⟨_, _, _, sm⟩ := hp; exact SqL.of (sm _ _ eC)) (fun j z σ Hz hz hp => ?_) (fun σ Hz hp => ?_)
      · obtain ⟨o14, o15, rfl, sm⟩ := hp
        obtain ⟨d, g1, g2, g3, g4, g5⟩ := (S.ag z (List.mem_of_getElem? hz)).same sm
        refine ⟨_, rfl, z, D, d, rfl, g1, g2, by omega, by omega, ?_⟩
        refine ⟨_, rfl, z, D, d, rfl, g1, g2, by omega, fun K1 s1 => ⟨_, rfl, z, D, d, rfl, dq_same s1 g1, g2, by omega, by omega, fun K2 s2 => ?_⟩⟩
        refine ⟨.bl (nestB d), .bl (nestB d), D, .bool (nestB d), rfl, .bl _, .bl _, rfl, (by simp only [wt]; omega), (by simp only [PyData.depth]; omega), true, rfl, ?_⟩
        refine iteF ?_
        refine ⟨_, rfl, z, D, d, rfl, dq_same (s1.trans s2) g1, g2, by omega, by omega, _, rfl, rfl, _, rfl, ?_⟩
        rw [decide_eq_true (rfl : V.str _ = V.str _)]
        exact iteF ⟨_, _, rfl, sm.trans (s1.trans s2)⟩
      obtain ⟨o14, o15, rfl, sm⟩ := hp
      exact ⟨_, _, _, _, _, _, _, _, _, _, _, _, _, _, _, rfl, S.dk.same sm, by omega⟩
  · obtain ⟨o2, o3, o4, o5, o6, o7, o8, o9, o10, o11, o12, o13, o14, o15, c, rfl, d2, hc⟩ := hp
    exact rfl
end
/-! ### what the top has left -/
theorem all_mk {l : PySem.W.OpenLaw} {w : World} {K : PySem.W.Frag} {h : Heap} {mg : Str → Option Value} {fa f1 f2 f3 f4 f5 f6 f7 f8 f9 f10 f11 f12 f13 f14 f15 f16 f17 f18 f19 f20 f21 f22 f23 f24 f25 f26 f27 f28 C_NoPath i_NoPath : Addr} (X : K.In h) (G : h.Ns mainGlobals mg) (hfa : mg "law" = some (.ref fa))
    {od1 an1 od2 an2 od3 an3 od4 an4 od5 an5 od6 an6 od7 an7 od8 an8 od9 an9 od10 an10 od11 an11 od12 an12 od13 an13 od14 an14 od15 an15 od16 an16 od17 an17 od18 an18 od19 an19 od20 an20 od21 an21 od22 an22 od23 an23 od24 an24 od25 an25 od26 an26 od27 an27 od28 an28 : Option Addr} {sl1 sl2 sl3 sl4 sl5 sl6 sl7 sl8 sl9 sl10 sl11 sl12 sl13 sl14 sl15 sl16 sl17 sl18 sl19 sl20 sl21 sl22 sl23 sl24 sl25 sl26 sl27 sl28 : Array (Option Value)}
    {oc1 kV1 dc1 pm1 cd1 ct1 oc2 kV2 dc2 pm2 cd2 ct2 oc3 kV3 dc3 pm3 cd3 ct3 oc4 kV4 dc4 pm4 cd4 ct4 oc5 kV5 dc5 pm5 cd5 ct5 oc6 kV6 dc6 pm6 cd6 ct6 oc7 kV7 dc7 pm7 cd7 ct7 oc8 kV8 dc8 pm8 cd8 ct8 oc9 kV9 dc9 pm9 cd9 ct9 oc10 kV10 dc10 pm10 cd10 ct10 oc11 kV11 dc11 pm11 cd11 ct11 oc12 kV12 dc12 pm12 cd12 ct12 oc13 kV13 dc13 pm13 cd13 ct13 oc14 kV14 dc14 pm14 cd14 ct14 oc15 kV15 dc15 pm15 cd15 ct15 oc16 kV16 dc16 pm16 cd16 ct16 oc17 kV17 dc17 pm17 cd17 ct17 oc18 kV18 dc18 pm18 cd18 ct18 oc19 kV19 dc19 pm19 cd19 ct19 oc20 kV20 dc20 pm20 cd20 ct20 oc21 kV21 dc21 pm21 cd21 ct21 oc22 kV22 dc22 pm22 cd22 ct22 oc23 kV23 dc23 pm23 cd23 ct23 oc24 kV24 dc24 pm24 cd24 ct24 oc25 kV25 dc25 pm25 cd25 ct25 oc26 kV26 dc26 pm26 cd26 ct26 oc27 kV27 dc27 pm27 cd27 ct27 oc28 kV28 dc28 pm28 cd28 ct28 : Value} {t1 t2 : Tok}
    {nm_NoPath q_NoPath : Str} {N_NoPath : Addr} {bs_NoPath sub_NoPath : List Value} {sn_NoPath : List Str} {ab_NoPath : Bool} {col_NoPath : Option Bool} {dd_NoPath : Option Addr} {m0_NoPath m1_NoPath m2_NoPath m3_NoPath m5_NoPath : Option Value}  {oc_NoPath dc_NoPath pm_NoPath cd_NoPath ct_NoPath : Value} {od_NoPath an_NoPath : Option Addr} {sl_NoPath : Array (Option Value)}
    (a_NoPath : PySem.W.nsIn K mainGlobals "NoPath" = some (some (.ref C_NoPath)))
    (x_NoPath : K.lookup C_NoPath = some (excClassObj nm_NoPath q_NoPath C_NoPath N_NoPath bs_NoPath [.type "LookupError", .type "Exception", .type "BaseException", .type "object"] true sn_NoPath sub_NoPath ab_NoPath col_NoPath dd_NoPath m0_NoPath m1_NoPath m2_NoPath m3_NoPath m5_NoPath "LookupError.__new__"))
    (sa_NoPath : PySem.W.findIn K (.ref C_NoPath) "__setattr__" = some (some (.builtin "object.__setattr__")))
    (ga_NoPath : PySem.W.findIn K (.ref C_NoPath) "__getattribute__" = some (some (.builtin "BaseException.__getattribute__")))
    (gg_NoPath : PySem.W.findIn K (.ref C_NoPath) "__getattr__" = some none)
    (nb_NoPath : PySem.W.findIn K (.ref C_NoPath) "value" = some none)
    (ii_NoPath : PySem.W.findIn K (.ref C_NoPath) "__init__" = some (some (.ref i_NoPath)))
    (ti_NoPath : PySem.W.typeIn K (.ref i_NoPath) = some (.type "function"))
    (li_NoPath : K.lookup i_NoPath = some ⟨oc_NoPath, od_NoPath, .func (PySem.W.fnOf "__init__" "NoPath.__init__" (iA_value ⟨6, 17, 6, 21⟩ ⟨6, 23, 6, 28⟩) (iB_value ⟨7, 8, 7, 12⟩ ⟨7, 8, 7, 18⟩ ⟨7, 21, 7, 26⟩ ⟨7, 8, 7, 26⟩) iS_value .none .none dc_NoPath pm_NoPath an_NoPath cd_NoPath ct_NoPath), sl_NoPath⟩)
    (ci_NoPath : PySem.W.codeIn K cd_NoPath "NoPath.__init__" = true)
    (kC_NoPath : PySem.W.keepIn K (.ref C_NoPath) = true)
    (eC_NoPath : PySem.W.subIn K (.ref C_NoPath) (.type "BaseException") = some true)
    (tC_NoPath : PySem.W.typeIn K (.ref C_NoPath) = some (.type "type"))
    (hC_NoPath : PySem.W.hasDictIn K C_NoPath = true)
    (h1_NoPath : PySem.W.findIn K (.ref C_NoPath) "__class__" = some (some (.builtin "object.__class__")))
    (h2_NoPath : PySem.W.specialIn K (.builtin "object.__class__") "__get__" = some (some (.builtin "getset_descriptor.__get__")))
    (h3_NoPath : PySem.W.takesIn K (.builtin "object.__class__") = some true)
    (h4_NoPath : PySem.W.mroIn K C_NoPath (.type "object") = some true)
    (ePP : PySem.W.exmOne K (.ref C_NoPath) (.ref C_NoPath) = some true)
    (a1 : PySem.W.nsIn K mainGlobals "is_letter" = some (some (.ref f1)))
    (l1 : K.lookup f1 = some ⟨oc1, od1, .func (PySem.W.fnOf "is_letter" "is_letter" (defArgs s_is_letter) (defBody s_is_letter) (defScope s_is_letter) .none kV1 dc1 pm1 an1 cd1 ct1), sl1⟩)
    (c1 : PySem.W.codeIn K cd1 "is_letter" = true)
    (k1 : PySem.W.keepIn K (.ref f1) = true)
    (a2 : PySem.W.nsIn K mainGlobals "is_whole_number" = some (some (.ref f2)))
    (l2 : K.lookup f2 = some ⟨oc2, od2, .func (PySem.W.fnOf "is_whole_number" "is_whole_number" (defArgs s_is_whole_number) (defBody s_is_whole_number) (defScope s_is_whole_number) .none kV2 dc2 pm2 an2 cd2 ct2), sl2⟩)
    (c2 : PySem.W.codeIn K cd2 "is_whole_number" = true)
    (k2 : PySem.W.keepIn K (.ref f2) = true)
    (a3 : PySem.W.nsIn K mainGlobals "is_index" = some (some (.ref f3)))
    (l3 : K.lookup f3 = some ⟨oc3, od3, .func (PySem.W.fnOf "is_index" "is_index" (defArgs s_is_index) (defBody s_is_index) (defScope s_is_index) .none kV3 dc3 pm3 an3 cd3 ct3), sl3⟩)
    (c3 : PySem.W.codeIn K cd3 "is_index" = true)
    (k3 : PySem.W.keepIn K (.ref f3) = true)
    (a4 : PySem.W.nsIn K mainGlobals "is_ascending" = some (some (.ref f4)))
    (l4 : K.lookup f4 = some ⟨oc4, od4, .func (PySem.W.fnOf "is_ascending" "is_ascending" (defArgs s_is_ascending) (defBody s_is_ascending) (defScope s_is_ascending) .none kV4 dc4 pm4 an4 cd4 ct4), sl4⟩)
    (c4 : PySem.W.codeIn K cd4 "is_ascending" = true)
    (k4 : PySem.W.keepIn K (.ref f4) = true)
    (a5 : PySem.W.nsIn K mainGlobals "is_node" = some (some (.ref f5)))
    (l5 : K.lookup f5 = some ⟨oc5, od5, .func (PySem.W.fnOf "is_node" "is_node" (defArgs s_is_node) (defBody s_is_node) (defScope s_is_node) .none kV5 dc5 pm5 an5 cd5 ct5), sl5⟩)
    (c5 : PySem.W.codeIn K cd5 "is_node" = true)
    (k5 : PySem.W.keepIn K (.ref f5) = true)
    (a6 : PySem.W.nsIn K mainGlobals "is_tree" = some (some (.ref f6)))
    (l6 : K.lookup f6 = some ⟨oc6, od6, .func (PySem.W.fnOf "is_tree" "is_tree" (defArgs s_is_tree) (defBody s_is_tree) (defScope s_is_tree) .none kV6 dc6 pm6 an6 cd6 ct6), sl6⟩)
    (c6 : PySem.W.codeIn K cd6 "is_tree" = true)
    (k6 : PySem.W.keepIn K (.ref f6) = true)
    (a7 : PySem.W.nsIn K mainGlobals "part_at" = some (some (.ref f7)))
    (l7 : K.lookup f7 = some ⟨oc7, od7, .func (PySem.W.fnOf "part_at" "part_at" (defArgs s_part_at) (defBody s_part_at) (defScope s_part_at) .none kV7 dc7 pm7 an7 cd7 ct7), sl7⟩)
    (c7 : PySem.W.codeIn K cd7 "part_at" = true)
    (k7 : PySem.W.keepIn K (.ref f7) = true)
    (a8 : PySem.W.nsIn K mainGlobals "is_open" = some (some (.ref f8)))
    (l8 : K.lookup f8 = some ⟨oc8, od8, .func (PySem.W.fnOf "is_open" "is_open" (defArgs s_is_open) (defBody s_is_open) (defScope s_is_open) .none kV8 dc8 pm8 an8 cd8 ct8), sl8⟩)
    (c8 : PySem.W.codeIn K cd8 "is_open" = true)
    (k8 : PySem.W.keepIn K (.ref f8) = true)
    (a9 : PySem.W.nsIn K mainGlobals "is_link" = some (some (.ref f9)))
    (l9 : K.lookup f9 = some ⟨oc9, od9, .func (PySem.W.fnOf "is_link" "is_link" (defArgs s_is_link) (defBody s_is_link) (defScope s_is_link) .none kV9 dc9 pm9 an9 cd9 ct9), sl9⟩)
    (c9 : PySem.W.codeIn K cd9 "is_link" = true)
    (k9 : PySem.W.keepIn K (.ref f9) = true)
    (a10 : PySem.W.nsIn K mainGlobals "is_entry" = some (some (.ref f10)))
    (l10 : K.lookup f10 = some ⟨oc10, od10, .func (PySem.W.fnOf "is_entry" "is_entry" (defArgs s_is_entry) (defBody s_is_entry) (defScope s_is_entry) .none kV10 dc10 pm10 an10 cd10 ct10), sl10⟩)
    (c10 : PySem.W.codeIn K cd10 "is_entry" = true)
    (k10 : PySem.W.keepIn K (.ref f10) = true)
    (a11 : PySem.W.nsIn K mainGlobals "is_nest" = some (some (.ref f11)))
    (l11 : K.lookup f11 = some ⟨oc11, od11, .func (PySem.W.fnOf "is_nest" "is_nest" (defArgs s_is_nest) (defBody s_is_nest) (defScope s_is_nest) .none kV11 dc11 pm11 an11 cd11 ct11), sl11⟩)
    (c11 : PySem.W.codeIn K cd11 "is_nest" = true)
    (k11 : PySem.W.keepIn K (.ref f11) = true)
    (a12 : PySem.W.nsIn K mainGlobals "_law_deck" = some (some (.ref f12)))
    (l12 : K.lookup f12 = some ⟨oc12, od12, .func (PySem.W.fnOf "_law_deck" "_law_deck" (defArgs s__law_deck) (defBody s__law_deck) (defScope s__law_deck) .none kV12 dc12 pm12 an12 cd12 ct12), sl12⟩)
    (c12 : PySem.W.codeIn K cd12 "_law_deck" = true)
    (k12 : PySem.W.keepIn K (.ref f12) = true)
    (a13 : PySem.W.nsIn K mainGlobals "_law_draw" = some (some (.ref f13)))
    (l13 : K.lookup f13 = some ⟨oc13, od13, .func (PySem.W.fnOf "_law_draw" "_law_draw" (defArgs s__law_draw) (defBody s__law_draw) (defScope s__law_draw) .none kV13 dc13 pm13 an13 cd13 ct13), sl13⟩)
    (c13 : PySem.W.codeIn K cd13 "_law_draw" = true)
    (k13 : PySem.W.keepIn K (.ref f13) = true)
    (a14 : PySem.W.nsIn K mainGlobals "_law_pick" = some (some (.ref f14)))
    (l14 : K.lookup f14 = some ⟨oc14, od14, .func (PySem.W.fnOf "_law_pick" "_law_pick" (defArgs s__law_pick) (defBody s__law_pick) (defScope s__law_pick) .none kV14 dc14 pm14 an14 cd14 ct14), sl14⟩)
    (c14 : PySem.W.codeIn K cd14 "_law_pick" = true)
    (k14 : PySem.W.keepIn K (.ref f14) = true)
    (a15 : PySem.W.nsIn K mainGlobals "_law_same" = some (some (.ref f15)))
    (l15 : K.lookup f15 = some ⟨oc15, od15, .func (PySem.W.fnOf "_law_same" "_law_same" (defArgs s__law_same) (defBody s__law_same) (defScope s__law_same) .none kV15 dc15 pm15 an15 cd15 ct15), sl15⟩)
    (c15 : PySem.W.codeIn K cd15 "_law_same" = true)
    (k15 : PySem.W.keepIn K (.ref f15) = true)
    (a16 : PySem.W.nsIn K mainGlobals "_law_mixed" = some (some (.ref f16)))
    (l16 : K.lookup f16 = some ⟨oc16, od16, .func (PySem.W.fnOf "_law_mixed" "_law_mixed" (defArgs s__law_mixed) (defBody s__law_mixed) (defScope s__law_mixed) .none kV16 dc16 pm16 an16 cd16 ct16), sl16⟩)
    (c16 : PySem.W.codeIn K cd16 "_law_mixed" = true)
    (k16 : PySem.W.keepIn K (.ref f16) = true)
    (a17 : PySem.W.nsIn K mainGlobals "_law_tree" = some (some (.ref f17)))
    (l17 : K.lookup f17 = some ⟨oc17, od17, .func (PySem.W.fnOf "_law_tree" "_law_tree" (defArgs s__law_tree) (defBody s__law_tree) (defScope s__law_tree) .none kV17 dc17 pm17 an17 cd17 ct17), sl17⟩)
    (c17 : PySem.W.codeIn K cd17 "_law_tree" = true)
    (k17 : PySem.W.keepIn K (.ref f17) = true)
    (a18 : PySem.W.nsIn K mainGlobals "_law_drawn_tree" = some (some (.ref f18)))
    (l18 : K.lookup f18 = some ⟨oc18, od18, .func (PySem.W.fnOf "_law_drawn_tree" "_law_drawn_tree" (defArgs s__law_drawn_tree) (defBody s__law_drawn_tree) (defScope s__law_drawn_tree) .none kV18 dc18 pm18 an18 cd18 ct18), sl18⟩)
    (c18 : PySem.W.codeIn K cd18 "_law_drawn_tree" = true)
    (k18 : PySem.W.keepIn K (.ref f18) = true)
    (a19 : PySem.W.nsIn K mainGlobals "_law_nodes" = some (some (.ref f19)))
    (l19 : K.lookup f19 = some ⟨oc19, od19, .func (PySem.W.fnOf "_law_nodes" "_law_nodes" (defArgs s__law_nodes) (defBody s__law_nodes) (defScope s__law_nodes) .none kV19 dc19 pm19 an19 cd19 ct19), sl19⟩)
    (c19 : PySem.W.codeIn K cd19 "_law_nodes" = true)
    (k19 : PySem.W.keepIn K (.ref f19) = true)
    (a20 : PySem.W.nsIn K mainGlobals "_law_open" = some (some (.ref f20)))
    (l20 : K.lookup f20 = some ⟨oc20, od20, .func (PySem.W.fnOf "_law_open" "_law_open" (defArgs s__law_open) (defBody s__law_open) (defScope s__law_open) .none kV20 dc20 pm20 an20 cd20 ct20), sl20⟩)
    (c20 : PySem.W.codeIn K cd20 "_law_open" = true)
    (k20 : PySem.W.keepIn K (.ref f20) = true)
    (a21 : PySem.W.nsIn K mainGlobals "_law_nest" = some (some (.ref f21)))
    (l21 : K.lookup f21 = some ⟨oc21, od21, .func (PySem.W.fnOf "_law_nest" "_law_nest" (defArgs s__law_nest) (defBody s__law_nest) (defScope s__law_nest) .none kV21 dc21 pm21 an21 cd21 ct21), sl21⟩)
    (c21 : PySem.W.codeIn K cd21 "_law_nest" = true)
    (k21 : PySem.W.keepIn K (.ref f21) = true)
    (a22 : PySem.W.nsIn K mainGlobals "_law_whole" = some (some (.ref f22)))
    (l22 : K.lookup f22 = some ⟨oc22, od22, .func (PySem.W.fnOf "_law_whole" "_law_whole" (defArgs s__law_whole) (defBody s__law_whole) (defScope s__law_whole) .none kV22 dc22 pm22 an22 cd22 ct22), sl22⟩)
    (c22 : PySem.W.codeIn K cd22 "_law_whole" = true)
    (k22 : PySem.W.keepIn K (.ref f22) = true)
    (a23 : PySem.W.nsIn K mainGlobals "_law_count" = some (some (.ref f23)))
    (l23 : K.lookup f23 = some ⟨oc23, od23, .func (PySem.W.fnOf "_law_count" "_law_count" (defArgs s__law_count) (defBody s__law_count) (defScope s__law_count) .none kV23 dc23 pm23 an23 cd23 ct23), sl23⟩)
    (c23 : PySem.W.codeIn K cd23 "_law_count" = true)
    (k23 : PySem.W.keepIn K (.ref f23) = true)
    (a24 : PySem.W.nsIn K mainGlobals "_law_is_nest" = some (some (.ref f24)))
    (l24 : K.lookup f24 = some ⟨oc24, od24, .func (PySem.W.fnOf "_law_is_nest" "_law_is_nest" (defArgs s__law_is_nest) (defBody s__law_is_nest) (defScope s__law_is_nest) .none kV24 dc24 pm24 an24 cd24 ct24), sl24⟩)
    (c24 : PySem.W.codeIn K cd24 "_law_is_nest" = true)
    (k24 : PySem.W.keepIn K (.ref f24) = true)
    (a25 : PySem.W.nsIn K mainGlobals "_law_odd" = some (some (.ref f25)))
    (l25 : K.lookup f25 = some ⟨oc25, od25, .func (PySem.W.fnOf "_law_odd" "_law_odd" (defArgs s__law_odd) (defBody s__law_odd) (defScope s__law_odd) .none kV25 dc25 pm25 an25 cd25 ct25), sl25⟩)
    (c25 : PySem.W.codeIn K cd25 "_law_odd" = true)
    (k25 : PySem.W.keepIn K (.ref f25) = true)
    (a26 : PySem.W.nsIn K mainGlobals "_law_changed" = some (some (.ref f26)))
    (l26 : K.lookup f26 = some ⟨oc26, od26, .func (PySem.W.fnOf "_law_changed" "_law_changed" (defArgs s__law_changed) (defBody s__law_changed) (defScope s__law_changed) .none kV26 dc26 pm26 an26 cd26 ct26), sl26⟩)
    (c26 : PySem.W.codeIn K cd26 "_law_changed" = true)
    (k26 : PySem.W.keepIn K (.ref f26) = true)
    (a27 : PySem.W.nsIn K mainGlobals "_law_chain" = some (some (.ref f27)))
    (l27 : K.lookup f27 = some ⟨oc27, od27, .func (PySem.W.fnOf "_law_chain" "_law_chain" (defArgs s__law_chain) (defBody s__law_chain) (defScope s__law_chain) .none kV27 dc27 pm27 an27 cd27 ct27), sl27⟩)
    (c27 : PySem.W.codeIn K cd27 "_law_chain" = true)
    (k27 : PySem.W.keepIn K (.ref f27) = true)
    (a28 : PySem.W.nsIn K mainGlobals "law" = some (some (.ref f28)))
    (l28 : K.lookup f28 = some ⟨oc28, od28, .func (PySem.W.fnOf "law" "law" (defArgs s_law) (defBody s_law) (defScope s_law) .none kV28 dc28 pm28 an28 cd28 ct28), sl28⟩)
    (c28 : PySem.W.codeIn K cd28 "law" = true)
    (k28 : PySem.W.keepIn K (.ref f28) = true)
    (z1 : PySem.W.nsIn K mainGlobals "zip" = some none)
    (z2 : PySem.W.nsIn K mainGlobals "all" = some none)
    (z3 : PySem.W.nsIn K mainGlobals "repr" = some none)
    (z4 : PySem.W.nsIn K mainGlobals "sum" = some none)
    (z5 : PySem.W.nsIn K mainGlobals "len" = some none)
    (z6 : PySem.W.nsIn K mainGlobals "isinstance" = some none)
    (z7 : PySem.W.nsIn K mainGlobals "list" = some none)
    (z8 : PySem.W.nsIn K mainGlobals "tuple" = some none)
    (z9 : PySem.W.nsIn K mainGlobals "str" = some none)
    (z10 : PySem.W.nsIn K mainGlobals "int" = some none)
    (z11 : PySem.W.nsIn K mainGlobals "bool" = some none)
    (z12 : PySem.W.nsIn K mainGlobals "dict" = some none)
    (z13 : PySem.W.nsIn K mainGlobals "range" = some none)
    (z14 : PySem.W.nsIn K mainGlobals "sorted" = some none)
    (z15 : PySem.W.nsIn K mainGlobals "abs" = some none)
    (z16 : PySem.W.nsIn K mainGlobals "min" = some none)
    (z17 : PySem.W.nsIn K mainGlobals "max" = some none)
    (z18 : PySem.W.nsIn K mainGlobals "LookupError" = some none)
    (z19 : PySem.W.nsIn K mainGlobals "enumerate" = some none)
    (z20 : PySem.W.nsIn K mainGlobals "set" = some none)
    (v1 : PySem.W.nsIn K mainGlobals "MAX_NODES" = some (some (.int 12 t1)))
    (v2 : PySem.W.nsIn K mainGlobals "MAX_ENTRIES" = some (some (.int 20 t2)))
    : ∀ (base : Heap) (H : Hp) (s : Shared) (a : Addr) (ns : List Int), K.In base → base.Ns mainGlobals mg → Env0 l.prog w K mg base callerA [] s H → SqL K H a (ns.map V.int) → ns.length ≤ 63 →
      codeAny (model l.prog w) callerA (.call (.ref fa) ⟨[.ref a], []⟩) (CR CX0 [] l.prog w H s (fun v _ => v = .bl true) fun _ _ _ => False) s := by
  intro base H s a ns _ _ en hS hn
  have e := hfa.symm.trans (PySem.W.mg_of X G a28)
  cases e
  have gC_NoPath := PySem.W.mg_of X G a_NoPath
  have F1 := fun_mk (st := s_is_letter) l1 c1 k1
  have g1 := PySem.W.mg_of X G a1
  have F2 := fun_mk (st := s_is_whole_number) l2 c2 k2
  have g2 := PySem.W.mg_of X G a2
  have F3 := fun_mk (st := s_is_index) l3 c3 k3
  have g3 := PySem.W.mg_of X G a3
  have F4 := fun_mk (st := s_is_ascending) l4 c4 k4
  have g4 := PySem.W.mg_of X G a4
  have F5 := fun_mk (st := s_is_node) l5 c5 k5
  have g5 := PySem.W.mg_of X G a5
  have F6 := fun_mk (st := s_is_tree) l6 c6 k6
  have g6 := PySem.W.mg_of X G a6
  have F7 := fun_mk (st := s_part_at) l7 c7 k7
  have g7 := PySem.W.mg_of X G a7
  have F8 := fun_mk (st := s_is_open) l8 c8 k8
  have g8 := PySem.W.mg_of X G a8
  have F9 := fun_mk (st := s_is_link) l9 c9 k9
  have g9 := PySem.W.mg_of X G a9
  have F10 := fun_mk (st := s_is_entry) l10 c10 k10
  have g10 := PySem.W.mg_of X G a10
  have F11 := fun_mk (st := s_is_nest) l11 c11 k11
  have g11 := PySem.W.mg_of X G a11
  have F12 := fun_mk (st := s__law_deck) l12 c12 k12
  have g12 := PySem.W.mg_of X G a12
  have F13 := fun_mk (st := s__law_draw) l13 c13 k13
  have g13 := PySem.W.mg_of X G a13
  have F14 := fun_mk (st := s__law_pick) l14 c14 k14
  have g14 := PySem.W.mg_of X G a14
  have F15 := fun_mk (st := s__law_same) l15 c15 k15
  have g15 := PySem.W.mg_of X G a15
  have F16 := fun_mk (st := s__law_mixed) l16 c16 k16
  have g16 := PySem.W.mg_of X G a16
  have F17 := fun_mk (st := s__law_tree) l17 c17 k17
  have g17 := PySem.W.mg_of X G a17
  have F18 := fun_mk (st := s__law_drawn_tree) l18 c18 k18
  have g18 := PySem.W.mg_of X G a18
  have F19 := fun_mk (st := s__law_nodes) l19 c19 k19
  have g19 := PySem.W.mg_of X G a19
  have F20 := fun_mk (st := s__law_open) l20 c20 k20
  have g20 := PySem.W.mg_of X G a20
  have F21 := fun_mk (st := s__law_nest) l21 c21 k21
  have g21 := PySem.W.mg_of X G a21
  have F22 := fun_mk (st := s__law_whole) l22 c22 k22
  have g22 := PySem.W.mg_of X G a22
  have F23 := fun_mk (st := s__law_count) l23 c23 k23
  have g23 := PySem.W.mg_of X G a23
  have F24 := fun_mk (st := s__law_is_nest) l24 c24 k24
  have g24 := PySem.W.mg_of X G a24
  have F25 := fun_mk (st := s__law_odd) l25 c25 k25
  have g25 := PySem.W.mg_of X G a25
  have F26 := fun_mk (st := s__law_changed) l26 c26 k26
  have g26 := PySem.W.mg_of X G a26
  have F27 := fun_mk (st := s__law_chain) l27 c27 k27
  have g27 := PySem.W.mg_of X G a27
  have F28 := fun_mk (st := s_law) l28 c28 k28
  have m_zip := PySem.W.mg_none_of X G z1
  have m_all := PySem.W.mg_none_of X G z2
  have m_repr := PySem.W.mg_none_of X G z3
  have m_sum := PySem.W.mg_none_of X G z4
  have m_len := PySem.W.mg_none_of X G z5
  have m_isinstance := PySem.W.mg_none_of X G z6
  have m_list := PySem.W.mg_none_of X G z7
  have m_tuple := PySem.W.mg_none_of X G z8
  have m_str := PySem.W.mg_none_of X G z9
  have m_int := PySem.W.mg_none_of X G z10
  have m_bool := PySem.W.mg_none_of X G z11
  have m_dict := PySem.W.mg_none_of X G z12
  have m_range := PySem.W.mg_none_of X G z13
  have m_sorted := PySem.W.mg_none_of X G z14
  have m_abs := PySem.W.mg_none_of X G z15
  have m_min := PySem.W.mg_none_of X G z16
  have m_max := PySem.W.mg_none_of X G z17
  have m_LookupError := PySem.W.mg_none_of X G z18
  have m_enumerate := PySem.W.mg_none_of X G z19
  have m_set := PySem.W.mg_none_of X G z20
  have m1 := PySem.W.mg_of X G v1
  have m2 := PySem.W.mg_of X G v2
  have b1 := F1.binds (ps := ["value"]) fun _ _ _ _ _ _ us hl => match us, hl with | [_], _ => rfl
  have b2 := F2.binds (ps := ["value"]) fun _ _ _ _ _ _ us hl => match us, hl with | [_], _ => rfl
  have b3 := F3.binds (ps := ["value", "many"]) fun _ _ _ _ _ _ us hl => match us, hl with | [_, _], _ => rfl
  have b4 := F4.binds (ps := ["items"]) fun _ _ _ _ _ _ us hl => match us, hl with | [_], _ => rfl
  have b5 := F5.binds (ps := ["value"]) fun _ _ _ _ _ _ us hl => match us, hl with | [_], _ => rfl
  have b6 := F6.binds (ps := ["value"]) fun _ _ _ _ _ _ us hl => match us, hl with | [_], _ => rfl
  have b7 := F7.binds (ps := ["tree", "path"]) fun _ _ _ _ _ _ us hl => match us, hl with | [_, _], _ => rfl
  have b8 := F8.binds (ps := ["tree", "path"]) fun _ _ _ _ _ _ us hl => match us, hl with | [_, _], _ => rfl
  have b9 := F9.binds (ps := ["value", "tree", "entries"]) fun _ _ _ _ _ _ us hl => match us, hl with | [_, _, _], _ => rfl
  have b10 := F10.binds (ps := ["value", "entries"]) fun _ _ _ _ _ _ us hl => match us, hl with | [_, _], _ => rfl
  have b11 := F11.binds (ps := ["value"]) fun _ _ _ _ _ _ us hl => match us, hl with | [_], _ => rfl
  have b12 := F12.binds (ps := ["_law_script"]) fun _ _ _ _ _ _ us hl => match us, hl with | [_], _ => rfl
  have b13 := F13.binds (ps := ["_law_deck_here", "_law_many"]) fun _ _ _ _ _ _ us hl => match us, hl with | [_, _], _ => rfl
  have b14 := F14.binds (ps := ["_law_deck_here", "_law_items"]) fun _ _ _ _ _ _ us hl => match us, hl with | [_, _], _ => rfl
  have b15 := F15.binds (ps := ["_law_found", "_law_due"]) fun _ _ _ _ _ _ us hl => match us, hl with | [_, _], _ => rfl
  have b16 := F16.binds (ps := ["_law_deck_here", "_law_items"]) fun _ _ _ _ _ _ us hl => match us, hl with | [_, _], _ => rfl
  have b17 := F17.binds (ps := ["_law_deck_here", "_law_size", "_law_style", "_law_letters"]) fun _ _ _ _ _ _ us hl => match us, hl with | [_, _, _, _], _ => rfl
  have b18 := F18.binds (ps := ["_law_deck_here", "_law_limit"]) fun _ _ _ _ _ _ us hl => match us, hl with | [_, _], _ => rfl
  have b19 := F19.binds (ps := ["_law_tree_here", "_law_path"]) fun _ _ _ _ _ _ us hl => match us, hl with | [_, _], _ => rfl
  have b20 := F20.binds (ps := ["_law_tree_here"]) fun _ _ _ _ _ _ us hl => match us, hl with | [_], _ => rfl
  have b21 := F21.binds (ps := ["_law_deck_here", "_law_entries", "_law_limit", "_law_few"]) fun _ _ _ _ _ _ us hl => match us, hl with | [_, _, _, _], _ => rfl
  have b22 := F22.binds (ps := ["_law_value", "_law_low", "_law_high"]) fun _ _ _ _ _ _ us hl => match us, hl with | [_, _, _], _ => rfl
  have b23 := F23.binds (ps := ["_law_value"]) fun _ _ _ _ _ _ us hl => match us, hl with | [_], _ => rfl
  have b24 := F24.binds (ps := ["_law_value"]) fun _ _ _ _ _ _ us hl => match us, hl with | [_], _ => rfl
  have b25 := F25.binds (ps := ["_law_deck_here"]) fun _ _ _ _ _ _ us hl => match us, hl with | [_], _ => rfl
  have b26 := F26.binds (ps := ["_law_deck_here", "_law_value", "_law_depth"]) fun _ _ _ _ _ _ us hl => match us, hl with | [_, _, _], _ => rfl
  have b27 := F27.binds (ps := ["_law_size"]) fun _ _ _ _ _ _ us hl => match us, hl with | [_], _ => rfl
  have E_NoPath : Err_value K mg "LookupError.__new__" leT "NoPath" "NoPath.__init__" C_NoPath i_NoPath :=
    { gC := gC_NoPath, nd := by decide +kernel, cls := ⟨nm_NoPath, q_NoPath, N_NoPath, bs_NoPath, _, sn_NoPath, sub_NoPath, ab_NoPath, col_NoPath, dd_NoPath, m0_NoPath, m1_NoPath, m2_NoPath, m3_NoPath, m5_NoPath, x_NoPath, by first | rfl | decide +kernel⟩, sa := sa_NoPath, ga := ga_NoPath, gg := gg_NoPath, noN := nb_NoPath, iC := ii_NoPath, tC := ti_NoPath, kC := kC_NoPath, exC := eC_NoPath, tyC := tC_NoPath, hdC := hC_NoPath,
      fn := ⟨_, _, _, _, _, _, _, _, _, _, _, _, _, _, li_NoPath, ci_NoPath⟩ }
  have X_NoPath : ExcC K C_NoPath := ⟨ga_NoPath, gg_NoPath, eC_NoPath, hC_NoPath, h1_NoPath, h2_NoPath, h3_NoPath, h4_NoPath⟩
  have M : Mgs mg := ⟨m_zip, m_all, m_repr, m_sum, m_len, m_isinstance, m_list, m_tuple, m_str, m_int, m_bool, m_dict, m_range, m_sorted, m_abs, m_min, m_max⟩
  have D_law_deck : Df l.prog w K mg base 1 "_law_deck" ["_law_script"] (spDeck K) := ⟨f12, _, ok_deck (k := 0) F12 M, b12, k12, g12⟩
  have D_law_draw : Df l.prog w K mg base 1 "_law_draw" ["_law_deck_here", "_law_many"] spDraw := ⟨f13, _, ok_draw (k := 0) F13 M, b13, k13, g13⟩
  have D_law_pick : Df l.prog w K mg base 2 "_law_pick" ["_law_deck_here", "_law_items"] (spPick K) := ⟨f14, _, ok_pick (k := 0) F14 M D_law_draw, b14, k14, g14⟩
  have D_law_mixed : Df l.prog w K mg base 2 "_law_mixed" ["_law_deck_here", "_law_items"] spMixed := ⟨f16, _, ok_mixed (k := 0) F16 M D_law_draw, b16, k16, g16⟩
  have D_law_tree : Df l.prog w K mg base 33 "_law_tree" ["_law_deck_here", "_law_size", "_law_style", "_law_letters"] (spTree 30) := ⟨f17, _, ok_tree F17 b17 g17 D_law_draw D_law_pick 30, b17, k17, g17⟩
  have D_law_drawn_tree : Df l.prog w K mg base 34 "_law_drawn_tree" ["_law_deck_here", "_law_limit"] spDrawn := ⟨f18, _, ok_drawn F18 D_law_draw D_law_pick D_law_tree, b18, k18, g18⟩
  have D_law_nodes40 : Df l.prog w K mg base 40 "_law_nodes" ["_law_tree_here", "_law_path"] (spNodes 40) := ⟨f19, _, ok_nodes F19 b19 g19 40, b19, k19, g19⟩
  have D_law_nodes : Df l.prog w K mg base 70 "_law_nodes" ["_law_tree_here", "_law_path"] (spNodes 70) := ⟨f19, _, ok_nodes F19 b19 g19 70, b19, k19, g19⟩
  have D_law_open : Df l.prog w K mg base 41 "_law_open" ["_law_tree_here"] spOpen := ⟨f20, _, ok_open F20 D_law_nodes40, b20, k20, g20⟩
  have D_law_nest : Df l.prog w K mg base 42 "_law_nest" ["_law_deck_here", "_law_entries", "_law_limit", "_law_few"] spNest := ⟨f21, _, ok_nest F21 M D_law_draw D_law_pick D_law_mixed D_law_drawn_tree D_law_open, b21, k21, g21⟩
  have Dis_whole_number : Df l.prog w K mg base 1 "is_whole_number" ["value"] spWholeQ := ⟨f2, _, ok_wholeQ (k := 0) F2 M, b2, k2, g2⟩
  have Dis_index : Df l.prog w K mg base 2 "is_index" ["value", "many"] spIndexQ := ⟨f3, _, ok_indexQ (k := 0) F3 M Dis_whole_number, b3, k3, g3⟩
  have Dis_letter : Df l.prog w K mg base 1 "is_letter" ["value"] spLowX := ⟨f1, _, ok_lowX (k := 0) F1 M, b1, k1, g1⟩
  have Dis_node : Df l.prog w K mg base 2 "is_node" ["value"] (spAsk isN) := ⟨f5, _, ok_nodeV (k := 0) F5 M Dis_letter, b5, k5, g5⟩
  have Dis_tree : Df l.prog w K mg base 3 "is_tree" ["value"] spIsTreeX := ⟨f6, _, ok_isTreeX F6 m1 Dis_node, b6, k6, g6⟩
  have Dpart_at : DfX l.prog w K mg base 1 "part_at" ["tree", "path"] (spPartX C_NoPath) := ⟨f7, _, ok_partX (k := 0) F7 M E_NoPath, b7, k7, g7⟩
  have Dis_open : Df l.prog w K mg base 3 "is_open" ["tree", "path"] spOpenX := ⟨f8, _, ok_openX (k := 1) F8 gC_NoPath ePP ⟨f7, _, ok_partX (k := 1) F7 M E_NoPath, b7, k7, g7⟩, b8, k8, g8⟩
  have Dis_link : Df l.prog w K mg base 4 "is_link" ["value", "tree", "entries"] spLink := ⟨f9, _, ok_link F9 M Dis_open Dis_index, b9, k9, g9⟩
  have Dis_ascending : Df l.prog w K mg base 1 "is_ascending" ["items"] spAsc := ⟨f4, _, ok_asc (k := 0) F4 M, b4, k4, g4⟩
  have Dis_entry : Df l.prog w K mg base 5 "is_entry" ["value", "entries"] spEntry := ⟨f10, _, ok_entry F10 M Dis_tree Dis_link Dis_ascending, b10, k10, g10⟩
  have Dis_nest : Df l.prog w K mg base 6 "is_nest" ["value"] spNestQ := ⟨f11, _, ok_nestQ F11 M m_enumerate m2 Dis_entry, b11, k11, g11⟩
  have D_law_count : Df l.prog w K mg base 41 "_law_count" ["_law_value"] (spCount 40) := ⟨f23, _, ok_count F23 M b23 g23 40, b23, k23, g23⟩
  have D_law_whole : Df l.prog w K mg base 1 "_law_whole" ["_law_value", "_law_low", "_law_high"] spFrom := ⟨f22, _, ok_lwhole (k := 0) F22 M, b22, k22, g22⟩
  have D_law_is_nest : Df l.prog w K mg base 42 "_law_is_nest" ["_law_value"] spNestL := ⟨f24, _, ok_nestL F24 M m_set D_law_count D_law_open D_law_whole, b24, k24, g24⟩
  have D_law_odd : Df l.prog w K mg base 3 "_law_odd" ["_law_deck_here"] spOdd := ⟨f25, _, ok_odd F25 D_law_pick, b25, k25, g25⟩
  have D_law_changed : Df l.prog w K mg base 10 "_law_changed" ["_law_deck_here", "_law_value", "_law_depth"] (spChanged 6) := ⟨f26, _, ok_changed F26 b26 g26 M D_law_draw D_law_pick D_law_odd 6, b26, k26, g26⟩
  have D_law_chain : Df l.prog w K mg base 1 "_law_chain" ["_law_size"] spChain := ⟨f27, _, ok_chain F27 M, b27, k27, g27⟩
  have D_law_same : DfG l.prog w K mg base 1 "_law_same" ["_law_found", "_law_due"] spSameQ := ⟨f15, _, ok_sameQ (k := 0) F15 M, b15, k15, g15⟩
  exact run_law F28 (.of_eq rfl) en hS M D_law_deck D_law_nest D_law_drawn_tree D_law_open D_law_chain D_law_odd D_law_changed Dis_nest D_law_is_nest D_law_same
theorem walk_at {l : PySem.W.OpenLaw} {q : Program} {loose : List Str} {XP : (Str → Option Value) → Heap → Prop} {YP : World → Heap → Prop} {d : DefRec} {K : Params → PySem.W.Frag} (most : l.most = some 63) (noDf : d.params.defaults = [])
    (inK : ∀ (w : World) (h : Heap), YP w h → (K w.params).In h)
    (F : ∀ (w : World) (mg : Str → Option Value) (fa : Addr) (h : Heap), (K w.params).In h → h.Ns mainGlobals mg → mg d.name = some (.ref fa) →
      ∀ (base : Heap) (H : Hp) (s : Shared) (a : Addr) (ns : List Int), (K w.params).In base → base.Ns mainGlobals mg → Env0 l.prog w (K w.params) mg base callerA [] s H → SqL (K w.params) H a (ns.map V.int) → ns.length ≤ 63 →
        codeAny (model l.prog w) callerA (.call (.ref fa) ⟨[.ref a], []⟩) (CR CX0 [] l.prog w H s (fun v _ => v = .bl true) fun _ _ _ => False) s) :
    PySem.W.WalkO q loose XP YP l.row.toRowW d [] (fun f vs => PySem.call f vs) := by
  refine Att.attach_call most noDf ?_
  intro w s₀ s₁ mg mb fa o pm cd doc a vs ns G Y ho hd hcd hmg hobj hints hlen hg
  exact law_at (inK w _ Y) G.T.g G.T.b G.T.builtins G.T.nolimit hg hobj hints (Nat.le_trans hlen (by decide)) fun base H h1 h2 en hS => F w mg fa _ (inK w _ Y) G.T.g hmg base H s₁ a ns h1 h2 en hS hlen
end Tw
open PySem PySem.W PyProof.Rows
set_option maxRecDepth 100000 in
set_option maxHeartbeats 0 in
theorem PySem.Challenge.cw_treewalks_k38_nests_judged_holds : PySem.Challenge.rw_treewalks_k38_nests_judged.Holds := by
  w_on; o_law; k_head; (case hw => w_witness2)
  k_fill
  refine Tw.walk_at (l := PySem.Challenge.rw_treewalks_k38_nests_judged) rfl rfl (fun w h Y => by first | exact PySem.W.kIn_of Y | exact PySem.W.km_in_of Y) ?F
  case F =>
    intro w mg fa h KX G hmg
    refine' Tw.all_mk KX G hmg ?a_NoPath ?x_NoPath ?sa_NoPath ?ga_NoPath ?gg_NoPath ?nb_NoPath ?ii_NoPath ?ti_NoPath ?li_NoPath ?ci_NoPath ?kC_NoPath ?eC_NoPath ?tC_NoPath ?hC_NoPath ?h1_NoPath ?h2_NoPath ?h3_NoPath ?h4_NoPath ?ePP ?a1 ?l1 ?c1 ?k1 ?a2 ?l2 ?c2 ?k2 ?a3 ?l3 ?c3 ?k3 ?a4 ?l4 ?c4 ?k4 ?a5 ?l5 ?c5 ?k5 ?a6 ?l6 ?c6 ?k6 ?a7 ?l7 ?c7 ?k7 ?a8 ?l8 ?c8 ?k8 ?a9 ?l9 ?c9 ?k9 ?a10 ?l10 ?c10 ?k10 ?a11 ?l11 ?c11 ?k11 ?a12 ?l12 ?c12 ?k12 ?a13 ?l13 ?c13 ?k13 ?a14 ?l14 ?c14 ?k14 ?a15 ?l15 ?c15 ?k15 ?a16 ?l16 ?c16 ?k16 ?a17 ?l17 ?c17 ?k17 ?a18 ?l18 ?c18 ?k18 ?a19 ?l19 ?c19 ?k19 ?a20 ?l20 ?c20 ?k20 ?a21 ?l21 ?c21 ?k21 ?a22 ?l22 ?c22 ?k22 ?a23 ?l23 ?c23 ?k23 ?a24 ?l24 ?c24 ?k24 ?a25 ?l25 ?c25 ?k25 ?a26 ?l26 ?c26 ?k26 ?a27 ?l27 ?c27 ?k27 ?a28 ?l28 ?c28 ?k28 ?z1 ?z2 ?z3 ?z4 ?z5 ?z6 ?z7 ?z8 ?z9 ?z10 ?z11 ?z12 ?z13 ?z14 ?z15 ?z16 ?z17 ?z18 ?z19 ?z20 ?v1 ?v2
    (case a_NoPath => k_is)
    (case x_NoPath => k_is)
    (case sa_NoPath => k_is)
    (case ga_NoPath => k_is)
    (case gg_NoPath => k_is)
    (case nb_NoPath => k_is)
    (case ii_NoPath => k_is)
    (case ti_NoPath => k_is)
    (case li_NoPath => k_is)
    (case ci_NoPath => k_is)
    (case kC_NoPath => k_is)
    (case eC_NoPath => k_is)
    (case tC_NoPath => k_is)
    (case hC_NoPath => k_is)
    (case h1_NoPath => k_is)
    (case h2_NoPath => k_is)
    (case h3_NoPath => k_is)
    (case h4_NoPath => k_is)
    (case ePP => first | k_is | rfl | decide +kernel)
    (case a1 => k_is)
    (case l1 => k_is)
    (case c1 => k_is)
    (case k1 => k_is)
    (case a2 => k_is)
    (case l2 => k_is)
    (case c2 => k_is)
    (case k2 => k_is)
    (case a3 => k_is)
    (case l3 => k_is)
    (case c3 => k_is)
    (case k3 => k_is)
    (case a4 => k_is)
    (case l4 => k_is)
    (case c4 => k_is)
    (case k4 => k_is)
    (case a5 => k_is)
    (case l5 => k_is)
    (case c5 => k_is)
    (case k5 => k_is)
    (case a6 => k_is)
    (case l6 => k_is)
    (case c6 => k_is)
    (case k6 => k_is)
    (case a7 => k_is)
    (case l7 => k_is)
    (case c7 => k_is)
    (case k7 => k_is)
    (case a8 => k_is)
    (case l8 => k_is)
    (case c8 => k_is)
    (case k8 => k_is)
    (case a9 => k_is)
    (case l9 => k_is)
    (case c9 => k_is)
    (case k9 => k_is)
    (case a10 => k_is)
    (case l10 => k_is)
    (case c10 => k_is)
    (case k10 => k_is)
    (case a11 => k_is)
    (case l11 => k_is)
    (case c11 => k_is)
    (case k11 => k_is)
    (case a12 => k_is)
    (case l12 => k_is)
    (case c12 => k_is)
    (case k12 => k_is)
    (case a13 => k_is)
    (case l13 => k_is)
    (case c13 => k_is)
    (case k13 => k_is)
    (case a14 => k_is)
    (case l14 => k_is)
    (case c14 => k_is)
    (case k14 => k_is)
    (case a15 => k_is)
    (case l15 => k_is)
    (case c15 => k_is)
    (case k15 => k_is)
    (case a16 => k_is)
    (case l16 => k_is)
    (case c16 => k_is)
    (case k16 => k_is)
    (case a17 => k_is)
    (case l17 => k_is)
    (case c17 => k_is)
    (case k17 => k_is)
    (case a18 => k_is)
    (case l18 => k_is)
    (case c18 => k_is)
    (case k18 => k_is)
    (case a19 => k_is)
    (case l19 => k_is)
    (case c19 => k_is)
    (case k19 => k_is)
    (case a20 => k_is)
    (case l20 => k_is)
    (case c20 => k_is)
    (case k20 => k_is)
    (case a21 => k_is)
    (case l21 => k_is)
    (case c21 => k_is)
    (case k21 => k_is)
    (case a22 => k_is)
    (case l22 => k_is)
    (case c22 => k_is)
    (case k22 => k_is)
    (case a23 => k_is)
    (case l23 => k_is)
    (case c23 => k_is)
    (case k23 => k_is)
    (case a24 => k_is)
    (case l24 => k_is)
    (case c24 => k_is)
    (case k24 => k_is)
    (case a25 => k_is)
    (case l25 => k_is)
    (case c25 => k_is)
    (case k25 => k_is)
    (case a26 => k_is)
    (case l26 => k_is)
    (case c26 => k_is)
    (case k26 => k_is)
    (case a27 => k_is)
    (case l27 => k_is)
    (case c27 => k_is)
    (case k27 => k_is)
    (case a28 => k_is)
    (case l28 => k_is)
    (case c28 => k_is)
    (case k28 => k_is)
    (case z1 => k_is)
    (case z2 => k_is)
    (case z3 => k_is)
    (case z4 => k_is)
    (case z5 => k_is)
    (case z6 => k_is)
    (case z7 => k_is)
    (case z8 => k_is)
    (case z9 => k_is)
    (case z10 => k_is)
    (case z11 => k_is)
    (case z12 => k_is)
    (case z13 => k_is)
    (case z14 => k_is)
    (case z15 => k_is)
    (case z16 => k_is)
    (case z17 => k_is)
    (case z18 => k_is)
    (case z19 => k_is)
    (case z20 => k_is)
    (case v1 => k_is)
    (case v2 => k_is)
