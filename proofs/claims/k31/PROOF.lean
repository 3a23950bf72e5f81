import PyProof.Rows.All
import Wide.All
import OpenK.AllK
import Wide.FinOn
import HandS.ForMost
import HandS.ForExc
import HandS.Wide
import HandS.IsInst
import HandS.Flow
import HandS.FStrTup
import HandS.NoneIn
import HandS.TupAny
import HandS.Style
import HandS.TryMany
import HandS.ExcIs
import HandS.ExcField
import HandS.ExcOwn
import KE.KExcInit
import KE.KExcIs
import HandS.Walk
import HandS.Zip
import HandS.Star
import HandS.Style
import PyProof.Rows.SortShellAny
import KE.GoesZip
import KE.GoesMore
import KE.SortKeyHeap
import HandS.Lambda
import HandS.EndTab
import PyProof.CollectStr
import PyProof.P3Eq
import HandS.Sort
import HandS.Set
import HandS.SetFor
import HandS.Strs
import HandS.SetTxt0
import HandS.TupSets
import HandS.DictComp
import KE.KSortTupG
import KE.KSortTupUse
import HandS.More
import HandS.Replace
import PySem.Challenge.RW_treewalks_k31_search_certificates_judged
set_option Elab.async false
set_option maxRecDepth 100000
set_option maxHeartbeats 4000000
namespace Tw
open PySem PySem.Spec PyProof.Rows L2
/-! ### trees over signs -/
abbrev ch (c : Nat) : Str := ⟨#[c]⟩
def tx (l : List Nat) : Str := ⟨l.toArray⟩
theorem tx_cps (l : List Nat) : (tx l).cps.toList = l := rfl
theorem tx_size (l : List Nat) : (tx l).cps.size = l.length := rfl
theorem tx_len (l : List Nat) : (tx l).length = l.length := rfl
theorem tx_one (c : Nat) : tx [c] = ch c := rfl
theorem tx_app (a b : List Nat) : tx a ++ tx b = tx (a ++ b) := by
  show (⟨(tx a).cps ++ (tx b).cps⟩ : Str) = _
  simp [tx]
theorem ch_app (c : Nat) (b : List Nat) : ch c ++ tx b = tx (c :: b) := tx_app [c] b
theorem tx_inj {a b : List Nat} (h : tx a = tx b) : a = b := congrArg (fun z : Str => z.cps.toList) h
theorem ch_inj {a b : Nat} (h : ch a = ch b) : a = b := by have := tx_inj (a := [a]) (b := [b]) h; simpa using this
theorem ch_lt (a b : Nat) : decide ((ch a).cps.toList < (ch b).cps.toList) = decide (a < b) := by
  have : ((ch a).cps.toList < (ch b).cps.toList) ↔ a < b := by
    show [a] < [b] ↔ _
    simp [List.cons_lt_cons_iff]
  simp only [this]
theorem tx_to (l : List Nat) (k : Nat) : cutS (tx l) none (some (k : Int)) = tx (l.take k) := by
  unfold cutS tx
  show (⟨_⟩ : Str) = ⟨_⟩
  rw [HT.sIx_nat, HT.sIx_none]
  show (⟨((l.drop 0).take (min k l.length - 0)).toArray⟩ : Str) = ⟨(l.take k).toArray⟩
  rw [List.drop_zero, Nat.sub_zero, Nat.min_def]
  split
  · rfl
  · rw [List.take_of_length_le (Nat.le_refl _), List.take_of_length_le (by omega)]
theorem tx_from (l : List Nat) (k : Nat) : cutS (tx l) (some (k : Int)) none = tx (l.drop k) := by
  unfold cutS tx
  show (⟨_⟩ : Str) = ⟨_⟩
  rw [HT.sIx_nat, HT.sIx_none]
  show (⟨((l.drop (min k l.length)).take (l.length - min k l.length)).toArray⟩ : Str) = ⟨(l.drop k).toArray⟩
  by_cases h : k ≤ l.length
  · rw [Nat.min_eq_left h, List.take_of_length_le (by rw [List.length_drop]; omega)]
  · rw [Nat.min_eq_right (by omega), List.drop_eq_nil_of_le (Nat.le_refl _), List.drop_eq_nil_of_le (by omega), List.take_nil]
theorem joinL_ones : ∀ l : List Nat, TL.joinL [] (l.map fun c => [c]) = l
  | [] => rfl
  | [c] => rfl
  | c :: d :: r => by
    have := joinL_ones (d :: r)
    show [c] ++ ([] ++ TL.joinL [] ((d :: r).map fun c => [c])) = _
    rw [this]; rfl
theorem tx_join (l : List Nat) : Txt.join (Str.ofString "") (l.map ch) = tx l := by
  rw [TL.join_eq]
  have e := TL.tl_join (Str.ofString "") (l.map ch)
  refine TL.ext_tl (e.trans ?_)
  rw [List.map_map]
  exact joinL_ones l
theorem tx_joinOk (l : List Nat) (h : l.length ≤ 1000) : ((l.map ch).map (·.length)).sum + (l.map ch).length * (Str.ofString "").length ≤ 16777216 := by
  have e0 : (Str.ofString "").length = 0 := by decide +kernel
  have e1 : ∀ l : List Nat, ((l.map ch).map (·.length)).sum = l.length := by
    intro l
    induction l with
    | nil => rfl
    | cons c r ih =>
      rw [List.map_cons, List.map_cons, List.sum_cons, ih, List.length_cons]
      show 1 + r.length = _
      omega
  rw [e0, e1]
  omega
inductive B where
  | nil
  | node (l : B) (x : Nat) (r : B)
  deriving DecidableEq
def B.size : B → Nat
  | .nil => 0
  | .node l _ r => l.size + 1 + r.size
def B.deep : B → Nat
  | .nil => 0
  | .node l _ r => 1 + max l.deep r.deep
def B.data : B → PyData
  | .nil => .none
  | .node l x r => .tuple [l.data, .str (ch x), r.data]
def B.pre : B → List Nat
  | .nil => []
  | .node l x r => x :: (l.pre ++ r.pre)
def B.mid : B → List Nat
  | .nil => []
  | .node l x r => l.mid ++ x :: r.mid
theorem B.deep_le : ∀ t : B, t.deep ≤ t.size
  | .nil => Nat.le_refl _
  | .node l _ r => by
    have h1 := l.deep_le
    have h2 := r.deep_le
    show 1 + max l.deep r.deep ≤ l.size + 1 + r.size
    omega
theorem B.pre_len : ∀ t : B, t.pre.length = t.size
  | .nil => rfl
  | .node l x r => by
    have h1 := l.pre_len
    have h2 := r.pre_len
    show (x :: (l.pre ++ r.pre)).length = l.size + 1 + r.size
    rw [List.length_cons, List.length_append]
    omega
theorem B.mid_len : ∀ t : B, t.mid.length = t.size
  | .nil => rfl
  | .node l x r => by
    have h1 := l.mid_len
    have h2 := r.mid_len
    show (l.mid ++ x :: r.mid).length = l.size + 1 + r.size
    rw [List.length_append, List.length_cons]
    omega
theorem B.mid_mem (t : B) (c : Nat) : c ∈ t.mid ↔ c ∈ t.pre := by
  induction t with
  | nil => exact Iff.rfl
  | node l x r h1 h2 =>
    show c ∈ l.mid ++ x :: r.mid ↔ c ∈ x :: (l.pre ++ r.pre)
    rw [List.mem_append, List.mem_cons, List.mem_cons, List.mem_append, h1, h2]
    constructor
    · rintro (h | h | h)
      · exact .inr (.inl h)
      · exact .inl h
      · exact .inr (.inr h)
    · rintro (h | h | h)
      · exact .inr (.inl h)
      · exact .inl h
      · exact .inr (.inr h)
/-- the tree t lies at v -/
inductive BAt (H : Hp) : V → B → Prop
  | nil : BAt H .non .nil
  | node {a : Addr} {l r : V} {x : Nat} {tl tr : B} : H a = some (.tup [l, .str (ch x), r]) → BAt H l tl → BAt H r tr → BAt H (.ref a) (.node tl x tr)
/-- tuples stand still -/
def KeepT (H H' : Hp) : Prop := ∀ b xs, H b = some (.tup xs) → H' b = some (.tup xs)
theorem KeepT.refl (H : Hp) : KeepT H H := fun _ _ h => h
theorem KeepT.trans {H H1 H2 : Hp} (a : KeepT H H1) (b : KeepT H1 H2) : KeepT H H2 := fun c xs h => b c xs (a c xs h)
theorem Same.keepT {H H' : Hp} (h : Same H H') : KeepT H H' := fun b xs e => h b _ e
theorem BAt.keep {H H' : Hp} (k : KeepT H H') {v : V} {t : B} (h : BAt H v t) : BAt H' v t := by
  induction h with
  | nil => exact .nil
  | node e _ _ h1 h2 => exact .node (k _ _ e) h1 h2
theorem BAt.same {H H' : Hp} (k : Same H H') {v : V} {t : B} (h : BAt H v t) : BAt H' v t := h.keep (Tw.Same.keepT k)
theorem BAt.dp {K : PySem.W.Frag} {H : Hp} {v : V} {t : B} (h : BAt H v t) : Dp K H v t.data := by
  induction h with
  | nil => exact .non
  | node e _ _ h1 h2 => exact .tup (SqT.of e) (.cons h1 (.cons (.str _) (.cons h2 .nil)))
theorem BAt.inv {H : Hp} {v : V} {t : B} (h : BAt H v t) : (v = .non ∧ t = .nil) ∨ ∃ a l r x tl tr, v = .ref a ∧ t = .node tl x tr ∧ H a = some (.tup [l, .str (ch x), r]) ∧ BAt H l tl ∧ BAt H r tr := by
  cases h with
  | nil => exact .inl ⟨rfl, rfl⟩
  | node e h1 h2 => exact .inr ⟨_, _, _, _, _, _, rfl, rfl, e, h1, h2⟩
theorem same_new {H : Hp} {p : Addr} (h : H p = none) (o : HO) : Same H (upd H p o) := fun b u q => by rw [upd_ne (ne_of_none q h)]; exact q
theorem small {n : Nat} (h : n ≤ 1000) : n ≤ sizeLine := Nat.le_of_lt (small1000 h)
theorem at_map {α : Type} {f : α → V} {ns : List α} {i : Int} {v : α} (h0 : 0 ≤ i) (h : ns[i.toNat]? = some v) : atI (ns.map f) i = some (f v) := by
  have e : i = ((i.toNat : Nat) : Int) := by omega
  rw [e]
  exact atI_nat (by rw [List.getElem?_map, h]; rfl)
theorem ixN_nat {n : Nat} {i : Int} (h0 : 0 ≤ i) (h : i < n) : ixN n i = some i.toNat := by
  unfold ixN
  first
    | rw [if_pos h0, if_pos h]
    | (rw [if_pos h0]; rw [if_pos (by omega)])
    | simp [h0, h]
theorem cut_to (xs : List V) (k : Nat) : cutV xs none (some (k : Int)) = xs.take k := by
  unfold cutV
  rw [HT.sIx_nat, HT.sIx_none, List.drop_zero, Nat.sub_zero]
  rw [Nat.min_def]
  split
  · rfl
  · rw [List.take_of_length_le (Nat.le_refl _), List.take_of_length_le (by omega)]
theorem cut_from (xs : List V) (k : Nat) : cutV xs (some (k : Int)) none = xs.drop k := by
  unfold cutV
  rw [HT.sIx_nat, HT.sIx_none]
  by_cases h : k ≤ xs.length
  · rw [Nat.min_eq_left h, List.take_of_length_le (by rw [List.length_drop]; omega)]
  · rw [Nat.min_eq_right (by omega), List.drop_eq_nil_of_le (Nat.le_refl _), List.drop_eq_nil_of_le (by omega), List.take_nil]
theorem kept {σ : L2.St} {H : Hp} {A B : Hp → Prop} (h : A H) : tYes σ H (fun b H3 => if b = true then A H3 else B H3) := by
  show if true = true then A H else B H
  exact iteT h
theorem erase_map {α β : Type} (f : α → β) : ∀ (l : List α) (i : Nat), (l.map f).eraseIdx i = (l.eraseIdx i).map f
  | [], _ => rfl
  | _ :: _, 0 => rfl
  | x :: l, i + 1 => congrArg (f x :: ·) (erase_map f l i)
/-- a def that stands at a name, with its promise -/
structure Df (P : Program) (w : World) (K : PySem.W.Frag) (mg : Str → Option Value) (base : Heap) (k : Nat) (nm : Str) (ps : List Str) (sp : Sp) where
  f : Addr
  fd : FuncData
  ok : FnOk P w K mg base CX0 k f fd ps sp
  b : Binds K fd ps []
  kp : PySem.W.keepIn K (.ref f) = true
  g : mg nm = some (.ref f)
structure Mgs (mg : Str → Option Value) : Prop where
  zip : mg "zip" = none
  all : mg "all" = none
  repr : mg "repr" = none
  len : mg "len" = none
  isinstance : mg "isinstance" = none
  list : mg "list" = none
  tuple : mg "tuple" = none
  str : mg "str" = none
  int : mg "int" = none
  bool : mg "bool" = none
  dict : mg "dict" = none
  range : mg "range" = none
  sorted : mg "sorted" = none
  abs : mg "abs" = none
  min : mg "min" = none
  max : mg "max" = none
theorem vals_signs : ∀ (l : List Nat) (vs : List Value), vs.length = l.length → (∀ (j : Nat) (v : Value), vs[j]? = some v → ∃ c u, l[j]? = some c ∧ v = .str ⟨#[c]⟩ u) → Vals (l.map fun c => V.str ⟨#[c]⟩) vs
  | [], [], _, _ => .nil
  | [], _ :: _, h, _ => by simp at h
  | _ :: _, [], h, _ => by simp at h
  | c :: l, v :: vs, h, k => by
    obtain ⟨c', u, e, rfl⟩ := k 0 v rfl
    cases e
    exact .cons ⟨u, rfl⟩ (vals_signs l vs (by simpa using h) fun j v e => k (j + 1) v e)
theorem call_signs {X : Cx} (hc : X.calm = true) : CallR X (.type "list") (fun xs H Q => ∃ x : Str, xs = [.str x] ∧ x.cps.size ≤ 1000 ∧ ∀ p, H p = none → Q (.ref p) (upd H p (.lst (x.cps.toList.map fun c => V.str ⟨#[c]⟩)))) := by
  intro pins s σ H xs us Q I r h
  obtain ⟨x, rfl, hz, q⟩ := h
  obtain ⟨u, rfl, t, rfl⟩ := vals1 r
  have hz' : x.cps.size ≤ sizeLine := small hz
  refine call_list_str (I.ok.hd hc) x t (fun h' tk acc' c' hk hS hacc => ?_) hz'
  have hv : Vals (x.cps.toList.map fun c => V.str ⟨#[c]⟩) acc'.toList := vals_signs _ _ (by rw [Array.length_toList, Array.length_toList]; exact hacc.1) fun j v e => by
    obtain ⟨c, u, h1, h2⟩ := hacc.2 j v (by rw [← Array.getElem?_toList]; exact e)
    exact ⟨c, u, by rw [Array.getElem?_toList]; exact h1, h2⟩
  exact ⟨.ref s.heap.objs.size, _, I.laid (t' := tk) hk (Nat.le_refl _) (show ObjOk X.prog X.w _ h' _ (.lst _) from ⟨by rw [List.length_map, Array.length_toList]; exact hz', acc'.toList, c', hv, by rw [Array.toArray_toList]; exact hS⟩), rfl, q _ (I.hok.fresh (Nat.le_refl _))⟩
/-- for c in text -/
theorem for_text {x : Str} {g : TG} {tb : TS} {D : Ends} {σ : L2.St} {H : Hp} (Pv : Nat → L2.St → Hp → Prop) (h0 : Pv 0 σ H)
    (hs : ∀ i c σ H, x.cps.toList[i]? = some c → Pv i σ H → g (.str ⟨#[c]⟩) σ H fun σ2 H2 => tb { D with nx := Pv (i + 1), ct := Pv (i + 1), bk := D.nx } σ2 H2)
    (hd : ∀ σ H, Pv x.cps.toList.length σ H → D.nx σ H) :
    ∃ W : Nat → Nat → L2.St → Hp → Prop, (∃ m, W 0 m σ H) ∧ ∀ i m σ H, W i m σ H →
      ((Its x).stop i H ∧ D.nx σ H) ∨ ((Its x).go i H ∧ ∃ N : L2.St → Hp → Prop, (∀ σ' H', N σ' H' → ∃ m', m' < m ∧ W (i + 1) m' σ' H') ∧ ∀ v H', (Its x).yld i H v H' → g v σ H' fun σ2 H2 => tb { D with nx := N, ct := N, bk := D.nx } σ2 H2) := by
  refine for_it walk_str Pv h0 (fun _ _ _ _ _ => trivial) (fun i v σ H H' hi hp hy => ?_) (fun σ H hp => hd σ H (by rw [Array.length_toList]; exact hp))
  obtain ⟨rfl, c, hc, rfl⟩ := hy
  exact hs i c σ H' (by rw [Array.getElem?_toList]; exact hc) hp
theorem lc_text {x : Str} {g : TG} {tt : TT} {te : TE} {vs : List Nat} {σ : L2.St} {H1 : Hp} {D : Addr} {Qd : Hp → Prop} (Pv : Nat → Hp → Prop) (h0 : Pv 0 (upd H1 D (.lst [])))
    (hs : ∀ i c H, x.cps.toList[i]? = some c → Pv i H → g (.str ⟨#[c]⟩) (wipe σ vs) H fun σ2 H2 => wipe σ2 vs = wipe σ vs ∧ tt σ2 H2 fun b H3 =>
      if b = true then te σ2 H3 fun y H4 => ∃ acc, H4 D = some (.lst acc) ∧ acc.length < sizeLine ∧ Pv (i + 1) (upd H4 D (.lst (acc ++ [y]))) else Pv (i + 1) H3) (hd : ∀ H, Pv x.cps.toList.length H → Qd H) :
    ∃ W : Nat → Nat → Hp → Prop, (∃ m, W 0 m (upd H1 D (.lst []))) ∧ ∀ i m H, W i m H →
      ((Its x).stop i H ∧ Qd H) ∨ ((Its x).go i H ∧ ∃ Nx : Hp → Prop, (∀ H', Nx H' → ∃ m', m' < m ∧ W (i + 1) m' H') ∧ ∀ v H', (Its x).yld i H v H' → g v (wipe σ vs) H' fun σ2 H2 => wipe σ2 vs = wipe σ vs ∧ tt σ2 H2 fun b H3 =>
        if b = true then te σ2 H3 fun y H4 => ∃ acc, H4 D = some (.lst acc) ∧ acc.length < sizeLine ∧ Nx (upd H4 D (.lst (acc ++ [y]))) else Nx H3) := by
  refine lc_it walk_str Pv h0 (fun _ _ _ _ => trivial) (fun i v H H' hi hp hy => ?_) (fun H hp => hd H (by rw [Array.length_toList]; exact hp))
  obtain ⟨rfl, c, hc, rfl⟩ := hy
  exact hs i c H' (by rw [Array.getElem?_toList]; exact hc) hp
/-! ### the text by places -/
def top (i : Nat) : Stmt := PySem.Challenge.pw_treewalks_k31_search_certificates_judged.main.body.getD i (.Pass ⟨0, 0, 0, 0⟩)
abbrev s_is_letter : Stmt := top 4
abbrev s_is_whole_number : Stmt := top 5
abbrev s_is_index : Stmt := top 6
abbrev s_is_ascending : Stmt := top 7
abbrev s_is_tagged : Stmt := top 8
abbrev s_is_node : Stmt := top 10
abbrev s_is_tree : Stmt := top 11
abbrev s_is_kind : Stmt := top 14
abbrev s_ordered_steps : Stmt := top 15
abbrev s_deep_steps : Stmt := top 16
abbrev s_level_steps : Stmt := top 17
abbrev s_walk : Stmt := top 18
abbrev s_is_search_tree : Stmt := top 20
abbrev s_is_barrier : Stmt := top 21
abbrev s_search_holds : Stmt := top 22
abbrev s__law_begin : Stmt := top 24
abbrev s__law_next : Stmt := top 25
abbrev s__law_same : Stmt := top 26
abbrev s__law_mixed : Stmt := top 27
abbrev s__law_free : Stmt := top 28
abbrev s__law_order : Stmt := top 29
abbrev s__law_put : Stmt := top 30
abbrev s__law_grown : Stmt := top 31
abbrev s__law_ahead : Stmt := top 32
abbrev s__law_barriers : Stmt := top 33
abbrev s__law_odd : Stmt := top 34
abbrev s__law_bent : Stmt := top 35
abbrev s__law_turned : Stmt := top 36
abbrev s__law_due : Stmt := top 37
abbrev s__law_values : Stmt := top 38
abbrev s_law : Stmt := top 39
theorem sc_is_letter : FnScope ["value"] ["value"] (defScope s_is_letter) := ⟨rfl, rfl, rfl, by decide +kernel, rfl, by decide +kernel, by decide +kernel⟩
theorem sc_is_whole_number : FnScope ["value"] ["value"] (defScope s_is_whole_number) := ⟨rfl, rfl, rfl, by decide +kernel, rfl, by decide +kernel, by decide +kernel⟩
theorem sc_is_index : FnScope ["value", "many"] ["value", "many"] (defScope s_is_index) := ⟨rfl, rfl, rfl, by decide +kernel, rfl, by decide +kernel, by decide +kernel⟩
theorem sc_is_ascending : FnScope ["items", "one", "other"] ["items"] (defScope s_is_ascending) := ⟨rfl, rfl, rfl, by decide +kernel, rfl, by decide +kernel, by decide +kernel⟩
theorem sc_is_tagged : FnScope ["value"] ["value"] (defScope s_is_tagged) := ⟨rfl, rfl, rfl, by decide +kernel, rfl, by decide +kernel, by decide +kernel⟩
theorem sc_is_node : FnScope ["value"] ["value"] (defScope s_is_node) := ⟨rfl, rfl, rfl, by decide +kernel, rfl, by decide +kernel, by decide +kernel⟩
theorem sc_is_tree : FnScope ["value", "count", "waiting", "part", "side"] ["value"] (defScope s_is_tree) := ⟨rfl, rfl, rfl, by decide +kernel, rfl, by decide +kernel, by decide +kernel⟩
theorem sc_is_kind : FnScope ["value"] ["value"] (defScope s_is_kind) := ⟨rfl, rfl, rfl, by decide +kernel, rfl, by decide +kernel, by decide +kernel⟩
theorem sc_ordered_steps : FnScope ["tree", "kind"] ["tree", "kind"] (defScope s_ordered_steps) := ⟨rfl, rfl, rfl, by decide +kernel, rfl, by decide +kernel, by decide +kernel⟩
theorem sc_deep_steps : FnScope ["tree", "kind", "path", "left", "label", "right", "root", "lefts", "rights"] ["tree", "kind", "path"] (defScope s_deep_steps) := ⟨rfl, rfl, rfl, by decide +kernel, rfl, by decide +kernel, by decide +kernel⟩
theorem sc_level_steps : FnScope ["tree"] ["tree"] (defScope s_level_steps) := ⟨rfl, rfl, rfl, by decide +kernel, rfl, by decide +kernel, by decide +kernel⟩
theorem sc_walk : FnScope ["tree", "kind", "path", "label"] ["tree", "kind"] (defScope s_walk) := ⟨rfl, rfl, rfl, by decide +kernel, rfl, by decide +kernel, by decide +kernel⟩
theorem sc_is_search_tree : FnScope ["tree"] ["tree"] (defScope s_is_search_tree) := ⟨rfl, rfl, rfl, by decide +kernel, rfl, by decide +kernel, by decide +kernel⟩
theorem sc_is_barrier : FnScope ["order", "value", "place", "low", "high", "behind"] ["order", "value"] (defScope s_is_barrier) := ⟨rfl, rfl, rfl, by decide +kernel, rfl, by decide +kernel, by decide +kernel⟩
theorem sc_search_holds : FnScope ["order", "value", "word", "proof"] ["order", "value"] (defScope s_search_holds) := ⟨rfl, rfl, rfl, by decide +kernel, rfl, by decide +kernel, by decide +kernel⟩
theorem sc__law_begin : FnScope ["_law_script", "_law_cell", "_law_greats", "_law_whole"] ["_law_script"] (defScope s__law_begin) := ⟨rfl, rfl, rfl, by decide +kernel, rfl, by decide +kernel, by decide +kernel⟩
theorem sc__law_next : FnScope ["_law_deck", "_law_many", "_law_rest", "_law_mixed_here"] ["_law_deck", "_law_many"] (defScope s__law_next) := ⟨rfl, rfl, rfl, by decide +kernel, rfl, by decide +kernel, by decide +kernel⟩
theorem sc__law_same : FnScope ["_law_found", "_law_due_here", "_law_k"] ["_law_found", "_law_due_here"] (defScope s__law_same) := ⟨rfl, rfl, rfl, by decide +kernel, rfl, by decide +kernel, by decide +kernel⟩
theorem sc__law_mixed : FnScope ["_law_deck", "_law_items", "_law_rest", "_law_found"] ["_law_deck", "_law_items"] (defScope s__law_mixed) := ⟨rfl, rfl, rfl, by decide +kernel, rfl, by decide +kernel, by decide +kernel⟩
theorem sc__law_free : FnScope ["_law_deck", "_law_letters", "_law_spot"] ["_law_deck", "_law_letters"] (defScope s__law_free) := ⟨rfl, rfl, rfl, by decide +kernel, rfl, by decide +kernel, by decide +kernel⟩
theorem sc__law_order : FnScope ["_law_deck", "_law_low", "_law_high", "_law_size", "_law_way", "_law_letters"] ["_law_deck", "_law_low", "_law_high"] (defScope s__law_order) := ⟨rfl, rfl, rfl, by decide +kernel, rfl, by decide +kernel, by decide +kernel⟩
theorem sc__law_put : FnScope ["_law_tree", "_law_letter", "_law_left", "_law_own", "_law_right"] ["_law_tree", "_law_letter"] (defScope s__law_put) := ⟨rfl, rfl, rfl, by decide +kernel, rfl, by decide +kernel, by decide +kernel⟩
theorem sc__law_grown : FnScope ["_law_order_here", "_law_tree", "_law_letter"] ["_law_order_here"] (defScope s__law_grown) := ⟨rfl, rfl, rfl, by decide +kernel, rfl, by decide +kernel, by decide +kernel⟩
theorem sc__law_ahead : FnScope ["_law_tree", "_law_left", "_law_own", "_law_right"] ["_law_tree"] (defScope s__law_ahead) := ⟨rfl, rfl, rfl, by decide +kernel, rfl, by decide +kernel, by decide +kernel⟩
theorem sc__law_barriers : FnScope ["_law_order_here", "_law_found", "_law_size", "_law_p", "_law_q", "_law_r"] ["_law_order_here"] (defScope s__law_barriers) := ⟨rfl, rfl, rfl, by decide +kernel, rfl, by decide +kernel, by decide +kernel⟩
theorem sc__law_odd : FnScope ["_law_deck", "_law_some"] ["_law_deck"] (defScope s__law_odd) := ⟨rfl, rfl, rfl, by decide +kernel, rfl, by decide +kernel, by decide +kernel⟩
theorem sc__law_bent : FnScope ["_law_deck", "_law_value", "_law_spot", "_law_item", "_law_some", "_law_one"] ["_law_deck", "_law_value"] (defScope s__law_bent) := ⟨rfl, rfl, rfl, by decide +kernel, rfl, by decide +kernel, by decide +kernel⟩
theorem sc__law_turned : FnScope ["_law_tree", "_law_left", "_law_own", "_law_right"] ["_law_tree"] (defScope s__law_turned) := ⟨rfl, rfl, rfl, by decide +kernel, rfl, by decide +kernel, by decide +kernel⟩
theorem sc__law_due : FnScope ["_law_order_here", "_law_value", "_law_places", "_law_tree", "_law_known"] ["_law_order_here", "_law_value"] (defScope s__law_due) := ⟨rfl, rfl, rfl, by decide +kernel, rfl, by decide +kernel, by decide +kernel⟩
theorem sc__law_values : FnScope ["_law_deck", "_law_order_here", "_law_tree", "_law_other", "_law_parts", "_law_places", "_law_some", "_law_one", "_law_again", "_law_once", "_law_values_here", "_law_part"] ["_law_deck", "_law_order_here"] (defScope s__law_values) := ⟨rfl, rfl, rfl, by decide +kernel, rfl, by decide +kernel, by decide +kernel⟩
theorem sc_law : FnScope ["_law_script", "_law_deck", "_law_turn", "_law_order_here", "_law_value", "_law_kept"] ["_law_script"] (defScope s_law) := ⟨rfl, rfl, rfl, by decide +kernel, rfl, by decide +kernel, by decide +kernel⟩
/-! ### xs != [], xs == [] -/
section
variable {X : Cx}
theorem op_neL (hu : X.A.units < cLine) : OpR X (compareOp .NotEq) (fun x y H Q => ∃ a b xs, x = .ref a ∧ y = .ref b ∧ SqL X.K H a xs ∧ SqL X.K H b [] ∧ Q (.bl (!xs.isEmpty)) H) := by
  intro pins s σ H x y v u Q I rx ry h
  obtain ⟨a, b, xs, rfl, rfl, hx, hy, q⟩ := h
  cases rx
  cases ry
  obtain ⟨its, r1, t1, _⟩ := I.list hx
  obtain ⟨its2, r2, t2, _⟩ := I.list hy
  cases r2
  cases r1 with
  | nil =>
    have rc := SeqAt.RcNeAt.lists (A := X.A) (s := s) (items := ([] : List Value).toArray) (items2 := ([] : List Value).toArray) (e := fun _ => true) t1.isList t2.isList rfl hu (fun j h1 _ => absurd h1 (by simp))
    exact rc X.prog X.w X.xe _ ⟨.bl _, H, I, rfl, q⟩
  | cons _ _ =>
    have rc := SeqAt.RcNeAt.lists_lengths (A := X.A) (s := s) t1.isList t2.isList (by simp) hu
    exact rc X.prog X.w X.xe _ ⟨.bl _, H, I, rfl, q⟩
theorem cmpOf_ltS {prog : Program} {w : World} {A : Around} (x y : Str) (t u : Tok) :
    CmpOf prog w A .Lt (fun i v => (#[Value.str x t, Value.str y u])[i]? = some v) (fun i j => decide (([x, y].getD i x).cps.toList < ([x, y].getD j x).cps.toList)) := fun i j vi vj s Q E hi hj h => by
  have one : ∀ (i : Nat) (v : Value), (#[Value.str x t, Value.str y u])[i]? = some v → ∃ tk, v = .str ([x, y].getD i x) tk := fun i v e => by
    match i with
    | 0 => exact ⟨t, by simpa using e.symm⟩
    | 1 => exact ⟨u, by simpa using e.symm⟩
    | n + 2 => simp at e
  obtain ⟨t1, rfl⟩ := one i vi hi
  obtain ⟨t2, rfl⟩ := one j vj hj
  exact lt_str h
theorem cmpOf_gtS {prog : Program} {w : World} {A : Around} (x y : Str) (t u : Tok) :
    CmpOf prog w A .Gt (fun i v => (#[Value.str x t, Value.str y u])[i]? = some v) (fun i j => decide (([x, y].getD j x).cps.toList < ([x, y].getD i x).cps.toList)) := fun i j vi vj s Q E hi hj h => by
  have one : ∀ (i : Nat) (v : Value), (#[Value.str x t, Value.str y u])[i]? = some v → ∃ tk, v = .str ([x, y].getD i x) tk := fun i v e => by
    match i with
    | 0 => exact ⟨t, by simpa using e.symm⟩
    | 1 => exact ⟨u, by simpa using e.symm⟩
    | n + 2 => simp at e
  obtain ⟨t1, rfl⟩ := one i vi hi
  obtain ⟨t2, rfl⟩ := one j vj hj
  exact PySem.P.gt_str h
theorem argBest1 (bt : Nat → Nat → Bool) : argBest bt 1 = if bt 1 0 = true then 1 else 0 := rfl
theorem max_two_str {prog : Program} {w : World} {A : Around} {E : Value → Shared → Prop} {s : Shared} {Q : Value → Shared → Prop} {x y : Str} {t u : Tok} (hh : A.handled = none)
    (h : ∀ h' tk, (∀ c o, s.heap.get? c = some o → h'.get? c = some o) → Q (if x.cps.toList < y.cps.toList then .str y u else .str x t) { s with heap := h', toks := tk }) :
    wpAny (model prog w) A (call (.builtin "max") [.str x t, .str y u]) Q E s := by
  have hT : (s.heap.push { cls := .type "tuple", data := .seq #[.str x t, .str y u] }).IsTuple s.heap.objs.size #[.str x t, .str y u] := ⟨_, Heap.get?_push_size _ rfl, rfl, 0, rfl⟩
  refine call_max_two (wpAny_pyIter_tuple hT ?_)
  have hsz : (s.heap.push { cls := .type "tuple", data := .seq #[.str x t, .str y u] }).objs.size = s.heap.objs.size + 1 := Heap.size_push ..
  refine ⟨_, [_, s.heap.objs.size], [_], _, _, _, _, rfl, Walks.tuple (A := A.in1) hh _ s.heap.objs.size (by rw [hsz]; exact Nat.ne_of_lt (Nat.lt_succ_self _)) #[.str x t, .str y u],
    ⟨⟨_, Heap.get?_push_size _ rfl, rfl, rfl⟩, hT.push _⟩, fun c hc => ?_, by simp, cmpOf_gtS x y t u, fun v h' tk hP hk => ?_⟩
  · show c < ((s.heap.push _).push _).objs.size
    rw [Heap.size_push, hsz]
    rcases List.mem_cons.mp hc with rfl | hc
    · rw [hsz]; exact Nat.lt_succ_self _
    · rcases List.mem_cons.mp hc with rfl | hc
      · exact Nat.lt_succ_of_lt (Nat.lt_succ_self _)
      · cases hc
  · have hold : ∀ c o, s.heap.get? c = some o → h'.get? c = some o := fun c o e => by
      refine hk c o (fun hm => ?_) (Heap.get?_push_of_some _ (Heap.get?_push_of_some _ e))
      rcases List.mem_cons.mp hm with e1 | hm
      · have := Heap.lt_size e; rw [e1, hsz] at this; exact Nat.lt_irrefl _ (Nat.lt_of_succ_lt this)
      · cases hm
    have := h h' tk hold
    have hv : v = if x.cps.toList < y.cps.toList then .str y u else .str x t := by
      rw [show #[Value.str x t, Value.str y u].size - 1 = 1 from rfl, argBest1] at hP
      replace hP : #[Value.str x t, Value.str y u][if decide (x.cps.toList < y.cps.toList) = true then 1 else 0]? = some v := hP
      by_cases hc : x.cps.toList < y.cps.toList
      · rw [if_pos (decide_eq_true hc)] at hP
        rw [if_pos hc]
        exact (Option.some.inj hP).symm
      · rw [if_neg (fun z => hc (of_decide_eq_true z))] at hP
        rw [if_neg hc]
        exact (Option.some.inj hP).symm
    rw [hv]; exact this
theorem min_two_str {prog : Program} {w : World} {A : Around} {E : Value → Shared → Prop} {s : Shared} {Q : Value → Shared → Prop} {x y : Str} {t u : Tok} (hh : A.handled = none)
    (h : ∀ h' tk, (∀ c o, s.heap.get? c = some o → h'.get? c = some o) → Q (if y.cps.toList < x.cps.toList then .str y u else .str x t) { s with heap := h', toks := tk }) :
    wpAny (model prog w) A (call (.builtin "min") [.str x t, .str y u]) Q E s := by
  have hT : (s.heap.push { cls := .type "tuple", data := .seq #[.str x t, .str y u] }).IsTuple s.heap.objs.size #[.str x t, .str y u] := ⟨_, Heap.get?_push_size _ rfl, rfl, 0, rfl⟩
  refine call_min_two (wpAny_pyIter_tuple hT ?_)
  have hsz : (s.heap.push { cls := .type "tuple", data := .seq #[.str x t, .str y u] }).objs.size = s.heap.objs.size + 1 := Heap.size_push ..
  refine ⟨_, [_, s.heap.objs.size], [_], _, _, _, _, rfl, Walks.tuple (A := A.in1) hh _ s.heap.objs.size (by rw [hsz]; exact Nat.ne_of_lt (Nat.lt_succ_self _)) #[.str x t, .str y u],
    ⟨⟨_, Heap.get?_push_size _ rfl, rfl, rfl⟩, hT.push _⟩, fun c hc => ?_, by simp, cmpOf_ltS x y t u, fun v h' tk hP hk => ?_⟩
  · show c < ((s.heap.push _).push _).objs.size
    rw [Heap.size_push, hsz]
    rcases List.mem_cons.mp hc with rfl | hc
    · rw [hsz]; exact Nat.lt_succ_self _
    · rcases List.mem_cons.mp hc with rfl | hc
      · exact Nat.lt_succ_of_lt (Nat.lt_succ_self _)
      · cases hc
  · have hold : ∀ c o, s.heap.get? c = some o → h'.get? c = some o := fun c o e => by
      refine hk c o (fun hm => ?_) (Heap.get?_push_of_some _ (Heap.get?_push_of_some _ e))
      rcases List.mem_cons.mp hm with e1 | hm
      · have := Heap.lt_size e; rw [e1, hsz] at this; exact Nat.lt_irrefl _ (Nat.lt_of_succ_lt this)
      · cases hm
    have := h h' tk hold
    have hv : v = if y.cps.toList < x.cps.toList then .str y u else .str x t := by
      rw [show #[Value.str x t, Value.str y u].size - 1 = 1 from rfl, argBest1] at hP
      replace hP : #[Value.str x t, Value.str y u][if decide (y.cps.toList < x.cps.toList) = true then 1 else 0]? = some v := hP
      by_cases hc : y.cps.toList < x.cps.toList
      · rw [if_pos (decide_eq_true hc)] at hP
        rw [if_pos hc]
        exact (Option.some.inj hP).symm
      · rw [if_neg (fun z => hc (of_decide_eq_true z))] at hP
        rw [if_neg hc]
        exact (Option.some.inj hP).symm
    rw [hv]; exact this
theorem call_max2S (hc : X.calm = true) : CallR X (.builtin "max") (fun xs H Q => ∃ a b : Nat, xs = [.str (ch a), .str (ch b)] ∧ Q (.str (ch (max a b))) H) := by
  intro pins s σ H xs us Q I r h
  obtain ⟨a, b, rfl, q⟩ := h
  obtain ⟨u, w', rfl, ⟨t, rfl⟩, ⟨t', rfl⟩⟩ := vals2 r
  refine max_two_str (I.ok.hd hc) fun h' tk k => ⟨_, H, I.kept k, ?_, q⟩
  have e : ((ch a).cps.toList < (ch b).cps.toList) ↔ a < b := by
    have := ch_lt a b
    simpa using this
  by_cases hj : a < b
  · rw [if_pos (e.mpr hj), Nat.max_eq_right (Nat.le_of_lt hj)]; exact ⟨_, rfl⟩
  · rw [if_neg (fun z => hj (e.mp z)), Nat.max_eq_left (by omega)]; exact ⟨_, rfl⟩
theorem call_min2S (hc : X.calm = true) : CallR X (.builtin "min") (fun xs H Q => ∃ a b : Nat, xs = [.str (ch a), .str (ch b)] ∧ Q (.str (ch (min a b))) H) := by
  intro pins s σ H xs us Q I r h
  obtain ⟨a, b, rfl, q⟩ := h
  obtain ⟨u, w', rfl, ⟨t, rfl⟩, ⟨t', rfl⟩⟩ := vals2 r
  refine min_two_str (I.ok.hd hc) fun h' tk k => ⟨_, H, I.kept k, ?_, q⟩
  have e : ((ch b).cps.toList < (ch a).cps.toList) ↔ b < a := by
    have := ch_lt b a
    simpa using this
  by_cases hj : b < a
  · rw [if_pos (e.mpr hj), Nat.min_eq_right (Nat.le_of_lt hj)]; exact ⟨_, rfl⟩
  · rw [if_neg (fun z => hj (e.mp z)), Nat.min_eq_left (by omega)]; exact ⟨_, rfl⟩
end
/-! ### the deck -/
structure Deck where
  dk : Addr
  ga : Addr
structure DeckOk (H : Hp) (D : Deck) : Prop where
  ex : ∃ (gs : List Int) (wh n : Int), H D.dk = some (.lst [.ref D.ga, .int wh, .int n]) ∧ H D.ga = some (.lst (gs.map V.int)) ∧ gs.length ≤ 63 ∧ 0 ≤ wh ∧ wh < 2 ^ 62
  ne : D.dk ≠ D.ga
/-- all stands still but the deck's two lists -/
def SameD (D : Deck) (H H' : Hp) : Prop := ∀ b o, b ≠ D.dk → b ≠ D.ga → H b = some o → H' b = some o
theorem SameD.refl (D : Deck) (H : Hp) : SameD D H H := fun _ _ _ _ h => h
theorem SameD.trans {D : Deck} {H H1 H2 : Hp} (a : SameD D H H1) (b : SameD D H1 H2) : SameD D H H2 := fun c o h1 h2 h => b c o h1 h2 (a c o h1 h2 h)
theorem SameD.of {D : Deck} {H H' : Hp} (h : Same H H') : SameD D H H' := fun b o _ _ e => h b o e
theorem DeckOk.lists {H : Hp} {D : Deck} (d : DeckOk H D) : (∃ xs, H D.dk = some (.lst xs)) ∧ (∃ xs, H D.ga = some (.lst xs)) := by
  obtain ⟨gs, wh, n, h1, h2, _⟩ := d.ex
  exact ⟨⟨_, h1⟩, ⟨_, h2⟩⟩
theorem SameD.keepT {D : Deck} {H H' : Hp} (h : SameD D H H') (d : DeckOk H D) : KeepT H H' := fun b xs e => by
  obtain ⟨⟨x1, h1⟩, ⟨x2, h2⟩⟩ := d.lists
  exact h b _ (ne_of e h1 (by intro z; cases z)) (ne_of e h2 (by intro z; cases z)) e
theorem SameD.free {D : Deck} {H H' : Hp} (h : SameD D H H') (d : DeckOk H' D) {p : Addr} (e : H' p = none) : H p = none := by
  obtain ⟨⟨x1, h1⟩, ⟨x2, h2⟩⟩ := d.lists
  have n1 : p ≠ D.dk := fun z => by rw [z, h1] at e; cases e
  have n2 : p ≠ D.ga := fun z => by rw [z, h2] at e; cases e
  cases q : H p with
  | none => rfl
  | some o =>
    rw [h p o n1 n2 q] at e
    cases e
theorem DeckOk.same {H H' : Hp} {D : Deck} (d : DeckOk H D) (h : Same H H') : DeckOk H' D := by
  obtain ⟨gs, wh, n, h1, h2, h3⟩ := d.ex
  exact ⟨⟨gs, wh, n, h _ _ h1, h _ _ h2, h3⟩, d.ne⟩
structure Off (D : Deck) (p : Addr) : Prop where
  dk : p ≠ D.dk
  ga : p ≠ D.ga
theorem DeckOk.new {H : Hp} {D : Deck} (d : DeckOk H D) {p : Addr} (e : H p = none) : Off D p := by
  obtain ⟨⟨x1, h1⟩, ⟨x2, h2⟩⟩ := d.lists
  refine ⟨fun z => ?_, fun z => ?_⟩
  · rw [z, h1] at e
    cases e
  · rw [z, h2] at e
    cases e
theorem DeckOk.put {H : Hp} {D : Deck} (d : DeckOk H D) {p : Addr} (f : Off D p) (o : HO) : DeckOk (upd H p o) D := by
  obtain ⟨gs, wh, n, h1, h2, h3⟩ := d.ex
  exact ⟨⟨gs, wh, n, by rw [upd_ne f.dk.symm]; exact h1, by rw [upd_ne f.ga.symm]; exact h2, h3⟩, d.ne⟩
theorem SameD.put {D : Deck} {H H' : Hp} {p : Addr} (s : SameD D H H') (e : H p = none) (o : HO) : SameD D H (upd H' p o) := fun b u h1 h2 h => by
  rw [upd_ne (ne_of_none h e)]
  exact s b u h1 h2 h
theorem SameD.at {D : Deck} {H H' : Hp} {p : Addr} {o : HO} (s : SameD D H H') (f : Off D p) (e : H p = some o) : H' p = some o := s p o f.dk f.ga e
theorem modP (z p : Int) (h0 : 0 < p) (h1 : p < 2 ^ 64) : -(2 ^ 64) < z % p ∧ z % p < 2 ^ 64 := by
  have a := Int.emod_nonneg z (show p ≠ 0 by omega)
  have b := Int.emod_lt_of_pos z h0
  omega
def spNext : Sp := fun vs H Q _ => ∃ (D : Deck) (m : Int), vs = [.ref D.dk, .int m] ∧ DeckOk H D ∧ 0 < m ∧ m < 1073741824 ∧ ∀ (i : Int) (H' : Hp), 0 ≤ i → i < m → DeckOk H' D → SameD D H H' → Q (.int i) H'
section
variable {P : Program} {w : World} {K : PySem.W.Frag} {mg : Str → Option Value} {base : Heap} {f : Addr} {fd : FuncData}
theorem ok_next {k : Nat} (F : Fun K "_law_next" "_law_next" s__law_next f fd) : FnOk P w K mg base CX0 (k + 1) f fd ["_law_deck", "_law_many"] spNext := by
  refine F.ok sc__law_next (fun vs H Q E h => ?_) (fun cdv A outer s H vs Q E hr h => ?_)
  · obtain ⟨D, m, rfl, _⟩ := h
    rfl
  obtain ⟨D, m, rfl, d, m0, m1, q⟩ := h
  refine ⟨_, (pss_cons (ps_while PassesOwn.never (pt_cmpR (op_neL hr.units0) (pe_ix ix_list (pv 0) pe_int (fun _ _ => rfl)) (pe_lst pa_nil) (nomark _))
      (pss_cons (ps_set (i := 2) sc__law_next.nd rfl (.inl rfl) (pe_bm0 PySem.F.plainAttrs_list PySem.F.slot_list_pop PySem.F.type_list_pop mt_pop (pe_ix ix_list (pv 0) pe_int (fun _ _ => rfl))))
    (pss_one (ps_if (pt_cmpR op_gt (pv 2) pe_int (nomark _))
      (pss_cons (ps_expr (pe_bm PySem.F.plainAttrs_list PySem.F.slot_list_append PySem.F.type_list_append mt_append (pe_ix ix_list (pv 0) pe_int (fun _ _ => rfl)) (pa_cons (pe_op op_fdiv (pv 2) (pv 1)) pa_nil)))
    (pss_one (ps_ret (pe_op op_mod (pv 2) (pv 1))))) pss_nil))))
    (pss_cons (ps_asg (pe_op op_add (pe_ix ix_list (pv 0) pe_int (fun _ _ => rfl)) pe_int) (pg_sub (pv 0) pe_int set_list))
    (pss_cons (ps_set (i := 3) sc__law_next.nd rfl (.inl rfl) (pe_op op_add (pe_op op_mul (pe_ix ix_list (pv 0) pe_int (fun _ _ => rfl)) (pe_op op_add pe_int (pe_op op_mul pe_int (pe_ix ix_list (pv 0) pe_int (fun _ _ => rfl))))) (pe_op op_mul pe_int (pe_ix ix_list (pv 0) pe_int (fun _ _ => rfl)))))
    (pss_cons (ps_set (i := 3) sc__law_next.nd rfl (.inl rfl) (pe_op op_mod (pv 3) pe_int))
    (pss_cons (ps_set (i := 3) sc__law_next.nd rfl (.inl rfl) (pe_op op_mod (pe_op op_mul (pv 3) (pv 3)) pe_int))
    (pss_one (ps_ret (pe_op op_mod (pe_op op_fdiv (pe_op op_mod (pe_op op_mul (pv 3) (pv 3)) pe_int) pe_int) (pv 1))))))))), ?_⟩
  refine while_by (fun σ H' => ∃ r, σ = [some (.ref D.dk), some (.int m), r, none] ∧ DeckOk H' D ∧ SameD D H H') (fun σ H' => match H' D.ga with | some (.lst xs) => xs.length | _ => 0) ⟨none, rfl, d, SameD.refl D H⟩ (fun σ H' hp => ?_) ?_
  · obtain ⟨r, rfl, d', s'⟩ := hp
    obtain ⟨gs, wh, n, e1, e2, gl, w0, w1⟩ := d'.ex
    have at0 : ∀ b c, atI [V.ref D.ga, b, c] 0 = some (.ref D.ga) := fun _ _ => atI_nat (j := 0) rfl
    refine ⟨_, rfl, D.dk, _, _, _, rfl, rfl, SqL.of e1, at0 _ _, (by show 0 ≤ sizeLine; decide), fun el ne => ?_⟩
    have q1 := same_new ne (.lst [])
    refine ⟨D.ga, el, _, rfl, rfl, SqL.of (q1 _ _ e2), SqL.of upd_same, _, rfl, ?_⟩
    have d1 := d'.same q1
    have s1 := s'.trans (SameD.of q1)
    have e1' := q1 _ _ e1
    have e2' := q1 _ _ e2
    generalize upd H' el (.lst []) = H1 at d1 s1 e1' e2'
    cases hg : gs with
    | nil =>
      refine iteF ?_
      subst hg
      -- the count
      refine ⟨_, rfl, D.dk, _, _, _, rfl, rfl, SqL.of e1', atI_nat (j := 2) rfl, _, _, rfl, rfl, _, rfl, D.dk, _, _, 2, rfl, rfl, e1', rfl, ?_⟩
      have x1 : (upd H1 D.dk (.lst [.ref D.ga, .int wh, .int (n + 1)])) D.dk = some (.lst [.ref D.ga, .int wh, .int (n + 1)]) := upd_same
      have x2 : (upd H1 D.dk (.lst [.ref D.ga, .int wh, .int (n + 1)])) D.ga = some (.lst []) := by rw [upd_ne d.ne.symm]; exact e2'
      have s2 : SameD D H (upd H1 D.dk (.lst [.ref D.ga, .int wh, .int (n + 1)])) := s1.trans fun b o h1 _ e => by rw [upd_ne h1]; exact e
      have y1 : atI [V.ref D.ga, .int wh, .int (n + 1)] 1 = some (.int wh) := atI_nat (j := 1) rfl
      have y2 : atI [V.ref D.ga, .int wh, .int (n + 1)] 2 = some (.int (n + 1)) := atI_nat (j := 2) rfl
      refine ⟨_, rfl, D.dk, _, _, _, rfl, rfl, SqL.of x1, y1, _, rfl, D.dk, _, _, _, rfl, rfl, SqL.of x1, y2, _, _, rfl, rfl, .inl ⟨by decide, by decide⟩, _, _, rfl, rfl, _, _, rfl, rfl, .inl ⟨by omega, by omega⟩, ?_⟩
      refine ⟨_, rfl, D.dk, _, _, _, rfl, rfl, SqL.of x1, y2, _, _, rfl, rfl, .inl ⟨by decide, by decide⟩, _, _, rfl, rfl, ?_⟩
      refine ⟨_, rfl, _, _, rfl, rfl, (show (0 : Int) < 2305843009213693951 by decide), ?_⟩
      refine ⟨_, rfl, _, rfl, _, _, rfl, rfl, .inl (modP _ _ (by decide) (by decide)), _, _, rfl, rfl, (show (0 : Int) < 2305843009213693951 by decide), ?_⟩
      refine ⟨_, rfl, _, rfl, _, _, rfl, rfl, .inl (modP _ _ (by decide) (by decide)), _, _, rfl, rfl, (show (0 : Int) < 4611686018427387847 by decide), _, _, rfl, rfl, ⟨by decide, by decide⟩, _, rfl, _, _, rfl, rfl, m0, ?_⟩
      exact q _ _ (Int.emod_nonneg _ (by omega)) (Int.emod_lt_of_pos _ m0) ⟨⟨[], wh, n + 1, x1, x2, by decide, w0, w1⟩, d.ne⟩ s2
    | cons g0 gr =>
      refine iteT ?_
      have gne : gs ≠ [] := by rw [hg]; exact List.cons_ne_nil _ _
      have gl' : gs.length - 1 < gs.length := by rw [hg]; exact Nat.lt_succ_self _
      have lst : (gs.map V.int)[(gs.map V.int).length - 1]? = some (.int gs[gs.length - 1]) := by
        rw [List.length_map, List.getElem?_map, List.getElem?_eq_getElem gl']
        rfl
      refine ⟨_, rfl, D.dk, _, _, _, rfl, rfl, SqL.of e1', at0 _ _, .inl ⟨rfl, _, SqL.of e2'⟩, D.ga, _, _, rfl, rfl, e2', lst, ?_⟩
      have z1 : (upd H1 D.ga (.lst (gs.map V.int).dropLast)) D.dk = some (.lst [.ref D.ga, .int wh, .int n]) := by rw [upd_ne d.ne]; exact e1'
      have z2 : (upd H1 D.ga (.lst (gs.map V.int).dropLast)) D.ga = some (.lst (gs.dropLast.map V.int)) := by rw [upd_same, List.map_dropLast]
      have s2 : SameD D H (upd H1 D.ga (.lst (gs.map V.int).dropLast)) := s1.trans fun b o _ h2 e => by rw [upd_ne h2]; exact e
      have dl : gs.dropLast.length < gs.length := by rw [List.length_dropLast]; exact gl'
      refine ⟨_, rfl, _, _, rfl, rfl, _, rfl, ite2 (fun _ => ?_) (fun _ => ?_)⟩
      · refine ⟨_, rfl, D.dk, _, _, _, rfl, rfl, SqL.of z1, at0 _ _, .inl ⟨rfl, _, SqL.of z2⟩, _, rfl, _, rfl, _, _, rfl, rfl, ⟨m0, m1⟩, D.ga, _, _, rfl, rfl, z2, by rw [List.length_map]; exact small1000 (by omega), ?_⟩
        refine ⟨_, rfl, _, rfl, _, _, rfl, rfl, m0, ?_⟩
        refine q _ _ (Int.emod_nonneg _ (by omega)) (Int.emod_lt_of_pos _ m0) ⟨⟨gs.dropLast ++ [gs[gs.length - 1] / m], wh, n, ?_, ?_, ?_, w0, w1⟩, d.ne⟩ ?_
        · rw [upd_ne d.ne]; exact z1
        · rw [upd_same, List.map_append]; rfl
        · rw [List.length_append, List.length_cons, List.length_nil]; omega
        · exact s2.trans fun b o _ h2 e => by rw [upd_ne h2]; exact e
      · refine ⟨⟨_, rfl, ⟨⟨gs.dropLast, wh, n, z1, z2, by omega, w0, w1⟩, d.ne⟩, s2⟩, ?_⟩
        show (match (upd H1 D.ga (.lst (gs.map V.int).dropLast)) D.ga with | some (.lst xs) => xs.length | _ => 0) < (match H' D.ga with | some (.lst xs) => xs.length | _ => 0)
        rw [z2, e2]
        show (gs.dropLast.map V.int).length < (gs.map V.int).length
        rw [List.length_map, List.length_map]
        exact dl
  · intro σ H' Q1 Q2 hQ h
    obtain ⟨v, e, p, xs, i, y, e2, e3, e4, e5, e6, h⟩ := h
    refine ⟨v, e, p, xs, i, y, e2, e3, e4, e5, e6, fun el ne => ?_⟩
    obtain ⟨a, b, zs, h1, h2, h3, h4, k, h5, h6⟩ := h el ne
    exact ⟨a, b, zs, h1, h2, h3, h4, k, h5, hQ _ _ h6⟩
end
/-! ### _law_begin -/
def spBegin (K : PySem.W.Frag) : Sp := fun vs H Q _ => ∃ (a : Addr) (ns : List Int), vs = [.ref a] ∧ SqL K H a (ns.map V.int) ∧ ns.length ≤ 63 ∧ ∀ (D : Deck) (H' : Hp), DeckOk H' D → Same H H' → Q (.ref D.dk) H'
section
variable {P : Program} {w : World} {K : PySem.W.Frag} {mg : Str → Option Value} {base : Heap} {f : Addr} {fd : FuncData}
theorem ok_begin {k : Nat} (F : Fun K "_law_begin" "_law_begin" s__law_begin f fd) (M : Mgs mg) : FnOk P w K mg base CX0 (k + 1) f fd ["_law_script"] (spBegin K) := by
  refine F.ok sc__law_begin (fun vs H Q E h => ?_) (fun cdv A outer s H vs Q E hr h => ?_)
  · obtain ⟨a, ns, rfl, _⟩ := h
    rfl
  obtain ⟨a, ns, rfl, hS, hn, q⟩ := h
  refine ⟨_, (pss_cons (ps_setLc (i := 2) (own := [("_law_cell", 1)]) (g := gName 1) (by rfl) sc__law_begin.nd rfl rfl (sw_true rfl rfl rfl (by decide +kernel)) (pi_list (pv 0)) (blkOk_by (N := ["_law_script", "_law_cell", "_law_greats", "_law_whole"]) (sc := defScope s__law_begin) (by decide +kernel)) (fun _ _ _ _ _ => (pg_name (i := 1) sc__law_begin.nd rfl (.inl rfl))) (fun _ _ _ _ _ => pts_one (pt_cmpR op_ge (pe_callB call_abs rfl M.abs (by decide +kernel) (pa_cons (pv 1) pa_nil)) (pe_op op_pow pe_int pe_int) (nomark _))) (fun _ _ _ _ _ => (pe_callB call_abs rfl M.abs (by decide +kernel) (pa_cons (pv 1) pa_nil))))
    (pss_cons (ps_set (i := 3) sc__law_begin.nd rfl (.inl rfl) (pe_op op_add pe_int (pe_callB call_len_seq rfl M.len PySem.boot_len (pa_cons (pv 0) pa_nil))))
    (pss_cons (ps_for PassesOwn.never rfl (pi_list (pv 0)) (pg_name (i := 1) sc__law_begin.nd rfl (.inl rfl))
      (pss_one (ps_set (i := 3) sc__law_begin.nd rfl (.inl rfl) (pe_op op_mod (pe_op op_add (pe_op op_add (pe_op op_mul (pv 3) pe_int) (pe_op op_mul pe_int (pe_callB call_abs rfl M.abs (by decide +kernel) (pa_cons (pv 1) pa_nil)))) (pe_callTy call_int1 rfl M.int (by decide +kernel) (pa_cons (pe_cmpR op_lt (pv 1) pe_int (nomark _)) pa_nil))) pe_int))))
    (pss_one (ps_ret (pe_lst (pa_cons (pe_revL (pv 2)) (pa_cons (pv 3) (pa_cons pe_int pa_nil))))))))), ?_⟩
  refine ⟨.ref a, rfl, a, rfl, ⟨_, hS⟩, fun d1 n1 => ?_⟩
  have s1 := same_new n1 (.lst [])
  refine lc_list (K := K) (a := a) (xs := ns.map V.int) (fun i H' => Same H H' ∧ ∃ zs : List Int, zs.length ≤ i ∧ H' d1 = some (.lst (zs.map V.int))) ⟨s1, [], Nat.le_refl _, upd_same⟩ (fun i H' _ hp => hp.1.seq hS) (fun i x H' hx hp => ?_) (fun H1 hp => ?_)
  · obtain ⟨sm, zs, hz, hd⟩ := hp
    rw [List.getElem?_map] at hx
    obtain ⟨y, hy, rfl⟩ := Option.map_eq_some_iff.mp hx
    have hi : i < 63 := by
      have := (List.getElem?_eq_some_iff.mp hy).1
      omega
    refine ⟨rfl, ?_⟩
    refine ⟨_, rfl, _, rfl, _, _, rfl, rfl, ⟨by decide, by decide, by decide⟩, _, _, rfl, rfl, _, rfl, ite2 (fun _ => ?_) (fun _ => ?_)⟩
    · refine ⟨_, rfl, _, rfl, _, hd, by rw [List.length_map]; exact small1000 (by omega), fun b o e => ?_, zs ++ [if y < 0 then -y else y], by rw [List.length_append]; show zs.length + 1 ≤ i + 1; omega, ?_⟩
      · rw [upd_ne (ne_of_none e n1)]
        exact sm _ _ e
      · rw [upd_same, List.map_append]
        rfl
    · exact ⟨sm, zs, by omega, hd⟩
  obtain ⟨sm, zs, hz, hd⟩ := hp
  rw [List.length_map] at hz
  refine ⟨.ref a, rfl, a, _, rfl, .inl (sm.seq hS), _, _, rfl, rfl, ?_⟩
  refine ⟨.ref a, rfl, a, rfl, ⟨_, sm.seq hS⟩, ?_⟩
  refine for_list (K := K) (a := a) (xs := ns.map V.int) (fun i σ H' => H' = H1 ∧ ∃ (c : Option V) (wh : Int), σ = [some (.ref a), c, some (.ref d1), some (.int wh)] ∧ 0 ≤ wh ∧ wh < 2 ^ 62) ⟨rfl, _, _, rfl, by omega, by rw [List.length_map]; omega⟩ (fun i σ H' _ hp => by rw [hp.1]; exact sm.seq hS) (fun i x σ H' hx hp => ?_) (fun σ H' hp => ?_)
  · obtain ⟨rfl, c, wh, rfl, w0, w1⟩ := hp
    rw [List.getElem?_map] at hx
    obtain ⟨y, hy, rfl⟩ := Option.map_eq_some_iff.mp hx
    refine ⟨_, rfl, _, _, rfl, rfl, .inl ⟨by omega, by omega⟩, _, rfl, _, rfl, _, _, rfl, rfl, .inl ⟨by decide, by decide⟩, _, _, rfl, rfl, _, rfl, _, _, rfl, rfl, .inr ⟨_, rfl, _, _, rfl, rfl, _, _, rfl, rfl, (show (0 : Int) < 2305843009213693951 by decide), ?_⟩⟩
    refine ⟨rfl, _, _, rfl, Int.emod_nonneg _ (by decide), ?_⟩
    exact Int.lt_trans (Int.emod_lt_of_pos _ (by decide)) (by decide)
  · obtain ⟨rfl, c, wh, rfl, w0, w1⟩ := hp
    refine ⟨_, rfl, d1, _, rfl, SqL.of hd, fun ga nga => ?_⟩
    refine ⟨_, rfl, (by show 3 ≤ sizeLine; decide), fun dk ndk => ?_⟩
    have s2 := same_new nga (.lst (zs.map V.int).reverse)
    have s3 := same_new ndk (.lst [.ref ga, .int wh, .int 0])
    have ega : (upd H' ga (.lst (zs.map V.int).reverse)) ga = some (.lst (zs.reverse.map V.int)) := by rw [upd_same, List.map_reverse]
    exact q ⟨dk, ga⟩ _ ⟨⟨zs.reverse, wh, 0, upd_same, s3 _ _ ega, by rw [List.length_reverse]; omega, w0, w1⟩, (ne_of_none ega ndk).symm⟩ (sm.trans (s2.trans s3))
end
/-! ### _law_mixed, _law_free -/
abbrev vc (c : Nat) : V := .str (ch c)
theorem erase_perm {α : Type} : ∀ {l : List α} {i : Nat} (h : i < l.length), List.Perm (l[i] :: l.eraseIdx i) l
  | x :: l, 0, _ => List.Perm.refl _
  | x :: l, i + 1, h => by
    have := erase_perm (l := l) (i := i) (Nat.lt_of_succ_lt_succ h)
    show List.Perm (l[i]'(Nat.lt_of_succ_lt_succ h) :: x :: l.eraseIdx i) (x :: l)
    exact (List.Perm.swap _ _ _).trans (this.cons x)
def spMixed : Sp := fun vs H Q _ => ∃ (D : Deck) (a : Addr) (ls : List Nat), vs = [.ref D.dk, .ref a] ∧ DeckOk H D ∧ H a = some (.lst (ls.map vc)) ∧ Off D a ∧ ls.length ≤ 60 ∧
  ∀ (p : Addr) (zs : List Nat) (H' : Hp), DeckOk H' D → SameD D H H' → H' p = some (.lst (zs.map vc)) → zs.Perm ls → Off D p → Q (.ref p) H'
section
variable {P : Program} {w : World} {K : PySem.W.Frag} {mg : Str → Option Value} {base : Heap} {f : Addr} {fd : FuncData}
theorem ok_mixed {k : Nat} (F : Fun K "_law_mixed" "_law_mixed" s__law_mixed f fd) (M : Mgs mg) (D_law_next : Df P w K mg base k "_law_next" ["_law_deck", "_law_many"] spNext) : FnOk P w K mg base CX0 (k + 1) f fd ["_law_deck", "_law_items"] spMixed := by
  refine F.ok sc__law_mixed (fun vs H Q E h => ?_) (fun cdv A outer s H vs Q E hr h => ?_)
  · obtain ⟨D, a, ls, rfl, _⟩ := h
    rfl
  obtain ⟨D, a, ls, rfl, d, ea, oa, hl, q⟩ := h
  refine ⟨_, (pss_cons (ps_par (i := 2) (j := 3) (by rfl) sc__law_mixed.nd rfl rfl (by decide) rfl rfl (pa_cons (pe_callTy call_list_of rfl M.list (by decide +kernel) (pa_cons (pv 1) pa_nil)) (pa_cons (pe_lst pa_nil) pa_nil)) (by rfl))
    (pss_cons (ps_while PassesOwn.never (pt_cmpR (op_neL hr.units0) (pv 2) (pe_lst pa_nil) (nomark _))
      (pss_one (ps_expr (pe_bm PySem.F.plainAttrs_list PySem.F.slot_list_append PySem.F.type_list_append mt_append (pv 3) (pa_cons (pe_bm PySem.F.plainAttrs_list PySem.F.slot_list_pop PySem.F.type_list_pop mt_popAt (pv 2) (pa_cons (pe_call D_law_next.ok (hr.mono (by omega)) rfl D_law_next.g D_law_next.kp D_law_next.b .nil pass0 (pa_cons (pv 0) (pa_cons (pe_callB call_len_seq rfl M.len PySem.boot_len (pa_cons (pv 2) pa_nil)) pa_nil))) pa_nil)) pa_nil)))))
    (pss_one (ps_ret (pv 3))))), ?_⟩
  refine ⟨_, rfl, a, _, rfl, .inl (SqL.of ea), fun ra nra => ⟨(by show 0 ≤ sizeLine; decide), fun fa nfa => ?_⟩⟩
  refine ⟨_, _, rfl, ?_⟩
  have q1 := same_new nra (.lst (ls.map vc))
  have q2 := same_new nfa (.lst [])
  have era := q2 _ _ (upd_same (H := H) (a := ra) (o := .lst (ls.map vc)))
  have nrf : ra ≠ fa := ne_of_none upd_same nfa
  have nfaH : H fa = none := by
    rw [upd_ne nrf.symm] at nfa
    exact nfa
  have ora := d.new nra
  have ofa := d.new nfaH
  refine while_by (fun σ H' => σ = [some (.ref D.dk), some (.ref a), some (.ref ra), some (.ref fa)] ∧ ∃ rest xs : List Nat, DeckOk H' D ∧ SameD D H H' ∧ H' ra = some (.lst (rest.map vc)) ∧ H' fa = some (.lst (xs.map vc)) ∧ (xs ++ rest).Perm ls) (fun σ H' => match H' ra with | some (.lst xs) => xs.length | _ => 0)
    ⟨rfl, ls, [], (d.same q1).same q2, SameD.of (q1.trans q2), era, upd_same, List.Perm.refl _⟩ (fun σ H' hp => ?_) ?_
  · obtain ⟨rfl, rest, xs, d', s', er, ef, pm⟩ := hp
    have hlen : xs.length + rest.length = ls.length := by rw [← List.length_append]; exact pm.length_eq
    refine ⟨_, rfl, (by show 0 ≤ sizeLine; decide), fun el ne => ?_⟩
    have q3 := same_new ne (.lst [])
    refine ⟨ra, el, _, rfl, rfl, SqL.of (q3 _ _ er), SqL.of upd_same, _, rfl, ?_⟩
    have d1 := d'.same q3
    have s1 := s'.trans (SameD.of q3)
    have er1 := q3 _ _ er
    have ef1 := q3 _ _ ef
    generalize upd H' el (.lst []) = H1 at d1 s1 er1 ef1
    cases hg : rest with
    | nil =>
      refine iteF ?_
      subst hg
      rw [List.append_nil] at pm
      exact ⟨_, rfl, q fa xs H1 d1 s1 ef1 pm ofa⟩
    | cons g0 gr =>
      refine iteT ?_
      have r0 : 0 < rest.length := by rw [hg]; exact Nat.succ_pos _
      refine ⟨_, rfl, .inl ⟨rfl, _, SqL.of ef1⟩, _, rfl, .inl ⟨rfl, _, SqL.of er1⟩, _, rfl, _, rfl, ra, _, rfl, .inl (SqL.of er1), D, _, rfl, d1, ?_, ?_, fun j H2 j0 j1 d2 s2 => ?_⟩
      · rw [List.length_map]; omega
      · rw [List.length_map]; omega
      rw [List.length_map] at j1
      have hj : j.toNat < rest.length := by omega
      have er2 := s2.at ora er1
      have ef2 := s2.at ofa ef1
      refine ⟨ra, _, j, j.toNat, vc rest[j.toNat], rfl, rfl, er2, by omega, by omega, ?_, ?_, ?_⟩
      · exact (ixN_seq (ixN_nat j0 (by rw [List.length_map]; omega))).1
      · rw [List.getElem?_map, List.getElem?_eq_getElem hj]; rfl
      have ef3 : (upd H2 ra (.lst ((rest.map vc).eraseIdx j.toNat))) fa = some (.lst (xs.map vc)) := by rw [upd_ne nrf.symm]; exact ef2
      refine ⟨fa, _, _, rfl, rfl, ef3, by rw [List.length_map]; exact small1000 (by omega), ?_⟩
      refine ⟨⟨rfl, rest.eraseIdx j.toNat, xs ++ [rest[j.toNat]], (d2.put ora _).put ofa _, ((s1.trans s2).put nra _).put nfaH _, ?_, ?_, ?_⟩, ?_⟩
      · rw [upd_ne nrf, upd_same, erase_map]
      · rw [upd_same, List.map_append]; rfl
      · rw [List.append_assoc]
        exact (List.Perm.append_left xs (erase_perm hj)).trans pm
      · show (match (upd (upd H2 ra _) fa (.lst (xs.map vc ++ [vc rest[j.toNat]]))) ra with | some (.lst xs) => xs.length | _ => 0) < (match H' ra with | some (.lst xs) => xs.length | _ => 0)
        rw [upd_ne nrf, upd_same, er]
        show ((rest.map vc).eraseIdx j.toNat).length < (rest.map vc).length
        rw [List.length_eraseIdx_of_lt (by rw [List.length_map]; exact hj), List.length_map]
        omega
  · intro σ H' Q1 Q2 hQ h
    obtain ⟨v, e, h0, h⟩ := h
    refine ⟨v, e, h0, fun el ne => ?_⟩
    obtain ⟨a, b, zs, h1, h2, h3, h4, k, h5, h6⟩ := h el ne
    exact ⟨a, b, zs, h1, h2, h3, h4, k, h5, hQ _ _ h6⟩
end
def spFree (n : Nat) : Sp := fun vs H Q _ => ∃ (D : Deck) (a : Addr) (ls : List Nat), vs = [.ref D.dk, .ref a] ∧ DeckOk H D ∧ H a = some (.lst (ls.map vc)) ∧ Off D a ∧ ls.length < n ∧ ls.length ≤ 60 ∧
  ∀ (p : Addr) (zs : List Nat) (H' : Hp), DeckOk H' D → SameD D H H' → H' p = some (.lst (zs.map vc)) → zs.Perm ls → Off D p → Q (.ref p) H'
section
variable {P : Program} {w : World} {K : PySem.W.Frag} {mg : Str → Option Value} {base : Heap} {f : Addr} {fd : FuncData}
theorem op_eqL {X : Cx} (hu : X.A.units < cLine) : OpR X (compareOp .Eq) (fun x y H Q => ∃ a b xs, x = .ref a ∧ y = .ref b ∧ SqL X.K H a xs ∧ SqL X.K H b [] ∧ Q (.bl xs.isEmpty) H) := by
  intro pins s σ H x y v u Q I rx ry h
  obtain ⟨a, b, xs, rfl, rfl, hx, hy, q⟩ := h
  cases rx
  cases ry
  obtain ⟨its, r1, t1, _⟩ := I.list hx
  obtain ⟨its2, r2, t2, _⟩ := I.list hy
  cases r2
  cases r1 with
  | nil =>
    have rc := SeqAt.RcAt.lists (A := X.A) (s := s) (items := ([] : List Value).toArray) (items2 := ([] : List Value).toArray) (e := fun _ => true) t1.isList t2.isList rfl hu (fun j h1 _ => absurd h1 (by simp))
    exact rc X.prog X.w X.xe _ ⟨.bl _, H, I, rfl, q⟩
  | cons _ _ =>
    have rc := SeqAt.RcAt.lists_lengths (A := X.A) (s := s) t1.isList t2.isList (by simp) hu
    exact rc X.prog X.w X.xe _ ⟨.bl _, H, I, rfl, q⟩
theorem ok_free (F : Fun K "_law_free" "_law_free" s__law_free f fd) (b : Binds K fd ["_law_deck", "_law_letters"] []) (g : mg "_law_free" = some (.ref f)) (M : Mgs mg) (D_law_next : Df P w K mg base 1 "_law_next" ["_law_deck", "_law_many"] spNext) :
    ∀ n : Nat, FnOk P w K mg base CX0 (n + 1) f fd ["_law_deck", "_law_letters"] (spFree n)
  | 0 => by
    have no : ∀ vs H Q E, ¬ spFree 0 vs H Q E := fun vs H Q E h => by
      obtain ⟨D, a, ls, _, _, _, _, h1, _⟩ := h
      omega
    exact ⟨fun vs H Q E h => absurd h (no vs H Q E), fun A outer s H args us vs Q E _ _ _ _ h => absurd h (no vs H Q E)⟩
  | n + 1 => by
    have Dself : Df P w K mg base (n + 1) "_law_free" ["_law_deck", "_law_letters"] (spFree n) := ⟨f, fd, ok_free F b g M D_law_next n, b, F.kp, g⟩
    refine F.ok sc__law_free (fun vs H Q E h => ?_) (fun cdv A outer s H vs Q E hr h => ?_)
    · obtain ⟨D, a, ls, rfl, _⟩ := h
      rfl
    obtain ⟨D, a, ls, rfl, d, ea, oa, hn, hl, q⟩ := h
    refine ⟨_, (pss_cons (ps_if (pt_cmpR (op_eqL hr.units0) (pv 1) (pe_lst pa_nil) (nomark _))
      (pss_one (ps_ret (pe_lst pa_nil))) pss_nil)
    (pss_cons (ps_set (i := 2) sc__law_free.nd rfl (.inl rfl) (pe_call D_law_next.ok (hr.mono (by omega)) rfl D_law_next.g D_law_next.kp D_law_next.b .nil pass0 (pa_cons (pv 0) (pa_cons (pe_callB call_len_seq rfl M.len PySem.boot_len (pa_cons (pv 1) pa_nil)) pa_nil))))
    (pss_one (ps_ret (pe_op op_cat (pe_op op_cat (pe_lst (pa_cons (pe_ix ix_list (pv 1) (pv 2) (fun _ _ => rfl)) pa_nil)) (pe_call Dself.ok (hr.mono (by omega)) rfl Dself.g Dself.kp Dself.b .nil pass0 (pa_cons (pv 0) (pa_cons (pe_slice sl_list (pv 1) po_none (po_some (pv 2))) pa_nil)))) (pe_call Dself.ok (hr.mono (by omega)) rfl Dself.g Dself.kp Dself.b .nil pass0 (pa_cons (pv 0) (pa_cons (pe_slice sl_list (pv 1) (po_some (pe_op op_add (pv 2) pe_int)) po_none) pa_nil)))))))), ?_⟩
    refine ⟨_, rfl, (by show 0 ≤ sizeLine; decide), fun el ne => ?_⟩
    have q1 := same_new ne (.lst [])
    refine ⟨a, el, _, rfl, rfl, SqL.of (q1 _ _ ea), SqL.of upd_same, _, rfl, ite2 (fun c => ?_) (fun c => ?_)⟩
    · have e0 : ls = [] := by
        have := List.isEmpty_iff.mp c
        exact List.map_eq_nil_iff.mp this
      refine ⟨(by show 0 ≤ sizeLine; decide), fun p np => ?_⟩
      have q2 := same_new np (.lst [])
      subst e0
      exact q p [] _ ((d.same q1).same q2) (SameD.of (q1.trans q2)) upd_same (List.Perm.refl _) ((d.same q1).new np)
    · have l0 : 0 < ls.length := by
        cases ls with
        | nil => exact absurd rfl c
        | cons _ _ => exact Nat.succ_pos _
      refine ⟨_, rfl, _, rfl, a, _, rfl, .inl (SqL.of (q1 _ _ ea)), D, _, rfl, d.same q1, by rw [List.length_map]; omega, by rw [List.length_map]; omega, fun j H1 j0 j1 d1 s1 => ?_⟩
      rw [List.length_map] at j1
      have hj : j.toNat < ls.length := by omega
      have ej : j = ((j.toNat : Nat) : Int) := by omega
      have sA := (SameD.of q1).trans s1
      have ea1 := sA.at oa ea
      refine ⟨_, rfl, _, rfl, a, _, _, _, rfl, rfl, SqL.of ea1, at_map j0 (List.getElem?_eq_getElem hj), (by show 1 ≤ sizeLine; decide), fun r nr => ?_⟩
      have q2 := same_new nr (.lst [vc ls[j.toNat]])
      have or_ := d1.new nr
      have er := upd_same (H := H1) (a := r) (o := .lst [vc ls[j.toNat]])
      have d2 := d1.same q2
      have s2 := sA.trans (SameD.of q2)
      have ea2 := q2 _ _ ea1
      generalize upd H1 r (.lst [vc ls[j.toNat]]) = H2 at d2 s2 ea2 er
      refine ⟨_, rfl, _, rfl, _, rfl, _, rfl, a, _, rfl, SqL.of ea2, fun p1 np1 => ?_⟩
      rw [ej, cut_to, ← List.map_take]
      have q3 := same_new np1 (.lst ((ls.take j.toNat).map vc))
      have lt : (ls.take j.toNat).length = j.toNat := by rw [List.length_take]; omega
      refine ⟨D, p1, ls.take j.toNat, rfl, d2.same q3, upd_same, d2.new np1, by omega, by omega, fun pl zl H3 d3 s3 el3 pml ol => ?_⟩
      have s23 := (SameD.of (D := D) q3).trans s3
      refine ⟨r, pl, _, _, rfl, rfl, s23.at or_ er, el3, ?_, fun r2 nr2 => ?_⟩
      · rw [List.length_map, pml.length_eq]; exact small (by show 1 + _ ≤ 1000; omega)
      have q4 := same_new nr2 (.lst ([vc ls[j.toNat]] ++ zl.map vc))
      have or2 := d3.new nr2
      have er2 := upd_same (H := H3) (a := r2) (o := .lst ([vc ls[j.toNat]] ++ zl.map vc))
      have d4 := d3.same q4
      have s4 := (s2.trans s23).trans (SameD.of q4)
      have ea4 := s4.at oa ea
      generalize upd H3 r2 (.lst ([vc ls[j.toNat]] ++ zl.map vc)) = H4 at d4 s4 ea4 er2
      refine ⟨_, rfl, _, rfl, _, rfl, _, _, rfl, rfl, _, rfl, a, _, rfl, SqL.of ea4, fun p2 np2 => ?_⟩
      rw [show cutV (ls.map vc) (some (((j.toNat : Nat) : Int) + 1)) none = (ls.drop (j.toNat + 1)).map vc by rw [show ((j.toNat : Nat) : Int) + 1 = ((j.toNat + 1 : Nat) : Int) by omega, cut_from, List.map_drop]]
      have q5 := same_new np2 (.lst ((ls.drop (j.toNat + 1)).map vc))
      have ld : (ls.drop (j.toNat + 1)).length = ls.length - 1 - j.toNat := by rw [List.length_drop]; omega
      refine ⟨D, p2, ls.drop (j.toNat + 1), rfl, d4.same q5, upd_same, d4.new np2, by omega, by omega, fun pr zr H5 d5 s5 er5 pmr or5 => ?_⟩
      have s45 := (SameD.of (D := D) q5).trans s5
      refine ⟨r2, pr, _, _, rfl, rfl, s45.at or2 er2, er5, ?_, fun r3 nr3 => ?_⟩
      · rw [List.length_append, List.length_map, List.length_map, pml.length_eq, pmr.length_eq]; exact small (by show 1 + _ + _ ≤ 1000; omega)
      have q6 := same_new nr3 (.lst (([vc ls[j.toNat]] ++ zl.map vc) ++ zr.map vc))
      refine q r3 (ls[j.toNat] :: (zl ++ zr)) _ (d5.same q6) ((s4.trans s45).trans (SameD.of q6)) ?_ ?_ (d5.new nr3)
      · rw [upd_same, List.map_cons, List.map_append]; rfl
      · have h1 : (ls[j.toNat] :: (zl ++ zr)).Perm (ls[j.toNat] :: (ls.take j.toNat ++ ls.drop (j.toNat + 1))) := (pml.append pmr).cons _
        refine h1.trans ?_
        refine List.Perm.symm (List.perm_middle.symm.trans ?_).symm
        rw [← List.drop_eq_getElem_cons hj, List.take_append_drop]
end
/-! ### _law_order -/
theorem iteI {i j : Int} {A B : Prop} (h : i = j) (a : A) : if decide (V.int i = V.int j) = true then A else B := by
  rw [if_pos (decide_eq_true (congrArg V.int h))]; exact a
theorem iteJ {i j : Int} {A B : Prop} (h : i ≠ j) (b : B) : if decide (V.int i = V.int j) = true then A else B := by
  rw [if_neg (fun z => h (V.int.inj (of_decide_eq_true z)))]; exact b
def abcN : List Nat := (Str.ofString "abcdefghijklmnopqrstuvwxyz").cps.toList
theorem abcN_len : abcN.length = 26 := by decide +kernel
theorem abcN_nodup : abcN.Nodup := by decide +kernel
theorem abcN_in : ∀ c ∈ abcN, 97 ≤ c ∧ c ≤ 122 := by decide +kernel
theorem perm_ch {ys : List Str} {l : List Nat} (h : ys.Perm (l.map ch)) : ∃ zs : List Nat, ys = zs.map ch ∧ zs.Perm l := by
  have hy : ∀ y ∈ ys, ch ((fun y : Str => y.cps.toList.headD 0) y) = y := fun y hy => by
    obtain ⟨c, _, rfl⟩ := List.mem_map.mp (h.mem_iff.mp hy)
    rfl
  refine ⟨ys.map fun y => y.cps.toList.headD 0, ?_, ?_⟩
  · rw [List.map_map]
    clear h
    induction ys with
    | nil => rfl
    | cons y r ih =>
      rw [List.map_cons, ← ih fun z hz => hy z (List.mem_cons_of_mem _ hz)]
      exact congrArg (· :: r) (hy y List.mem_cons_self).symm
  · have := h.map (fun y : Str => y.cps.toList.headD 0)
    rw [List.map_map] at this
    have e : l.map ((fun y : Str => y.cps.toList.headD 0) ∘ ch) = l := by
      clear h this
      induction l with
      | nil => rfl
      | cons c r ih => rw [List.map_cons, ih]; rfl
    rw [e] at this
    exact this
theorem map_vc (l : List Nat) : l.map vc = (l.map ch).map V.str := by rw [List.map_map]; rfl
/-- letters, each once -/
def Lts (l : List Nat) : Prop := l.Nodup ∧ ∀ c ∈ l, 97 ≤ c ∧ c ≤ 122
theorem Lts.perm {l l' : List Nat} (h : Lts l) (p : l'.Perm l) : Lts l' := ⟨p.nodup_iff.mpr h.1, fun c hc => h.2 c (p.mem_iff.mp hc)⟩
theorem Lts.sub {l l' : List Nat} (h : Lts l) (p : l'.Sublist l) : Lts l' := ⟨h.1.sublist p, fun c hc => h.2 c (p.subset hc)⟩
theorem abcN_lts : Lts abcN := ⟨abcN_nodup, abcN_in⟩
def spOrder : Sp := fun vs H Q _ => ∃ (D : Deck) (lo hi : Nat), vs = [.ref D.dk, .int (lo : Int), .int (hi : Int)] ∧ DeckOk H D ∧ lo ≤ hi ∧ hi ≤ 26 ∧
  ∀ (zs : List Nat) (H' : Hp), DeckOk H' D → SameD D H H' → Lts zs → lo ≤ zs.length → zs.length ≤ hi → Q (.str (tx zs)) H'
section
variable {P : Program} {w : World} {K : PySem.W.Frag} {mg : Str → Option Value} {base : Heap} {f : Addr} {fd : FuncData}
theorem ok_order (F : Fun K "_law_order" "_law_order" s__law_order f fd) (M : Mgs mg) (D_law_next : Df P w K mg base 1 "_law_next" ["_law_deck", "_law_many"] spNext) (D_law_mixed : Df P w K mg base 2 "_law_mixed" ["_law_deck", "_law_items"] spMixed)
    (D_law_free : Df P w K mg base 31 "_law_free" ["_law_deck", "_law_letters"] (spFree 30)) : FnOk P w K mg base CX0 32 f fd ["_law_deck", "_law_low", "_law_high"] spOrder := by
  refine F.ok sc__law_order (fun vs H Q E h => ?_) (fun cdv A outer s H vs Q E hr h => ?_)
  · obtain ⟨D, lo, hi, rfl, _⟩ := h
    rfl
  obtain ⟨D, lo, hi, rfl, d, lh, h26, q⟩ := h
  refine ⟨_, (pss_cons (ps_par (i := 3) (j := 4) (by rfl) sc__law_order.nd rfl rfl (by decide) rfl rfl (pa_cons (pe_op op_add (pv 1) (pe_call D_law_next.ok (hr.mono (by omega)) rfl D_law_next.g D_law_next.kp D_law_next.b .nil pass0 (pa_cons (pv 0) (pa_cons (pe_op op_add (pe_op op_sub (pv 2) (pv 1)) pe_int) pa_nil)))) (pa_cons (pe_call D_law_next.ok (hr.mono (by omega)) rfl D_law_next.g D_law_next.kp D_law_next.b .nil pass0 (pa_cons (pv 0) (pa_cons pe_int pa_nil))) pa_nil)) (by rfl))
    (pss_cons (ps_set (i := 5) sc__law_order.nd rfl (.inl rfl) (pe_callB cr_sortedS rfl M.sorted (by decide +kernel) (pa_cons (pe_slice sl_list (pe_call D_law_mixed.ok (hr.mono (by omega)) rfl D_law_mixed.g D_law_mixed.kp D_law_mixed.b .nil pass0 (pa_cons (pv 0) (pa_cons (pe_callTy (call_signs rfl) rfl M.list (by decide +kernel) (pa_cons pe_str pa_nil)) pa_nil))) po_none (po_some (pv 3))) pa_nil)))
    (pss_cons (ps_if (pt_cmpR op_eq (pv 4) pe_int (nomark _))
      (pss_one (ps_set (i := 5) sc__law_order.nd rfl (.inl rfl) (pe_call D_law_mixed.ok (hr.mono (by omega)) rfl D_law_mixed.g D_law_mixed.kp D_law_mixed.b .nil pass0 (pa_cons (pv 0) (pa_cons (pv 5) pa_nil))))) pss_nil)
    (pss_cons (ps_if (pt_cmpR op_eq (pv 4) pe_int (nomark _))
      (pss_one (ps_set (i := 5) sc__law_order.nd rfl (.inl rfl) (pe_revL (pv 5)))) pss_nil)
    (pss_cons (ps_if (pt_cmpR op_eq (pv 4) pe_int (nomark _))
      (pss_one (ps_set (i := 5) sc__law_order.nd rfl (.inl rfl) (pe_call D_law_free.ok (hr.mono (by omega)) rfl D_law_free.g D_law_free.kp D_law_free.b .nil pass0 (pa_cons (pv 0) (pa_cons (pv 5) pa_nil))))) pss_nil)
    (pss_one (ps_ret (pe_bm PySem.F.plainAttrs_str PySem.F.slot_str_join PySem.F.type_str_join mt_join pe_str (pa_cons (pv 5) pa_nil))))))))), ?_⟩
  refine ⟨_, rfl, _, rfl, _, rfl, _, rfl, _, _, rfl, rfl, _, _, rfl, rfl, D, _, rfl, d, by omega, by omega, fun i H1 i0 i1 d1 s1 => ?_⟩
  refine ⟨_, _, rfl, rfl, _, rfl, D, _, rfl, d1, by decide, by decide, fun wy H2 w0 w1 d2 s2 => ?_⟩
  refine ⟨_, _, rfl, ?_⟩
  have s12 := s1.trans s2
  refine ⟨_, rfl, _, rfl, by decide +kernel, fun la nla => ?_⟩
  have q1 := same_new nla (.lst (abcN.map vc))
  refine ⟨D, la, abcN, rfl, d2.same q1, upd_same, d2.new nla, by rw [abcN_len]; decide, fun pm zm H3 d3 s3 em pmm om => ?_⟩
  have s13 := s12.trans ((SameD.of q1).trans s3)
  have ei : (lo : Int) + i = ((lo + i.toNat : Nat) : Int) := by omega
  refine ⟨_, rfl, _, rfl, pm, _, rfl, SqL.of em, fun pc npc => ?_⟩
  rw [ei, cut_to, ← List.map_take]
  have q2 := same_new npc (.lst ((zm.take (lo + i.toNat)).map vc))
  have tl : (zm.take (lo + i.toNat)).length = lo + i.toNat := by rw [List.length_take, pmm.length_eq, abcN_len]; omega
  have lt0 : Lts (zm.take (lo + i.toNat)) := (abcN_lts.perm pmm).sub (List.take_sublist _ _)
  have ec : (upd H3 pc (.lst ((zm.take (lo + i.toNat)).map vc))) pc = some (.lst (((zm.take (lo + i.toNat)).map ch).map V.str)) := by rw [upd_same, map_vc]
  refine ⟨pc, (zm.take (lo + i.toNat)).map ch, rfl, SqL.of ec, by rw [List.length_map, tl]; omega, fun ys ps pms _ nps => ?_⟩
  obtain ⟨zs, rfl, pz⟩ := perm_ch pms
  rw [← map_vc]
  have q3 := same_new nps (.lst (zs.map vc))
  have ltz := lt0.perm pz
  have zl : zs.length = lo + i.toNat := pz.length_eq.trans tl
  have d5 := (d3.same q2).same q3
  have s15 := s13.trans (SameD.of (q2.trans q3))
  have ops := (d3.same q2).new nps
  have eps := upd_same (H := upd H3 pc (.lst ((zm.take (lo + i.toNat)).map vc))) (a := ps) (o := .lst (zs.map vc))
  generalize upd (upd H3 pc (.lst ((zm.take (lo + i.toNat)).map vc))) ps (.lst (zs.map vc)) = H5 at d5 s15 eps
  have fin : ∀ (p : Addr) (us : List Nat) (H' : Hp), DeckOk H' D → SameD D H H' → H' p = some (.lst (us.map vc)) → us.Perm zs → ∃ (a : Str) (p' : Addr) (ys : List Str), V.str (Str.ofString "") = .str a ∧ [V.ref p] = [.ref p'] ∧ (SqL K H' p' (ys.map V.str) ∨ SqT K H' p' (ys.map V.str)) ∧ (ys.map (·.length)).sum + ys.length * a.length ≤ 16777216 ∧ Q (.str (Txt.join a ys)) H' := fun p us H' d' s' e' pu => by
    refine ⟨_, p, us.map ch, rfl, rfl, .inl (SqL.of (by rw [← map_vc]; exact e')), tx_joinOk us (by rw [pu.length_eq]; omega), ?_⟩
    rw [tx_join]
    exact q us H' d' s' (ltz.perm pu) (by rw [pu.length_eq]; omega) (by rw [pu.length_eq]; omega)
  have hw : wy = 0 ∨ wy = 1 ∨ wy = 2 ∨ wy = 3 := by omega
  rcases hw with rfl | rfl | rfl | rfl
  · refine ⟨_, rfl, rfl, _, rfl, iteI rfl ?_⟩
    refine ⟨_, rfl, _, rfl, D, ps, zs, rfl, d5, eps, ops, by omega, fun p us H6 d6 s6 e6 p6 o6 => ?_⟩
    refine ⟨_, rfl, rfl, _, rfl, iteJ (by decide) ?_⟩
    refine ⟨_, rfl, rfl, _, rfl, iteJ (by decide) ?_⟩
    exact ⟨rfl, _, rfl, fin p us H6 d6 (s15.trans s6) e6 p6⟩
  · refine ⟨_, rfl, rfl, _, rfl, iteJ (by decide) ?_⟩
    refine ⟨_, rfl, rfl, _, rfl, iteI rfl ?_⟩
    refine ⟨_, rfl, ps, _, rfl, SqL.of eps, fun p np => ?_⟩
    refine ⟨_, rfl, rfl, _, rfl, iteJ (by decide) ?_⟩
    have q6 := same_new np (.lst (zs.map vc).reverse)
    exact ⟨rfl, _, rfl, fin p zs.reverse _ (d5.same q6) (s15.trans (SameD.of q6)) (by rw [upd_same, List.map_reverse]) (List.reverse_perm _)⟩
  · refine ⟨_, rfl, rfl, _, rfl, iteJ (by decide) ?_⟩
    refine ⟨_, rfl, rfl, _, rfl, iteJ (by decide) ?_⟩
    refine ⟨_, rfl, rfl, _, rfl, iteI rfl ?_⟩
    refine ⟨_, rfl, _, rfl, D, ps, zs, rfl, d5, eps, ops, by omega, by omega, fun p us H6 d6 s6 e6 p6 o6 => ?_⟩
    exact ⟨rfl, _, rfl, fin p us H6 d6 (s15.trans s6) e6 p6⟩
  · refine ⟨_, rfl, rfl, _, rfl, iteJ (by decide) ?_⟩
    refine ⟨_, rfl, rfl, _, rfl, iteJ (by decide) ?_⟩
    refine ⟨_, rfl, rfl, _, rfl, iteJ (by decide) ?_⟩
    exact ⟨rfl, _, rfl, fin ps zs H5 d5 s15 eps (List.Perm.refl _)⟩
end
/-! ### trees by inserting -/
def B.ins : B → Nat → B
  | .nil, c => .node .nil c .nil
  | .node l x r, c => if c < x then .node (l.ins c) x r else .node l x (r.ins c)
theorem B.ins_size (t : B) (c : Nat) : (t.ins c).size = t.size + 1 := by
  induction t with
  | nil => rfl
  | node l x r h1 h2 =>
    show (if c < x then B.node (l.ins c) x r else .node l x (r.ins c)).size = l.size + 1 + r.size + 1
    split
    · show (l.ins c).size + 1 + r.size = _
      omega
    · show l.size + 1 + (r.ins c).size = _
      omega
def gr (zs : List Nat) : B := zs.foldl B.ins .nil
theorem foldl_ins_size (zs : List Nat) : ∀ t : B, (zs.foldl B.ins t).size = t.size + zs.length := by
  induction zs with
  | nil => intro t; rfl
  | cons c r ih => intro t; rw [List.foldl_cons, ih, B.ins_size, List.length_cons]; omega
theorem gr_size (zs : List Nat) : (gr zs).size = zs.length := by
  unfold gr
  rw [foldl_ins_size]
  exact Nat.zero_add _
def spPut (n : Nat) : Sp := fun vs H Q _ => ∃ (v : V) (t : B) (c : Nat), vs = [v, .str (ch c)] ∧ BAt H v t ∧ t.size < n ∧ ∀ (v' : V) (H' : Hp), Same H H' → BAt H' v' (t.ins c) → Q v' H'
section
variable {P : Program} {w : World} {K : PySem.W.Frag} {mg : Str → Option Value} {base : Heap} {f : Addr} {fd : FuncData}
theorem ok_put (F : Fun K "_law_put" "_law_put" s__law_put f fd) (b : Binds K fd ["_law_tree", "_law_letter"] []) (g : mg "_law_put" = some (.ref f)) : ∀ n : Nat, FnOk P w K mg base CX0 n f fd ["_law_tree", "_law_letter"] (spPut n)
  | 0 => by
    have no : ∀ vs H Q E, ¬ spPut 0 vs H Q E := fun vs H Q E h => by
      obtain ⟨v, t, c, _, _, h1, _⟩ := h
      omega
    exact ⟨fun vs H Q E h => absurd h (no vs H Q E), fun A outer s H args us vs Q E _ _ _ _ h => absurd h (no vs H Q E)⟩
  | n + 1 => by
    have Dself : Df P w K mg base n "_law_put" ["_law_tree", "_law_letter"] (spPut n) := ⟨f, fd, ok_put F b g n, b, F.kp, g⟩
    refine F.ok sc__law_put (fun vs H Q E h => ?_) (fun cdv A outer s H vs Q E hr h => ?_)
    · obtain ⟨v, t, c, rfl, _⟩ := h
      rfl
    obtain ⟨v, t, c, rfl, hv, hn, q⟩ := h
    refine ⟨_, (pss_cons (ps_if (pt_cmpR op_isN (pv 0) pe_non (nomark _))
      (pss_one (ps_ret (pe_tup (pa_cons pe_non (pa_cons (pv 1) (pa_cons pe_non pa_nil)))))) pss_nil)
    (pss_cons (ps_asg (pv 0) (pg_tup rfl (pgs_cons (pg_name (i := 2) sc__law_put.nd rfl (.inl rfl)) (pgs_cons (pg_name (i := 3) sc__law_put.nd rfl (.inl rfl)) (pgs_cons (pg_name (i := 4) sc__law_put.nd rfl (.inl rfl)) pgs_nil)))))
    (pss_cons (ps_if (pt_cmpR op_lt_str (pv 1) (pv 3) (nomark _))
      (pss_one (ps_ret (pe_tup (pa_cons (pe_call Dself.ok (hr.mono (by omega)) rfl Dself.g Dself.kp Dself.b .nil pass0 (pa_cons (pv 2) (pa_cons (pv 1) pa_nil))) (pa_cons (pv 3) (pa_cons (pv 4) pa_nil)))))) pss_nil)
    (pss_one (ps_ret (pe_tup (pa_cons (pv 2) (pa_cons (pv 3) (pa_cons (pe_call Dself.ok (hr.mono (by omega)) rfl Dself.g Dself.kp Dself.b .nil pass0 (pa_cons (pv 4) (pa_cons (pv 1) pa_nil))) pa_nil))))))))), ?_⟩
    rcases hv.inv with ⟨rfl, rfl⟩ | ⟨a, l, r, x, tl, tr, rfl, rfl, ea, hl, hr'⟩
    · refine ⟨_, rfl, rfl, _, rfl, iteT ?_⟩
      refine ⟨_, rfl, (by show 3 ≤ sizeLine; decide), fun p np => ?_⟩
      exact q _ _ (same_new np _) (.node upd_same .nil .nil)
    · refine ⟨_, rfl, rfl, _, rfl, iteF ?_⟩
      refine ⟨_, rfl, a, _, rfl, SqT.of ea, rfl, _, _, rfl, _, _, rfl, _, _, rfl, rfl, ?_⟩
      have sz : tl.size + 1 + tr.size < n + 1 := hn
      refine ⟨_, rfl, _, rfl, _, _, rfl, rfl, _, rfl, ?_⟩
      rw [ch_lt]
      have ei : (B.node tl x tr).ins c = if c < x then .node (tl.ins c) x tr else .node tl x (tr.ins c) := rfl
      rw [ei] at q
      by_cases hc : c < x
      · rw [decide_eq_true hc]
        rw [if_pos hc] at q
        refine iteT ?_
        refine ⟨_, rfl, _, rfl, l, tl, c, rfl, hl, by omega, fun v' H' s' h' => ?_⟩
        refine ⟨_, rfl, _, rfl, (by show 3 ≤ sizeLine; decide), fun p np => ?_⟩
        have sn := same_new np (.tup [v', .str (ch x), r])
        exact q _ _ (s'.trans sn) (.node upd_same (h'.same sn) ((hr'.same s').same sn))
      · rw [decide_eq_false hc]
        rw [if_neg hc] at q
        refine iteF ?_
        refine ⟨_, rfl, _, rfl, _, rfl, _, rfl, r, tr, c, rfl, hr', by omega, fun v' H' s' h' => ?_⟩
        refine ⟨(by show 3 ≤ sizeLine; decide), fun p np => ?_⟩
        have sn := same_new np (.tup [l, .str (ch x), v'])
        exact q _ _ (s'.trans sn) (.node upd_same ((hl.same s').same sn) (h'.same sn))
def spAhead (n : Nat) : Sp := fun vs H Q _ => ∃ (v : V) (t : B), vs = [v] ∧ BAt H v t ∧ t.size < n ∧ t.size ≤ 900 ∧ Q (.str (tx t.pre)) H
theorem ok_ahead (F : Fun K "_law_ahead" "_law_ahead" s__law_ahead f fd) (b : Binds K fd ["_law_tree"] []) (g : mg "_law_ahead" = some (.ref f)) : ∀ n : Nat, FnOk P w K mg base CX0 n f fd ["_law_tree"] (spAhead n)
  | 0 => by
    have no : ∀ vs H Q E, ¬ spAhead 0 vs H Q E := fun vs H Q E h => by
      obtain ⟨v, t, _, _, h1, _⟩ := h
      omega
    exact ⟨fun vs H Q E h => absurd h (no vs H Q E), fun A outer s H args us vs Q E _ _ _ _ h => absurd h (no vs H Q E)⟩
  | n + 1 => by
    have Dself : Df P w K mg base n "_law_ahead" ["_law_tree"] (spAhead n) := ⟨f, fd, ok_ahead F b g n, b, F.kp, g⟩
    refine F.ok sc__law_ahead (fun vs H Q E h => ?_) (fun cdv A outer s H vs Q E hr h => ?_)
    · obtain ⟨v, t, rfl, _⟩ := h
      rfl
    obtain ⟨v, t, rfl, hv, hn, h9, q⟩ := h
    refine ⟨_, (pss_cons (ps_if (pt_cmpR op_isN (pv 0) pe_non (nomark _))
      (pss_one (ps_ret pe_str)) pss_nil)
    (pss_cons (ps_asg (pv 0) (pg_tup rfl (pgs_cons (pg_name (i := 1) sc__law_ahead.nd rfl (.inl rfl)) (pgs_cons (pg_name (i := 2) sc__law_ahead.nd rfl (.inl rfl)) (pgs_cons (pg_name (i := 3) sc__law_ahead.nd rfl (.inl rfl)) pgs_nil)))))
    (pss_one (ps_ret (pe_op op_add_str (pe_op op_add_str (pv 2) (pe_call Dself.ok (hr.mono (by omega)) rfl Dself.g Dself.kp Dself.b .nil pass0 (pa_cons (pv 1) pa_nil))) (pe_call Dself.ok (hr.mono (by omega)) rfl Dself.g Dself.kp Dself.b .nil pass0 (pa_cons (pv 3) pa_nil))))))), ?_⟩
    rcases hv.inv with ⟨rfl, rfl⟩ | ⟨a, l, r, x, tl, tr, rfl, rfl, ea, hl, hr'⟩
    · exact ⟨_, rfl, rfl, _, rfl, iteT q⟩
    · refine ⟨_, rfl, rfl, _, rfl, iteF ?_⟩
      refine ⟨_, rfl, a, _, rfl, SqT.of ea, rfl, _, _, rfl, _, _, rfl, _, _, rfl, rfl, ?_⟩
      have sz : tl.size + 1 + tr.size < n + 1 := hn
      have sz9 : tl.size + 1 + tr.size ≤ 900 := h9
      have p1 := tl.pre_len
      have p2 := tr.pre_len
      refine ⟨_, rfl, _, rfl, l, tl, rfl, hl, by omega, by omega, _, _, rfl, rfl, ?_, ?_⟩
      · rw [tx_len, p1]; exact small (by show 1 + _ ≤ 1000; omega)
      rw [ch_app]
      refine ⟨_, rfl, r, tr, rfl, hr', by omega, by omega, _, _, rfl, rfl, ?_, ?_⟩
      · rw [tx_len, tx_len, List.length_cons, p1, p2]; exact small (by omega)
      rw [tx_app]
      exact q
def spGr : Sp := fun vs H Q _ => ∃ zs : List Nat, vs = [.str (tx zs)] ∧ zs.length ≤ 30 ∧ ∀ (v : V) (H' : Hp), Same H H' → BAt H' v (gr zs) → Q v H'
theorem take_next {zs : List Nat} {i c : Nat} (h : zs[i]? = some c) : zs.take (i + 1) = zs.take i ++ [c] := by
  rw [List.take_succ, h]
  rfl
theorem ok_grown (F : Fun K "_law_grown" "_law_grown" s__law_grown f fd) (D_law_put : Df P w K mg base 40 "_law_put" ["_law_tree", "_law_letter"] (spPut 40)) : FnOk P w K mg base CX0 41 f fd ["_law_order_here"] spGr := by
  refine F.ok sc__law_grown (fun vs H Q E h => ?_) (fun cdv A outer s H vs Q E hr h => ?_)
  · obtain ⟨zs, rfl, _⟩ := h
    rfl
  obtain ⟨zs, rfl, hl, q⟩ := h
  refine ⟨_, (pss_cons (ps_set (i := 1) sc__law_grown.nd rfl (.inl rfl) pe_non)
    (pss_cons (ps_for PassesOwn.never rfl (pi_str (pv 0)) (pg_name (i := 2) sc__law_grown.nd rfl (.inl rfl))
      (pss_one (ps_set (i := 1) sc__law_grown.nd rfl (.inl rfl) (pe_call D_law_put.ok (hr.mono (by omega)) rfl D_law_put.g D_law_put.kp D_law_put.b .nil pass0 (pa_cons (pv 1) (pa_cons (pv 2) pa_nil))))))
    (pss_one (ps_ret (pv 1))))), ?_⟩
  refine ⟨_, rfl, _, rfl, ?_⟩
  refine for_text (x := tx zs) (fun i σ H' => ∃ (v : V) (c : Option V), σ = [some (.str (tx zs)), some v, c] ∧ Same H H' ∧ BAt H' v (gr (zs.take i))) ⟨_, _, rfl, Same.refl H, .nil⟩ (fun i c σ H' hc hp => ?_) (fun σ H' hp => ?_)
  · obtain ⟨v, c', rfl, s', h'⟩ := hp
    rw [tx_cps] at hc
    have hi := (List.getElem?_eq_some_iff.mp hc).1
    refine ⟨_, rfl, _, rfl, v, gr (zs.take i), c, rfl, h', ?_, fun v2 H2 s2 h2 => ?_⟩
    · rw [gr_size, List.length_take]; omega
    refine ⟨v2, _, rfl, s'.trans s2, ?_⟩
    rw [take_next hc]
    unfold gr at h2 ⊢
    rw [List.foldl_append]
    exact h2
  · obtain ⟨v, c', rfl, s', h'⟩ := hp
    rw [tx_cps, List.take_length] at h'
    exact ⟨_, rfl, q v H' s' h'⟩
end
/-! ### walks -/
inductive Kd where
  | first
  | between
  | last
def Kd.str : Kd → Str
  | .first => "first"
  | .between => "between"
  | .last => "last"
def B.post : B → List Nat
  | .nil => []
  | .node l x r => l.post ++ r.post ++ [x]
def B.wk (k : Kd) (t : B) : List Nat := match k with
  | .first => t.pre
  | .between => t.mid
  | .last => t.post
def B.steps (k : Kd) : B → List Nat → List (List Nat × Nat)
  | .nil, _ => []
  | .node l x r, q => match k with
    | .first => [(q, x)] ++ l.steps k (q ++ [108]) ++ r.steps k (q ++ [114])
    | .between => l.steps k (q ++ [108]) ++ [(q, x)] ++ r.steps k (q ++ [114])
    | .last => l.steps k (q ++ [108]) ++ r.steps k (q ++ [114]) ++ [(q, x)]
theorem B.steps_wk (k : Kd) (t : B) : ∀ q : List Nat, (t.steps k q).map (·.2) = t.wk k := by
  induction t with
  | nil => intro q; cases k <;> rfl
  | node l x r h1 h2 =>
    intro q
    have a := h1 (q ++ [108])
    have b := h2 (q ++ [114])
    cases k
    · show ([(q, x)] ++ l.steps .first (q ++ [108]) ++ r.steps .first (q ++ [114])).map (·.2) = x :: (l.pre ++ r.pre)
      rw [List.map_append, List.map_append, a, b]; rfl
    · show (l.steps .between (q ++ [108]) ++ [(q, x)] ++ r.steps .between (q ++ [114])).map (·.2) = l.mid ++ x :: r.mid
      rw [List.map_append, List.map_append, a, b]
      show l.mid ++ [x] ++ r.mid = _
      rw [List.append_assoc]; rfl
    · show (l.steps .last (q ++ [108]) ++ r.steps .last (q ++ [114]) ++ [(q, x)]).map (·.2) = l.post ++ r.post ++ [x]
      rw [List.map_append, List.map_append, a, b]; rfl
theorem B.wk_len (k : Kd) (t : B) : (t.wk k).length = t.size := by
  cases k
  · exact t.pre_len
  · exact t.mid_len
  · show t.post.length = t.size
    induction t with
    | nil => rfl
    | node l x r h1 h2 =>
      show (l.post ++ r.post ++ [x]).length = l.size + 1 + r.size
      rw [List.length_append, List.length_append, h1, h2, List.length_cons, List.length_nil]
      omega
theorem B.steps_len (k : Kd) (t : B) (q : List Nat) : (t.steps k q).length = t.size := by
  rw [← t.wk_len k, ← t.steps_wk k q, List.length_map]
inductive StAt (H : Hp) : List V → List (List Nat × Nat) → Prop
  | nil : StAt H [] []
  | cons {a : Addr} {q : List Nat} {x : Nat} {vs : List V} {ss : List (List Nat × Nat)} : H a = some (.tup [.str (tx q), .str (ch x)]) → StAt H vs ss → StAt H (.ref a :: vs) ((q, x) :: ss)
theorem StAt.keep {H H' : Hp} (k : KeepT H H') {vs : List V} {ss : List (List Nat × Nat)} (h : StAt H vs ss) : StAt H' vs ss := by
  induction h with
  | nil => exact .nil
  | cons e _ ih => exact .cons (k _ _ e) ih
theorem StAt.same {H H' : Hp} (k : Same H H') {vs : List V} {ss : List (List Nat × Nat)} (h : StAt H vs ss) : StAt H' vs ss := h.keep (Tw.Same.keepT k)
theorem StAt.app {H : Hp} {vs us : List V} {ss ts : List (List Nat × Nat)} (h : StAt H vs ss) (g : StAt H us ts) : StAt H (vs ++ us) (ss ++ ts) := by
  induction h with
  | nil => exact g
  | cons e _ ih => exact .cons e ih
theorem StAt.len {H : Hp} {vs : List V} {ss : List (List Nat × Nat)} (h : StAt H vs ss) : vs.length = ss.length := by
  induction h with
  | nil => rfl
  | cons _ _ ih => rw [List.length_cons, List.length_cons, ih]
theorem StAt.get {H : Hp} {vs : List V} {ss : List (List Nat × Nat)} (h : StAt H vs ss) : ∀ {i : Nat} {v : V}, vs[i]? = some v → ∃ a q x, v = .ref a ∧ ss[i]? = some (q, x) ∧ H a = some (.tup [.str (tx q), .str (ch x)]) := by
  induction h with
  | nil => intro i v e; simp at e
  | cons e _ ih =>
    intro i v he
    cases i with
    | zero => cases he; exact ⟨_, _, _, rfl, rfl, e⟩
    | succ i => exact ih he
theorem str_l : Str.ofString "l" = tx [108] := by decide +kernel
theorem str_r : Str.ofString "r" = tx [114] := by decide +kernel
theorem str_0 : Str.ofString "" = tx [] := by decide +kernel
def spDeep (n : Nat) : Sp := fun vs H Q _ => ∃ (v : V) (t : B) (k : Kd) (q : List Nat), vs = [v, .str k.str, .str (tx q)] ∧ BAt H v t ∧ t.size < n ∧ t.size + q.length ≤ 200 ∧
  ∀ (p : Addr) (us : List V) (H' : Hp), Same H H' → H' p = some (.lst us) → StAt H' us (t.steps k q) → Q (.ref p) H'
theorem iteS {x y : Str} {A B : Prop} (h : x = y) (a : A) : if decide (V.str x = V.str y) = true then A else B := by
  rw [if_pos (decide_eq_true (congrArg V.str h))]; exact a
theorem iteR {x y : Str} {A B : Prop} (h : x ≠ y) (b : B) : if decide (V.str x = V.str y) = true then A else B := by
  rw [if_neg (fun z => h (V.str.inj (of_decide_eq_true z)))]; exact b
section
variable {P : Program} {w : World} {K : PySem.W.Frag} {mg : Str → Option Value} {base : Heap} {f : Addr} {fd : FuncData}
theorem ok_deep (F : Fun K "deep_steps" "deep_steps" s_deep_steps f fd) (b : Binds K fd ["tree", "kind", "path"] []) (g : mg "deep_steps" = some (.ref f)) : ∀ n : Nat, FnOk P w K mg base CX0 n f fd ["tree", "kind", "path"] (spDeep n)
  | 0 => by
    have no : ∀ vs H Q E, ¬ spDeep 0 vs H Q E := fun vs H Q E h => by
      obtain ⟨v, t, k, q, _, _, h1, _⟩ := h
      omega
    exact ⟨fun vs H Q E h => absurd h (no vs H Q E), fun A outer s H args us vs Q E _ _ _ _ h => absurd h (no vs H Q E)⟩
  | n + 1 => by
    have Dself : Df P w K mg base n "deep_steps" ["tree", "kind", "path"] (spDeep n) := ⟨f, fd, ok_deep F b g n, b, F.kp, g⟩
    refine F.ok sc_deep_steps (fun vs H Q E h => ?_) (fun cdv A outer s H vs Q E hr h => ?_)
    · obtain ⟨v, t, k, q, rfl, _⟩ := h
      rfl
    obtain ⟨v, t, k, pth, rfl, hv, hn, hz, q⟩ := h
    refine ⟨_, (pss_cons (ps_if (pt_cmpR op_isN (pv 0) pe_non (nomark _))
      (pss_one (ps_ret (pe_lst pa_nil))) pss_nil)
    (pss_cons (ps_asg (pv 0) (pg_tup rfl (pgs_cons (pg_name (i := 3) sc_deep_steps.nd rfl (.inl rfl)) (pgs_cons (pg_name (i := 4) sc_deep_steps.nd rfl (.inl rfl)) (pgs_cons (pg_name (i := 5) sc_deep_steps.nd rfl (.inl rfl)) pgs_nil)))))
    (pss_cons (ps_set (i := 6) sc_deep_steps.nd rfl (.inl rfl) (pe_lst (pa_cons (pe_tup (pa_cons (pv 2) (pa_cons (pv 4) pa_nil))) pa_nil)))
    (pss_cons (ps_set (i := 7) sc_deep_steps.nd rfl (.inl rfl) (pe_call Dself.ok (hr.mono (by omega)) rfl Dself.g Dself.kp Dself.b .nil pass0 (pa_cons (pv 3) (pa_cons (pv 1) (pa_cons (pe_op op_add_str (pv 2) pe_str) pa_nil)))))
    (pss_cons (ps_set (i := 8) sc_deep_steps.nd rfl (.inl rfl) (pe_call Dself.ok (hr.mono (by omega)) rfl Dself.g Dself.kp Dself.b .nil pass0 (pa_cons (pv 5) (pa_cons (pv 1) (pa_cons (pe_op op_add_str (pv 2) pe_str) pa_nil)))))
    (pss_cons (ps_if (pt_cmpR op_eq (pv 1) pe_str (nomark _))
      (pss_one (ps_ret (pe_op op_cat (pe_op op_cat (pv 6) (pv 7)) (pv 8)))) pss_nil)
    (pss_cons (ps_if (pt_cmpR op_eq (pv 1) pe_str (nomark _))
      (pss_one (ps_ret (pe_op op_cat (pe_op op_cat (pv 7) (pv 6)) (pv 8)))) pss_nil)
    (pss_one (ps_ret (pe_op op_cat (pe_op op_cat (pv 7) (pv 8)) (pv 6))))))))))), ?_⟩
    rcases hv.inv with ⟨rfl, rfl⟩ | ⟨a, l, r, x, tl, tr, rfl, rfl, ea, hl, hr'⟩
    · refine ⟨_, rfl, rfl, _, rfl, iteT ⟨(by show 0 ≤ sizeLine; decide), fun p np => ?_⟩⟩
      exact q p [] _ (same_new np _) upd_same .nil
    · refine ⟨_, rfl, rfl, _, rfl, iteF ?_⟩
      refine ⟨_, rfl, a, _, rfl, SqT.of ea, rfl, _, _, rfl, _, _, rfl, _, _, rfl, rfl, ?_⟩
      have sz : tl.size + 1 + tr.size < n + 1 := hn
      have sz2 : tl.size + 1 + tr.size + pth.length ≤ 200 := hz
      -- root
      refine ⟨_, rfl, _, rfl, (by show 2 ≤ sizeLine; decide), fun tp ntp => ⟨(by show 1 ≤ sizeLine; decide), fun ro nro => ?_⟩⟩
      have q1 := same_new ntp (.tup [.str (tx pth), .str (ch x)])
      have q2 := same_new nro (.lst [.ref tp])
      have etp := q2 _ _ (upd_same (H := H) (a := tp) (o := .tup [.str (tx pth), .str (ch x)]))
      have ero := upd_same (H := upd H tp (.tup [.str (tx pth), .str (ch x)])) (a := ro) (o := .lst [.ref tp])
      have s1 := q1.trans q2
      generalize upd (upd H tp (.tup [.str (tx pth), .str (ch x)])) ro (.lst [.ref tp]) = H1 at etp ero s1
      -- lefts
      refine ⟨_, rfl, _, rfl, _, rfl, _, _, rfl, rfl, ?_, ?_⟩
      · rw [str_l, tx_len, tx_len]; exact small (by show _ + 1 ≤ 1000; omega)
      rw [str_l, tx_app]
      refine ⟨l, tl, k, pth ++ [108], rfl, hl.same s1, by omega, by rw [List.length_append]; show _ + (_ + 1) ≤ 200; omega, fun lp ul H2 s2 elp stl => ?_⟩
      -- rights
      refine ⟨_, rfl, _, rfl, _, rfl, _, _, rfl, rfl, ?_, ?_⟩
      · rw [str_r, tx_len, tx_len]; exact small (by show _ + 1 ≤ 1000; omega)
      rw [str_r, tx_app]
      refine ⟨r, tr, k, pth ++ [114], rfl, (hr'.same s1).same s2, by omega, by rw [List.length_append]; show _ + (_ + 1) ≤ 200; omega, fun rp ur H3 s3 erp str => ?_⟩
      have ero3 := s3 _ _ (s2 _ _ ero)
      have elp3 := s3 _ _ elp
      have strt : StAt H3 [.ref tp] [(pth, x)] := .cons (s3 _ _ (s2 _ _ etp)) .nil
      have stl3 := stl.same s3
      have sA := (s1.trans s2).trans s3
      have ll := stl.len
      have lr := str.len
      rw [B.steps_len] at ll lr
      cases k
      · refine ⟨_, rfl, rfl, _, rfl, iteS rfl ?_⟩
        refine ⟨_, rfl, _, rfl, ro, lp, _, _, rfl, rfl, ero3, elp3, small (by show 1 + _ ≤ 1000; omega), fun c1 n1 => ?_⟩
        have k1 := same_new n1 (.lst ([.ref tp] ++ ul))
        refine ⟨_, rfl, c1, rp, _, _, rfl, rfl, upd_same, k1 _ _ erp, small (by rw [List.length_append]; show 1 + _ + _ ≤ 1000; omega), fun c2 n2 => ?_⟩
        have k2 := same_new n2 (.lst ([.ref tp] ++ ul ++ ur))
        exact q c2 _ _ (sA.trans (k1.trans k2)) upd_same (((strt.app stl3).app str).same (k1.trans k2))
      · refine ⟨_, rfl, rfl, _, rfl, iteR (by decide +kernel) ?_⟩
        refine ⟨_, rfl, rfl, _, rfl, iteS rfl ?_⟩
        refine ⟨_, rfl, _, rfl, lp, ro, _, _, rfl, rfl, elp3, ero3, small (by show _ + 1 ≤ 1000; omega), fun c1 n1 => ?_⟩
        have k1 := same_new n1 (.lst (ul ++ [.ref tp]))
        refine ⟨_, rfl, c1, rp, _, _, rfl, rfl, upd_same, k1 _ _ erp, small (by rw [List.length_append]; show _ + 1 + _ ≤ 1000; omega), fun c2 n2 => ?_⟩
        have k2 := same_new n2 (.lst (ul ++ [.ref tp] ++ ur))
        exact q c2 _ _ (sA.trans (k1.trans k2)) upd_same (((stl3.app strt).app str).same (k1.trans k2))
      · refine ⟨_, rfl, rfl, _, rfl, iteR (by decide +kernel) ?_⟩
        refine ⟨_, rfl, rfl, _, rfl, iteR (by decide +kernel) ?_⟩
        refine ⟨_, rfl, _, rfl, lp, rp, _, _, rfl, rfl, elp3, erp, small (by omega), fun c1 n1 => ?_⟩
        have k1 := same_new n1 (.lst (ul ++ ur))
        refine ⟨_, rfl, c1, ro, _, _, rfl, rfl, upd_same, k1 _ _ ero3, small (by rw [List.length_append]; show _ + _ + 1 ≤ 1000; omega), fun c2 n2 => ?_⟩
        have k2 := same_new n2 (.lst (ul ++ ur ++ [.ref tp]))
        exact q c2 _ _ (sA.trans (k1.trans k2)) upd_same (((stl3.app str).app strt).same (k1.trans k2))
/-- the tuple KINDS of the text -/
structure KindsT (K : PySem.W.Frag) (mg : Str → Option Value) (a : Addr) : Prop where
  mg : mg "KINDS" = some (.ref a)
  sq : ∀ H : Hp, SqT K H a [.str "first", .str "between", .str "last", .str "level"]
def spKind : Sp := fun vs H Q _ => ∃ k : Kd, vs = [.str k.str] ∧ Q (.bl true) H
theorem ok_kind {k : Nat} {aK : Addr} (F : Fun K "is_kind" "is_kind" s_is_kind f fd) (M : Mgs mg) (Kk : KindsT K mg aK) : FnOk P w K mg base CX0 (k + 1) f fd ["value"] spKind := by
  refine F.ok sc_is_kind (fun vs H Q E h => ?_) (fun cdv A outer s H vs Q E hr h => ?_)
  · obtain ⟨k, rfl, _⟩ := h
    rfl
  obtain ⟨k, rfl, q⟩ := h
  refine ⟨_, (pss_one (ps_ret (pe_and (pe_callB call_isi rfl M.isinstance (by decide +kernel) (pa_cons (pv 0) (pa_cons (pe_bltn (v := .ty "str") rfl M.str (by decide +kernel) rfl) pa_nil))) (pe_one (pe_cmpR op_in_seq (pv 0) (pe_glob (v := .ref _) rfl Kk.mg rfl) (by rfl)))))), ?_⟩
  refine ⟨_, rfl, _, _, _, _, true, rfl, .ty _, .base (.str _), kit_ty (by decide +kernel), _, rfl, iteT ?_⟩
  refine ⟨_, rfl, aK, _, rfl, .inr (Kk.sq H), rfl, ?_, ?_⟩
  · rfl
  · have e : (if false = true then !inV (.str k.str) [.str "first", .str "between", .str "last", .str "level"] else inV (.str k.str) [.str "first", .str "between", .str "last", .str "level"]) = true := by
      cases k <;> decide +kernel
    rw [e]
    exact q
def spSteps : Sp := fun vs H Q _ => ∃ (v : V) (t : B) (k : Kd), vs = [v, .str k.str] ∧ BAt H v t ∧ t.size ≤ 50 ∧
  ∀ (p : Addr) (us : List V) (H' : Hp), Same H H' → H' p = some (.lst us) → StAt H' us (t.steps k []) → Q (.ref p) H'
theorem ok_steps (F : Fun K "ordered_steps" "ordered_steps" s_ordered_steps f fd) (Dis_kind : Df P w K mg base 1 "is_kind" ["value"] spKind) (Ddeep_steps : Df P w K mg base 60 "deep_steps" ["tree", "kind", "path"] (spDeep 60)) :
    FnOk P w K mg base CX0 61 f fd ["tree", "kind"] spSteps := by
  refine F.ok sc_ordered_steps (fun vs H Q E h => ?_) (fun cdv A outer s H vs Q E hr h => ?_)
  · obtain ⟨v, t, k, rfl, _⟩ := h
    rfl
  obtain ⟨v, t, k, rfl, hv, hz, q⟩ := h
  refine ⟨_, (pss_cons (ps_if (pt_not (pt_val (pe_call Dis_kind.ok (hr.mono (by omega)) rfl Dis_kind.g Dis_kind.kp Dis_kind.b .nil pass0 (pa_cons (pv 1) pa_nil))))
      (pss_one ps_never) pss_nil)
    (pss_cons (ps_if (pt_cmpR op_eq (pv 1) pe_str (nomark _))
      (pss_one ps_never) pss_nil)
    (pss_one (ps_ret (pe_call Ddeep_steps.ok (hr.mono (by omega)) rfl Ddeep_steps.g Ddeep_steps.kp Ddeep_steps.b .nil pass0 (pa_cons (pv 0) (pa_cons (pv 1) (pa_cons pe_str pa_nil)))))))), ?_⟩
  refine ⟨_, rfl, k, rfl, _, rfl, iteF ?_⟩
  refine ⟨_, rfl, rfl, _, rfl, iteR (by cases k <;> decide +kernel) ?_⟩
  refine ⟨_, rfl, _, rfl, v, t, k, [], ?_, hv, by omega, by show t.size + 0 ≤ 200; omega, q⟩
  rw [← str_0]
  rfl
def spWalk : Sp := fun vs H Q _ => ∃ (v : V) (t : B) (k : Kd), vs = [v, .str k.str] ∧ BAt H v t ∧ t.size ≤ 50 ∧ ∀ H', Same H H' → Q (.str (tx (t.wk k))) H'
theorem ok_walk (F : Fun K "walk" "walk" s_walk f fd) (Dordered_steps : Df P w K mg base 61 "ordered_steps" ["tree", "kind"] spSteps) : FnOk P w K mg base CX0 62 f fd ["tree", "kind"] spWalk := by
  refine F.ok sc_walk (fun vs H Q E h => ?_) (fun cdv A outer s H vs Q E hr h => ?_)
  · obtain ⟨v, t, k, rfl, _⟩ := h
    rfl
  obtain ⟨v, t, k, rfl, hv, hz, q⟩ := h
  refine ⟨_, (pss_one (ps_ret (pe_bm PySem.F.plainAttrs_str PySem.F.slot_str_join PySem.F.type_str_join mt_join pe_str (pa_cons (pe_lc (own := [("path", 2), ("label", 3)]) (g := gTup K 2 (gCons (gName 2) (gCons (gName 3) gNil))) (tt := tYes) rfl sc_walk.nd (pi_list (pe_call Dordered_steps.ok (hr.mono (by omega)) rfl Dordered_steps.g Dordered_steps.kp Dordered_steps.b .nil pass0 (pa_cons (pv 0) (pa_cons (pv 1) pa_nil)))) (blkOk_by (N := ["tree", "kind", "path", "label"]) (sc := defScope s_walk) (by decide +kernel)) (fun _ _ _ _ _ => (pg_tup rfl (pgs_cons (pg_name (i := 2) sc_walk.nd rfl (.inl rfl)) (pgs_cons (pg_name (i := 3) sc_walk.nd rfl (.inl rfl)) pgs_nil)))) (fun _ _ _ _ _ => pts_nil) (fun _ _ _ _ _ => (pv 3))) pa_nil)))), ?_⟩
  refine ⟨rfl, _, rfl, _, rfl, v, t, k, rfl, hv, hz, fun p us H1 s1 ep st => ?_⟩
  refine ⟨p, rfl, ⟨_, SqL.of ep⟩, fun D nD => ?_⟩
  have q1 := same_new nD (.lst [])
  have hl := st.len
  rw [B.steps_len] at hl
  have ez := t.steps_wk k []
  refine lc_list (K := K) (a := p) (xs := us) (fun i H' => Same H1 H' ∧ H' D = some (.lst (((t.wk k).take i).map vc))) ⟨q1, upd_same⟩ (fun i H' _ hp => SqL.of (hp.1 _ _ ep)) (fun i x H' hx hp => ?_) (fun H' hp => ?_)
  · obtain ⟨sm, ed⟩ := hp
    obtain ⟨a, pq, c, rfl, es, ea⟩ := st.get hx
    have hc : (t.wk k)[i]? = some c := by rw [← ez, List.getElem?_map, es]; rfl
    have hi := (List.getElem?_eq_some_iff.mp hx).1
    refine ⟨a, _, rfl, SqT.of (sm _ _ ea), rfl, _, _, rfl, _, _, rfl, rfl, rfl, kept ?_⟩
    refine ⟨_, rfl, _, ed, ?_, fun b o e => ?_, ?_⟩
    · rw [List.length_map, List.length_take]; exact small1000 (by omega)
    · rw [upd_ne (ne_of_none e nD)]; exact sm _ _ e
    · rw [upd_same, take_next hc, List.map_append]; rfl
  · obtain ⟨sm, ed⟩ := hp
    have tk : (t.wk k).take us.length = t.wk k := List.take_of_length_le (by rw [t.wk_len k]; omega)
    rw [tk, map_vc] at ed
    refine ⟨_, D, (t.wk k).map ch, rfl, rfl, .inl (SqL.of ed), tx_joinOk _ (by rw [t.wk_len k]; omega), ?_⟩
    rw [tx_join]
    exact q H' (s1.trans sm)
theorem B.ins_mem (t : B) (c d : Nat) : d ∈ (t.ins c).pre ↔ d = c ∨ d ∈ t.pre := by
  induction t with
  | nil =>
    show d ∈ [c] ↔ d = c ∨ d ∈ []
    simp
  | node l x r h1 h2 =>
    show d ∈ (if c < x then B.node (l.ins c) x r else .node l x (r.ins c)).pre ↔ _
    split
    · show d ∈ x :: ((l.ins c).pre ++ r.pre) ↔ d = c ∨ d ∈ x :: (l.pre ++ r.pre)
      simp only [List.mem_cons, List.mem_append, h1]
      constructor
      · rintro (h | (h | h) | h)
        · exact .inr (.inl h)
        · exact .inl h
        · exact .inr (.inr (.inl h))
        · exact .inr (.inr (.inr h))
      · rintro (h | h | h | h)
        · exact .inr (.inl (.inl h))
        · exact .inl h
        · exact .inr (.inl (.inr h))
        · exact .inr (.inr h)
    · show d ∈ x :: (l.pre ++ (r.ins c).pre) ↔ d = c ∨ d ∈ x :: (l.pre ++ r.pre)
      simp only [List.mem_cons, List.mem_append, h2]
      constructor
      · rintro (h | h | h | h)
        · exact .inr (.inl h)
        · exact .inr (.inr (.inl h))
        · exact .inl h
        · exact .inr (.inr (.inr h))
      · rintro (h | h | h | h)
        · exact .inr (.inr (.inl h))
        · exact .inl h
        · exact .inr (.inl h)
        · exact .inr (.inr (.inr h))
theorem foldl_ins_mem (zs : List Nat) (d : Nat) : ∀ t : B, d ∈ (zs.foldl B.ins t).pre ↔ d ∈ zs ∨ d ∈ t.pre := by
  induction zs with
  | nil => intro t; simp
  | cons c r ih =>
    intro t
    rw [List.foldl_cons, ih, B.ins_mem, List.mem_cons]
    constructor
    · rintro (h | h | h)
      · exact .inl (.inr h)
      · exact .inl (.inl h)
      · exact .inr h
    · rintro ((h | h) | h)
      · exact .inr (.inl h)
      · exact .inl h
      · exact .inr (.inr h)
theorem gr_mem (zs : List Nat) (d : Nat) : d ∈ (gr zs).pre ↔ d ∈ zs := by
  unfold gr
  rw [foldl_ins_mem]
  show d ∈ zs ∨ d ∈ [] ↔ _
  simp
def spIns : Sp := fun vs H Q _ => ∃ (v : V) (t : B) (c : Nat), vs = [v, .str (ch c)] ∧ BAt H v t ∧ t.size < 12 ∧ c ∉ t.pre ∧ ∀ (v' : V) (H' : Hp), Same H H' → BAt H' v' (t.ins c) → Q v' H'
end
/-! ### _law_same, of equal data -/
theorem sqT_same {K : PySem.W.Frag} {H H' : Hp} {a : Addr} {xs : List V} (e : Same H H') (h : SqT K H a xs) : SqT K H' a xs := by
  rcases h with (h | ⟨o, h⟩) | h
  · exact .inl (.inl (e _ _ h))
  · exact .inl (.inr ⟨o, e _ _ h⟩)
  · exact .inr h
mutual
theorem dp_same {K : PySem.W.Frag} {H H' : Hp} (e : Same H H') : ∀ {v : V} {d : PyData}, Dp K H v d → Dp K H' v d
  | _, _, .non => .non
  | _, _, .bl b => .bl b
  | _, _, .int i => .int i
  | _, _, .str x => .str x
  | _, _, .lst h a => .lst (e.seq h) (dpAll_same e a)
  | _, _, .tup h a => .tup (sqT_same e h) (dpAll_same e a)
theorem dpAll_same {K : PySem.W.Frag} {H H' : Hp} (e : Same H H') : ∀ {vs : List V} {ds : List PyData}, DpAll K H vs ds → DpAll K H' vs ds
  | _, _, .nil => .nil
  | _, _, .cons h a => .cons (dp_same e h) (dpAll_same e a)
end
theorem dpAll_len {K : PySem.W.Frag} {H : Hp} : ∀ {vs : List V} {ds : List PyData}, DpAll K H vs ds → vs.length = ds.length
  | _, _, .nil => rfl
  | _, _, .cons _ a => congrArg (· + 1) (dpAll_len a)
theorem dpAll_get {K : PySem.W.Frag} {H : Hp} : ∀ {vs : List V} {ds : List PyData} {i : Nat} {d : PyData}, DpAll K H vs ds → ds[i]? = some d → ∃ v, vs[i]? = some v ∧ Dp K H v d
  | _, _, _, _, .nil, h => by simp at h
  | _, _, 0, _, .cons h _, e => by
    cases e
    exact ⟨_, rfl, h⟩
  | _, _, i + 1, _, .cons _ a, e => dpAll_get (i := i) a e
def tyD : PyData → String
  | .none => "NoneType"
  | .bool _ => "bool"
  | .int _ => "int"
  | .str _ => "str"
  | .list _ => "list"
  | .tuple _ => "tuple"
  | .dict _ => "dict"
theorem dp_ty {K : PySem.W.Frag} {H : Hp} {v : V} {d : PyData} (h : Dp K H v d) : TyX K H v (.type (tyD d)) := by
  cases h with
  | non => exact .base .non
  | bl b => exact .base (.bl b)
  | int i => exact .base (.int i)
  | str x => exact .base (.str x)
  | lst h _ =>
    rcases h with (h | ⟨o, h⟩) | ⟨o, its, n, h, hc, _⟩
    · exact .base (.lst h)
    · exact .base (.frz h)
    · exact .kList h hc
  | tup h _ =>
    rcases h with (h | ⟨o, h⟩) | ⟨o, its, n, h, hc, _⟩
    · exact .base (.tup h)
    · exact .fTuple h
    · exact .kTuple h hc
theorem kit_lt {K : PySem.W.Frag} {a : String} {r s : Bool} (h1 : kitB a "list" = some r) (h2 : kitB a "tuple" = some s) : PySem.W.kitAny K (.type a) [.type "list", .type "tuple"] = some (r || s) := by
  refine kitAny_cons (kit_ty h1) (fun e => kitAny_cons (kit_ty h2) (fun e2 => ?_) fun e2 => ?_) fun e => ?_
  · rw [kitAny_nil, e, e2]; rfl
  · rw [e2, Bool.or_true]
  · rw [e, Bool.true_or]
theorem depth_get : ∀ {ds : List PyData} {i : Nat} {d : PyData}, ds[i]? = some d → d.depth ≤ PyData.depthAll ds
  | [], _, _, h => by simp at h
  | x :: xs, 0, _, h => by
    cases h
    simp only [PyData.depthAll]
    omega
  | x :: xs, i + 1, d, h => by
    have := depth_get (ds := xs) (i := i) h
    simp only [PyData.depthAll]
    omega
mutual
def nar : PyData → Bool
  | .list xs => decide (xs.length ≤ 1000000) && narAll xs
  | .tuple xs => decide (xs.length ≤ 1000000) && narAll xs
  | .dict _ => false
  | .none => true
  | .bool _ => true
  | .int _ => true
  | .str _ => true
def narAll : List PyData → Bool
  | [] => true
  | x :: xs => nar x && narAll xs
end
theorem nar_get : ∀ {ds : List PyData} {i : Nat} {d : PyData}, ds[i]? = some d → narAll ds = true → nar d = true
  | [], _, _, h, _ => by simp at h
  | x :: xs, 0, _, h, k => by
    cases h
    simp only [narAll, Bool.and_eq_true] at k
    exact k.1
  | x :: xs, i + 1, d, h, k => by
    simp only [narAll, Bool.and_eq_true] at k
    exact nar_get (ds := xs) (i := i) h k.2
def spSame (K : PySem.W.Frag) (n : Nat) : Sp := fun vs H Q _ => ∃ (v v' : V) (d : PyData), vs = [v, v'] ∧ Dp K H v d ∧ Dp K H v' d ∧ d.depth < n ∧ nar d = true ∧ ∀ H', Same H H' → Q (.bl true) H'
theorem dp_two {K : PySem.W.Frag} {H : Hp} {v v' : V} {d : PyData} {n : Nat} (h : Dp K H v d) (h' : Dp K H v' d) (hd : d.depth < n + 1) (hn : nar d = true) :
    (∃ (p p' : Addr) (xs xs' : List V) (ds : List PyData) (bl : Bool) (ty : String), v = .ref p ∧ v' = .ref p' ∧ (SqL K H p xs ∨ SqT K H p xs) ∧ (SqL K H p' xs' ∨ SqT K H p' xs') ∧ DpAll K H xs ds ∧ DpAll K H xs' ds ∧
      TyX K H v (.type ty) ∧ TyX K H v' (.type ty) ∧ kitB ty "list" = some bl ∧ kitB ty "tuple" = some (!bl) ∧ PyData.depthAll ds < n ∧ ds.length ≤ 1000000 ∧ narAll ds = true) ∨ (v = v' ∧ (v = .non ∨ (∃ b, v = .bl b) ∨ (∃ i, v = .int i) ∨ ∃ x, v = .str x)) := by
  have t1 := dp_ty h
  have t2 := dp_ty h'
  cases h with
  | non =>
    cases h'
    exact .inr ⟨rfl, .inl rfl⟩
  | bl b =>
    cases h'
    exact .inr ⟨rfl, .inr (.inl ⟨b, rfl⟩)⟩
  | int b =>
    cases h'
    exact .inr ⟨rfl, .inr (.inr (.inl ⟨b, rfl⟩))⟩
  | str b =>
    cases h'
    exact .inr ⟨rfl, .inr (.inr (.inr ⟨b, rfl⟩))⟩
  | lst h a =>
    cases h' with
    | lst h' a' =>
      simp only [PyData.depth] at hd
      simp only [nar, Bool.and_eq_true, decide_eq_true_eq] at hn
      exact .inl ⟨_, _, _, _, _, true, "list", rfl, rfl, .inl h, .inl h', a, a', t1, t2, by decide +kernel, by decide +kernel, by omega, hn.1, hn.2⟩
  | tup h a =>
    cases h' with
    | tup h' a' =>
      simp only [PyData.depth] at hd
      simp only [nar, Bool.and_eq_true, decide_eq_true_eq] at hn
      exact .inl ⟨_, _, _, _, _, false, "tuple", rfl, rfl, .inr h, .inr h', a, a', t1, t2, by decide +kernel, by decide +kernel, by omega, hn.1, hn.2⟩
theorem seq_same {K : PySem.W.Frag} {H H' : Hp} {p : Addr} {xs : List V} (e : Same H H') (h : SqL K H p xs ∨ SqT K H p xs) : SqL K H' p xs ∨ SqT K H' p xs := h.elim (fun h => .inl (e.seq h)) fun h => .inr (sqT_same e h)
theorem seq_ix {K : PySem.W.Frag} {H : Hp} {p : Addr} {xs : List V} {i : Int} {v : V} {Q : VK} (h : SqL K H p xs ∨ SqT K H p xs) (a : atI xs i = some v) (q : Q v H) : rIx K (.ref p) (.int i) H Q :=
  h.elim (fun h => .inl ⟨p, xs, i, v, rfl, rfl, h, a, q⟩) fun h => .inr (.inl ⟨p, xs, i, v, rfl, rfl, h, a, q⟩)
theorem tyX_same {K : PySem.W.Frag} {H H' : Hp} {v : V} {d : PyData} (e : Same H H') (h : Dp K H v d) : TyX K H' v (.type (tyD d)) := dp_ty (dp_same e h)
section
variable {P : Program} {w : World} {K : PySem.W.Frag} {mg : Str → Option Value} {base : Heap} {f : Addr} {fd : FuncData}
theorem kit_tl {K : PySem.W.Frag} {a : String} {r s : Bool} (h1 : kitB a "list" = some r) (h2 : kitB a "tuple" = some s) : PySem.W.kitAny K (.type a) [.type "tuple", .type "list"] = some (r || s) := by
  refine kitAny_cons (kit_ty h2) (fun e => kitAny_cons (kit_ty h1) (fun e2 => ?_) fun e2 => ?_) fun e => ?_
  · rw [kitAny_nil, e, e2]; rfl
  · rw [e2, Bool.true_or]
  · rw [e, Bool.or_true]
end
/-! ### a def entered at one caller -/
theorem enter_def {P : Program} {w : World} {K : PySem.W.Frag} {mg : Str → Option Value} {base : Heap} {f : Addr} {fd : FuncData} {N ps : List Str} {k : Nat} {x qual : Str} {st : Stmt} (F : Fun K x qual st f fd) (S : FnScope N ps (defScope st))
    {A : Around} {outer : List Env} {s : Shared} {H : Hp} {args : Args} {us : List Value} {vs : List V} {Q : VK} {E : XK}
    (room : Room (k + 1) A) (en : Env0 P w K mg base A outer s H) (bd : BindsTo s fd args (ps.zip us)) (rel : Vals vs us) (hln : vs.length = ps.length)
    (body : ∀ cdv : Value, Room k (A.deeper (envOfC qual (defScope st) s.heap.objs.size f cdv)) →
      ∃ t, PSs (cxOf CX0 P w K mg base N qual (defScope st) f cdv A outer s H E).nox (defBody st) t ∧ t { nx := fun _ H' => Q .non H', rt := Q } (start N vs) H) :
    codeAny (model P w) A (.call (.ref f) args) (CR CX0 outer P w H s Q E) s := by
  obtain ⟨oc, od, kV, doc, pm, an, cdv, ct, osl, rfl, look, code⟩ := F.ex
  have still : ∀ b o, base.get? b = some o → s.heap.get? b = some o := fun b o e => (en.bs b o e).1
  have inK : K.In s.heap := en.mod.kin.keeps still
  have noL : s.heap.NoLimit := en.mod.nolimit.keeps still
  have kinds : ∀ y ∈ ps.zip us, (defScope st).names.lookup y.1 = some .local ∨
      ((defScope st).names.lookup y.1 = some .cell ∧ ((cellsFrom (s.heap.objs.size + 1) (defScope st).names []).lookup y.1).isSome = true) := by
    rintro ⟨nm, u⟩ hy
    cases S.par nm (List.of_mem_zip hy).1 with
    | inl z => exact .inl z
    | inr z => exact .inr ⟨z, PySem.W.cellsFrom_some _ _ _ (.inl z)⟩
  have step := codeAny_call_function (prog := P) (w := w) (A := A) (s := s) room.depth (inK _ _ look) rfl S.co S.gen rfl (PySem.W.codeRec_of inK code)
    (R := CR CX0 outer P w H s Q E) (args := args)
  refine step (bd _ _ _ _ ?_)
  refine wpAny_newFunctionEnv_cells S.kind kinds ?_
  intro env isEnv s1 inC
  subst isEnv
  refine ⟨noL.keeps inC.toInCall.keep, codeAny_func ?_⟩
  obtain ⟨t, ht, hq⟩ := body cdv (room.deeper _)
  have J : Inv (cxOf CX0 P w K mg base N qual (defScope st) f cdv A outer s H E) [] (start N vs) H s1 := inv_start S room.hd en hln rel inC
  refine wpAny_mono (ht.nox.run [] s1 (start N vs) H _ J hq) ?_ ?_
  · intro fl s' done
    cases fl with
    | ret u =>
      obtain ⟨v, σ', H', I', rv, qv⟩ := done
      exact ⟨v, H', I'.os, I'.bare, I'.base, I'.hok, rv, qv⟩
    | next =>
      obtain ⟨σ', H', I', qv⟩ := done
      exact ⟨V.non, H', I'.os, I'.bare, I'.base, I'.hok, rfl, qv⟩
    | brk => exact done.elim fun _ z => z.elim fun _ z => z.2.elim
    | cont => exact done.elim fun _ z => z.elim fun _ z => z.2.elim
  · intro e s' z
    exact z
/-! ### the law's own call -/
theorem law_at {P : Program} {w : World} {K : PySem.W.Frag} {mg mb : Str → Option Value} {fa a : Addr} {s₁ : Shared} {vs : List Value} {ns : List Int}
    (inK : K.In s₁.heap) (gl : s₁.heap.Ns mainGlobals mg) (bl : s₁.heap.Ns builtinsNs mb) (isB : ∀ x : Str, x ≠ "__name__" → mb x = bootBuiltins x) (lim : s₁.heap.NoLimit) (gens : s₁.gens = #[])
    (obj : s₁.heap.get? a = some { cls := .type "list", data := .seq vs.toArray }) (hints : IntsAre vs ns) (few : ns.length ≤ sizeLine)
    (run : ∀ (base : Heap) (H : Hp), K.In base → base.Ns mainGlobals mg → Env0 P w K mg base callerA [] s₁ H → SqL K H a (ns.map V.int) →
      codeAny (model P w) callerA (.call (.ref fa) ⟨[.ref a], []⟩) (CR CX0 [] P w H s₁ (fun v _ => v = .bl true) fun _ _ _ => False) s₁) :
    codeAny (model P w) callerA (.call (.ref fa) ⟨[.ref a], []⟩) (fun r s' => r = .ok (.ret (.bool true)) ∧ OldK s₁.heap s'.heap ∧ s'.os = s₁.os ∧ AllBare s'.gens) s₁ := by
  have rel := vals_ints hints
  have lens := hints.length
  have found : ∃ H : Hp, Only H ∧ SqL K H a (ns.map V.int) ∧ HOk P w H s₁.heap ∧ (∀ b u, H b = some u → b = a ∧ K.lookup a = none) := by
    cases inText : K.lookup a with
    | some o =>
      have same := inK a o inText
      rw [obj] at same
      cases same
      have never : ∀ (u : HO), (none : Option HO) ≠ some u := fun u z => by cases z
      refine ⟨fun _ => none, fun _ => .inl rfl, ?_, (fun b u z => (never u z).elim), (fun b u z => (never u z).elim)⟩
      refine .inr ⟨_, vs.toArray, _, inText, rfl, rfl, rfl, ?_, ?_⟩
      · rw [List.size_toArray, lens]
        exact few
      · rw [List.toList_toArray]
        exact rel
    | none =>
      let here : HO := .frz { cls := .type "list", data := .seq vs.toArray } (.lst (ns.map V.int))
      have only : ∀ b u, (if b = a then some here else none) = some u → b = a ∧ u = here := fun b u z => by
        by_cases hb : b = a
        · rw [if_pos hb] at z
          exact ⟨hb, (Option.some.inj z).symm⟩
        · rw [if_neg hb] at z
          cases z
      refine ⟨fun b => if b = a then some here else none, fun b => ?_, .inl (.inr ⟨{ cls := .type "list", data := .seq vs.toArray }, if_pos rfl⟩), fun b u z => ?_, fun b u z => ⟨(only b u z).1, rfl⟩⟩
      · by_cases hb : b = a
        · exact .inr ⟨_, _, if_pos hb⟩
        · exact .inl (if_neg hb)
      · obtain ⟨rfl, rfl⟩ := only b u z
        exact ⟨obj, by rw [List.length_map]; exact few, vs, _, rel, obj⟩
  obtain ⟨H, hO, hS, hok, hA⟩ := found
  have under : ∀ {b : Addr} {o : Obj}, s₁.heap.get? b = some o → H b = none → (hidT s₁.heap H).get? b = some o := fun e z => hidT_get e z
  have notDict : ∀ {b : Addr} {o : Obj} {es : Array DictEntry} {ep : Nat}, s₁.heap.get? b = some o → o.data = .dict es ep → H b = none := by
    intro b o es ep e isD
    cases z : H b with
    | none => rfl
    | some u =>
      obtain ⟨rfl, _⟩ := hA b u z
      rw [obj] at e
      cases e
      cases isD
  have ns' : ∀ {b : Addr} {m : Str → Option Value}, s₁.heap.Ns b m → (hidT s₁.heap H).Ns b m := by
    rintro b m ⟨o, es, ep, e, isD, r⟩
    exact ⟨o, es, ep, under e (notDict e isD), isD, r⟩
  have inK' : K.In (hidT s₁.heap H) := by
    intro b o e
    refine under (inK b o e) ?_
    cases z : H b with
    | none => rfl
    | some u =>
      obtain ⟨rfl, no⟩ := hA b u z
      rw [no] at e
      cases e
  obtain ⟨mc, l1, l2⟩ := lim
  have env : Env0 P w K mg (hidT s₁.heap H) callerA [] s₁ H :=
    ⟨rfl, ⟨inK', ns' gl, ⟨mb, ns' bl, isB⟩, ⟨mc, ns' l1, l2⟩⟩, fun _ _ e => of_hidT e, Nat.le_of_eq (hidT_size _ _), trivial, (fun _ hb => nomatch hb), hok, .of_eq gens⟩
  refine codeAny_mono (run _ H inK' (ns' gl) env hS) ?_
  intro r s' h
  cases r with
  | error e => exact h.elim
  | ok fl =>
    cases fl with
    | next => exact h.elim
    | brk => exact h.elim
    | cont => exact h.elim
    | ret u =>
      obtain ⟨v, H', os, bare, un, hok', rv, isT⟩ := h
      subst isT
      cases rv
      refine ⟨rfl, OldK.of_keep ?_, os, bare⟩
      intro b o e
      cases z : H b with
      | none => exact un.keep b o e z (fun y => nomatch y) (fun y => nomatch y)
      | some u =>
        rcases hO b with y | ⟨ob, xs, y⟩
        · rw [z] at y
          cases y
        · have y2 := un.frzs b ob _ y
          obtain ⟨e1, _⟩ := hok b _ y
          obtain ⟨e2, _⟩ := hok' b _ y2
          rw [e] at e1
          cases e1
          exact e2
/-! ### search trees -/
def Bst : B → Prop
  | .nil => True
  | .node l x r => (∀ c ∈ l.pre, c < x) ∧ (∀ c ∈ r.pre, x < c) ∧ Bst l ∧ Bst r
theorem Bst.ins {t : B} {c : Nat} (h : Bst t) (hc : c ∉ t.pre) : Bst (t.ins c) := by
  induction t with
  | nil => exact ⟨fun _ z => (by cases z), fun _ z => (by cases z), trivial, trivial⟩
  | node l x r h1 h2 =>
    obtain ⟨hl, hr, bl, br⟩ := h
    have nx : c ≠ x := fun z => hc (by rw [z]; exact List.mem_cons_self)
    have nl : c ∉ l.pre := fun z => hc (List.mem_cons_of_mem _ (List.mem_append_left _ z))
    have nr : c ∉ r.pre := fun z => hc (List.mem_cons_of_mem _ (List.mem_append_right _ z))
    show Bst (if c < x then B.node (l.ins c) x r else .node l x (r.ins c))
    split
    · rename_i lt
      refine ⟨fun d hd => ?_, hr, h1 bl nl, br⟩
      rcases (B.ins_mem l c d).mp hd with rfl | hd
      · exact lt
      · exact hl d hd
    · rename_i ge
      refine ⟨hl, fun d hd => ?_, bl, h2 br nr⟩
      rcases (B.ins_mem r c d).mp hd with rfl | hd
      · omega
      · exact hr d hd
theorem bst_foldl (zs : List Nat) : ∀ t : B, Bst t → zs.Nodup → (∀ c ∈ zs, c ∉ t.pre) → Bst (zs.foldl B.ins t) := by
  induction zs with
  | nil => intro t h _ _; exact h
  | cons c r ih =>
    intro t h nd hn
    rw [List.foldl_cons]
    obtain ⟨n1, n2⟩ := List.nodup_cons.mp nd
    refine ih _ (h.ins (hn c List.mem_cons_self)) n2 fun d hd hm => ?_
    rcases (B.ins_mem t c d).mp hm with rfl | hm
    · exact n1 hd
    · exact hn d (List.mem_cons_of_mem _ hd) hm
theorem bst_gr {zs : List Nat} (h : zs.Nodup) : Bst (gr zs) := bst_foldl zs .nil trivial h fun _ _ z => by cases z
theorem foldl_left (as : List Nat) (x : Nat) (r : B) (h : ∀ c ∈ as, c < x) : ∀ l : B, as.foldl B.ins (.node l x r) = .node (as.foldl B.ins l) x r := by
  induction as with
  | nil => intro l; rfl
  | cons c s ih =>
    intro l
    rw [List.foldl_cons, List.foldl_cons]
    have e : (B.node l x r).ins c = .node (l.ins c) x r := by
      show (if c < x then B.node (l.ins c) x r else .node l x (r.ins c)) = _
      rw [if_pos (h c List.mem_cons_self)]
    rw [e]
    exact ih (fun d hd => h d (List.mem_cons_of_mem _ hd)) _
theorem foldl_right (as : List Nat) (x : Nat) (l : B) (h : ∀ c ∈ as, x < c) : ∀ r : B, as.foldl B.ins (.node l x r) = .node l x (as.foldl B.ins r) := by
  induction as with
  | nil => intro r; rfl
  | cons c s ih =>
    intro r
    rw [List.foldl_cons, List.foldl_cons]
    have e : (B.node l x r).ins c = .node l x (r.ins c) := by
      show (if c < x then B.node (l.ins c) x r else .node l x (r.ins c)) = _
      rw [if_neg (by have := h c List.mem_cons_self; omega)]
    rw [e]
    exact ih (fun d hd => h d (List.mem_cons_of_mem _ hd)) _
theorem gr_pre {t : B} (h : Bst t) : gr t.pre = t := by
  induction t with
  | nil => rfl
  | node l x r h1 h2 =>
    obtain ⟨hl, hr, bl, br⟩ := h
    show (x :: (l.pre ++ r.pre)).foldl B.ins .nil = _
    rw [List.foldl_cons, List.foldl_append]
    show r.pre.foldl B.ins (l.pre.foldl B.ins (.node .nil x .nil)) = _
    rw [foldl_left _ _ _ hl, foldl_right _ _ _ hr]
    have e1 := h1 bl
    have e2 := h2 br
    unfold gr at e1 e2
    rw [e1, e2]
theorem B.ins_perm (t : B) (c : Nat) : (t.ins c).pre.Perm (c :: t.pre) := by
  induction t with
  | nil => exact List.Perm.refl _
  | node l x r h1 h2 =>
    show (if c < x then B.node (l.ins c) x r else .node l x (r.ins c)).pre.Perm _
    split
    · show (x :: ((l.ins c).pre ++ r.pre)).Perm (c :: x :: (l.pre ++ r.pre))
      exact ((h1.append_right r.pre).cons x).trans (List.Perm.swap _ _ _)
    · show (x :: (l.pre ++ (r.ins c).pre)).Perm (c :: x :: (l.pre ++ r.pre))
      exact (((h2.append_left l.pre).trans List.perm_middle).cons x).trans (List.Perm.swap _ _ _)
theorem foldl_ins_perm (zs : List Nat) : ∀ t : B, (zs.foldl B.ins t).pre.Perm (zs ++ t.pre) := by
  induction zs with
  | nil => intro t; exact List.Perm.refl _
  | cons c r ih =>
    intro t
    rw [List.foldl_cons]
    exact (ih _).trans (((B.ins_perm t c).append_left r).trans List.perm_middle)
theorem gr_perm (zs : List Nat) : (gr zs).pre.Perm zs := by
  have := foldl_ins_perm zs .nil
  rw [show B.nil.pre = [] from rfl, List.append_nil] at this
  exact this
theorem B.nar_data : ∀ t : B, nar t.data = true
  | .nil => by simp only [B.data, nar]
  | .node l x r => by
    simp only [B.data, nar, narAll, l.nar_data, r.nar_data, Bool.and_self, Bool.and_true, List.length_cons, List.length_nil]
    exact decide_eq_true (by omega)
theorem B.data_depth : ∀ t : B, t.data.depth = t.deep
  | .nil => by simp only [B.data, PyData.depth, B.deep]
  | .node l x r => by
    simp only [B.data, PyData.depth, PyData.depthAll, B.deep, l.data_depth, r.data_depth]
    omega
/-! ### comprehensions of several clauses, clause by clause -/
def thenPut (elt : Expr) (acc : Value) (env : Env) (k : Sem PySem.Fin) : Sem PySem.Fin := (do let _ ← call (.builtin "list.append") [acc, ← eval elt env]) >>= fun _ => k
def thenIn (e src : Expr) (d : Nat) (acc : Value) (env : Env) (k : Sem PySem.Fin) : Sem PySem.Fin := do
  let z ← eval src env
  standAt src.pos
  let z ← foldedSetIterable src env z
  let _ ← runOwn (.compStart e d (← holding [z] (pyIter z)) acc env) env
  k
def turnBy (e tg src : Expr) (ifs : List Expr) (d : Nat) (it acc : Value) (env : Env) (b : Sem PySem.Fin → Sem PySem.Fin) : Sem PySem.Fin :=
  standAt src.pos >>= fun _ => pyNext it >>= fun r => match r with
    | none => pure (.done .next)
    | some v => letOwnedTupleGo tg it v >>= fun _ => assign tg env v >>= fun _ =>
      (forIn ifs true fun q r => if r = true then do let g ← isTrue q env (eval q env); pure (ForInStep.yield g) else pure (ForInStep.yield r)) >>= fun g =>
        if g = true then b (again (.compLoop e d it acc env)) else again (.compLoop e d it acc env)
theorem turn_put {elt : Expr} {cs : List Comprehension} {sc : Scope} {ps : Pos} {d : Nat} {it acc : Value} {env : Env} {tg src : Expr} {ifs : List Expr} (h : cs[d]? = some ⟨tg, src, ifs, 0⟩) (h1 : cs[d + 1]? = none) :
    compTurn (.ListComp elt cs sc ps) d it acc env = turnBy (.ListComp elt cs sc ps) tg src ifs d it acc env (thenPut elt acc env) := by
  unfold compTurn
  simp only [h, h1]
  rfl
theorem turn_in {elt : Expr} {cs : List Comprehension} {sc : Scope} {ps : Pos} {d : Nat} {it acc : Value} {env : Env} {tg src tg1 src1 : Expr} {ifs ifs1 : List Expr} (h : cs[d]? = some ⟨tg, src, ifs, 0⟩) (h1 : cs[d + 1]? = some ⟨tg1, src1, ifs1, 0⟩) :
    compTurn (.ListComp elt cs sc ps) d it acc env = turnBy (.ListComp elt cs sc ps) tg src ifs d it acc env (thenIn (.ListComp elt cs sc ps) src1 (d + 1) acc env) := by
  unfold compTurn
  simp only [h, h1]
  rfl
/-- what follows a clause's tests: from the slots and the heap; behind it the slots vs are forgotten -/
abbrev TB := L2.St → Hp → (Hp → Prop) → Prop
structure PB (Y : Cx) (b : Sem PySem.Fin → Sem PySem.Fin) (vs : List Nat) (t : TB) : Prop where
  run : ∀ (pins : List (Addr × Obj)) (s : Shared) (σ : L2.St) (H : Hp) (Q : Hp → Prop) (k : Sem PySem.Fin) (R : PySem.Fin → Shared → Prop) (E : Value → Shared → Prop), Inv Y pins σ H s → t σ H Q →
    (∀ s' H', Inv Y pins (wipe σ vs) H' s' → Q H' → wpAny (model Y.prog Y.w) Y.A k R E s') → wpAny (model Y.prog Y.w) Y.A (b k) R E s
theorem noE {α : Type} {t : Sem α} {Q Q' : α → Shared → Prop} {M : Model} {A : Around} {E E' : Value → Shared → Prop} {s : Shared} (h : wpAny M A t Q E s) (hE : E = fun _ _ => False) (hQ : ∀ a s, Q a s → Q' a s) : wpAny M A t Q' E' s := by
  subst hE
  exact wpAny_mono h hQ fun _ _ z => z.elim
def tPut (te : TE) (D : Addr) : TB := fun σ H Q => te σ H fun y H' => ∃ acc, H' D = some (.lst acc) ∧ acc.length < sizeLine ∧ Q (upd H' D (.lst (acc ++ [y])))
theorem pb_put {Y : Cx} (hx : Y.xe = fun _ _ => False) {elt : Expr} {te : TE} {D : Addr} (he : PE Y elt te) : PB Y (thenPut elt (.ref D) Y.env) [] (tPut te D) := by
  refine ⟨fun pins s σ H Q k R E I h hk => ?_⟩
  unfold thenPut
  refine wpAny_bind (wpAny_bind (noE (he.run pins s σ H _ I h) hx fun u s1 h1 => ?_))
  obtain ⟨y, H1, I1, r1, acc, e1, z1, q1⟩ := h1
  exact wpAny_bind (app_ok I1 e1 z1 r1 fun s2 I2 => wpAny_pure (hk s2 _ I2 q1))
/-- the loop of a clause: W as in a comprehension of one clause -/
def tLev (J : It) (g : TG) (tt : TT) (t : TB) (ws : List Nat) (σ : L2.St) (H : Hp) (Q : Hp → Prop) : Prop := ∃ W : Nat → Nat → Hp → Prop, (∃ m, W 0 m H) ∧ ∀ i m H, W i m H →
  (J.stop i H ∧ Q H) ∨ (J.go i H ∧ ∃ Nx : Hp → Prop, (∀ H', Nx H' → ∃ m', m' < m ∧ W (i + 1) m' H') ∧ ∀ x H', J.yld i H x H' → g x (wipe σ ws) H' fun σ2 H2 => wipe σ2 ws = wipe σ ws ∧ tt σ2 H2 fun b H3 => if b = true then t σ2 H3 Nx else Nx H3)
theorem lev_loop {Y : Cx} (hx : Y.xe = fun _ _ => False) (hc : Y.calm = true) {elt : Expr} {cs : List Comprehension} {sc : Scope} {ps : Pos} {d : Nat} {it D : Addr} {tg src : Expr} {ifs : List Expr} {b : Sem PySem.Fin → Sem PySem.Fin} {J : It} {fp : List Addr} {tn : Nat → Heap → Prop}
    {pins : List (Addr × Obj)} {σ : L2.St} {H : Hp} {Q : Hp → Prop} {g : TG} {tt : TT} {t : TB} {vs ws : List Nat} {s : Shared} {R : Result → Shared → Prop}
    (ht : ∀ it, compTurn (.ListComp elt cs sc ps) d it (.ref D) Y.env = turnBy (.ListComp elt cs sc ps) tg src ifs d it (.ref D) Y.env b)
    (T : Turn Y.prog Y.w Y.K tg J fp it tn) (hg : PG Y tg g) (hts : PTs Y ifs tt) (hb : PB Y b vs t) (hv : ∀ i ∈ vs, i ∈ ws)
    (I : Inv Y pins (wipe σ ws) H s) (st : tn 0 s.heap) (hf : ∀ b ∈ fp, FpOk Y pins H b) (h : tLev J g tt t ws σ H Q)
    (hR : ∀ s' H', Inv Y pins (wipe σ ws) H' s' → Q H' → R (.ok .next) s') :
    codeAny (model Y.prog Y.w) Y.A (.compLoop (.ListComp elt cs sc ps) d (.ref it) (.ref D) Y.env) R s := by
  obtain ⟨W, ⟨m0, w0⟩, turn⟩ := h
  have stat : ∀ {H' : Hp}, (∀ b ∈ fp, H' b = none) → ∀ b ∈ fp, FpOk Y pins H' b := fun hn b hb => ⟨hn b hb, (hf b hb).2⟩
  refine codeAny_loop rfl (fun n s' => ∃ i H', Inv Y pins (wipe σ ws) H' s' ∧ tn i s'.heap ∧ (∀ b ∈ fp, H' b = none) ∧ W i n H') (fun n s1 h1 => ?_) m0 ⟨0, H, I, st, fun b hb => (hf b hb).1, w0⟩
  obtain ⟨i, H1, I1, st1, n1, w1⟩ := h1
  show wpAny _ Y.A ((compTurn (.ListComp elt cs sc ps) d (.ref it) (.ref D) Y.env).onRaise (fun x => do noteFrame x Y.env; theTreesLotGoes x)) _ _ s1
  refine wpAny_noted ?_
  rw [ht]
  unfold turnBy
  refine wpAny_bind (wpAny_standAt ?_)
  rcases turn i n H1 w1 with ⟨stop, q1⟩ | ⟨go, Nx, hNx, step⟩
  · refine wpAny_bind (noE (T.done Y rfl rfl rfl hc i pins s1 _ H1 (fun _ _ => False) I1 (stat n1) st1 stop) rfl fun r s2 h2 => ?_)
    obtain ⟨hr, I2⟩ := h2
    subst hr
    exact wpAny_pure (hR s2 H1 I2 q1)
  · refine wpAny_bind (noE (T.item Y rfl rfl rfl hc i pins s1 _ H1 (fun _ _ => False) I1 (stat n1) st1 go) rfl fun r s2 h2 => ?_)
    obtain ⟨u, hr, h2⟩ := h2
    subst hr
    refine wpAny_bind (noE h2 rfl fun _ s3 h3 => ?_)
    obtain ⟨x, H3, I3, r3, y3, st3, n3⟩ := h3
    have I3' := I3.pinned (stat n3) (T.obj _ _ st3)
    refine wpAny_bind (noE (hg.run _ s3 _ H3 x u _ I3' r3 (step x H3 y3)) hx fun _ s4 h4 => ?_)
    obtain ⟨σ4, H4, I4, hw4, q4⟩ := h4
    refine wpAny_bind (noE (hts.run _ s4 σ4 H4 _ I4 q4) hx fun c s5 h5 => ?_)
    obtain ⟨H5, I5, q5⟩ := h5
    have fin : ∀ {σ' : L2.St} {s' : Shared} {H' : Hp}, Inv Y (pins ++ pinsAt fp s3.heap) σ' H' s' → σ'.length = (wipe σ ws).length → (∀ (j : Nat) v, (wipe σ ws)[j]? = some (some v) → σ'[j]? = some (some v)) → Nx H' →
        ∃ m, m < n ∧ ∃ i H', Inv Y pins (wipe σ ws) H' s' ∧ tn i s'.heap ∧ (∀ b ∈ fp, H' b = none) ∧ W i m H' := fun {σ' s' H'} I' hl hk nx => by
      obtain ⟨m', hm, w'⟩ := hNx H' nx
      have pin' : ∀ b ∈ fp, ∀ o, s3.heap.get? b = some o → s'.heap.get? b = some o ∧ H' b = none := fun b hb o e =>
        have z := I'.pin (b, o) (List.mem_append_right _ (List.mem_append_right _ (mem_pinsAt hb e)))
        ⟨z.1, z.2.1⟩
      refine ⟨m', hm, i + 1, H', I'.unpinned.weak hl.symm hk, T.keep _ _ _ st3 fun b hb o e => (pin' b hb o e).1, fun b hb => ?_, w'⟩
      obtain ⟨o, e, _⟩ := T.obj _ _ st3 b hb
      exact (pin' b hb o e).2
    have hl4 : σ4.length = (wipe σ ws).length := by rw [← hw4, wipe_length]
    have hk4 : ∀ (j : Nat) v, (wipe σ ws)[j]? = some (some v) → σ4[j]? = some (some v) := fun j v e => by
      rw [← hw4] at e
      exact (wipe_some e).1
    have hk5 : ∀ (j : Nat) v, (wipe σ ws)[j]? = some (some v) → (wipe σ4 vs)[j]? = some (some v) := fun j v e => by
      rw [← hw4] at e
      obtain ⟨e1, e2⟩ := wipe_some e
      rw [wipe_out fun z => e2 (hv j z)]
      exact e1
    cases c with
    | false =>
      rw [if_neg Bool.false_ne_true] at q5 ⊢
      exact wpAny_pure ⟨rfl, fin I5 hl4 hk4 q5⟩
    | true =>
      rw [if_pos rfl] at q5 ⊢
      exact hb.run _ s5 σ4 H5 _ _ _ _ I5 q5 fun s6 H6 I6 q6 => wpAny_pure ⟨rfl, fin I6 (by rw [wipe_length]; exact hl4) hk5 q6⟩
theorem start_at {prog : Program} {w : World} {A : Around} {R : Result → Shared → Prop} {s : Shared} {elt : Expr} {cs : List Comprehension} {sc : Scope} {ps : Pos} {d : Nat} {it acc : Value} {env : Env} {tg src : Expr} {ifs : List Expr} (hd : cs[d]? = some ⟨tg, src, ifs, 0⟩)
    (h0 : codeAny (model prog w) A (.compLoop (.ListComp elt cs sc ps) d it acc env) R s)
    (h : wpAny (model prog w) A (pyIter it) (fun it' s' => codeAny (model prog w) A (.compLoop (.ListComp elt cs sc ps) d it' acc env) R s') (notedBy (model prog w) A env fun x s' => R (.error x) s') s) :
    codeAny (model prog w) A (.compStart (.ListComp elt cs sc ps) d it acc env) R s := by
  refine codeAny_of_tree ?_
  show wpAny _ _ ((compStart (.ListComp elt cs sc ps) d it acc env).onRaise (fun x => do noteFrame x env; standAt theWindowsPlace)) _ _ s
  refine wpAny_notedAt ?_
  have hcl : (clausesOf (.ListComp elt cs sc ps))[d]? = some ⟨tg, src, ifs, 0⟩ := hd
  unfold compStart
  simp only [hcl]
  show wpAny _ _ (ask >>= _) _ _ s
  refine wpAny_bind (wpAny_askSetting (wpAny_ite ?_))
  split
  · first
      | exact wpAny_pure ⟨rfl, h0⟩
      | exact wpAny_bind (wpAny_pure (wpAny_pure ⟨rfl, h0⟩))
  · first
      | exact wpAny_bind (wpAny_rule (wpAny_bind (wpAny_standAt (wpAny_bind (wpAny_mono h (fun i2 s2 h2 => wpAny_pure ⟨rfl, h2⟩) fun _ _ z => z)))))
      | (refine wpAny_bind (wpAny_rule ?_); show wpAny _ _ (standAt src.pos >>= _) _ _ s; exact wpAny_bind (wpAny_standAt (wpAny_bind (wpAny_mono h (fun i2 s2 h2 => wpAny_pure ⟨rfl, h2⟩) fun _ _ z => z))))
def tIn (wi : TI) (g : TG) (tt : TT) (t : TB) (ws : List Nat) : TB := fun σ H Q => wi σ H fun J H1 => tLev J g tt t ws σ H1 Q
theorem pb_in {Y : Cx} (hx : Y.xe = fun _ _ => False) (hc : Y.calm = true) {elt : Expr} {cs : List Comprehension} {sc : Scope} {ps : Pos} {d : Nat} {D : Addr} {tg src : Expr} {ifs : List Expr} {b : Sem PySem.Fin → Sem PySem.Fin} {wi : TI} {g : TG} {tt : TT} {t : TB} {vs ws : List Nat}
    (hd : cs[d]? = some ⟨tg, src, ifs, 0⟩) (ht : ∀ it, compTurn (.ListComp elt cs sc ps) d it (.ref D) Y.env = turnBy (.ListComp elt cs sc ps) tg src ifs d it (.ref D) Y.env b)
    (hi : PI Y tg src wi) (hg : PG Y tg g) (hts : PTs Y ifs tt) (hb : PB Y b vs t) (hv : ∀ i ∈ vs, i ∈ ws) (hs : ∀ x, foldedSetIterable src Y.env x = pure x) :
    PB Y (thenIn (.ListComp elt cs sc ps) src d (.ref D) Y.env) ws (tIn wi g tt t ws) := by
  refine ⟨fun pins s σ H Q k R E I h hk => ?_⟩
  unfold thenIn
  refine wpAny_bind (noE (hi.run pins s σ H _ I h) hx fun xv s1 h1 => ?_)
  refine wpAny_bind (wpAny_standAt (wpAny_bind (wpAny_of_eq (hs xv) (wpAny_bind (wpAny_holding (noE h1 hx fun itv s2 h2 => ?_))))))
  obtain ⟨it, fp, tn, J, H2, rfl, I2, T, st2, f2, q2⟩ := h2
  refine wpAny_bind (wpAny_runOwn ?_)
  rw [Around.mark_none]
  have I2' : Inv Y pins (wipe σ ws) H2 s2 := I2.weak (wipe_length _ _) fun j v e => (wipe_some e).1
  have loop := lev_loop (R := fun r s' => match r with | .ok _ => ∃ H', Inv Y pins (wipe σ ws) H' s' ∧ Q H' | .error _ => False) hx hc ht T hg hts hb hv I2' st2 f2 q2 (fun s' H' I' q' => ⟨H', I', q'⟩)
  refine codeAny_mono (start_at hd loop (T.self Y.A 0 _ _ _ st2 loop)) fun r s' hr => ?_
  cases r with
  | error e => exact hr.elim
  | ok f =>
    obtain ⟨H', I', q'⟩ := hr
    first
      | exact hk s' H' I' q'
      | exact wpAny_pure (hk s' H' I' q')
      | exact wpAny_bind (wpAny_pure (hk s' H' I' q'))
def tLcN (wi : TI) (g : TG) (tt : TT) (t : Addr → TB) (ws : List Nat) : TE := fun σ H Q => wi σ H fun J H1 => ∀ D, H1 D = none → tLev J g tt (t D) ws σ (upd H1 D (.lst [])) fun H' => Q (.ref D) H'
theorem lcN_core {X : Cx} {pins : List (Addr × Obj)} {s : Shared} {σ : L2.St} {H : Hp} {Q : VK} {elt tg src : Expr} {ifs : List Expr} {cs : List Comprehension} {scope : Scope} {own : List (Str × Nat)} {vs : List Nat} {pos pos' : Pos} {wi : TI} {g : TG} {tt : TT} {t : Addr → TB} {b : Value → Env → Sem PySem.Fin → Sem PySem.Fin} {use : Option (Value → Sem Unit)} {Qf : Value → Shared → Prop}
    (hc : X.calm = true) (hN : X.N.Nodup) (I : Inv X pins σ H s) (hi : PI X tg src wi) (ok : BlkOk X.N X.env.scope scope own) (hv : ∀ i ∈ vs, i ∈ own.map (·.2))
    (hg : ∀ (s : Shared) (H : Hp) (C : Addr) (cl : List (Str × Addr)) (fp : List Addr), PG (X.blk s H scope (compEnvC scope cl C X.env) fp) tg g) (hts : ∀ (s : Shared) (H : Hp) (C : Addr) (cl : List (Str × Addr)) (fp : List Addr), PTs (X.blk s H scope (compEnvC scope cl C X.env) fp) ifs tt)
    (hb : ∀ (s : Shared) (H : Hp) (C : Addr) (cl : List (Str × Addr)) (fp : List Addr) (D : Addr), PB (X.blk s H scope (compEnvC scope cl C X.env) fp) (b (.ref D) (compEnvC scope cl C X.env)) vs (t D))
    (ht : ∀ it acc env, compTurn (.ListComp elt (⟨tg, src, ifs, 0⟩ :: cs) scope pos) 0 it acc env = turnBy (.ListComp elt (⟨tg, src, ifs, 0⟩ :: cs) scope pos) tg src ifs 0 it acc env (b acc env)) (hs : ∀ x, foldedSetIterable src X.env x = pure x)
    (h : tLcN wi g tt t (own.map (·.2)) σ H Q)
    (hRR : ∀ D C s' m H', Inv X pins σ H' s' → Q (.ref D) H' → s'.heap.Ns C m → FpOk X pins H' C → compPost (model X.prog X.w) X.A X.xe use Qf (.ref D) C (.ok .next) s') :
    wpAny (model X.prog X.w) X.A (comprehension (.ListComp elt (⟨tg, src, ifs, 0⟩ :: cs) scope pos) scope X.env pos' (newList []) false (eval src X.env) use) Qf X.xe s := by
  have free : ∀ y ∈ scope.names, y.2 = .free → ∃ c, X.env.cells.lookup y.1 = some c := fun y hy e => (ok.free y hy e).elim (fun z => I.ok.has _ (.inl z)) fun z => I.ok.has _ (.inr z)
  refine wpAny_comprehension_free (use := use) rfl hs (closure_ok free) ok.kind (fun y hy e => by rw [ok.uniq y hy, e]) (wpAny_mono (hi.run pins s σ H _ I h) (fun xv s1 h1 => wpAny_mono h1 (fun itv s2 h2 => ?_) fun _ _ z => z) fun _ _ z => z)
  obtain ⟨it, fp, tn, J, H2, rfl, I2, T, st2, f2, q⟩ := h2
  refine wpAny_newObj_type (newEnv_comp ?_) (by show 0 ≤ sizeLine; decide)
  obtain ⟨D, hD⟩ : ∃ D, s2.heap.objs.size = D := ⟨_, rfl⟩
  have fD : H2 D = none := I2.hok.fresh (Nat.le_of_eq hD)
  have lev := q D fD
  obtain ⟨s3, hs3⟩ : ∃ s3 : Shared, ({ s2 with heap := s2.heap.push { cls := .type "list", data := .seq ([] : List Value).toArray } } : Shared) = s3 := ⟨_, rfl⟩
  have hp3 : s3.heap = s2.heap.push { cls := .type "list", data := .seq ([] : List Value).toArray } := by rw [← hs3]
  have I3 : Inv X pins σ (upd H2 D (.lst [])) s3 := by
    rw [← hs3]
    exact I2.laid (t' := s2.toks) (fun b o e => Heap.get?_push_of_some _ e) (Nat.le_of_eq hD) ⟨Nat.zero_le _, [], 0, .nil, by rw [← hD]; exact Heap.get?_push_size _ rfl⟩
  have below : ∀ b ∈ fp, b < s2.heap.objs.size := fun b hb => by
    obtain ⟨o, e, _⟩ := T.obj _ _ st2 b hb
    exact Heap.lt_size e
  have f3 : ∀ b ∈ fp, FpOk X pins (upd H2 D (.lst [])) b ∧ b < s3.heap.objs.size := fun b hb => by
    have lt := below b hb
    refine ⟨⟨?_, (f2 b hb).2⟩, by rw [hp3, Heap.size_push]; exact Nat.lt_succ_of_lt lt⟩
    rw [upd_ne (by rw [← hD]; exact Nat.ne_of_lt lt)]
    exact (f2 b hb).1
  have st3 : tn 0 s3.heap := T.keep _ _ _ st2 fun b _ o e => by rw [hp3]; exact Heap.get?_push_of_some _ e
  have I4 := block_start I3 ok hN f3
  rw [hs3, hD]
  have pg := hg s3 (upd H2 D (.lst [])) s3.heap.objs.size (cellsFrom (s3.heap.objs.size + 1) scope.names (cloFrom X.env.cells scope.names [])) fp
  have pt := hts s3 (upd H2 D (.lst [])) s3.heap.objs.size (cellsFrom (s3.heap.objs.size + 1) scope.names (cloFrom X.env.cells scope.names [])) fp
  have pb := hb s3 (upd H2 D (.lst [])) s3.heap.objs.size (cellsFrom (s3.heap.objs.size + 1) scope.names (cloFrom X.env.cells scope.names [])) fp D
  have no3 : ∀ b ∈ fp, (upd H2 D (.lst [])) b = none := fun b hb => (f3 b hb).1.1
  obtain ⟨ce, hce⟩ : ∃ ce, compEnvC scope (cellsFrom (s3.heap.objs.size + 1) scope.names (cloFrom X.env.cells scope.names [])) s3.heap.objs.size X.env = ce := ⟨_, rfl⟩
  change codeAny _ _ (.compStart (.ListComp elt (⟨tg, src, ifs, 0⟩ :: cs) scope pos) 0 (.ref it) (.ref D) (compEnvC scope (cellsFrom (s3.heap.objs.size + 1) scope.names (cloFrom X.env.cells scope.names [])) s3.heap.objs.size X.env)) (compPost _ _ _ use Qf (.ref D) s3.heap.objs.size) _
  rw [hce] at I4 pg pt pb ⊢
  have locs : ce.locals = s3.heap.objs.size := by rw [← hce]; rfl
  obtain ⟨H3, hH3⟩ : ∃ H3, upd H2 D (.lst []) = H3 := ⟨_, rfl⟩
  rw [hH3] at I3 I4 pg pt pb f3 lev no3
  obtain ⟨s4, hs4⟩ : ∃ s4 : Shared, ({ s3 with heap := pushCells (s3.heap.push { cls := .type "dict", data := .dict #[] }) scope.names } : Shared) = s4 := ⟨_, rfl⟩
  rw [hs4] at I4 ⊢
  have st4 : tn 0 s4.heap := T.keep _ _ _ st3 fun b _ o e => by rw [← hs4]; exact pushCells_keeps _ _ _ _ (Heap.get?_push_of_some _ e)
  have f4 : ∀ b ∈ fp, FpOk (X.blk s3 H3 scope ce fp) [] H3 b := fun b hb =>
    ⟨no3 b hb, (I4.ok.exf b hb).1, I4.ok.exfs b hb, .inl hb, fun x c e => (I4.ok.exf b hb).2 x c e, fun p hp => absurd (show p ∈ ([] : List (Addr × Obj)) ++ [] from hp) (by simp)⟩
  have loop : codeAny (model X.prog X.w) X.A (.compLoop (.ListComp elt (⟨tg, src, ifs, 0⟩ :: cs) scope pos) 0 (.ref it) (.ref D) ce) (compPost (model X.prog X.w) X.A X.xe use Qf (.ref D) s3.heap.objs.size) s4 := by
    refine lev_loop (Y := X.blk s3 H3 scope ce fp) rfl hc (fun it => ht it (.ref D) ce) T pg pt pb hv I4 st4 f4 lev fun s5 H5 I5 q5 => ?_
    have I6 : Inv X pins σ H5 s5 := I3.call' (ch := fp) I5.os I5.base I5.hok I5.bare fun b hb => ⟨(f3 b hb).1.2.2.2.1, (f3 b hb).1.2.1, (f3 b hb).1.2.2.2.2.1, (f3 b hb).1.2.2.2.2.2⟩
    have nC : H5 s3.heap.objs.size = none := by
      have z : H5 ce.locals = none := I5.free
      rw [locs] at z
      exact z
    obtain ⟨m, hm, _⟩ := I5.loc
    have hm : s5.heap.Ns ce.locals m := hm
    rw [locs] at hm
    exact hRR D s3.heap.objs.size s5 m H5 I6 q5 hm (I3.fpOk (Nat.le_refl _) nC)
  exact codeAny_compStart_list loop (T.self X.A 0 _ _ _ st4 loop)
theorem pe_lcN {X : Cx} {elt tg src : Expr} {ifs : List Expr} {cs : List Comprehension} {scope : Scope} {own : List (Str × Nat)} {vs : List Nat} {pos : Pos} {wi : TI} {g : TG} {tt : TT} {t : Addr → TB} {b : Value → Env → Sem PySem.Fin → Sem PySem.Fin}
    (hc : X.calm = true) (hN : X.N.Nodup) (hi : PI X tg src wi) (ok : BlkOk X.N X.env.scope scope own) (hv : ∀ i ∈ vs, i ∈ own.map (·.2))
    (hg : ∀ (s : Shared) (H : Hp) (C : Addr) (cl : List (Str × Addr)) (fp : List Addr), PG (X.blk s H scope (compEnvC scope cl C X.env) fp) tg g) (hts : ∀ (s : Shared) (H : Hp) (C : Addr) (cl : List (Str × Addr)) (fp : List Addr), PTs (X.blk s H scope (compEnvC scope cl C X.env) fp) ifs tt)
    (ht : ∀ it acc env, compTurn (.ListComp elt (⟨tg, src, ifs, 0⟩ :: cs) scope pos) 0 it acc env = turnBy (.ListComp elt (⟨tg, src, ifs, 0⟩ :: cs) scope pos) tg src ifs 0 it acc env (b acc env))
    (hb : ∀ (s : Shared) (H : Hp) (C : Addr) (cl : List (Str × Addr)) (fp : List Addr) (D : Addr), PB (X.blk s H scope (compEnvC scope cl C X.env) fp) (b (.ref D) (compEnvC scope cl C X.env)) vs (t D)) (hs : ∀ x, foldedSetIterable src X.env x = pure x := by intro _; rfl) :
    PE X (.ListComp elt (⟨tg, src, ifs, 0⟩ :: cs) scope pos) (tLcN wi g tt t (own.map (·.2))) := by
  refine ⟨fun pins s σ H Q I h => ?_⟩
  rw [eval_ListComp]
  refine lcN_core hc hN I hi ok hv hg hts hb ht hs h fun D C s' m H' I' q hn f => ⟨m, hn, fun h'' sb => ?_⟩
  exact ⟨.ref D, H', I'.turned (t' := s'.toks) (fun b o hb e => (sb.2 b hb).trans e) f.1 f.2.1 f.2.2.2.1 f.2.2.2.2.1 f.2.2.2.2.2, rfl, q⟩
/-- the loop of a clause by what holds at its turns -/
theorem lev_it {J : It} {n : Nat} {G : Hp → Prop} {Yl : Nat → Hp → V → Hp → Prop} (w : Walk J n G Yl) {g : TG} {tt : TT} {t : TB} {ws : List Nat} {σ : L2.St} {H : Hp} {Q : Hp → Prop} (Pv : Nat → Hp → Prop) (h0 : Pv 0 H) (hG : ∀ i H, i ≤ n → Pv i H → G H)
    (hs : ∀ i x H H', i < n → Pv i H → Yl i H x H' → g x (wipe σ ws) H' fun σ2 H2 => wipe σ2 ws = wipe σ ws ∧ tt σ2 H2 fun b H3 => if b = true then t σ2 H3 (Pv (i + 1)) else Pv (i + 1) H3) (hd : ∀ H, Pv n H → Q H) : tLev J g tt t ws σ H Q := by
  refine ⟨fun i m H => m = n - i ∧ i ≤ n ∧ Pv i H, ⟨n, by simp, Nat.zero_le _, h0⟩, ?_⟩
  rintro i m H ⟨rfl, hi, p⟩
  have q := hG i H hi p
  by_cases lt : i < n
  · exact .inr ⟨w.goes i H lt q, Pv (i + 1), fun H' p' => ⟨n - (i + 1), by omega, rfl, lt, p'⟩, fun x H' y => hs i x H H' lt p (w.yields i H x H' lt q y)⟩
  · have e : i = n := by omega
    subst e
    exact .inl ⟨w.stops H q, hd H p⟩
theorem lev_range {lo : Int} {n : Nat} {g : TG} {tt : TT} {t : TB} {ws : List Nat} {σ : L2.St} {H : Hp} {Q : Hp → Prop} (Pv : Nat → Hp → Prop) (h0 : Pv 0 H)
    (hs : ∀ i H, i < n → Pv i H → g (.int (lo + i)) (wipe σ ws) H fun σ2 H2 => wipe σ2 ws = wipe σ ws ∧ tt σ2 H2 fun b H3 => if b = true then t σ2 H3 (Pv (i + 1)) else Pv (i + 1) H3) (hd : ∀ H, Pv n H → Q H) : tLev (Itr lo n) g tt t ws σ H Q := by
  refine lev_it walk_range Pv h0 (fun _ _ _ _ => trivial) (fun i x H H' hi hp hy => ?_) hd
  obtain ⟨rfl, rfl⟩ := hy
  exact hs i H' hi hp
theorem lev_list {K : PySem.W.Frag} {a : Addr} {xs : List V} {g : TG} {tt : TT} {t : TB} {ws : List Nat} {σ : L2.St} {H : Hp} {Q : Hp → Prop} (Pv : Nat → Hp → Prop) (h0 : Pv 0 H) (hl : ∀ i H, i ≤ xs.length → Pv i H → SqL K H a xs)
    (hs : ∀ i x H, xs[i]? = some x → Pv i H → g x (wipe σ ws) H fun σ2 H2 => wipe σ2 ws = wipe σ ws ∧ tt σ2 H2 fun b H3 => if b = true then t σ2 H3 (Pv (i + 1)) else Pv (i + 1) H3) (hd : ∀ H, Pv xs.length H → Q H) : tLev (Itl K a) g tt t ws σ H Q := by
  refine lev_it walk_list Pv h0 hl (fun i x H H' hi hp hy => ?_) hd
  obtain ⟨rfl, hx⟩ := hy
  exact hs i x H' hx hp
/-! ### zip of two texts -/
section
variable {X : Cx}
/-- new pairs of the signs of x and y -/
def ItzS (x y : Str) : It :=
  ⟨fun i _ => i < x.cps.size ∧ i < y.cps.size,
    fun i H v H' => ∃ (p : Addr) (c d : Nat), v = .ref p ∧ H p = none ∧ H' = upd H p (.tup [.str ⟨#[c]⟩, .str ⟨#[d]⟩]) ∧ x.cps[i]? = some c ∧ y.cps[i]? = some d,
    fun i _ => i = min x.cps.size y.cps.size⟩
theorem turn_zipS {P : Program} {w : World} {K : PySem.W.Frag} {elts : List Expr} {kk : Nat} {tpos : Pos} {x y : Str} {t1 t2 : Tok} {z ti to i1 i2 : Addr} (S : ZipSep2 z ti to i1 i2 [i1] [i2]) :
    Turn P w K (.Tuple elts kk tpos) (ItzS x y) [z, ti, to, i1, i2] z
      (fun i h => IsZip h z ti to .none ∧ IsTupOf2 h ti (.ref i1) (.ref i2) ∧ (∃ a b, IsTupOf2 h to a b) ∧ h.IsStrIter i1 (strIterType x) x t1 i ∧ h.IsStrIter i2 (strIterType y) y t2 i) where
  mem := by simp
  obj := fun i h st c hc => by
    obtain ⟨hz, hti, ⟨a, b, hto⟩, ⟨o1, e1, _, d1⟩, ⟨o2, e2, _, d2⟩⟩ := st
    have hc' : c = z ∨ c = ti ∨ c = to ∨ c = i1 ∨ c = i2 := by simpa using hc
    rcases hc' with q | q | q | q | q
    · rw [q]; exact ⟨_, hz, fun v q2 => nomatch q2⟩
    · rw [q]; exact ⟨_, hti, fun v q2 => nomatch q2⟩
    · rw [q]; exact ⟨_, hto, fun v q2 => nomatch q2⟩
    · exact ⟨o1, by rw [q]; exact e1, fun v q => by rw [d1] at q; cases q⟩
    · exact ⟨o2, by rw [q]; exact e2, fun v q => by rw [d2] at q; cases q⟩
  keep := fun i h h' st k => by
    obtain ⟨hz, hti, ⟨a, b, hto⟩, ⟨o1, e1, r1⟩, ⟨o2, e2, r2⟩⟩ := st
    exact ⟨k z (by simp) _ hz, k ti (by simp) _ hti, ⟨a, b, k to (by simp) _ hto⟩, ⟨o1, k i1 (by simp) _ e1, r1⟩, ⟨o2, k i2 (by simp) _ e2, r2⟩⟩
  item := by
    intro X hP hw hK hc i pins s σ H E I hf st hg
    subst hP hw hK
    obtain ⟨hz, hti, ⟨a0, b0, hto⟩, h1, h2⟩ := st
    have quiet : X.A.in1.handled = none := I.ok.hd hc
    have zlt : z < s.heap.objs.size := Heap.lt_size hz
    refine wpAny_pyNext_zipD2_item S (Draws.text quiet i1 x t1) (Draws.text quiet i2 y t2) hz hti hto h1 h2 hg.1 hg.2 fun u1 u2 h' tk p1 p2 z' to' j1 j2 hT hsz hk => ?_
    obtain ⟨c, tc, ec, rfl⟩ := p1
    obtain ⟨d, td, ed, rfl⟩ := p2
    refine ⟨_, rfl, wpAny_letOwnedTupleGo_zip (s := { s with heap := h', toks := tk }) z' fun h'' z'' sb => ?_⟩
    have hT2 : h''.get? s.heap.objs.size = some { cls := .type "tuple", data := .seq #[.str ⟨#[c]⟩ tc, .str ⟨#[d]⟩ td] } := (sb.2 _ (Nat.ne_of_gt zlt)).trans hT
    have new : ObjOk X.prog X.w (upd H s.heap.objs.size (.tup [.str ⟨#[c]⟩, .str ⟨#[d]⟩])) h'' s.heap.objs.size (.tup [.str ⟨#[c]⟩, .str ⟨#[d]⟩]) :=
      ⟨by show 2 ≤ sizeLine; decide, [.str ⟨#[c]⟩ tc, .str ⟨#[d]⟩ td], .cons ⟨_, rfl⟩ (.cons ⟨_, rfl⟩ .nil), ⟨_, hT2, rfl, _, rfl⟩⟩
    have I1 : Inv X pins σ (upd H s.heap.objs.size (.tup [.str ⟨#[c]⟩, .str ⟨#[d]⟩])) { s with heap := h'', toks := tk } :=
      I.turnedNew (t' := tk) (ch := [z, ti, to, i1, i2]) (fun c o hb q => (sb.2 c (fun e => hb (by simp [e]))).trans (hk c o (fun e => hb (by simp [e])) (fun e => hb (by simp [e])) (fun e => hb (by simp [e])) (fun e => hb (by simp [e])) q)) hf (Nat.le_refl _) new
    refine ⟨.ref s.heap.objs.size, _, I1, rfl, ⟨_, c, d, rfl, I.hok.fresh (Nat.le_refl _), rfl, ec, ed⟩, ⟨z'', (sb.2 _ S.TIz).trans (hk _ _ S.TIz S.TITO S.TIi1 S.TIi2 hti), ⟨_, _, (sb.2 _ S.TOz).trans to'⟩, ?_, ?_⟩, fun c hcm => ?_⟩
    · obtain ⟨o, e, r⟩ := j1
      exact ⟨o, (sb.2 _ S.zi1.symm).trans e, r⟩
    · obtain ⟨o, e, r⟩ := j2
      exact ⟨o, (sb.2 _ S.zi2.symm).trans e, r⟩
    · have lt : c < s.heap.objs.size := by
        have hc' : c = z ∨ c = ti ∨ c = to ∨ c = i1 ∨ c = i2 := by simpa using hcm
        rcases hc' with q | q | q | q | q
        · rw [q]; exact zlt
        · rw [q]; exact Heap.lt_size hti
        · rw [q]; exact Heap.lt_size hto
        · rw [q]; obtain ⟨_, e, _⟩ := h1; exact Heap.lt_size e
        · rw [q]; obtain ⟨_, e, _⟩ := h2; exact Heap.lt_size e
      rw [upd_ne (Nat.ne_of_lt lt)]
      exact (hf c hcm).1
  done := by
    intro X hP hw hK hc i pins s σ H E I hf st hg
    subst hP hw hK
    obtain ⟨hz, hti, ⟨a0, b0, hto⟩, h1, h2⟩ := st
    have quiet : X.A.in1.handled = none := I.ok.hd hc
    have hg' : i = min x.cps.size y.cps.size := hg
    exact wpAny_pyNext_zipD2_end S (Draws.text quiet i1 x t1) (Draws.text quiet i2 y t2) hz hti hto h1 h2 (by omega) (by omega) (by omega) fun h' tk hk => ⟨rfl, I.turnedL (t' := tk) (ch := [z, ti, to, i1, i2]) (fun c o hb q =>
      hk c o (fun e => hb (by simp [e])) (fun e => hb (by simp [e])) (fun e => hb (by simp [e])) (fun e => hb (by simp [e])) q) hf⟩
  self := fun A i s Q E st h => wpAny_pyIter_zip st.1 h
def iZipS (ta : TA) : TI := fun σ H R => ta σ H fun vs H1 => ∃ x y : Str, vs = [.str x, .str y] ∧ R (ItzS x y) H1
theorem pi_zipS {e e2 : Expr} {ta : TA} {p pos tpos : Pos} {elts : List Expr} {kk : Nat} (hg : Gl X "zip") (hm : X.mg "zip" = none) (ha : PA X [e, e2] ta)
    (hs : starEach [e, e2] X.env = (false, eval e X.env) :: starEach [e2] X.env := by rfl) (hpl : (backTo pos (starEach [e2] X.env)).any (·.1) = false := by rfl) :
    PI X (.Tuple elts kk tpos) (.Call (.Name "zip" p) [e, e2] [] pos) (iZipS ta) := by
  refine ⟨fun pins s σ H R I h => ?_⟩
  refine Call_ (ld_blt I hg hm PyProof.Rows.boot_zip (PyProof.Rows.callWith_type1 (thn (ha.run pos pins s σ H _ I h) fun us s1 h1 => ?_) hs hpl))
  obtain ⟨vs, H1, I1, r1, x, y, rfl, q⟩ := h1
  obtain ⟨u, u2, rfl, ⟨t1, rfl⟩, ⟨t2, rfl⟩⟩ := vals2 r1
  refine zip_begins2 (begins_text x t1) (begins_text y t2) trivial trivial fun h' hz hti hto g1 g2 hsz hk => wpAny_pyIter_zip hz ?_
  have I2 : Inv X pins σ H1 { s1 with heap := h' } := I1.kept (t' := s1.toks) hk
  have young : ∀ c, c ∈ [s1.heap.objs.size + 4, s1.heap.objs.size + 2, s1.heap.objs.size + 3, s1.heap.objs.size, s1.heap.objs.size + 1] → FpOk X pins H1 c := fun c hc => by
    have le : s1.heap.objs.size ≤ c := by
      have hc' : c = s1.heap.objs.size + 4 ∨ c = s1.heap.objs.size + 2 ∨ c = s1.heap.objs.size + 3 ∨ c = s1.heap.objs.size ∨ c = s1.heap.objs.size + 1 := by simpa using hc
      rcases hc' with q | q | q | q | q <;> (rw [q]; first | exact Nat.le_add_right _ _ | exact Nat.le_refl _)
    exact I1.fpOk le (I1.hok.fresh le)
  have apart : ∀ (n a b : Nat), a ≠ b → n + a ≠ n + b := fun n a b h z => h (Nat.add_left_cancel z)
  refine ⟨s1.heap.objs.size + 4, [s1.heap.objs.size + 4, s1.heap.objs.size + 2, s1.heap.objs.size + 3, s1.heap.objs.size, s1.heap.objs.size + 1], _, _, H1, rfl, I2, turn_zipS (t1 := t1) (t2 := t2) ?_, ⟨hz, hti, ⟨_, _, hto⟩, ⟨_, g1, rfl, rfl⟩, ⟨_, g2, rfl, rfl⟩⟩, young, q⟩
  have n0 : s1.heap.objs.size = s1.heap.objs.size + 0 := rfl
  refine ⟨apart _ _ _ (by decide), apart _ _ _ (by decide), apart _ _ _ (by decide), ?_, by simp, ?_, ?_, apart _ _ _ (by decide), by simp, ?_, ?_, ?_, ?_⟩
  · exact apart _ 2 0 (by decide)
  · intro h; exact apart _ 4 0 (by decide) (List.mem_singleton.mp h)
  · intro h; exact apart _ 3 0 (by decide) (List.mem_singleton.mp h)
  · intro h; exact apart _ 4 1 (by decide) (List.mem_singleton.mp h)
  · intro h; exact apart _ 3 1 (by decide) (List.mem_singleton.mp h)
  · intro h; exact apart _ 0 1 (by decide) (List.mem_singleton.mp h)
  · intro h; exact apart _ 1 0 (by decide) (List.mem_singleton.mp h)
theorem pi_or {tg e : Expr} {w1 w2 : TI} (a : PI X tg e w1) (b : PI X tg e w2) : PI X tg e (fun σ H R => w1 σ H R ∨ w2 σ H R) :=
  ⟨fun pins s σ H R I h => h.elim (fun h => a.run pins s σ H R I h) fun h => b.run pins s σ H R I h⟩
theorem walk_zipS {x y : Str} {n : Nat} (hn : n = min x.cps.size y.cps.size) : Walk (ItzS x y) n (fun _ => True) (fun i H v H' => ∃ (p : Addr) (c d : Nat), v = .ref p ∧ H p = none ∧ H' = upd H p (.tup [.str ⟨#[c]⟩, .str ⟨#[d]⟩]) ∧ x.cps[i]? = some c ∧ y.cps[i]? = some d) :=
  ⟨fun i _ hi _ => ⟨by omega, by omega⟩, fun _ _ => hn, fun _ _ _ _ _ _ q => q⟩
end
/-! ### indexes, ascending texts and tuples -/
theorem walk_zipT {K : PySem.W.Frag} {a b : Addr} {xs ys : List V} {n : Nat} (hn : n = min xs.length ys.length) : Walk (RZ.ItzT K a b) n (fun H => SqT K H a xs ∧ SqT K H b ys) (YPair (fun i => xs[i]?) (fun i => ys[i]?)) :=
  ⟨fun i H hi h => ⟨xs, ys, xs[i]'(by omega), ys[i]'(by omega), h.1, h.2, List.getElem?_eq_getElem _, List.getElem?_eq_getElem _⟩, fun H h => ⟨xs, ys, h.1, h.2, by omega⟩, fun i H v H' hi h q => by
    obtain ⟨T, x, y, e1, e2, e3, e4, e5⟩ := q
    exact ⟨T, x, y, e1, e2, e3, e4 xs h.1, e5 ys h.2⟩⟩
def asc (zs : List Nat) : Bool := ((zs.zip (zs.drop 1)).map fun q => decide (q.1 < q.2)).all id
def spAsc (K : PySem.W.Frag) : Sp := fun vs H Q _ =>
  (∃ zs : List Nat, vs = [.str (tx zs)] ∧ zs.length ≤ 60 ∧ ∀ H', Same H H' → Q (.bl (asc zs)) H') ∨
  (∃ (a : Addr) (i j k : Int), vs = [.ref a] ∧ SqT K H a [.int i, .int j, .int k] ∧ ∀ H', Same H H' → Q (.bl (decide (i < j) && decide (j < k))) H')
theorem bl_ints (a b : Bool) : ([a, b].all id) = (a && b) := by cases a <;> cases b <;> rfl
section
variable {P : Program} {w : World} {K : PySem.W.Frag} {mg : Str → Option Value} {base : Heap} {f : Addr} {fd : FuncData}
theorem ok_asc {k : Nat} (F : Fun K "is_ascending" "is_ascending" s_is_ascending f fd) (M : Mgs mg) : FnOk P w K mg base CX0 (k + 1) f fd ["items"] (spAsc K) := by
  refine F.ok sc_is_ascending (fun vs H Q E h => ?_) (fun cdv A outer s H vs Q E hr h => ?_)
  · rcases h with ⟨zs, rfl, _⟩ | ⟨a, i, j, k, rfl, _⟩ <;> rfl
  refine ⟨_, (pss_one (ps_ret (pe_callB (cr_all rfl) rfl M.all (by decide +kernel) (pa_cons (pe_lc (own := [("one", 1), ("other", 2)]) (g := gTup K 2 (gCons (gName 1) (gCons (gName 2) gNil))) (tt := tYes) rfl sc_is_ascending.nd (pi_or (pi_zipS rfl M.zip (pa_cons (pv 0) (pa_cons (pe_slice sl_str (pv 0) (po_some pe_int) po_none) pa_nil))) (RZ.pi_zipA rfl M.zip (pa_cons (pv 0) (pa_cons (pe_slice sl_tupA (pv 0) (po_some pe_int) po_none) pa_nil)))) (blkOk_by (N := ["items", "one", "other"]) (sc := defScope s_is_ascending) (by decide +kernel)) (fun _ _ _ _ _ => (pg_tup rfl (pgs_cons (pg_name (i := 1) sc_is_ascending.nd rfl (.inl rfl)) (pgs_cons (pg_name (i := 2) sc_is_ascending.nd rfl (.inl rfl)) pgs_nil)))) (fun _ _ _ _ _ => pts_nil) (fun _ _ _ _ _ => (pe_cmpR (op_lt_str.or op_lt) (pv 1) (pv 2) (nomark _)))) pa_nil)))), ?_⟩
  rcases h with ⟨zs, rfl, hl, q⟩ | ⟨a, i, j, k, rfl, ha, q⟩
  · have lz : (tx zs).length ≤ sizeLine := small (by rw [tx_len]; omega)
    refine .inl ⟨_, rfl, _, rfl, 1, rfl, _, rfl, lz, _, _, rfl, fun D nD => ?_⟩
    rw [show (1 : Int) = ((1 : Nat) : Int) from rfl, tx_from]
    have q1 := same_new nD (.lst [])
    refine lc_it (walk_zipS (x := tx zs) (y := tx (zs.drop 1)) rfl) (fun i H' => Same H H' ∧ H' D = some (.lst ((((zs.zip (zs.drop 1)).take i).map fun q => decide (q.1 < q.2)).map V.bl))) ⟨q1, upd_same⟩ (fun _ _ _ _ => trivial) (fun i x H' H'' hi hp hy => ?_) (fun H' hp => ?_)
    · obtain ⟨sm, ed⟩ := hp
      obtain ⟨p, c, d, rfl, np, rfl, hc, hd⟩ := hy
      have hc' : zs[i]? = some c := by rw [← hc]; simp [tx]
      have hd' : (zs.drop 1)[i]? = some d := by rw [← hd]; simp [tx]
      have q2 := same_new np (.tup [.str ⟨#[c]⟩, .str ⟨#[d]⟩])
      have hz : (zs.zip (zs.drop 1))[i]? = some (c, d) := List.getElem?_zip_eq_some.mpr ⟨hc', hd'⟩
      have hi' : i < zs.length := (List.getElem?_eq_some_iff.mp hc').1
      refine ⟨p, _, rfl, SqT.of upd_same, rfl, _, _, rfl, _, _, rfl, rfl, rfl, kept ?_⟩
      refine ⟨_, rfl, _, rfl, .inl ⟨_, _, rfl, rfl, _, q2 _ _ ed, ?_, fun b o e => ?_, ?_⟩⟩
      · rw [List.length_map, List.length_map, List.length_take]; exact small1000 (by omega)
      · rw [upd_ne (ne_of_none e nD)]; exact q2 _ _ (sm _ _ e)
      · rw [upd_same, List.take_succ, hz, List.map_append, List.map_append]
        show _ = some (HO.lst (_ ++ [V.bl (decide (c < d))]))
        rw [show V.bl (decide ((⟨#[c]⟩ : Str).cps.toList < (⟨#[d]⟩ : Str).cps.toList)) = V.bl (decide (c < d)) from congrArg V.bl (ch_lt c d)]
    · obtain ⟨sm, ed⟩ := hp
      refine ⟨D, _, rfl, SqL.of ed, ?_⟩
      have e : (zs.zip (zs.drop 1)).take (min (tx zs).cps.size (tx (zs.drop 1)).cps.size) = zs.zip (zs.drop 1) := by
        refine List.take_of_length_le ?_
        rw [List.length_zip, tx_size, tx_size]
        exact Nat.le_refl _
      rw [e]
      exact q H' sm
  · refine .inr ⟨_, rfl, _, rfl, 1, rfl, a, _, rfl, ha, fun hw => ?_, fun _ b nb => ?_⟩
    · exact absurd (show HT.sIx 3 0 (some 1) = 0 from hw.1) (by decide)
    have q0 := same_new nb (.tup [.int j, .int k])
    refine ⟨a, b, _, _, rfl, .inr ⟨sqT_same q0 ha, SqT.of upd_same, fun D nD => ?_⟩⟩
    have q1 := same_new nD (.lst [])
    have ha1 := sqT_same q0 ha
    have eb : SqT K (upd H b (.tup [.int j, .int k])) b [.int j, .int k] := SqT.of upd_same
    refine lc_it (walk_zipT (K := K) (a := a) (b := b) (xs := [.int i, .int j, .int k]) (ys := [.int j, .int k]) rfl) (fun n H' => Same (upd H b (.tup [.int j, .int k])) H' ∧ H' D = some (.lst (([decide (i < j), decide (j < k)].take n).map V.bl))) ⟨q1, upd_same⟩ (fun _ H' _ hp => ⟨sqT_same hp.1 ha1, sqT_same hp.1 eb⟩) (fun n x H' H'' hi hp hy => ?_) (fun H' hp => ?_)
    · obtain ⟨sm, ed⟩ := hp
      obtain ⟨p, x, y, rfl, np, rfl, hx, hy⟩ := hy
      have q2 := same_new np (.tup [x, y])
      have hn : n = 0 ∨ n = 1 := by
        have : n < 2 := hi
        omega
      rcases hn with rfl | rfl
      · cases hx
        cases hy
        refine ⟨p, _, rfl, SqT.of upd_same, rfl, _, _, rfl, _, _, rfl, rfl, rfl, kept ?_⟩
        refine ⟨_, rfl, _, rfl, .inr ⟨_, _, rfl, rfl, _, q2 _ _ ed, (by show 0 < sizeLine; decide), fun b o e => ?_, ?_⟩⟩
        · rw [upd_ne (ne_of_none e nD)]; exact q2 _ _ (sm _ _ e)
        · rw [upd_same]; rfl
      · cases hx
        cases hy
        refine ⟨p, _, rfl, SqT.of upd_same, rfl, _, _, rfl, _, _, rfl, rfl, rfl, kept ?_⟩
        refine ⟨_, rfl, _, rfl, .inr ⟨_, _, rfl, rfl, _, q2 _ _ ed, (by show 1 < sizeLine; decide), fun b o e => ?_, ?_⟩⟩
        · rw [upd_ne (ne_of_none e nD)]; exact q2 _ _ (sm _ _ e)
        · rw [upd_same]; rfl
    · obtain ⟨sm, ed⟩ := hp
      refine ⟨D, [decide (i < j), decide (j < k)], rfl, SqL.of ed, ?_⟩
      rw [bl_ints]
      exact q H' (q0.trans sm)
def spWhole : Sp := fun vs H Q _ => ∃ i : Int, vs = [.int i] ∧ Q (.bl true) H
theorem ok_whole {k : Nat} (F : Fun K "is_whole_number" "is_whole_number" s_is_whole_number f fd) (M : Mgs mg) : FnOk P w K mg base CX0 (k + 1) f fd ["value"] spWhole := by
  refine F.ok sc_is_whole_number (fun vs H Q E h => ?_) (fun cdv A outer s H vs Q E hr h => ?_)
  · obtain ⟨i, rfl, _⟩ := h
    rfl
  obtain ⟨i, rfl, q⟩ := h
  refine ⟨_, (pss_one (ps_ret (pe_and (pe_callB call_isi rfl M.isinstance (by decide +kernel) (pa_cons (pv 0) (pa_cons (pe_bltn (v := .ty "int") rfl M.int (by decide +kernel) rfl) pa_nil))) (pe_one (pe_not (pe_callB call_isi rfl M.isinstance (by decide +kernel) (pa_cons (pv 0) (pa_cons (pe_bltn (v := .ty "bool") rfl M.bool (by decide +kernel) rfl) pa_nil)))))))), ?_⟩
  refine ⟨_, rfl, _, _, _, _, true, rfl, .ty _, .base (.int i), kit_ty (by decide +kernel), _, rfl, iteT ?_⟩
  exact ⟨_, rfl, _, _, _, _, false, rfl, .ty _, .base (.int i), kit_ty (by decide +kernel), _, rfl, q⟩
def spIndex : Sp := fun vs H Q _ => ∃ i n : Int, vs = [.int i, .int n] ∧ Q (.bl (decide (0 ≤ i) && decide (i < n))) H
theorem ok_index {k : Nat} (F : Fun K "is_index" "is_index" s_is_index f fd) (Dis_whole_number : Df P w K mg base (k + 1) "is_whole_number" ["value"] spWhole) : FnOk P w K mg base CX0 (k + 2) f fd ["value", "many"] spIndex := by
  refine F.ok sc_is_index (fun vs H Q E h => ?_) (fun cdv A outer s H vs Q E hr h => ?_)
  · obtain ⟨i, n, rfl, _⟩ := h
    rfl
  obtain ⟨i, n, rfl, q⟩ := h
  refine ⟨_, (pss_one (ps_ret (pe_and (pe_call Dis_whole_number.ok (hr.mono (by omega)) rfl Dis_whole_number.g Dis_whole_number.kp Dis_whole_number.b .nil pass0 (pa_cons (pv 0) pa_nil)) (pe_one (pe_chain op_le op_lt pe_int (pv 0) (pv 1)))))), ?_⟩
  refine ⟨_, rfl, i, rfl, _, rfl, iteT ?_⟩
  refine ⟨_, rfl, _, _, rfl, rfl, _, rfl, ?_⟩
  by_cases h0 : (0 : Int) ≤ i
  · rw [decide_eq_true h0] at q ⊢
    exact iteT ⟨_, rfl, _, _, rfl, rfl, q⟩
  · rw [decide_eq_false h0] at q ⊢
    exact iteF q
def spSearch : Sp := fun vs H Q _ => ∃ (v : V) (t : B), vs = [v] ∧ BAt H v t ∧ t ≠ .nil ∧ t.size ≤ 50 ∧ ∀ H', Same H H' → Q (.bl (asc t.mid)) H'
theorem ok_search (F : Fun K "is_search_tree" "is_search_tree" s_is_search_tree f fd) (Dwalk : Df P w K mg base 62 "walk" ["tree", "kind"] spWalk) (Dis_ascending : Df P w K mg base 1 "is_ascending" ["items"] (spAsc K)) : FnOk P w K mg base CX0 63 f fd ["tree"] spSearch := by
  refine F.ok sc_is_search_tree (fun vs H Q E h => ?_) (fun cdv A outer s H vs Q E hr h => ?_)
  · obtain ⟨v, t, rfl, _⟩ := h
    rfl
  obtain ⟨v, t, rfl, hv, hn, hz, q⟩ := h
  refine ⟨_, (pss_one (ps_ret (pe_and (pe_cmpR op_notN (pv 0) pe_non (nomark _)) (pe_one (pe_call Dis_ascending.ok (hr.mono (by omega)) rfl Dis_ascending.g Dis_ascending.kp Dis_ascending.b .nil pass0 (pa_cons (pe_call Dwalk.ok (hr.mono (by omega)) rfl Dwalk.g Dwalk.kp Dwalk.b .nil pass0 (pa_cons (pv 0) (pa_cons pe_str pa_nil))) pa_nil)))))), ?_⟩
  rcases hv.inv with ⟨rfl, rfl⟩ | ⟨a, l, r, x, tl, tr, rfl, rfl, ea, hl, hr'⟩
  · exact absurd rfl hn
  · refine ⟨_, rfl, rfl, _, rfl, iteT ?_⟩
    refine ⟨_, rfl, _, _, .between, rfl, hv, hz, fun H1 s1 => ?_⟩
    refine .inl ⟨_, rfl, ?_, fun H2 s2 => q H2 (s1.trans s2)⟩
    have e := B.wk_len .between (.node tl x tr)
    omega
end
/-! ### barriers -/
def Barr (zs : List Nat) (l h b : Nat) : Prop := l < h ∧ h < b ∧ b < zs.length ∧ zs.getD b 0 < zs.getD l 0 ∧ zs.getD l 0 < zs.getD h 0
abbrev vt (z : List Nat) : V := .str (tx z)
theorem sig_at {zs : List Nat} {i : Nat} (h : i < zs.length) : atI (tx zs).cps.toList ((i : Nat) : Int) = some (zs.getD i 0) := by
  refine atI_nat ?_
  show zs[i]? = _
  rw [List.getD_eq_getElem?_getD, List.getElem?_eq_getElem h]
  rfl
def spBarr (K : PySem.W.Frag) : Sp := fun vs H Q _ => ∃ (zs : List Nat) (a : Addr) (l h b : Nat), vs = [vt zs, .ref a] ∧ zs.length ≤ 30 ∧ l < h ∧ h < b ∧ b < zs.length ∧ SqT K H a [.int (l : Int), .int (h : Int), .int (b : Int)] ∧
  ∀ H', Same H H' → Q (.bl (decide (zs.getD b 0 < zs.getD l 0) && decide (zs.getD l 0 < zs.getD h 0))) H'
section
variable {P : Program} {w : World} {K : PySem.W.Frag} {mg : Str → Option Value} {base : Heap} {f : Addr} {fd : FuncData}
theorem ok_barrier (F : Fun K "is_barrier" "is_barrier" s_is_barrier f fd) (M : Mgs mg) (Dis_index : Df P w K mg base 2 "is_index" ["value", "many"] spIndex) (Dis_ascending : Df P w K mg base 1 "is_ascending" ["items"] (spAsc K)) : FnOk P w K mg base CX0 3 f fd ["order", "value"] (spBarr K) := by
  refine F.ok sc_is_barrier (fun vs H Q E h => ?_) (fun cdv A outer s H vs Q E hr h => ?_)
  · obtain ⟨zs, a, l, h, b, rfl, _⟩ := h
    rfl
  obtain ⟨zs, a, l, h, b, rfl, hz, lh, hb, bz, ha, q⟩ := h
  have lz : (tx zs).length ≤ sizeLine := small (by rw [tx_len]; omega)
  have ty : TyX K H (.ref a) (.type "tuple") := dp_ty (Dp.tup ha (.cons (.int _) (.cons (.int _) (.cons (.int _) .nil))))
  refine ⟨_, (pss_cons (ps_if (PW.pt (pw_or (pt_not (pt_val (pe_callB call_isi rfl M.isinstance (by decide +kernel) (pa_cons (pv 1) (pa_cons (pe_bltn (v := .ty "tuple") rfl M.tuple (by decide +kernel) rfl) pa_nil))))) (pw_or1 (pt_cmpR op_ne (pe_callB call_len_seq rfl M.len PySem.boot_len (pa_cons (pv 1) pa_nil)) pe_int (nomark _)))))
      (pss_one (ps_ret pe_bl)) pss_nil)
    (pss_cons (ps_if (PW.pt (pw_or (pt_not (pt_val (pe_callB (cr_all rfl) rfl M.all (by decide +kernel) (pa_cons (pe_lc (own := [("place", 2)]) (g := gName 2) (tt := tYes) rfl sc_is_barrier.nd (pi_tup (pv 1)) (blkOk_by (N := ["order", "value", "place", "low", "high", "behind"]) (sc := defScope s_is_barrier) (by decide +kernel)) (fun _ _ _ _ _ => (pg_name (i := 2) sc_is_barrier.nd rfl (.inl rfl))) (fun _ _ _ _ _ => pts_nil) (fun _ _ _ _ _ => (pe_call Dis_index.ok (hr.mono (by omega)) rfl Dis_index.g Dis_index.kp Dis_index.b .nil pass0 (pa_cons (pv 2) (pa_cons (pe_callB call_len_str rfl M.len PySem.boot_len (pa_cons (pv 0) pa_nil)) pa_nil))))) pa_nil)))) (pw_or1 (pt_not (pt_val (pe_call Dis_ascending.ok (hr.mono (by omega)) rfl Dis_ascending.g Dis_ascending.kp Dis_ascending.b .nil pass0 (pa_cons (pv 1) pa_nil)))))))
      (pss_one (ps_ret pe_bl)) pss_nil)
    (pss_cons (ps_asg (pv 1) (pg_tup rfl (pgs_cons (pg_name (i := 3) sc_is_barrier.nd rfl (.inl rfl)) (pgs_cons (pg_name (i := 4) sc_is_barrier.nd rfl (.inl rfl)) (pgs_cons (pg_name (i := 5) sc_is_barrier.nd rfl (.inl rfl)) pgs_nil)))))
    (pss_one (ps_ret (pe_chain op_lt_str op_lt_str (pe_ix ix_str (pv 0) (pv 5) (fun _ _ => rfl)) (pe_ix ix_str (pv 0) (pv 3) (fun _ _ => rfl)) (pe_ix ix_str (pv 0) (pv 4) (fun _ _ => rfl)))))))), ?_⟩
  refine ⟨_, rfl, _, _, _, _, true, rfl, .ty _, ty, kit_ty (by decide +kernel), _, rfl, iteF ?_⟩
  refine ⟨_, rfl, a, _, rfl, .inr ha, rfl, _, rfl, iteF ?_⟩
  refine ⟨_, rfl, a, rfl, ⟨_, ha⟩, fun D nD => ?_⟩
  have q1 := same_new nD (.lst [])
  refine lc_tup (K := K) (a := a) (xs := [.int (l : Int), .int (h : Int), .int (b : Int)]) (fun n H' => Same H H' ∧ H' D = some (.lst ((List.replicate n true).map V.bl))) ⟨q1, upd_same⟩ (fun n H' _ hp => sqT_same hp.1 ha) (fun n x H' hx hp => ?_) (fun H' hp => ?_)
  · obtain ⟨sm, ed⟩ := hp
    obtain ⟨m, hm, rfl⟩ : ∃ m : Nat, m < zs.length ∧ x = .int (m : Int) := by
      match n, hx with
      | 0, hx => cases hx; exact ⟨l, by omega, rfl⟩
      | 1, hx => cases hx; exact ⟨h, by omega, rfl⟩
      | 2, hx => cases hx; exact ⟨b, by omega, rfl⟩
    have hn : n < 3 := (List.getElem?_eq_some_iff.mp hx).1
    refine ⟨rfl, kept ?_⟩
    refine ⟨_, rfl, _, rfl, _, rfl, lz, _, _, rfl, _, ed, by rw [List.length_map, List.length_replicate]; exact small1000 (by omega), fun b o e => ?_, ?_⟩
    · rw [upd_ne (ne_of_none e nD)]; exact sm _ _ e
    · rw [upd_same, tx_len, decide_eq_true (show (0 : Int) ≤ (m : Int) by omega), decide_eq_true (show (m : Int) < (zs.length : Int) by omega), List.replicate_succ', List.map_append]
      rfl
  · obtain ⟨sm, ed⟩ := hp
    refine ⟨D, _, rfl, SqL.of ed, _, rfl, iteF ?_⟩
    refine ⟨_, rfl, .inr ⟨a, _, _, _, rfl, sqT_same sm ha, fun H2 s2 => ?_⟩⟩
    rw [decide_eq_true (show (l : Int) < (h : Int) by omega), decide_eq_true (show (h : Int) < (b : Int) by omega)]
    refine ⟨_, rfl, iteF ?_⟩
    have ha2 := sqT_same s2 (sqT_same sm ha)
    refine ⟨_, rfl, a, _, rfl, ha2, rfl, _, _, rfl, _, _, rfl, _, _, rfl, rfl, ?_⟩
    refine ⟨_, rfl, _, rfl, _, _, _, rfl, rfl, lz, sig_at bz, _, rfl, _, rfl, _, _, _, rfl, rfl, lz, sig_at (by omega), _, _, rfl, rfl, _, rfl, ?_⟩
    rw [ch_lt]
    have q' := q H2 (sm.trans s2)
    by_cases c : zs.getD b 0 < zs.getD l 0
    · rw [decide_eq_true c] at q' ⊢
      refine iteT ⟨_, rfl, _, rfl, _, _, _, rfl, rfl, lz, sig_at (by omega), _, _, rfl, rfl, ?_⟩
      rw [ch_lt]
      exact q'
    · rw [decide_eq_false c] at q' ⊢
      exact iteF q'
inductive TrAt (H : Hp) : List V → List (Nat × Nat × Nat) → Prop
  | nil : TrAt H [] []
  | cons {a : Addr} {l h b : Nat} {vs : List V} {ts : List (Nat × Nat × Nat)} : H a = some (.tup [.int (l : Int), .int (h : Int), .int (b : Int)]) → TrAt H vs ts → TrAt H (.ref a :: vs) ((l, h, b) :: ts)
theorem TrAt.keep {H H' : Hp} (k : KeepT H H') {vs : List V} {ts : List (Nat × Nat × Nat)} (h : TrAt H vs ts) : TrAt H' vs ts := by
  induction h with
  | nil => exact .nil
  | cons e _ ih => exact .cons (k _ _ e) ih
theorem TrAt.same {H H' : Hp} (k : Same H H') {vs : List V} {ts : List (Nat × Nat × Nat)} (h : TrAt H vs ts) : TrAt H' vs ts := by
  induction h with
  | nil => exact .nil
  | cons e _ ih => exact .cons (k _ _ e) ih
theorem TrAt.snoc {H : Hp} {vs : List V} {ts : List (Nat × Nat × Nat)} {a : Addr} {l h b : Nat} (k : TrAt H vs ts) (e : H a = some (.tup [.int (l : Int), .int (h : Int), .int (b : Int)])) : TrAt H (vs ++ [.ref a]) (ts ++ [(l, h, b)]) := by
  induction k with
  | nil => exact .cons e .nil
  | cons e' _ ih => exact .cons e' ih
theorem TrAt.len {H : Hp} {vs : List V} {ts : List (Nat × Nat × Nat)} (k : TrAt H vs ts) : vs.length = ts.length := by
  induction k with
  | nil => rfl
  | cons _ _ ih => rw [List.length_cons, List.length_cons, ih]
def Barb (zs : List Nat) (l h b : Nat) : Bool := decide (zs.getD b 0 < zs.getD l 0) && decide (zs.getD l 0 < zs.getD h 0)
def bars2 (zs : List Nat) (b h n : Nat) : List (Nat × Nat × Nat) := (List.range n).filterMap fun l => if Barb zs l h b then some (l, h, b) else none
def bars1 (zs : List Nat) (b n : Nat) : List (Nat × Nat × Nat) := (List.range n).flatMap fun h => bars2 zs b h h
def bars0 (zs : List Nat) (n : Nat) : List (Nat × Nat × Nat) := (List.range n).flatMap fun b => bars1 zs b b
theorem bars2_succ (zs : List Nat) (b h n : Nat) : bars2 zs b h (n + 1) = bars2 zs b h n ++ if Barb zs n h b then [(n, h, b)] else [] := by
  unfold bars2
  rw [List.range_succ, List.filterMap_append]
  congr 1
  rw [List.filterMap_cons, List.filterMap_nil]
  cases Barb zs n h b <;> rfl
theorem bars1_succ (zs : List Nat) (b n : Nat) : bars1 zs b (n + 1) = bars1 zs b n ++ bars2 zs b n n := by
  unfold bars1
  rw [List.range_succ, List.flatMap_append, List.flatMap_cons, List.flatMap_nil, List.append_nil]
theorem bars0_succ (zs : List Nat) (n : Nat) : bars0 zs (n + 1) = bars0 zs n ++ bars1 zs n n := by
  unfold bars0
  rw [List.range_succ, List.flatMap_append, List.flatMap_cons, List.flatMap_nil, List.append_nil]
theorem bars2_mem {zs : List Nat} {b h n : Nat} {t : Nat × Nat × Nat} : t ∈ bars2 zs b h n ↔ t.1 < n ∧ t.2.1 = h ∧ t.2.2 = b ∧ Barb zs t.1 h b = true := by
  unfold bars2
  rw [List.mem_filterMap]
  constructor
  · rintro ⟨l, hl, e⟩
    have hl := List.mem_range.mp hl
    split at e
    · cases e
      exact ⟨hl, rfl, rfl, by assumption⟩
    · cases e
  · obtain ⟨l, h', b'⟩ := t
    rintro ⟨h1, rfl, rfl, h4⟩
    exact ⟨l, List.mem_range.mpr h1, by rw [if_pos h4]⟩
theorem bars_mem {zs : List Nat} {l h b : Nat} : (l, h, b) ∈ bars0 zs zs.length ↔ Barr zs l h b := by
  unfold bars0 bars1 Barr
  rw [List.mem_flatMap]
  constructor
  · rintro ⟨b', hb', hm⟩
    obtain ⟨h', hh', hm⟩ := List.mem_flatMap.mp hm
    obtain ⟨h1, h2, h3, h4⟩ := bars2_mem.mp hm
    have h2 : h = h' := h2
    have h3 : b = b' := h3
    subst h2 h3
    unfold Barb at h4
    rw [Bool.and_eq_true, decide_eq_true_eq, decide_eq_true_eq] at h4
    exact ⟨h1, List.mem_range.mp hh', List.mem_range.mp hb', h4.1, h4.2⟩
  · rintro ⟨h1, h2, h3, h4, h5⟩
    refine ⟨b, List.mem_range.mpr h3, List.mem_flatMap.mpr ⟨h, List.mem_range.mpr h2, bars2_mem.mpr ⟨h1, rfl, rfl, ?_⟩⟩⟩
    unfold Barb
    rw [decide_eq_true h4, decide_eq_true h5]
    rfl
theorem bars2_len (zs : List Nat) (b h n : Nat) : (bars2 zs b h n).length ≤ n := by
  unfold bars2
  exact Nat.le_trans (List.length_filterMap_le _ _) (by rw [List.length_range]; exact Nat.le_refl _)
/-- the list at D holds ts -/
def TrIn (H0 : Hp) (D : Addr) (n : Nat) (ts : List (Nat × Nat × Nat)) (H : Hp) : Prop := Same H0 H ∧ ts.length ≤ n ∧ ∃ us : List V, H D = some (.lst us) ∧ TrAt H us ts
def spBars : Sp := fun vs H Q _ => ∃ zs : List Nat, vs = [vt zs] ∧ zs.length ≤ 30 ∧ ∀ (p : Addr) (us : List V) (H' : Hp), Same H H' → H' p = some (.lst us) → TrAt H' us (bars0 zs zs.length) → Q (.ref p) H'
def spTreeOf : Sp := fun vs H Q _ => ∃ zs : List Nat, vs = [.str (tx zs)] ∧ zs.Nodup ∧ zs.length ≤ 12 ∧ ∀ (v : V) (H' : Hp), Same H H' → BAt H' v (gr zs) → Q v H'
def spCert : Sp := fun vs H Q _ => ∃ zs : List Nat, vs = [vt zs] ∧ zs.Nodup ∧ zs.length ≤ 12 ∧
  (∀ (p a : Addr) (l h b : Nat) (r : List (Nat × Nat × Nat)) (H' : Hp), Same H H' → H' p = some (.tup [.str "barrier", .ref a]) → H' a = some (.tup [.int (l : Int), .int (h : Int), .int (b : Int)]) → bars0 zs zs.length = (l, h, b) :: r → Q (.ref p) H') ∧
  (∀ (p : Addr) (v : V) (H' : Hp), Same H H' → H' p = some (.tup [.str "tree", v]) → BAt H' v (gr zs) → bars0 zs zs.length = [] → Q (.ref p) H')
end
/-! ### patterns of three letters -/
def Bar3 (zs : List Nat) : Prop := ∃ x y z : Nat, [x, y, z].Sublist zs ∧ z < x ∧ x < y
theorem sub_split {x : Nat} {r : List Nat} : ∀ {zs : List Nat}, (x :: r).Sublist zs → ∃ a b, zs = a ++ x :: b ∧ r.Sublist b
  | [], h => by cases h
  | y :: zs, h => by
    cases h with
    | cons _ h =>
      obtain ⟨a, b, rfl, hb⟩ := sub_split h
      exact ⟨y :: a, b, rfl, hb⟩
    | cons_cons _ h => exact ⟨[], zs, rfl, h⟩
theorem getD_mid (a b : List Nat) (x : Nat) : (a ++ x :: b).getD a.length 0 = x := by
  rw [List.getD_eq_getElem?_getD, List.getElem?_append_right (Nat.le_refl _), Nat.sub_self]
  rfl
theorem getD_right (a b : List Nat) (k : Nat) : (a ++ b).getD (a.length + k) 0 = b.getD k 0 := by
  rw [List.getD_eq_getElem?_getD, List.getD_eq_getElem?_getD, List.getElem?_append_right (Nat.le_add_right _ _), Nat.add_sub_cancel_left]
theorem barr_of {zs : List Nat} (h : Bar3 zs) : ∃ l h b, Barr zs l h b := by
  obtain ⟨x, y, z, hs, zx, xy⟩ := h
  obtain ⟨a, b, rfl, hs1⟩ := sub_split hs
  obtain ⟨c, d, rfl, hs2⟩ := sub_split hs1
  obtain ⟨e, f, rfl, _⟩ := sub_split hs2
  refine ⟨a.length, a.length + (c.length + 1), a.length + (c.length + (e.length + 1) + 1), by omega, by omega, ?_, ?_, ?_⟩
  · simp only [List.length_append, List.length_cons]; omega
  · rw [getD_right, getD_mid]
    show (c ++ y :: (e ++ z :: f)).getD (c.length + (e.length + 1)) 0 < x
    rw [getD_right]
    show (e ++ z :: f).getD e.length 0 < x
    rw [getD_mid]
    exact zx
  · rw [getD_right, getD_mid]
    show x < (c ++ y :: (e ++ z :: f)).getD c.length 0
    rw [getD_mid]
    exact xy
theorem get_sub {zs : List Nat} {i : Nat} {r : List Nat} (h : i < zs.length) (hr : r.Sublist (zs.drop (i + 1))) : (zs.getD i 0 :: r).Sublist (zs.drop i) := by
  rw [List.drop_eq_getElem_cons h, List.getD_eq_getElem?_getD, List.getElem?_eq_getElem h]
  exact hr.cons_cons _
theorem Barr.sub {zs : List Nat} {l h b : Nat} (k : Barr zs l h b) : [zs.getD l 0, zs.getD h 0, zs.getD b 0].Sublist zs := by
  obtain ⟨lh, hb, bz, _⟩ := k
  have s1 : [zs.getD b 0].Sublist (zs.drop b) := get_sub bz (List.nil_sublist _)
  have s2 : [zs.getD h 0, zs.getD b 0].Sublist (zs.drop h) := get_sub (by omega) (s1.trans (List.drop_sublist_drop_left _ (by omega)))
  have s3 := get_sub (zs := zs) (i := l) (by omega) (s2.trans (List.drop_sublist_drop_left _ (show l + 1 ≤ h by omega)))
  exact s3.trans (List.drop_sublist _ _)
theorem Barr.bar {zs : List Nat} {l h b : Nat} (k : Barr zs l h b) : Bar3 zs := ⟨_, _, _, k.sub, k.2.2.2.1, k.2.2.2.2⟩
theorem Bar3.mono {ws zs : List Nat} (s : ws.Sublist zs) (h : Bar3 ws) : Bar3 zs := by
  obtain ⟨x, y, z, hs, h⟩ := h
  exact ⟨x, y, z, hs.trans s, h⟩
theorem filter_sub {ws zs : List Nat} (s : ws.Sublist zs) : zs.Nodup → zs.filter (fun c => decide (c ∈ ws)) = ws := by
  induction s with
  | slnil => intro _; rfl
  | @cons l1 l2 a s ih =>
    intro nd
    obtain ⟨na, nd⟩ := List.nodup_cons.mp nd
    rw [List.filter_cons_of_neg (by rw [decide_eq_true_eq]; exact fun z => na (s.subset z))]
    exact ih nd
  | @cons_cons l1 l2 a s ih =>
    intro nd
    obtain ⟨na, nd⟩ := List.nodup_cons.mp nd
    rw [List.filter_cons_of_pos (by rw [decide_eq_true_eq]; exact List.mem_cons_self)]
    have e : l2.filter (fun c => decide (c ∈ a :: l1)) = l2.filter (fun c => decide (c ∈ l1)) := by
      refine List.filter_congr fun c hc => ?_
      have : c ≠ a := fun z => na (z ▸ hc)
      simp [this]
    rw [e, ih nd]
theorem sub_of_mem {zs ws : List Nat} {x y z : Nat} (nd : zs.Nodup) (h : [x, y, z].Sublist zs) (s : ws.Sublist zs) (hx : x ∈ ws) (hy : y ∈ ws) (hz : z ∈ ws) : [x, y, z].Sublist ws := by
  have := h.filter (fun c => decide (c ∈ ws))
  rw [filter_sub s nd] at this
  simpa [hx, hy, hz] using this
theorem bst_noBar {t : B} (h : Bst t) : ¬ Bar3 t.pre := by
  induction t with
  | nil =>
    rintro ⟨x, y, z, hs, _⟩
    cases hs
  | node l w r i1 i2 =>
    obtain ⟨hl, hr, bl, br⟩ := h
    rintro ⟨x, y, z, hs, zx, xy⟩
    have hs : [x, y, z].Sublist (w :: (l.pre ++ r.pre)) := hs
    cases hs with
    | cons _ hs =>
      obtain ⟨l1, l2, e, s1, s2⟩ := List.sublist_append_iff.mp hs
      match l1, e with
      | [], e =>
        have : l2 = [x, y, z] := e.symm
        exact i2 br ⟨x, y, z, this ▸ s2, zx, xy⟩
      | [x'], e =>
        simp only [List.cons_append, List.nil_append, List.cons.injEq] at e
        obtain ⟨rfl, rfl⟩ := e
        have h1 := hl x (s1.subset List.mem_cons_self)
        have h2 := hr z (s2.subset (by simp))
        omega
      | [x', y'], e =>
        simp only [List.cons_append, List.nil_append, List.cons.injEq] at e
        obtain ⟨rfl, rfl, rfl⟩ := e
        have h1 := hl x (s1.subset List.mem_cons_self)
        have h2 := hr z (s2.subset (by simp))
        omega
      | [x', y', z'], e =>
        simp only [List.cons_append, List.nil_append, List.cons.injEq] at e
        obtain ⟨rfl, rfl, rfl, _⟩ := e
        exact i1 bl ⟨x, y, z, s1, zx, xy⟩
      | _ :: _ :: _ :: _ :: _, e => simp at e
    | cons_cons _ hs =>
      obtain ⟨l1, l2, e, s1, s2⟩ := List.sublist_append_iff.mp hs
      match l1, e with
      | [], e =>
        have : l2 = [y, z] := e.symm
        have h2 := hr z (s2.subset (by simp [this]))
        omega
      | y' :: _, e =>
        simp only [List.cons_append, List.cons.injEq] at e
        obtain ⟨rfl, _⟩ := e
        have h1 := hl y (s1.subset List.mem_cons_self)
        omega
theorem bst_mid {t : B} (h : Bst t) : t.mid.Pairwise (· < ·) := by
  induction t with
  | nil => exact .nil
  | node l w r i1 i2 =>
    obtain ⟨hl, hr, bl, br⟩ := h
    show (l.mid ++ w :: r.mid).Pairwise (· < ·)
    refine List.pairwise_append.mpr ⟨i1 bl, List.pairwise_cons.mpr ⟨fun c hc => hr c ((r.mid_mem c).mp hc), i2 br⟩, fun a ha c hc => ?_⟩
    have h1 := hl a ((l.mid_mem a).mp ha)
    rcases List.mem_cons.mp hc with rfl | hc
    · exact h1
    · have := hr c ((r.mid_mem c).mp hc)
      omega
theorem asc_of : ∀ {zs : List Nat}, zs.Pairwise (· < ·) → asc zs = true
  | [], _ => rfl
  | [_], _ => rfl
  | a :: b :: r, h => by
    have ih := asc_of (zs := b :: r) (List.pairwise_cons.mp h).2
    have hab := (List.pairwise_cons.mp h).1 b List.mem_cons_self
    unfold asc at ih ⊢
    show ((decide (a < b)) :: (((b :: r).zip ((b :: r).drop 1)).map fun q => decide (q.1 < q.2))).all id = true
    rw [List.all_cons, ih, decide_eq_true hab]
    rfl
theorem tx_init (l : List Nat) (c : Nat) : cutS (tx (l ++ [c])) none (some (-1)) = tx l := by
  unfold cutS tx
  show (⟨_⟩ : Str) = ⟨_⟩
  have e : HT.sIx (l ++ [c]).length (l ++ [c]).length (some (-1)) = l.length := by
    show (if (-1 : Int) < 0 then ((-1 : Int) + ((l ++ [c]).length : Int)).toNat else min (-1 : Int).toNat (l ++ [c]).length) = _
    rw [if_pos (by decide), List.length_append, List.length_cons, List.length_nil]
    omega
  show (⟨(((l ++ [c]).drop 0).take (HT.sIx (l ++ [c]).length (l ++ [c]).length (some (-1)) - 0)).toArray⟩ : Str) = _
  rw [e, List.drop_zero, Nat.sub_zero, List.take_left]
theorem tx_last (l : List Nat) (c : Nat) : cutS (tx (l ++ [c])) (some (-1)) none = tx [c] := by
  unfold cutS tx
  show (⟨_⟩ : Str) = ⟨_⟩
  have e : HT.sIx (l ++ [c]).length 0 (some (-1)) = l.length := by
    show (if (-1 : Int) < 0 then ((-1 : Int) + ((l ++ [c]).length : Int)).toNat else min (-1 : Int).toNat (l ++ [c]).length) = _
    rw [if_pos (by decide), List.length_append, List.length_cons, List.length_nil]
    omega
  show (⟨(((l ++ [c]).drop (HT.sIx (l ++ [c]).length 0 (some (-1)))).take ((l ++ [c]).length - HT.sIx (l ++ [c]).length 0 (some (-1)))).toArray⟩ : Str) = _
  rw [e, List.drop_left, List.take_of_length_le (by rw [List.length_append]; simp)]
theorem snoc_of {zs : List Nat} (h : zs ≠ []) : ∃ ys c, zs = ys ++ [c] := ⟨zs.dropLast, zs.getLast h, (List.dropLast_concat_getLast h).symm⟩
/-! ### orders without a barrier are walks -/
theorem foldl_split (zs : List Nat) (x : Nat) : ∀ l r : B, zs.foldl B.ins (.node l x r) = .node ((zs.filter (fun c => decide (c < x))).foldl B.ins l) x ((zs.filter (fun c => !decide (c < x))).foldl B.ins r) := by
  induction zs with
  | nil => intro l r; rfl
  | cons c s ih =>
    intro l r
    rw [List.foldl_cons]
    have e : (B.node l x r).ins c = if c < x then .node (l.ins c) x r else .node l x (r.ins c) := rfl
    rw [e]
    by_cases h : c < x
    · rw [if_pos h, ih, List.filter_cons_of_pos (by simpa using h), List.filter_cons_of_neg (by simpa using h), List.foldl_cons]
    · rw [if_neg h, ih, List.filter_cons_of_neg (by simpa using h), List.filter_cons_of_pos (by simpa using h), List.foldl_cons]
theorem split_of {x : Nat} : ∀ {zs : List Nat}, (∀ y z, [y, z].Sublist zs → z < x → x < y → False) → x ∉ zs → zs = zs.filter (fun c => decide (c < x)) ++ zs.filter (fun c => !decide (c < x))
  | [], _, _ => rfl
  | c :: r, h, hx => by
    have hr : ∀ y z, [y, z].Sublist r → z < x → x < y → False := fun y z s => h y z (s.cons _)
    have nx : x ≠ c := fun z => hx (by rw [z]; exact List.mem_cons_self)
    have hx' : x ∉ r := fun z => hx (List.mem_cons_of_mem _ z)
    by_cases lt : c < x
    · rw [List.filter_cons_of_pos (by simpa using lt), List.filter_cons_of_neg (by simpa using lt), List.cons_append, ← split_of hr hx']
    · rw [List.filter_cons_of_neg (by simpa using lt), List.filter_cons_of_pos (by simpa using lt)]
      have none : ∀ z ∈ r, ¬ z < x := fun z hz zx => h c z ((List.singleton_sublist.mpr hz).cons_cons c) zx (by omega)
      have e1 : r.filter (fun c => decide (c < x)) = [] := List.filter_eq_nil_iff.mpr fun z hz => by simpa using none z hz
      have e2 : r.filter (fun c => !decide (c < x)) = r := List.filter_eq_self.mpr fun z hz => by simpa using none z hz
      rw [e1, e2]
      rfl
theorem pre_of_noBar : ∀ (n : Nat) (zs : List Nat), zs.length ≤ n → zs.Nodup → ¬ Bar3 zs → (gr zs).pre = zs
  | _, [], _, _, _ => rfl
  | 0, _ :: _, h, _, _ => absurd h (Nat.not_succ_le_zero _)
  | n + 1, x :: r, h, nd, nb => by
    obtain ⟨nx, nr⟩ := List.nodup_cons.mp nd
    have sp := split_of (x := x) (zs := r) (fun y z s zx xy => nb ⟨x, y, z, s.cons_cons x, zx, xy⟩) nx
    have s1 : (r.filter (fun c => decide (c < x))).Sublist r := List.filter_sublist
    have s2 : (r.filter (fun c => !decide (c < x))).Sublist r := List.filter_sublist
    have hl : r.length ≤ n := Nat.le_of_succ_le_succ h
    have i1 := pre_of_noBar n _ (Nat.le_trans s1.length_le hl) (nr.sublist s1) (fun b => nb ((b.mono s1).mono (List.sublist_cons_self _ _)))
    have i2 := pre_of_noBar n _ (Nat.le_trans s2.length_le hl) (nr.sublist s2) (fun b => nb ((b.mono s2).mono (List.sublist_cons_self _ _)))
    unfold gr at i1 i2 ⊢
    rw [List.foldl_cons]
    show (r.foldl B.ins (.node .nil x .nil)).pre = _
    rw [foldl_split]
    show x :: ((List.foldl B.ins .nil _).pre ++ (List.foldl B.ins .nil _).pre) = _
    rw [i1, i2, ← sp]
/-! ### _law_barriers -/
def lb2 (zs : List Nat) (p q n : Nat) : List (Nat × Nat × Nat) := (List.range n).filterMap fun k => if Barb zs p q (q + 1 + k) then some (p, q, q + 1 + k) else none
def lb1 (zs : List Nat) (p n : Nat) : List (Nat × Nat × Nat) := (List.range n).flatMap fun j => lb2 zs p (p + 1 + j) (zs.length - (p + 1 + j + 1))
def lb0 (zs : List Nat) (n : Nat) : List (Nat × Nat × Nat) := (List.range n).flatMap fun p => lb1 zs p (zs.length - (p + 1))
theorem lb2_succ (zs : List Nat) (p q n : Nat) : lb2 zs p q (n + 1) = lb2 zs p q n ++ if Barb zs p q (q + 1 + n) then [(p, q, q + 1 + n)] else [] := by
  unfold lb2
  rw [List.range_succ, List.filterMap_append]
  congr 1
  rw [List.filterMap_cons, List.filterMap_nil]
  cases Barb zs p q (q + 1 + n) <;> rfl
theorem lb1_succ (zs : List Nat) (p n : Nat) : lb1 zs p (n + 1) = lb1 zs p n ++ lb2 zs p (p + 1 + n) (zs.length - (p + 1 + n + 1)) := by
  unfold lb1
  rw [List.range_succ, List.flatMap_append, List.flatMap_cons, List.flatMap_nil, List.append_nil]
theorem lb0_succ (zs : List Nat) (n : Nat) : lb0 zs (n + 1) = lb0 zs n ++ lb1 zs n (zs.length - (n + 1)) := by
  unfold lb0
  rw [List.range_succ, List.flatMap_append, List.flatMap_cons, List.flatMap_nil, List.append_nil]
theorem lb2_len (zs : List Nat) (p q n : Nat) : (lb2 zs p q n).length ≤ n := by
  unfold lb2
  exact Nat.le_trans (List.length_filterMap_le _ _) (by rw [List.length_range]; exact Nat.le_refl _)
theorem lb_mem {zs : List Nat} {l h b : Nat} : (l, h, b) ∈ lb0 zs zs.length ↔ Barr zs l h b := by
  unfold lb0 lb1 lb2 Barr
  rw [List.mem_flatMap]
  constructor
  · rintro ⟨p, hp, hm⟩
    obtain ⟨j, hj, hm⟩ := List.mem_flatMap.mp hm
    obtain ⟨k, hk, e⟩ := List.mem_filterMap.mp hm
    have hp := List.mem_range.mp hp
    have hj := List.mem_range.mp hj
    have hk := List.mem_range.mp hk
    split at e
    · rename_i hb
      cases e
      unfold Barb at hb
      rw [Bool.and_eq_true, decide_eq_true_eq, decide_eq_true_eq] at hb
      exact ⟨by omega, by omega, by omega, hb.1, hb.2⟩
    · cases e
  · rintro ⟨h1, h2, h3, h4, h5⟩
    have hb : Barb zs l h b = true := by
      unfold Barb
      rw [decide_eq_true h4, decide_eq_true h5]
      rfl
    refine ⟨l, List.mem_range.mpr (by omega), List.mem_flatMap.mpr ⟨h - (l + 1), List.mem_range.mpr (by omega), List.mem_filterMap.mpr ⟨b - (h + 1), List.mem_range.mpr (by omega), ?_⟩⟩⟩
    rw [show l + 1 + (h - (l + 1)) = h by omega, show h + 1 + (b - (h + 1)) = b by omega, if_pos hb]
theorem TrAt.app {H : Hp} {vs us : List V} {ts ss : List (Nat × Nat × Nat)} (h : TrAt H vs ts) (g : TrAt H us ss) : TrAt H (vs ++ us) (ts ++ ss) := by
  induction h with
  | nil => exact g
  | cons e _ ih => exact .cons e ih
theorem TrAt.get {H : Hp} {vs : List V} {ts : List (Nat × Nat × Nat)} (h : TrAt H vs ts) : ∀ {i : Nat} {v : V}, vs[i]? = some v → ∃ a l h b, v = .ref a ∧ ts[i]? = some (l, h, b) ∧ H a = some (.tup [.int (l : Int), .int (h : Int), .int (b : Int)]) := by
  induction h with
  | nil => intro i v e; simp at e
  | cons e _ ih =>
    intro i v he
    cases i with
    | zero => cases he; exact ⟨_, _, _, _, rfl, rfl, e⟩
    | succ i => exact ih he
def spLBars : Sp := fun vs H Q _ => ∃ zs : List Nat, vs = [vt zs] ∧ zs.length ≤ 30 ∧ ∀ (p : Addr) (us : List V) (H' : Hp), Same H H' → H' p = some (.lst us) → TrAt H' us (lb0 zs zs.length) → (lb0 zs zs.length).length ≤ 27000 → Q (.ref p) H'
section
variable {P : Program} {w : World} {K : PySem.W.Frag} {mg : Str → Option Value} {base : Heap} {f : Addr} {fd : FuncData}
theorem ok_lbars {k : Nat} (F : Fun K "_law_barriers" "_law_barriers" s__law_barriers f fd) (M : Mgs mg) : FnOk P w K mg base CX0 (k + 1) f fd ["_law_order_here"] spLBars := by
  refine F.ok sc__law_barriers (fun vs H Q E h => ?_) (fun cdv A outer s H vs Q E hr h => ?_)
  · obtain ⟨zs, rfl, _⟩ := h
    rfl
  obtain ⟨zs, rfl, hz, q⟩ := h
  have lz : (tx zs).length ≤ sizeLine := small (by rw [tx_len]; omega)
  refine ⟨_, (pss_cons (ps_par (i := 1) (j := 2) (by rfl) sc__law_barriers.nd rfl rfl (by decide) rfl rfl (pa_cons (pe_lst pa_nil) (pa_cons (pe_callB call_len_str rfl M.len PySem.boot_len (pa_cons (pv 0) pa_nil)) pa_nil)) (by rfl))
    (pss_cons (ps_for PassesOwn.never rfl (pi_range1 rfl M.range (pa_cons (pv 2) pa_nil)) (pg_name (i := 3) sc__law_barriers.nd rfl (.inr rfl))
      (pss_one (ps_for PassesOwn.never rfl (pi_range2 rfl M.range (pa_cons (pe_op op_add (pv 3) pe_int) (pa_cons (pv 2) pa_nil))) (pg_name (i := 4) sc__law_barriers.nd rfl (.inr rfl))
      (pss_one (ps_set (i := 1) sc__law_barriers.nd rfl (.inl rfl) (pe_op op_cat (pv 1) (pe_lc (own := [("_law_r", 5)]) (g := gName 5) rfl sc__law_barriers.nd (pi_range2 rfl M.range (pa_cons (pe_op op_add (pv 4) pe_int) (pa_cons (pv 2) pa_nil))) (blkOk_by (N := ["_law_order_here", "_law_found", "_law_size", "_law_p", "_law_q", "_law_r"]) (sc := defScope s__law_barriers) (by decide +kernel)) (fun _ _ _ _ _ => (pg_name (i := 5) sc__law_barriers.nd rfl (.inl rfl))) (fun _ _ _ _ _ => pts_one (pt_chain op_lt_str op_lt_str (pe_ix ix_str (pv 0) (pv 5) (fun _ _ => rfl)) (pe_ix ix_str (pv 0) (pv 3) (fun _ _ => rfl)) (pe_ix ix_str (pv 0) (pv 4) (fun _ _ => rfl)))) (fun _ _ _ _ _ => (pe_tup (pa_cons (pv 3) (pa_cons (pv 4) (pa_cons (pv 5) pa_nil))))))))))))
    (pss_one (ps_ret (pv 1))))), ?_⟩
  refine ⟨(by show 0 ≤ sizeLine; decide), fun f0 nf0 => ?_⟩
  refine ⟨_, rfl, _, rfl, lz, _, _, rfl, ?_⟩
  have q0 := same_new nf0 (.lst [])
  rw [tx_len]
  refine ⟨_, rfl, _, rfl, by omega, by omega, ?_⟩
  rw [Int.toNat_natCast]
  refine for_range (lo := 0) (n := zs.length) (fun p σ H' => ∃ (fa : Addr) (us : List V) (o3 o4 : Option V), σ = [some (vt zs), some (.ref fa), some (.int (zs.length : Int)), o3, o4, none] ∧ Same H H' ∧ H' fa = some (.lst us) ∧ TrAt H' us (lb0 zs p) ∧ (lb0 zs p).length ≤ 900 * p) ⟨f0, [], _, _, rfl, q0, upd_same, .nil, Nat.le_refl _⟩ (fun p σ H1 hp hv => ?_) (fun σ H1 hv => ?_)
  · obtain ⟨fa, us, o3, o4, rfl, s1, ef, tr, tl⟩ := hv
    rw [show (0 : Int) + (p : Int) = ((p : Nat) : Int) by omega]
    refine ⟨_, rfl, _, _, rfl, rfl, _, rfl, _, _, rfl, ⟨by omega, by omega, by omega, by omega⟩, ?_⟩
    rw [show ((zs.length : Int) - ((p : Int) + 1)).toNat = zs.length - (p + 1) by omega]
    refine for_range (lo := (p : Int) + 1) (n := zs.length - (p + 1)) (fun j σ H' => ∃ (fa : Addr) (us : List V) (o4 : Option V), σ = [some (vt zs), some (.ref fa), some (.int (zs.length : Int)), some (.int (p : Int)), o4, none] ∧ Same H H' ∧ H' fa = some (.lst us) ∧ TrAt H' us (lb0 zs p ++ lb1 zs p j) ∧ (lb0 zs p ++ lb1 zs p j).length ≤ 900 * p + 30 * j) ⟨fa, us, _, rfl, s1, ef, by rw [show lb1 zs p 0 = [] from rfl, List.append_nil]; exact tr, by rw [show lb1 zs p 0 = [] from rfl, List.append_nil]; omega⟩ (fun j σ H2 hj hv2 => ?_) (fun σ H2 hv2 => ?_)
    · obtain ⟨fb, us2, o4', rfl, s2, ef2, tr2, tl2⟩ := hv2
      rw [show (p : Int) + 1 + (j : Int) = ((p + 1 + j : Nat) : Int) by omega]
      generalize hq : p + 1 + j = qq at *
      refine ⟨_, rfl, _, rfl, _, _, rfl, rfl, _, rfl, _, _, rfl, ⟨by omega, by omega, by omega, by omega⟩, fun D nD => ?_⟩
      rw [show ((zs.length : Int) - ((qq : Int) + 1)).toNat = zs.length - (qq + 1) by omega]
      have k1 := same_new nD (.lst [])
      refine lc_range (lo := (qq : Int) + 1) (n := zs.length - (qq + 1)) (fun n H' => Same H2 H' ∧ ∃ vs : List V, H' D = some (.lst vs) ∧ TrAt H' vs (lb2 zs p qq n)) ⟨k1, [], upd_same, .nil⟩ (fun n H3 hn hv3 => ?_) (fun H3 hv3 => ?_)
      · obtain ⟨sm, vs, ed, trv⟩ := hv3
        have ll := trv.len
        have l2 := lb2_len zs p qq n
        rw [show (qq : Int) + 1 + (n : Int) = ((qq + 1 + n : Nat) : Int) by omega]
        refine ⟨rfl, ?_⟩
        refine ⟨_, rfl, _, rfl, _, _, _, rfl, rfl, lz, sig_at (by omega), _, rfl, _, rfl, _, _, _, rfl, rfl, lz, sig_at (by omega), _, _, rfl, rfl, _, rfl, ?_⟩
        rw [ch_lt]
        have eB := lb2_succ zs p qq n
        have hBarb : Barb zs p qq (qq + 1 + n) = (decide (zs.getD (qq + 1 + n) 0 < zs.getD p 0) && decide (zs.getD p 0 < zs.getD qq 0)) := rfl
        by_cases c1 : zs.getD (qq + 1 + n) 0 < zs.getD p 0
        · rw [decide_eq_true c1] at hBarb ⊢
          refine iteT ⟨_, rfl, _, rfl, _, _, _, rfl, rfl, lz, sig_at (by omega), _, _, rfl, rfl, _, rfl, ?_⟩
          rw [ch_lt]
          by_cases c2 : zs.getD p 0 < zs.getD qq 0
          · rw [decide_eq_true c2] at hBarb ⊢
            rw [hBarb, Bool.and_self, if_pos rfl] at eB
            refine iteT ?_
            refine ⟨_, rfl, _, rfl, _, rfl, (by show 3 ≤ sizeLine; decide), fun t2 nt2 => ?_⟩
            have k2 := same_new nt2 (.tup [.int (p : Int), .int (qq : Int), .int ((qq + 1 + n : Nat) : Int)])
            refine ⟨_, k2 _ _ ed, ?_, fun b' o e => ?_, vs ++ [.ref t2], upd_same, ?_⟩
            · rw [ll]; exact small1000 (by omega)
            · rw [upd_ne (ne_of_none e nD)]; exact k2 _ _ (sm _ _ e)
            · rw [eB]
              have keep : KeepT (upd H3 t2 (.tup [.int (p : Int), .int (qq : Int), .int ((qq + 1 + n : Nat) : Int)])) (upd (upd H3 t2 (.tup [.int (p : Int), .int (qq : Int), .int ((qq + 1 + n : Nat) : Int)])) D (.lst (vs ++ [.ref t2]))) := fun c xs e => by
                rw [upd_ne (ne_of e (k2 _ _ ed) (by intro z; cases z))]; exact e
              exact TrAt.keep keep ((trv.same k2).snoc upd_same)
          · rw [decide_eq_false c2] at hBarb ⊢
            rw [hBarb, Bool.and_false, if_neg Bool.false_ne_true, List.append_nil] at eB
            rw [eB]
            exact iteF ⟨sm, vs, ed, trv⟩
        · rw [decide_eq_false c1] at hBarb ⊢
          rw [hBarb, Bool.false_and, if_neg Bool.false_ne_true, List.append_nil] at eB
          rw [eB]
          exact iteF ⟨_, rfl, iteF ⟨sm, vs, ed, trv⟩⟩
      · obtain ⟨sm, vs, ed, trv⟩ := hv3
        have l1 := tr2.len
        have l2 := trv.len
        have l3 := lb2_len zs p qq (zs.length - (qq + 1))
        refine ⟨fb, D, _, _, rfl, rfl, sm _ _ ef2, ed, ?_, fun g ng => ?_⟩
        · rw [l1, l2]; show _ ≤ 16777216; omega
        have k3 := same_new ng (.lst (us2 ++ vs))
        have eL := lb1_succ zs p j
        rw [hq] at eL
        refine ⟨g, _, _, rfl, (s2.trans sm).trans k3, upd_same, ?_, ?_⟩
        · rw [eL, ← List.append_assoc]
          exact ((tr2.same sm).app trv).same k3
        · rw [eL, ← List.append_assoc, List.length_append]
          omega
    · obtain ⟨fb, us2, o4', rfl, s2, ef2, tr2, tl2⟩ := hv2
      rw [← lb0_succ] at tr2 tl2
      exact ⟨fb, us2, _, _, rfl, s2, ef2, tr2, by omega⟩
  · obtain ⟨fa, us, o3, o4, rfl, s1, ef, tr, tl⟩ := hv
    exact ⟨_, rfl, q fa us H1 s1 ef tr (by omega)⟩
end
/-! ### t[::-1] -/
section
variable {prog : Program} {w : World} {A : Around} {E : Value → Shared → Prop} {s : Shared}
open HT in
theorem back_bounds {sl : Addr} {vl vu vs : Value} {n : Nat} {Q : Int × Int × Nat → Shared → Prop} (hs : s.heap.IsSliceOf sl vl vu vs) (pl : IsPart vl none) (pu : IsPart vu none) (ps : IsPart vs (some (-1)))
    (h : Q ((n : Int) - 1, -1, n) s) : wpAny (model prog w) A (Builtin.Slice.sliceApplied (.ref sl) (pure (n : Int))) Q E s := by
  obtain ⟨ob, isOb, isCl, isDt⟩ := id hs
  unfold Builtin.Slice.sliceApplied Builtin.Slice.sliceFields
  refine wpAny_bind (wpAny_bind (wpAny_field isOb isDt (x := vl) rfl (wpAny_bind (wpAny_field isOb isDt (x := vu) rfl (wpAny_bind (wpAny_field isOb isDt (x := vs) rfl (wpAny_pure ?_)))))))
  refine wpAny_bind (slicePart_ ps ?_)
  show wpAny _ _ (if ((-1 : Int) == 0) = true then _ else _) _ _ s
  rw [if_neg (by decide)]
  refine wpAny_bind (slicePart_ pl (wpAny_bind (slicePart_ pu (wpAny_bind (wpAny_pure ?_)))))
  have e : Builtin.Slice.slicePlaces ((n : Int) - 1) (-1) (-1) = n := by
    unfold Builtin.Slice.slicePlaces
    rw [if_neg (by decide)]
    by_cases h0 : (n : Int) - 1 > -1
    · rw [if_pos h0, show (- -1 : Int) = 1 by decide, Int.ediv_one]
      omega
    · rw [if_neg h0]
      omega
  show wpAny _ _ (pure ((n : Int) - 1, (-1 : Int), Builtin.Slice.slicePlaces ((n : Int) - 1) (-1) (-1))) _ _ s
  rw [e]
  exact wpAny_pure h
theorem fm_congr {α β : Type} {f g : α → Option β} : ∀ (l : List α), (∀ k ∈ l, f k = g k) → l.filterMap f = l.filterMap g
  | [], _ => rfl
  | x :: l, h => by
    rw [List.filterMap_cons, List.filterMap_cons, h x (List.mem_cons_self ..), fm_congr l fun k hk => h k (List.mem_cons_of_mem _ hk)]
theorem back_pick (xs : Array Value) : ((List.range xs.size).filterMap fun (k : Nat) => xs[((xs.size : Int) - 1 + (k : Int) * (-1)).toNat]?).toArray = xs.toList.reverse.toArray := by
  congr 1
  have e1 : ((List.range xs.size).filterMap fun (k : Nat) => xs[((xs.size : Int) - 1 + (k : Int) * (-1)).toNat]?) = ((List.range xs.size).map fun k => xs.size - 1 - k).filterMap (xs[·]?) := by
    rw [List.filterMap_map]
    refine fm_congr _ fun k hk => ?_
    have := List.mem_range.mp hk
    show xs[((xs.size : Int) - 1 + (k : Int) * (-1)).toNat]? = xs[xs.size - 1 - k]?
    rw [show ((xs.size : Int) - 1 + (k : Int) * (-1)).toNat = xs.size - 1 - k by omega]
  rw [e1, PySem.W.krv_range, List.filterMap_reverse, PySem.W.krv_all]
open HT in
theorem getItem_back {t sl : Addr} {items : Array Value} {vl vu vs : Value} {Q : Value → Shared → Prop} (ht : IsTup s.heap t items) (hs : s.heap.IsSliceOf sl vl vu vs) (pl : IsPart vl none) (pu : IsPart vu none) (ps : IsPart vs (some (-1)))
    (h : Q (.ref s.heap.objs.size) { s with heap := s.heap.push { cls := .type "tuple", data := .seq items.toList.reverse.toArray } }) (hsz : items.size ≤ sizeLine) : wpAny (model prog w) A (getItem (.ref t) (.ref sl)) Q E s := by
  obtain ⟨ob, isOb, isCl, isDt⟩ := id hs
  have isSl : s.TypeIs (.ref sl) "slice" := ⟨ob, isOb, isCl⟩
  have fits : sizeOk (.seq items.toList.reverse.toArray) := by
    show items.toList.reverse.toArray.size ≤ sizeLine
    rw [List.size_toArray, List.length_reverse, Array.length_toList]
    exact hsz
  unfold getItem
  refine wpAny_holding ?_
  refine wpAny_bind (wpAny_sequenceKey ht.typeIs (by decide) ?_)
  have body : wpAny (model prog w) A.in1 (Builtin.«tuple.__getitem__» ⟨[.ref t, .ref sl], []⟩) (fun fin s' => ∃ v, fin = Fin.done (Flow.ret v) ∧ Q v s') E s := by
    show wpAny _ _ (Builtin.Tuple.tupleItemsOf (.ref t) >>= _) _ _ s
    refine wpAny_bind (tupleItemsOf_ ht (wpAny_bind (wpAny_typeOf isSl ?_)))
    rw [if_pos (by decide)]
    refine wpAny_bind (back_bounds hs pl pu ps ?_)
    have off : ¬ ((((items.size : Int) - 1) == 0 && (-1 : Int) == 1 && items.size == items.size) = true) := by
      rw [show ((-1 : Int) == 1) = false by decide, Bool.and_false, Bool.false_and]
      exact Bool.false_ne_true
    show wpAny _ _ (if (((items.size : Int) - 1) == 0 && (-1 : Int) == 1 && items.size == items.size) = true then _ else _) _ _ s
    rw [if_neg off, back_pick]
    first
      | exact wpAny_bind (m := Builtin.Tuple.tupleExact _) (wpAny_newObj_type (wpAny_pure ⟨_, rfl, h⟩) fits)
      | exact wpAny_bind (m := Builtin.Tuple.tupleExact _) (wpAny_newObj_type (wpAny_bind (wpAny_pure (wpAny_pure ⟨_, rfl, h⟩))) fits)
      | exact wpAny_bind (wpAny_bind (m := Builtin.Tuple.tupleExact _) (wpAny_newObj_type (wpAny_pure (wpAny_pure ⟨_, rfl, h⟩)) fits))
      | exact wpAny_bind (wpAny_bind (m := Builtin.Tuple.tupleExact _) (wpAny_newObj_type (wpAny_pure ⟨_, rfl, h⟩) fits))
  refine wpAny_bind (wpAny_callSpecial?_slot (name := Str.ofString "__getitem__") ht.typeIs PyProof.Rows.slot_tuple_getitem ?_)
  refine wpAny_call_entry PyProof.Rows.slot_tuple_getitem ht.typeIs entry_tuple_getitem (wpAny_mono body (fun fin s' z => ?_) fun _ _ z => z) (args_tuple_getitem _ _)
  obtain ⟨v, e, q⟩ := z
  exact ⟨v, e, wpAny_pure q⟩
end
/-- t[::-1], t a tuple -/
def tRevT (K : PySem.W.Frag) (te : TE) : TE := fun σ H Q => te σ H fun x H1 => ∃ a xs, x = .ref a ∧ SqT K H1 a xs ∧ ∀ p, H1 p = none → Q (.ref p) (upd H1 p (.tup xs.reverse))
theorem pe_revT {X : Cx} {e : Expr} {te : TE} {k : Nat} {p1 p2 p3 pos : Pos} (he : PE X e te) : PE X (.Subscript e (.Slice none none (some (.UnaryOp .USub (.Constant (.int 1) k p1) p2)) p3) pos) (tRevT X.K te) := by
  constructor
  intro pins s σ H Q I h
  refine Subscript_ (thn (he.run pins s σ H _ I h) ?_)
  rintro v s1 ⟨x, H1, I1, r1, a, xs, rfl, hx, q⟩
  cases r1
  have minus : PO X (some (.UnaryOp .USub (.Constant (.int 1) k p1) p2)) (tPart (tUn (rU fun i => .int (-i)) (tC (.int 1)))) := po_some (pe_un un_neg pe_int)
  refine wpAny_Slice (thn (po_none.run pins s1 σ H1 (fun o H2 => o = none ∧ H2 = H1) I1 ⟨rfl, rfl⟩) ?_)
  rintro vl s2 ⟨l, H2, I2, pl, rfl, rfl⟩
  refine thn (po_none.run pins s2 σ H2 (fun o H3 => o = none ∧ H3 = H2) I2 ⟨rfl, rfl⟩) ?_
  rintro vu s3 ⟨u, H3, I3, pu, rfl, rfl⟩
  refine thn (minus.run pins s3 σ H3 (fun o H4 => o = some (-1) ∧ H4 = H3) I3 ⟨1, rfl, -1, rfl, rfl, rfl⟩) ?_
  rintro vs s4 ⟨o, H4, I4, ps, rfl, rfl⟩
  have J : Inv X pins σ H4 { s4 with heap := s4.heap.push { cls := .type "slice", data := .fields #[vl, vu, vs] } } := I4.kept (t' := s4.toks) fun _ _ z => Heap.get?_push_of_some _ z
  obtain ⟨its, r, ht, hz⟩ := J.tuple hx
  have lens := r.length
  show wpAny (model X.prog X.w) X.A (subscriptTail e (.Slice none none (some (.UnaryOp .USub (.Constant (.int 1) k p1) p2)) p3) (.ref a) (.ref s4.heap.objs.size)) _ X.xe _
  refine tail_any (ops := [.ref a, .ref s4.heap.objs.size]) ht.typeIs (PyProof.Rows.slot_tuple_getitem.lookup) ?_ (by with_unfolding_all rfl)
  refine getItem_back ht (Heap.IsSliceOf.new _ vl vu vs) pl pu ps ?_ (by rw [List.size_toArray]; omega)
  refine ⟨.ref _, _, J.laid (t' := s4.toks) (o := .tup xs.reverse) (fun _ _ z => Heap.get?_push_of_some _ z) (Nat.le_refl _) ?_, rfl, q _ (J.hok.fresh (Nat.le_refl _))⟩
  exact ⟨by rw [List.length_reverse]; exact hz, _, r.reverse, ⟨_, Heap.get?_push_size _ rfl, rfl, _, rfl⟩⟩
/-! ### values of any kind, and how they are shown -/
mutual
inductive DQ (D : Deck) (H : Hp) : V → PyData → Prop
  | non : DQ D H .non .none
  | bl (b : Bool) : DQ D H (.bl b) (.bool b)
  | int (i : Int) : DQ D H (.int i) (.int i)
  | str (x : Str) : DQ D H (.str x) (.str x)
  | lst {a : Addr} {xs : List V} {ds : List PyData} : Off D a → H a = some (.lst xs) → DQAll D H xs ds → DQ D H (.ref a) (.list ds)
  | tup {a : Addr} {xs : List V} {ds : List PyData} : Off D a → H a = some (.tup xs) → DQAll D H xs ds → DQ D H (.ref a) (.tuple ds)
  | emp {a : Addr} : Off D a → H a = some (.dK []) → DQ D H (.ref a) (.dict [])
inductive DQAll (D : Deck) (H : Hp) : List V → List PyData → Prop
  | nil : DQAll D H [] []
  | cons {v : V} {vs : List V} {d : PyData} {ds : List PyData} : DQ D H v d → DQAll D H vs ds → DQAll D H (v :: vs) (d :: ds)
end
mutual
theorem dq_sameD {D : Deck} {H H' : Hp} (s : SameD D H H') : ∀ {v : V} {d : PyData}, DQ D H v d → DQ D H' v d
  | _, _, .non => .non
  | _, _, .bl b => .bl b
  | _, _, .int i => .int i
  | _, _, .str x => .str x
  | _, _, .lst o e a => .lst o (s.at o e) (dqAll_sameD s a)
  | _, _, .tup o e a => .tup o (s.at o e) (dqAll_sameD s a)
  | _, _, .emp o e => .emp o (s.at o e)
theorem dqAll_sameD {D : Deck} {H H' : Hp} (s : SameD D H H') : ∀ {vs : List V} {ds : List PyData}, DQAll D H vs ds → DQAll D H' vs ds
  | _, _, .nil => .nil
  | _, _, .cons h a => .cons (dq_sameD s h) (dqAll_sameD s a)
end
theorem dq_same {D : Deck} {H H' : Hp} (s : Same H H') {v : V} {d : PyData} (h : DQ D H v d) : DQ D H' v d := dq_sameD (SameD.of s) h
theorem dqAll_same {D : Deck} {H H' : Hp} (s : Same H H') {v : List V} {d : List PyData} (h : DQAll D H v d) : DQAll D H' v d := dqAll_sameD (SameD.of s) h
theorem dqAll_len {D : Deck} {H : Hp} : ∀ {vs : List V} {ds : List PyData}, DQAll D H vs ds → vs.length = ds.length
  | _, _, .nil => rfl
  | _, _, .cons _ a => congrArg (· + 1) (dqAll_len a)
theorem dqAll_get {D : Deck} {H : Hp} : ∀ {vs : List V} {ds : List PyData} {i : Nat} {v : V}, DQAll D H vs ds → vs[i]? = some v → ∃ d, ds[i]? = some d ∧ DQ D H v d
  | _, _, _, _, .nil, h => by simp at h
  | _, _, 0, _, .cons h _, e => by
    cases e
    exact ⟨_, rfl, h⟩
  | _, _, i + 1, _, .cons _ a, e => dqAll_get (i := i) a e
theorem dqAll_app {D : Deck} {H : Hp} : ∀ {vs vs' : List V} {ds ds' : List PyData}, DQAll D H vs ds → DQAll D H vs' ds' → DQAll D H (vs ++ vs') (ds ++ ds')
  | _, _, _, _, .nil, h => h
  | _, _, _, _, .cons h a, h' => .cons h (dqAll_app a h')
theorem BAt.dq {D : Deck} {H : Hp} (d : DeckOk H D) {v : V} {t : B} (h : BAt H v t) : DQ D H v t.data := by
  obtain ⟨⟨x1, h1⟩, ⟨x2, h2⟩⟩ := d.lists
  induction h with
  | nil => exact .non
  | node e _ _ i1 i2 => exact .tup ⟨ne_of e h1 (by intro z; cases z), ne_of e h2 (by intro z; cases z)⟩ e (.cons i1 (.cons (.str _) (.cons i2 .nil)))
def okInts : List Int := ((List.range 20).map fun n : Nat => ((n : Int) - 1)) ++ [(10 : Int) ^ 59]
def isAl (c : Nat) : Bool := (decide (65 ≤ c) && decide (c ≤ 90)) || (decide (97 ≤ c) && decide (c ≤ 122))
mutual
def gd : PyData → Bool
  | .none => true
  | .bool _ => true
  | .int i => decide (i ∈ okInts)
  | .str x => decide (x.length ≤ 90) && x.cps.toList.all isAl
  | .list xs => gds xs
  | .tuple xs => gds xs
  | .dict kvs => kvs.isEmpty
def gds : List PyData → Bool
  | [] => true
  | x :: xs => gd x && gds xs
end
mutual
def wt : PyData → Nat
  | .none => 4
  | .bool _ => 5
  | .int _ => 62
  | .str _ => 902
  | .list xs => 3 + wts xs
  | .tuple xs => 3 + wts xs
  | .dict _ => 2
def wts : List PyData → Nat
  | [] => 0
  | x :: xs => wt x + 2 + wts xs
end
theorem isAl_lt {c : Nat} (h : isAl c = true) : c < 128 := by
  unfold isAl at h
  rw [Bool.or_eq_true, Bool.and_eq_true, Bool.and_eq_true, decide_eq_true_eq, decide_eq_true_eq, decide_eq_true_eq, decide_eq_true_eq] at h
  omega
theorem gd_al {x : Str} (h : gd (.str x) = true) : x.length ≤ 90 ∧ ∀ c ∈ x.cps.toList, isAl c = true := by
  simp only [gd, Bool.and_eq_true, decide_eq_true_eq, List.all_eq_true] at h
  exact h
theorem gd_str {x : Str} (h : gd (.str x) = true) : x.length ≤ 90 ∧ ∀ c ∈ x.cps.toList, c < 128 := ⟨(gd_al h).1, fun c hc => isAl_lt ((gd_al h).2 c hc)⟩
theorem reprText_le {x : Str} (h : gd (.str x) = true) : (reprText x).length ≤ 902 := by
  obtain ⟨h1, h2⟩ := gd_str h
  have := StrLaws.reprText_len x (fun c hc => Nat.lt_of_lt_of_le (h2 c hc) (by decide))
  omega
theorem okInts_all : okInts.all (fun i => decide ((Str.ofString (toString i)).length ≤ 62) && decide (i.natAbs.log2 < 1920)) = true := by decide +kernel
theorem int_show {i : Int} (h : gd (.int i) = true) : (Str.ofString (toString i)).length ≤ 62 ∧ i.natAbs.log2 < 1920 := by
  simp only [gd, decide_eq_true_eq] at h
  have := List.all_eq_true.mp okInts_all i h
  rw [Bool.and_eq_true, decide_eq_true_eq, decide_eq_true_eq] at this
  exact this
theorem listText_le (ts : List Str) : (listText ts).length ≤ piled ts + 3 := by
  have h := textFrom_len_le ts 0 "["
  have e : (listText ts).length = (textFrom 0 "[" ts).length + 1 := by
    show (textFrom 0 "[" ts ++ "]").length = _
    rw [strLen_append]
    rfl
  have z : ∀ l : List Str, (l.map (·.length)).sum + 2 * l.length = piled l := by
    intro l
    induction l with
    | nil => rfl
    | cons t l ih =>
      rw [piled_cons, List.map_cons, List.sum_cons, List.length_cons]
      omega
  have z2 := z ts
  have z3 : (("[" : String) : Str).length = 1 := rfl
  omega
mutual
theorem shown_le : ∀ d : PyData, gd d = true → d.shown.length ≤ wt d ∧ d.showable = true
  | .none, _ => by
    simp only [PyData.shown, wt, PyData.showable, and_true]
    decide +kernel
  | .bool b, _ => by
    simp only [PyData.shown, wt, PyData.showable, and_true]
    cases b <;> decide +kernel
  | .int i, h => by
    obtain ⟨h1, h2⟩ := int_show h
    simp only [PyData.shown, wt, PyData.showable, decide_eq_true_eq]
    exact ⟨h1, h2⟩
  | .str x, h => by
    have h1 := reprText_le h
    simp only [PyData.shown, wt, PyData.showable, and_true]
    exact h1
  | .list xs, h => by
    simp only [gd] at h
    obtain ⟨h1, h2⟩ := showns_le xs h
    simp only [PyData.shown, wt, PyData.showable]
    exact ⟨Nat.le_trans (listText_le _) (by omega), h2⟩
  | .tuple xs, h => by
    simp only [gd] at h
    obtain ⟨h1, h2⟩ := showns_le xs h
    simp only [PyData.shown, wt, PyData.showable]
    exact ⟨Nat.le_trans (fmt_text _) (by omega), h2⟩
  | .dict kvs, h => by
    simp only [gd] at h
    cases kvs with
    | nil =>
      simp only [PyData.shown, PyData.shownKv, wt, PyData.showable, PyData.showableKv, and_true]
      decide +kernel
    | cons p r => exact absurd h Bool.false_ne_true
theorem showns_le : ∀ ds : List PyData, gds ds = true → piled (PyData.shownAll ds) ≤ wts ds ∧ PyData.showableAll ds = true
  | [], _ => by
    simp only [PyData.shownAll, wts, PyData.showableAll, and_true]
    exact Nat.le_refl _
  | d :: ds, h => by
    simp only [gds, Bool.and_eq_true] at h
    obtain ⟨h1, h2⟩ := shown_le d h.1
    obtain ⟨h3, h4⟩ := showns_le ds h.2
    simp only [PyData.shownAll, wts, PyData.showableAll, h2, h4, Bool.and_self, and_true]
    rw [piled_cons]
    omega
end
/-! ### repr of such a value -/
section
variable {X : Cx} {pins : List (Addr × Obj)} {σ : L2.St} {H : Hp} {s : Shared} {D : Deck}
theorem obj_lst (I : Inv X pins σ H s) {a : Addr} {xs : List V} (e : H a = some (.lst xs)) : ∃ (its : List Value) (o : Obj) (n : Nat), Vals xs its ∧ s.heap.get? a = some o ∧ o.cls = .type "list" ∧ o.data = .seq its.toArray n := by
  obtain ⟨_, its, n, r, h⟩ := (show ObjOk X.prog X.w H s.heap a (.lst xs) from I.hok a _ e)
  exact ⟨its, _, n, r, h, rfl, rfl⟩
theorem obj_tup (I : Inv X pins σ H s) {a : Addr} {xs : List V} (e : H a = some (.tup xs)) : ∃ (its : List Value) (o : Obj) (n : Nat), Vals xs its ∧ s.heap.get? a = some o ∧ o.cls = .type "tuple" ∧ o.data = .seq its.toArray n := by
  obtain ⟨_, its, r, o, h1, h2, n, h3⟩ := (show ObjOk X.prog X.w H s.heap a (.tup xs) from I.hok a _ e)
  exact ⟨its, o, n, r, h1, h2, h3⟩
theorem obj_emp (I : Inv X pins σ H s) {a : Addr} (e : H a = some (.dK [])) : ∃ (o : Obj) (n : Nat), s.heap.get? a = some o ∧ o.cls = .type "dict" ∧ o.data = .dict #[] n ∧ (a == sysModules) = false := by
  obtain ⟨_, ne, vs, kv, o, es, ep, h1, ex, h2, _, ps, _⟩ := (show ObjOk X.prog X.w H s.heap a (.dK []) from I.hok a _ e)
  cases kv
  have hes : es = #[] := by
    cases hl : es.toList with
    | nil => exact Array.toList_eq_nil_iff.mp hl
    | cons e l =>
      rw [hl] at ps
      cases ps
  subst hes
  exact ⟨o, ep, h1, ex.1, h2, ne⟩
mutual
theorem dq_reads (I : Inv X pins σ H s) : ∀ (d : PyData) (v : V) (u : Value), DQ D H v d → RelV v u → ∃ as, Reads s.heap u d as
  | .none, _, _, h, r => by
    cases h
    cases r
    exact ⟨_, .none⟩
  | .bool b, _, _, h, r => by
    cases h
    cases r
    exact ⟨_, .bool b⟩
  | .int i, _, _, h, r => by
    cases h
    obtain ⟨t, rfl⟩ := r
    exact ⟨_, .int i t⟩
  | .str x, _, _, h, r => by
    cases h
    obtain ⟨t, rfl⟩ := r
    exact ⟨_, .str x t⟩
  | .list ds, _, _, h, r => by
    cases h with
    | lst o e al =>
      cases r
      obtain ⟨its, ob, n, rv, h1, h2, h3⟩ := obj_lst I e
      obtain ⟨as, ra⟩ := dq_readsAll I ds _ its al rv
      exact ⟨_, .list h1 h2 h3 ra⟩
  | .tuple ds, _, _, h, r => by
    cases h with
    | tup o e al =>
      cases r
      obtain ⟨its, ob, n, rv, h1, h2, h3⟩ := obj_tup I e
      obtain ⟨as, ra⟩ := dq_readsAll I ds _ its al rv
      exact ⟨_, .tuple h1 h2 h3 ra⟩
  | .dict kvs, _, _, h, r => by
    cases h with
    | emp o e =>
      cases r
      obtain ⟨ob, n, h1, h2, h3, _⟩ := obj_emp I e
      exact ⟨_, .dict h1 h2 h3 .nil .nil⟩
theorem dq_readsAll (I : Inv X pins σ H s) : ∀ (ds : List PyData) (vs : List V) (us : List Value), DQAll D H vs ds → Vals vs us → ∃ as, ReadsAll s.heap us ds as
  | [], _, _, h, r => by
    cases h
    cases r
    exact ⟨_, .nil⟩
  | d :: ds, _, _, h, r => by
    cases h with
    | cons h1 h2 =>
      cases r with
      | cons r1 r2 =>
        obtain ⟨as, q1⟩ := dq_reads I d _ _ h1 r1
        obtain ⟨bs, q2⟩ := dq_readsAll I ds _ _ h2 r2
        exact ⟨_, .cons q1 q2⟩
end
theorem entries0 {as : List Addr} {h₀ : Heap} {d : Nat} {prog : Program} {w : World} : ReprEntriesK prog w as h₀ d (#[] : Array DictEntry).toList [] := .nil
mutual
theorem dq_repr (I : Inv X pins σ H s) : ∀ (d : PyData) (v : V) (u : Value), DQ D H v d → RelV v u → gd d = true → wt d ≤ 1000000 → ∃ bs, ReadAtMost s.heap d.depth bs ∧ ReprK X.prog X.w bs s.heap d.depth u d.shown
  | .none, _, _, h, r, _, _ => by
    cases h
    cases r
    exact ⟨[], (fun _ z => nomatch z), by simp only [PyData.shown]; exact .of_is ReprIs.none _ _ _⟩
  | .bool b, _, _, h, r, _, _ => by
    cases h
    cases r
    exact ⟨[], (fun _ z => nomatch z), by simp only [PyData.shown]; exact .of_is (ReprIs.bool b) _ _ _⟩
  | .int i, _, _, h, r, g, _ => by
    cases h
    obtain ⟨t, rfl⟩ := r
    exact ⟨[], (fun _ z => nomatch z), by simp only [PyData.shown]; exact .of_is (ReprIs.int t (int_show g).2) _ _ _⟩
  | .str x, _, _, h, r, g, _ => by
    cases h
    obtain ⟨t, rfl⟩ := r
    have hx : (reprText x).length ≤ sizeLine := small (Nat.le_trans (reprText_le g) (by decide))
    exact ⟨[], (fun _ z => nomatch z), by simp only [PyData.shown]; exact .of_is (ReprIs.str x t hx) _ _ _⟩
  | .list ds, _, _, h, r, g, z => by
    have rd := dq_reads I (.list ds) _ _ h r
    cases h with
    | @lst a xs _ o e al =>
      cases r
      simp only [gd] at g
      simp only [wt] at z
      obtain ⟨its, ob, n, rv, h1, h2, h3⟩ := obj_lst I e
      obtain ⟨bs, hb, hk⟩ := dq_reprAll I ds _ its al rv g (by omega)
      obtain ⟨as, rd⟩ := rd
      have hna : a ∉ bs := not_mem_of_deeper rd (by simp only [PyData.depth]; omega) hb
      refine ⟨a :: bs, ReadAtMost.cons rd (by simp only [PyData.depth]; omega) hb, ?_⟩
      simp only [PyData.depth, PyData.shown]
      cases its with
      | nil =>
        cases rv
        cases al
        simp only [PyData.shownAll, listText_nil]
        exact ReprK.listEmpty h1 h2 h3
      | cons y l => exact ReprK.list h1 h2 h3 hna (by simpa using hk.length_eq) (fun i w e => hk.item i w (by simpa using e))
  | .tuple ds, _, _, h, r, g, z => by
    have rd := dq_reads I (.tuple ds) _ _ h r
    cases h with
    | @tup a xs _ o e al =>
      cases r
      simp only [gd] at g
      simp only [wt] at z
      obtain ⟨its, ob, n, rv, h1, h2, h3⟩ := obj_tup I e
      obtain ⟨bs, hb, hk⟩ := dq_reprAll I ds _ its al rv g (by omega)
      obtain ⟨as, rd⟩ := rd
      have hna : a ∉ bs := not_mem_of_deeper rd (by simp only [PyData.depth]; omega) hb
      refine ⟨a :: bs, ReadAtMost.cons rd (by simp only [PyData.depth]; omega) hb, ?_⟩
      simp only [PyData.depth, PyData.shown]
      exact ReprK.tuple h1 h2 h3 hna hk
  | .dict kvs, _, _, h, r, _, _ => by
    have rd := dq_reads I (.dict kvs) _ _ h r
    cases h with
    | @emp a o e =>
      cases r
      obtain ⟨ob, n, h1, h2, h3, hs⟩ := obj_emp I e
      obtain ⟨as, rd⟩ := rd
      refine ⟨[a], ReadAtMost.cons rd (n := 0) (Nat.zero_le _) (fun _ z => nomatch z), ?_⟩
      simp only [PyData.depth, PyData.shown, PyData.shownKv, PyData.depthKv]
      exact ReprK.dict h1 h2 h3 hs (fun z => nomatch z) entries0
theorem dq_reprAll (I : Inv X pins σ H s) : ∀ (ds : List PyData) (vs : List V) (us : List Value), DQAll D H vs ds → Vals vs us → gds ds = true → wts ds ≤ 1000000 → ∃ bs, ReadAtMost s.heap (PyData.depthAll ds) bs ∧ ReprAllK X.prog X.w bs s.heap (PyData.depthAll ds) us (PyData.shownAll ds)
  | [], _, _, h, r, _, _ => by
    cases h
    cases r
    exact ⟨[], (fun _ z => nomatch z), by simp only [PyData.shownAll]; exact .nil⟩
  | d :: ds, _, _, h, r, g, z => by
    cases h with
    | cons h1 h2 =>
      cases r with
      | cons r1 r2 =>
        simp only [gds, Bool.and_eq_true] at g
        simp only [wts] at z
        obtain ⟨b1, hb1, k1⟩ := dq_repr I d _ _ h1 r1 g.1 (by omega)
        obtain ⟨b2, hb2, k2⟩ := dq_reprAll I ds _ _ h2 r2 g.2 (by omega)
        simp only [PyData.depthAll, PyData.shownAll]
        refine ⟨b1 ++ b2, (hb1.mono (Nat.le_max_left _ _)).append (hb2.mono (Nat.le_max_right _ _)), ?_⟩
        refine .cons ((k1.more ?_).level_le (Nat.le_max_left _ _)) (k2.more_le ?_ (Nat.le_max_right _ _))
        · intro b hb
          exact List.mem_append_left _ hb
        · intro b hb
          exact List.mem_append_right _ hb
end
end
theorem call_reprQ {X : Cx} (hg : X.A.guards = some []) (hu : X.A.units + 64 < cLine) : CallR X (.builtin "repr") (fun xs H Q => ∃ (v : V) (D : Deck) (d : PyData), xs = [v] ∧ DQ D H v d ∧ gd d = true ∧ wt d ≤ 1000000 ∧ d.depth ≤ 60 ∧ Q (.str d.shown) H) := by
  intro pins s σ H xs us Q I r h
  obtain ⟨v, D, d, rfl, hd, g, z, hz, q⟩ := h
  obtain ⟨u, rfl, rx⟩ := vals1 r
  obtain ⟨hl, _⟩ := shown_le d g
  have big : (1000000 : Nat) ≤ sizeLine := by decide
  have fits : d.shown.length ≤ sizeLine := by omega
  have fin : ∀ (h' : Heap) (t : Tok) (tk : Tok), (∀ b o, s.heap.get? b = some o → h'.get? b = some o) → EP X pins σ Q (.str d.shown t) { s with heap := h', toks := tk } := fun h' t tk hk => ⟨.str d.shown, H, I.kept (t' := tk) hk, ⟨t, rfl⟩, q⟩
  have nil0 : ∀ b ∈ ([] : List Addr), True := fun _ _ => trivial
  have key := dq_repr I d v u hd rx g z
  have rds := dq_reads I d v u hd rx
  cases hd with
  | non =>
    cases rx
    simp only [PyData.shown] at fin
    exact PySem.P.repr_of_none (fin s.heap _ _ fun _ _ e => e)
  | bl b =>
    cases rx
    simp only [PyData.shown] at fin
    exact PySem.P.repr_of_bool (fin s.heap _ _ fun _ _ e => e)
  | int i =>
    obtain ⟨t, rfl⟩ := rx
    simp only [PyData.shown] at fin
    exact PySem.P.repr_of_int (int_show g).2 (fin s.heap _ _ fun _ _ e => e)
  | str x =>
    obtain ⟨t, rfl⟩ := rx
    simp only [PyData.shown] at fin fits
    exact PySem.P.repr_of_str (fin s.heap _ _ fun _ _ e => e) fits
  | @lst a xs ds o e al =>
    cases rx
    simp only [gd] at g
    simp only [wt] at z
    simp only [PyData.shown] at fin fits
    simp only [PyData.depth] at hz
    obtain ⟨its, ob, n, rv, h1, h2, h3⟩ := obj_lst I e
    obtain ⟨bs, hb, hk⟩ := dq_reprAll I ds _ its al rv g (by omega)
    obtain ⟨as, rd⟩ := rds
    have hna : a ∉ bs := not_mem_of_deeper rd (by simp only [PyData.depth]; omega) hb
    refine call_repr_slot (by omega) ⟨ob, h1, h2⟩ F.slot_list_repr.toG ?_
    cases its with
    | nil =>
      cases rv
      cases al
      simp only [PyData.shownAll, listText_nil] at fin
      exact call_list_repr_empty ⟨ob, h1, h2⟩ h1 h3 ⟨_, _, rfl, fin s.heap _ _ fun _ _ e => e⟩
    | cons y l => exact call_list_reprK h1 h2 h3 hna (by simpa using hk.length_eq) (fun i w e => hk.item i w (by simpa using e)) hg (fun b _ => Clear.nil b) (by show X.A.units + 1 + (PyData.depthAll ds + 1) < cLine; omega) (fun _ _ e => e) (fun h' u tk hk => ⟨_, _, rfl, fin h' u tk hk⟩) fits
  | @tup a xs ds o e al =>
    cases rx
    simp only [gd] at g
    simp only [wt] at z
    simp only [PyData.shown] at fin fits
    simp only [PyData.depth] at hz
    obtain ⟨its, ob, n, rv, h1, h2, h3⟩ := obj_tup I e
    obtain ⟨bs, hb, hk⟩ := dq_reprAll I ds _ its al rv g (by omega)
    obtain ⟨as, rd⟩ := rds
    have hna : a ∉ bs := not_mem_of_deeper rd (by simp only [PyData.depth]; omega) hb
    refine call_repr_slot (by omega) ⟨ob, h1, h2⟩ F.slot_tuple_repr ?_
    exact call_tuple_reprK h1 h2 h3 hna hk hg (fun b _ => Clear.nil b) (by show X.A.units + 1 + (PyData.depthAll ds + 1) < cLine; omega) (fun _ _ e => e) (fun h' u tk hk => ⟨_, _, rfl, fin h' u tk hk⟩) fits
  | @emp a o e =>
    cases rx
    simp only [PyData.shown, PyData.shownKv] at fin fits
    obtain ⟨ob, n, h1, h2, h3, hs⟩ := obj_emp I e
    refine call_repr_slot (by omega) ⟨ob, h1, h2⟩ F.slot_dict_repr ?_
    exact call_dict_reprK h1 h2 h3 hs (as := []) (fun z => nomatch z) (d := 0) entries0 hg (fun b _ => Clear.nil b) (by show X.A.units + 1 + (0 + 1) < cLine; omega) (fun _ _ e => e) (fun h' u tk hk => ⟨_, _, rfl, fin h' u tk hk⟩) fits
theorem dq_ty {K : PySem.W.Frag} {D : Deck} {H : Hp} {v : V} {d : PyData} (h : DQ D H v d) : TyX K H v (.type (tyD d)) := by
  cases h with
  | non => exact .base .non
  | bl b => exact .base (.bl b)
  | int i => exact .base (.int i)
  | str x => exact .base (.str x)
  | lst _ e _ => exact .base (.lst e)
  | tup _ e _ => exact .base (.tup e)
  | emp _ e => exact .base (.dK e)
def isStrD : PyData → Bool
  | .str _ => true
  | _ => false
def isTupD : PyData → Bool
  | .tuple _ => true
  | _ => false
theorem kit_str (d : PyData) : kitB (tyD d) "str" = some (isStrD d) := by
  cases d <;> (simp only [tyD, isStrD]; decide +kernel)
theorem kit_tup (d : PyData) : kitB (tyD d) "tuple" = some (isTupD d) := by
  cases d <;> (simp only [tyD, isTupD]; decide +kernel)
theorem isStr_of {d : PyData} (h : isStrD d = true) : ∃ x, d = .str x := by
  cases d <;> first | exact ⟨_, rfl⟩ | exact absurd h Bool.false_ne_true
theorem gds_app : ∀ {a b : List PyData}, gds (a ++ b) = (gds a && gds b)
  | [], b => by simp only [List.nil_append, gds, Bool.true_and]
  | d :: a, b => by
    have h := gds_app (a := a) (b := b)
    simp only [List.cons_append, gds, h, Bool.and_assoc]
/-! ### t != () -/
theorem op_neE {X : Cx} (hu : X.A.units < cLine) : OpR X (compareOp .NotEq) (fun x y H Q => ∃ a b xs, x = .ref a ∧ y = .ref b ∧ SqT X.K H a xs ∧ SqT X.K H b [] ∧ Q (.bl (!xs.isEmpty)) H) := by
  intro pins s σ H x y v u Q I rx ry h
  obtain ⟨a, b, xs, rfl, rfl, hx, hy, q⟩ := h
  cases rx
  cases ry
  obtain ⟨its, r1, t1, _⟩ := I.tuple hx
  obtain ⟨its2, r2, t2, _⟩ := I.tuple hy
  cases r2
  have rc := SeqAt.RcNeAt.tuples (A := X.A) (s := s) (items := its.toArray) (items2 := ([] : List Value).toArray) (e := fun _ => true) t1 t2 hu (fun j _ h2 => absurd h2 (by simp))
  refine rc X.prog X.w X.xe _ ?_
  have e : (!((List.range (min its.toArray.size ([] : List Value).toArray.size)).all (fun _ => true) && its.toArray.size == ([] : List Value).toArray.size)) = !xs.isEmpty := by
    cases r1 with
    | nil => rfl
    | cons _ _ => simp
  rw [e]
  exact ⟨.bl _, H, I, rfl, q⟩
theorem cut_whole {xs : List V} {lo hi : Option Int} (h : HT.sIx xs.length 0 lo = 0 ∧ HT.sIx xs.length xs.length hi = xs.length) : cutV xs lo hi = xs := by
  unfold cutV
  rw [h.1, h.2, List.drop_zero, Nat.sub_zero, List.take_length]
theorem slA_of {K : PySem.W.Frag} {D : Deck} {H : Hp} (dk : DeckOk H D) {a : Addr} {xs : List V} {lo hi : Option Int} {Q : VK} (hx : H a = some (.tup xs)) (oa : Off D a)
    (q : ∀ (p : Addr) (H' : Hp), Same H H' → H' p = some (.tup (cutV xs lo hi)) → Off D p → Q (.ref p) H') : rSlA K (.ref a) lo hi H Q :=
  ⟨a, xs, rfl, SqT.of hx, fun hw => q a H (Same.refl H) (by rw [cut_whole hw]; exact hx) oa, fun _ p np => q p _ (same_new np _) upd_same (dk.new np)⟩
theorem catA_of {K : PySem.W.Frag} {D : Deck} {H : Hp} (dk : DeckOk H D) {a b : Addr} {xs ys : List V} {Q : VK} (hx : H a = some (.tup xs)) (oa : Off D a) (hy : H b = some (.tup ys)) (ob : Off D b) (hz : xs.length + ys.length ≤ sizeLine)
    (q : ∀ (p : Addr) (H' : Hp), Same H H' → H' p = some (.tup (xs ++ ys)) → Off D p → Q (.ref p) H') : rCatA K (.ref a) (.ref b) H Q :=
  ⟨a, b, xs, ys, rfl, rfl, SqT.of hx, SqT.of hy, hz, fun e => q b H (Same.refl H) (by rw [e]; exact hy) ob, fun _ e => q a H (Same.refl H) (by rw [e, List.append_nil]; exact hx) oa, fun _ _ p np => q p _ (same_new np _) upd_same (dk.new np)⟩
/-! ### weights of changed tuples -/
theorem wts_app : ∀ a b : List PyData, wts (a ++ b) = wts a + wts b
  | [], b => by simp only [List.nil_append, wts, Nat.zero_add]
  | d :: a, b => by
    have h := wts_app a b
    simp only [List.cons_append, wts, h]
    omega
theorem wts_take : ∀ (a : List PyData) (k : Nat), wts (a.take k) + wts (a.drop k) = wts a := fun a k => by
  rw [← wts_app, List.take_append_drop]
theorem depthAll_app : ∀ a b : List PyData, PyData.depthAll (a ++ b) = max (PyData.depthAll a) (PyData.depthAll b)
  | [], b => by simp only [List.nil_append, PyData.depthAll]; omega
  | d :: a, b => by
    have h := depthAll_app a b
    simp only [List.cons_append, PyData.depthAll, h]
    omega
theorem depthAll_parts (a : List PyData) (k : Nat) : PyData.depthAll (a.take k) ≤ PyData.depthAll a ∧ PyData.depthAll (a.drop k) ≤ PyData.depthAll a := by
  have h := depthAll_app (a.take k) (a.drop k)
  rw [List.take_append_drop] at h
  omega
theorem gds_parts {a : List PyData} (k : Nat) (h : gds a = true) : gds (a.take k) = true ∧ gds (a.drop k) = true := by
  rw [← List.take_append_drop k a, gds_app, Bool.and_eq_true] at h
  exact h
theorem rev_ok : ∀ a : List PyData, wts a.reverse = wts a ∧ PyData.depthAll a.reverse = PyData.depthAll a ∧ gds a.reverse = gds a
  | [] => ⟨rfl, rfl, rfl⟩
  | d :: a => by
    obtain ⟨h1, h2, h3⟩ := rev_ok a
    rw [List.reverse_cons, wts_app, depthAll_app, gds_app, h1, h2, h3]
    simp only [wts, PyData.depthAll, gds, Bool.and_true]
    refine ⟨by omega, by omega, Bool.and_comm _ _⟩
theorem wts_len : ∀ a : List PyData, 2 * a.length ≤ wts a
  | [] => Nat.zero_le _
  | d :: a => by
    have h := wts_len a
    simp only [wts, List.length_cons]
    omega
theorem dqAll_take {D : Deck} {H : Hp} : ∀ {vs : List V} {ds : List PyData} (k : Nat), DQAll D H vs ds → DQAll D H (vs.take k) (ds.take k) ∧ DQAll D H (vs.drop k) (ds.drop k)
  | _, _, 0, h => ⟨.nil, h⟩
  | _, _, _ + 1, .nil => ⟨.nil, .nil⟩
  | _, _, k + 1, .cons h a => ⟨.cons h (dqAll_take k a).1, (dqAll_take k a).2⟩
theorem dqAll_rev {D : Deck} {H : Hp} : ∀ {vs : List V} {ds : List PyData}, DQAll D H vs ds → DQAll D H vs.reverse ds.reverse
  | _, _, .nil => .nil
  | _, _, .cons h a => by
    rw [List.reverse_cons, List.reverse_cons]
    exact dqAll_app (dqAll_rev a) (.cons h .nil)
theorem wt_get : ∀ {ds : List PyData} {i : Nat} {d : PyData}, ds[i]? = some d → wt d + 2 + wts (ds.take i) + wts (ds.drop (i + 1)) = wts ds
  | [], _, _, h => by simp at h
  | x :: xs, 0, _, h => by
    cases h
    simp only [List.take_zero, wts, List.drop_succ_cons, List.drop_zero, Nat.add_zero]
  | x :: xs, i + 1, d, h => by
    have := wt_get (ds := xs) (i := i) h
    simp only [List.take_succ_cons, wts, List.drop_succ_cons]
    omega
theorem gd_get : ∀ {ds : List PyData} {i : Nat} {d : PyData}, ds[i]? = some d → gds ds = true → gd d = true
  | [], _, _, h, _ => by simp at h
  | x :: xs, 0, _, h, k => by
    cases h
    simp only [gds, Bool.and_eq_true] at k
    exact k.1
  | x :: xs, i + 1, d, h, k => by
    simp only [gds, Bool.and_eq_true] at k
    exact gd_get (ds := xs) (i := i) h k.2
/-! ### is_letter, is_node -/
def isL : PyData → Bool
  | .str x => decide (x.length = 1) && (!decide (x.cps.toList < [97]) && !decide ([122] < x.cps.toList))
  | _ => false
def isN : PyData → Bool
  | .tuple [_, m, _] => isL m
  | _ => false
def spAsk (f : PyData → Bool) : Sp := fun vs H Q _ => ∃ (v : V) (D : Deck) (d : PyData), vs = [v] ∧ DQ D H v d ∧ gd d = true ∧ Q (.bl (f d)) H
section
variable {P : Program} {w : World} {K : PySem.W.Frag} {mg : Str → Option Value} {base : Heap} {f fL : Addr} {fd fdL : FuncData}
theorem ok_letter {k : Nat} (F : Fun K "is_letter" "is_letter" s_is_letter f fd) (M : Mgs mg) : FnOk P w K mg base CX0 (k + 1) f fd ["value"] (spAsk isL) := by
  refine F.ok sc_is_letter (fun vs H Q E h => ?_) (fun cdv A outer s H vs Q E hr h => ?_)
  · obtain ⟨v, D, d, rfl, _⟩ := h
    rfl
  obtain ⟨v, D, d, rfl, hd, g, q⟩ := h
  refine ⟨_, (pss_one (ps_ret (pe_and (pe_callB call_isi rfl M.isinstance (by decide +kernel) (pa_cons (pv 0) (pa_cons (pe_bltn (v := .ty "str") rfl M.str (by decide +kernel) rfl) pa_nil))) (pe_and (pe_cmpR op_eq (pe_callB call_len_str rfl M.len PySem.boot_len (pa_cons (pv 0) pa_nil)) pe_int (nomark _)) (pe_one (pe_chain op_le_str op_le_str pe_str (pv 0) pe_str)))))), ?_⟩
  refine ⟨_, rfl, _, _, _, _, isStrD d, rfl, .ty _, dq_ty hd, kit_ty (kit_str d), _, rfl, ?_⟩
  cases hd with
  | str x =>
    refine iteT ?_
    obtain ⟨h1, _⟩ := gd_str g
    refine ⟨_, rfl, x, rfl, small (by omega), rfl, _, rfl, ite2 (fun e => ?_) (fun e => ?_)⟩
    · have e1 : (x.length : Int) = 1 := V.int.inj (of_decide_eq_true e)
      have e2 : decide (x.length = 1) = true := decide_eq_true (by omega)
      have qe : isL (.str x) = (!decide (x.cps.toList < [97]) && !decide ([122] < x.cps.toList)) := by
        show (decide (x.length = 1) && _) = _
        rw [e2, Bool.true_and]
      rw [qe] at q
      refine ⟨_, rfl, _, x, rfl, rfl, _, rfl, ?_⟩
      rw [show (Str.ofString "a").cps.toList = [97] by decide +kernel]
      cases h97 : decide (x.cps.toList < [97]) with
      | true =>
        rw [h97] at q
        exact iteF q
      | false =>
        rw [h97] at q
        refine iteT ⟨x, _, rfl, rfl, ?_⟩
        rw [show (Str.ofString "z").cps.toList = [122] by decide +kernel]
        exact q
    · have e1 : ¬ (x.length : Int) = 1 := fun z => e (decide_eq_true (congrArg V.int z))
      have qe : isL (.str x) = false := by
        show (decide (x.length = 1) && _) = _
        rw [decide_eq_false (by omega), Bool.false_and]
      rw [qe] at q
      exact q
  | non => exact iteF q
  | bl b => exact iteF q
  | int i => exact iteF q
  | lst _ _ _ => exact iteF q
  | tup _ _ _ => exact iteF q
  | emp _ _ => exact iteF q
theorem ok_node {k : Nat} (F : Fun K "is_node" "is_node" s_is_node f fd) (M : Mgs mg) (Dis_letter : Df P w K mg base (k + 1) "is_letter" ["value"] (spAsk isL)) : FnOk P w K mg base CX0 (k + 2) f fd ["value"] (spAsk isN) := by
  refine F.ok sc_is_node (fun vs H Q E h => ?_) (fun cdv A outer s H vs Q E hr h => ?_)
  · obtain ⟨v, D, d, rfl, _⟩ := h
    rfl
  obtain ⟨v, D, d, rfl, hd, g, q⟩ := h
  refine ⟨_, (pss_one (ps_ret (pe_and (pe_callB call_isi rfl M.isinstance (by decide +kernel) (pa_cons (pv 0) (pa_cons (pe_bltn (v := .ty "tuple") rfl M.tuple (by decide +kernel) rfl) pa_nil))) (pe_and (pe_cmpR op_eq (pe_callB call_len_seq rfl M.len PySem.boot_len (pa_cons (pv 0) pa_nil)) pe_int (nomark _)) (pe_one (pe_call Dis_letter.ok (hr.mono (by omega)) rfl Dis_letter.g Dis_letter.kp Dis_letter.b .nil pass0 (pa_cons (pe_ix ix_tup (pv 0) pe_int (fun _ _ => rfl)) pa_nil))))))), ?_⟩
  refine ⟨_, rfl, _, _, _, _, isTupD d, rfl, .ty _, dq_ty hd, kit_ty (kit_tup d), _, rfl, ?_⟩
  cases hd with
  | @tup a xs ds o e al =>
    refine iteT ?_
    have hl := dqAll_len al
    refine ⟨_, rfl, a, xs, rfl, .inr (SqT.of e), rfl, _, rfl, ite2 (fun c => ?_) (fun c => ?_)⟩
    · have c' : (xs.length : Int) = 3 := V.int.inj (of_decide_eq_true c)
      cases al with
      | nil => exact absurd c' (by show ¬ (0 : Int) = 3; omega)
      | cons d1 al =>
      cases al with
      | nil => exact absurd c' (by show ¬ (1 : Int) = 3; omega)
      | cons d2 al =>
      cases al with
      | nil => exact absurd c' (by show ¬ (2 : Int) = 3; omega)
      | cons d3 al =>
      cases al with
      | cons _ _ => exact absurd c' (by simp; omega)
      | nil =>
        simp only [gd, gds, Bool.and_eq_true] at g
        exact ⟨_, rfl, a, _, 1, _, rfl, rfl, SqT.of e, atI_nat (j := 1) rfl, _, D, _, rfl, d2, g.2.1, q⟩
    · have c' : ¬ (xs.length : Int) = 3 := fun z => c (decide_eq_true (congrArg V.int z))
      have e2 : isN (.tuple ds) = false := by
        match ds, hl with
        | [], _ => rfl
        | [_], _ => rfl
        | [_, _], _ => rfl
        | [_, _, _], hl => exact absurd hl (by intro z; exact c' (by rw [z]; rfl))
        | _ :: _ :: _ :: _ :: _, _ => rfl
      rw [e2] at q
      exact q
  | non => exact iteF q
  | bl b => exact iteF q
  | int i => exact iteF q
  | lst _ _ _ => exact iteF q
  | str _ => exact iteF q
  | emp _ _ => exact iteF q
end
/-! ### how many nodes -/
def cntD : PyData → Int
  | .none => 0
  | .tuple [l, m, r] => if isL m = true ∧ 0 ≤ cntD l ∧ 0 ≤ cntD r then cntD l + 1 + cntD r else -1
  | _ => -1
theorem cnt_tup (l m r : PyData) : cntD (.tuple [l, m, r]) = if isL m = true ∧ 0 ≤ cntD l ∧ 0 ≤ cntD r then cntD l + 1 + cntD r else -1 := by
  rw [cntD]
theorem cnt_not {d : PyData} (h : isN d = false) : cntD d ≤ 0 := by
  match d, h with
  | .none, _ => rw [cntD]; exact Int.le_refl _
  | .tuple [l, m, r], h =>
    have h' : isL m = false := h
    rw [cnt_tup, if_neg (by rw [h']; exact fun z => Bool.false_ne_true z.1)]
    decide
  | .tuple [], _ => rw [cntD] <;> first | decide | (intros; simp_all)
  | .tuple [_], _ => rw [cntD] <;> first | decide | (intros; simp_all)
  | .tuple [_, _], _ => rw [cntD] <;> first | decide | (intros; simp_all)
  | .tuple (_ :: _ :: _ :: _ :: _), _ => rw [cntD] <;> first | decide | (intros; simp_all)
  | .bool _, _ => rw [cntD] <;> first | decide | (intros; simp_all)
  | .int _, _ => rw [cntD] <;> first | decide | (intros; simp_all)
  | .str _, _ => rw [cntD] <;> first | decide | (intros; simp_all)
  | .list _, _ => rw [cntD] <;> first | decide | (intros; simp_all)
  | .dict _, _ => rw [cntD] <;> first | decide | (intros; simp_all)
theorem cnt_none : cntD .none = 0 := by rw [cntD]
theorem cnt_pos {d : PyData} (h : d ≠ .none) (h0 : 0 ≤ cntD d) : 0 < cntD d := by
  cases hN : isN d with
  | true =>
    match d, hN with
    | .tuple [l, m, r], _ =>
      rw [cnt_tup] at h0 ⊢
      split
      · rename_i z
        omega
      · rename_i z
        rw [if_neg z] at h0
        exact absurd h0 (by decide)
  | false =>
    have h1 := cnt_not hN
    have h2 : cntD d = 0 := by omega
    exfalso
    match d, hN, h with
    | .none, _, h => exact h rfl
    | .tuple [l, m, r], hN, _ =>
      have h' : isL m = false := hN
      rw [cnt_tup, if_neg (by rw [h']; exact fun z => Bool.false_ne_true z.1)] at h2
      exact absurd h2 (by decide)
    | .tuple [], _, _ => rw [cntD] at h2 <;> first | exact absurd h2 (by decide) | (intros; simp_all)
    | .tuple [_], _, _ => rw [cntD] at h2 <;> first | exact absurd h2 (by decide) | (intros; simp_all)
    | .tuple [_, _], _, _ => rw [cntD] at h2 <;> first | exact absurd h2 (by decide) | (intros; simp_all)
    | .tuple (_ :: _ :: _ :: _ :: _), _, _ => rw [cntD] at h2 <;> first | exact absurd h2 (by decide) | (intros; simp_all)
    | .bool _, _, _ => rw [cntD] at h2 <;> first | exact absurd h2 (by decide) | (intros; simp_all)
    | .int _, _, _ => rw [cntD] at h2 <;> first | exact absurd h2 (by decide) | (intros; simp_all)
    | .str _, _, _ => rw [cntD] at h2 <;> first | exact absurd h2 (by decide) | (intros; simp_all)
    | .list _, _, _ => rw [cntD] at h2 <;> first | exact absurd h2 (by decide) | (intros; simp_all)
    | .dict _, _, _ => rw [cntD] at h2 <;> first | exact absurd h2 (by decide) | (intros; simp_all)
def isT (d : PyData) : Bool := decide (0 < cntD d ∧ cntD d < 13)
/-- all of them are trees, and there are few nodes -/
def okW (ws : List PyData) (c : Nat) : Prop := (∀ d ∈ ws, 0 < cntD d) ∧ (c : Int) + (ws.map cntD).sum ≤ 12
theorem sum_pos : ∀ ws : List PyData, (∀ d ∈ ws, 0 < cntD d) → 0 ≤ (ws.map cntD).sum
  | [], _ => Int.le_refl _
  | d :: ws, h => by
    have h1 := h d (List.mem_cons_self ..)
    have h2 := sum_pos ws fun e he => h e (List.mem_cons_of_mem _ he)
    rw [List.map_cons, List.sum_cons]
    omega
theorem okW_app {ws : List PyData} {p : PyData} {c : Nat} : okW (ws ++ [p]) c ↔ (∀ d ∈ ws, 0 < cntD d) ∧ 0 < cntD p ∧ (c : Int) + (ws.map cntD).sum + cntD p ≤ 12 := by
  unfold okW
  rw [List.map_append, List.sum_append]
  constructor
  · rintro ⟨h1, h2⟩
    have h2' : (c : Int) + ((ws.map cntD).sum + (cntD p + 0)) ≤ 12 := h2
    exact ⟨fun d hd => h1 d (List.mem_append_left _ hd), h1 p (List.mem_append_right _ (List.mem_singleton.mpr rfl)), by omega⟩
  · rintro ⟨h1, h2, h3⟩
    refine ⟨fun d hd => ?_, ?_⟩
    · rcases List.mem_append.mp hd with z | z
      · exact h1 d z
      · rw [List.mem_singleton.mp z]
        exact h2
    · show (c : Int) + ((ws.map cntD).sum + (cntD p + 0)) ≤ 12
      omega
def keepD : PyData → List PyData
  | .none => []
  | d => [d]
theorem keepD_or (d : PyData) : (d = .none ∧ keepD d = []) ∨ (d ≠ .none ∧ keepD d = [d]) := by
  cases d <;> first | exact .inl ⟨rfl, rfl⟩ | exact .inr ⟨by simp, rfl⟩
theorem okW_node {ws : List PyData} {l m r : PyData} {c : Nat} (hm : isL m = true) : okW (ws ++ (keepD l ++ keepD r)) (c + 1) ↔ okW (ws ++ [.tuple [l, m, r]]) c := by
  rw [okW_app, cnt_tup]
  have side : ∀ x : PyData, (∀ d ∈ keepD x, 0 < cntD d) ↔ 0 ≤ cntD x := by
    intro x
    rcases keepD_or x with ⟨rfl, e⟩ | ⟨hx, e⟩
    · rw [e, cnt_none]
      exact ⟨fun _ => Int.le_refl _, fun _ d hd => nomatch hd⟩
    · rw [e]
      exact ⟨fun h => Int.le_of_lt (h x (List.mem_singleton.mpr rfl)), fun h d hd => by rw [List.mem_singleton.mp hd]; exact cnt_pos hx h⟩
  have sums : ∀ x : PyData, ((keepD x).map cntD).sum = cntD x := by
    intro x
    rcases keepD_or x with ⟨rfl, e⟩ | ⟨hx, e⟩
    · rw [e, cnt_none]
      rfl
    · rw [e]
      show cntD x + 0 = cntD x
      omega
  unfold okW
  rw [List.map_append, List.sum_append, List.map_append, List.sum_append, sums, sums]
  constructor
  · rintro ⟨h1, h2⟩
    have hl := (side l).mp fun d hd => h1 d (List.mem_append_right _ (List.mem_append_left _ hd))
    have hr := (side r).mp fun d hd => h1 d (List.mem_append_right _ (List.mem_append_right _ hd))
    rw [if_pos ⟨hm, hl, hr⟩]
    exact ⟨fun d hd => h1 d (List.mem_append_left _ hd), by omega, by omega⟩
  · rintro ⟨h1, h2, h3⟩
    by_cases z : isL m = true ∧ 0 ≤ cntD l ∧ 0 ≤ cntD r
    · rw [if_pos z] at h2 h3
      refine ⟨fun d hd => ?_, by omega⟩
      rcases List.mem_append.mp hd with y | y
      · exact h1 d y
      · rcases List.mem_append.mp y with y | y
        · exact (side l).mpr z.2.1 d y
        · exact (side r).mpr z.2.2 d y
    · rw [if_neg z] at h2
      exact absurd h2 (by decide)
/-! ### is_tree -/
def spIsTree : Sp := fun vs H Q _ => ∃ (v : V) (D : Deck) (d : PyData), vs = [v] ∧ DQ D H v d ∧ gd d = true ∧ ∀ H', Same H H' → Q (.bl (isT d)) H'
def keepV : V → List V
  | .non => []
  | v => [v]
theorem keep_step {xs : List V} {j : Nat} {x : V} (h : xs[j]? = some x) : (xs.take (j + 1)).flatMap keepV = (xs.take j).flatMap keepV ++ keepV x := by
  rw [List.take_add_one, h, List.flatMap_append]
  congr 1
  show keepV x ++ [] = keepV x
  rw [List.append_nil]
theorem keep_len : ∀ xs : List V, (xs.flatMap keepV).length ≤ xs.length
  | [] => Nat.le_refl _
  | x :: xs => by
    have h := keep_len xs
    have h1 : (keepV x).length ≤ 1 := by cases x <;> first | exact Nat.zero_le _ | exact Nat.le_refl _
    rw [List.flatMap_cons, List.length_append, List.length_cons]
    omega
theorem dq_keep {D : Deck} {H : Hp} {v : V} {d : PyData} (h : DQ D H v d) : DQAll D H (keepV v) (keepD d) := by
  cases h with
  | non => exact .nil
  | bl b => exact .cons (.bl b) .nil
  | int i => exact .cons (.int i) .nil
  | str x => exact .cons (.str x) .nil
  | lst o e a => exact .cons (.lst o e a) .nil
  | tup o e a => exact .cons (.tup o e a) .nil
  | emp o e => exact .cons (.emp o e) .nil
theorem gds_keep {d : PyData} (h : gd d = true) : gds (keepD d) = true := by
  rcases keepD_or d with ⟨_, e⟩ | ⟨_, e⟩
  · rw [e]; simp only [gds]
  · rw [e]; simp only [gds, h, Bool.and_self]
theorem dqAll_last {D : Deck} {H : Hp} {vs : List V} {ds : List PyData} (h : DQAll D H vs ds) (hne : vs ≠ []) : ∃ v d ds', vs[vs.length - 1]? = some v ∧ ds = ds' ++ [d] ∧ DQ D H v d ∧ DQAll D H vs.dropLast ds' := by
  match vs, ds, h with
  | [], _, _ => exact absurd rfl hne
  | [v], _, .cons h1 .nil => exact ⟨v, _, [], rfl, rfl, h1, .nil⟩
  | v :: w :: vs, _, .cons (d := d) h1 h2 =>
    obtain ⟨x, e, ds', a1, a2, a3, a4⟩ := dqAll_last h2 (by simp)
    refine ⟨x, e, d :: ds', ?_, by rw [a2]; rfl, a3, .cons h1 a4⟩
    show (w :: vs)[(w :: vs).length - 1]? = some x
    exact a1
def toGo (σ : L2.St) : Nat := match σ[1]? with
  | some (some (V.int c)) => (13 - c).toNat
  | _ => 0
section
variable {P : Program} {w : World} {K : PySem.W.Frag} {mg : Str → Option Value} {base : Heap} {f fN : Addr} {fd fdN : FuncData}
theorem ok_isTree {tM : Tok} (F : Fun K "is_tree" "is_tree" s_is_tree f fd) (mMAX : mg "MAX_NODES" = some (.int 12 tM)) (Dis_node : Df P w K mg base 2 "is_node" ["value"] (spAsk isN)) : FnOk P w K mg base CX0 3 f fd ["value"] spIsTree := by
  refine F.ok sc_is_tree (fun vs H Q E h => ?_) (fun cdv A outer s H vs Q E hr h => ?_)
  · obtain ⟨v, D, d, rfl, _⟩ := h
    rfl
  obtain ⟨v, D, d, rfl, hd, g, q⟩ := h
  refine ⟨_, (pss_cons (ps_set (i := 1) sc_is_tree.nd rfl (.inl rfl) pe_int)
    (pss_cons (ps_set (i := 2) sc_is_tree.nd rfl (.inl rfl) (pe_lst (pa_cons (pv 0) pa_nil)))
    (pss_cons (ps_while PassesOwn.never (pt_truth (pv 2) (by intro _; rfl))
      (pss_cons (ps_set (i := 3) sc_is_tree.nd rfl (.inl rfl) (pe_bm0 PySem.F.plainAttrs_list PySem.F.slot_list_pop PySem.F.type_list_pop mt_pop (pv 2)))
    (pss_cons (ps_aug (i := 1) sc_is_tree.nd rfl (.inl rfl) pe_int ip_add)
    (pss_cons (ps_if (PW.pt (pw_or (pt_cmpR op_gt (pv 1) (pe_glob (v := .int _) rfl mMAX ⟨_, rfl⟩) (nomark _)) (pw_or1 (pt_not (pt_val (pe_call Dis_node.ok (hr.mono (by omega)) rfl Dis_node.g Dis_node.kp Dis_node.b .nil pass0 (pa_cons (pv 3) pa_nil)))))))
      (pss_one (ps_ret pe_bl)) pss_nil)
    (pss_one (ps_expr (pe_bm PySem.F.plainAttrs_list PySem.F.slot_list_extend PySem.F.type_list_extend mt_extend (pv 2) (pa_cons (pe_lc (own := [("side", 4)]) (g := gName 4) rfl sc_is_tree.nd (pi_tup (pe_tup (pa_cons (pe_ix ix_tup (pv 3) pe_int (fun _ _ => rfl)) (pa_cons (pe_ix ix_tup (pv 3) pe_int (fun _ _ => rfl)) pa_nil)))) (blkOk_by (N := ["value", "count", "waiting", "part", "side"]) (sc := defScope s_is_tree) (by decide +kernel)) (fun _ _ _ _ _ => (pg_name (i := 4) sc_is_tree.nd rfl (.inl rfl))) (fun _ _ _ _ _ => pts_one (pt_cmpR op_notN (pv 4) pe_non (nomark _))) (fun _ _ _ _ _ => (pv 4))) pa_nil))))))))
    (pss_one (ps_ret pe_bl))))), ?_⟩
  refine ⟨_, rfl, (by show 1 ≤ sizeLine; decide), fun wa nw => ?_⟩
  have q0 := same_new nw (.lst [v])
  refine while_by (c := fun σ H' Q' => tVar 2 σ H' fun x H2 => ∃ k, TruV K x H2 k ∧ Q' k H2) (fun σ H' => ∃ (c : Nat) (y3 : Option V) (ws : List V) (ds : List PyData), σ = [some v, some (.int (c : Int)), some (.ref wa), y3, none] ∧ Same H H' ∧ H' wa = some (.lst ws) ∧ DQAll D H ws ds ∧ gds ds = true ∧ c ≤ 12 ∧ ws.length ≤ 2 * c + 1 ∧ (isT d = true ↔ okW ds c))
    (fun σ _ => toGo σ)
    ?_ (fun σ H' hp => ?_) ?_
  · refine ⟨0, none, [v], [d], rfl, q0, upd_same, .cons hd .nil, by simp only [gds, g, Bool.and_self], by omega, by show 1 ≤ 1; omega, ?_⟩
    unfold isT okW
    rw [decide_eq_true_eq]
    constructor
    · rintro ⟨h1, h2⟩
      refine ⟨fun e he => by rw [List.mem_singleton.mp he]; exact h1, ?_⟩
      show ((0 : Nat) : Int) + (cntD d + 0) ≤ 12
      omega
    · rintro ⟨h1, h2⟩
      have h3 := h1 d (List.mem_singleton.mpr rfl)
      have h2' : ((0 : Nat) : Int) + (cntD d + 0) ≤ 12 := h2
      exact ⟨h3, by omega⟩
  · obtain ⟨c, y3, ws, ds, rfl, sm, ew, al, gw, hc, hl, hT⟩ := hp
    refine ⟨_, rfl, !ws.isEmpty, .inl ⟨ws, SqL.of ew, rfl⟩, ?_⟩
    cases ws with
    | nil =>
      refine iteF ?_
      cases al
      have t : isT d = true := hT.mpr ⟨(fun _ z => nomatch z), (by show (c : Int) + 0 ≤ 12; omega)⟩
      have := q H' sm
      rw [t] at this
      exact this
    | cons w0 ws0 =>
      refine iteT ?_
      obtain ⟨p, dp, ds', ep, rfl, hp, al'⟩ := dqAll_last al (by simp)
      rw [gds_app, Bool.and_eq_true] at gw
      have gp : gd dp = true := by
        have := gw.2
        simp only [gds, Bool.and_true] at this
        exact this
      refine ⟨.ref wa, rfl, .inl ⟨rfl, _, SqL.of ew⟩, wa, _, p, rfl, rfl, ew, ep, ?_⟩
      refine ⟨_, rfl, _, _, rfl, rfl, ?_⟩
      have sm2 : Same H (upd H' wa (.lst (w0 :: ws0).dropLast)) := fun b o z => by
        rw [upd_ne (ne_of_none z nw)]
        exact sm _ _ z
      have ew2 : (upd H' wa (.lst (w0 :: ws0).dropLast)) wa = some (.lst (w0 :: ws0).dropLast) := upd_same
      generalize upd H' wa (.lst (w0 :: ws0).dropLast) = H2 at sm2 ew2 ⊢
      refine ⟨_, rfl, _, _, rfl, rfl, _, rfl, ite2 (fun e => ?_) (fun e => ?_)⟩
      · have e' : (c : Int) + 1 > 12 := of_decide_eq_true e
        have t : isT d = false := by
          rw [Bool.eq_false_iff]
          intro z
          obtain ⟨h1, h2, h3⟩ := okW_app.mp (hT.mp z)
          have := sum_pos ds' h1
          omega
        have := q H2 sm2
        rw [t] at this
        exact iteT this
      · have e' : ¬ (c : Int) + 1 > 12 := of_decide_eq_false (Bool.eq_false_iff.mpr e)
        refine ⟨_, rfl, p, D, dp, rfl, dq_same sm2 hp, gp, _, rfl, ?_⟩
        cases hN : isN dp with
        | false =>
          refine iteT ?_
          have t : isT d = false := by
            rw [Bool.eq_false_iff]
            intro z
            obtain ⟨h1, h2, h3⟩ := okW_app.mp (hT.mp z)
            have := cnt_not hN
            omega
          have := q H2 sm2
          rw [t] at this
          exact this
        | true =>
          refine iteF ?_
          obtain ⟨dl, dm, dr, rfl⟩ : ∃ dl dm dr, dp = .tuple [dl, dm, dr] := by
            match dp, hN with
            | .tuple [l, m, r], _ => exact ⟨l, m, r, rfl⟩
          cases hp with
          | @tup a _ _ o e3 al3 =>
          cases al3 with
          | @cons vl _ _ _ hl' al3 =>
          cases al3 with
          | @cons vm _ _ _ hm' al3 =>
          cases al3 with
          | @cons vr _ _ _ hr' al3 =>
          cases al3 with
          | nil =>
            have hm : isL dm = true := hN
            have e3' := sm2 _ _ e3
            refine ⟨.ref wa, rfl, .inl ⟨rfl, _, SqL.of ew2⟩, _, rfl, a, _, 0, vl, rfl, rfl, SqT.of e3', atI_nat (j := 0) rfl, _, rfl, a, _, 2, vr, rfl, rfl, SqT.of e3', atI_nat (j := 2) rfl, (by show 2 ≤ sizeLine; decide), fun tp ntp => ?_⟩
            have q6 := same_new ntp (.tup [vl, vr])
            refine ⟨tp, rfl, ⟨_, SqT.of upd_same⟩, fun L nL => ?_⟩
            have q7 := same_new nL (.lst [])
            refine lc_tup (K := K) (a := tp) (xs := [vl, vr]) (fun j H'' => Same (upd H2 tp (.tup [vl, vr])) H'' ∧ H'' L = some (.lst ((([vl, vr] : List V).take j).flatMap keepV))) ⟨q7, upd_same⟩ (fun j H'' _ hp => SqT.of (hp.1 _ _ upd_same)) (fun j x H'' hx hp => ?_) (fun H'' hp => ?_)
            · obtain ⟨s7, eL⟩ := hp
              refine ⟨rfl, _, rfl, rfl, _, rfl, ?_⟩
              by_cases hxn : x = .non
              · refine iteNS hxn ⟨s7, ?_⟩
                rw [keep_step hx, hxn]
                show _ = some (HO.lst (_ ++ []))
                rw [List.append_nil]
                exact eL
              · rw [decide_eq_false hxn]
                refine iteT ⟨x, rfl, _, eL, ?_, fun b o z => ?_, ?_⟩
                · have := keep_len (([vl, vr] : List V).take j)
                  have h2 : (([vl, vr] : List V).take j).length ≤ 2 := by rw [List.length_take]; exact Nat.min_le_right _ _
                  exact small1000 (by omega)
                · rw [upd_ne (ne_of_none z nL)]
                  exact s7 _ _ z
                · rw [upd_same, keep_step hx]
                  cases x <;> first | rfl | exact absurd rfl hxn
            · obtain ⟨s7, eL⟩ := hp
              have s8 : Same H2 H'' := q6.trans s7
              have eL' : H'' L = some (.lst (keepV vl ++ keepV vr)) := by
                rw [eL]
                show some (HO.lst (keepV vl ++ (keepV vr ++ []))) = _
                rw [List.append_nil]
              have k1 : (keepV vl).length ≤ 1 := by cases vl <;> first | exact Nat.zero_le _ | exact Nat.le_refl _
              have k2 : (keepV vr).length ≤ 1 := by cases vr <;> first | exact Nat.zero_le _ | exact Nat.le_refl _
              have dl' : (w0 :: ws0).dropLast.length = ws0.length := by rw [List.length_dropLast]; rfl
              have hl2 : ws0.length + 1 ≤ 2 * c + 1 := hl
              refine ⟨wa, L, _, _, rfl, rfl, s8 _ _ ew2, eL', ?_, ?_⟩
              · rw [List.length_append, dl']
                exact small (by omega)
              simp only [gd, gds, Bool.and_true, Bool.and_eq_true] at gp
              refine ⟨⟨c + 1, some (.ref a), _, ds' ++ (keepD dl ++ keepD dr), rfl, fun b o z => ?_, upd_same, dqAll_app al' (dqAll_app (dq_keep hl') (dq_keep hr')), ?_, by omega, ?_, ?_⟩, ?_⟩
              · rw [upd_ne (ne_of_none z nw)]
                exact s8 _ _ (sm2 _ _ z)
              · rw [gds_app, gds_app, gw.1, gds_keep gp.1, gds_keep gp.2.2]
                rfl
              · rw [List.length_append, List.length_append, dl']
                omega
              · exact hT.trans (okW_node hm).symm
              · show (13 - ((c : Int) + 1)).toNat < (13 - (c : Int)).toNat
                omega
  · intro σ H' Q1 Q2 hQ h
    obtain ⟨v', e, k', t, q'⟩ := h
    exact ⟨v', e, k', t, hQ _ _ q'⟩
end
/-! ### is_tagged -/
def isTag : PyData → Bool
  | .tuple [.str _, _] => true
  | _ => false
section
variable {P : Program} {w : World} {K : PySem.W.Frag} {mg : Str → Option Value} {base : Heap} {f : Addr} {fd : FuncData}
theorem ok_tagged {k : Nat} (F : Fun K "is_tagged" "is_tagged" s_is_tagged f fd) (M : Mgs mg) : FnOk P w K mg base CX0 (k + 1) f fd ["value"] (spAsk isTag) := by
  refine F.ok sc_is_tagged (fun vs H Q E h => ?_) (fun cdv A outer s H vs Q E hr h => ?_)
  · obtain ⟨v, D, d, rfl, _⟩ := h
    rfl
  obtain ⟨v, D, d, rfl, hd, g, q⟩ := h
  refine ⟨_, (pss_one (ps_ret (pe_and (pe_callB call_isi rfl M.isinstance (by decide +kernel) (pa_cons (pv 0) (pa_cons (pe_bltn (v := .ty "tuple") rfl M.tuple (by decide +kernel) rfl) pa_nil))) (pe_and (pe_cmpR op_eq (pe_callB call_len_seq rfl M.len PySem.boot_len (pa_cons (pv 0) pa_nil)) pe_int (nomark _)) (pe_one (pe_callB call_isi rfl M.isinstance (by decide +kernel) (pa_cons (pe_ix ix_tup (pv 0) pe_int (fun _ _ => rfl)) (pa_cons (pe_bltn (v := .ty "str") rfl M.str (by decide +kernel) rfl) pa_nil)))))))), ?_⟩
  refine ⟨_, rfl, _, _, _, _, isTupD d, rfl, .ty _, dq_ty hd, kit_ty (kit_tup d), _, rfl, ?_⟩
  cases hd with
  | @tup a xs ds o e al =>
    refine iteT ?_
    have hl := dqAll_len al
    refine ⟨_, rfl, a, xs, rfl, .inr (SqT.of e), rfl, _, rfl, ite2 (fun c => ?_) (fun c => ?_)⟩
    · have c' : (xs.length : Int) = 2 := V.int.inj (of_decide_eq_true c)
      cases al with
      | nil => exact absurd c' (by show ¬ (0 : Int) = 2; omega)
      | cons d1 al =>
      cases al with
      | nil => exact absurd c' (by show ¬ (1 : Int) = 2; omega)
      | cons d2 al =>
      cases al with
      | cons _ _ => exact absurd c' (by simp; omega)
      | nil =>
        rename_i v1 y1 v2 y2
        refine ⟨_, rfl, a, _, 0, _, rfl, rfl, SqT.of e, atI_nat (j := 0) rfl, _, _, _, _, isStrD y1, rfl, .ty _, dq_ty d1, kit_ty (kit_str y1), ?_⟩
        have e2 : isTag (.tuple [y1, y2]) = isStrD y1 := by cases y1 <;> rfl
        rw [e2] at q
        exact q
    · have c' : ¬ (xs.length : Int) = 2 := fun z => c (decide_eq_true (congrArg V.int z))
      have e2 : isTag (.tuple ds) = false := by
        match ds, hl with
        | [], _ => rfl
        | [x], _ => cases x <;> rfl
        | [_, _], hl => exact absurd hl (by intro z; exact c' (by rw [z]; rfl))
        | x :: _ :: _ :: _, _ => cases x <;> rfl
      rw [e2] at q
      exact q
  | non => exact iteF q
  | bl b => exact iteF q
  | int i => exact iteF q
  | lst _ _ _ => exact iteF q
  | str _ => exact iteF q
  | emp _ _ => exact iteF q
end
/-! ### any value == a number -/
section
open PySem.SeqAt
theorem dict_eq_declines_int (l : Addr) (es : Array DictEntry) (n : Nat) (dd : Option Addr) (sl : Array (Option Value)) (b : Int) (u : Tok) :
    Meets (Builtin.«dict.__eq__» ⟨[.ref l, .int b u], []⟩) (fun _ R s => s.heap.get? l = some { cls := .type "dict", dict := dd, data := .dict es n, slots := sl } ∧ R (.ok (.ret .notImplemented)) s) :=
  .of_wp fun prog w A R s h => by obtain ⟨hp, g, d, tk, os⟩ := s; obtain ⟨hl, h⟩ := h; have f1 := F.sub_int_dict; wp_walk using wpAny_loadPart' hl, wpAny_load hl; exact ⟨_, rfl, h⟩
theorem int_eq_declines_dict (b : Int) (u : Tok) (l : Addr) (c : Value) (es : Array DictEntry) (n : Nat) (dd : Option Addr) (sl : Array (Option Value)) :
    Meets (Builtin.«int.__eq__» ⟨[.int b u, .ref l], []⟩) (fun _ R s => s.heap.get? l = some { cls := c, dict := dd, data := .dict es n, slots := sl } ∧ R (.ok (.ret .notImplemented)) s) :=
  .of_wp fun prog w A R s h => by obtain ⟨hp, g, d, tk, os⟩ := s; obtain ⟨hl, h⟩ := h; wp_walk using wpAny_loadPart' hl, wpAny_load hl; exact ⟨_, rfl, h⟩
theorem rc_dict_int {A : Around} {s : Shared} {l : Addr} {o : Obj} {n : Nat} (b : Int) (u : Tok) (ho : s.heap.get? l = some o) (hc : o.cls = .type "dict") (hd : o.data = .dict #[] n) (hu : A.units < cLine) : RcAt A s (.ref l) (.int b u) false := fun prog w E Q h => by
  obtain ⟨cls, dd, data, sl⟩ := o
  simp only at hc hd
  subst hc hd
  exact rc_eq_decline_or (k := false) ⟨_, ho, rfl⟩ (typeIs_int s b u) (by decide) F.sub_int_dict F.slot_dict_eq F.slot_int_eq_refl
    (fun _ hq => call_meets F.slot_dict_eq ⟨_, ho, rfl⟩ F.entry_dict_eq (F.args_dict_eq_2 _ _) (dict_eq_declines_int l #[] n dd sl b u) ⟨ho, hq⟩)
    (fun _ hq => call_meets F.slot_int_eq_refl (typeIs_int s b u) F.entry_int_eq (F.args_int_eq_2 _ _) (int_eq_declines_dict b u l (.type "dict") #[] n dd sl) ⟨ho, hq⟩)
    (fun _ hq => wpAny_of_eq (rfl : isSame (.ref l) (.int b u) = pure false) hq) (.inr hu) h
end
def eqN (i : Int) : PyData → Bool
  | .int j => j == i
  | .bool b => (if b then 1 else 0) == i
  | _ => false
def rEqN : V → V → Hp → VK → Prop := fun x y H Q => ∃ (D : Deck) (d : PyData) (i : Int), y = .int i ∧ DQ D H x d ∧ Q (.bl (eqN i d)) H
theorem op_eqN {X : Cx} (hu : X.A.units < cLine) : OpR X (compareOp .Eq) rEqN := by
  intro pins s σ H x y v u Q I rx ry h
  obtain ⟨D, d, z, rfl, hd, q⟩ := h
  obtain ⟨t, rfl⟩ := ry
  have fin : ∀ {b : Bool}, SeqAt.RcAt X.A s v (.int z t) b → b = eqN z d → wpAny (model X.prog X.w) X.A (compareOp .Eq v (.int z t)) (EP X pins σ Q) X.xe s := fun rc e => rc X.prog X.w X.xe _ ⟨.bl _, H, I, rfl, by rw [e]; exact q⟩
  cases hd with
  | non => cases rx; exact fin (SeqAt.RcAt.none_int _ _) rfl
  | bl b => cases rx; exact fin (SeqAt.RcAt.bool_int _ _ _) rfl
  | int i => obtain ⟨t2, rfl⟩ := rx; exact fin (SeqAt.RcAt.int_int _ _ _ _) rfl
  | str x => obtain ⟨t2, rfl⟩ := rx; exact fin (SeqAt.RcAt.str_int _ _ _ _) rfl
  | lst o e al =>
    cases rx
    obtain ⟨its, ob, n, rv, h1, h2, h3⟩ := obj_lst I e
    exact fin (SeqAt.RcAt.list_int _ _ ⟨ob, h1, h2, n, h3⟩ hu) rfl
  | tup o e al =>
    cases rx
    obtain ⟨its, ob, n, rv, h1, h2, h3⟩ := obj_tup I e
    exact fin (SeqAt.RcAt.tuple_int _ _ ⟨ob, h1, h2, n, h3⟩ hu) rfl
  | emp o e =>
    cases rx
    obtain ⟨ob, n, h1, h2, h3, _⟩ := obj_emp I e
    exact fin (rc_dict_int _ _ h1 h2 h3 hu) rfl
/-! ### trees among the values -/
theorem take_nextG {α : Type} {l : List α} {i : Nat} {c : α} (h : l[i]? = some c) : l.take (i + 1) = l.take i ++ [c] := by
  rw [List.take_add_one, h]; rfl
theorem str_tx (x : Str) : x = tx x.cps.toList := rfl
def ltB (t : B) : Prop := ∀ c ∈ t.pre, 97 ≤ c ∧ c ≤ 122
theorem ltB.l {l r : B} {x : Nat} (h : ltB (.node l x r)) : ltB l := fun c hc => h c (List.mem_cons_of_mem _ (List.mem_append_left _ hc))
theorem ltB.r {l r : B} {x : Nat} (h : ltB (.node l x r)) : ltB r := fun c hc => h c (List.mem_cons_of_mem _ (List.mem_append_right _ hc))
theorem ltB.x {l r : B} {x : Nat} (h : ltB (.node l x r)) : 97 ≤ x ∧ x ≤ 122 := h x List.mem_cons_self
theorem ltB.mk {l r : B} {x : Nat} (hl : ltB l) (hx : 97 ≤ x ∧ x ≤ 122) (hr : ltB r) : ltB (.node l x r) := fun c hc => by
  rcases List.mem_cons.mp hc with rfl | hc
  · exact hx
  · rcases List.mem_append.mp hc with h | h
    · exact hl c h
    · exact hr c h
theorem isL_tx {l : List Nat} : isL (.str (tx l)) = true ↔ ∃ c, l = [c] ∧ 97 ≤ c ∧ c ≤ 122 := by
  have e : isL (.str (tx l)) = (decide (l.length = 1) && (!decide (l < [97]) && !decide ([122] < l))) := rfl
  rw [e, Bool.and_eq_true, Bool.and_eq_true, decide_eq_true_eq, Bool.not_eq_true', Bool.not_eq_true', decide_eq_false_iff_not, decide_eq_false_iff_not]
  constructor
  · rintro ⟨h1, h2, h3⟩
    match l, h1 with
    | [c], _ =>
      simp [List.cons_lt_cons_iff] at h2 h3
      exact ⟨c, rfl, by omega, by omega⟩
  · rintro ⟨c, rfl, h1, h2⟩
    simp [List.cons_lt_cons_iff]
    omega
theorem isL_ch {m : PyData} (h : isL m = true) : ∃ c, m = .str (ch c) ∧ 97 ≤ c ∧ c ≤ 122 := by
  match m, h with
  | .str x, h =>
    rw [str_tx x] at h
    obtain ⟨c, e, h1⟩ := isL_tx.mp h
    exact ⟨c, by rw [str_tx x, e]; rfl, h1⟩
theorem isL_of {c : Nat} (h : 97 ≤ c ∧ c ≤ 122) : isL (.str (ch c)) = true := isL_tx.mpr ⟨c, rfl, h⟩
theorem cnt_data : ∀ {t : B}, ltB t → cntD t.data = (t.size : Int)
  | .nil, _ => cnt_none
  | .node l x r, h => by
    have h1 := cnt_data h.l
    have h2 := cnt_data h.r
    show cntD (.tuple [l.data, .str (ch x), r.data]) = _
    rw [cnt_tup, h1, h2, if_pos ⟨isL_of h.x, by omega, by omega⟩]
    show _ = ((l.size + 1 + r.size : Nat) : Int)
    omega
theorem tree_of {D : Deck} {H : Hp} : ∀ (n : Nat) (d : PyData) (v : V), d.depth < n → DQ D H v d → 0 ≤ cntD d → ∃ t : B, BAt H v t ∧ d = t.data ∧ ltB t
  | 0, _, _, h, _, _ => absurd h (Nat.not_lt_zero _)
  | n + 1, d, v, hn, hd, h0 => by
    by_cases hz : d = .none
    · subst hz
      cases hd
      exact ⟨.nil, .nil, rfl, fun c hc => nomatch hc⟩
    · have hN : isN d = true := by
        cases h : isN d with
        | true => rfl
        | false =>
          have := cnt_pos hz h0
          have := cnt_not h
          omega
      match d, hN, hn, hd, h0 with
      | .tuple [l, m, r], hN, hn, hd, h0 =>
        rw [cnt_tup] at h0
        by_cases z : isL m = true ∧ 0 ≤ cntD l ∧ 0 ≤ cntD r
        · obtain ⟨c, rfl, hc⟩ := isL_ch z.1
          simp only [PyData.depth, PyData.depthAll] at hn
          cases hd with
          | tup o e al =>
            cases al with
            | cons d1 al =>
            cases al with
            | cons d2 al =>
            cases al with
            | cons d3 al =>
            cases al
            cases d2
            obtain ⟨tl, b1, e1, l1⟩ := tree_of n l _ (by omega) d1 z.2.1
            obtain ⟨tr, b3, e3, l3⟩ := tree_of n r _ (by omega) d3 z.2.2
            exact ⟨.node tl c tr, .node e b1 b3, by rw [e1, e3]; rfl, l1.mk hc l3⟩
        · rw [if_neg z] at h0
          exact absurd h0 (by decide)
theorem data_inj : ∀ {t u : B}, t.data = u.data → t = u
  | .nil, .nil, _ => rfl
  | .nil, .node _ _ _, h => by cases h
  | .node _ _ _, .nil, h => by cases h
  | .node l x r, .node l' x' r', h => by
    have h' : PyData.tuple [l.data, .str (ch x), r.data] = .tuple [l'.data, .str (ch x'), r'.data] := h
    simp only [PyData.tuple.injEq, List.cons.injEq, PyData.str.injEq, and_true] at h'
    rw [data_inj h'.1, ch_inj h'.2.1, data_inj h'.2.2]
theorem gds_mem : ∀ {ds : List PyData} {d : PyData}, gds ds = true → d ∈ ds → gd d = true
  | [], _, _, h => nomatch h
  | x :: xs, d, g, h => by
    simp only [gds, Bool.and_eq_true] at g
    rcases List.mem_cons.mp h with rfl | h
    · exact g.1
    · exact gds_mem g.2 h
/-! ### indexes, barriers of any value -/
def ixD (n : Nat) : PyData → Bool
  | .int i => decide (0 ≤ i) && decide (i < (n : Int))
  | _ => false
def wholeD : PyData → Bool
  | .int _ => true
  | _ => false
theorem kit_int (d : PyData) : kitB (tyD d) "int" = some (match d with | .int _ => true | .bool _ => true | _ => false) := by
  cases d <;> (simp only [tyD]; decide +kernel)
theorem kit_bool (d : PyData) : kitB (tyD d) "bool" = some (match d with | .bool _ => true | _ => false) := by
  cases d <;> (simp only [tyD]; decide +kernel)
def spIndexA : Sp := fun vs H Q _ => ∃ (v : V) (D : Deck) (d : PyData) (n : Nat), vs = [v, .int (n : Int)] ∧ DQ D H v d ∧ gd d = true ∧ Q (.bl (ixD n d)) H
/-- asked of an order and any value -/
def spAskZ (C : List Nat → PyData → Prop) : Sp := fun vs H Q _ => ∃ (D : Deck) (zs : List Nat) (v : V) (d : PyData), vs = [vt zs, v] ∧ Lts zs ∧ 0 < zs.length ∧ zs.length ≤ 12 ∧ DQ D H v d ∧ gd d = true ∧ d.depth ≤ 50 ∧ ∀ b H', Same H H' → (b = true ↔ C zs d) → Q (.bl b) H'
def isBarD (zs : List Nat) (d : PyData) : Prop := ∃ l h b : Nat, Barr zs l h b ∧ d = .tuple [.int (l : Int), .int (h : Int), .int (b : Int)]
theorem ix_nat {n : Nat} {d : PyData} (h : ixD n d = true) : ∃ i : Nat, d = .int (i : Int) ∧ i < n := by
  match d, h with
  | .int i, h =>
    have h' : (decide (0 ≤ i) && decide (i < (n : Int))) = true := h
    rw [Bool.and_eq_true, decide_eq_true_eq, decide_eq_true_eq] at h'
    exact ⟨i.toNat, congrArg PyData.int (by omega), by omega⟩
section
variable {P : Program} {w : World} {K : PySem.W.Frag} {mg : Str → Option Value} {base : Heap} {f : Addr} {fd : FuncData}
theorem ok_wholeA {k : Nat} (F : Fun K "is_whole_number" "is_whole_number" s_is_whole_number f fd) (M : Mgs mg) : FnOk P w K mg base CX0 (k + 1) f fd ["value"] (spAsk wholeD) := by
  refine F.ok sc_is_whole_number (fun vs H Q E h => ?_) (fun cdv A outer s H vs Q E hr h => ?_)
  · obtain ⟨v, D, d, rfl, _⟩ := h
    rfl
  obtain ⟨v, D, d, rfl, hd, g, q⟩ := h
  refine ⟨_, (pss_one (ps_ret (pe_and (pe_callB call_isi rfl M.isinstance (by decide +kernel) (pa_cons (pv 0) (pa_cons (pe_bltn (v := .ty "int") rfl M.int (by decide +kernel) rfl) pa_nil))) (pe_one (pe_not (pe_callB call_isi rfl M.isinstance (by decide +kernel) (pa_cons (pv 0) (pa_cons (pe_bltn (v := .ty "bool") rfl M.bool (by decide +kernel) rfl) pa_nil)))))))), ?_⟩
  refine ⟨_, rfl, _, _, _, _, _, rfl, .ty _, dq_ty hd, kit_ty (kit_int d), _, rfl, ?_⟩
  cases d with
  | int i => exact iteT ⟨_, rfl, _, _, _, _, _, rfl, .ty _, dq_ty hd, kit_ty (kit_bool _), _, rfl, q⟩
  | bool b => exact iteT ⟨_, rfl, _, _, _, _, _, rfl, .ty _, dq_ty hd, kit_ty (kit_bool _), _, rfl, q⟩
  | _ => exact iteF q
theorem ok_indexA {k : Nat} (F : Fun K "is_index" "is_index" s_is_index f fd) (Dis_whole_number : Df P w K mg base (k + 1) "is_whole_number" ["value"] (spAsk wholeD)) : FnOk P w K mg base CX0 (k + 2) f fd ["value", "many"] spIndexA := by
  refine F.ok sc_is_index (fun vs H Q E h => ?_) (fun cdv A outer s H vs Q E hr h => ?_)
  · obtain ⟨v, D, d, n, rfl, _⟩ := h
    rfl
  obtain ⟨v, D, d, n, rfl, hd, g, q⟩ := h
  refine ⟨_, (pss_one (ps_ret (pe_and (pe_call Dis_whole_number.ok (hr.mono (by omega)) rfl Dis_whole_number.g Dis_whole_number.kp Dis_whole_number.b .nil pass0 (pa_cons (pv 0) pa_nil)) (pe_one (pe_chain op_le op_lt pe_int (pv 0) (pv 1)))))), ?_⟩
  refine ⟨_, rfl, v, D, d, rfl, hd, g, _, rfl, ?_⟩
  cases hd with
  | int i =>
    refine iteT ?_
    refine ⟨_, rfl, _, _, rfl, rfl, _, rfl, ?_⟩
    have e : ixD n (.int i) = (decide (0 ≤ i) && decide (i < (n : Int))) := rfl
    rw [e] at q
    by_cases h0 : (0 : Int) ≤ i
    · rw [decide_eq_true h0] at q ⊢
      exact iteT ⟨_, rfl, _, _, rfl, rfl, q⟩
    · rw [decide_eq_false h0] at q ⊢
      exact iteF q
  | non => exact iteF q
  | bl b => exact iteF q
  | lst _ _ _ => exact iteF q
  | tup _ _ _ => exact iteF q
  | str _ => exact iteF q
  | emp _ _ => exact iteF q
theorem ok_barrierA (F : Fun K "is_barrier" "is_barrier" s_is_barrier f fd) (M : Mgs mg) (Dis_index : Df P w K mg base 2 "is_index" ["value", "many"] spIndexA) (Dis_ascending : Df P w K mg base 1 "is_ascending" ["items"] (spAsc K)) : FnOk P w K mg base CX0 3 f fd ["order", "value"] (spAskZ isBarD) := by
  refine F.ok sc_is_barrier (fun vs H Q E h => ?_) (fun cdv A outer s H vs Q E hr h => ?_)
  · obtain ⟨D, zs, v, d, rfl, _⟩ := h
    rfl
  obtain ⟨D, zs, v, d, rfl, lt, z0, hz, hd, g, _, q⟩ := h
  have lz : (tx zs).length ≤ sizeLine := small (by rw [tx_len]; omega)
  refine ⟨_, (pss_cons (ps_if (PW.pt (pw_or (pt_not (pt_val (pe_callB call_isi rfl M.isinstance (by decide +kernel) (pa_cons (pv 1) (pa_cons (pe_bltn (v := .ty "tuple") rfl M.tuple (by decide +kernel) rfl) pa_nil))))) (pw_or1 (pt_cmpR op_ne (pe_callB call_len_seq rfl M.len PySem.boot_len (pa_cons (pv 1) pa_nil)) pe_int (nomark _)))))
      (pss_one (ps_ret pe_bl)) pss_nil)
    (pss_cons (ps_if (PW.pt (pw_or (pt_not (pt_val (pe_callB (cr_all rfl) rfl M.all (by decide +kernel) (pa_cons (pe_lc (own := [("place", 2)]) (g := gName 2) (tt := tYes) rfl sc_is_barrier.nd (pi_tup (pv 1)) (blkOk_by (N := ["order", "value", "place", "low", "high", "behind"]) (sc := defScope s_is_barrier) (by decide +kernel)) (fun _ _ _ _ _ => (pg_name (i := 2) sc_is_barrier.nd rfl (.inl rfl))) (fun _ _ _ _ _ => pts_nil) (fun _ _ _ _ _ => (pe_call Dis_index.ok (hr.mono (by omega)) rfl Dis_index.g Dis_index.kp Dis_index.b .nil pass0 (pa_cons (pv 2) (pa_cons (pe_callB call_len_str rfl M.len PySem.boot_len (pa_cons (pv 0) pa_nil)) pa_nil))))) pa_nil)))) (pw_or1 (pt_not (pt_val (pe_call Dis_ascending.ok (hr.mono (by omega)) rfl Dis_ascending.g Dis_ascending.kp Dis_ascending.b .nil pass0 (pa_cons (pv 1) pa_nil)))))))
      (pss_one (ps_ret pe_bl)) pss_nil)
    (pss_cons (ps_asg (pv 1) (pg_tup rfl (pgs_cons (pg_name (i := 3) sc_is_barrier.nd rfl (.inl rfl)) (pgs_cons (pg_name (i := 4) sc_is_barrier.nd rfl (.inl rfl)) (pgs_cons (pg_name (i := 5) sc_is_barrier.nd rfl (.inl rfl)) pgs_nil)))))
    (pss_one (ps_ret (pe_chain op_lt_str op_lt_str (pe_ix ix_str (pv 0) (pv 5) (fun _ _ => rfl)) (pe_ix ix_str (pv 0) (pv 3) (fun _ _ => rfl)) (pe_ix ix_str (pv 0) (pv 4) (fun _ _ => rfl)))))))), ?_⟩
  have no : (∀ l h b : Nat, Barr zs l h b → d ≠ .tuple [.int (l : Int), .int (h : Int), .int (b : Int)]) → ∀ H', Same H H' → Q (.bl false) H' := fun n H' s => q false H' s ⟨fun z => (nomatch z), fun ⟨l, h, b, k, e⟩ => absurd e (n l h b k)⟩
  refine ⟨_, rfl, _, _, _, _, isTupD d, rfl, .ty _, dq_ty hd, kit_ty (kit_tup d), _, rfl, ?_⟩
  cases hd with
  | non => exact iteT (no (fun _ _ _ _ z => (nomatch z)) _ (Same.refl _))
  | bl b => exact iteT (no (fun _ _ _ _ z => (nomatch z)) _ (Same.refl _))
  | int i => exact iteT (no (fun _ _ _ _ z => (nomatch z)) _ (Same.refl _))
  | lst _ _ _ => exact iteT (no (fun _ _ _ _ z => (nomatch z)) _ (Same.refl _))
  | str _ => exact iteT (no (fun _ _ _ _ z => (nomatch z)) _ (Same.refl _))
  | emp _ _ => exact iteT (no (fun _ _ _ _ z => (nomatch z)) _ (Same.refl _))
  | @tup a xs ds o ha al =>
  have hl := dqAll_len al
  refine iteF ?_
  refine ⟨_, rfl, a, _, rfl, .inr (SqT.of ha), rfl, _, rfl, ite2 (fun c => ?_) (fun c => ?_)⟩
  · refine no (fun l h b _ e => ?_) _ (Same.refl _)
    rw [Bool.not_eq_true', decide_eq_false_iff_not] at c
    rw [PyData.tuple.inj e] at hl
    exact c (by rw [hl]; rfl)
  have ll : xs.length = 3 := by
    rw [Bool.not_eq_true', Bool.not_eq_false, decide_eq_true_eq] at c
    have := V.int.inj c
    omega
  refine ⟨_, rfl, a, rfl, ⟨_, SqT.of ha⟩, fun L nL => ?_⟩
  have q1 := same_new nL (.lst [])
  refine lc_tup (K := K) (a := a) (xs := xs) (fun n H' => Same H H' ∧ H' L = some (.lst (((ds.take n).map (ixD zs.length)).map V.bl))) ⟨q1, upd_same⟩ (fun n H' _ hp => SqT.of (hp.1 _ _ ha)) (fun n x H' hx hp => ?_) (fun H' hp => ?_)
  · obtain ⟨sm, ed⟩ := hp
    obtain ⟨y, hy, dy⟩ := dqAll_get al hx
    have gy : gd y = true := by
      have g' : gds ds = true := by simpa only [gd] using g
      exact gds_mem g' (List.mem_of_getElem? hy)
    have hn : n < xs.length := (List.getElem?_eq_some_iff.mp hx).1
    refine ⟨rfl, kept ?_⟩
    refine ⟨_, rfl, _, rfl, _, rfl, lz, x, D, y, zs.length, rfl, dq_same sm dy, gy, _, ed, by rw [List.length_map, List.length_map, List.length_take]; exact small1000 (by omega), fun b o e => ?_, ?_⟩
    · rw [upd_ne (ne_of_none e nL)]; exact sm _ _ e
    · rw [upd_same, take_nextG hy, List.map_append, List.map_append]
      rfl
  obtain ⟨sm, ed⟩ := hp
  rw [List.take_of_length_le (by omega)] at ed
  refine ⟨L, _, rfl, SqL.of ed, _, rfl, ?_⟩
  cases hall : (ds.map (ixD zs.length)).all id with
  | false =>
    refine iteT (no (fun l h b k e => ?_) _ sm)
    rw [PyData.tuple.inj e] at hall
    have : (([.int (l : Int), .int (h : Int), .int (b : Int)] : List PyData).map (ixD zs.length)).all id = true := by
      obtain ⟨k1, k2, k3, _⟩ := k
      simp only [List.map_cons, List.map_nil, List.all_cons, List.all_nil, Bool.and_true, id, ixD, Bool.and_eq_true, decide_eq_true_eq]
      omega
    rw [this] at hall
    cases hall
  | true =>
  refine iteF ?_
  match xs, ds, al, ll, hall with
  | [v1, v2, v3], [y1, y2, y3], .cons e1 (.cons e2 (.cons e3 .nil)), _, hall =>
  simp only [List.map_cons, List.map_nil, List.all_cons, List.all_nil, Bool.and_true, id, Bool.and_eq_true] at hall
  obtain ⟨l, rfl, hl1⟩ := ix_nat hall.1
  obtain ⟨h, rfl, hh1⟩ := ix_nat hall.2.1
  obtain ⟨b, rfl, hb1⟩ := ix_nat hall.2.2
  cases e1
  cases e2
  cases e3
  refine ⟨_, rfl, .inr ⟨a, _, _, _, rfl, SqT.of (sm _ _ ha), fun H2 s2 => ?_⟩⟩
  have s12 := sm.trans s2
  have inj3 : ∀ {l' h' b' : Nat}, PyData.tuple [.int (l : Int), .int (h : Int), .int (b : Int)] = .tuple [.int (l' : Int), .int (h' : Int), .int (b' : Int)] → l = l' ∧ h = h' ∧ b = b' := fun {l' h' b'} e => by
    simp only [PyData.tuple.injEq, List.cons.injEq, PyData.int.injEq, and_true] at e
    omega
  refine ⟨_, rfl, ?_⟩
  by_cases asc : l < h ∧ h < b
  · rw [decide_eq_true (show (l : Int) < (h : Int) by omega), decide_eq_true (show (h : Int) < (b : Int) by omega)]
    refine iteF ?_
    have ha2 := SqT.of (K := K) (s12 _ _ ha)
    refine ⟨_, rfl, a, _, rfl, ha2, rfl, _, _, rfl, _, _, rfl, _, _, rfl, rfl, ?_⟩
    refine ⟨_, rfl, _, rfl, _, _, _, rfl, rfl, lz, sig_at hb1, _, rfl, _, rfl, _, _, _, rfl, rfl, lz, sig_at hl1, _, _, rfl, rfl, _, rfl, ?_⟩
    rw [ch_lt]
    by_cases c1 : zs.getD b 0 < zs.getD l 0
    · rw [decide_eq_true c1]
      refine iteT ⟨_, rfl, _, rfl, _, _, _, rfl, rfl, lz, sig_at hh1, _, _, rfl, rfl, ?_⟩
      rw [ch_lt]
      refine q _ _ s12 ?_
      rw [decide_eq_true_eq]
      constructor
      · exact fun c2 => ⟨l, h, b, ⟨asc.1, asc.2, hb1, c1, c2⟩, rfl⟩
      · rintro ⟨l', h', b', k, e⟩
        obtain ⟨rfl, rfl, rfl⟩ := inj3 e
        exact k.2.2.2.2
    · rw [decide_eq_false c1]
      refine iteF (no (fun l' h' b' k e => ?_) _ s12)
      obtain ⟨rfl, rfl, rfl⟩ := inj3 e
      exact c1 k.2.2.2.1
  · have eb : (decide ((l : Int) < (h : Int)) && decide ((h : Int) < (b : Int))) = false := by
      rw [Bool.eq_false_iff]
      intro z
      rw [Bool.and_eq_true, decide_eq_true_eq, decide_eq_true_eq] at z
      omega
    rw [eb]
    refine iteT (no (fun l' h' b' k e => ?_) _ s12)
    obtain ⟨rfl, rfl, rfl⟩ := inj3 e
    exact asc ⟨k.1, k.2.1⟩
end
/-! ### search_holds of any value -/
theorem asc_iff : ∀ {zs : List Nat}, asc zs = true ↔ zs.Pairwise (· < ·)
  | [] => ⟨fun _ => .nil, fun _ => rfl⟩
  | [a] => ⟨fun _ => List.pairwise_singleton _ _, fun _ => rfl⟩
  | a :: b :: r => by
    have ih := asc_iff (zs := b :: r)
    have e : asc (a :: b :: r) = (decide (a < b) && asc (b :: r)) := rfl
    rw [e, Bool.and_eq_true, decide_eq_true_eq, ih]
    constructor
    · rintro ⟨h1, h2⟩
      refine List.pairwise_cons.mpr ⟨fun c hc => ?_, h2⟩
      rcases List.mem_cons.mp hc with rfl | hc
      · exact h1
      · exact Nat.lt_trans h1 ((List.pairwise_cons.mp h2).1 c hc)
    · intro h
      exact ⟨(List.pairwise_cons.mp h).1 b List.mem_cons_self, (List.pairwise_cons.mp h).2⟩
theorem bst_of_mid : ∀ {t : B}, t.mid.Pairwise (· < ·) → Bst t
  | .nil, _ => trivial
  | .node l x r, h => by
    have h' : (l.mid ++ x :: r.mid).Pairwise (· < ·) := h
    rw [List.pairwise_append, List.pairwise_cons] at h'
    obtain ⟨h1, ⟨h2, h3⟩, h4⟩ := h'
    exact ⟨fun c hc => h4 c ((l.mid_mem c).mpr hc) x List.mem_cons_self, fun c hc => h2 c ((r.mid_mem c).mpr hc), bst_of_mid h1, bst_of_mid h3⟩
/-- what holds of an order -/
def HoldsS (zs : List Nat) (d : PyData) : Prop :=
  (∃ t : B, t ≠ .nil ∧ t.pre = zs ∧ asc t.mid = true ∧ d = .tuple [.str "tree", t.data]) ∨ ∃ e, isBarD zs e ∧ d = .tuple [.str "barrier", e]
theorem holds_two {zs : List Nat} {x : Str} {e : PyData} : HoldsS zs (.tuple [.str x, e]) ↔ (x = "tree" ∧ ∃ t : B, t ≠ .nil ∧ t.pre = zs ∧ asc t.mid = true ∧ e = t.data) ∨ (x = "barrier" ∧ isBarD zs e) := by
  unfold HoldsS
  simp only [PyData.tuple.injEq, List.cons.injEq, PyData.str.injEq, and_true]
  constructor
  · rintro (⟨t, h1, h2, h3, rfl, h4⟩ | ⟨e', h1, rfl, rfl⟩)
    · exact .inl ⟨rfl, t, h1, h2, h3, h4⟩
    · exact .inr ⟨rfl, h1⟩
  · rintro (⟨rfl, t, h1, h2, h3, h4⟩ | ⟨rfl, h1⟩)
    · exact .inl ⟨t, h1, h2, h3, rfl, h4⟩
    · exact .inr ⟨e, h1, rfl, rfl⟩
theorem holds_tag {zs : List Nat} {d : PyData} (h : HoldsS zs d) : isTag d = true := by
  rcases h with ⟨t, _, _, _, rfl⟩ | ⟨e, _, rfl⟩ <;> rfl
theorem tag_two {d : PyData} (h : isTag d = true) : ∃ x e, d = .tuple [.str x, e] := by
  match d, h with
  | .tuple [.str x, e], _ => exact ⟨x, e, rfl⟩
theorem vt_dec (a b : List Nat) : decide (V.str (tx a) = V.str (tx b)) = decide (a = b) := by
  by_cases h : a = b
  · subst h; rw [decide_eq_true rfl, decide_eq_true rfl]
  · rw [decide_eq_false h, decide_eq_false (fun z => h (tx_inj (V.str.inj z)))]
section
variable {P : Program} {w : World} {K : PySem.W.Frag} {mg : Str → Option Value} {base : Heap} {f : Addr} {fd : FuncData}
theorem ok_holdsA (F : Fun K "search_holds" "search_holds" s_search_holds f fd) (Dis_tagged : Df P w K mg base 1 "is_tagged" ["value"] (spAsk isTag)) (Dis_tree : Df P w K mg base 3 "is_tree" ["value"] spIsTree) (Dis_search_tree : Df P w K mg base 63 "is_search_tree" ["tree"] spSearch)
    (Dwalk : Df P w K mg base 62 "walk" ["tree", "kind"] spWalk) (Dis_barrier : Df P w K mg base 3 "is_barrier" ["order", "value"] (spAskZ isBarD)) : FnOk P w K mg base CX0 64 f fd ["order", "value"] (spAskZ HoldsS) := by
  refine F.ok (k := 63) sc_search_holds (fun vs H Q E h => ?_) (fun cdv A outer s H vs Q E hr h => ?_)
  · obtain ⟨D, zs, v, d, rfl, _⟩ := h
    rfl
  obtain ⟨D, zs, v, d, rfl, lt, z0, hz, hd, g, hdp, q⟩ := h
  refine ⟨_, (pss_cons (ps_if (pt_not (pt_val (pe_call Dis_tagged.ok (hr.mono (by omega)) rfl Dis_tagged.g Dis_tagged.kp Dis_tagged.b .nil pass0 (pa_cons (pv 1) pa_nil))))
      (pss_one (ps_ret pe_bl)) pss_nil)
    (pss_cons (ps_asg (pv 1) (pg_tup rfl (pgs_cons (pg_name (i := 2) sc_search_holds.nd rfl (.inl rfl)) (pgs_cons (pg_name (i := 3) sc_search_holds.nd rfl (.inl rfl)) pgs_nil))))
    (pss_cons (ps_if (pt_cmpR op_eq (pv 2) pe_str (nomark _))
      (pss_one (ps_ret (pe_and (pe_call Dis_tree.ok (hr.mono (by omega)) rfl Dis_tree.g Dis_tree.kp Dis_tree.b .nil pass0 (pa_cons (pv 3) pa_nil)) (pe_and (pe_call Dis_search_tree.ok (hr.mono (by omega)) rfl Dis_search_tree.g Dis_search_tree.kp Dis_search_tree.b .nil pass0 (pa_cons (pv 3) pa_nil)) (pe_one (pe_cmpR op_eq (pe_call Dwalk.ok (hr.mono (by omega)) rfl Dwalk.g Dwalk.kp Dwalk.b .nil pass0 (pa_cons (pv 3) (pa_cons pe_str pa_nil))) (pv 0) (nomark _))))))) pss_nil)
    (pss_one (ps_ret (pe_and (pe_cmpR op_eq (pv 2) pe_str (nomark _)) (pe_one (pe_call Dis_barrier.ok (hr.mono (by omega)) rfl Dis_barrier.g Dis_barrier.kp Dis_barrier.b .nil pass0 (pa_cons (pv 0) (pa_cons (pv 3) pa_nil)))))))))), ?_⟩
  refine ⟨_, rfl, v, D, d, rfl, hd, g, _, rfl, ?_⟩
  cases hT : isTag d with
  | false => exact iteT (q _ _ (Same.refl _) ⟨fun z => (nomatch z), fun h => by rw [holds_tag h] at hT; cases hT⟩)
  | true =>
    obtain ⟨x, e, rfl⟩ := tag_two hT
    refine iteF ?_
    cases hd with
    | @tup r xs _ o er al =>
    cases al with
    | cons d1 al =>
    cases d1
    cases al with
    | @cons u _ _ _ d2 al =>
    cases al
    simp only [gd, gds, Bool.and_true, Bool.and_eq_true] at g
    simp only [PyData.depth, PyData.depthAll] at hdp
    have ge : gd e = true := g.2
    refine ⟨_, rfl, r, _, rfl, SqT.of er, rfl, _, _, rfl, _, _, rfl, rfl, ?_⟩
    refine ⟨_, rfl, rfl, _, rfl, ite2 (fun c => ?_) (fun c => ?_)⟩
    · have hx : x = "tree" := V.str.inj (of_decide_eq_true c)
      refine ⟨_, rfl, u, D, e, rfl, d2, ge, fun H1 s1 => ⟨_, rfl, ?_⟩⟩
      have no : ∀ b H2, Same H H2 → (b = true ↔ ∃ t : B, t ≠ .nil ∧ t.pre = zs ∧ asc t.mid = true ∧ e = t.data) → Q (.bl b) H2 := fun b H2 s2 h => q b H2 s2 (by
        rw [h, holds_two, hx]
        constructor
        · exact fun h => .inl ⟨rfl, h⟩
        · rintro (h | h)
          · exact h.2
          · exact absurd h.1 (by decide +kernel))
      cases ht : isT e with
      | false =>
        refine iteF (no _ _ s1 ⟨fun z => (nomatch z), ?_⟩)
        rintro ⟨t, hn, h1, h2, rfl⟩
        have lt' : ltB t := fun c hc => lt.2 c (h1 ▸ hc)
        have z := cnt_data lt'
        have z1 : 0 < t.size := by
          cases t with
          | nil => exact absurd rfl hn
          | node l x r => show 0 < l.size + 1 + r.size; omega
        have z2 : t.size ≤ 12 := by rw [← t.pre_len, h1]; exact hz
        have : isT t.data = true := decide_eq_true ⟨by rw [z]; omega, by rw [z]; omega⟩
        rw [ht] at this
        cases this
      | true =>
        have ht' : 0 < cntD e ∧ cntD e < 13 := of_decide_eq_true ht
        obtain ⟨t, bt, rfl, lt'⟩ := tree_of 100 e u (by omega) d2 (by omega)
        rw [cnt_data lt'] at ht'
        have tn : t ≠ .nil := fun z => by rw [z] at ht'; exact absurd ht'.1 (by decide)
        refine iteT ?_
        refine ⟨_, rfl, u, t, rfl, bt.same s1, tn, by omega, fun H2 s2 => ?_⟩
        have s12 := s1.trans s2
        refine ⟨_, rfl, ?_⟩
        cases ha : asc t.mid with
        | false =>
          refine iteF (no _ _ s12 ⟨fun z => (nomatch z), ?_⟩)
          rintro ⟨t', _, _, h2, e⟩
          rw [data_inj e, h2] at ha
          cases ha
        | true =>
          refine iteT ?_
          refine ⟨_, rfl, u, t, .first, rfl, bt.same s12, by omega, fun H3 s3 => ?_⟩
          refine ⟨_, rfl, rfl, ?_⟩
          rw [show t.wk .first = t.pre from rfl, vt_dec]
          refine no _ _ (s12.trans s3) ?_
          rw [decide_eq_true_eq]
          constructor
          · exact fun h => ⟨t, tn, h, ha, rfl⟩
          · rintro ⟨t', _, h1, _, e⟩
            rw [data_inj e]
            exact h1
    · have n1 : x ≠ "tree" := fun z => c (decide_eq_true (by rw [z]))
      refine ⟨_, rfl, rfl, _, rfl, ite2 (fun c => ?_) (fun c => ?_)⟩
      · have hx : x = "barrier" := V.str.inj (of_decide_eq_true c)
        refine ⟨_, rfl, _, rfl, D, zs, u, e, rfl, lt, z0, hz, d2, ge, by omega, fun b H1 s1 h => ?_⟩
        refine q b H1 s1 ?_
        rw [h, holds_two, hx]
        constructor
        · exact fun h => .inr ⟨rfl, h⟩
        · rintro (h | h)
          · exact absurd h.1 (by decide +kernel)
          · exact h.2
      · have n2 : x ≠ "barrier" := fun z => c (decide_eq_true (by rw [z]))
        refine q _ _ (Same.refl _) ⟨fun z => (nomatch z), fun h => ?_⟩
        rw [holds_two] at h
        rcases h with h | h
        · exact absurd h.1 n1
        · exact absurd h.1 n2
end
/-! ### _law_same of any value and one of texts, tuples, None -/
def rEqNil (K : PySem.W.Frag) : V → V → Hp → VK → Prop := fun x y H Q => ∃ a b xs, x = .ref a ∧ y = .ref b ∧ SqL K H a xs ∧ SqL K H b [] ∧ Q (.bl xs.isEmpty) H
mutual
def cl : PyData → Bool
  | .none => true
  | .str _ => true
  | .tuple xs => decide (xs.length ≤ 1000) && cls xs
  | _ => false
def cls : List PyData → Bool
  | [] => true
  | x :: xs => cl x && cls xs
end
theorem cls_get : ∀ {ds : List PyData} {i : Nat} {d : PyData}, ds[i]? = some d → cls ds = true → cl d = true
  | [], _, _, h, _ => by simp at h
  | x :: xs, 0, _, h, k => by
    cases h
    simp only [cls, Bool.and_eq_true] at k
    exact k.1
  | x :: xs, i + 1, d, h, k => by
    simp only [cls, Bool.and_eq_true] at k
    exact cls_get (ds := xs) (i := i) h k.2
def spSameQ (n : Nat) : Sp := fun vs H Q _ => ∃ (D D' : Deck) (v v' : V) (d e : PyData), vs = [v, v'] ∧ DQ D H v d ∧ DQ D' H v' e ∧ cl e = true ∧ e.depth < n ∧ ∀ b H', Same H H' → (b = true ↔ d = e) → Q (.bl b) H'
theorem dec_take {ds es : List PyData} {i : Nat} {x y : PyData} (hx : ds[i]? = some x) (hy : es[i]? = some y) : ds.take (i + 1) = es.take (i + 1) ↔ (ds.take i = es.take i ∧ x = y) := by
  have l1 := (List.getElem?_eq_some_iff.mp hx).1
  have l2 := (List.getElem?_eq_some_iff.mp hy).1
  rw [take_nextG hx, take_nextG hy]
  constructor
  · intro h
    have := List.append_inj h (by rw [List.length_take, List.length_take]; omega)
    exact ⟨this.1, by simpa using this.2⟩
  · rintro ⟨h, rfl⟩
    rw [h]
def isLstD : PyData → Bool
  | .list _ => true
  | _ => false
theorem kit_lst (d : PyData) : kitB (tyD d) "list" = some (isLstD d) := by
  cases d <;> (simp only [tyD, isLstD]; decide +kernel)
theorem dq_non {D : Deck} {H : Hp} {v : V} {d : PyData} (h : DQ D H v d) : decide (v = .non) = true ↔ d = .none := by
  rw [decide_eq_true_eq]
  cases h with
  | non => exact ⟨fun _ => rfl, fun _ => rfl⟩
  | _ => exact ⟨fun z => (nomatch z), fun z => (nomatch z)⟩
section
variable {P : Program} {w : World} {K : PySem.W.Frag} {mg : Str → Option Value} {base : Heap} {f : Addr} {fd : FuncData}
theorem ok_sameQ (F : Fun K "_law_same" "_law_same" s__law_same f fd) (b : Binds K fd ["_law_found", "_law_due_here"] []) (g : mg "_law_same" = some (.ref f)) (M : Mgs mg) : ∀ n : Nat, FnOk P w K mg base CX0 n f fd ["_law_found", "_law_due_here"] (spSameQ n)
  | 0 => by
    have no : ∀ vs H Q E, ¬ spSameQ 0 vs H Q E := fun vs H Q E h => by
      obtain ⟨_, _, v, t, d, e, _, _, _, _, h1, _⟩ := h
      exact absurd h1 (Nat.not_lt_zero _)
    exact ⟨fun vs H Q E h => absurd h (no vs H Q E), fun A outer s H args us vs Q E _ _ _ _ h => absurd h (no vs H Q E)⟩
  | n + 1 => by
    have Dself : Df P w K mg base n "_law_same" ["_law_found", "_law_due_here"] (spSameQ n) := ⟨f, fd, ok_sameQ F b g M n, b, F.kp, g⟩
    refine F.ok sc__law_same (fun vs H Q E h => ?_) (fun cdv A outer s H vs Q E hr h => ?_)
    · obtain ⟨_, _, v, t, d, e, rfl, _⟩ := h
      rfl
    obtain ⟨D0, D1, v, v', d, e, rfl, hv, hv', hc, hdp, q⟩ := h
    refine ⟨_, (pss_cons (ps_if (pt_val (pe_callB call_isiT rfl M.isinstance (by decide +kernel) (pa_cons (pv 1) (pa_cons (pe_tup (pa_cons (pe_bltn (v := .ty "tuple") rfl M.tuple (by decide +kernel) rfl) (pa_cons (pe_bltn (v := .ty "list") rfl M.list (by decide +kernel) rfl) pa_nil))) pa_nil))))
      (pss_cons (ps_if (pt_cmpR op_ne (pe_callB call_isi rfl M.isinstance (by decide +kernel) (pa_cons (pv 0) (pa_cons (pe_bltn (v := .ty "tuple") rfl M.tuple (by decide +kernel) rfl) pa_nil))) (pe_callB call_isi rfl M.isinstance (by decide +kernel) (pa_cons (pv 1) (pa_cons (pe_bltn (v := .ty "tuple") rfl M.tuple (by decide +kernel) rfl) pa_nil))) (nomark _))
      (pss_one (ps_ret pe_bl)) pss_nil)
    (pss_cons (ps_if (PW.pt (pw_or (pt_cmpR op_ne (pe_callB call_isi rfl M.isinstance (by decide +kernel) (pa_cons (pv 0) (pa_cons (pe_bltn (v := .ty "list") rfl M.list (by decide +kernel) rfl) pa_nil))) (pe_callB call_isi rfl M.isinstance (by decide +kernel) (pa_cons (pv 1) (pa_cons (pe_bltn (v := .ty "list") rfl M.list (by decide +kernel) rfl) pa_nil))) (nomark _)) (pw_or1 (pt_cmpR op_ne (pe_callB call_len_seq rfl M.len PySem.boot_len (pa_cons (pv 0) pa_nil)) (pe_callB call_len_seq rfl M.len PySem.boot_len (pa_cons (pv 1) pa_nil)) (nomark _)))))
      (pss_one (ps_ret pe_bl)) pss_nil)
    (pss_one (ps_ret (pe_cmpR (show OpR _ (compareOp .Eq) (rEqNil K) from op_eqL hr.units0) (pe_lc (own := [("_law_k", 2)]) (g := gName 2) rfl sc__law_same.nd (pi_range1 rfl M.range (pa_cons (pe_callB call_len_seq rfl M.len PySem.boot_len (pa_cons (pv 1) pa_nil)) pa_nil)) (blkOk_by (N := ["_law_found", "_law_due_here", "_law_k"]) (sc := defScope s__law_same) (by decide +kernel)) (fun _ _ _ _ _ => (pg_name (i := 2) sc__law_same.nd rfl (.inl rfl))) (fun _ _ _ _ _ => pts_one (pt_not (pt_val (pe_call Dself.ok (hr.mono (by omega)) rfl Dself.g Dself.kp Dself.b .nil pass0 (pa_cons (pe_ix (show IxR _ (rIx K) from ix_seq) (pv 0) (pv 2) (fun _ _ => rfl)) (pa_cons (pe_ix (show IxR _ (rIx K) from ix_seq) (pv 1) (pv 2) (fun _ _ => rfl)) pa_nil)))))) (fun _ _ _ _ _ => (pv 2))) (pe_lst pa_nil) (nomark _)))))) pss_nil)
    (pss_cons (ps_if (pt_val (pe_callB call_isi rfl M.isinstance (by decide +kernel) (pa_cons (pv 1) (pa_cons (pe_bltn (v := .ty "dict") rfl M.dict (by decide +kernel) rfl) pa_nil))))
      (pss_one ps_never) pss_nil)
    (pss_cons (ps_if (pt_cmpR op_isN (pv 1) pe_non (nomark _))
      (pss_one (ps_ret (pe_cmpR op_isN (pv 0) pe_non (nomark _)))) pss_nil)
    (pss_cons (ps_if (pt_val (pe_callB call_isi rfl M.isinstance (by decide +kernel) (pa_cons (pv 1) (pa_cons (pe_bltn (v := .ty "str") rfl M.str (by decide +kernel) rfl) pa_nil))))
      (pss_one (ps_ret (pe_and (pe_callB call_isi rfl M.isinstance (by decide +kernel) (pa_cons (pv 0) (pa_cons (pe_bltn (v := .ty "str") rfl M.str (by decide +kernel) rfl) pa_nil))) (pe_one (pe_cmpR op_eq (pv 0) (pv 1) (nomark _)))))) pss_nil)
    (pss_one (ps_ret (pe_and (pe_callB call_isi rfl M.isinstance (by decide +kernel) (pa_cons (pv 0) (pa_cons (pe_bltn (v := .ty "int") rfl M.int (by decide +kernel) rfl) pa_nil))) (pe_and (pe_cmpR op_eq (pe_callB call_isi rfl M.isinstance (by decide +kernel) (pa_cons (pv 0) (pa_cons (pe_bltn (v := .ty "bool") rfl M.bool (by decide +kernel) rfl) pa_nil))) (pe_callB call_isi rfl M.isinstance (by decide +kernel) (pa_cons (pv 1) (pa_cons (pe_bltn (v := .ty "bool") rfl M.bool (by decide +kernel) rfl) pa_nil))) (nomark _)) (pe_one (pe_cmpR op_eq (pv 0) (pv 1) (nomark _))))))))))), ?_⟩
    refine ⟨v', rfl, (by show 2 ≤ sizeLine; decide), fun tp np => ?_⟩
    have s1 := same_new np (.tup [.ty "tuple", .ty "list"])
    have hw := dq_same s1 hv
    have hw' := dq_same s1 hv'
    have pr : Paired ClsV [V.ty "tuple", V.ty "list"] [Value.type "tuple", Value.type "list"] := .cons (.ty _) (.cons (.ty _) .nil)
    have etp := upd_same (H := H) (a := tp) (o := .tup [.ty "tuple", .ty "list"])
    generalize upd H tp (.tup [.ty "tuple", .ty "list"]) = H1 at s1 hw hw' etp ⊢
    have k1 : kitB "tuple" "list" = some false := by decide +kernel
    have k2 : kitB "tuple" "tuple" = some true := by decide +kernel
    cases hw' with
    | non =>
      refine ⟨_, tp, _, _, _, false, rfl, etp, pr, .base .non, kit_tl (r := false) (s := false) (by decide +kernel) (by decide +kernel), _, rfl, iteF ?_⟩
      refine ⟨_, rfl, _, _, _, _, false, rfl, .ty _, .base .non, kit_ty (by decide +kernel), _, rfl, iteF ?_⟩
      refine ⟨_, rfl, rfl, _, rfl, iteT ?_⟩
      exact ⟨_, rfl, rfl, q _ _ s1 (dq_non hv)⟩
    | str c =>
      refine ⟨_, tp, _, _, _, false, rfl, etp, pr, .base (.str c), kit_tl (r := false) (s := false) (by decide +kernel) (by decide +kernel), _, rfl, iteF ?_⟩
      refine ⟨_, rfl, _, _, _, _, false, rfl, .ty _, .base (.str c), kit_ty (by decide +kernel), _, rfl, iteF ?_⟩
      refine ⟨_, rfl, rfl, _, rfl, iteF ?_⟩
      refine ⟨_, rfl, _, _, _, _, true, rfl, .ty _, .base (.str c), kit_ty (by decide +kernel), _, rfl, iteT ?_⟩
      refine ⟨_, rfl, _, _, _, _, isStrD d, rfl, .ty _, dq_ty hw, kit_ty (kit_str d), _, rfl, ?_⟩
      cases hw with
      | str x =>
        refine iteT ?_
        refine ⟨_, rfl, _, rfl, rfl, q _ _ s1 ?_⟩
        rw [decide_eq_true_eq]
        exact ⟨fun z => by rw [V.str.inj z], fun z => by rw [PyData.str.inj z]⟩
      | _ => exact iteF (q _ _ s1 ⟨fun z => (nomatch z), fun z => (nomatch z)⟩)
    | bl c => simp only [cl] at hc; cases hc
    | int c => simp only [cl] at hc; cases hc
    | lst _ _ _ => simp only [cl] at hc; cases hc
    | emp _ _ => simp only [cl] at hc; cases hc
    | @tup p' xs' es o' e1' al' =>
      simp only [cl, Bool.and_eq_true, decide_eq_true_eq] at hc
      simp only [PyData.depth] at hdp
      refine ⟨_, tp, _, _, _, true, rfl, etp, pr, .base (.tup e1'), kit_tl k1 k2, _, rfl, iteT ?_⟩
      refine ⟨_, rfl, _, _, _, _, isTupD d, rfl, .ty _, dq_ty hw, kit_ty (kit_tup d), _, rfl, _, _, _, _, true, rfl, .ty _, .base (.tup e1'), kit_ty k2, rfl, _, rfl, ?_⟩
      cases hw with
      | non => exact iteT (q _ _ s1 ⟨fun z => (nomatch z), fun z => (nomatch z)⟩)
      | bl b => exact iteT (q _ _ s1 ⟨fun z => (nomatch z), fun z => (nomatch z)⟩)
      | int i => exact iteT (q _ _ s1 ⟨fun z => (nomatch z), fun z => (nomatch z)⟩)
      | lst _ _ _ => exact iteT (q _ _ s1 ⟨fun z => (nomatch z), fun z => (nomatch z)⟩)
      | str _ => exact iteT (q _ _ s1 ⟨fun z => (nomatch z), fun z => (nomatch z)⟩)
      | emp _ _ => exact iteT (q _ _ s1 ⟨fun z => (nomatch z), fun z => (nomatch z)⟩)
      | @tup p xs ds o e1 al =>
      refine iteNS rfl ?_
      refine ⟨_, rfl, _, _, _, _, false, rfl, .ty _, .base (.tup e1), kit_ty k1, _, rfl, _, _, _, _, false, rfl, .ty _, .base (.tup e1'), kit_ty k1, rfl, _, rfl, iteNS rfl ?_⟩
      have hl := dqAll_len al
      have hl' := dqAll_len al'
      refine ⟨_, rfl, p, _, rfl, .inr (SqT.of e1), _, rfl, p', _, rfl, .inr (SqT.of e1'), rfl, _, rfl, ite2 (fun c => ?_) (fun c => ?_)⟩
      · refine q _ _ s1 ⟨fun z => (nomatch z), fun z => ?_⟩
        rw [Bool.not_eq_true', decide_eq_false_iff_not] at c
        exact absurd (by rw [hl, hl', PyData.tuple.inj z]) c
      have ll : ds.length = es.length := by
        rw [Bool.not_eq_true', Bool.not_eq_false, decide_eq_true_eq] at c
        have := V.int.inj c
        omega
      refine ⟨_, rfl, p', _, rfl, .inr (SqT.of e1'), _, rfl, ?_, ?_, fun L nL => ?_⟩
      · omega
      · omega
      have s3 := same_new nL (.lst [])
      rw [Int.toNat_natCast]
      refine lc_range (lo := 0) (n := xs'.length) (fun i H' => Same H1 H' ∧ ∃ us : List V, H' L = some (.lst us) ∧ us.length ≤ i ∧ (us = [] ↔ ds.take i = es.take i)) ⟨s3, [], upd_same, Nat.le_refl _, by simp⟩ (fun i H' hi hp => ?_) (fun H' hp => ?_)
      · obtain ⟨sm, us, eD, ul, hu⟩ := hp
        obtain ⟨a, ha⟩ : ∃ a, xs[i]? = some a := ⟨_, List.getElem?_eq_getElem (by omega)⟩
        obtain ⟨x, hx, dx⟩ := dqAll_get al ha
        obtain ⟨a', ha'⟩ : ∃ a, xs'[i]? = some a := ⟨_, List.getElem?_eq_getElem (by omega)⟩
        obtain ⟨y, hy, dy⟩ := dqAll_get al' ha'
        have tn := dec_take hx hy
        have e0 : (0 : Int) + (i : Int) = ((i : Nat) : Int) := by omega
        rw [e0]
        refine ⟨rfl, ?_⟩
        refine ⟨_, rfl, _, rfl, seq_ix (.inr (SqT.of (sm _ _ e1))) (atI_nat ha) ⟨_, rfl, _, rfl, seq_ix (.inr (SqT.of (sm _ _ e1'))) (atI_nat ha') ⟨D0, D1, a, a', x, y, rfl, dq_same sm dx, dq_same sm dy, cls_get hy hc.2, by have := depth_get hy; omega, fun b H'' s'' hb => ?_⟩⟩⟩
        refine ⟨_, rfl, ?_⟩
        have eD2 := s'' _ _ eD
        cases b with
        | true =>
          exact iteF ⟨sm.trans s'', us, eD2, by omega, by rw [tn, hu]; exact ⟨fun z => ⟨z, hb.mp rfl⟩, fun z => z.1⟩⟩
        | false =>
          refine iteT ⟨_, rfl, _, eD2, small1000 (by omega), fun c o e => ?_, us ++ [.int (i : Int)], upd_same, by rw [List.length_append]; show _ + 1 ≤ _; omega, ?_⟩
          · rw [upd_ne (ne_of_none e nL)]; exact s'' _ _ (sm _ _ e)
          · rw [tn]
            exact ⟨fun z => absurd z (by simp), fun z => by have := hb.mpr z.2; cases this⟩
      · obtain ⟨sm, us, eD, ul, hu⟩ := hp
        refine ⟨(by show 0 ≤ sizeLine; decide), fun e ne => ?_⟩
        refine ⟨L, e, us, rfl, rfl, SqL.of ((same_new ne _) _ _ eD), SqL.of upd_same, ?_⟩
        rw [List.take_of_length_le (by omega), List.take_of_length_le (by omega)] at hu
        refine q _ _ (s1.trans (sm.trans (same_new ne _))) ?_
        rw [List.isEmpty_iff, hu]
        exact ⟨fun z => by rw [z], fun z => PyData.tuple.inj z⟩
def spSameB : Sp := fun vs H Q _ => ∃ a b : Bool, vs = [.bl a, .bl b] ∧ ∀ H', Same H H' → Q (.bl (decide (a = b))) H'
theorem ok_sameB (F : Fun K "_law_same" "_law_same" s__law_same f fd) (b : Binds K fd ["_law_found", "_law_due_here"] []) (g : mg "_law_same" = some (.ref f)) (M : Mgs mg) : FnOk P w K mg base CX0 1 f fd ["_law_found", "_law_due_here"] spSameB := by
  have Dself : Df P w K mg base 0 "_law_same" ["_law_found", "_law_due_here"] (spSameQ 0) := ⟨f, fd, ok_sameQ F b g M 0, b, F.kp, g⟩
  refine F.ok (k := 0) sc__law_same (fun vs H Q E h => ?_) (fun cdv A outer s H vs Q E hr h => ?_)
  · obtain ⟨x, y, rfl, _⟩ := h
    rfl
  obtain ⟨x, c, rfl, q⟩ := h
  refine ⟨_, (pss_cons (ps_if (pt_val (pe_callB call_isiT rfl M.isinstance (by decide +kernel) (pa_cons (pv 1) (pa_cons (pe_tup (pa_cons (pe_bltn (v := .ty "tuple") rfl M.tuple (by decide +kernel) rfl) (pa_cons (pe_bltn (v := .ty "list") rfl M.list (by decide +kernel) rfl) pa_nil))) pa_nil))))
      (pss_cons (ps_if (pt_cmpR op_ne (pe_callB call_isi rfl M.isinstance (by decide +kernel) (pa_cons (pv 0) (pa_cons (pe_bltn (v := .ty "tuple") rfl M.tuple (by decide +kernel) rfl) pa_nil))) (pe_callB call_isi rfl M.isinstance (by decide +kernel) (pa_cons (pv 1) (pa_cons (pe_bltn (v := .ty "tuple") rfl M.tuple (by decide +kernel) rfl) pa_nil))) (nomark _))
      (pss_one (ps_ret pe_bl)) pss_nil)
    (pss_cons (ps_if (PW.pt (pw_or (pt_cmpR op_ne (pe_callB call_isi rfl M.isinstance (by decide +kernel) (pa_cons (pv 0) (pa_cons (pe_bltn (v := .ty "list") rfl M.list (by decide +kernel) rfl) pa_nil))) (pe_callB call_isi rfl M.isinstance (by decide +kernel) (pa_cons (pv 1) (pa_cons (pe_bltn (v := .ty "list") rfl M.list (by decide +kernel) rfl) pa_nil))) (nomark _)) (pw_or1 (pt_cmpR op_ne (pe_callB call_len_seq rfl M.len PySem.boot_len (pa_cons (pv 0) pa_nil)) (pe_callB call_len_seq rfl M.len PySem.boot_len (pa_cons (pv 1) pa_nil)) (nomark _)))))
      (pss_one (ps_ret pe_bl)) pss_nil)
    (pss_one (ps_ret (pe_cmpR (show OpR _ (compareOp .Eq) (rEqNil K) from op_eqL hr.units0) (pe_lc (own := [("_law_k", 2)]) (g := gName 2) rfl sc__law_same.nd (pi_range1 rfl M.range (pa_cons (pe_callB call_len_seq rfl M.len PySem.boot_len (pa_cons (pv 1) pa_nil)) pa_nil)) (blkOk_by (N := ["_law_found", "_law_due_here", "_law_k"]) (sc := defScope s__law_same) (by decide +kernel)) (fun _ _ _ _ _ => (pg_name (i := 2) sc__law_same.nd rfl (.inl rfl))) (fun _ _ _ _ _ => pts_one (pt_not (pt_val (pe_call Dself.ok (hr.mono (by omega)) rfl Dself.g Dself.kp Dself.b .nil pass0 (pa_cons (pe_ix (show IxR _ (rIx K) from ix_seq) (pv 0) (pv 2) (fun _ _ => rfl)) (pa_cons (pe_ix (show IxR _ (rIx K) from ix_seq) (pv 1) (pv 2) (fun _ _ => rfl)) pa_nil)))))) (fun _ _ _ _ _ => (pv 2))) (pe_lst pa_nil) (nomark _)))))) pss_nil)
    (pss_cons (ps_if (pt_val (pe_callB call_isi rfl M.isinstance (by decide +kernel) (pa_cons (pv 1) (pa_cons (pe_bltn (v := .ty "dict") rfl M.dict (by decide +kernel) rfl) pa_nil))))
      (pss_one ps_never) pss_nil)
    (pss_cons (ps_if (pt_cmpR op_isN (pv 1) pe_non (nomark _))
      (pss_one (ps_ret (pe_cmpR op_isN (pv 0) pe_non (nomark _)))) pss_nil)
    (pss_cons (ps_if (pt_val (pe_callB call_isi rfl M.isinstance (by decide +kernel) (pa_cons (pv 1) (pa_cons (pe_bltn (v := .ty "str") rfl M.str (by decide +kernel) rfl) pa_nil))))
      (pss_one (ps_ret (pe_and (pe_callB call_isi rfl M.isinstance (by decide +kernel) (pa_cons (pv 0) (pa_cons (pe_bltn (v := .ty "str") rfl M.str (by decide +kernel) rfl) pa_nil))) (pe_one (pe_cmpR op_eq (pv 0) (pv 1) (nomark _)))))) pss_nil)
    (pss_one (ps_ret (pe_and (pe_callB call_isi rfl M.isinstance (by decide +kernel) (pa_cons (pv 0) (pa_cons (pe_bltn (v := .ty "int") rfl M.int (by decide +kernel) rfl) pa_nil))) (pe_and (pe_cmpR op_eq (pe_callB call_isi rfl M.isinstance (by decide +kernel) (pa_cons (pv 0) (pa_cons (pe_bltn (v := .ty "bool") rfl M.bool (by decide +kernel) rfl) pa_nil))) (pe_callB call_isi rfl M.isinstance (by decide +kernel) (pa_cons (pv 1) (pa_cons (pe_bltn (v := .ty "bool") rfl M.bool (by decide +kernel) rfl) pa_nil))) (nomark _)) (pe_one (pe_cmpR op_eq (pv 0) (pv 1) (nomark _))))))))))), ?_⟩
  refine ⟨_, rfl, (by show 2 ≤ sizeLine; decide), fun tp np => ?_⟩
  have s1 := same_new np (.tup [.ty "tuple", .ty "list"])
  have pr : Paired ClsV [V.ty "tuple", V.ty "list"] [Value.type "tuple", Value.type "list"] := .cons (.ty _) (.cons (.ty _) .nil)
  refine ⟨_, tp, _, _, _, false, rfl, upd_same, pr, .base (.bl c), kit_tl (r := false) (s := false) (by decide +kernel) (by decide +kernel), _, rfl, iteF ?_⟩
  refine ⟨_, rfl, _, _, _, _, false, rfl, .ty _, .base (.bl c), kit_ty (by decide +kernel), _, rfl, iteF ?_⟩
  refine ⟨_, rfl, rfl, _, rfl, iteF ?_⟩
  refine ⟨_, rfl, _, _, _, _, false, rfl, .ty _, .base (.bl c), kit_ty (by decide +kernel), _, rfl, iteF ?_⟩
  refine ⟨_, rfl, _, _, _, _, true, rfl, .ty _, .base (.bl x), kit_ty (by decide +kernel), _, rfl, iteT ?_⟩
  refine ⟨_, rfl, _, _, _, _, true, rfl, .ty _, .base (.bl x), kit_ty (by decide +kernel), _, rfl, _, _, _, _, true, rfl, .ty _, .base (.bl c), kit_ty (by decide +kernel), rfl, _, rfl, iteT ?_⟩
  refine ⟨_, rfl, _, rfl, rfl, ?_⟩
  rw [show decide (V.bl x = V.bl c) = decide (x = c) by cases x <;> cases c <;> rfl]
  exact q _ s1
/-! ### the mirrored tree -/
def B.tn : B → B
  | .nil => .nil
  | .node l x r => .node r.tn x l.tn
theorem B.tn_size : ∀ t : B, t.tn.size = t.size
  | .nil => rfl
  | .node l x r => by
    have h1 := l.tn_size
    have h2 := r.tn_size
    show r.tn.size + 1 + l.tn.size = l.size + 1 + r.size
    omega
theorem B.tn_lt : ∀ {t : B}, ltB t → ltB t.tn
  | .nil, h => h
  | .node _ _ _, h => (B.tn_lt h.r).mk h.x (B.tn_lt h.l)
def spTurned (n : Nat) : Sp := fun vs H Q _ => ∃ (v : V) (t : B), vs = [v] ∧ BAt H v t ∧ t.size < n ∧ ∀ (v' : V) (H' : Hp), Same H H' → BAt H' v' t.tn → Q v' H'
theorem ok_turned (F : Fun K "_law_turned" "_law_turned" s__law_turned f fd) (b : Binds K fd ["_law_tree"] []) (g : mg "_law_turned" = some (.ref f)) : ∀ n : Nat, FnOk P w K mg base CX0 n f fd ["_law_tree"] (spTurned n)
  | 0 => by
    have no : ∀ vs H Q E, ¬ spTurned 0 vs H Q E := fun vs H Q E h => by
      obtain ⟨v, t, _, _, h1, _⟩ := h
      exact absurd h1 (Nat.not_lt_zero _)
    exact ⟨fun vs H Q E h => absurd h (no vs H Q E), fun A outer s H args us vs Q E _ _ _ _ h => absurd h (no vs H Q E)⟩
  | n + 1 => by
    have Dself : Df P w K mg base n "_law_turned" ["_law_tree"] (spTurned n) := ⟨f, fd, ok_turned F b g n, b, F.kp, g⟩
    refine F.ok sc__law_turned (fun vs H Q E h => ?_) (fun cdv A outer s H vs Q E hr h => ?_)
    · obtain ⟨v, t, rfl, _⟩ := h
      rfl
    obtain ⟨v, t, rfl, hv, hz, q⟩ := h
    refine ⟨_, (pss_cons (ps_if (pt_cmpR op_isN (pv 0) pe_non (nomark _))
      (pss_one (ps_ret pe_non)) pss_nil)
    (pss_cons (ps_asg (pv 0) (pg_tup rfl (pgs_cons (pg_name (i := 1) sc__law_turned.nd rfl (.inl rfl)) (pgs_cons (pg_name (i := 2) sc__law_turned.nd rfl (.inl rfl)) (pgs_cons (pg_name (i := 3) sc__law_turned.nd rfl (.inl rfl)) pgs_nil)))))
    (pss_one (ps_ret (pe_tup (pa_cons (pe_call Dself.ok (hr.mono (by omega)) rfl Dself.g Dself.kp Dself.b .nil pass0 (pa_cons (pv 3) pa_nil)) (pa_cons (pv 2) (pa_cons (pe_call Dself.ok (hr.mono (by omega)) rfl Dself.g Dself.kp Dself.b .nil pass0 (pa_cons (pv 1) pa_nil)) pa_nil)))))))), ?_⟩
    rcases hv.inv with ⟨rfl, rfl⟩ | ⟨a, l, r, x, tl, tr, rfl, rfl, ea, hl, hr'⟩
    · refine ⟨_, rfl, rfl, _, rfl, iteT ?_⟩
      exact q _ H (Same.refl _) .nil
    have sz : tl.size + 1 + tr.size < n + 1 := hz
    refine ⟨_, rfl, rfl, _, rfl, iteF ?_⟩
    refine ⟨_, rfl, a, _, rfl, SqT.of ea, rfl, _, _, rfl, _, _, rfl, _, _, rfl, rfl, ?_⟩
    refine ⟨_, rfl, r, tr, rfl, hr', by omega, fun v1 H1 s1 b1 => ?_⟩
    refine ⟨_, rfl, _, rfl, l, tl, rfl, hl.same s1, by omega, fun v2 H2 s2 b2 => ?_⟩
    refine ⟨(by show 3 ≤ sizeLine; decide), fun p np => ?_⟩
    have k := same_new np (.tup [v1, .str (ch x), v2])
    exact q _ _ (s1.trans (s2.trans k)) (.node upd_same ((b1.same s2).same k) (b2.same k))
end
/-! ### what repr shows, as a list of signs -/
abbrev sl (d : PyData) : List Nat := d.shown.cps.toList
theorem al_char : ∀ c, isAl c = true → Builtin.Str.reprChar 39 c = [c] := by
  have h : ∀ c ∈ (List.range' 65 26 ++ List.range' 97 26), Builtin.Str.reprChar 39 c = [c] := by decide +kernel
  intro c hc
  refine h c ?_
  unfold isAl at hc
  rw [Bool.or_eq_true, Bool.and_eq_true, Bool.and_eq_true, decide_eq_true_eq, decide_eq_true_eq, decide_eq_true_eq, decide_eq_true_eq] at hc
  rw [List.mem_append, List.mem_range', List.mem_range']
  rcases hc with h | h
  · exact .inl ⟨c - 65, by omega, by omega⟩
  · exact .inr ⟨c - 97, by omega, by omega⟩
theorem al_fold : ∀ (l : List Nat) (acc : Array Nat), (∀ c ∈ l, isAl c = true) → (l.foldl (fun out c => out ++ (Builtin.Str.reprChar 39 c).toArray) acc).toList = acc.toList ++ l
  | [], acc, _ => by simp
  | c :: r, acc, h => by
    rw [List.foldl_cons, al_fold r _ fun d hd => h d (List.mem_cons_of_mem _ hd), al_char c (h c List.mem_cons_self)]
    simp
theorem al_quote {x : Str} (h : ∀ c ∈ x.cps.toList, isAl c = true) : PySem.reprQuote x = 39 := by
  have : x.cps.contains 39 = false := by
    rw [Bool.eq_false_iff]
    intro z
    have := Array.contains_iff_mem.mp z
    have := h 39 (Array.mem_toList_iff.mpr this)
    exact absurd this (by decide)
  unfold PySem.reprQuote
  rw [this, Bool.false_and, if_neg Bool.false_ne_true]
theorem sl_str {z : List Nat} (h : ∀ c ∈ z, isAl c = true) : sl (.str (tx z)) = 39 :: (z ++ [39]) := by
  show (PyData.shown (.str (tx z))).cps.toList = _
  simp only [PyData.shown]
  unfold reprText
  rw [al_quote (x := tx z) h]
  show ((_ : Array Nat).push 39).toList = _
  rw [Array.toList_push, ← Array.foldl_toList, tx_cps, al_fold z _ h]
  rfl
/-- what stands behind the first item -/
def tl : Bool → List PyData → List Nat
  | true, [] => [44, 41]
  | false, [] => [41]
  | _, y :: ys => 44 :: 32 :: (sl y ++ tl false ys)
theorem str_app (a b : Str) : (a ++ b).cps.toList = a.cps.toList ++ b.cps.toList := by
  show (a.cps ++ b.cps).toList = _
  rw [Array.toList_append]
theorem join_tl : ∀ (x : PyData) (xs : List PyData), (Str.join ", " (PyData.shownAll (x :: xs))).cps.toList ++ [41] = sl x ++ tl false xs
  | x, [] => by
    simp only [PyData.shownAll, Str.join, tl]
  | x, y :: ys => by
    have ih := join_tl y ys
    simp only [PyData.shownAll] at ih ⊢
    simp only [Str.join]
    rw [str_app, str_app, List.append_assoc, ih, List.append_assoc]
    rfl
theorem sl_tup0 : sl (.tuple []) = [40, 41] := by
  show (PyData.shown (.tuple [])).cps.toList = _
  simp only [PyData.shown, PyData.shownAll]
  decide +kernel
theorem sl_tup (x : PyData) (xs : List PyData) : sl (.tuple (x :: xs)) = 40 :: (sl x ++ tl true xs) := by
  show (PyData.shown (.tuple (x :: xs))).cps.toList = _
  simp only [PyData.shown]
  unfold tupleText
  rw [str_app, str_app]
  cases xs with
  | nil =>
    simp only [PyData.shownAll, Str.join, tl]
    rfl
  | cons y ys =>
    have h := join_tl x (y :: ys)
    have e : (((PyData.shownAll (x :: y :: ys)).length == 1) = false) := by
      simp only [PyData.shownAll]
      rfl
    rw [e, if_neg (by decide), List.append_assoc]
    show [40] ++ ((Str.join ", " (PyData.shownAll (x :: y :: ys))).cps.toList ++ [41]) = _
    rw [h]
    rfl
theorem from_pre : ∀ (ts : List Str) (k : Nat) (acc : Str), ∃ r, (textFrom k acc ts).cps.toList = acc.cps.toList ++ r
  | [], k, acc => ⟨[], by simp [textFrom]⟩
  | t :: ts, k, acc => by
    obtain ⟨r, e⟩ := from_pre ts (k + 1) (acc ++ (if k > 0 then ", " else "" : String) ++ t)
    refine ⟨(Str.ofString (if k > 0 then ", " else "" : String)).cps.toList ++ (t.cps.toList ++ r), ?_⟩
    unfold textFrom
    rw [e, str_app, str_app, List.append_assoc, List.append_assoc]
/-- the digits of a number that may occur -/
abbrev dig (i : Int) : List Nat := (Str.ofString (toString i)).cps.toList
theorem dig_all : okInts.all (fun i => (match dig i with | c :: _ => ((decide (48 ≤ c) && decide (c ≤ 57)) || decide (c = 45)) | [] => false) && (dig i).all (fun c => decide (c ≠ 41) && decide (c ≠ 44)) && (List.range 10).all fun l => !decide (dig i = [48 + l]) || decide (i = (l : Int))) = true := by decide +kernel
theorem dig_ok {i : Int} (h : gd (.int i) = true) : (∃ c r, dig i = c :: r ∧ ((48 ≤ c ∧ c ≤ 57) ∨ c = 45)) ∧ (∀ c ∈ dig i, c ≠ 41 ∧ c ≠ 44) ∧ ∀ l : Nat, l < 10 → dig i = [48 + l] → i = (l : Int) := by
  simp only [gd, decide_eq_true_eq] at h
  have := List.all_eq_true.mp dig_all i h
  rw [Bool.and_eq_true, Bool.and_eq_true, List.all_eq_true, List.all_eq_true] at this
  obtain ⟨⟨h1, h2⟩, h3⟩ := this
  refine ⟨?_, fun c hc => ?_, fun l hl e => ?_⟩
  · match hd : dig i with
    | [] => rw [hd] at h1; cases h1
    | c :: r =>
      rw [hd] at h1
      refine ⟨c, r, rfl, ?_⟩
      have h1' : ((decide (48 ≤ c) && decide (c ≤ 57)) || decide (c = 45)) = true := h1
      rw [Bool.or_eq_true, Bool.and_eq_true, decide_eq_true_eq, decide_eq_true_eq, decide_eq_true_eq] at h1'
      exact h1'
  · have := h2 c hc
    rw [Bool.and_eq_true, decide_eq_true_eq, decide_eq_true_eq] at this
    exact this
  · have := h3 l (List.mem_range.mpr hl)
    rw [Bool.or_eq_true, Bool.not_eq_true', decide_eq_false_iff_not, decide_eq_true_eq] at this
    exact this.resolve_left fun z => z e
theorem dig_nat {l : Nat} (h : l < 10) : dig (l : Int) = [48 + l] := by
  have : ∀ l ∈ List.range 10, dig (l : Int) = [48 + l] := by decide +kernel
  exact this l (List.mem_range.mpr h)
theorem sl_int (i : Int) : sl (.int i) = dig i := by
  show (PyData.shown (.int i)).cps.toList = _
  simp only [PyData.shown]
/-- how a value begins -/
theorem head_of {d : PyData} (g : gd d = true) : ∃ c r, sl d = c :: r ∧ (c = 40 → ∃ ds, d = .tuple ds) ∧ (c = 39 → ∃ z, d = .str (tx z) ∧ ∀ e ∈ z, isAl e = true) ∧ ((48 ≤ c ∧ c ≤ 57) → ∃ i, d = .int i) := by
  match d, g with
  | .none, _ => exact ⟨78, _, by show (PyData.shown .none).cps.toList = _; simp only [PyData.shown]; rfl, (fun z => absurd z (by decide)), (fun z => absurd z (by decide)), (fun z => absurd z (by decide))⟩
  | .bool true, _ => exact ⟨84, _, by show (PyData.shown (.bool true)).cps.toList = _; simp only [PyData.shown]; rfl, (fun z => absurd z (by decide)), (fun z => absurd z (by decide)), (fun z => absurd z (by decide))⟩
  | .bool false, _ => exact ⟨70, _, by show (PyData.shown (.bool false)).cps.toList = _; simp only [PyData.shown]; rfl, (fun z => absurd z (by decide)), (fun z => absurd z (by decide)), (fun z => absurd z (by decide))⟩
  | .int i, g =>
    obtain ⟨⟨c, r, e, h⟩, _⟩ := dig_ok g
    exact ⟨c, r, by rw [sl_int, e], fun z => by omega, fun z => by omega, fun _ => ⟨i, rfl⟩⟩
  | .str x, g =>
    have h := (gd_al g).2
    exact ⟨39, _, sl_str (z := x.cps.toList) h, (fun z => absurd z (by decide)), fun _ => ⟨x.cps.toList, rfl, h⟩, (fun z => absurd z (by decide))⟩
  | .tuple [], _ => exact ⟨40, _, sl_tup0, fun _ => ⟨_, rfl⟩, (fun z => absurd z (by decide)), (fun z => absurd z (by decide))⟩
  | .tuple (x :: xs), _ => exact ⟨40, _, sl_tup x xs, fun _ => ⟨_, rfl⟩, (fun z => absurd z (by decide)), (fun z => absurd z (by decide))⟩
  | .list ds, _ =>
    obtain ⟨r, e⟩ := from_pre (PyData.shownAll ds) 0 "["
    refine ⟨91, r ++ [93], ?_, (fun z => absurd z (by decide)), (fun z => absurd z (by decide)), (fun z => absurd z (by decide))⟩
    show (PyData.shown (.list ds)).cps.toList = _
    simp only [PyData.shown]
    unfold listText
    rw [str_app, e]
    rfl
  | .dict kvs, g =>
    simp only [gd] at g
    cases kvs with
    | nil =>
      refine ⟨123, [125], ?_, (fun z => absurd z (by decide)), (fun z => absurd z (by decide)), (fun z => absurd z (by decide))⟩
      show (PyData.shown (.dict [])).cps.toList = _
      simp only [PyData.shown, PyData.shownKv]
      decide +kernel
    | cons p r => exact absurd g Bool.false_ne_true
theorem tl_head (b : Bool) (xs : List PyData) : ∃ c r, tl b xs = c :: r ∧ (c = 41 ∨ c = 44) ∧ (c = 44 → (b = true ∧ xs = []) ∨ xs ≠ []) ∧ (c = 41 → b = false ∧ xs = []) := by
  cases xs with
  | nil =>
    cases b with
    | true => exact ⟨44, [41], rfl, .inr rfl, fun _ => .inl ⟨rfl, rfl⟩, (fun z => absurd z (by decide))⟩
    | false => exact ⟨41, [], rfl, .inl rfl, (fun z => absurd z (by decide)), fun _ => ⟨rfl, rfl⟩⟩
  | cons y ys => exact ⟨44, _, by cases b <;> rfl, .inr rfl, fun _ => .inr (by simp), (fun z => absurd z (by decide))⟩
theorem split_at {p q R S : List Nat} {c e : Nat} (bad : Nat → Prop) (hp : ∀ x ∈ p, ¬ bad x) (hq : ∀ x ∈ q, ¬ bad x) (hc : bad c) (he : bad e) (h : p ++ c :: R = q ++ e :: S) : p = q ∧ c = e ∧ R = S := by
  induction p generalizing q with
  | nil =>
    cases q with
    | nil =>
      have := List.cons.inj h
      exact ⟨rfl, this.1, this.2⟩
    | cons y q =>
      have := (List.cons.inj h).1
      exact absurd hc (by rw [this]; exact hq y List.mem_cons_self)
  | cons x p ih =>
    cases q with
    | nil =>
      have := (List.cons.inj h).1
      exact absurd he (by rw [← this]; exact hp x List.mem_cons_self)
    | cons y q =>
      obtain ⟨h1, h2⟩ := List.cons.inj h
      obtain ⟨h3, h4, h5⟩ := ih (fun z hz => hp z (List.mem_cons_of_mem _ hz)) (fun z hz => hq z (List.mem_cons_of_mem _ hz)) h2
      exact ⟨by rw [h1, h3], h4, h5⟩
/-- an item that is shown as one digit -/
theorem one_int {x : PyData} (g : gd x = true) {R S : List Nat} {c e l : Nat} (hc : c = 41 ∨ c = 44) (he : e = 41 ∨ e = 44) (hl : l < 10) (h : sl x ++ c :: R = (48 + l) :: e :: S) : x = .int (l : Int) ∧ c = e ∧ R = S := by
  obtain ⟨k, r, e1, _, _, h3⟩ := head_of g
  have hk : k = 48 + l := by
    rw [e1] at h
    exact (List.cons.inj h).1
  obtain ⟨i, rfl⟩ := h3 (by omega)
  obtain ⟨_, d2, d3⟩ := dig_ok g
  rw [sl_int] at h
  obtain ⟨a1, a2, a3⟩ := split_at (p := dig i) (q := [48 + l]) (fun z => z = 41 ∨ z = 44) (fun z hz => by have := d2 z hz; omega) (fun z hz => by rw [List.mem_singleton.mp hz]; omega) hc he h
  exact ⟨by rw [d3 l hl a1], a2, a3⟩
/-- the places of a barrier, as they are shown -/
def trT (l h b : Nat) : PyData := .tuple [.int (l : Int), .int (h : Int), .int (b : Int)]
theorem sl_trT {l h b : Nat} (hl : l < 10) (hh : h < 10) (hb : b < 10) : sl (trT l h b) = [40, 48 + l, 44, 32, 48 + h, 44, 32, 48 + b, 41] := by
  unfold trT
  rw [sl_tup]
  simp only [tl, sl_int, dig_nat hl, dig_nat hh, dig_nat hb]
  rfl
theorem gds_cons {x : PyData} {xs : List PyData} (h : gd (.tuple (x :: xs)) = true) : gd x = true ∧ gd (.tuple xs) = true := by
  simp only [gd, gds, Bool.and_eq_true] at h ⊢
  exact h
theorem is_trT {d : PyData} (g : gd d = true) {R S : List Nat} {l h b : Nat} (hl : l < 10) (hh : h < 10) (hb : b < 10) (e : sl d ++ R = sl (trT l h b) ++ S) : d = trT l h b ∧ R = S := by
  rw [sl_trT hl hh hb] at e
  obtain ⟨k, r, e1, h1, _, _⟩ := head_of g
  have hk : k = 40 := by
    rw [e1] at e
    exact (List.cons.inj e).1
  obtain ⟨ds, rfl⟩ := h1 hk
  match ds, g with
  | [], _ =>
    rw [sl_tup0] at e
    have := (List.cons.inj (List.cons.inj e).2).1
    omega
  | x1 :: ds, g =>
    obtain ⟨g1, ga⟩ := gds_cons g
    clear g
    rw [sl_tup] at e
    obtain ⟨c1, r1, t1, u1, v1, w1⟩ := tl_head true ds
    rw [t1] at e
    have e' : sl x1 ++ c1 :: (r1 ++ R) = (48 + l) :: 44 :: ([32, 48 + h, 44, 32, 48 + b, 41] ++ S) := by
      have := (List.cons.inj e).2
      simpa using this
    obtain ⟨rfl, rfl, e2⟩ := one_int g1 u1 (.inr rfl) hl e'
    match ds, ga with
    | [], _ =>
      have t1' : ([44, 41] : List Nat) = 44 :: r1 := t1
      have := (List.cons.inj t1').2
      rw [← this] at e2
      have := (List.cons.inj e2).1
      omega
    | x2 :: ds, ga =>
      obtain ⟨g2, gb⟩ := gds_cons ga
      clear ga
      have t1' : 44 :: 32 :: (sl x2 ++ tl false ds) = 44 :: r1 := t1
      have := (List.cons.inj t1').2
      rw [← this] at e2
      obtain ⟨c2, r2, t2, u2, v2, w2⟩ := tl_head false ds
      rw [t2] at e2
      have e2' : sl x2 ++ c2 :: (r2 ++ R) = (48 + h) :: 44 :: ([32, 48 + b, 41] ++ S) := by
        have := (List.cons.inj e2).2
        simpa using this
      obtain ⟨rfl, rfl, e3⟩ := one_int g2 u2 (.inr rfl) hh e2'
      match ds, gb with
      | [], _ => cases t2
      | x3 :: ds, gb =>
        obtain ⟨g3, gc⟩ := gds_cons gb
        clear gb
        have t2' : 44 :: 32 :: (sl x3 ++ tl false ds) = 44 :: r2 := t2
        have := (List.cons.inj t2').2
        rw [← this] at e3
        obtain ⟨c3, r3, t3, u3, v3, w3⟩ := tl_head false ds
        rw [t3] at e3
        have e3' : sl x3 ++ c3 :: (r3 ++ R) = (48 + b) :: 41 :: S := by
          have := (List.cons.inj e3).2
          simpa using this
        obtain ⟨rfl, rfl, e4⟩ := one_int g3 u3 (.inl rfl) hb e3'
        obtain ⟨_, rfl⟩ := w3 rfl
        have t3' : ([41] : List Nat) = 41 :: r3 := t3
        have := (List.cons.inj t3').2
        rw [← this] at e4
        exact ⟨rfl, e4⟩
def barT : List Nat := (Str.ofString "barrier").cps.toList
theorem bar_tx : Str.ofString "barrier" = tx barT := rfl
theorem bar_al : ∀ c ∈ barT, isAl c = true := by decide +kernel
/-- a value that is shown as a barrier is that barrier -/
theorem is_bar {d : PyData} (g : gd d = true) {l h b : Nat} (hl : l < 10) (hh : h < 10) (hb : b < 10) (e : d.shown = (PyData.tuple [.str "barrier", trT l h b]).shown) : d = .tuple [.str "barrier", trT l h b] := by
  have e : sl d = sl (.tuple [.str "barrier", trT l h b]) := by show d.shown.cps.toList = _; rw [e]
  have et : sl (.tuple [.str "barrier", trT l h b]) = 40 :: ((39 :: (barT ++ [39])) ++ (44 :: 32 :: (sl (trT l h b) ++ [41]))) := by
    rw [sl_tup]
    show 40 :: (sl (.str (tx barT)) ++ _) = _
    rw [sl_str bar_al]
    rfl
  rw [et] at e
  obtain ⟨k, r, e1, h1, _, _⟩ := head_of g
  have hk : k = 40 := by
    rw [e1] at e
    exact (List.cons.inj e).1
  obtain ⟨ds, rfl⟩ := h1 hk
  match ds, g with
  | [], _ =>
    rw [sl_tup0] at e
    have := (List.cons.inj (List.cons.inj e).2).1
    omega
  | x1 :: ds, g =>
    obtain ⟨g1, ga⟩ := gds_cons g
    clear g
    rw [sl_tup] at e
    have e := (List.cons.inj e).2
    obtain ⟨k1, r1, e1, _, hs, _⟩ := head_of g1
    have hk1 : k1 = 39 := by
      rw [e1] at e
      exact (List.cons.inj e).1
    obtain ⟨z, rfl, hz⟩ := hs hk1
    rw [sl_str hz] at e
    have e' : z ++ 39 :: tl true ds = barT ++ 39 :: (44 :: 32 :: (sl (trT l h b) ++ [41])) := by
      have := (List.cons.inj e).2
      simpa using this
    have no39 : ∀ c, isAl c = true → ¬ (c = 39) := fun c hc z => by rw [z] at hc; exact absurd hc (by decide)
    obtain ⟨rfl, _, e2⟩ := split_at (fun c => c = 39) (fun c hc => no39 c (hz c hc)) (fun c hc => no39 c (bar_al c hc)) rfl rfl e'
    match ds, ga with
    | [], _ =>
      have := (List.cons.inj (List.cons.inj e2).2).1
      omega
    | x2 :: ds, ga =>
      obtain ⟨g2, gb⟩ := gds_cons ga
      clear ga
      have e3 : sl x2 ++ tl false ds = sl (trT l h b) ++ [41] := (List.cons.inj (List.cons.inj e2).2).2
      obtain ⟨rfl, e4⟩ := is_trT g2 hl hh hb e3
      obtain ⟨c, r, t, _, _, w⟩ := tl_head false ds
      rw [t] at e4
      obtain ⟨_, rfl⟩ := w (List.cons.inj e4).1
      rfl
/-! ### _law_odd -/
/-- a value that may be shown: light, not deep -/
def Gd (D : Deck) (H : Hp) (W B : Nat) (v : V) : Prop := ∃ d : PyData, DQ D H v d ∧ gd d = true ∧ wt d ≤ W ∧ d.depth ≤ B
theorem Gd.sameD {D : Deck} {H H' : Hp} {W B : Nat} {v : V} (s : SameD D H H') (h : Gd D H W B v) : Gd D H' W B v := by
  obtain ⟨d, h1, h2⟩ := h
  exact ⟨d, dq_sameD s h1, h2⟩
theorem Gd.same {D : Deck} {H H' : Hp} {W B : Nat} {v : V} (s : Same H H') (h : Gd D H W B v) : Gd D H' W B v := h.sameD (SameD.of s)
theorem Gd.mono {D : Deck} {H : Hp} {W B W' B' : Nat} {v : V} (h : Gd D H W B v) (hw : W ≤ W') (hb : B ≤ B') : Gd D H W' B' v := by
  obtain ⟨d, h1, h2, h3, h4⟩ := h
  exact ⟨d, h1, h2, Nat.le_trans h3 hw, Nat.le_trans h4 hb⟩
theorem dq_newT {D : Deck} {H : Hp} (dk : DeckOk H D) {p : Addr} (np : H p = none) {xs : List V} {ds : List PyData} (al : DQAll D H xs ds) : DQ D (upd H p (.tup xs)) (.ref p) (.tuple ds) := .tup (dk.new np) upd_same (dqAll_same (same_new np _) al)
theorem dq_newL {D : Deck} {H : Hp} (dk : DeckOk H D) {p : Addr} (np : H p = none) {xs : List V} {ds : List PyData} (al : DQAll D H xs ds) : DQ D (upd H p (.lst xs)) (.ref p) (.list ds) := .lst (dk.new np) upd_same (dqAll_same (same_new np _) al)
theorem dq_newE {D : Deck} {H : Hp} (dk : DeckOk H D) {p : Addr} (np : H p = none) : DQ D (upd H p (.dK [])) (.ref p) (.dict []) := .emp (dk.new np) upd_same
def spOdd : Sp := fun vs H Q _ => ∃ (D : Deck), vs = [.ref D.dk] ∧ DeckOk H D ∧ ∀ (v : V) (H' : Hp), DeckOk H' D → SameD D H H' → Gd D H' 2000 2 v → Q v H'
def odds : List PyData := [.none, .bool true, .bool false, .int (-1), .int 0, .int 1, .int 2, .int ((10 : Int) ^ Int.toNat 59), .str "", .str "a", .str "tree", .str "barrier", .tuple [], .list [], .dict [], .tuple [.int 0], .list [.int 0], .tuple [.bool true, .int 1, .int 2], .tuple [.tuple [.int 0]], .tuple [.list [.int 0]], .tuple [.dict []], .tuple [.none, .str "a", .none], .str "ab"]
theorem odds_ok : odds.all (fun d => gd d && decide (wt d ≤ 2000) && decide (d.depth ≤ 2)) = true := by decide +kernel
section
variable {P : Program} {w : World} {K : PySem.W.Frag} {mg : Str → Option Value} {base : Heap} {f : Addr} {fd : FuncData}
theorem ok_odd {k : Nat} (F : Fun K "_law_odd" "_law_odd" s__law_odd f fd) (D_law_next : Df P w K mg base (k + 1) "_law_next" ["_law_deck", "_law_many"] spNext) : FnOk P w K mg base CX0 (k + 2) f fd ["_law_deck"] spOdd := by
  refine F.ok (k := k + 1) sc__law_odd (fun vs H Q E h => ?_) (fun cdv A outer s H vs Q E hr h => ?_)
  · obtain ⟨D, rfl, _⟩ := h
    rfl
  obtain ⟨D, rfl, dk, q⟩ := h
  refine ⟨_, (pss_cons (ps_set (i := 1) sc__law_odd.nd rfl (.inl rfl) (pe_lst (pa_cons pe_non (pa_cons pe_bl (pa_cons pe_bl (pa_cons (pe_un un_neg pe_int) (pa_cons pe_int (pa_cons pe_int (pa_cons pe_int (pa_cons (pe_op op_pow pe_int pe_int) (pa_cons pe_str (pa_cons pe_str (pa_cons pe_str (pa_cons pe_str (pa_cons (pe_tup pa_nil) (pa_cons (pe_lst pa_nil) (pa_cons pe_dnewK (pa_cons (pe_tup (pa_cons pe_int pa_nil)) (pa_cons (pe_lst (pa_cons pe_int pa_nil)) (pa_cons (pe_tup (pa_cons pe_bl (pa_cons pe_int (pa_cons pe_int pa_nil)))) pa_nil))))))))))))))))))))
    (pss_one (ps_ret (pe_ix ix_list (pe_op op_cat (pv 1) (pe_lst (pa_cons (pe_tup (pa_cons (pe_tup (pa_cons pe_int pa_nil)) pa_nil)) (pa_cons (pe_tup (pa_cons (pe_lst (pa_cons pe_int pa_nil)) pa_nil)) (pa_cons (pe_tup (pa_cons pe_dnewK pa_nil)) (pa_cons (pe_tup (pa_cons pe_non (pa_cons pe_str (pa_cons pe_non pa_nil)))) (pa_cons pe_str pa_nil))))))) (pe_call D_law_next.ok (hr.mono (by omega)) rfl D_law_next.g D_law_next.kp D_law_next.b .nil pass0 (pa_cons (pv 0) (pa_cons pe_int pa_nil))) (fun _ _ => rfl))))), ?_⟩
  have sm := Same.refl H
  refine ⟨1, rfl, ?_⟩
  refine ⟨_, _, rfl, rfl, ⟨by decide, by decide, by decide⟩, ?_⟩
  refine ⟨(by show 0 ≤ sizeLine; decide), fun p1 n1 => ?_⟩
  have q1 := same_new n1 (.tup [])
  have a1 := dq_newT (xs := []) (ds := []) dk n1 .nil
  have x1 := upd_same (H := H) (a := p1) (o := .tup [])
  have f1 := dk.new n1
  have dk := dk.same q1
  have sm := sm.trans q1
  clear q1 n1
  generalize upd H p1 (.tup []) = H1 at x1 dk sm a1 ⊢
  refine ⟨(by show 0 ≤ sizeLine; decide), fun p2 n2 => ?_⟩
  have q2 := same_new n2 (.lst [])
  have a2 := dq_newL (xs := []) (ds := []) dk n2 .nil
  have x2 := upd_same (H := H1) (a := p2) (o := .lst [])
  have f2 := dk.new n2
  have a1 := dq_same q2 a1
  have dk := dk.same q2
  have sm := sm.trans q2
  clear q2 n2
  generalize upd H1 p2 (.lst []) = H2 at x2 dk sm a2 a1 ⊢
  refine fun p3 n3 => ?_
  have q3 := same_new n3 (.dK [])
  have a3 := dq_newE dk n3
  have x3 := upd_same (H := H2) (a := p3) (o := .dK [])
  have f3 := dk.new n3
  have a1 := dq_same q3 a1
  have a2 := dq_same q3 a2
  have dk := dk.same q3
  have sm := sm.trans q3
  clear q3 n3
  generalize upd H2 p3 (.dK []) = H3 at x3 dk sm a3 a1 a2 ⊢
  refine ⟨(by show 1 ≤ sizeLine; decide), fun p4 n4 => ?_⟩
  have q4 := same_new n4 (.tup [.int 0])
  have a4 := dq_newT (xs := [.int 0]) (ds := [.int 0]) dk n4 (.cons (.int _) .nil)
  have x4 := upd_same (H := H3) (a := p4) (o := .tup [.int 0])
  have f4 := dk.new n4
  have a1 := dq_same q4 a1
  have a2 := dq_same q4 a2
  have a3 := dq_same q4 a3
  have dk := dk.same q4
  have sm := sm.trans q4
  clear q4 n4
  generalize upd H3 p4 (.tup [.int 0]) = H4 at x4 dk sm a4 a1 a2 a3 ⊢
  refine ⟨(by show 1 ≤ sizeLine; decide), fun p5 n5 => ?_⟩
  have q5 := same_new n5 (.lst [.int 0])
  have a5 := dq_newL (xs := [.int 0]) (ds := [.int 0]) dk n5 (.cons (.int _) .nil)
  have x5 := upd_same (H := H4) (a := p5) (o := .lst [.int 0])
  have f5 := dk.new n5
  have a1 := dq_same q5 a1
  have a2 := dq_same q5 a2
  have a3 := dq_same q5 a3
  have a4 := dq_same q5 a4
  have dk := dk.same q5
  have sm := sm.trans q5
  clear q5 n5
  generalize upd H4 p5 (.lst [.int 0]) = H5 at x5 dk sm a5 a1 a2 a3 a4 ⊢
  refine ⟨(by show 3 ≤ sizeLine; decide), fun p6 n6 => ?_⟩
  have q6 := same_new n6 (.tup [.bl true, .int 1, .int 2])
  have a6 := dq_newT (xs := [.bl true, .int 1, .int 2]) (ds := [.bool true, .int 1, .int 2]) dk n6 (.cons (.bl _) (.cons (.int _) (.cons (.int _) .nil)))
  have x6 := upd_same (H := H5) (a := p6) (o := .tup [.bl true, .int 1, .int 2])
  have f6 := dk.new n6
  have a1 := dq_same q6 a1
  have a2 := dq_same q6 a2
  have a3 := dq_same q6 a3
  have a4 := dq_same q6 a4
  have a5 := dq_same q6 a5
  have dk := dk.same q6
  have sm := sm.trans q6
  clear q6 n6
  generalize upd H5 p6 (.tup [.bl true, .int 1, .int 2]) = H6 at x6 dk sm a6 a1 a2 a3 a4 a5 ⊢
  refine ⟨(by show 18 ≤ sizeLine; decide), fun p7 n7 => ?_⟩
  have q7 := same_new n7 (.lst [.non, .bl true, .bl false, .int (-1), .int 0, .int 1, .int 2, .int ((10 : Int) ^ Int.toNat 59), .str "", .str "a", .str "tree", .str "barrier", .ref p1, .ref p2, .ref p3, .ref p4, .ref p5, .ref p6])
  have x7 := upd_same (H := H6) (a := p7) (o := .lst [.non, .bl true, .bl false, .int (-1), .int 0, .int 1, .int 2, .int ((10 : Int) ^ Int.toNat 59), .str "", .str "a", .str "tree", .str "barrier", .ref p1, .ref p2, .ref p3, .ref p4, .ref p5, .ref p6])
  have f7 := dk.new n7
  have a1 := dq_same q7 a1
  have a2 := dq_same q7 a2
  have a3 := dq_same q7 a3
  have a4 := dq_same q7 a4
  have a5 := dq_same q7 a5
  have a6 := dq_same q7 a6
  have dk := dk.same q7
  have sm := sm.trans q7
  clear q7 n7
  generalize upd H6 p7 (.lst [.non, .bl true, .bl false, .int (-1), .int 0, .int 1, .int 2, .int ((10 : Int) ^ Int.toNat 59), .str "", .str "a", .str "tree", .str "barrier", .ref p1, .ref p2, .ref p3, .ref p4, .ref p5, .ref p6]) = H7 at x7 dk sm a1 a2 a3 a4 a5 a6 ⊢
  refine ⟨_, rfl, ?_⟩
  refine ⟨(by show 1 ≤ sizeLine; decide), fun p8 n8 => ?_⟩
  have q8 := same_new n8 (.tup [.int 0])
  have a8 := dq_newT (xs := [.int 0]) (ds := [.int 0]) dk n8 (.cons (.int _) .nil)
  have x8 := upd_same (H := H7) (a := p8) (o := .tup [.int 0])
  have f8 := dk.new n8
  have a1 := dq_same q8 a1
  have a2 := dq_same q8 a2
  have a3 := dq_same q8 a3
  have a4 := dq_same q8 a4
  have a5 := dq_same q8 a5
  have a6 := dq_same q8 a6
  have x7 := q8 _ _ x7
  have dk := dk.same q8
  have sm := sm.trans q8
  clear q8 n8
  generalize upd H7 p8 (.tup [.int 0]) = H8 at x8 dk sm a8 a1 a2 a3 a4 a5 a6 x7 ⊢
  refine ⟨(by show 1 ≤ sizeLine; decide), fun p9 n9 => ?_⟩
  have q9 := same_new n9 (.tup [.ref p8])
  have a9 := dq_newT (xs := [.ref p8]) (ds := [.tuple [.int 0]]) dk n9 (.cons a8 .nil)
  have x9 := upd_same (H := H8) (a := p9) (o := .tup [.ref p8])
  have f9 := dk.new n9
  have a1 := dq_same q9 a1
  have a2 := dq_same q9 a2
  have a3 := dq_same q9 a3
  have a4 := dq_same q9 a4
  have a5 := dq_same q9 a5
  have a6 := dq_same q9 a6
  have a8 := dq_same q9 a8
  have x7 := q9 _ _ x7
  have dk := dk.same q9
  have sm := sm.trans q9
  clear q9 n9
  generalize upd H8 p9 (.tup [.ref p8]) = H9 at x9 dk sm a9 a1 a2 a3 a4 a5 a6 a8 x7 ⊢
  refine ⟨(by show 1 ≤ sizeLine; decide), fun p10 n10 => ?_⟩
  have q10 := same_new n10 (.lst [.int 0])
  have a10 := dq_newL (xs := [.int 0]) (ds := [.int 0]) dk n10 (.cons (.int _) .nil)
  have x10 := upd_same (H := H9) (a := p10) (o := .lst [.int 0])
  have f10 := dk.new n10
  have a1 := dq_same q10 a1
  have a2 := dq_same q10 a2
  have a3 := dq_same q10 a3
  have a4 := dq_same q10 a4
  have a5 := dq_same q10 a5
  have a6 := dq_same q10 a6
  have a8 := dq_same q10 a8
  have a9 := dq_same q10 a9
  have x7 := q10 _ _ x7
  have dk := dk.same q10
  have sm := sm.trans q10
  clear q10 n10
  generalize upd H9 p10 (.lst [.int 0]) = H10 at x10 dk sm a10 a1 a2 a3 a4 a5 a6 a8 a9 x7 ⊢
  refine ⟨(by show 1 ≤ sizeLine; decide), fun p11 n11 => ?_⟩
  have q11 := same_new n11 (.tup [.ref p10])
  have a11 := dq_newT (xs := [.ref p10]) (ds := [.list [.int 0]]) dk n11 (.cons a10 .nil)
  have x11 := upd_same (H := H10) (a := p11) (o := .tup [.ref p10])
  have f11 := dk.new n11
  have a1 := dq_same q11 a1
  have a2 := dq_same q11 a2
  have a3 := dq_same q11 a3
  have a4 := dq_same q11 a4
  have a5 := dq_same q11 a5
  have a6 := dq_same q11 a6
  have a8 := dq_same q11 a8
  have a9 := dq_same q11 a9
  have a10 := dq_same q11 a10
  have x7 := q11 _ _ x7
  have dk := dk.same q11
  have sm := sm.trans q11
  clear q11 n11
  generalize upd H10 p11 (.tup [.ref p10]) = H11 at x11 dk sm a11 a1 a2 a3 a4 a5 a6 a8 a9 a10 x7 ⊢
  refine fun p12 n12 => ?_
  have q12 := same_new n12 (.dK [])
  have a12 := dq_newE dk n12
  have x12 := upd_same (H := H11) (a := p12) (o := .dK [])
  have f12 := dk.new n12
  have a1 := dq_same q12 a1
  have a2 := dq_same q12 a2
  have a3 := dq_same q12 a3
  have a4 := dq_same q12 a4
  have a5 := dq_same q12 a5
  have a6 := dq_same q12 a6
  have a8 := dq_same q12 a8
  have a9 := dq_same q12 a9
  have a10 := dq_same q12 a10
  have a11 := dq_same q12 a11
  have x7 := q12 _ _ x7
  have dk := dk.same q12
  have sm := sm.trans q12
  clear q12 n12
  generalize upd H11 p12 (.dK []) = H12 at x12 dk sm a12 a1 a2 a3 a4 a5 a6 a8 a9 a10 a11 x7 ⊢
  refine ⟨(by show 1 ≤ sizeLine; decide), fun p13 n13 => ?_⟩
  have q13 := same_new n13 (.tup [.ref p12])
  have a13 := dq_newT (xs := [.ref p12]) (ds := [.dict []]) dk n13 (.cons a12 .nil)
  have x13 := upd_same (H := H12) (a := p13) (o := .tup [.ref p12])
  have f13 := dk.new n13
  have a1 := dq_same q13 a1
  have a2 := dq_same q13 a2
  have a3 := dq_same q13 a3
  have a4 := dq_same q13 a4
  have a5 := dq_same q13 a5
  have a6 := dq_same q13 a6
  have a8 := dq_same q13 a8
  have a9 := dq_same q13 a9
  have a10 := dq_same q13 a10
  have a11 := dq_same q13 a11
  have a12 := dq_same q13 a12
  have x7 := q13 _ _ x7
  have dk := dk.same q13
  have sm := sm.trans q13
  clear q13 n13
  generalize upd H12 p13 (.tup [.ref p12]) = H13 at x13 dk sm a13 a1 a2 a3 a4 a5 a6 a8 a9 a10 a11 a12 x7 ⊢
  refine ⟨(by show 3 ≤ sizeLine; decide), fun p14 n14 => ?_⟩
  have q14 := same_new n14 (.tup [.non, .str "a", .non])
  have a14 := dq_newT (xs := [.non, .str "a", .non]) (ds := [.none, .str "a", .none]) dk n14 (.cons .non (.cons (.str _) (.cons .non .nil)))
  have x14 := upd_same (H := H13) (a := p14) (o := .tup [.non, .str "a", .non])
  have f14 := dk.new n14
  have a1 := dq_same q14 a1
  have a2 := dq_same q14 a2
  have a3 := dq_same q14 a3
  have a4 := dq_same q14 a4
  have a5 := dq_same q14 a5
  have a6 := dq_same q14 a6
  have a8 := dq_same q14 a8
  have a9 := dq_same q14 a9
  have a10 := dq_same q14 a10
  have a11 := dq_same q14 a11
  have a12 := dq_same q14 a12
  have a13 := dq_same q14 a13
  have x7 := q14 _ _ x7
  have dk := dk.same q14
  have sm := sm.trans q14
  clear q14 n14
  generalize upd H13 p14 (.tup [.non, .str "a", .non]) = H14 at x14 dk sm a14 a1 a2 a3 a4 a5 a6 a8 a9 a10 a11 a12 a13 x7 ⊢
  refine ⟨(by show 5 ≤ sizeLine; decide), fun p15 n15 => ?_⟩
  have q15 := same_new n15 (.lst [.ref p9, .ref p11, .ref p13, .ref p14, .str "ab"])
  have x15 := upd_same (H := H14) (a := p15) (o := .lst [.ref p9, .ref p11, .ref p13, .ref p14, .str "ab"])
  have f15 := dk.new n15
  have a1 := dq_same q15 a1
  have a2 := dq_same q15 a2
  have a3 := dq_same q15 a3
  have a4 := dq_same q15 a4
  have a5 := dq_same q15 a5
  have a6 := dq_same q15 a6
  have a8 := dq_same q15 a8
  have a9 := dq_same q15 a9
  have a10 := dq_same q15 a10
  have a11 := dq_same q15 a11
  have a12 := dq_same q15 a12
  have a13 := dq_same q15 a13
  have a14 := dq_same q15 a14
  have x7 := q15 _ _ x7
  have dk := dk.same q15
  have sm := sm.trans q15
  clear q15 n15
  generalize upd H14 p15 (.lst [.ref p9, .ref p11, .ref p13, .ref p14, .str "ab"]) = H15 at x15 dk sm a1 a2 a3 a4 a5 a6 a8 a9 a10 a11 a12 a13 a14 x7 ⊢
  refine ⟨p7, p15, _, _, rfl, rfl, x7, x15, (by show 23 ≤ 16777216; decide), fun p16 n16 => ?_⟩
  have q16 := same_new n16 (.lst ([.non, .bl true, .bl false, .int (-1), .int 0, .int 1, .int 2, .int ((10 : Int) ^ Int.toNat 59), .str "", .str "a", .str "tree", .str "barrier", .ref p1, .ref p2, .ref p3, .ref p4, .ref p5, .ref p6] ++ [.ref p9, .ref p11, .ref p13, .ref p14, .str "ab"]))
  have x16 := upd_same (H := H15) (a := p16) (o := .lst ([.non, .bl true, .bl false, .int (-1), .int 0, .int 1, .int 2, .int ((10 : Int) ^ Int.toNat 59), .str "", .str "a", .str "tree", .str "barrier", .ref p1, .ref p2, .ref p3, .ref p4, .ref p5, .ref p6] ++ [.ref p9, .ref p11, .ref p13, .ref p14, .str "ab"]))
  have f16 := dk.new n16
  have a1 := dq_same q16 a1
  have a2 := dq_same q16 a2
  have a3 := dq_same q16 a3
  have a4 := dq_same q16 a4
  have a5 := dq_same q16 a5
  have a6 := dq_same q16 a6
  have a8 := dq_same q16 a8
  have a9 := dq_same q16 a9
  have a10 := dq_same q16 a10
  have a11 := dq_same q16 a11
  have a12 := dq_same q16 a12
  have a13 := dq_same q16 a13
  have a14 := dq_same q16 a14
  have x7 := q16 _ _ x7
  have dk := dk.same q16
  have sm := sm.trans q16
  clear q16 n16
  generalize upd H15 p16 (.lst ([.non, .bl true, .bl false, .int (-1), .int 0, .int 1, .int 2, .int ((10 : Int) ^ Int.toNat 59), .str "", .str "a", .str "tree", .str "barrier", .ref p1, .ref p2, .ref p3, .ref p4, .ref p5, .ref p6] ++ [.ref p9, .ref p11, .ref p13, .ref p14, .str "ab"])) = H16 at x16 dk sm a1 a2 a3 a4 a5 a6 a8 a9 a10 a11 a12 a13 a14 x7 ⊢
  have al : DQAll D H16 ([.non, .bl true, .bl false, .int (-1), .int 0, .int 1, .int 2, .int ((10 : Int) ^ Int.toNat 59), .str "", .str "a", .str "tree", .str "barrier", .ref p1, .ref p2, .ref p3, .ref p4, .ref p5, .ref p6] ++ [.ref p9, .ref p11, .ref p13, .ref p14, .str "ab"]) odds := (.cons .non (.cons (.bl _) (.cons (.bl _) (.cons (.int _) (.cons (.int _) (.cons (.int _) (.cons (.int _) (.cons (.int _) (.cons (.str _) (.cons (.str _) (.cons (.str _) (.cons (.str _) (.cons a1 (.cons a2 (.cons a3 (.cons a4 (.cons a5 (.cons a6 (.cons a9 (.cons a11 (.cons a13 (.cons a14 (.cons (.str _) .nil)))))))))))))))))))))))
  refine ⟨_, rfl, D, 23, rfl, dk, by decide, by decide, fun i H' i0 i1 d' s' => ?_⟩
  obtain ⟨j, rfl⟩ := Int.eq_ofNat_of_zero_le i0
  obtain ⟨v, hv⟩ : ∃ v, ([.non, .bl true, .bl false, .int (-1), .int 0, .int 1, .int 2, .int ((10 : Int) ^ Int.toNat 59), .str "", .str "a", .str "tree", .str "barrier", .ref p1, .ref p2, .ref p3, .ref p4, .ref p5, .ref p6] ++ [.ref p9, .ref p11, .ref p13, .ref p14, .str "ab"] : List V)[j]? = some v := ⟨_, List.getElem?_eq_getElem (by show j < 23; omega)⟩
  obtain ⟨d, hd, hq⟩ := dqAll_get al hv
  have ho := List.all_eq_true.mp odds_ok d (List.mem_of_getElem? hd)
  rw [Bool.and_eq_true, Bool.and_eq_true, decide_eq_true_eq, decide_eq_true_eq] at ho
  exact ⟨p16, _, _, v, rfl, rfl, SqL.of (s'.at f16 x16), atI_nat hv, q v H' d' ((SameD.of sm).trans s') ⟨d, dq_sameD s' hq, ho.1.1, ho.1.2, ho.2⟩⟩
end
/-! ### _law_bent -/
theorem okInts_small {j : Int} (h0 : 0 ≤ j) (h1 : j < 13) : j ∈ okInts := by
  obtain ⟨n, rfl⟩ := Int.eq_ofNat_of_zero_le h0
  refine List.mem_append_left _ (List.mem_map.mpr ⟨n + 1, List.mem_range.mpr (by omega), ?_⟩)
  omega
theorem dq_bls {D : Deck} {H : Hp} : ∀ bs : List Bool, DQAll D H (bs.map V.bl) (bs.map PyData.bool)
  | [] => .nil
  | b :: bs => .cons (.bl b) (dq_bls bs)
theorem bls_ok : ∀ bs : List Bool, gds (bs.map PyData.bool) = true ∧ wts (bs.map PyData.bool) = 7 * bs.length ∧ PyData.depthAll (bs.map PyData.bool) = 0
  | [] => ⟨rfl, rfl, rfl⟩
  | b :: bs => by
    obtain ⟨h1, h2, h3⟩ := bls_ok bs
    rw [List.map_cons]
    simp only [gds, wts, PyData.depthAll, gd, wt, PyData.depth, h1, h2, h3, List.length_cons, Bool.and_self, true_and]
    omega
/-- what comes of bending a tuple of ds -/
def Bt (D : Deck) (H : Hp) (ds : List PyData) (v : V) : Prop := ∃ d, DQ D H v d ∧ gd d = true ∧ wt d ≤ wts ds + 7 * ds.length + 2010 ∧ d.depth ≤ max (PyData.depthAll ds) 2 + 1 ∧ ∀ es, d = .tuple es → es.length ≤ ds.length + 1
def spBent : Sp := fun vs H Q _ => ∃ (D : Deck) (a : Addr) (xs : List V) (ds : List PyData), vs = [.ref D.dk, .ref a] ∧ DeckOk H D ∧ H a = some (.tup xs) ∧ Off D a ∧ DQAll D H xs ds ∧ gds ds = true ∧ xs.length ≤ 100 ∧
  ∀ (v' : V) (H' : Hp), DeckOk H' D → SameD D H H' → Bt D H' ds v' → Q v' H'
section
variable {P : Program} {w : World} {K : PySem.W.Frag} {mg : Str → Option Value} {base : Heap} {f : Addr} {fd : FuncData}
theorem ok_bent {k : Nat} (F : Fun K "_law_bent" "_law_bent" s__law_bent f fd) (M : Mgs mg) (D_law_next : Df P w K mg base (k + 1) "_law_next" ["_law_deck", "_law_many"] spNext) (D_law_odd : Df P w K mg base (k + 2) "_law_odd" ["_law_deck"] spOdd) :
    FnOk P w K mg base CX0 (k + 3) f fd ["_law_deck", "_law_value"] spBent := by
  refine F.ok (k := k + 2) sc__law_bent (fun vs H Q E h => ?_) (fun cdv A outer s H vs Q E hr h => ?_)
  · obtain ⟨D, a, xs, ds, rfl, _⟩ := h
    rfl
  obtain ⟨D, a, xs, ds, rfl, dk, ea, oa, al, g, hx, q⟩ := h
  have hl := dqAll_len al
  refine ⟨_, (pss_cons (ps_par (i := 2) (j := 3) (by rfl) sc__law_bent.nd rfl rfl (by decide) rfl rfl (pa_cons (pe_call D_law_next.ok (hr.mono (by omega)) rfl D_law_next.g D_law_next.kp D_law_next.b .nil pass0 (pa_cons (pv 0) (pa_cons (pe_op op_add (pe_callB call_len_seq rfl M.len PySem.boot_len (pa_cons (pv 1) pa_nil)) pe_int) pa_nil))) (pa_cons (pe_ix ix_list (pe_lst (pa_cons (pe_call D_law_next.ok (hr.mono (by omega)) rfl D_law_next.g D_law_next.kp D_law_next.b .nil pass0 (pa_cons (pv 0) (pa_cons pe_int pa_nil))) (pa_cons (pe_call D_law_odd.ok (hr.mono (by omega)) rfl D_law_odd.g D_law_odd.kp D_law_odd.b .nil pass0 (pa_cons (pv 0) pa_nil)) pa_nil))) (pe_call D_law_next.ok (hr.mono (by omega)) rfl D_law_next.g D_law_next.kp D_law_next.b .nil pass0 (pa_cons (pv 0) (pa_cons pe_int pa_nil))) (fun _ _ => rfl)) pa_nil)) (by rfl))
    (pss_cons (ps_set (i := 4) sc__law_bent.nd rfl (.inl rfl) (pe_lst (pa_cons (pe_op op_catA (pe_op op_catA (pe_slice sl_tupA (pv 1) po_none (po_some (pv 2))) (pe_tup (pa_cons (pv 3) pa_nil))) (pe_slice sl_tupA (pv 1) (po_some (pv 2)) po_none)) (pa_cons (pe_op op_catA (pe_op op_catA (pe_slice sl_tupA (pv 1) po_none (po_some (pv 2))) (pe_tup (pa_cons (pv 3) pa_nil))) (pe_slice sl_tupA (pv 1) (po_some (pe_op op_add (pv 2) pe_int)) po_none)) (pa_cons (pe_revT (pv 1)) pa_nil)))))
    (pss_cons (ps_set (i := 4) sc__law_bent.nd rfl (.inl rfl) (pe_op op_cat (pv 4) (pe_lst (pa_cons (pe_op op_catA (pe_slice sl_tupA (pv 1) po_none (po_some (pv 2))) (pe_slice sl_tupA (pv 1) (po_some (pe_op op_add (pv 2) pe_int)) po_none)) (pa_cons (pe_callTy call_list_of rfl M.list (by decide +kernel) (pa_cons (pv 1) pa_nil)) (pa_cons (pe_slice sl_tupA (pv 1) po_none (po_some (pv 2))) (pa_cons (pe_callTy call_tuple_of rfl M.tuple (by decide +kernel) (pa_cons (pe_lc (own := [("_law_one", 5)]) (g := gName 5) (tt := tYes) rfl sc__law_bent.nd (pi_tup (pv 1)) (blkOk_by (N := ["_law_deck", "_law_value", "_law_spot", "_law_item", "_law_some", "_law_one"]) (sc := defScope s__law_bent) (by decide +kernel)) (fun _ _ _ _ _ => (pg_name (i := 5) sc__law_bent.nd rfl (.inl rfl))) (fun _ _ _ _ _ => pts_nil) (fun _ _ _ _ _ => (pe_cmpR (show OpR _ (compareOp .Eq) rEqN from op_eqN hr.units0) (pv 5) pe_int (nomark _)))) pa_nil)) pa_nil)))))))
    (pss_one (ps_ret (pe_ix ix_list (pv 4) (pe_call D_law_next.ok (hr.mono (by omega)) rfl D_law_next.g D_law_next.kp D_law_next.b .nil pass0 (pa_cons (pv 0) (pa_cons pe_int pa_nil))) (fun _ _ => rfl))))))), ?_⟩
  have S := SameD.refl D H
  have o_ea := oa
  refine ⟨_, rfl, _, rfl, a, _, rfl, .inr (SqT.of ea), _, _, rfl, rfl, D, _, rfl, dk, by omega, by omega, fun i H1 i0 i1 d1 s1 => ?_⟩
  obtain ⟨k, rfl⟩ := Int.eq_ofNat_of_zero_le i0
  have ea := s1.at o_ea ea
  have al := dqAll_sameD s1 al
  have S := S.trans s1
  have dk := d1
  clear s1 d1
  refine ⟨_, rfl, D, 13, rfl, dk, by decide, by decide, fun j H2 j0 j1 d2 s2 => ?_⟩
  have ea := s2.at o_ea ea
  have al := dqAll_sameD s2 al
  have S := S.trans s2
  have dk := d2
  clear s2 d2
  refine ⟨_, rfl, D, rfl, dk, fun v3 H3 d3 s3 gv => ?_⟩
  have ea := s3.at o_ea ea
  have al := dqAll_sameD s3 al
  have S := S.trans s3
  have dk := d3
  clear s3 d3
  refine ⟨(by show 2 ≤ sizeLine; decide), fun pL npL => ?_⟩
  have q12 := same_new npL (.lst [.int j, v3])
  have o_eL := dk.new npL
  have eL := upd_same (H := H3) (a := pL) (o := .lst [.int j, v3])
  have ea := q12 _ _ ea
  have al := dqAll_same q12 al
  have gv := gv.same q12
  have dk := dk.same q12
  have S := S.trans (SameD.of q12)
  clear q12 npL
  generalize upd H3 pL (.lst [.int j, v3]) = H11 at eL ea al gv dk S ⊢
  refine ⟨_, rfl, D, 2, rfl, dk, by decide, by decide, fun m H5 m0 m1 d5 s5 => ?_⟩
  have ea := s5.at o_ea ea
  have al := dqAll_sameD s5 al
  have gv := gv.sameD s5
  have eL := s5.at o_eL eL
  have S := S.trans s5
  have dk := d5
  clear s5 d5
  have gj : Gd D H5 2000 2 (.int j) := ⟨.int j, .int j, by simp only [gd, decide_eq_true_eq]; exact okInts_small j0 j1, by simp only [wt]; decide, by simp only [PyData.depth]; decide⟩
  obtain ⟨v, hv, gi⟩ : ∃ v, atI ([.int j, v3] : List V) m = some v ∧ Gd D H5 2000 2 v := by
    obtain ⟨m, rfl⟩ := Int.eq_ofNat_of_zero_le m0
    match m, m1 with
    | 0, _ => exact ⟨_, rfl, gj⟩
    | 1, _ => exact ⟨_, rfl, gv⟩
    | _ + 2, h => exact absurd h (by omega)
  refine ⟨pL, _, _, v, rfl, rfl, SqL.of eL, hv, ?_⟩
  refine ⟨_, _, rfl, ?_⟩
  clear eL gv
  clear gj hv
  obtain ⟨di, fi, gdi, wdi, pdi⟩ := gi
  have t1 : (xs.take k).length ≤ xs.length := by rw [List.length_take]; omega
  have t2 : (xs.drop k).length ≤ xs.length := by rw [List.length_drop]; omega
  have t3 : (xs.drop (k + 1)).length ≤ xs.length := by rw [List.length_drop]; omega
  refine ⟨_, rfl, _, rfl, (k : Int), rfl, slA_of dk ea o_ea fun pA1 H13 t14 eA1 o_eA1 => ?_⟩
  have ea := t14 _ _ ea
  have al := dqAll_same t14 al
  have fi := dq_same t14 fi
  have dk := dk.same t14
  have S := S.trans (SameD.of t14)
  clear t14
  rw [cut_to] at eA1
  refine ⟨_, rfl, ?_⟩
  refine ⟨(by show 1 ≤ sizeLine; decide), fun pA2 npA2 => ?_⟩
  have q16 := same_new npA2 (.tup [v])
  have o_eA2 := dk.new npA2
  have eA2 := upd_same (H := H13) (a := pA2) (o := .tup [v])
  have ea := q16 _ _ ea
  have al := dqAll_same q16 al
  have fi := dq_same q16 fi
  have eA1 := q16 _ _ eA1
  have dk := dk.same q16
  have S := S.trans (SameD.of q16)
  clear q16 npA2
  generalize upd H13 pA2 (.tup [v]) = H15 at eA2 ea al fi eA1 dk S ⊢
  refine catA_of dk eA1 o_eA1 eA2 o_eA2 (by show _ + 1 ≤ sizeLine; exact small (by omega)) fun pA3 H17 t18 eA3 o_eA3 => ?_
  have ea := t18 _ _ ea
  have al := dqAll_same t18 al
  have fi := dq_same t18 fi
  have eA1 := t18 _ _ eA1
  have eA2 := t18 _ _ eA2
  have dk := dk.same t18
  have S := S.trans (SameD.of t18)
  clear t18
  refine ⟨_, rfl, _, rfl, (k : Int), rfl, ?_⟩
  dsimp only [tNoPart]
  refine slA_of dk ea o_ea fun pA4 H19 t20 eA4 o_eA4 => ?_
  have ea := t20 _ _ ea
  have al := dqAll_same t20 al
  have fi := dq_same t20 fi
  have eA1 := t20 _ _ eA1
  have eA2 := t20 _ _ eA2
  have eA3 := t20 _ _ eA3
  have dk := dk.same t20
  have S := S.trans (SameD.of t20)
  clear t20
  rw [cut_from] at eA4
  refine catA_of dk eA3 o_eA3 eA4 o_eA4 (by rw [List.length_append]; show _ + 1 + _ ≤ sizeLine; exact small (by omega)) fun pA5 H21 t22 eA5 o_eA5 => ?_
  have ea := t22 _ _ ea
  have al := dqAll_same t22 al
  have fi := dq_same t22 fi
  have eA1 := t22 _ _ eA1
  have eA2 := t22 _ _ eA2
  have eA3 := t22 _ _ eA3
  have eA4 := t22 _ _ eA4
  have dk := dk.same t22
  have S := S.trans (SameD.of t22)
  clear t22
  have fA : DQ D H21 (.ref pA5) (.tuple ((ds.take k ++ [di]) ++ ds.drop k)) := .tup o_eA5 eA5 (dqAll_app (dqAll_app (dqAll_take k al).1 (.cons fi .nil)) (dqAll_take k al).2)
  clear eA1 eA2 eA3 eA4 eA5
  refine ⟨_, rfl, _, rfl, (k : Int), rfl, slA_of dk ea o_ea fun pB1 H23 t24 eB1 o_eB1 => ?_⟩
  have ea := t24 _ _ ea
  have al := dqAll_same t24 al
  have fi := dq_same t24 fi
  have fA := dq_same t24 fA
  have dk := dk.same t24
  have S := S.trans (SameD.of t24)
  clear t24
  rw [cut_to] at eB1
  refine ⟨_, rfl, ?_⟩
  refine ⟨(by show 1 ≤ sizeLine; decide), fun pB2 npB2 => ?_⟩
  have q26 := same_new npB2 (.tup [v])
  have o_eB2 := dk.new npB2
  have eB2 := upd_same (H := H23) (a := pB2) (o := .tup [v])
  have ea := q26 _ _ ea
  have al := dqAll_same q26 al
  have fi := dq_same q26 fi
  have fA := dq_same q26 fA
  have eB1 := q26 _ _ eB1
  have dk := dk.same q26
  have S := S.trans (SameD.of q26)
  clear q26 npB2
  generalize upd H23 pB2 (.tup [v]) = H25 at eB2 ea al fi fA eB1 dk S ⊢
  refine catA_of dk eB1 o_eB1 eB2 o_eB2 (by show _ + 1 ≤ sizeLine; exact small (by omega)) fun pB3 H27 t28 eB3 o_eB3 => ?_
  have ea := t28 _ _ ea
  have al := dqAll_same t28 al
  have fi := dq_same t28 fi
  have fA := dq_same t28 fA
  have eB1 := t28 _ _ eB1
  have eB2 := t28 _ _ eB2
  have dk := dk.same t28
  have S := S.trans (SameD.of t28)
  clear t28
  refine ⟨_, rfl, _, rfl, _, _, rfl, rfl, _, rfl, ?_⟩
  dsimp only [tNoPart]
  refine slA_of dk ea o_ea fun pB4 H29 t30 eB4 o_eB4 => ?_
  have ea := t30 _ _ ea
  have al := dqAll_same t30 al
  have fi := dq_same t30 fi
  have fA := dq_same t30 fA
  have eB1 := t30 _ _ eB1
  have eB2 := t30 _ _ eB2
  have eB3 := t30 _ _ eB3
  have dk := dk.same t30
  have S := S.trans (SameD.of t30)
  clear t30
  rw [show cutV xs (some ((k : Int) + 1)) none = xs.drop (k + 1) by rw [show (k : Int) + 1 = ((k + 1 : Nat) : Int) by omega, cut_from]] at eB4
  refine catA_of dk eB3 o_eB3 eB4 o_eB4 (by rw [List.length_append]; show _ + 1 + _ ≤ sizeLine; exact small (by omega)) fun pB5 H31 t32 eB5 o_eB5 => ?_
  have ea := t32 _ _ ea
  have al := dqAll_same t32 al
  have fi := dq_same t32 fi
  have fA := dq_same t32 fA
  have eB1 := t32 _ _ eB1
  have eB2 := t32 _ _ eB2
  have eB3 := t32 _ _ eB3
  have eB4 := t32 _ _ eB4
  have dk := dk.same t32
  have S := S.trans (SameD.of t32)
  clear t32
  have fB : DQ D H31 (.ref pB5) (.tuple ((ds.take k ++ [di]) ++ ds.drop (k + 1))) := .tup o_eB5 eB5 (dqAll_app (dqAll_app (dqAll_take k al).1 (.cons fi .nil)) (dqAll_take (k + 1) al).2)
  clear eB1 eB2 eB3 eB4 eB5
  refine ⟨_, rfl, a, xs, rfl, SqT.of ea, ?_⟩
  refine fun pC npC => ?_
  have q34 := same_new npC (.tup xs.reverse)
  have o_eC := dk.new npC
  have eC := upd_same (H := H31) (a := pC) (o := .tup xs.reverse)
  have ea := q34 _ _ ea
  have al := dqAll_same q34 al
  have fi := dq_same q34 fi
  have fA := dq_same q34 fA
  have fB := dq_same q34 fB
  have dk := dk.same q34
  have S := S.trans (SameD.of q34)
  clear q34 npC
  generalize upd H31 pC (.tup xs.reverse) = H33 at eC ea al fi fA fB dk S ⊢
  have fC : DQ D H33 (.ref pC) (.tuple ds.reverse) := .tup o_eC eC (dqAll_rev al)
  clear eC
  refine ⟨(by show 3 ≤ sizeLine; decide), fun pM npM => ?_⟩
  have q36 := same_new npM (.lst [.ref pA5, .ref pB5, .ref pC])
  have o_eM := dk.new npM
  have eM := upd_same (H := H33) (a := pM) (o := .lst [.ref pA5, .ref pB5, .ref pC])
  have ea := q36 _ _ ea
  have al := dqAll_same q36 al
  have fi := dq_same q36 fi
  have fA := dq_same q36 fA
  have fB := dq_same q36 fB
  have fC := dq_same q36 fC
  have dk := dk.same q36
  have S := S.trans (SameD.of q36)
  clear q36 npM
  generalize upd H33 pM (.lst [.ref pA5, .ref pB5, .ref pC]) = H35 at eM ea al fi fA fB fC dk S ⊢
  refine ⟨_, rfl, ?_⟩
  refine ⟨_, rfl, _, rfl, (k : Int), rfl, slA_of dk ea o_ea fun pD1 H37 t38 eD1 o_eD1 => ?_⟩
  have ea := t38 _ _ ea
  have al := dqAll_same t38 al
  have fi := dq_same t38 fi
  have fA := dq_same t38 fA
  have fB := dq_same t38 fB
  have fC := dq_same t38 fC
  have eM := t38 _ _ eM
  have dk := dk.same t38
  have S := S.trans (SameD.of t38)
  clear t38
  rw [cut_to] at eD1
  refine ⟨_, rfl, _, rfl, _, _, rfl, rfl, _, rfl, ?_⟩
  dsimp only [tNoPart]
  refine slA_of dk ea o_ea fun pD2 H39 t40 eD2 o_eD2 => ?_
  have ea := t40 _ _ ea
  have al := dqAll_same t40 al
  have fi := dq_same t40 fi
  have fA := dq_same t40 fA
  have fB := dq_same t40 fB
  have fC := dq_same t40 fC
  have eM := t40 _ _ eM
  have eD1 := t40 _ _ eD1
  have dk := dk.same t40
  have S := S.trans (SameD.of t40)
  clear t40
  rw [show cutV xs (some ((k : Int) + 1)) none = xs.drop (k + 1) by rw [show (k : Int) + 1 = ((k + 1 : Nat) : Int) by omega, cut_from]] at eD2
  refine catA_of dk eD1 o_eD1 eD2 o_eD2 (small (by omega)) fun pD3 H41 t42 eD3 o_eD3 => ?_
  have ea := t42 _ _ ea
  have al := dqAll_same t42 al
  have fi := dq_same t42 fi
  have fA := dq_same t42 fA
  have fB := dq_same t42 fB
  have fC := dq_same t42 fC
  have eM := t42 _ _ eM
  have eD1 := t42 _ _ eD1
  have eD2 := t42 _ _ eD2
  have dk := dk.same t42
  have S := S.trans (SameD.of t42)
  clear t42
  have fD : DQ D H41 (.ref pD3) (.tuple (ds.take k ++ ds.drop (k + 1))) := .tup o_eD3 eD3 (dqAll_app (dqAll_take k al).1 (dqAll_take (k + 1) al).2)
  clear eD1 eD2 eD3
  refine ⟨_, rfl, a, xs, rfl, .inr (SqT.of ea), ?_⟩
  refine fun pE npE => ?_
  have q44 := same_new npE (.lst xs)
  have o_eE := dk.new npE
  have eE := upd_same (H := H41) (a := pE) (o := .lst xs)
  have ea := q44 _ _ ea
  have al := dqAll_same q44 al
  have fi := dq_same q44 fi
  have fA := dq_same q44 fA
  have fB := dq_same q44 fB
  have fC := dq_same q44 fC
  have eM := q44 _ _ eM
  have fD := dq_same q44 fD
  have dk := dk.same q44
  have S := S.trans (SameD.of q44)
  clear q44 npE
  generalize upd H41 pE (.lst xs) = H43 at eE ea al fi fA fB fC eM fD dk S ⊢
  have fE : DQ D H43 (.ref pE) (.list ds) := .lst o_eE eE al
  clear eE
  refine ⟨_, rfl, _, rfl, (k : Int), rfl, slA_of dk ea o_ea fun pG H45 t46 eG o_eG => ?_⟩
  have ea := t46 _ _ ea
  have al := dqAll_same t46 al
  have fi := dq_same t46 fi
  have fA := dq_same t46 fA
  have fB := dq_same t46 fB
  have fC := dq_same t46 fC
  have eM := t46 _ _ eM
  have fD := dq_same t46 fD
  have fE := dq_same t46 fE
  have dk := dk.same t46
  have S := S.trans (SameD.of t46)
  clear t46
  rw [cut_to] at eG
  have fG : DQ D H45 (.ref pG) (.tuple (ds.take k)) := .tup o_eG eG (dqAll_take k al).1
  clear eG
  refine ⟨_, rfl, a, rfl, ⟨_, SqT.of ea⟩, fun C nC => ?_⟩
  have oC := dk.new nC
  refine lc_tup (K := K) (a := a) (xs := xs) (fun n H' => Same H45 H' ∧ H' C = some (.lst (((ds.take n).map (eqN 1)).map V.bl))) ⟨same_new nC _, upd_same⟩ (fun n H' _ hp => SqT.of (hp.1 _ _ ea)) (fun n x H' hx hp => ?_) (fun H' hp => ?_)
  · obtain ⟨sm, ed⟩ := hp
    obtain ⟨y, hy, dy⟩ := dqAll_get al hx
    have hn : n < xs.length := (List.getElem?_eq_some_iff.mp hx).1
    refine ⟨rfl, kept ?_⟩
    refine ⟨_, rfl, D, y, 1, rfl, dq_same sm dy, _, ed, by rw [List.length_map, List.length_map, List.length_take]; exact small1000 (by omega), fun b o e => ?_, ?_⟩
    · rw [upd_ne (ne_of_none e nC)]; exact sm _ _ e
    · rw [upd_same, take_nextG hy, List.map_append, List.map_append]
      rfl
  obtain ⟨sm, eC⟩ := hp
  rw [List.take_of_length_le (by omega)] at eC
  have oC' := oC
  have ea := sm _ _ ea
  have al := dqAll_same sm al
  have fi := dq_same sm fi
  have fA := dq_same sm fA
  have fB := dq_same sm fB
  have fC := dq_same sm fC
  have eM := sm _ _ eM
  have fD := dq_same sm fD
  have fE := dq_same sm fE
  have fG := dq_same sm fG
  have dk := dk.same sm
  have S := S.trans (SameD.of sm)
  have o_eC := oC
  refine ⟨C, _, rfl, .inl ⟨SqL.of eC, ?_⟩⟩
  refine fun pI npI => ?_
  have q48 := same_new npI (.tup ((ds.map (eqN 1)).map V.bl))
  have o_eI := dk.new npI
  have eI := upd_same (H := H') (a := pI) (o := .tup ((ds.map (eqN 1)).map V.bl))
  have ea := q48 _ _ ea
  have al := dqAll_same q48 al
  have fi := dq_same q48 fi
  have fA := dq_same q48 fA
  have fB := dq_same q48 fB
  have fC := dq_same q48 fC
  have eM := q48 _ _ eM
  have fD := dq_same q48 fD
  have fE := dq_same q48 fE
  have fG := dq_same q48 fG
  have eC := q48 _ _ eC
  have dk := dk.same q48
  have S := S.trans (SameD.of q48)
  clear q48 npI
  generalize upd H' pI (.tup ((ds.map (eqN 1)).map V.bl)) = H47 at eI ea al fi fA fB fC eM fD fE fG eC dk S ⊢
  have fI : DQ D H47 (.ref pI) (.tuple ((ds.map (eqN 1)).map PyData.bool)) := .tup o_eI eI (dq_bls _)
  clear eI eC
  refine ⟨(by show 4 ≤ sizeLine; decide), fun pN npN => ?_⟩
  have q50 := same_new npN (.lst [.ref pD3, .ref pE, .ref pG, .ref pI])
  have o_eN := dk.new npN
  have eN := upd_same (H := H47) (a := pN) (o := .lst [.ref pD3, .ref pE, .ref pG, .ref pI])
  have ea := q50 _ _ ea
  have al := dqAll_same q50 al
  have fi := dq_same q50 fi
  have fA := dq_same q50 fA
  have fB := dq_same q50 fB
  have fC := dq_same q50 fC
  have eM := q50 _ _ eM
  have fD := dq_same q50 fD
  have fE := dq_same q50 fE
  have fG := dq_same q50 fG
  have fI := dq_same q50 fI
  have dk := dk.same q50
  have S := S.trans (SameD.of q50)
  clear q50 npN
  generalize upd H47 pN (.lst [.ref pD3, .ref pE, .ref pG, .ref pI]) = H49 at eN ea al fi fA fB fC eM fD fE fG fI dk S ⊢
  refine ⟨pM, pN, _, _, rfl, rfl, eM, eN, (by show 7 ≤ 16777216; decide), fun pO npO => ?_⟩
  have q52 := same_new npO (.lst ([.ref pA5, .ref pB5, .ref pC] ++ [.ref pD3, .ref pE, .ref pG, .ref pI]))
  have o_eO := dk.new npO
  have eO := upd_same (H := H49) (a := pO) (o := .lst ([.ref pA5, .ref pB5, .ref pC] ++ [.ref pD3, .ref pE, .ref pG, .ref pI]))
  have ea := q52 _ _ ea
  have al := dqAll_same q52 al
  have fi := dq_same q52 fi
  have fA := dq_same q52 fA
  have fB := dq_same q52 fB
  have fC := dq_same q52 fC
  have eM := q52 _ _ eM
  have fD := dq_same q52 fD
  have fE := dq_same q52 fE
  have fG := dq_same q52 fG
  have fI := dq_same q52 fI
  have eN := q52 _ _ eN
  have dk := dk.same q52
  have S := S.trans (SameD.of q52)
  clear q52 npO
  generalize upd H49 pO (.lst ([.ref pA5, .ref pB5, .ref pC] ++ [.ref pD3, .ref pE, .ref pG, .ref pI])) = H51 at eO ea al fi fA fB fC eM fD fE fG fI eN dk S ⊢
  refine ⟨_, rfl, _, rfl, D, 7, rfl, dk, by decide, by decide, fun r H9 r0 r1 d9 s9 => ?_⟩
  have ea := s9.at o_ea ea
  have al := dqAll_sameD s9 al
  have fi := dq_sameD s9 fi
  have fA := dq_sameD s9 fA
  have fB := dq_sameD s9 fB
  have fC := dq_sameD s9 fC
  have eM := s9.at o_eM eM
  have fD := dq_sameD s9 fD
  have fE := dq_sameD s9 fE
  have fG := dq_sameD s9 fG
  have fI := dq_sameD s9 fI
  have eN := s9.at o_eN eN
  have eO := s9.at o_eO eO
  have S := S.trans s9
  have dk := d9
  clear s9 d9
  obtain ⟨r, rfl⟩ := Int.eq_ofNat_of_zero_le r0
  have par := depthAll_parts ds k
  have par1 := depthAll_parts ds (k + 1)
  have gp := gds_parts k g
  have gp1 := gds_parts (k + 1) g
  have wp := wts_take ds k
  have wp1 := wts_take ds (k + 1)
  have rv := rev_ok ds
  have lt1 : (ds.take k).length + (ds.drop k).length = ds.length := by rw [← List.length_append, List.take_append_drop]
  have lt2 : (ds.take k).length + (ds.drop (k + 1)).length ≤ ds.length := by rw [List.length_take, List.length_drop]; omega
  have wd : wts (ds.drop (k + 1)) ≤ wts (ds.drop k) := by rw [show ds.drop (k + 1) = (ds.drop k).drop 1 by rw [List.drop_drop]]; have := wts_take (ds.drop k) 1; omega
  obtain ⟨v', hv', bt⟩ : ∃ v', atI ([.ref pA5, .ref pB5, .ref pC] ++ [.ref pD3, .ref pE, .ref pG, .ref pI] : List V) (r : Int) = some v' ∧ Bt D H9 ds v' := by
    match r, r1 with
    | 0, _ =>
      refine ⟨_, rfl, _, fA, ?_, ?_, ?_, fun es e => ?_⟩
      · simp only [gd]
        rw [gds_app, gds_app, gp.1, gp.2]
        simp only [gds, gdi, Bool.and_self]
      · simp only [wt]
        rw [wts_app, wts_app]
        simp only [wts]
        omega
      · simp only [PyData.depth]
        rw [depthAll_app, depthAll_app]
        simp only [PyData.depthAll]
        omega
      · rw [← PyData.tuple.inj e, List.length_append, List.length_append, List.length_singleton]
        omega
    | 1, _ =>
      refine ⟨_, rfl, _, fB, ?_, ?_, ?_, fun es e => ?_⟩
      · simp only [gd]
        rw [gds_app, gds_app, gp.1, gp1.2]
        simp only [gds, gdi, Bool.and_self]
      · simp only [wt]
        rw [wts_app, wts_app]
        simp only [wts]
        omega
      · simp only [PyData.depth]
        rw [depthAll_app, depthAll_app]
        simp only [PyData.depthAll]
        omega
      · rw [← PyData.tuple.inj e, List.length_append, List.length_append, List.length_singleton]
        omega
    | 2, _ =>
      refine ⟨_, rfl, _, fC, ?_, ?_, ?_, fun es e => ?_⟩
      · simp only [gd]; rw [rv.2.2]; exact g
      · simp only [wt]; omega
      · simp only [PyData.depth]; omega
      · rw [← PyData.tuple.inj e, List.length_reverse]; omega
    | 3, _ =>
      refine ⟨_, rfl, _, fD, ?_, ?_, ?_, fun es e => ?_⟩
      · simp only [gd]; rw [gds_app, gp.1, gp1.2]; rfl
      · simp only [wt]; rw [wts_app]; omega
      · simp only [PyData.depth]; rw [depthAll_app]; omega
      · rw [← PyData.tuple.inj e, List.length_append]; omega
    | 4, _ =>
      refine ⟨_, rfl, _, fE, ?_, ?_, ?_, fun es e => ?_⟩
      · simp only [gd]; exact g
      · simp only [wt]; omega
      · simp only [PyData.depth]; omega
      · cases e
    | 5, _ =>
      refine ⟨_, rfl, _, fG, ?_, ?_, ?_, fun es e => ?_⟩
      · simp only [gd]; exact gp.1
      · simp only [wt]; omega
      · simp only [PyData.depth]; omega
      · rw [← PyData.tuple.inj e]; omega
    | 6, _ =>
      refine ⟨_, rfl, _, fI, ?_, ?_, ?_, fun es e => ?_⟩
      · simp only [gd]; exact (bls_ok _).1
      · simp only [wt]; rw [(bls_ok _).2.1, List.length_map]; omega
      · simp only [PyData.depth]; rw [(bls_ok _).2.2]; omega
      · rw [← PyData.tuple.inj e, List.length_map, List.length_map]; omega
    | _ + 7, h => exact absurd h (by omega)
  exact ⟨pO, _, _, v', rfl, rfl, SqL.of eO, hv', q v' H9 dk S bt⟩
end
/-! ### defs that ask for repr: the guards are carried -/
structure FnOkG (P : Program) (w : World) (K : PySem.W.Frag) (mg : Str → Option Value) (base : Heap) (k : Nat) (f : Addr) (fd : FuncData) (ps : List Str) (sp : Sp) : Prop where
  len : ∀ vs H Q E, sp vs H Q E → vs.length = ps.length
  run : ∀ (A : Around) (outer : List Env) (s : Shared) (H : Hp) (args : Args) (us : List Value) (vs : List V) (Q : VK) (E : XK), A.guards = some [] → Room k A → Env0 P w K mg base A outer s H →
    BindsTo s fd args (ps.zip us) → Vals vs us → sp vs H Q E → codeAny (model P w) A (.call (.ref f) args) (CR CX0 outer P w H s Q E) s
theorem fnG {P : Program} {w : World} {K : PySem.W.Frag} {mg : Str → Option Value} {base : Heap} {f : Addr} {fd : FuncData} {N ps : List Str} {k : Nat} {x qual : Str} {st : Stmt} {sp : Sp} (F : Fun K x qual st f fd) (S : FnScope N ps (defScope st))
    (len : ∀ vs H Q E, sp vs H Q E → vs.length = ps.length)
    (body : ∀ (cdv : Value) (A : Around) (outer : List Env) (s : Shared) (H : Hp) (vs : List V) (Q : VK) (E : XK), A.guards = some [] → Room k (A.deeper (envOfC qual (defScope st) s.heap.objs.size f cdv)) → sp vs H Q E →
      ∃ t, PSs (cxOf CX0 P w K mg base N qual (defScope st) f cdv A outer s H E).nox (defBody st) t ∧ t { nx := fun _ H' => Q .non H', rt := Q } (start N vs) H) :
    FnOkG P w K mg base (k + 1) f fd ps sp := by
  refine ⟨len, ?_⟩
  intro A outer s H args us vs Q E gs room en bd rel hsp
  exact enter_def F S room en bd rel (len _ _ _ _ hsp) fun cdv hr => body cdv A outer s H vs Q E gs hr hsp
theorem pe_callG {X : Cx} {k : Nat} {f : Addr} {fd : FuncData} {ps : List Str} {sp : Sp} {x : Str} {p pos : Pos} {e : Expr} {es : List Expr} {t : TA}
    (G : FnOkG X.prog X.w X.K X.mg X.base k f fd ps sp) (gs : X.A.guards = some []) (room : Room k X.A) (isG : Gl X x) (at0 : X.mg x = some (.ref f)) (kp : PySem.W.keepIn X.K (.ref f) = true) (bd : Binds X.K fd ps []) (args : PA X (e :: es) t)
    (nd : (x == ("__debug__" : Str)) = false := by decide) (he : starEach (e :: es) X.env = (false, eval e X.env) :: starEach es X.env := by rfl) (hp : (backTo pos (starEach es X.env)).any (·.1) = false := by rfl) :
    PE X (.Call (.Name x p) (e :: es) [] pos) (tCall sp [] E0 t) := by
  constructor
  intro pins s σ H Q I h
  refine wpAny_Call_Name_kw (ld_glob I isG at0 ?_ nd)
  refine PySem.W.callWith_K (h₀ := X.base) I.ok.mod.kin kp (thn (args.run pos pins s σ H _ I h) ?_) he hp
  rintro us s1 ⟨vs, H1, I1, rel, q⟩
  refine ⟨I1.kIn, ?_⟩
  have q' : sp vs H1 Q E0 := by
    rw [List.append_nil] at q
    exact q
  have hl : (us ++ []).length = ps.length := by
    rw [List.append_nil, ← rel.length]
    exact G.len _ _ _ _ q'
  have bd' := bd s1 us I1.kIn hl
  rw [List.append_nil] at bd'
  refine wpAny_call (codeAny_mono (G.run X.A X.stack s1 H1 ⟨us, []⟩ us vs Q E0 gs room I1.env0 bd' rel q') ?_)
  intro r s' done
  cases r with
  | error e => exact done.elim
  | ok fl =>
    cases fl with
    | ret u => exact I1.after done
    | next => exact done.elim
    | brk => exact done.elim
    | cont => exact done.elim
/-- a def that asks for repr, with its promise -/
structure DfG (P : Program) (w : World) (K : PySem.W.Frag) (mg : Str → Option Value) (base : Heap) (k : Nat) (nm : Str) (ps : List Str) (sp : Sp) where
  f : Addr
  fd : FuncData
  ok : FnOkG P w K mg base k f fd ps sp
  b : Binds K fd ps []
  kp : PySem.W.keepIn K (.ref f) = true
  g : mg nm = some (.ref f)
/-! ### repr of data without dicts -/
mutual
def okR : PyData → Bool
  | .none => true
  | .bool _ => true
  | .int i => decide (0 ≤ i) && decide (i < 64)
  | .str x => decide (x.length ≤ 64) && x.cps.toList.all (· < 128)
  | .list xs => okRs xs
  | .tuple xs => okRs xs
  | .dict _ => false
def okRs : List PyData → Bool
  | [] => true
  | x :: xs => okR x && okRs xs
end
mutual
def wtR : PyData → Nat
  | .none => 4
  | .bool _ => 5
  | .int _ => 31
  | .str x => 10 * x.length + 2
  | .list xs => 3 + wtRs xs
  | .tuple xs => 3 + wtRs xs
  | .dict _ => 0
def wtRs : List PyData → Nat
  | [] => 0
  | x :: xs => wtR x + 2 + wtRs xs
end
theorem small_shown : ∀ n : Nat, n < 64 → (Str.ofString (toString (n : Int))).length ≤ 31 ∧ (n : Int).natAbs.log2 < 1920 := by decide +kernel
theorem listText_leR (ts : List Str) : (listText ts).length ≤ piled ts + 3 := by
  have h := textFrom_len_le ts 0 "["
  have e : (listText ts).length = (textFrom 0 "[" ts).length + 1 := by
    show (textFrom 0 "[" ts ++ "]").length = _
    rw [strLen_append]
    rfl
  have z : ∀ l : List Str, (l.map (·.length)).sum + 2 * l.length = piled l := by
    intro l
    induction l with
    | nil => rfl
    | cons t l ih =>
      rw [piled_cons, List.map_cons, List.sum_cons, List.length_cons]
      omega
  have z2 := z ts
  have z3 : (("[" : String) : Str).length = 1 := rfl
  omega
mutual
theorem shownR : ∀ d : PyData, okR d = true → d.shown.length ≤ wtR d ∧ d.showable = true ∧ d.hasDict = false
  | .none, _ => by
    simp only [PyData.shown, wtR, PyData.showable, PyData.hasDict, and_true]
    decide +kernel
  | .bool b, _ => by
    simp only [PyData.shown, wtR, PyData.showable, PyData.hasDict, and_true]
    cases b <;> decide +kernel
  | .int i, h => by
    simp only [okR, Bool.and_eq_true, decide_eq_true_eq] at h
    obtain ⟨h1, h2⟩ := small_shown i.toNat (by omega)
    rw [show ((i.toNat : Nat) : Int) = i by omega] at h1 h2
    simp only [PyData.shown, wtR, PyData.showable, PyData.hasDict, decide_eq_true_eq, and_true]
    exact ⟨h1, h2⟩
  | .str x, h => by
    simp only [okR, Bool.and_eq_true, decide_eq_true_eq, List.all_eq_true] at h
    have h1 := StrLaws.reprText_len x (fun c hc => Nat.lt_of_lt_of_le (h.2 c hc) (by decide))
    simp only [PyData.shown, wtR, PyData.showable, PyData.hasDict, and_true]
    omega
  | .list xs, h => by
    simp only [okR] at h
    obtain ⟨h1, h2, h3⟩ := shownRs xs h
    simp only [PyData.shown, wtR, PyData.showable, PyData.hasDict]
    exact ⟨Nat.le_trans (listText_leR _) (by omega), h2, h3⟩
  | .tuple xs, h => by
    simp only [okR] at h
    obtain ⟨h1, h2, h3⟩ := shownRs xs h
    simp only [PyData.shown, wtR, PyData.showable, PyData.hasDict]
    exact ⟨Nat.le_trans (fmt_text _) (by omega), h2, h3⟩
  | .dict _, h => by
    simp only [okR] at h
    exact absurd h Bool.false_ne_true
theorem shownRs : ∀ ds : List PyData, okRs ds = true → piled (PyData.shownAll ds) ≤ wtRs ds ∧ PyData.showableAll ds = true ∧ PyData.hasDictAll ds = false
  | [], _ => by
    simp only [PyData.shownAll, wtRs, PyData.showableAll, PyData.hasDictAll, and_true]
    exact Nat.le_refl _
  | d :: ds, h => by
    simp only [okRs, Bool.and_eq_true] at h
    obtain ⟨h1, h2, h5⟩ := shownR d h.1
    obtain ⟨h3, h4, h6⟩ := shownRs ds h.2
    simp only [PyData.shownAll, wtRs, PyData.showableAll, PyData.hasDictAll, h2, h4, h5, h6, Bool.and_self, Bool.or_self, and_true]
    rw [piled_cons]
    omega
end
def rReprR (K : PySem.W.Frag) : List V → Hp → VK → Prop := fun xs H Q => ∃ (a : Addr) (d : PyData), xs = [.ref a] ∧ Dp K H (.ref a) d ∧ okR d = true ∧ wtR d ≤ 1000000 ∧ d.depth ≤ 60 ∧ Q (.str d.shown) H
theorem call_reprR {X : Cx} (hg : X.A.guards = some []) (hu : X.A.units + 64 < cLine) : CallR X (.builtin "repr") (rReprR X.K) := by
  intro pins s σ H xs us Q I r h
  obtain ⟨a, d, rfl, hd, hs, hw, hz, q⟩ := h
  obtain ⟨u, rfl, rx⟩ := vals1 r
  cases rx
  obtain ⟨h1, h2, h3⟩ := shownR d hs
  obtain ⟨as, rd⟩ := Dp.reads I d _ _ hd rfl
  exact repr_of_reads' rd h2 (PyData.noDict_hsm h3) hg (by omega) (fun _ _ e => e) (fun h' u tk hk => ⟨.str d.shown, H, I.kept (t' := tk) hk, ⟨u, rfl⟩, q⟩) (by show _ ≤ 16777216; omega)
/-! ### _law_due -/
def rReprQ : List V → Hp → VK → Prop := fun xs H Q => ∃ (v : V) (D : Deck) (d : PyData), xs = [v] ∧ DQ D H v d ∧ gd d = true ∧ wt d ≤ 1000000 ∧ d.depth ≤ 60 ∧ Q (.str d.shown) H
theorem off_tup {D : Deck} {H : Hp} (d : DeckOk H D) {p : Addr} {xs : List V} (e : H p = some (.tup xs)) : Off D p := by
  obtain ⟨⟨x1, h1⟩, ⟨x2, h2⟩⟩ := d.lists
  exact ⟨ne_of e h1 (by intro z; cases z), ne_of e h2 (by intro z; cases z)⟩
theorem small_int {n : Nat} (h : n < 10) : gd (.int (n : Int)) = true := by
  simp only [gd, decide_eq_true_eq]
  exact okInts_small (by omega) (by omega)
theorem dq_trT {D : Deck} {H : Hp} (d : DeckOk H D) {a : Addr} {l h b : Nat} (e : H a = some (.tup [.int (l : Int), .int (h : Int), .int (b : Int)])) : DQ D H (.ref a) (trT l h b) := .tup (off_tup d e) e (.cons (.int _) (.cons (.int _) (.cons (.int _) .nil)))
theorem trT_ok {l h b : Nat} (hl : l < 10) (hh : h < 10) (hb : b < 10) : gd (trT l h b) = true ∧ wt (trT l h b) ≤ 200 ∧ (trT l h b).depth = 1 := by
  have h1 := small_int hl
  have h2 := small_int hh
  have h3 := small_int hb
  unfold trT
  simp only [gd, gds, wt, wts, PyData.depth, PyData.depthAll, Bool.and_true, Bool.and_eq_true] at h1 h2 h3 ⊢
  exact ⟨⟨h1, h2, h3⟩, by decide, by decide⟩
def barD (t : Nat × Nat × Nat) : PyData := .tuple [.str "barrier", trT t.1 t.2.1 t.2.2]
theorem str_gd {z : Str} (h : (decide (z.length ≤ 90) && z.cps.toList.all isAl) = true) : gd (.str z) = true := by simp only [gd]; exact h
theorem barD_ok {t : Nat × Nat × Nat} (hl : t.1 < 10) (hh : t.2.1 < 10) (hb : t.2.2 < 10) : gd (barD t) = true ∧ wt (barD t) ≤ 2000 ∧ (barD t).depth = 2 := by
  obtain ⟨h1, h2, h3⟩ := trT_ok hl hh hb
  have hs : gd (.str "barrier") = true := str_gd (by decide +kernel)
  unfold barD
  refine ⟨?_, ?_, ?_⟩
  · simp only [gd, gds, Bool.and_true, Bool.and_eq_true] at h1 hs ⊢
    exact ⟨hs, h1⟩
  · simp only [wt, wts] at h2 ⊢
    omega
  · simp only [PyData.depth, PyData.depthAll, h3]
    decide
theorem Barr.lt {zs : List Nat} {l h b : Nat} (k : Barr zs l h b) (hz : zs.length ≤ 9) : l < 10 ∧ h < 10 ∧ b < 10 := by
  obtain ⟨k1, k2, k3, _⟩ := k
  omega
theorem cl_data {t : B} : cl t.data = true := by
  induction t with
  | nil => rfl
  | node l x r h1 h2 =>
    show cl (.tuple [l.data, .str (ch x), r.data]) = true
    simp only [cl, cls, h1, h2, Bool.and_true, decide_eq_true_eq]
    exact Nat.le_of_ble_eq_true rfl
theorem gr_ne {zs : List Nat} (h : 0 < zs.length) : gr zs ≠ .nil := fun z => by
  have := gr_size zs
  rw [z] at this
  have e : B.nil.size = 0 := rfl
  omega
def spDue : Sp := fun vs H Q _ => ∃ (D : Deck) (zs : List Nat) (v : V) (d : PyData), vs = [vt zs, v] ∧ DeckOk H D ∧ Lts zs ∧ 0 < zs.length ∧ zs.length ≤ 9 ∧ DQ D H v d ∧ gd d = true ∧ wt d ≤ 1000000 ∧ d.depth ≤ 50 ∧ ∀ b H', Same H H' → (b = true ↔ HoldsS zs d) → Q (.bl b) H'
section
variable {P : Program} {w : World} {K : PySem.W.Frag} {mg : Str → Option Value} {base : Heap} {f : Addr} {fd : FuncData}
theorem ok_due (F : Fun K "_law_due" "_law_due" s__law_due f fd) (M : Mgs mg) (D_law_grown : Df P w K mg base 41 "_law_grown" ["_law_order_here"] spGr) (D_law_barriers : Df P w K mg base 1 "_law_barriers" ["_law_order_here"] spLBars)
    (D_law_ahead : Df P w K mg base 30 "_law_ahead" ["_law_tree"] (spAhead 30)) (D_law_same : Df P w K mg base 20 "_law_same" ["_law_found", "_law_due_here"] (spSameQ 20)) : FnOkG P w K mg base 42 f fd ["_law_order_here", "_law_value"] spDue := by
  refine fnG F sc__law_due (fun vs H Q E h => ?_) (fun cdv A outer s H vs Q E gs hr h => ?_)
  · obtain ⟨D, zs, v, d, rfl, _⟩ := h
    rfl
  obtain ⟨D, zs, v, d, rfl, dk, lt, z0, z9, hd, g, hw, hdp, q⟩ := h
  refine ⟨_, (pss_cons (ps_par (i := 3) (j := 4) (by rfl) sc__law_due.nd rfl rfl (by decide) rfl rfl (pa_cons (pe_call D_law_grown.ok (hr.mono (by omega)) rfl D_law_grown.g D_law_grown.kp D_law_grown.b .nil pass0 (pa_cons (pv 0) pa_nil)) (pa_cons (pe_lc (own := [("_law_places", 2)]) (g := gName 2) (tt := tYes) rfl sc__law_due.nd (pi_list (pe_call D_law_barriers.ok (hr.mono (by omega)) rfl D_law_barriers.g D_law_barriers.kp D_law_barriers.b .nil pass0 (pa_cons (pv 0) pa_nil))) (blkOk_by (N := ["_law_order_here", "_law_value", "_law_places", "_law_tree", "_law_known"]) (sc := defScope s__law_due) (by decide +kernel)) (fun _ _ _ _ _ => (pg_name (i := 2) sc__law_due.nd rfl (.inl rfl))) (fun _ _ _ _ _ => pts_nil) (fun _ _ _ _ _ => (pe_callB (show CallR _ (.builtin "repr") rReprQ from call_reprQ gs hr.units) rfl M.repr (by decide +kernel) (pa_cons (pe_tup (pa_cons pe_str (pa_cons (pv 2) pa_nil))) pa_nil)))) pa_nil)) (by rfl))
    (pss_one (ps_ret (pe_or (pe_cmpR op_in_seq (pe_callB (show CallR _ (.builtin "repr") rReprQ from call_reprQ gs hr.units) rfl M.repr (by decide +kernel) (pa_cons (pv 1) pa_nil)) (pv 4) (by rfl)) (pe_one (pe_and (pe_cmpR op_eq (pe_call D_law_ahead.ok (hr.mono (by omega)) rfl D_law_ahead.g D_law_ahead.kp D_law_ahead.b .nil pass0 (pa_cons (pv 3) pa_nil)) (pv 0) (nomark _)) (pe_one (pe_call D_law_same.ok (hr.mono (by omega)) rfl D_law_same.g D_law_same.kp D_law_same.b .nil pass0 (pa_cons (pv 1) (pa_cons (pe_tup (pa_cons pe_str (pa_cons (pv 3) pa_nil))) pa_nil)))))))))), ?_⟩
  refine ⟨_, rfl, zs, rfl, by omega, fun u H1 s1 b1 => ?_⟩
  have dk1 := dk.same s1
  refine ⟨_, rfl, zs, rfl, by omega, fun p us H2 s2 ep tr tl => ⟨p, rfl, ⟨_, SqL.of ep⟩, fun L nL => ?_⟩⟩
  have hlen := tr.len
  have dk2 := dk1.same s2
  have trm : ∀ {l h b}, (l, h, b) ∈ lb0 zs zs.length → l < 10 ∧ h < 10 ∧ b < 10 := fun h => (lb_mem.mp h).lt z9
  refine lc_list (K := K) (a := p) (xs := us) (fun i H' => Same H2 H' ∧ H' L = some (.lst (((lb0 zs zs.length).take i).map fun t => V.str (barD t).shown))) ⟨same_new nL _, upd_same⟩ (fun i H' _ hq => SqL.of (hq.1 _ _ ep)) (fun i x H3 hx hq => ?_) (fun H3 hq => ?_)
  · obtain ⟨sm, eL⟩ := hq
    obtain ⟨a, l, h, b, rfl, ht, ea⟩ := tr.get hx
    have hi := (List.getElem?_eq_some_iff.mp hx).1
    have bd := trm (List.mem_of_getElem? ht)
    have ea3 := sm _ _ ea
    refine ⟨rfl, kept ?_⟩
    refine ⟨_, rfl, (by show 2 ≤ sizeLine; decide), fun tp ntp => ?_⟩
    have k4 := same_new ntp (.tup [.str "barrier", .ref a])
    have dk4 := (dk2.same sm).same k4
    obtain ⟨o1, o2, o3⟩ := barD_ok (t := (l, h, b)) bd.1 bd.2.1 bd.2.2
    refine ⟨_, D, barD (l, h, b), rfl, .tup ((dk2.same sm).new ntp) upd_same (.cons (.str _) (.cons (dq_trT dk4 (k4 _ _ ea3)) .nil)), o1, by omega, by omega, _, k4 _ _ eL, by rw [List.length_map, List.length_take]; show _ < 16777216; omega, fun c o e => ?_, ?_⟩
    · rw [upd_ne (ne_of_none e nL)]; exact k4 _ _ (sm _ _ e)
    · rw [upd_same, take_nextG ht, List.map_append]
      rfl
  obtain ⟨sm, eL⟩ := hq
  rw [List.take_of_length_le (by omega)] at eL
  have s13 := s1.trans (s2.trans sm)
  have dk3 := dk2.same sm
  refine ⟨_, _, rfl, ?_⟩
  refine ⟨_, rfl, v, D, d, rfl, dq_same s13 hd, g, hw, by omega, _, rfl, L, _, rfl, .inl (SqL.of eL), rfl, ?_, ?_⟩
  · rw [List.all_map, List.all_eq_true]
    exact fun _ _ => rfl
  have inI : inV (.str d.shown) ((lb0 zs zs.length).map fun t => V.str (barD t).shown) = true ↔ ∃ e, isBarD zs e ∧ d = .tuple [.str "barrier", e] := by
    unfold inV
    rw [List.any_map, List.any_eq_true]
    constructor
    · rintro ⟨⟨l, h, b⟩, hm, e⟩
      have e' : ((barD (l, h, b)).shown == d.shown) = true := e
      obtain ⟨h1, h2, h3⟩ := trm hm
      exact ⟨_, ⟨l, h, b, lb_mem.mp hm, rfl⟩, is_bar g h1 h2 h3 (beq_iff_eq.mp e').symm⟩
    · rintro ⟨e, ⟨l, h, b, hb, rfl⟩, rfl⟩
      exact ⟨(l, h, b), lb_mem.mpr hb, beq_iff_eq.mpr rfl⟩
  refine ⟨_, rfl, ?_⟩
  show if inV (.str d.shown) ((lb0 zs zs.length).map fun t => V.str (barD t).shown) = true then _ else _
  cases hin : inV (.str d.shown) ((lb0 zs zs.length).map fun t => V.str (barD t).shown) with
  | true => exact iteT (q _ _ s13 ⟨fun _ => .inr (inI.mp hin), fun _ => rfl⟩)
  | false =>
    have nob : ¬ ∃ e, isBarD zs e ∧ d = .tuple [.str "barrier", e] := fun z => by rw [inI.mpr z] at hin; cases hin
    refine iteF ?_
    have bu := (b1.same s2).same sm
    refine ⟨_, rfl, u, gr zs, rfl, bu, by rw [gr_size]; omega, by rw [gr_size]; omega, _, rfl, rfl, _, rfl, ?_⟩
    rw [vt_dec]
    have eqv : HoldsS zs d ↔ (gr zs).pre = zs ∧ d = .tuple [.str "tree", (gr zs).data] := by
      constructor
      · rintro (⟨t, _, h1, h2, h3⟩ | h)
        · have hb : gr zs = t := by rw [← h1]; exact gr_pre (bst_of_mid (asc_iff.mp h2))
          rw [hb]
          exact ⟨h1, h3⟩
        · exact absurd h nob
      · rintro ⟨h1, h2⟩
        exact .inl ⟨gr zs, gr_ne z0, h1, asc_of (bst_mid (bst_gr lt.1)), h2⟩
    by_cases hp : (gr zs).pre = zs
    · rw [decide_eq_true hp]
      refine iteT ?_
      refine ⟨_, rfl, _, rfl, (by show 2 ≤ sizeLine; decide), fun tp ntp => ?_⟩
      have k4 := same_new ntp (.tup [.str "tree", u])
      have dk4 := dk3.same k4
      have gd' : (gr zs).deep ≤ 9 := Nat.le_trans (gr zs).deep_le (by rw [gr_size]; omega)
      refine ⟨D, D, v, _, d, .tuple [.str "tree", (gr zs).data], rfl, dq_same (s13.trans k4) hd, .tup (dk3.new ntp) upd_same (.cons (.str _) (.cons (BAt.dq dk4 (bu.same k4)) .nil)), ?_, ?_, fun b H5 s5 hb => q b _ (s13.trans (k4.trans s5)) ?_⟩
      · simp only [cl, cls, cl_data, Bool.and_true, decide_eq_true_eq]
        exact Nat.le_of_ble_eq_true rfl
      · simp only [PyData.depth, PyData.depthAll, B.data_depth]
        omega
      · rw [hb, eqv]
        exact ⟨fun h => ⟨hp, h⟩, fun h => h.2⟩
    · rw [decide_eq_false hp]
      exact iteF (q _ _ s13 ⟨fun z => (nomatch z), fun h => absurd (eqv.mp h).1 hp⟩)
end
/-! ### _law_values -/
def rTupOf (K : PySem.W.Frag) : List V → Hp → VK → Prop := fun xs H Q => ∃ p ys, xs = [V.ref p] ∧ ((SqL K H p ys ∧ ∀ (l : Addr), H l = none → Q (V.ref l) (upd H l (HO.tup ys))) ∨ SqT K H p ys ∧ Q (V.ref p) H)
def AllG (D : Deck) (H : Hp) (W B : Nat) (xs : List V) : Prop := ∀ (i : Nat) (v : V), xs[i]? = some v → Gd D H W B v
theorem AllG.nil {D : Deck} {H : Hp} {W B : Nat} : AllG D H W B [] := fun i v e => by cases e
theorem AllG.cons {D : Deck} {H : Hp} {W B : Nat} {v : V} {xs : List V} (h : Gd D H W B v) (t : AllG D H W B xs) : AllG D H W B (v :: xs) := fun i u e => by
  cases i with
  | zero => cases e; exact h
  | succ i => exact t i u e
theorem AllG.app {D : Deck} {H : Hp} {W B : Nat} {xs ys : List V} (h : AllG D H W B xs) (t : AllG D H W B ys) : AllG D H W B (xs ++ ys) := fun i v e => by
  by_cases hi : i < xs.length
  · rw [List.getElem?_append_left hi] at e; exact h i v e
  · rw [List.getElem?_append_right (by omega)] at e; exact t _ v e
theorem AllG.sameD {D : Deck} {H H' : Hp} {W B : Nat} {xs : List V} (h : AllG D H W B xs) (s : SameD D H H') : AllG D H' W B xs := fun i v e => (h i v e).sameD s
theorem AllG.same {D : Deck} {H H' : Hp} {W B : Nat} {xs : List V} (h : AllG D H W B xs) (s : Same H H') : AllG D H' W B xs := h.sameD (SameD.of s)
theorem Gd.sameD' {D : Deck} {H H' : Hp} {W B : Nat} {v : V} (h : Gd D H W B v) (s : SameD D H H') : Gd D H' W B v := Gd.sameD s h
/-- places -/
def P3 (D : Deck) (H : Hp) (v : V) : Prop := ∃ (a : Addr) (l h b : Nat), v = .ref a ∧ H a = some (.tup [.int (l : Int), .int (h : Int), .int (b : Int)]) ∧ Off D a ∧ l < 10 ∧ h < 10 ∧ b < 10
def All3 (D : Deck) (H : Hp) (xs : List V) : Prop := ∀ (i : Nat) (v : V), xs[i]? = some v → P3 D H v
theorem All3.nil {D : Deck} {H : Hp} : All3 D H [] := fun i v e => by cases e
theorem All3.cons {D : Deck} {H : Hp} {v : V} {xs : List V} (h : P3 D H v) (t : All3 D H xs) : All3 D H (v :: xs) := fun i u e => by
  cases i with
  | zero => cases e; exact h
  | succ i => exact t i u e
theorem All3.app {D : Deck} {H : Hp} {xs ys : List V} (h : All3 D H xs) (t : All3 D H ys) : All3 D H (xs ++ ys) := fun i v e => by
  by_cases hi : i < xs.length
  · rw [List.getElem?_append_left hi] at e; exact h i v e
  · rw [List.getElem?_append_right (by omega)] at e; exact t _ v e
theorem All3.sameD {D : Deck} {H H' : Hp} {xs : List V} (g : All3 D H xs) (s : SameD D H H') : All3 D H' xs := fun i v e => by
  obtain ⟨a, l, h, b, e1, e2, o, e3⟩ := g i v e
  exact ⟨a, l, h, b, e1, s.at o e2, o, e3⟩
theorem All3.same {D : Deck} {H H' : Hp} {xs : List V} (g : All3 D H xs) (s : Same H H') : All3 D H' xs := g.sameD (SameD.of s)
theorem All3.gd {D : Deck} {H : Hp} {xs : List V} (g : All3 D H xs) (dk : DeckOk H D) : AllG D H 20000 12 xs := fun i v e => by
  obtain ⟨a, l, h, b, rfl, e2, o, b1, b2, b3⟩ := g i v e
  obtain ⟨t1, t2, t3⟩ := trT_ok b1 b2 b3
  exact ⟨_, dq_trT dk e2, t1, by omega, by omega⟩
/-- one == 1 if one < 2 else one -/
def cvI (m : Nat) : V := if m < 2 then .bl (decide (m = 1)) else .int (m : Int)
def cvD (m : Nat) : PyData := if m < 2 then .bool (decide (m = 1)) else .int (m : Int)
theorem one_dec (m : Nat) : decide (V.int (m : Int) = V.int 1) = decide (m = 1) := by
  by_cases h : m = 1
  · rw [decide_eq_true h, decide_eq_true (by rw [h]; rfl)]
  · rw [decide_eq_false h, decide_eq_false (fun z => h (by have := V.int.inj z; omega))]
def AllF (H : Hp) (ws : List V) : Prop := ∀ (i : Nat) (v : V), ws[i]? = some v → ∃ (a : Addr) (ms : List Nat), v = .ref a ∧ H a = some (.tup (ms.map cvI)) ∧ (∀ m ∈ ms, m < 10) ∧ ms.length ≤ 3
theorem AllF.nil {H : Hp} : AllF H [] := fun i v e => by cases e
theorem AllF.keep {H H' : Hp} {ws : List V} (h : AllF H ws) (k : KeepT H H') : AllF H' ws := fun i v e => by
  obtain ⟨a, ms, e1, e2, e3⟩ := h i v e
  exact ⟨a, ms, e1, k _ _ e2, e3⟩
theorem AllF.snoc {H : Hp} {ws : List V} {w : V} (h : AllF H ws) (g : ∃ (a : Addr) (ms : List Nat), w = .ref a ∧ H a = some (.tup (ms.map cvI)) ∧ (∀ m ∈ ms, m < 10) ∧ ms.length ≤ 3) : AllF H (ws ++ [w]) := fun i v e => by
  by_cases hi : i < ws.length
  · rw [List.getElem?_append_left hi] at e; exact h i v e
  · rw [List.getElem?_append_right (by omega)] at e
    have : i - ws.length = 0 := by
      have := (List.getElem?_eq_some_iff.mp e).1
      have : i - ws.length < 1 := this
      omega
    rw [this] at e
    cases e
    exact g
theorem cv_dq {D : Deck} {H : Hp} : ∀ ms : List Nat, DQAll D H (ms.map cvI) (ms.map cvD)
  | [] => .nil
  | m :: ms => by
    refine .cons ?_ (cv_dq ms)
    unfold cvI cvD
    by_cases h : m < 2
    · rw [if_pos h, if_pos h]; exact .bl _
    · rw [if_neg h, if_neg h]; exact .int _
theorem cv_ok : ∀ ms : List Nat, (∀ m ∈ ms, m < 10) → gds (ms.map cvD) = true ∧ wts (ms.map cvD) ≤ 64 * ms.length ∧ PyData.depthAll (ms.map cvD) = 0
  | [], _ => ⟨rfl, Nat.le_refl _, rfl⟩
  | m :: ms, hm => by
    obtain ⟨h1, h2, h3⟩ := cv_ok ms fun x hx => hm x (List.mem_cons_of_mem _ hx)
    have hi := small_int (hm m List.mem_cons_self)
    have : gd (cvD m) = true ∧ wt (cvD m) ≤ 62 ∧ (cvD m).depth = 0 := by
      unfold cvD
      by_cases h : m < 2
      · rw [if_pos h]; exact ⟨rfl, by simp only [wt]; decide, by simp only [PyData.depth]⟩
      · rw [if_neg h]; exact ⟨hi, by simp only [wt]; decide, by simp only [PyData.depth]⟩
    rw [List.map_cons]
    simp only [gds, wts, PyData.depthAll, h1, h3, this.1, this.2.2, List.length_cons, Bool.and_self, true_and]
    omega
theorem AllF.gd {D : Deck} {H : Hp} {ws : List V} (h : AllF H ws) (dk : DeckOk H D) : AllG D H 20000 12 ws := fun i v e => by
  obtain ⟨a, ms, rfl, e2, e3, e4⟩ := h i v e
  obtain ⟨h1, h2, h3⟩ := cv_ok ms e3
  refine ⟨_, .tup (off_tup dk e2) e2 (cv_dq ms), ?_, ?_, ?_⟩
  · simp only [Tw.gd]; exact h1
  · simp only [wt]; omega
  · simp only [PyData.depth, h3]; omega
theorem gd_list (xs : List PyData) : gd (.list xs) = gds xs := by simp only [gd]
theorem gd_tup (xs : List PyData) : gd (.tuple xs) = gds xs := by simp only [gd]
theorem gds_c (x : PyData) (xs : List PyData) : gds (x :: xs) = (gd x && gds xs) := by simp only [gds]
theorem gds_n : gds [] = true := by simp only [gds]
theorem gd_non : gd .none = true := by simp only [gd]
theorem al_of {c : Nat} (h : 97 ≤ c ∧ c ≤ 122) : isAl c = true := by
  unfold isAl
  rw [decide_eq_true h.1, decide_eq_true h.2]
  exact Bool.or_true _
theorem tx_gd {l : List Nat} (h : ∀ c ∈ l, 97 ≤ c ∧ c ≤ 122) (hl : l.length ≤ 90) : gd (.str (tx l)) = true := by
  refine str_gd ?_
  rw [Bool.and_eq_true, decide_eq_true_eq, tx_len, tx_cps, List.all_eq_true]
  exact ⟨hl, fun c hc => al_of (h c hc)⟩
theorem ch_gd {c : Nat} (h : 97 ≤ c ∧ c ≤ 122) : gd (.str (ch c)) = true := tx_gd (l := [c]) (fun d hd => by rw [List.mem_singleton.mp hd]; exact h) (by show 1 ≤ 90; decide)
theorem tree_good : ∀ (t : B), ltB t → gd t.data = true ∧ wt t.data ≤ 1000 * t.size + 4 ∧ t.data.depth ≤ t.size
  | .nil, _ => ⟨rfl, by simp only [B.data, wt]; omega, by simp only [B.data, PyData.depth]; exact Nat.zero_le _⟩
  | .node l x r, h => by
    obtain ⟨a1, a2, a3⟩ := tree_good l h.l
    obtain ⟨b1, b2, b3⟩ := tree_good r h.r
    have gx := ch_gd h.x
    have sz : (B.node l x r).size = l.size + 1 + r.size := rfl
    have e : gd (.tuple [l.data, .str (ch x), r.data]) = (gd l.data && (gd (.str (ch x)) && gd r.data)) := by simp only [gd, gds, Bool.and_true]
    refine ⟨?_, ?_, ?_⟩
    · show gd (.tuple [l.data, .str (ch x), r.data]) = true
      rw [e, a1, b1, gx]; rfl
    · show wt (.tuple [l.data, .str (ch x), r.data]) ≤ _
      simp only [wt, wts]; omega
    · show (PyData.tuple [l.data, .str (ch x), r.data]).depth ≤ _
      simp only [PyData.depth, PyData.depthAll]; omega
theorem tree_gd {D : Deck} {H : Hp} (dk : DeckOk H D) {v : V} {t : B} (b : BAt H v t) (l : ltB t) (z : t.size ≤ 9) : Gd D H 20000 12 v := by
  obtain ⟨w1, w2, w3⟩ := tree_good t l
  exact ⟨_, BAt.dq dk b, w1, by omega, by omega⟩
theorem txt_gd {D : Deck} {H : Hp} {l : List Nat} (h : ∀ c ∈ l, 97 ≤ c ∧ c ≤ 122) (hl : l.length ≤ 9) : Gd D H 20000 12 (.str (tx l)) :=
  ⟨_, .str _, tx_gd h (by omega), by simp only [wt]; decide, by simp only [PyData.depth]; decide⟩
theorem ltB_gr {zs : List Nat} (h : Lts zs) : ltB (gr zs) := fun c hc => h.2 c ((gr_perm zs).mem_iff.mp hc)
theorem ite_q {c : Bool} {A B : VK → Prop} {Q0 : VK} {R : V → Hp → Prop} (ha : c = true → ∀ Q : VK, (∀ v H, R v H → Q v H) → A Q) (hb : c = false → ∀ Q : VK, (∀ v H, R v H → Q v H) → B Q) (h : ∀ v H, R v H → Q0 v H) : if c = true then A Q0 else B Q0 := by
  cases c with
  | true => exact iteT (ha rfl Q0 h)
  | false => exact iteF (hb rfl Q0 h)
def spValues : Sp := fun vs H Q _ => ∃ (D : Deck) (zs : List Nat), vs = [.ref D.dk, vt zs] ∧ DeckOk H D ∧ Lts zs ∧ 0 < zs.length ∧ zs.length ≤ 9 ∧
  ∀ (p : Addr) (xs : List V) (H' : Hp), DeckOk H' D → SameD D H H' → H' p = some (.lst xs) → Off D p → AllG D H' 50000 14 xs → xs.length ≤ 60000 → Q (.ref p) H'
section
variable {P : Program} {w : World} {K : PySem.W.Frag} {mg : Str → Option Value} {base : Heap} {f : Addr} {fd : FuncData}
theorem ok_values (F : Fun K "_law_values" "_law_values" s__law_values f fd) (M : Mgs mg) (D_law_next : Df P w K mg base 1 "_law_next" ["_law_deck", "_law_many"] spNext) (D_law_odd : Df P w K mg base 2 "_law_odd" ["_law_deck"] spOdd) (D_law_bent : Df P w K mg base 3 "_law_bent" ["_law_deck", "_law_value"] spBent)
    (D_law_order : Df P w K mg base 32 "_law_order" ["_law_deck", "_law_low", "_law_high"] spOrder) (D_law_grown : Df P w K mg base 41 "_law_grown" ["_law_order_here"] spGr) (D_law_barriers : Df P w K mg base 1 "_law_barriers" ["_law_order_here"] spLBars)
    (D_law_ahead : Df P w K mg base 30 "_law_ahead" ["_law_tree"] (spAhead 30)) (D_law_turned : Df P w K mg base 30 "_law_turned" ["_law_tree"] (spTurned 30)) : FnOk P w K mg base CX0 42 f fd ["_law_deck", "_law_order_here"] spValues := by
  refine F.ok (k := 41) sc__law_values (fun vs H Q E h => ?_) (fun cdv A outer s H vs Q E hr h => ?_)
  · obtain ⟨D, zs, rfl, _⟩ := h
    rfl
  obtain ⟨D, zs, rfl, dk, lt, z0, z9, q'⟩ := h
  refine ⟨_, (pss_cons (ps_par (i := 2) (j := 3) (by rfl) sc__law_values.nd rfl rfl (by decide) rfl rfl (pa_cons (pe_call D_law_grown.ok (hr.mono (by omega)) rfl D_law_grown.g D_law_grown.kp D_law_grown.b .nil pass0 (pa_cons (pv 1) pa_nil)) (pa_cons (pe_call D_law_grown.ok (hr.mono (by omega)) rfl D_law_grown.g D_law_grown.kp D_law_grown.b .nil pass0 (pa_cons (pe_call D_law_order.ok (hr.mono (by omega)) rfl D_law_order.g D_law_order.kp D_law_order.b .nil pass0 (pa_cons (pv 0) (pa_cons pe_int (pa_cons pe_int pa_nil)))) pa_nil)) pa_nil)) (by rfl))
    (pss_cons (ps_set (i := 4) sc__law_values.nd rfl (.inl rfl) (pe_lst (pa_cons (pv 2) (pa_cons (pe_call D_law_turned.ok (hr.mono (by omega)) rfl D_law_turned.g D_law_turned.kp D_law_turned.b .nil pass0 (pa_cons (pv 2) pa_nil)) (pa_cons (pv 3) (pa_cons (pe_ix ix_tup (pv 2) pe_int (fun _ _ => rfl)) (pa_cons (pe_ix ix_tup (pv 2) pe_int (fun _ _ => rfl)) (pa_cons (pe_callTy call_list_of rfl M.list (by decide +kernel) (pa_cons (pv 2) pa_nil)) (pa_cons (pv 1) (pa_cons (pe_call D_law_ahead.ok (hr.mono (by omega)) rfl D_law_ahead.g D_law_ahead.kp D_law_ahead.b .nil pass0 (pa_cons (pv 2) pa_nil)) pa_nil))))))))))
    (pss_cons (ps_expr (pe_bm PySem.F.plainAttrs_list PySem.F.slot_list_append PySem.F.type_list_append mt_append (pv 4) (pa_cons (pe_tup (pa_cons pe_non (pa_cons (pe_ix ix_str (pv 1) pe_int (fun _ _ => rfl)) (pa_cons pe_non pa_nil)))) pa_nil)))
    (pss_cons (ps_set (i := 5) sc__law_values.nd rfl (.inl rfl) (pe_op op_cat (pe_call D_law_barriers.ok (hr.mono (by omega)) rfl D_law_barriers.g D_law_barriers.kp D_law_barriers.b .nil pass0 (pa_cons (pv 1) pa_nil)) (pe_lst (pa_cons (pe_tup (pa_cons pe_int (pa_cons pe_int (pa_cons pe_int pa_nil)))) (pa_cons (pe_tup (pa_cons pe_int (pa_cons pe_int (pa_cons pe_int pa_nil)))) (pa_cons (pe_tup (pa_cons pe_int (pa_cons pe_int (pa_cons pe_int pa_nil)))) pa_nil))))))
    (pss_cons (ps_set (i := 4) sc__law_values.nd rfl (.inl rfl) (pe_op op_cat (pv 4) (pe_lc (own := [("_law_some", 6)]) (g := gName 6) (tt := tYes) rfl sc__law_values.nd (pi_list (pe_slice sl_list (pv 5) po_none (po_some pe_int))) (blkOk_by (N := ["_law_deck", "_law_order_here", "_law_tree", "_law_other", "_law_parts", "_law_places", "_law_some", "_law_one", "_law_again", "_law_once", "_law_values_here", "_law_part"]) (sc := defScope s__law_values) (by decide +kernel)) (fun _ _ _ _ _ => (pg_name (i := 6) sc__law_values.nd rfl (.inl rfl))) (fun _ _ _ _ _ => pts_nil) (fun _ _ _ _ _ => (pe_callTy (show CallR _ (.type "tuple") (rTupOf K) from call_tuple_of) rfl M.tuple (by decide +kernel) (pa_cons (pe_lc (own := [("_law_one", 7)]) (g := gName 7) (tt := tYes) rfl sc__law_values.nd (show PI _ _ _ (iTup K _) from pi_tup (pv 6)) (blkOk_by (N := ["_law_deck", "_law_order_here", "_law_tree", "_law_other", "_law_parts", "_law_places", "_law_some", "_law_one", "_law_again", "_law_once", "_law_values_here", "_law_part"]) (sc := { kind := .function, names := [(".0", .local), ("_law_some", .local), ("tuple", .globalImplicit)], isGenerator := false, isCoroutine := false }) (by decide +kernel)) (fun _ _ _ _ _ => (pg_name (i := 7) sc__law_values.nd rfl (.inl rfl))) (fun _ _ _ _ _ => pts_nil) (fun _ _ _ _ _ => (pe_ifExp (pt_cmpR op_lt (pv 7) pe_int (nomark _)) (pe_cmpR op_eq (pv 7) pe_int (nomark _)) (pv 7)))) pa_nil))))))
    (pss_cons (ps_for PassesOwn.never rfl (pi_range1 rfl M.range (pa_cons pe_int pa_nil)) (pg_name (i := 8) sc__law_values.nd rfl (.inl rfl))
      (pss_cons (ps_set (i := 9) sc__law_values.nd rfl (.inl rfl) (pe_call D_law_bent.ok (hr.mono (by omega)) rfl D_law_bent.g D_law_bent.kp D_law_bent.b .nil pass0 (pa_cons (pv 0) (pa_cons (pe_ix ix_list (pv 5) (pe_call D_law_next.ok (hr.mono (by omega)) rfl D_law_next.g D_law_next.kp D_law_next.b .nil pass0 (pa_cons (pv 0) (pa_cons (pe_callB call_len_seq rfl M.len PySem.boot_len (pa_cons (pv 5) pa_nil)) pa_nil))) (fun _ _ => rfl)) pa_nil))))
    (pss_one (ps_set (i := 4) sc__law_values.nd rfl (.inl rfl) (pe_op op_cat (pv 4) (pe_lst (pa_cons (pv 9) (pa_cons (pe_ifExp (pt_val (pe_callB call_isi rfl M.isinstance (by decide +kernel) (pa_cons (pv 9) (pa_cons (pe_bltn (v := .ty "tuple") rfl M.tuple (by decide +kernel) rfl) pa_nil)))) (pe_call D_law_bent.ok (hr.mono (by omega)) rfl D_law_bent.g D_law_bent.kp D_law_bent.b .nil pass0 (pa_cons (pv 0) (pa_cons (pv 9) pa_nil))) (pe_call D_law_odd.ok (hr.mono (by omega)) rfl D_law_odd.g D_law_odd.kp D_law_odd.b .nil pass0 (pa_cons (pv 0) pa_nil))) pa_nil))))))))
    (pss_cons (ps_set (i := 10) sc__law_values.nd rfl (.inl rfl) (pe_lst pa_nil))
    (pss_cons (ps_for PassesOwn.never rfl (pi_list (pe_op op_cat (pe_op op_cat (pv 4) (pv 5)) (pe_lst (pa_cons (pe_call D_law_odd.ok (hr.mono (by omega)) rfl D_law_odd.g D_law_odd.kp D_law_odd.b .nil pass0 (pa_cons (pv 0) pa_nil)) pa_nil)))) (pg_name (i := 11) sc__law_values.nd rfl (.inl rfl))
      (pss_one (ps_set (i := 10) sc__law_values.nd rfl (.inl rfl) (pe_op op_cat (pv 10) (pe_lst (pa_cons (pe_tup (pa_cons pe_str (pa_cons (pv 11) pa_nil))) (pa_cons (pe_tup (pa_cons pe_str (pa_cons (pv 11) pa_nil))) pa_nil)))))))
    (pss_cons (ps_set (i := 10) sc__law_values.nd rfl (.inl rfl) (pe_op op_cat (pv 10) (pe_lst (pa_cons (pv 2) (pa_cons (pe_lst (pa_cons pe_str (pa_cons (pv 2) pa_nil))) (pa_cons (pe_tup (pa_cons pe_str (pa_cons (pv 2) pa_nil))) (pa_cons (pe_tup (pa_cons pe_str pa_nil)) (pa_cons (pe_tup (pa_cons pe_str (pa_cons (pv 2) (pa_cons (pv 2) pa_nil)))) (pa_cons (pe_tup (pa_cons (pv 2) (pa_cons pe_str pa_nil))) pa_nil)))))))))
    (pss_cons (ps_set (i := 10) sc__law_values.nd rfl (.inl rfl) (pe_op op_cat (pv 10) (pe_lst (pa_cons (pe_tup (pa_cons (pe_call D_law_odd.ok (hr.mono (by omega)) rfl D_law_odd.g D_law_odd.kp D_law_odd.b .nil pass0 (pa_cons (pv 0) pa_nil)) (pa_cons (pv 2) pa_nil))) (pa_cons (pe_lst (pa_cons pe_str (pa_cons (pe_ix ix_list (pv 5) pe_int (fun _ _ => rfl)) pa_nil))) (pa_cons (pe_op op_catA (pe_tup (pa_cons pe_str pa_nil)) (pe_ix ix_list (pv 5) pe_int (fun _ _ => rfl))) pa_nil))))))
    (pss_one (ps_ret (pe_op op_cat (pv 10) (pe_lst (pa_cons (pe_call D_law_odd.ok (hr.mono (by omega)) rfl D_law_odd.g D_law_odd.kp D_law_odd.b .nil pass0 (pa_cons (pv 0) pa_nil)) (pa_cons (pe_ix ix_list (pv 5) pe_int (fun _ _ => rfl)) pa_nil)))))))))))))))), ?_⟩
  have S := SameD.refl D H
  refine ⟨_, rfl, zs, rfl, by omega, fun u H1 s1 bu => ?_⟩
  have dk := dk.same s1
  have S := S.trans (SameD.of s1)
  refine ⟨_, rfl, D, 1, 9, rfl, dk, by decide, by decide, fun ys H2 d2 s2 ly y1 y9 => ?_⟩
  have bu := bu.keep (s2.keepT dk)
  have S := S.trans s2
  have dk := d2
  clear s2 d2
  refine ⟨ys, rfl, by omega, fun o H3 s3 bo => ?_⟩
  have bu := bu.same s3
  have dk := dk.same s3
  have S := S.trans (SameD.of s3)
  refine ⟨_, _, rfl, ?_⟩
  have zu : (gr zs).size = zs.length := gr_size zs
  have zo : (gr ys).size = ys.length := gr_size ys
  have lu : ltB (gr zs) := ltB_gr lt
  have lo : ltB (gr ys) := ltB_gr ly
  obtain ⟨tl, x, tr, etr⟩ : ∃ tl x tr, gr zs = .node tl x tr := by
    cases hg : gr zs with
    | nil => exact absurd hg (gr_ne z0)
    | node l x r => exact ⟨l, x, r, rfl⟩
  obtain ⟨a, l, r, rfl, ea, bl, br⟩ : ∃ a l r, u = .ref a ∧ H3 a = some (.tup [l, .str (ch x), r]) ∧ BAt H3 l tl ∧ BAt H3 r tr := by
    rw [etr] at bu
    cases bu with
    | node e h1 h2 => exact ⟨_, _, _, rfl, e, h1, h2⟩
  have o_ea := off_tup dk ea
  refine ⟨_, rfl, _, rfl, .ref a, _, rfl, bu, by omega, fun t H4 s4 bt => ?_⟩
  have bu := bu.same s4
  have bo := bo.same s4
  have ea := s4 _ _ ea
  have bl := bl.same s4
  have br := br.same s4
  have dk := dk.same s4
  have S := S.trans (SameD.of s4)
  refine ⟨_, rfl, _, rfl, a, _, _, _, rfl, rfl, SqT.of ea, atI_nat (j := 0) rfl, _, rfl, a, _, _, _, rfl, rfl, SqT.of ea, atI_nat (j := 2) rfl, _, rfl, a, _, rfl, .inr (SqT.of ea), ?_⟩
  refine fun pE npE => ?_
  have q22 := same_new npE (.lst [l, .str (ch x), r])
  have o_eE := dk.new npE
  have eE := upd_same (H := H4) (a := pE) (o := .lst [l, .str (ch x), r])
  have bu := bu.same q22
  have bo := bo.same q22
  have ea := q22 _ _ ea
  have bl := bl.same q22
  have br := br.same q22
  have bt := bt.same q22
  have dk := dk.same q22
  have S := S.trans (SameD.of q22)
  clear q22 npE
  generalize upd H4 pE (.lst [l, .str (ch x), r]) = H21 at eE bu bo ea bl br bt dk S ⊢
  refine ⟨_, rfl, _, rfl, .ref a, _, rfl, bu, by omega, by omega, ?_⟩
  refine ⟨(by show 8 ≤ sizeLine; decide), fun pP npP => ?_⟩
  have zP := S.free dk npP
  have qP := same_new npP (.lst [.ref a, t, o, l, r, .ref pE, .str (tx zs), .str (tx (gr zs).pre)])
  have o_eP := dk.new npP
  have eP := upd_same (H := H21) (a := pP) (o := .lst [.ref a, t, o, l, r, .ref pE, .str (tx zs), .str (tx (gr zs).pre)])
  have bu := bu.same qP
  have bo := bo.same qP
  have ea := qP _ _ ea
  have bl := bl.same qP
  have br := br.same qP
  have bt := bt.same qP
  have eE := qP _ _ eE
  have dk := dk.same qP
  have S := S.trans (SameD.of qP)
  clear qP npP
  generalize upd H21 pP (.lst [.ref a, t, o, l, r, .ref pE, .str (tx zs), .str (tx (gr zs).pre)]) = K1 at eP bu bo ea bl br bt eE dk S ⊢
  obtain ⟨c0, h0⟩ : ∃ c0, zs[0]? = some c0 := ⟨_, List.getElem?_eq_getElem z0⟩
  have lz : (tx zs).length ≤ sizeLine := small (by rw [tx_len]; omega)
  refine ⟨_, rfl, .inl ⟨rfl, _, SqL.of eP⟩, _, rfl, _, _, c0, rfl, rfl, lz, atI_nat (j := 0) h0, ?_⟩
  refine ⟨(by show 3 ≤ sizeLine; decide), fun pN npN => ?_⟩
  have q24 := same_new npN (.tup [.non, .str (ch c0), .non])
  have o_eN := dk.new npN
  have eN := upd_same (H := K1) (a := pN) (o := .tup [.non, .str (ch c0), .non])
  have bu := bu.same q24
  have bo := bo.same q24
  have ea := q24 _ _ ea
  have bl := bl.same q24
  have br := br.same q24
  have bt := bt.same q24
  have eE := q24 _ _ eE
  have eP := q24 _ _ eP
  have dk := dk.same q24
  have S := S.trans (SameD.of q24)
  clear q24 npN
  generalize upd K1 pN (.tup [.non, .str (ch c0), .non]) = H23 at eN bu bo ea bl br bt eE eP dk S ⊢
  have nEP : pE ≠ pP := ne_of eE eP (by intro z; cases z)
  refine ⟨pP, _, _, rfl, rfl, eP, (by show 8 < 16777216; decide), ?_⟩
  have kp : KeepT H23 (upd H23 pP (.lst ([V.ref a, t, o, l, r, .ref pE, .str (tx zs), .str (tx (gr zs).pre)] ++ [V.ref pN]))) := fun b xs e => by rw [upd_ne (ne_of e eP (by intro z; cases z))]; exact e
  have bu := bu.keep kp
  have bo := bo.keep kp
  have bl := bl.keep kp
  have br := br.keep kp
  have bt := bt.keep kp
  have ea := kp _ _ ea
  have eN := kp _ _ eN
  have eE : (upd H23 pP (.lst ([V.ref a, t, o, l, r, .ref pE, .str (tx zs), .str (tx (gr zs).pre)] ++ [V.ref pN]))) pE = some (.lst [l, .str (ch x), r]) := by rw [upd_ne nEP]; exact eE
  have dk := dk.put o_eP (.lst ([V.ref a, t, o, l, r, .ref pE, .str (tx zs), .str (tx (gr zs).pre)] ++ [V.ref pN]))
  have S := S.put zP (.lst ([V.ref a, t, o, l, r, .ref pE, .str (tx zs), .str (tx (gr zs).pre)] ++ [V.ref pN]))
  have eP := upd_same (H := H23) (a := pP) (o := .lst ([V.ref a, t, o, l, r, .ref pE, .str (tx zs), .str (tx (gr zs).pre)] ++ [V.ref pN]))
  generalize upd H23 pP (.lst ([V.ref a, t, o, l, r, .ref pE, .str (tx zs), .str (tx (gr zs).pre)] ++ [V.ref pN])) = K2 at eP bu bo bl br bt ea eN eE dk S ⊢
  clear kp
  have hx : 97 ≤ x ∧ x ≤ 122 := by rw [etr] at lu; exact lu.x
  have ll : ltB tl := by rw [etr] at lu; exact lu.l
  have lr : ltB tr := by rw [etr] at lu; exact lu.r
  have szz : tl.size + 1 + tr.size = zs.length := by rw [← zu, etr]; rfl
  have gP : AllG D K2 20000 12 ([V.ref a, t, o, l, r, .ref pE, .str (tx zs), .str (tx (gr zs).pre)] ++ [V.ref pN]) := by
    refine AllG.app (.cons (tree_gd dk bu lu (by omega)) (.cons (tree_gd dk bt (B.tn_lt lu) (by rw [B.tn_size]; omega)) (.cons (tree_gd dk bo lo (by omega)) (.cons (tree_gd dk bl ll (by omega)) (.cons (tree_gd dk br lr (by omega)) (.cons ?_ (.cons (txt_gd lt.2 (by omega)) (.cons (txt_gd lu (by rw [B.pre_len]; omega)) .nil)))))))) (.cons ?_ .nil)
    · obtain ⟨w1, w2, w3⟩ := tree_good tl ll
      obtain ⟨w4, w5, w6⟩ := tree_good tr lr
      refine ⟨_, .lst o_eE eE (.cons (BAt.dq dk bl) (.cons (.str _) (.cons (BAt.dq dk br) .nil))), ?_, ?_, ?_⟩
      · simp only [gd_list, gds_c, gds_n, Bool.and_true, Bool.and_eq_true]
        exact ⟨w1, ch_gd hx, w4⟩
      · simp only [wt, wts]; omega
      · simp only [PyData.depth, PyData.depthAll]; omega
    · have hc := lt.2 c0 (List.mem_of_getElem? h0)
      refine ⟨_, .tup o_eN eN (.cons .non (.cons (.str _) (.cons .non .nil))), ?_, ?_, ?_⟩
      · simp only [gd_tup, gds_c, gds_n, gd_non, Bool.and_true, Bool.and_eq_true, true_and]
        exact ch_gd hc
      · simp only [wt, wts]; decide
      · simp only [PyData.depth, PyData.depthAll]; decide
  have lP : ([V.ref a, t, o, l, r, .ref pE, .str (tx zs), .str (tx (gr zs).pre)] ++ [V.ref pN]).length ≤ 9 := by show 9 ≤ 9; decide
  generalize ([V.ref a, t, o, l, r, .ref pE, .str (tx zs), .str (tx (gr zs).pre)] ++ [V.ref pN]) = xp at eP gP lP
  clear bo bt bl br eE eN ea
  refine ⟨_, rfl, zs, rfl, by omega, fun pb us Hb sb eb tr' tl' => ?_⟩
  have bu := bu.same sb
  have eP := sb _ _ eP
  have gP := gP.same sb
  have dk := dk.same sb
  have S := S.trans (SameD.of sb)
  have hus := tr'.len
  have g3 : All3 D Hb us := fun i v hv => by
    obtain ⟨q, l, h, b, rfl, ht, eq⟩ := tr'.get hv
    have bd := (lb_mem.mp (List.mem_of_getElem? ht)).lt z9
    exact ⟨q, l, h, b, rfl, eq, off_tup dk eq, bd.1, bd.2.1, bd.2.2⟩
  clear tr'
  refine ⟨(by show 3 ≤ sizeLine; decide), fun pJ1 npJ1 => ?_⟩
  have q26 := same_new npJ1 (.tup [.int 0, .int 1, .int 2])
  have o_eJ1 := dk.new npJ1
  have eJ1 := upd_same (H := Hb) (a := pJ1) (o := .tup [.int 0, .int 1, .int 2])
  have bu := bu.same q26
  have eP := q26 _ _ eP
  have gP := gP.same q26
  have g3 := g3.same q26
  have eb := q26 _ _ eb
  have dk := dk.same q26
  have S := S.trans (SameD.of q26)
  clear q26 npJ1
  generalize upd Hb pJ1 (.tup [.int 0, .int 1, .int 2]) = H25 at eJ1 bu eP gP g3 eb dk S ⊢
  refine ⟨(by show 3 ≤ sizeLine; decide), fun pJ2 npJ2 => ?_⟩
  have q28 := same_new npJ2 (.tup [.int 2, .int 1, .int 0])
  have o_eJ2 := dk.new npJ2
  have eJ2 := upd_same (H := H25) (a := pJ2) (o := .tup [.int 2, .int 1, .int 0])
  have bu := bu.same q28
  have eP := q28 _ _ eP
  have gP := gP.same q28
  have g3 := g3.same q28
  have eJ1 := q28 _ _ eJ1
  have eb := q28 _ _ eb
  have dk := dk.same q28
  have S := S.trans (SameD.of q28)
  clear q28 npJ2
  generalize upd H25 pJ2 (.tup [.int 2, .int 1, .int 0]) = H27 at eJ2 bu eP gP g3 eb eJ1 dk S ⊢
  refine ⟨(by show 3 ≤ sizeLine; decide), fun pJ3 npJ3 => ?_⟩
  have q30 := same_new npJ3 (.tup [.int 0, .int 0, .int 1])
  have o_eJ3 := dk.new npJ3
  have eJ3 := upd_same (H := H27) (a := pJ3) (o := .tup [.int 0, .int 0, .int 1])
  have bu := bu.same q30
  have eP := q30 _ _ eP
  have gP := gP.same q30
  have g3 := g3.same q30
  have eJ1 := q30 _ _ eJ1
  have eJ2 := q30 _ _ eJ2
  have eb := q30 _ _ eb
  have dk := dk.same q30
  have S := S.trans (SameD.of q30)
  clear q30 npJ3
  generalize upd H27 pJ3 (.tup [.int 0, .int 0, .int 1]) = H29 at eJ3 bu eP gP g3 eb eJ1 eJ2 dk S ⊢
  refine ⟨(by show 3 ≤ sizeLine; decide), fun pJ npJ => ?_⟩
  have q32 := same_new npJ (.lst [.ref pJ1, .ref pJ2, .ref pJ3])
  have o_eJ := dk.new npJ
  have eJ := upd_same (H := H29) (a := pJ) (o := .lst [.ref pJ1, .ref pJ2, .ref pJ3])
  have bu := bu.same q32
  have eP := q32 _ _ eP
  have gP := gP.same q32
  have g3 := g3.same q32
  have eJ1 := q32 _ _ eJ1
  have eJ2 := q32 _ _ eJ2
  have eJ3 := q32 _ _ eJ3
  have eb := q32 _ _ eb
  have dk := dk.same q32
  have S := S.trans (SameD.of q32)
  clear q32 npJ
  generalize upd H29 pJ (.lst [.ref pJ1, .ref pJ2, .ref pJ3]) = H31 at eJ bu eP gP g3 eb eJ1 eJ2 eJ3 dk S ⊢
  refine ⟨pb, pJ, _, _, rfl, rfl, eb, eJ, (by show us.length + 3 ≤ 16777216; omega), fun pPL npPL => ?_⟩
  have q34 := same_new npPL (.lst (us ++ [.ref pJ1, .ref pJ2, .ref pJ3]))
  have o_ePL := dk.new npPL
  have ePL := upd_same (H := H31) (a := pPL) (o := .lst (us ++ [.ref pJ1, .ref pJ2, .ref pJ3]))
  have bu := bu.same q34
  have eP := q34 _ _ eP
  have gP := gP.same q34
  have g3 := g3.same q34
  have eJ1 := q34 _ _ eJ1
  have eJ2 := q34 _ _ eJ2
  have eJ3 := q34 _ _ eJ3
  have eJ := q34 _ _ eJ
  have eb := q34 _ _ eb
  have dk := dk.same q34
  have S := S.trans (SameD.of q34)
  clear q34 npPL
  generalize upd H31 pPL (.lst (us ++ [.ref pJ1, .ref pJ2, .ref pJ3])) = H33 at ePL bu eP gP g3 eb eJ1 eJ2 eJ3 eJ dk S ⊢
  have g3 : All3 D H33 (us ++ [.ref pJ1, .ref pJ2, .ref pJ3]) := g3.app (.cons ⟨pJ1, 0, 1, 2, rfl, eJ1, o_eJ1, by decide, by decide, by decide⟩ (.cons ⟨pJ2, 2, 1, 0, rfl, eJ2, o_eJ2, by decide, by decide, by decide⟩ (.cons ⟨pJ3, 0, 0, 1, rfl, eJ3, o_eJ3, by decide, by decide, by decide⟩ .nil)))
  have l3 : 3 ≤ (us ++ [V.ref pJ1, .ref pJ2, .ref pJ3]).length := by rw [List.length_append]; show 3 ≤ us.length + 3; omega
  have l3' : (us ++ [V.ref pJ1, .ref pJ2, .ref pJ3]).length ≤ 27003 := by rw [List.length_append]; show us.length + 3 ≤ 27003; omega
  clear eJ eJ1 eJ2 eJ3 eb
  generalize us ++ [V.ref pJ1, .ref pJ2, .ref pJ3] = ps at ePL g3 l3 l3'
  refine ⟨_, rfl, _, rfl, 3, rfl, pPL, ps, rfl, SqL.of ePL, ?_⟩
  refine fun pT npT => ?_
  have q36 := same_new npT (.lst (cutV ps none (some 3)))
  have o_eT := dk.new npT
  have eT := upd_same (H := H33) (a := pT) (o := .lst (cutV ps none (some 3)))
  have bu := bu.same q36
  have eP := q36 _ _ eP
  have gP := gP.same q36
  have g3 := g3.same q36
  have ePL := q36 _ _ ePL
  have dk := dk.same q36
  have S := S.trans (SameD.of q36)
  clear q36 npT
  generalize upd H33 pT (.lst (cutV ps none (some 3))) = H35 at eT bu eP gP g3 ePL dk S ⊢
  have ecut : cutV ps none (some 3) = ps.take 3 := cut_to ps 3
  rw [ecut] at eT
  refine ⟨pT, rfl, ⟨_, SqL.of eT⟩, fun C nC => ?_⟩
  have zC := S.free dk nC
  have oC := dk.new nC
  refine lc_list (K := K) (a := pT) (xs := ps.take 3) (fun i H' => Same H35 H' ∧ ∃ ws : List V, H' C = some (.lst ws) ∧ ws.length ≤ i ∧ AllF H' ws) ⟨same_new nC _, [], upd_same, Nat.le_refl _, AllF.nil⟩ (fun i H' _ hq => SqL.of (hq.1 _ _ eT)) (fun i y H' hy hq => ?_) (fun H' hq => ?_)
  · obtain ⟨sm, ws, eC, lw, fw⟩ := hq
    have hi := (List.getElem?_eq_some_iff.mp hy).1
    have hi3 : i < 3 := by rw [List.length_take] at hi; omega
    obtain ⟨q, i1, i2, i3, rfl, eq, _, _⟩ := g3 i y (by rw [List.getElem?_take_of_lt hi3] at hy; exact hy)
    have eq1 := sm _ _ eq
    refine ⟨rfl, kept ?_⟩
    refine ⟨_, rfl, q, rfl, ⟨_, SqT.of eq1⟩, fun M nM => ?_⟩
    refine lc_tup (K := K) (a := q) (xs := [.int (i1 : Int), .int (i2 : Int), .int (i3 : Int)]) (fun n H2 => Same H' H2 ∧ H2 M = some (.lst (([i1, i2, i3].take n).map cvI))) ⟨same_new nM _, upd_same⟩ (fun n H2 _ h2 => SqT.of (h2.1 _ _ eq1)) (fun n z H2 hz h2 => ?_) (fun H2 h2 => ?_)
    · obtain ⟨s2, eM⟩ := h2
      obtain ⟨m, hm, rfl⟩ : ∃ m : Nat, [i1, i2, i3][n]? = some m ∧ z = .int (m : Int) := by
        match n, hz with
        | 0, h => cases h; exact ⟨_, rfl, rfl⟩
        | 1, h => cases h; exact ⟨_, rfl, rfl⟩
        | 2, h => cases h; exact ⟨_, rfl, rfl⟩
      refine ⟨rfl, kept ?_⟩
      have put : ∀ v, v = cvI m → ∃ acc, H2 M = some (.lst acc) ∧ acc.length < sizeLine ∧ (Same H' (upd H2 M (.lst (acc ++ [v]))) ∧ upd H2 M (.lst (acc ++ [v])) M = some (.lst (([i1, i2, i3].take (n + 1)).map cvI))) := by
        rintro v rfl
        refine ⟨_, eM, ?_, fun b u e => ?_, ?_⟩
        · rw [List.length_map, List.length_take]; exact small1000 (Nat.le_trans (Nat.min_le_right _ _) (by show 3 ≤ 1000; decide))
        · rw [upd_ne (ne_of_none e nM)]; exact s2 _ _ e
        · rw [upd_same, take_nextG hm, List.map_append]; rfl
      refine ⟨_, rfl, _, _, rfl, rfl, _, rfl, ?_⟩
      by_cases h2 : (m : Int) < 2
      · rw [decide_eq_true h2]
        refine iteT ⟨_, rfl, rfl, ?_⟩
        exact put _ (by unfold cvI; rw [if_pos (by omega), one_dec])
      · rw [decide_eq_false h2]
        exact iteF ⟨_, rfl, put _ (by unfold cvI; rw [if_neg (by omega)])⟩
    · obtain ⟨s2, eM⟩ := h2
      refine ⟨M, _, rfl, .inl ⟨SqL.of eM, fun w nw => ?_⟩⟩
      have k3 := same_new nw (.tup (([i1, i2, i3].take [V.int (i1 : Int), .int (i2 : Int), .int (i3 : Int)].length).map cvI))
      have eC3 := k3 _ _ (s2 _ _ eC)
      refine ⟨_, eC3, small1000 (by omega), fun b u e => ?_, ws ++ [.ref w], upd_same, by rw [List.length_append]; show _ + 1 ≤ _; omega, ?_⟩
      · rw [upd_ne (ne_of_none e nC)]; exact k3 _ _ (s2 _ _ (sm _ _ e))
      · have kp : KeepT (upd H2 w (.tup (([i1, i2, i3].take [V.int (i1 : Int), .int (i2 : Int), .int (i3 : Int)].length).map cvI))) (upd (upd H2 w (.tup (([i1, i2, i3].take [V.int (i1 : Int), .int (i2 : Int), .int (i3 : Int)].length).map cvI))) C (.lst (ws ++ [.ref w]))) := fun b xs e => by rw [upd_ne (ne_of e eC3 (by intro z; cases z))]; exact e
        have bd := g3 i (.ref q) (by rw [List.getElem?_take_of_lt hi3] at hy; exact hy)
        obtain ⟨q', j1, j2, j3, e', eq', _, b1, b2, b3⟩ := bd
        cases e'
        rw [eq] at eq'
        simp only [Option.some.injEq, HO.tup.injEq, List.cons.injEq, V.int.injEq, and_true] at eq'
        exact ((fw.keep (Tw.Same.keepT (s2.trans k3))).snoc ⟨w, [i1, i2, i3], rfl, upd_same, fun m hm => by simp only [List.mem_cons, List.not_mem_nil, or_false] at hm; omega, by show 3 ≤ 3; decide⟩).keep kp
  obtain ⟨sm, ws, eC, lw, fw⟩ := hq
  have bu := bu.same sm
  have eP := sm _ _ eP
  have gP := gP.same sm
  have g3 := g3.same sm
  have ePL := sm _ _ ePL
  have eT := sm _ _ eT
  have dk := dk.same sm
  have S := S.trans (SameD.of sm)
  have o_eC := oC
  have gw : AllG D H' 20000 12 ws := fw.gd dk
  have lw : ws.length ≤ 3 := Nat.le_trans lw (by rw [List.length_take]; omega)
  clear fw eT
  refine ⟨pP, C, _, _, rfl, rfl, eP, eC, (by show _ ≤ 16777216; omega), fun pQ npQ => ?_⟩
  have q62 := same_new npQ (.lst (xp ++ ws))
  have o_eQ := dk.new npQ
  have eQ := upd_same (H := H') (a := pQ) (o := .lst (xp ++ ws))
  have bu := bu.same q62
  have eP := q62 _ _ eP
  have gP := gP.same q62
  have g3 := g3.same q62
  have ePL := q62 _ _ ePL
  have eC := q62 _ _ eC
  have gw := gw.same q62
  have dk := dk.same q62
  have S := S.trans (SameD.of q62)
  clear q62 npQ
  generalize upd H' pQ (.lst (xp ++ ws)) = H61 at eQ bu eP gP g3 ePL eC gw dk S ⊢
  have gQ := gP.app gw
  have lQ : (xp ++ ws).length ≤ 12 := by rw [List.length_append]; omega
  generalize xp ++ ws = xq at eQ gQ lQ
  clear eP gP eC gw
  refine ⟨6, rfl, by decide, by decide, ?_⟩
  refine for_range (lo := 0) (n := 6) (fun i σ H' => ∃ (P' : Addr) (xs : List V) (o6 o7 o8 o9 o10 o11 : Option V), σ = [some (.ref D.dk), some (vt zs), some (.ref a), some o, some (.ref P'), some (.ref pPL), o6, o7, o8, o9, o10, o11] ∧ DeckOk H' D ∧ SameD D H H' ∧ BAt H' (.ref a) (gr zs) ∧ H' pPL = some (.lst ps) ∧ All3 D H' ps ∧ H' P' = some (.lst xs) ∧ Off D P' ∧ AllG D H' 20000 12 xs ∧ xs.length ≤ 12 + 2 * i) ⟨pQ, xq, _, _, _, _, _, _, rfl, dk, S, bu, ePL, g3, eQ, o_eQ, gQ, by omega⟩ (fun i σ H' hi hp => ?_) (fun σ H' hp => ?_)
  · obtain ⟨P', xs, o6, o7, o8, o9, o10, o11, rfl, dk, S, bu, ePL, g3, eQ, o_eQ, gQ, lQ⟩ := hp
    refine ⟨_, rfl, _, rfl, _, rfl, _, rfl, pPL, ps, rfl, .inl (SqL.of ePL), D, _, rfl, dk, by omega, by omega, fun j J1 j0 j1 d1 s1 => ?_⟩
    have bu := bu.keep (s1.keepT dk)
    have ePL := s1.at o_ePL ePL
    have g3 := g3.sameD s1
    have eQ := s1.at o_eQ eQ
    have gQ := gQ.sameD s1
    have S := S.trans s1
    have dk := d1
    clear s1 d1
    obtain ⟨j, rfl⟩ := Int.eq_ofNat_of_zero_le j0
    obtain ⟨y, hy⟩ : ∃ y, ps[j]? = some y := ⟨_, List.getElem?_eq_getElem (by omega)⟩
    obtain ⟨q, i1, i2, i3, rfl, eq, oq, b1, b2, b3⟩ := g3 j y hy
    obtain ⟨w1, w2, w3⟩ := trT_ok b1 b2 b3
    have w1 : gds [.int (i1 : Int), .int (i2 : Int), .int (i3 : Int)] = true := by unfold trT at w1; simpa only [gd] using w1
    refine ⟨pPL, ps, _, _, rfl, rfl, SqL.of ePL, atI_nat hy, D, q, _, _, rfl, dk, eq, oq, .cons (.int _) (.cons (.int _) (.cons (.int _) .nil)), w1, (by show 3 ≤ 100; decide), fun v1 J2 d2 s2 bt => ?_⟩
    clear eq
    have bu := bu.keep (s2.keepT dk)
    have ePL := s2.at o_ePL ePL
    have g3 := g3.sameD s2
    have eQ := s2.at o_eQ eQ
    have gQ := gQ.sameD s2
    have S := S.trans s2
    have dk := d2
    clear s2 d2
    obtain ⟨d, hd, gd1, wd1, pd1, td1⟩ := bt
    have wd1 : wt d ≤ 2300 := by simp only [wts, wt, List.length_cons, List.length_nil] at wd1; omega
    have pd1 : d.depth ≤ 3 := by simp only [PyData.depthAll, PyData.depth] at pd1; omega
    refine ⟨_, rfl, _, rfl, ?_⟩
    refine ⟨_, rfl, _, _, _, _, isTupD d, rfl, .ty _, dq_ty hd, kit_ty (kit_tup d), _, rfl, ?_⟩
    refine ite_q (R := fun v2 J3 => DeckOk J3 D ∧ SameD D J2 J3 ∧ Gd D J3 20000 12 v2) (fun ht Qx hQ => ?_) (fun ht Qx hQ => ?_) (fun v2 J3 hR => ?_)
    · cases hd with
      | @tup q2 xs2 es o2 e2 al2 =>
        have le := td1 es rfl
        have le : es.length ≤ 4 := le
        have hl2 := dqAll_len al2
        simp only [gd] at gd1
        simp only [wt] at wd1
        simp only [PyData.depth] at pd1
        refine ⟨_, rfl, _, rfl, D, q2, xs2, es, rfl, dk, e2, o2, al2, gd1, by omega, fun v2 J3 d3 s3 bt2 => hQ v2 J3 ⟨d3, s3, ?_⟩⟩
        obtain ⟨d', h1, h2, h3, h4, _⟩ := bt2
        exact ⟨d', h1, h2, by omega, by omega⟩
      | _ => cases ht
    · exact ⟨_, rfl, D, rfl, dk, fun v2 J3 d3 s3 g2 => hQ v2 J3 ⟨d3, s3, g2.mono (by decide) (by decide)⟩⟩
    obtain ⟨d3, s3, g2⟩ := hR
    have bu := bu.keep (s3.keepT dk)
    have ePL := s3.at o_ePL ePL
    have g3 := g3.sameD s3
    have eQ := s3.at o_eQ eQ
    have gQ := gQ.sameD s3
    have hd := dq_sameD s3 hd
    have S := S.trans s3
    have dk := d3
    clear s3 d3
    refine ⟨(by show 2 ≤ sizeLine; decide), fun pW npW => ?_⟩
    have q82 := same_new npW (.lst [v1, v2])
    have o_eW := dk.new npW
    have eW := upd_same (H := J3) (a := pW) (o := .lst [v1, v2])
    have bu := bu.same q82
    have ePL := q82 _ _ ePL
    have g3 := g3.same q82
    have eQ := q82 _ _ eQ
    have gQ := gQ.same q82
    have hd := dq_same q82 hd
    have g2 := g2.same q82
    have dk := dk.same q82
    have S := S.trans (SameD.of q82)
    clear q82 npW
    generalize upd J3 pW (.lst [v1, v2]) = H81 at eW bu ePL g3 eQ gQ hd g2 dk S ⊢
    refine ⟨P', pW, _, _, rfl, rfl, eQ, eW, (by show xs.length + 2 ≤ 16777216; omega), fun pZ npZ => ?_⟩
    have q84 := same_new npZ (.lst (xs ++ [v1, v2]))
    have o_eZ := dk.new npZ
    have eZ := upd_same (H := H81) (a := pZ) (o := .lst (xs ++ [v1, v2]))
    have bu := bu.same q84
    have ePL := q84 _ _ ePL
    have g3 := g3.same q84
    have eQ := q84 _ _ eQ
    have gQ := gQ.same q84
    have hd := dq_same q84 hd
    have g2 := g2.same q84
    have eW := q84 _ _ eW
    have dk := dk.same q84
    have S := S.trans (SameD.of q84)
    clear q84 npZ
    generalize upd H81 pZ (.lst (xs ++ [v1, v2])) = H83 at eZ bu ePL g3 eQ gQ hd g2 eW dk S ⊢
    exact ⟨pZ, _, _, _, _, _, _, _, rfl, dk, S, bu, ePL, g3, eZ, o_eZ, gQ.app (.cons ⟨d, hd, gd1, by omega, by omega⟩ (.cons g2 .nil)), by rw [List.length_append]; show xs.length + 2 ≤ _; omega⟩
  obtain ⟨P', xs, o6, o7, o8, o9, o10, o11, rfl, dk, S, bu, ePL, g3, eQ, o_eQ, gQ, lQ⟩ := hp
  refine ⟨(by show 0 ≤ sizeLine; decide), fun pV npV => ?_⟩
  have q122 := same_new npV (.lst [])
  have o_eV := dk.new npV
  have eV := upd_same (H := H') (a := pV) (o := .lst [])
  have bu := bu.same q122
  have ePL := q122 _ _ ePL
  have g3 := g3.same q122
  have eQ := q122 _ _ eQ
  have gQ := gQ.same q122
  have dk := dk.same q122
  have S := S.trans (SameD.of q122)
  clear q122 npV
  generalize upd H' pV (.lst []) = H121 at eV bu ePL g3 eQ gQ dk S ⊢
  refine ⟨_, rfl, _, rfl, ?_⟩
  refine ⟨P', pPL, _, _, rfl, rfl, eQ, ePL, (by show _ ≤ 16777216; omega), fun pA npA => ?_⟩
  have q124 := same_new npA (.lst (xs ++ ps))
  have o_eA := dk.new npA
  have eA := upd_same (H := H121) (a := pA) (o := .lst (xs ++ ps))
  have bu := bu.same q124
  have ePL := q124 _ _ ePL
  have g3 := g3.same q124
  have eQ := q124 _ _ eQ
  have gQ := gQ.same q124
  have eV := q124 _ _ eV
  have dk := dk.same q124
  have S := S.trans (SameD.of q124)
  clear q124 npA
  generalize upd H121 pA (.lst (xs ++ ps)) = H123 at eA bu ePL g3 eQ gQ eV dk S ⊢
  refine ⟨_, rfl, D, rfl, dk, fun w1 X1 d1 s1 gw1 => ?_⟩
  have bu := bu.keep (s1.keepT dk)
  have ePL := s1.at o_ePL ePL
  have g3 := g3.sameD s1
  have eQ := s1.at o_eQ eQ
  have gQ := gQ.sameD s1
  have eV := s1.at o_eV eV
  have eA := s1.at o_eA eA
  have S := S.trans s1
  have dk := d1
  clear s1 d1
  refine ⟨(by show 1 ≤ sizeLine; decide), fun pB npB => ?_⟩
  have q126 := same_new npB (.lst [w1])
  have o_eB := dk.new npB
  have eB := upd_same (H := X1) (a := pB) (o := .lst [w1])
  have bu := bu.same q126
  have ePL := q126 _ _ ePL
  have g3 := g3.same q126
  have eQ := q126 _ _ eQ
  have gQ := gQ.same q126
  have eV := q126 _ _ eV
  have eA := q126 _ _ eA
  have gw1 := gw1.same q126
  have dk := dk.same q126
  have S := S.trans (SameD.of q126)
  clear q126 npB
  generalize upd X1 pB (.lst [w1]) = H125 at eB bu ePL g3 eQ gQ eV eA gw1 dk S ⊢
  refine ⟨pA, pB, _, _, rfl, rfl, eA, eB, (by rw [List.length_append]; show _ + 1 ≤ 16777216; omega), fun pC npC => ?_⟩
  have q128 := same_new npC (.lst (xs ++ ps ++ [w1]))
  have o_eC := dk.new npC
  have eC := upd_same (H := H125) (a := pC) (o := .lst (xs ++ ps ++ [w1]))
  have bu := bu.same q128
  have ePL := q128 _ _ ePL
  have g3 := g3.same q128
  have eQ := q128 _ _ eQ
  have gQ := gQ.same q128
  have eV := q128 _ _ eV
  have eA := q128 _ _ eA
  have gw1 := gw1.same q128
  have eB := q128 _ _ eB
  have dk := dk.same q128
  have S := S.trans (SameD.of q128)
  clear q128 npC
  generalize upd H125 pC (.lst (xs ++ ps ++ [w1])) = H127 at eC bu ePL g3 eQ gQ eV eA gw1 eB dk S ⊢
  have gC := (gQ.app (g3.gd dk)).app (.cons (gw1.mono (by decide) (by decide)) .nil)
  have lC : (xs ++ ps ++ [w1]).length ≤ 27100 := by rw [List.length_append, List.length_append]; show _ + 1 ≤ _; omega
  generalize xs ++ ps ++ [w1] = ys' at eC gC lC
  clear eA eB gw1 eQ gQ lQ
  refine ⟨pC, rfl, ⟨_, SqL.of eC⟩, ?_⟩
  refine for_list (K := K) (a := pC) (xs := ys') (fun i σ H' => ∃ (V' : Addr) (vs : List V) (o4 o6 o7 o8 o9 o11 : Option V), σ = [some (.ref D.dk), some (vt zs), some (.ref a), some o, o4, some (.ref pPL), o6, o7, o8, o9, some (.ref V'), o11] ∧ DeckOk H' D ∧ SameD D H H' ∧ BAt H' (.ref a) (gr zs) ∧ H' pPL = some (.lst ps) ∧ All3 D H' ps ∧ H' pC = some (.lst ys') ∧ AllG D H' 20000 12 ys' ∧ H' V' = some (.lst vs) ∧ Off D V' ∧ AllG D H' 50000 14 vs ∧ vs.length ≤ 2 * i) ⟨pV, [], _, _, _, _, _, _, rfl, dk, S, bu, ePL, g3, eC, gC, eV, o_eV, .nil, by decide⟩ (fun i σ H' _ hp => by obtain ⟨_, _, _, _, _, _, _, _, _, _, _, _, _, _, e, _⟩ := hp; exact SqL.of e) (fun i y σ H' hy hp => ?_) (fun σ H' hp => ?_)
  · obtain ⟨V', vs, o4, o6, o7, o8, o9, o11, rfl, dk, S, bu, ePL, g3, eC, gC, eV, o_eV, gV, lV⟩ := hp
    have hi := (List.getElem?_eq_some_iff.mp hy).1
    obtain ⟨dy, hdy, gdy, wdy, pdy⟩ := gC i y hy
    refine ⟨_, rfl, _, rfl, ?_⟩
    refine ⟨(by show 2 ≤ sizeLine; decide), fun pT1 npT1 => ?_⟩
    have q152 := same_new npT1 (.tup [.str "tree", y])
    have o_eT1 := dk.new npT1
    have eT1 := upd_same (H := H') (a := pT1) (o := .tup [.str "tree", y])
    have bu := bu.same q152
    have ePL := q152 _ _ ePL
    have g3 := g3.same q152
    have eC := q152 _ _ eC
    have gC := gC.same q152
    have eV := q152 _ _ eV
    have gV := gV.same q152
    have hdy := dq_same q152 hdy
    have dk := dk.same q152
    have S := S.trans (SameD.of q152)
    clear q152 npT1
    generalize upd H' pT1 (.tup [.str "tree", y]) = H151 at eT1 bu ePL g3 eC gC eV gV hdy dk S ⊢
    refine ⟨_, rfl, ?_⟩
    refine ⟨(by show 2 ≤ sizeLine; decide), fun pT2 npT2 => ?_⟩
    have q154 := same_new npT2 (.tup [.str "barrier", y])
    have o_eT2 := dk.new npT2
    have eT2 := upd_same (H := H151) (a := pT2) (o := .tup [.str "barrier", y])
    have bu := bu.same q154
    have ePL := q154 _ _ ePL
    have g3 := g3.same q154
    have eC := q154 _ _ eC
    have gC := gC.same q154
    have eV := q154 _ _ eV
    have gV := gV.same q154
    have hdy := dq_same q154 hdy
    have eT1 := q154 _ _ eT1
    have dk := dk.same q154
    have S := S.trans (SameD.of q154)
    clear q154 npT2
    generalize upd H151 pT2 (.tup [.str "barrier", y]) = H153 at eT2 bu ePL g3 eC gC eV gV hdy eT1 dk S ⊢
    refine ⟨(by show 2 ≤ sizeLine; decide), fun pL2 npL2 => ?_⟩
    have q156 := same_new npL2 (.lst [.ref pT1, .ref pT2])
    have o_eL2 := dk.new npL2
    have eL2 := upd_same (H := H153) (a := pL2) (o := .lst [.ref pT1, .ref pT2])
    have bu := bu.same q156
    have ePL := q156 _ _ ePL
    have g3 := g3.same q156
    have eC := q156 _ _ eC
    have gC := gC.same q156
    have eV := q156 _ _ eV
    have gV := gV.same q156
    have hdy := dq_same q156 hdy
    have eT1 := q156 _ _ eT1
    have eT2 := q156 _ _ eT2
    have dk := dk.same q156
    have S := S.trans (SameD.of q156)
    clear q156 npL2
    generalize upd H153 pL2 (.lst [.ref pT1, .ref pT2]) = H155 at eL2 bu ePL g3 eC gC eV gV hdy eT1 eT2 dk S ⊢
    refine ⟨V', pL2, _, _, rfl, rfl, eV, eL2, (by show vs.length + 2 ≤ 16777216; omega), fun pV2 npV2 => ?_⟩
    have q158 := same_new npV2 (.lst (vs ++ [.ref pT1, .ref pT2]))
    have o_eV2 := dk.new npV2
    have eV2 := upd_same (H := H155) (a := pV2) (o := .lst (vs ++ [.ref pT1, .ref pT2]))
    have bu := bu.same q158
    have ePL := q158 _ _ ePL
    have g3 := g3.same q158
    have eC := q158 _ _ eC
    have gC := gC.same q158
    have eV := q158 _ _ eV
    have gV := gV.same q158
    have hdy := dq_same q158 hdy
    have eT1 := q158 _ _ eT1
    have eT2 := q158 _ _ eT2
    have eL2 := q158 _ _ eL2
    have dk := dk.same q158
    have S := S.trans (SameD.of q158)
    clear q158 npV2
    generalize upd H155 pV2 (.lst (vs ++ [.ref pT1, .ref pT2])) = H157 at eV2 bu ePL g3 eC gC eV gV hdy eT1 eT2 eL2 dk S ⊢
    have two : ∀ (w : Str) (pT : Addr), gd (.str w) = true → Off D pT → H157 pT = some (.tup [.str w, y]) → Gd D H157 50000 14 (.ref pT) := fun w pT gw ow ew => by
      refine ⟨_, .tup ow ew (.cons (.str _) (.cons hdy .nil)), ?_, ?_, ?_⟩
      · simp only [gd_tup, gds_c, gds_n, gw, gdy, Bool.and_self]
      · simp only [wt, wts]; omega
      · simp only [PyData.depth, PyData.depthAll]; omega
    exact ⟨pV2, _, _, _, _, _, _, _, rfl, dk, S, bu, ePL, g3, eC, gC, eV2, o_eV2, gV.app (.cons (two _ _ (str_gd (by decide +kernel)) o_eT1 eT1) (.cons (two _ _ (str_gd (by decide +kernel)) o_eT2 eT2) .nil)), by rw [List.length_append]; show vs.length + 2 ≤ _; omega⟩
  obtain ⟨V', vs, o4, o6, o7, o8, o9, o11, rfl, dk, S, bu, ePL, g3, eC, gC, eV, o_eV, gV, lV⟩ := hp
  refine ⟨_, rfl, _, rfl, _, rfl, ?_⟩
  refine ⟨(by show 2 ≤ sizeLine; decide), fun pa1 npa1 => ?_⟩
  have q202 := same_new npa1 (.lst [.str "tree", .ref a])
  have o_ea1 := dk.new npa1
  have ea1 := upd_same (H := H') (a := pa1) (o := .lst [.str "tree", .ref a])
  have bu := bu.same q202
  have ePL := q202 _ _ ePL
  have g3 := g3.same q202
  have eV := q202 _ _ eV
  have gV := gV.same q202
  have dk := dk.same q202
  have S := S.trans (SameD.of q202)
  clear q202 npa1
  generalize upd H' pa1 (.lst [.str "tree", .ref a]) = H201 at ea1 bu ePL g3 eV gV dk S ⊢
  refine ⟨_, rfl, ?_⟩
  refine ⟨(by show 2 ≤ sizeLine; decide), fun pa2 npa2 => ?_⟩
  have q204 := same_new npa2 (.tup [.str "Tree", .ref a])
  have o_ea2 := dk.new npa2
  have ea2 := upd_same (H := H201) (a := pa2) (o := .tup [.str "Tree", .ref a])
  have bu := bu.same q204
  have ePL := q204 _ _ ePL
  have g3 := g3.same q204
  have eV := q204 _ _ eV
  have gV := gV.same q204
  have ea1 := q204 _ _ ea1
  have dk := dk.same q204
  have S := S.trans (SameD.of q204)
  clear q204 npa2
  generalize upd H201 pa2 (.tup [.str "Tree", .ref a]) = H203 at ea2 bu ePL g3 eV gV ea1 dk S ⊢
  refine ⟨(by show 1 ≤ sizeLine; decide), fun pa3 npa3 => ?_⟩
  have q206 := same_new npa3 (.tup [.str "tree"])
  have o_ea3 := dk.new npa3
  have ea3 := upd_same (H := H203) (a := pa3) (o := .tup [.str "tree"])
  have bu := bu.same q206
  have ePL := q206 _ _ ePL
  have g3 := g3.same q206
  have eV := q206 _ _ eV
  have gV := gV.same q206
  have ea1 := q206 _ _ ea1
  have ea2 := q206 _ _ ea2
  have dk := dk.same q206
  have S := S.trans (SameD.of q206)
  clear q206 npa3
  generalize upd H203 pa3 (.tup [.str "tree"]) = H205 at ea3 bu ePL g3 eV gV ea1 ea2 dk S ⊢
  refine ⟨_, rfl, _, rfl, ?_⟩
  refine ⟨(by show 3 ≤ sizeLine; decide), fun pa4 npa4 => ?_⟩
  have q208 := same_new npa4 (.tup [.str "tree", .ref a, .ref a])
  have o_ea4 := dk.new npa4
  have ea4 := upd_same (H := H205) (a := pa4) (o := .tup [.str "tree", .ref a, .ref a])
  have bu := bu.same q208
  have ePL := q208 _ _ ePL
  have g3 := g3.same q208
  have eV := q208 _ _ eV
  have gV := gV.same q208
  have ea1 := q208 _ _ ea1
  have ea2 := q208 _ _ ea2
  have ea3 := q208 _ _ ea3
  have dk := dk.same q208
  have S := S.trans (SameD.of q208)
  clear q208 npa4
  generalize upd H205 pa4 (.tup [.str "tree", .ref a, .ref a]) = H207 at ea4 bu ePL g3 eV gV ea1 ea2 ea3 dk S ⊢
  refine ⟨_, rfl, ?_⟩
  refine ⟨(by show 2 ≤ sizeLine; decide), fun pa5 npa5 => ?_⟩
  have q210 := same_new npa5 (.tup [.ref a, .str "tree"])
  have o_ea5 := dk.new npa5
  have ea5 := upd_same (H := H207) (a := pa5) (o := .tup [.ref a, .str "tree"])
  have bu := bu.same q210
  have ePL := q210 _ _ ePL
  have g3 := g3.same q210
  have eV := q210 _ _ eV
  have gV := gV.same q210
  have ea1 := q210 _ _ ea1
  have ea2 := q210 _ _ ea2
  have ea3 := q210 _ _ ea3
  have ea4 := q210 _ _ ea4
  have dk := dk.same q210
  have S := S.trans (SameD.of q210)
  clear q210 npa5
  generalize upd H207 pa5 (.tup [.ref a, .str "tree"]) = H209 at ea5 bu ePL g3 eV gV ea1 ea2 ea3 ea4 dk S ⊢
  refine ⟨(by show 6 ≤ sizeLine; decide), fun pa6 npa6 => ?_⟩
  have q212 := same_new npa6 (.lst [.ref a, .ref pa1, .ref pa2, .ref pa3, .ref pa4, .ref pa5])
  have o_ea6 := dk.new npa6
  have ea6 := upd_same (H := H209) (a := pa6) (o := .lst [.ref a, .ref pa1, .ref pa2, .ref pa3, .ref pa4, .ref pa5])
  have bu := bu.same q212
  have ePL := q212 _ _ ePL
  have g3 := g3.same q212
  have eV := q212 _ _ eV
  have gV := gV.same q212
  have ea1 := q212 _ _ ea1
  have ea2 := q212 _ _ ea2
  have ea3 := q212 _ _ ea3
  have ea4 := q212 _ _ ea4
  have ea5 := q212 _ _ ea5
  have dk := dk.same q212
  have S := S.trans (SameD.of q212)
  clear q212 npa6
  generalize upd H209 pa6 (.lst [.ref a, .ref pa1, .ref pa2, .ref pa3, .ref pa4, .ref pa5]) = H211 at ea6 bu ePL g3 eV gV ea1 ea2 ea3 ea4 ea5 dk S ⊢
  refine ⟨V', pa6, _, _, rfl, rfl, eV, ea6, (by show vs.length + 6 ≤ 16777216; omega), fun pb0 npb0 => ?_⟩
  have q214 := same_new npb0 (.lst (vs ++ [.ref a, .ref pa1, .ref pa2, .ref pa3, .ref pa4, .ref pa5]))
  have o_eb0 := dk.new npb0
  have eb0 := upd_same (H := H211) (a := pb0) (o := .lst (vs ++ [.ref a, .ref pa1, .ref pa2, .ref pa3, .ref pa4, .ref pa5]))
  have bu := bu.same q214
  have ePL := q214 _ _ ePL
  have g3 := g3.same q214
  have eV := q214 _ _ eV
  have gV := gV.same q214
  have ea1 := q214 _ _ ea1
  have ea2 := q214 _ _ ea2
  have ea3 := q214 _ _ ea3
  have ea4 := q214 _ _ ea4
  have ea5 := q214 _ _ ea5
  have ea6 := q214 _ _ ea6
  have dk := dk.same q214
  have S := S.trans (SameD.of q214)
  clear q214 npb0
  generalize upd H211 pb0 (.lst (vs ++ [.ref a, .ref pa1, .ref pa2, .ref pa3, .ref pa4, .ref pa5])) = H213 at eb0 bu ePL g3 eV gV ea1 ea2 ea3 ea4 ea5 ea6 dk S ⊢
  obtain ⟨w1, w2, w3⟩ := tree_good (gr zs) lu
  have du := BAt.dq dk bu
  have gt : gd (.str "tree") = true := str_gd (by decide +kernel)
  have gT : gd (.str "Tree") = true := str_gd (by decide +kernel)
  have gb : gd (.str "barrier") = true := str_gd (by decide +kernel)
  have gV := gV.app (.cons ⟨_, du, w1, by omega, by omega⟩ (.cons ⟨_, .lst o_ea1 ea1 (.cons (.str _) (.cons du .nil)), by simp only [gd_tup, gd_list, gds_c, gds_n, gt, gT, gb, w1, Bool.and_self], by simp only [wt, wts]; omega, by simp only [PyData.depth, PyData.depthAll]; omega⟩ (.cons ⟨_, .tup o_ea2 ea2 (.cons (.str _) (.cons du .nil)), by simp only [gd_tup, gd_list, gds_c, gds_n, gt, gT, gb, w1, Bool.and_self], by simp only [wt, wts]; omega, by simp only [PyData.depth, PyData.depthAll]; omega⟩ (.cons ⟨_, .tup o_ea3 ea3 (.cons (.str _) .nil), by simp only [gd_tup, gd_list, gds_c, gds_n, gt, gT, gb, w1, Bool.and_self], by simp only [wt, wts]; omega, by simp only [PyData.depth, PyData.depthAll]; omega⟩ (.cons ⟨_, .tup o_ea4 ea4 (.cons (.str _) (.cons du (.cons du .nil))), by simp only [gd_tup, gd_list, gds_c, gds_n, gt, gT, gb, w1, Bool.and_self], by simp only [wt, wts]; omega, by simp only [PyData.depth, PyData.depthAll]; omega⟩ (.cons ⟨_, .tup o_ea5 ea5 (.cons du (.cons (.str _) .nil)), by simp only [gd_tup, gd_list, gds_c, gds_n, gt, gT, gb, w1, Bool.and_self], by simp only [wt, wts]; omega, by simp only [PyData.depth, PyData.depthAll]; omega⟩ .nil))))))
  have lV : (vs ++ [V.ref a, .ref pa1, .ref pa2, .ref pa3, .ref pa4, .ref pa5]).length ≤ 2 * ys'.length + 6 := by rw [List.length_append]; show vs.length + 6 ≤ _; omega
  generalize vs ++ [V.ref a, .ref pa1, .ref pa2, .ref pa3, .ref pa4, .ref pa5] = vs1 at eb0 gV lV
  clear eV ea1 ea2 ea3 ea4 ea5 ea6 du
  refine ⟨_, rfl, _, rfl, D, rfl, dk, fun w2' Y1 d1 s1 gw2 => ?_⟩
  have bu := bu.keep (s1.keepT dk)
  have ePL := s1.at o_ePL ePL
  have g3 := g3.sameD s1
  have eb0 := s1.at o_eb0 eb0
  have gV := gV.sameD s1
  have S := S.trans s1
  have dk := d1
  clear s1 d1
  refine ⟨_, rfl, ?_⟩
  refine ⟨(by show 2 ≤ sizeLine; decide), fun pc1 npc1 => ?_⟩
  have q216 := same_new npc1 (.tup [w2', .ref a])
  have o_ec1 := dk.new npc1
  have ec1 := upd_same (H := Y1) (a := pc1) (o := .tup [w2', .ref a])
  have bu := bu.same q216
  have ePL := q216 _ _ ePL
  have g3 := g3.same q216
  have eb0 := q216 _ _ eb0
  have gV := gV.same q216
  have gw2 := gw2.same q216
  have dk := dk.same q216
  have S := S.trans (SameD.of q216)
  clear q216 npc1
  generalize upd Y1 pc1 (.tup [w2', .ref a]) = H215 at ec1 bu ePL g3 eb0 gV gw2 dk S ⊢
  obtain ⟨y0, hy0⟩ : ∃ y, ps[0]? = some y := ⟨_, List.getElem?_eq_getElem (by omega)⟩
  obtain ⟨q, i1, i2, i3, rfl, eq, oq, b1, b2, b3⟩ := g3 0 y0 hy0
  have o_eq := oq
  refine ⟨_, rfl, pPL, ps, _, _, rfl, rfl, SqL.of ePL, atI_nat (j := 0) hy0, ?_⟩
  refine ⟨(by show 2 ≤ sizeLine; decide), fun pc2 npc2 => ?_⟩
  have q218 := same_new npc2 (.lst [.str "barrier", .ref q])
  have o_ec2 := dk.new npc2
  have ec2 := upd_same (H := H215) (a := pc2) (o := .lst [.str "barrier", .ref q])
  have bu := bu.same q218
  have ePL := q218 _ _ ePL
  have g3 := g3.same q218
  have eb0 := q218 _ _ eb0
  have gV := gV.same q218
  have gw2 := gw2.same q218
  have ec1 := q218 _ _ ec1
  have eq := q218 _ _ eq
  have dk := dk.same q218
  have S := S.trans (SameD.of q218)
  clear q218 npc2
  generalize upd H215 pc2 (.lst [.str "barrier", .ref q]) = H217 at ec2 bu ePL g3 eb0 gV gw2 ec1 eq dk S ⊢
  refine ⟨(by show 1 ≤ sizeLine; decide), fun pc3 npc3 => ?_⟩
  have q220 := same_new npc3 (.tup [.str "barrier"])
  have o_ec3 := dk.new npc3
  have ec3 := upd_same (H := H217) (a := pc3) (o := .tup [.str "barrier"])
  have bu := bu.same q220
  have ePL := q220 _ _ ePL
  have g3 := g3.same q220
  have eb0 := q220 _ _ eb0
  have gV := gV.same q220
  have gw2 := gw2.same q220
  have ec1 := q220 _ _ ec1
  have eq := q220 _ _ eq
  have ec2 := q220 _ _ ec2
  have dk := dk.same q220
  have S := S.trans (SameD.of q220)
  clear q220 npc3
  generalize upd H217 pc3 (.tup [.str "barrier"]) = H219 at ec3 bu ePL g3 eb0 gV gw2 ec1 eq ec2 dk S ⊢
  refine ⟨_, rfl, pPL, ps, _, _, rfl, rfl, SqL.of ePL, atI_nat (j := 0) hy0, catA_of dk ec3 o_ec3 eq oq (by show 4 ≤ sizeLine; decide) fun pc4 H221 t222 ec4 o_ec4 => ?_⟩
  have bu := bu.same t222
  have ePL := t222 _ _ ePL
  have g3 := g3.same t222
  have eb0 := t222 _ _ eb0
  have gV := gV.same t222
  have gw2 := gw2.same t222
  have ec1 := t222 _ _ ec1
  have eq := t222 _ _ eq
  have ec2 := t222 _ _ ec2
  have ec3 := t222 _ _ ec3
  have dk := dk.same t222
  have S := S.trans (SameD.of t222)
  clear t222
  refine ⟨(by show 3 ≤ sizeLine; decide), fun pc5 npc5 => ?_⟩
  have q224 := same_new npc5 (.lst [.ref pc1, .ref pc2, .ref pc4])
  have o_ec5 := dk.new npc5
  have ec5 := upd_same (H := H221) (a := pc5) (o := .lst [.ref pc1, .ref pc2, .ref pc4])
  have bu := bu.same q224
  have ePL := q224 _ _ ePL
  have g3 := g3.same q224
  have eb0 := q224 _ _ eb0
  have gV := gV.same q224
  have gw2 := gw2.same q224
  have ec1 := q224 _ _ ec1
  have eq := q224 _ _ eq
  have ec2 := q224 _ _ ec2
  have ec3 := q224 _ _ ec3
  have ec4 := q224 _ _ ec4
  have dk := dk.same q224
  have S := S.trans (SameD.of q224)
  clear q224 npc5
  generalize upd H221 pc5 (.lst [.ref pc1, .ref pc2, .ref pc4]) = H223 at ec5 bu ePL g3 eb0 gV gw2 ec1 eq ec2 ec3 ec4 dk S ⊢
  refine ⟨pb0, pc5, _, _, rfl, rfl, eb0, ec5, (by show vs1.length + 3 ≤ 16777216; omega), fun pd0 npd0 => ?_⟩
  have q226 := same_new npd0 (.lst (vs1 ++ [.ref pc1, .ref pc2, .ref pc4]))
  have o_ed0 := dk.new npd0
  have ed0 := upd_same (H := H223) (a := pd0) (o := .lst (vs1 ++ [.ref pc1, .ref pc2, .ref pc4]))
  have bu := bu.same q226
  have ePL := q226 _ _ ePL
  have g3 := g3.same q226
  have eb0 := q226 _ _ eb0
  have gV := gV.same q226
  have gw2 := gw2.same q226
  have ec1 := q226 _ _ ec1
  have eq := q226 _ _ eq
  have ec2 := q226 _ _ ec2
  have ec3 := q226 _ _ ec3
  have ec4 := q226 _ _ ec4
  have ec5 := q226 _ _ ec5
  have dk := dk.same q226
  have S := S.trans (SameD.of q226)
  clear q226 npd0
  generalize upd H223 pd0 (.lst (vs1 ++ [.ref pc1, .ref pc2, .ref pc4])) = H225 at ed0 bu ePL g3 eb0 gV gw2 ec1 eq ec2 ec3 ec4 ec5 dk S ⊢
  have du := BAt.dq dk bu
  obtain ⟨dw, hdw, gdw, wdw, pdw⟩ := gw2
  obtain ⟨t1, t2, t3⟩ := trT_ok b1 b2 b3
  have dq' := dq_trT dk eq
  have i1' := small_int b1
  have i2' := small_int b2
  have i3' := small_int b3
  have gV := gV.app (.cons ⟨_, .tup o_ec1 ec1 (.cons hdw (.cons du .nil)), by simp only [gd_tup, gds_c, gds_n, gdw, w1, Bool.and_self], by simp only [wt, wts]; omega, by simp only [PyData.depth, PyData.depthAll]; omega⟩ (.cons ⟨_, .lst o_ec2 ec2 (.cons (.str _) (.cons dq' .nil)), by simp only [gd_list, gds_c, gds_n, gb, t1, Bool.and_self], by simp only [wt, wts]; omega, by simp only [PyData.depth, PyData.depthAll]; omega⟩ (.cons ⟨_, .tup o_ec4 ec4 (.cons (.str _) (.cons (.int _) (.cons (.int _) (.cons (.int _) .nil)))), by simp only [gd_tup, gds_c, gds_n, gb, i1', i2', i3', Bool.and_self], by simp only [wt, wts]; decide, by simp only [PyData.depth, PyData.depthAll]; decide⟩ .nil)))
  have lV : (vs1 ++ [V.ref pc1, .ref pc2, .ref pc4]).length ≤ 2 * ys'.length + 9 := by rw [List.length_append]; show vs1.length + 3 ≤ _; omega
  generalize vs1 ++ [V.ref pc1, .ref pc2, .ref pc4] = vs2 at ed0 gV lV
  clear eb0 ec1 ec2 ec3 ec4 ec5 du dq' hdw
  refine ⟨_, rfl, _, rfl, D, rfl, dk, fun w3' Y2 d1 s1 gw3 => ?_⟩
  have ePL := s1.at o_ePL ePL
  have ed0 := s1.at o_ed0 ed0
  have gV := gV.sameD s1
  have eq := s1.at o_eq eq
  have S := S.trans s1
  have dk := d1
  clear s1 d1
  refine ⟨_, rfl, pPL, ps, _, _, rfl, rfl, SqL.of ePL, atI_nat (j := 0) hy0, ?_⟩
  refine ⟨(by show 2 ≤ sizeLine; decide), fun pf1 npf1 => ?_⟩
  have q228 := same_new npf1 (.lst [w3', .ref q])
  have o_ef1 := dk.new npf1
  have ef1 := upd_same (H := Y2) (a := pf1) (o := .lst [w3', .ref q])
  have ePL := q228 _ _ ePL
  have ed0 := q228 _ _ ed0
  have gV := gV.same q228
  have eq := q228 _ _ eq
  have gw3 := gw3.same q228
  have dk := dk.same q228
  have S := S.trans (SameD.of q228)
  clear q228 npf1
  generalize upd Y2 pf1 (.lst [w3', .ref q]) = H227 at ef1 ePL ed0 gV eq gw3 dk S ⊢
  refine ⟨pd0, pf1, _, _, rfl, rfl, ed0, ef1, (by show vs2.length + 2 ≤ 16777216; omega), fun pf2 nf2 => ?_⟩
  have qf := same_new nf2 (.lst (vs2 ++ [w3', .ref q]))
  have dkf := dk.same qf
  refine q' pf2 (vs2 ++ [w3', .ref q]) _ dkf (S.trans (SameD.of qf)) upd_same (dk.new nf2) ((gV.same qf).app (.cons ((gw3.same qf).mono (by decide) (by decide)) (.cons ⟨_, dq_trT dkf (qf _ _ eq), t1, by omega, by omega⟩ .nil))) ?_
  rw [List.length_append]; show vs2.length + 2 ≤ _; omega
end
/-! ### law -/
section
variable {P : Program} {w : World} {K : PySem.W.Frag} {mg : Str → Option Value} {base : Heap} {f : Addr} {fd : FuncData}
theorem run_law {s : Shared} {H : Hp} {a : Addr} {ns : List Int} (F : Fun K "law" "law" s_law f fd) (bd : BindsTo s fd ⟨[.ref a], []⟩ [("_law_script", .ref a)]) (en : Env0 P w K mg base callerA [] s H) (hS : SqL K H a (ns.map V.int)) (hn : ns.length ≤ 63)
    (M : Mgs mg) (D_law_begin : Df P w K mg base 1 "_law_begin" ["_law_script"] (spBegin K)) (D_law_order : Df P w K mg base 32 "_law_order" ["_law_deck", "_law_low", "_law_high"] spOrder)
    (D_law_values : Df P w K mg base 42 "_law_values" ["_law_deck", "_law_order_here"] spValues) (D_law_same : Df P w K mg base 1 "_law_same" ["_law_found", "_law_due_here"] spSameB) (D_law_due : DfG P w K mg base 42 "_law_due" ["_law_order_here", "_law_value"] spDue)
    (Dsearch_holds : Df P w K mg base 64 "search_holds" ["order", "value"] (spAskZ HoldsS)) :
    codeAny (model P w) callerA (.call (.ref f) ⟨[.ref a], []⟩) (CR CX0 [] P w H s (fun v _ => v = .bl true) fun _ _ _ => False) s := by
  refine enter_def (k := 66) (vs := [.ref a]) (us := [.ref a]) F sc_law ⟨rfl, by decide, by decide⟩ en bd (.cons rfl .nil) rfl fun cdv hr => ?_
  refine ⟨_, (pss_cons (ps_set (i := 1) sc_law.nd rfl (.inl rfl) (pe_call D_law_begin.ok (hr.mono (by omega)) rfl D_law_begin.g D_law_begin.kp D_law_begin.b .nil pass0 (pa_cons (pv 0) pa_nil)))
    (pss_cons (ps_for PassesOwn.never rfl (pi_range1 rfl M.range (pa_cons pe_int pa_nil)) (pg_name (i := 2) sc_law.nd rfl (.inl rfl))
      (pss_cons (ps_set (i := 3) sc_law.nd rfl (.inl rfl) (pe_call D_law_order.ok (hr.mono (by omega)) rfl D_law_order.g D_law_order.kp D_law_order.b .nil pass0 (pa_cons (pv 1) (pa_cons pe_int (pa_cons pe_int pa_nil)))))
    (pss_one (ps_for PassesOwn.never rfl (pi_list (pe_call D_law_values.ok (hr.mono (by omega)) rfl D_law_values.g D_law_values.kp D_law_values.b .nil pass0 (pa_cons (pv 1) (pa_cons (pv 3) pa_nil)))) (pg_name (i := 4) sc_law.nd rfl (.inl rfl))
      (pss_cons (ps_set (i := 5) sc_law.nd rfl (.inl rfl) (pe_callB (show CallR _ (.builtin "repr") rReprQ from call_reprQ rfl hr.units) rfl M.repr (by decide +kernel) (pa_cons (pv 4) pa_nil)))
    (pss_one (ps_if (PW.pt (pw_or (pt_not (pt_val (pe_call D_law_same.ok (hr.mono (by omega)) rfl D_law_same.g D_law_same.kp D_law_same.b .nil pass0 (pa_cons (pe_call Dsearch_holds.ok (hr.mono (by omega)) rfl Dsearch_holds.g Dsearch_holds.kp Dsearch_holds.b .nil pass0 (pa_cons (pv 3) (pa_cons (pv 4) pa_nil))) (pa_cons (pe_callG D_law_due.ok rfl (hr.mono (by omega)) rfl D_law_due.g D_law_due.kp D_law_due.b (pa_cons (pv 3) (pa_cons (pv 4) pa_nil))) pa_nil))))) (pw_or1 (pt_cmpR op_ne (pe_callB (show CallR _ (.builtin "repr") rReprQ from call_reprQ rfl hr.units) rfl M.repr (by decide +kernel) (pa_cons (pv 4) pa_nil)) (pv 5) (nomark _)))))
      (pss_one (ps_ret pe_bl)) pss_nil)))))))
    (pss_one (ps_ret pe_bl)))), ?_⟩
  refine ⟨_, rfl, a, ns, rfl, hS, hn, fun D H1 d1 s1 => ?_⟩
  refine ⟨5, rfl, by decide, by decide, ?_⟩
  refine for_range (lo := 0) (n := 5) (fun i σ H' => ∃ o2 o3 o4 o5, σ = [some (.ref a), some (.ref D.dk), o2, o3, o4, o5] ∧ DeckOk H' D) ⟨_, _, _, _, rfl, d1⟩ (fun i σ H2 hi hp => ?_) (fun σ H2 hp => ?_)
  · obtain ⟨o2, o3, o4, o5, rfl, d2⟩ := hp
    refine ⟨_, rfl, D, 1, 9, rfl, d2, by decide, by decide, fun zs H3 d3 s3 lt z1 z9 => ?_⟩
    refine ⟨_, rfl, _, rfl, D, zs, rfl, d3, lt, by omega, z9, fun p xs H4 d4 s4 ep op gx lx => ⟨p, rfl, ⟨_, SqL.of ep⟩, ?_⟩⟩
    refine for_list (K := K) (a := p) (xs := xs) (fun j σ Hx => ∃ o4 o5, σ = [some (.ref a), some (.ref D.dk), some (.int (0 + (i : Int))), some (vt zs), o4, o5] ∧ Same H4 Hx) ⟨_, _, rfl, Same.refl _⟩ (fun j σ Hx _ hp => by obtain ⟨_, _, _, sm⟩ := hp; exact SqL.of (sm _ _ ep)) (fun j v σ Hx hv hp => ?_) (fun σ Hx hp => ?_)
    · obtain ⟨o4, o5, rfl, sm⟩ := hp
      obtain ⟨d, hd, g, hw, hdp⟩ := (gx j v hv).sameD' (SameD.of sm)
      have dk := d4.same sm
      refine ⟨_, rfl, v, D, d, rfl, hd, g, by omega, by omega, ?_⟩
      refine ⟨_, rfl, _, rfl, D, zs, v, d, rfl, lt, by omega, by omega, hd, g, by omega, fun b H5 s5 hb => ?_⟩
      refine ⟨_, rfl, _, rfl, D, zs, v, d, rfl, dk.same s5, lt, by omega, z9, dq_same s5 hd, g, by omega, by omega, fun b' H6 s6 hb' => ?_⟩
      have hbb : b = b' := by rw [Bool.eq_iff_iff, hb, hb']
      refine ⟨b, b', rfl, fun H7 s7 => ?_⟩
      rw [decide_eq_true hbb]
      have s57 := s5.trans (s6.trans s7)
      refine ⟨_, rfl, ?_⟩
      refine iteF ?_
      refine ⟨_, rfl, v, D, d, rfl, dq_same s57 hd, g, by omega, by omega, _, rfl, rfl, _, rfl, iteNS rfl ?_⟩
      exact ⟨_, _, rfl, sm.trans s57⟩
    · obtain ⟨o4, o5, rfl, sm⟩ := hp
      exact ⟨_, _, _, _, rfl, d4.same sm⟩
  · rfl
end
/-! ### what the top has left -/
theorem all_mk {l : PySem.W.OpenLaw} {w : World} {K : PySem.W.Frag} {h : Heap} {mg : Str → Option Value} {fa f1 f2 f3 f4 f5 f6 f7 f8 f9 f10 f11 f12 f13 f14 f15 f16 f17 f18 f19 f20 f21 f22 f23 f24 f25 f26 f27 f28 f29 f30  : Addr} (X : K.In h) (G : h.Ns mainGlobals mg) (hfa : mg "law" = some (.ref fa))
    {od1 an1 od2 an2 od3 an3 od4 an4 od5 an5 od6 an6 od7 an7 od8 an8 od9 an9 od10 an10 od11 an11 od12 an12 od13 an13 od14 an14 od15 an15 od16 an16 od17 an17 od18 an18 od19 an19 od20 an20 od21 an21 od22 an22 od23 an23 od24 an24 od25 an25 od26 an26 od27 an27 od28 an28 od29 an29 od30 an30 : Option Addr} {sl1 sl2 sl3 sl4 sl5 sl6 sl7 sl8 sl9 sl10 sl11 sl12 sl13 sl14 sl15 sl16 sl17 sl18 sl19 sl20 sl21 sl22 sl23 sl24 sl25 sl26 sl27 sl28 sl29 sl30 : Array (Option Value)}
    {oc1 kV1 dc1 pm1 cd1 ct1 oc2 kV2 dc2 pm2 cd2 ct2 oc3 kV3 dc3 pm3 cd3 ct3 oc4 kV4 dc4 pm4 cd4 ct4 oc5 kV5 dc5 pm5 cd5 ct5 oc6 kV6 dc6 pm6 cd6 ct6 oc7 kV7 dc7 pm7 cd7 ct7 oc8 kV8 dc8 pm8 cd8 ct8 oc9 kV9 dc9 pm9 cd9 ct9 oc10 kV10 dc10 pm10 cd10 ct10 oc11 kV11 dc11 pm11 cd11 ct11 oc12 kV12 dc12 pm12 cd12 ct12 oc13 kV13 dc13 pm13 cd13 ct13 oc14 kV14 dc14 pm14 cd14 ct14 oc15 kV15 dc15 pm15 cd15 ct15 oc16 kV16 dc16 pm16 cd16 ct16 oc17 kV17 dc17 pm17 cd17 ct17 oc18 kV18 dc18 pm18 cd18 ct18 oc19 kV19 dc19 pm19 cd19 ct19 oc20 kV20 dc20 pm20 cd20 ct20 oc21 kV21 dc21 pm21 cd21 ct21 oc22 kV22 dc22 pm22 cd22 ct22 oc23 kV23 dc23 pm23 cd23 ct23 oc24 kV24 dc24 pm24 cd24 ct24 oc25 kV25 dc25 pm25 cd25 ct25 oc26 kV26 dc26 pm26 cd26 ct26 oc27 kV27 dc27 pm27 cd27 ct27 oc28 kV28 dc28 pm28 cd28 ct28 oc29 kV29 dc29 pm29 cd29 ct29 oc30 kV30 dc30 pm30 cd30 ct30 : Value} {t1 : Tok}
    {aK : Addr} {oK : Option Addr} {tK1 tK2 tK3 tK4 : Tok} {nK : Nat} {sK : Array (Option Value)}
    (aKn : PySem.W.nsIn K mainGlobals "KINDS" = some (some (.ref aK)))
    (aKl : K.lookup aK = some ⟨.type "tuple", oK, .seq #[.str "first" tK1, .str "between" tK2, .str "last" tK3, .str "level" tK4] nK, sK⟩)
    (a1 : PySem.W.nsIn K mainGlobals "is_letter" = some (some (.ref f1)))
    (l1 : K.lookup f1 = some ⟨oc1, od1, .func (PySem.W.fnOf "is_letter" "is_letter" (defArgs s_is_letter) (defBody s_is_letter) (defScope s_is_letter) .none kV1 dc1 pm1 an1 cd1 ct1), sl1⟩)
    (c1 : PySem.W.codeIn K cd1 "is_letter" = true)
    (k1 : PySem.W.keepIn K (.ref f1) = true)
    (a2 : PySem.W.nsIn K mainGlobals "is_whole_number" = some (some (.ref f2)))
    (l2 : K.lookup f2 = some ⟨oc2, od2, .func (PySem.W.fnOf "is_whole_number" "is_whole_number" (defArgs s_is_whole_number) (defBody s_is_whole_number) (defScope s_is_whole_number) .none kV2 dc2 pm2 an2 cd2 ct2), sl2⟩)
    (c2 : PySem.W.codeIn K cd2 "is_whole_number" = true)
    (k2 : PySem.W.keepIn K (.ref f2) = true)
    (a3 : PySem.W.nsIn K mainGlobals "is_index" = some (some (.ref f3)))
    (l3 : K.lookup f3 = some ⟨oc3, od3, .func (PySem.W.fnOf "is_index" "is_index" (defArgs s_is_index) (defBody s_is_index) (defScope s_is_index) .none kV3 dc3 pm3 an3 cd3 ct3), sl3⟩)
    (c3 : PySem.W.codeIn K cd3 "is_index" = true)
    (k3 : PySem.W.keepIn K (.ref f3) = true)
    (a4 : PySem.W.nsIn K mainGlobals "is_ascending" = some (some (.ref f4)))
    (l4 : K.lookup f4 = some ⟨oc4, od4, .func (PySem.W.fnOf "is_ascending" "is_ascending" (defArgs s_is_ascending) (defBody s_is_ascending) (defScope s_is_ascending) .none kV4 dc4 pm4 an4 cd4 ct4), sl4⟩)
    (c4 : PySem.W.codeIn K cd4 "is_ascending" = true)
    (k4 : PySem.W.keepIn K (.ref f4) = true)
    (a5 : PySem.W.nsIn K mainGlobals "is_tagged" = some (some (.ref f5)))
    (l5 : K.lookup f5 = some ⟨oc5, od5, .func (PySem.W.fnOf "is_tagged" "is_tagged" (defArgs s_is_tagged) (defBody s_is_tagged) (defScope s_is_tagged) .none kV5 dc5 pm5 an5 cd5 ct5), sl5⟩)
    (c5 : PySem.W.codeIn K cd5 "is_tagged" = true)
    (k5 : PySem.W.keepIn K (.ref f5) = true)
    (a6 : PySem.W.nsIn K mainGlobals "is_node" = some (some (.ref f6)))
    (l6 : K.lookup f6 = some ⟨oc6, od6, .func (PySem.W.fnOf "is_node" "is_node" (defArgs s_is_node) (defBody s_is_node) (defScope s_is_node) .none kV6 dc6 pm6 an6 cd6 ct6), sl6⟩)
    (c6 : PySem.W.codeIn K cd6 "is_node" = true)
    (k6 : PySem.W.keepIn K (.ref f6) = true)
    (a7 : PySem.W.nsIn K mainGlobals "is_tree" = some (some (.ref f7)))
    (l7 : K.lookup f7 = some ⟨oc7, od7, .func (PySem.W.fnOf "is_tree" "is_tree" (defArgs s_is_tree) (defBody s_is_tree) (defScope s_is_tree) .none kV7 dc7 pm7 an7 cd7 ct7), sl7⟩)
    (c7 : PySem.W.codeIn K cd7 "is_tree" = true)
    (k7 : PySem.W.keepIn K (.ref f7) = true)
    (a8 : PySem.W.nsIn K mainGlobals "is_kind" = some (some (.ref f8)))
    (l8 : K.lookup f8 = some ⟨oc8, od8, .func (PySem.W.fnOf "is_kind" "is_kind" (defArgs s_is_kind) (defBody s_is_kind) (defScope s_is_kind) .none kV8 dc8 pm8 an8 cd8 ct8), sl8⟩)
    (c8 : PySem.W.codeIn K cd8 "is_kind" = true)
    (k8 : PySem.W.keepIn K (.ref f8) = true)
    (a9 : PySem.W.nsIn K mainGlobals "ordered_steps" = some (some (.ref f9)))
    (l9 : K.lookup f9 = some ⟨oc9, od9, .func (PySem.W.fnOf "ordered_steps" "ordered_steps" (defArgs s_ordered_steps) (defBody s_ordered_steps) (defScope s_ordered_steps) .none kV9 dc9 pm9 an9 cd9 ct9), sl9⟩)
    (c9 : PySem.W.codeIn K cd9 "ordered_steps" = true)
    (k9 : PySem.W.keepIn K (.ref f9) = true)
    (a10 : PySem.W.nsIn K mainGlobals "deep_steps" = some (some (.ref f10)))
    (l10 : K.lookup f10 = some ⟨oc10, od10, .func (PySem.W.fnOf "deep_steps" "deep_steps" (defArgs s_deep_steps) (defBody s_deep_steps) (defScope s_deep_steps) .none kV10 dc10 pm10 an10 cd10 ct10), sl10⟩)
    (c10 : PySem.W.codeIn K cd10 "deep_steps" = true)
    (k10 : PySem.W.keepIn K (.ref f10) = true)
    (a11 : PySem.W.nsIn K mainGlobals "walk" = some (some (.ref f11)))
    (l11 : K.lookup f11 = some ⟨oc11, od11, .func (PySem.W.fnOf "walk" "walk" (defArgs s_walk) (defBody s_walk) (defScope s_walk) .none kV11 dc11 pm11 an11 cd11 ct11), sl11⟩)
    (c11 : PySem.W.codeIn K cd11 "walk" = true)
    (k11 : PySem.W.keepIn K (.ref f11) = true)
    (a12 : PySem.W.nsIn K mainGlobals "is_search_tree" = some (some (.ref f12)))
    (l12 : K.lookup f12 = some ⟨oc12, od12, .func (PySem.W.fnOf "is_search_tree" "is_search_tree" (defArgs s_is_search_tree) (defBody s_is_search_tree) (defScope s_is_search_tree) .none kV12 dc12 pm12 an12 cd12 ct12), sl12⟩)
    (c12 : PySem.W.codeIn K cd12 "is_search_tree" = true)
    (k12 : PySem.W.keepIn K (.ref f12) = true)
    (a13 : PySem.W.nsIn K mainGlobals "is_barrier" = some (some (.ref f13)))
    (l13 : K.lookup f13 = some ⟨oc13, od13, .func (PySem.W.fnOf "is_barrier" "is_barrier" (defArgs s_is_barrier) (defBody s_is_barrier) (defScope s_is_barrier) .none kV13 dc13 pm13 an13 cd13 ct13), sl13⟩)
    (c13 : PySem.W.codeIn K cd13 "is_barrier" = true)
    (k13 : PySem.W.keepIn K (.ref f13) = true)
    (a14 : PySem.W.nsIn K mainGlobals "search_holds" = some (some (.ref f14)))
    (l14 : K.lookup f14 = some ⟨oc14, od14, .func (PySem.W.fnOf "search_holds" "search_holds" (defArgs s_search_holds) (defBody s_search_holds) (defScope s_search_holds) .none kV14 dc14 pm14 an14 cd14 ct14), sl14⟩)
    (c14 : PySem.W.codeIn K cd14 "search_holds" = true)
    (k14 : PySem.W.keepIn K (.ref f14) = true)
    (a15 : PySem.W.nsIn K mainGlobals "_law_begin" = some (some (.ref f15)))
    (l15 : K.lookup f15 = some ⟨oc15, od15, .func (PySem.W.fnOf "_law_begin" "_law_begin" (defArgs s__law_begin) (defBody s__law_begin) (defScope s__law_begin) .none kV15 dc15 pm15 an15 cd15 ct15), sl15⟩)
    (c15 : PySem.W.codeIn K cd15 "_law_begin" = true)
    (k15 : PySem.W.keepIn K (.ref f15) = true)
    (a16 : PySem.W.nsIn K mainGlobals "_law_next" = some (some (.ref f16)))
    (l16 : K.lookup f16 = some ⟨oc16, od16, .func (PySem.W.fnOf "_law_next" "_law_next" (defArgs s__law_next) (defBody s__law_next) (defScope s__law_next) .none kV16 dc16 pm16 an16 cd16 ct16), sl16⟩)
    (c16 : PySem.W.codeIn K cd16 "_law_next" = true)
    (k16 : PySem.W.keepIn K (.ref f16) = true)
    (a17 : PySem.W.nsIn K mainGlobals "_law_same" = some (some (.ref f17)))
    (l17 : K.lookup f17 = some ⟨oc17, od17, .func (PySem.W.fnOf "_law_same" "_law_same" (defArgs s__law_same) (defBody s__law_same) (defScope s__law_same) .none kV17 dc17 pm17 an17 cd17 ct17), sl17⟩)
    (c17 : PySem.W.codeIn K cd17 "_law_same" = true)
    (k17 : PySem.W.keepIn K (.ref f17) = true)
    (a18 : PySem.W.nsIn K mainGlobals "_law_mixed" = some (some (.ref f18)))
    (l18 : K.lookup f18 = some ⟨oc18, od18, .func (PySem.W.fnOf "_law_mixed" "_law_mixed" (defArgs s__law_mixed) (defBody s__law_mixed) (defScope s__law_mixed) .none kV18 dc18 pm18 an18 cd18 ct18), sl18⟩)
    (c18 : PySem.W.codeIn K cd18 "_law_mixed" = true)
    (k18 : PySem.W.keepIn K (.ref f18) = true)
    (a19 : PySem.W.nsIn K mainGlobals "_law_free" = some (some (.ref f19)))
    (l19 : K.lookup f19 = some ⟨oc19, od19, .func (PySem.W.fnOf "_law_free" "_law_free" (defArgs s__law_free) (defBody s__law_free) (defScope s__law_free) .none kV19 dc19 pm19 an19 cd19 ct19), sl19⟩)
    (c19 : PySem.W.codeIn K cd19 "_law_free" = true)
    (k19 : PySem.W.keepIn K (.ref f19) = true)
    (a20 : PySem.W.nsIn K mainGlobals "_law_order" = some (some (.ref f20)))
    (l20 : K.lookup f20 = some ⟨oc20, od20, .func (PySem.W.fnOf "_law_order" "_law_order" (defArgs s__law_order) (defBody s__law_order) (defScope s__law_order) .none kV20 dc20 pm20 an20 cd20 ct20), sl20⟩)
    (c20 : PySem.W.codeIn K cd20 "_law_order" = true)
    (k20 : PySem.W.keepIn K (.ref f20) = true)
    (a21 : PySem.W.nsIn K mainGlobals "_law_put" = some (some (.ref f21)))
    (l21 : K.lookup f21 = some ⟨oc21, od21, .func (PySem.W.fnOf "_law_put" "_law_put" (defArgs s__law_put) (defBody s__law_put) (defScope s__law_put) .none kV21 dc21 pm21 an21 cd21 ct21), sl21⟩)
    (c21 : PySem.W.codeIn K cd21 "_law_put" = true)
    (k21 : PySem.W.keepIn K (.ref f21) = true)
    (a22 : PySem.W.nsIn K mainGlobals "_law_grown" = some (some (.ref f22)))
    (l22 : K.lookup f22 = some ⟨oc22, od22, .func (PySem.W.fnOf "_law_grown" "_law_grown" (defArgs s__law_grown) (defBody s__law_grown) (defScope s__law_grown) .none kV22 dc22 pm22 an22 cd22 ct22), sl22⟩)
    (c22 : PySem.W.codeIn K cd22 "_law_grown" = true)
    (k22 : PySem.W.keepIn K (.ref f22) = true)
    (a23 : PySem.W.nsIn K mainGlobals "_law_ahead" = some (some (.ref f23)))
    (l23 : K.lookup f23 = some ⟨oc23, od23, .func (PySem.W.fnOf "_law_ahead" "_law_ahead" (defArgs s__law_ahead) (defBody s__law_ahead) (defScope s__law_ahead) .none kV23 dc23 pm23 an23 cd23 ct23), sl23⟩)
    (c23 : PySem.W.codeIn K cd23 "_law_ahead" = true)
    (k23 : PySem.W.keepIn K (.ref f23) = true)
    (a24 : PySem.W.nsIn K mainGlobals "_law_turned" = some (some (.ref f24)))
    (l24 : K.lookup f24 = some ⟨oc24, od24, .func (PySem.W.fnOf "_law_turned" "_law_turned" (defArgs s__law_turned) (defBody s__law_turned) (defScope s__law_turned) .none kV24 dc24 pm24 an24 cd24 ct24), sl24⟩)
    (c24 : PySem.W.codeIn K cd24 "_law_turned" = true)
    (k24 : PySem.W.keepIn K (.ref f24) = true)
    (a25 : PySem.W.nsIn K mainGlobals "_law_barriers" = some (some (.ref f25)))
    (l25 : K.lookup f25 = some ⟨oc25, od25, .func (PySem.W.fnOf "_law_barriers" "_law_barriers" (defArgs s__law_barriers) (defBody s__law_barriers) (defScope s__law_barriers) .none kV25 dc25 pm25 an25 cd25 ct25), sl25⟩)
    (c25 : PySem.W.codeIn K cd25 "_law_barriers" = true)
    (k25 : PySem.W.keepIn K (.ref f25) = true)
    (a26 : PySem.W.nsIn K mainGlobals "_law_odd" = some (some (.ref f26)))
    (l26 : K.lookup f26 = some ⟨oc26, od26, .func (PySem.W.fnOf "_law_odd" "_law_odd" (defArgs s__law_odd) (defBody s__law_odd) (defScope s__law_odd) .none kV26 dc26 pm26 an26 cd26 ct26), sl26⟩)
    (c26 : PySem.W.codeIn K cd26 "_law_odd" = true)
    (k26 : PySem.W.keepIn K (.ref f26) = true)
    (a27 : PySem.W.nsIn K mainGlobals "_law_bent" = some (some (.ref f27)))
    (l27 : K.lookup f27 = some ⟨oc27, od27, .func (PySem.W.fnOf "_law_bent" "_law_bent" (defArgs s__law_bent) (defBody s__law_bent) (defScope s__law_bent) .none kV27 dc27 pm27 an27 cd27 ct27), sl27⟩)
    (c27 : PySem.W.codeIn K cd27 "_law_bent" = true)
    (k27 : PySem.W.keepIn K (.ref f27) = true)
    (a28 : PySem.W.nsIn K mainGlobals "_law_due" = some (some (.ref f28)))
    (l28 : K.lookup f28 = some ⟨oc28, od28, .func (PySem.W.fnOf "_law_due" "_law_due" (defArgs s__law_due) (defBody s__law_due) (defScope s__law_due) .none kV28 dc28 pm28 an28 cd28 ct28), sl28⟩)
    (c28 : PySem.W.codeIn K cd28 "_law_due" = true)
    (k28 : PySem.W.keepIn K (.ref f28) = true)
    (a29 : PySem.W.nsIn K mainGlobals "_law_values" = some (some (.ref f29)))
    (l29 : K.lookup f29 = some ⟨oc29, od29, .func (PySem.W.fnOf "_law_values" "_law_values" (defArgs s__law_values) (defBody s__law_values) (defScope s__law_values) .none kV29 dc29 pm29 an29 cd29 ct29), sl29⟩)
    (c29 : PySem.W.codeIn K cd29 "_law_values" = true)
    (k29 : PySem.W.keepIn K (.ref f29) = true)
    (a30 : PySem.W.nsIn K mainGlobals "law" = some (some (.ref f30)))
    (l30 : K.lookup f30 = some ⟨oc30, od30, .func (PySem.W.fnOf "law" "law" (defArgs s_law) (defBody s_law) (defScope s_law) .none kV30 dc30 pm30 an30 cd30 ct30), sl30⟩)
    (c30 : PySem.W.codeIn K cd30 "law" = true)
    (k30 : PySem.W.keepIn K (.ref f30) = true)
    (z1 : PySem.W.nsIn K mainGlobals "zip" = some none)
    (z2 : PySem.W.nsIn K mainGlobals "all" = some none)
    (z3 : PySem.W.nsIn K mainGlobals "repr" = some none)
    (z4 : PySem.W.nsIn K mainGlobals "len" = some none)
    (z5 : PySem.W.nsIn K mainGlobals "isinstance" = some none)
    (z6 : PySem.W.nsIn K mainGlobals "list" = some none)
    (z7 : PySem.W.nsIn K mainGlobals "tuple" = some none)
    (z8 : PySem.W.nsIn K mainGlobals "str" = some none)
    (z9 : PySem.W.nsIn K mainGlobals "int" = some none)
    (z10 : PySem.W.nsIn K mainGlobals "bool" = some none)
    (z11 : PySem.W.nsIn K mainGlobals "dict" = some none)
    (z12 : PySem.W.nsIn K mainGlobals "range" = some none)
    (z13 : PySem.W.nsIn K mainGlobals "sorted" = some none)
    (z14 : PySem.W.nsIn K mainGlobals "abs" = some none)
    (z15 : PySem.W.nsIn K mainGlobals "min" = some none)
    (z16 : PySem.W.nsIn K mainGlobals "max" = some none)
    (v1 : PySem.W.nsIn K mainGlobals "MAX_NODES" = some (some (.int 12 t1)))
    : ∀ (base : Heap) (H : Hp) (s : Shared) (a : Addr) (ns : List Int), K.In base → base.Ns mainGlobals mg → Env0 l.prog w K mg base callerA [] s H → SqL K H a (ns.map V.int) → ns.length ≤ 63 →
      codeAny (model l.prog w) callerA (.call (.ref fa) ⟨[.ref a], []⟩) (CR CX0 [] l.prog w H s (fun v _ => v = .bl true) fun _ _ _ => False) s := by
  intro base H s a ns _ _ en hS hn
  have e := hfa.symm.trans (PySem.W.mg_of X G a30)
  cases e
  have F1 := fun_mk (st := s_is_letter) l1 c1 k1
  have g1 := PySem.W.mg_of X G a1
  have F2 := fun_mk (st := s_is_whole_number) l2 c2 k2
  have g2 := PySem.W.mg_of X G a2
  have F3 := fun_mk (st := s_is_index) l3 c3 k3
  have g3 := PySem.W.mg_of X G a3
  have F4 := fun_mk (st := s_is_ascending) l4 c4 k4
  have g4 := PySem.W.mg_of X G a4
  have F5 := fun_mk (st := s_is_tagged) l5 c5 k5
  have g5 := PySem.W.mg_of X G a5
  have F6 := fun_mk (st := s_is_node) l6 c6 k6
  have g6 := PySem.W.mg_of X G a6
  have F7 := fun_mk (st := s_is_tree) l7 c7 k7
  have g7 := PySem.W.mg_of X G a7
  have F8 := fun_mk (st := s_is_kind) l8 c8 k8
  have g8 := PySem.W.mg_of X G a8
  have F9 := fun_mk (st := s_ordered_steps) l9 c9 k9
  have g9 := PySem.W.mg_of X G a9
  have F10 := fun_mk (st := s_deep_steps) l10 c10 k10
  have g10 := PySem.W.mg_of X G a10
  have F11 := fun_mk (st := s_walk) l11 c11 k11
  have g11 := PySem.W.mg_of X G a11
  have F12 := fun_mk (st := s_is_search_tree) l12 c12 k12
  have g12 := PySem.W.mg_of X G a12
  have F13 := fun_mk (st := s_is_barrier) l13 c13 k13
  have g13 := PySem.W.mg_of X G a13
  have F14 := fun_mk (st := s_search_holds) l14 c14 k14
  have g14 := PySem.W.mg_of X G a14
  have F15 := fun_mk (st := s__law_begin) l15 c15 k15
  have g15 := PySem.W.mg_of X G a15
  have F16 := fun_mk (st := s__law_next) l16 c16 k16
  have g16 := PySem.W.mg_of X G a16
  have F17 := fun_mk (st := s__law_same) l17 c17 k17
  have g17 := PySem.W.mg_of X G a17
  have F18 := fun_mk (st := s__law_mixed) l18 c18 k18
  have g18 := PySem.W.mg_of X G a18
  have F19 := fun_mk (st := s__law_free) l19 c19 k19
  have g19 := PySem.W.mg_of X G a19
  have F20 := fun_mk (st := s__law_order) l20 c20 k20
  have g20 := PySem.W.mg_of X G a20
  have F21 := fun_mk (st := s__law_put) l21 c21 k21
  have g21 := PySem.W.mg_of X G a21
  have F22 := fun_mk (st := s__law_grown) l22 c22 k22
  have g22 := PySem.W.mg_of X G a22
  have F23 := fun_mk (st := s__law_ahead) l23 c23 k23
  have g23 := PySem.W.mg_of X G a23
  have F24 := fun_mk (st := s__law_turned) l24 c24 k24
  have g24 := PySem.W.mg_of X G a24
  have F25 := fun_mk (st := s__law_barriers) l25 c25 k25
  have g25 := PySem.W.mg_of X G a25
  have F26 := fun_mk (st := s__law_odd) l26 c26 k26
  have g26 := PySem.W.mg_of X G a26
  have F27 := fun_mk (st := s__law_bent) l27 c27 k27
  have g27 := PySem.W.mg_of X G a27
  have F28 := fun_mk (st := s__law_due) l28 c28 k28
  have g28 := PySem.W.mg_of X G a28
  have F29 := fun_mk (st := s__law_values) l29 c29 k29
  have g29 := PySem.W.mg_of X G a29
  have F30 := fun_mk (st := s_law) l30 c30 k30
  have m_zip := PySem.W.mg_none_of X G z1
  have m_all := PySem.W.mg_none_of X G z2
  have m_repr := PySem.W.mg_none_of X G z3
  have m_len := PySem.W.mg_none_of X G z4
  have m_isinstance := PySem.W.mg_none_of X G z5
  have m_list := PySem.W.mg_none_of X G z6
  have m_tuple := PySem.W.mg_none_of X G z7
  have m_str := PySem.W.mg_none_of X G z8
  have m_int := PySem.W.mg_none_of X G z9
  have m_bool := PySem.W.mg_none_of X G z10
  have m_dict := PySem.W.mg_none_of X G z11
  have m_range := PySem.W.mg_none_of X G z12
  have m_sorted := PySem.W.mg_none_of X G z13
  have m_abs := PySem.W.mg_none_of X G z14
  have m_min := PySem.W.mg_none_of X G z15
  have m_max := PySem.W.mg_none_of X G z16
  have m1 := PySem.W.mg_of X G v1
  have b1 := F1.binds (ps := ["value"]) fun _ _ _ _ _ _ us hl => match us, hl with | [_], _ => rfl
  have b2 := F2.binds (ps := ["value"]) fun _ _ _ _ _ _ us hl => match us, hl with | [_], _ => rfl
  have b3 := F3.binds (ps := ["value", "many"]) fun _ _ _ _ _ _ us hl => match us, hl with | [_, _], _ => rfl
  have b4 := F4.binds (ps := ["items"]) fun _ _ _ _ _ _ us hl => match us, hl with | [_], _ => rfl
  have b5 := F5.binds (ps := ["value"]) fun _ _ _ _ _ _ us hl => match us, hl with | [_], _ => rfl
  have b6 := F6.binds (ps := ["value"]) fun _ _ _ _ _ _ us hl => match us, hl with | [_], _ => rfl
  have b7 := F7.binds (ps := ["value"]) fun _ _ _ _ _ _ us hl => match us, hl with | [_], _ => rfl
  have b8 := F8.binds (ps := ["value"]) fun _ _ _ _ _ _ us hl => match us, hl with | [_], _ => rfl
  have b9 := F9.binds (ps := ["tree", "kind"]) fun _ _ _ _ _ _ us hl => match us, hl with | [_, _], _ => rfl
  have b10 := F10.binds (ps := ["tree", "kind", "path"]) fun _ _ _ _ _ _ us hl => match us, hl with | [_, _, _], _ => rfl
  have b11 := F11.binds (ps := ["tree", "kind"]) fun _ _ _ _ _ _ us hl => match us, hl with | [_, _], _ => rfl
  have b12 := F12.binds (ps := ["tree"]) fun _ _ _ _ _ _ us hl => match us, hl with | [_], _ => rfl
  have b13 := F13.binds (ps := ["order", "value"]) fun _ _ _ _ _ _ us hl => match us, hl with | [_, _], _ => rfl
  have b14 := F14.binds (ps := ["order", "value"]) fun _ _ _ _ _ _ us hl => match us, hl with | [_, _], _ => rfl
  have b15 := F15.binds (ps := ["_law_script"]) fun _ _ _ _ _ _ us hl => match us, hl with | [_], _ => rfl
  have b16 := F16.binds (ps := ["_law_deck", "_law_many"]) fun _ _ _ _ _ _ us hl => match us, hl with | [_, _], _ => rfl
  have b17 := F17.binds (ps := ["_law_found", "_law_due_here"]) fun _ _ _ _ _ _ us hl => match us, hl with | [_, _], _ => rfl
  have b18 := F18.binds (ps := ["_law_deck", "_law_items"]) fun _ _ _ _ _ _ us hl => match us, hl with | [_, _], _ => rfl
  have b19 := F19.binds (ps := ["_law_deck", "_law_letters"]) fun _ _ _ _ _ _ us hl => match us, hl with | [_, _], _ => rfl
  have b20 := F20.binds (ps := ["_law_deck", "_law_low", "_law_high"]) fun _ _ _ _ _ _ us hl => match us, hl with | [_, _, _], _ => rfl
  have b21 := F21.binds (ps := ["_law_tree", "_law_letter"]) fun _ _ _ _ _ _ us hl => match us, hl with | [_, _], _ => rfl
  have b22 := F22.binds (ps := ["_law_order_here"]) fun _ _ _ _ _ _ us hl => match us, hl with | [_], _ => rfl
  have b23 := F23.binds (ps := ["_law_tree"]) fun _ _ _ _ _ _ us hl => match us, hl with | [_], _ => rfl
  have b24 := F24.binds (ps := ["_law_tree"]) fun _ _ _ _ _ _ us hl => match us, hl with | [_], _ => rfl
  have b25 := F25.binds (ps := ["_law_order_here"]) fun _ _ _ _ _ _ us hl => match us, hl with | [_], _ => rfl
  have b26 := F26.binds (ps := ["_law_deck"]) fun _ _ _ _ _ _ us hl => match us, hl with | [_], _ => rfl
  have b27 := F27.binds (ps := ["_law_deck", "_law_value"]) fun _ _ _ _ _ _ us hl => match us, hl with | [_, _], _ => rfl
  have b28 := F28.binds (ps := ["_law_order_here", "_law_value"]) fun _ _ _ _ _ _ us hl => match us, hl with | [_, _], _ => rfl
  have b29 := F29.binds (ps := ["_law_deck", "_law_order_here"]) fun _ _ _ _ _ _ us hl => match us, hl with | [_, _], _ => rfl
  have M : Mgs mg := ⟨m_zip, m_all, m_repr, m_len, m_isinstance, m_list, m_tuple, m_str, m_int, m_bool, m_dict, m_range, m_sorted, m_abs, m_min, m_max⟩
  have Kk : KindsT K mg aK := ⟨PySem.W.mg_of X G aKn, fun H => .inr ⟨_, _, _, aKl, rfl, rfl, (by show 4 ≤ sizeLine; decide), .cons ⟨_, rfl⟩ (.cons ⟨_, rfl⟩ (.cons ⟨_, rfl⟩ (.cons ⟨_, rfl⟩ .nil)))⟩⟩
  have Dis_kind : Df l.prog w K mg base 1 "is_kind" ["value"] spKind := ⟨f8, _, ok_kind (k := 0) F8 M Kk, b8, k8, g8⟩
  have Ddeep_steps : Df l.prog w K mg base 60 "deep_steps" ["tree", "kind", "path"] (spDeep 60) := ⟨f10, _, ok_deep F10 b10 g10 60, b10, k10, g10⟩
  have Dordered_steps : Df l.prog w K mg base 61 "ordered_steps" ["tree", "kind"] spSteps := ⟨f9, _, ok_steps F9 Dis_kind Ddeep_steps, b9, k9, g9⟩
  have Dwalk : Df l.prog w K mg base 62 "walk" ["tree", "kind"] spWalk := ⟨f11, _, ok_walk F11 Dordered_steps, b11, k11, g11⟩
  have D_law_begin : Df l.prog w K mg base 1 "_law_begin" ["_law_script"] (spBegin K) := ⟨f15, _, ok_begin (k := 0) F15 M, b15, k15, g15⟩
  have D_law_next : Df l.prog w K mg base 1 "_law_next" ["_law_deck", "_law_many"] spNext := ⟨f16, _, ok_next (k := 0) F16, b16, k16, g16⟩
  have Dsame20 : Df l.prog w K mg base 20 "_law_same" ["_law_found", "_law_due_here"] (spSameQ 20) := ⟨f17, _, ok_sameQ F17 b17 g17 M 20, b17, k17, g17⟩
  have Dsame1 : Df l.prog w K mg base 1 "_law_same" ["_law_found", "_law_due_here"] spSameB := ⟨f17, _, ok_sameB F17 b17 g17 M, b17, k17, g17⟩
  have D_law_mixed : Df l.prog w K mg base 2 "_law_mixed" ["_law_deck", "_law_items"] spMixed := ⟨f18, _, ok_mixed F18 M D_law_next, b18, k18, g18⟩
  have D_law_free : Df l.prog w K mg base 31 "_law_free" ["_law_deck", "_law_letters"] (spFree 30) := ⟨f19, _, ok_free F19 b19 g19 M D_law_next 30, b19, k19, g19⟩
  have D_law_order : Df l.prog w K mg base 32 "_law_order" ["_law_deck", "_law_low", "_law_high"] spOrder := ⟨f20, _, ok_order F20 M D_law_next D_law_mixed D_law_free, b20, k20, g20⟩
  have Dis_whole_number : Df l.prog w K mg base 1 "is_whole_number" ["value"] (spAsk wholeD) := ⟨f2, _, ok_wholeA (k := 0) F2 M, b2, k2, g2⟩
  have Dis_index : Df l.prog w K mg base 2 "is_index" ["value", "many"] spIndexA := ⟨f3, _, ok_indexA (k := 0) F3 Dis_whole_number, b3, k3, g3⟩
  have Dis_ascending : Df l.prog w K mg base 1 "is_ascending" ["items"] (spAsc K) := ⟨f4, _, ok_asc (k := 0) F4 M, b4, k4, g4⟩
  have Dis_search_tree : Df l.prog w K mg base 63 "is_search_tree" ["tree"] spSearch := ⟨f12, _, ok_search F12 Dwalk Dis_ascending, b12, k12, g12⟩
  have Dis_barrier : Df l.prog w K mg base 3 "is_barrier" ["order", "value"] (spAskZ isBarD) := ⟨f13, _, ok_barrierA F13 M Dis_index Dis_ascending, b13, k13, g13⟩
  have Dis_letter : Df l.prog w K mg base 1 "is_letter" ["value"] (spAsk isL) := ⟨f1, _, ok_letter (k := 0) F1 M, b1, k1, g1⟩
  have Dis_node : Df l.prog w K mg base 2 "is_node" ["value"] (spAsk isN) := ⟨f6, _, ok_node (k := 0) F6 M Dis_letter, b6, k6, g6⟩
  have Dis_tree : Df l.prog w K mg base 3 "is_tree" ["value"] spIsTree := ⟨f7, _, ok_isTree F7 m1 Dis_node, b7, k7, g7⟩
  have Dis_tagged : Df l.prog w K mg base 1 "is_tagged" ["value"] (spAsk isTag) := ⟨f5, _, ok_tagged (k := 0) F5 M, b5, k5, g5⟩
  have Dsearch_holds : Df l.prog w K mg base 64 "search_holds" ["order", "value"] (spAskZ HoldsS) := ⟨f14, _, ok_holdsA F14 Dis_tagged Dis_tree Dis_search_tree Dwalk Dis_barrier, b14, k14, g14⟩
  have D_law_put : Df l.prog w K mg base 40 "_law_put" ["_law_tree", "_law_letter"] (spPut 40) := ⟨f21, _, ok_put F21 b21 g21 40, b21, k21, g21⟩
  have D_law_grown : Df l.prog w K mg base 41 "_law_grown" ["_law_order_here"] spGr := ⟨f22, _, ok_grown F22 D_law_put, b22, k22, g22⟩
  have D_law_ahead : Df l.prog w K mg base 30 "_law_ahead" ["_law_tree"] (spAhead 30) := ⟨f23, _, ok_ahead F23 b23 g23 30, b23, k23, g23⟩
  have D_law_turned : Df l.prog w K mg base 30 "_law_turned" ["_law_tree"] (spTurned 30) := ⟨f24, _, ok_turned F24 b24 g24 30, b24, k24, g24⟩
  have D_law_barriers : Df l.prog w K mg base 1 "_law_barriers" ["_law_order_here"] spLBars := ⟨f25, _, ok_lbars (k := 0) F25 M, b25, k25, g25⟩
  have D_law_odd : Df l.prog w K mg base 2 "_law_odd" ["_law_deck"] spOdd := ⟨f26, _, ok_odd (k := 0) F26 D_law_next, b26, k26, g26⟩
  have D_law_bent : Df l.prog w K mg base 3 "_law_bent" ["_law_deck", "_law_value"] spBent := ⟨f27, _, ok_bent (k := 0) F27 M D_law_next D_law_odd, b27, k27, g27⟩
  have D_law_due : DfG l.prog w K mg base 42 "_law_due" ["_law_order_here", "_law_value"] spDue := ⟨f28, _, ok_due F28 M D_law_grown D_law_barriers D_law_ahead Dsame20, b28, k28, g28⟩
  have D_law_values : Df l.prog w K mg base 42 "_law_values" ["_law_deck", "_law_order_here"] spValues := ⟨f29, _, ok_values F29 M D_law_next D_law_odd D_law_bent D_law_order D_law_grown D_law_barriers D_law_ahead D_law_turned, b29, k29, g29⟩
  exact run_law F30 (.of_eq rfl) en hS hn M D_law_begin D_law_order D_law_values Dsame1 D_law_due Dsearch_holds
theorem walk_at {l : PySem.W.OpenLaw} {q : Program} {loose : List Str} {XP : (Str → Option Value) → Heap → Prop} {YP : World → Heap → Prop} {d : DefRec} {K : Params → PySem.W.Frag} (most : l.most = some 63) (noDf : d.params.defaults = [])
    (inK : ∀ (w : World) (h : Heap), YP w h → (K w.params).In h)
    (F : ∀ (w : World) (mg : Str → Option Value) (fa : Addr) (h : Heap), (K w.params).In h → h.Ns mainGlobals mg → mg d.name = some (.ref fa) →
      ∀ (base : Heap) (H : Hp) (s : Shared) (a : Addr) (ns : List Int), (K w.params).In base → base.Ns mainGlobals mg → Env0 l.prog w (K w.params) mg base callerA [] s H → SqL (K w.params) H a (ns.map V.int) → ns.length ≤ 63 →
        codeAny (model l.prog w) callerA (.call (.ref fa) ⟨[.ref a], []⟩) (CR CX0 [] l.prog w H s (fun v _ => v = .bl true) fun _ _ _ => False) s) :
    PySem.W.WalkO q loose XP YP l.row.toRowW d [] (fun f vs => PySem.call f vs) := by
  refine Att.attach_call most noDf ?_
  intro w s₀ s₁ mg mb fa o pm cd doc a vs ns G Y ho hd hcd hmg hobj hints hlen hg
  exact law_at (inK w _ Y) G.T.g G.T.b G.T.builtins G.T.nolimit hg hobj hints (Nat.le_trans hlen (by decide)) fun base H h1 h2 en hS => F w mg fa _ (inK w _ Y) G.T.g hmg base H s₁ a ns h1 h2 en hS hlen
end Tw
open PySem PySem.W PyProof.Rows
set_option maxRecDepth 100000 in
set_option maxHeartbeats 0 in
theorem PySem.Challenge.cw_treewalks_k31_search_certificates_judged_holds : PySem.Challenge.rw_treewalks_k31_search_certificates_judged.Holds := by
  w_on; o_law; k_head; (case hw => w_witness2)
  k_fill
  refine Tw.walk_at (l := PySem.Challenge.rw_treewalks_k31_search_certificates_judged) rfl rfl (fun w h Y => by first | exact PySem.W.kIn_of Y | exact PySem.W.km_in_of Y) ?F
  case F =>
    intro w mg fa h KX G hmg
    refine' Tw.all_mk KX G hmg ?aKn ?aKl ?a1 ?l1 ?c1 ?k1 ?a2 ?l2 ?c2 ?k2 ?a3 ?l3 ?c3 ?k3 ?a4 ?l4 ?c4 ?k4 ?a5 ?l5 ?c5 ?k5 ?a6 ?l6 ?c6 ?k6 ?a7 ?l7 ?c7 ?k7 ?a8 ?l8 ?c8 ?k8 ?a9 ?l9 ?c9 ?k9 ?a10 ?l10 ?c10 ?k10 ?a11 ?l11 ?c11 ?k11 ?a12 ?l12 ?c12 ?k12 ?a13 ?l13 ?c13 ?k13 ?a14 ?l14 ?c14 ?k14 ?a15 ?l15 ?c15 ?k15 ?a16 ?l16 ?c16 ?k16 ?a17 ?l17 ?c17 ?k17 ?a18 ?l18 ?c18 ?k18 ?a19 ?l19 ?c19 ?k19 ?a20 ?l20 ?c20 ?k20 ?a21 ?l21 ?c21 ?k21 ?a22 ?l22 ?c22 ?k22 ?a23 ?l23 ?c23 ?k23 ?a24 ?l24 ?c24 ?k24 ?a25 ?l25 ?c25 ?k25 ?a26 ?l26 ?c26 ?k26 ?a27 ?l27 ?c27 ?k27 ?a28 ?l28 ?c28 ?k28 ?a29 ?l29 ?c29 ?k29 ?a30 ?l30 ?c30 ?k30 ?z1 ?z2 ?z3 ?z4 ?z5 ?z6 ?z7 ?z8 ?z9 ?z10 ?z11 ?z12 ?z13 ?z14 ?z15 ?z16 ?v1
    (case aKn => first | k_is | rfl | decide +kernel)
    (case aKl => first | k_is | rfl | decide +kernel)
    (case a1 => k_is)
    (case l1 => k_is)
    (case c1 => k_is)
    (case k1 => k_is)
    (case a2 => k_is)
    (case l2 => k_is)
    (case c2 => k_is)
    (case k2 => k_is)
    (case a3 => k_is)
    (case l3 => k_is)
    (case c3 => k_is)
    (case k3 => k_is)
    (case a4 => k_is)
    (case l4 => k_is)
    (case c4 => k_is)
    (case k4 => k_is)
    (case a5 => k_is)
    (case l5 => k_is)
    (case c5 => k_is)
    (case k5 => k_is)
    (case a6 => k_is)
    (case l6 => k_is)
    (case c6 => k_is)
    (case k6 => k_is)
    (case a7 => k_is)
    (case l7 => k_is)
    (case c7 => k_is)
    (case k7 => k_is)
    (case a8 => k_is)
    (case l8 => k_is)
    (case c8 => k_is)
    (case k8 => k_is)
    (case a9 => k_is)
    (case l9 => k_is)
    (case c9 => k_is)
    (case k9 => k_is)
    (case a10 => k_is)
    (case l10 => k_is)
    (case c10 => k_is)
    (case k10 => k_is)
    (case a11 => k_is)
    (case l11 => k_is)
    (case c11 => k_is)
    (case k11 => k_is)
    (case a12 => k_is)
    (case l12 => k_is)
    (case c12 => k_is)
    (case k12 => k_is)
    (case a13 => k_is)
    (case l13 => k_is)
    (case c13 => k_is)
    (case k13 => k_is)
    (case a14 => k_is)
    (case l14 => k_is)
    (case c14 => k_is)
    (case k14 => k_is)
    (case a15 => k_is)
    (case l15 => k_is)
    (case c15 => k_is)
    (case k15 => k_is)
    (case a16 => k_is)
    (case l16 => k_is)
    (case c16 => k_is)
    (case k16 => k_is)
    (case a17 => k_is)
    (case l17 => k_is)
    (case c17 => k_is)
    (case k17 => k_is)
    (case a18 => k_is)
    (case l18 => k_is)
    (case c18 => k_is)
    (case k18 => k_is)
    (case a19 => k_is)
    (case l19 => k_is)
    (case c19 => k_is)
    (case k19 => k_is)
    (case a20 => k_is)
    (case l20 => k_is)
    (case c20 => k_is)
    (case k20 => k_is)
    (case a21 => k_is)
    (case l21 => k_is)
    (case c21 => k_is)
    (case k21 => k_is)
    (case a22 => k_is)
    (case l22 => k_is)
    (case c22 => k_is)
    (case k22 => k_is)
    (case a23 => k_is)
    (case l23 => k_is)
    (case c23 => k_is)
    (case k23 => k_is)
    (case a24 => k_is)
    (case l24 => k_is)
    (case c24 => k_is)
    (case k24 => k_is)
    (case a25 => k_is)
    (case l25 => k_is)
    (case c25 => k_is)
    (case k25 => k_is)
    (case a26 => k_is)
    (case l26 => k_is)
    (case c26 => k_is)
    (case k26 => k_is)
    (case a27 => k_is)
    (case l27 => k_is)
    (case c27 => k_is)
    (case k27 => k_is)
    (case a28 => k_is)
    (case l28 => k_is)
    (case c28 => k_is)
    (case k28 => k_is)
    (case a29 => k_is)
    (case l29 => k_is)
    (case c29 => k_is)
    (case k29 => k_is)
    (case a30 => k_is)
    (case l30 => k_is)
    (case c30 => k_is)
    (case k30 => k_is)
    (case z1 => k_is)
    (case z2 => k_is)
    (case z3 => k_is)
    (case z4 => k_is)
    (case z5 => k_is)
    (case z6 => k_is)
    (case z7 => k_is)
    (case z8 => k_is)
    (case z9 => k_is)
    (case z10 => k_is)
    (case z11 => k_is)
    (case z12 => k_is)
    (case z13 => k_is)
    (case z14 => k_is)
    (case z15 => k_is)
    (case z16 => k_is)
    (case v1 => k_is)
