import PyProof.Rows.All
import Wide.All
import OpenK.AllK
import HandS.CallLocal
import HandS.CallSlots
import HandS.ClsMeth
import HandS.Deep
import HandS.Defaults
import HandS.DictComp
import HandS.EndTab
import HandS.ExcField
import HandS.ExcIs
import HandS.ExcOwn
import HandS.FStr
import HandS.FStrTup
import HandS.Flow
import HandS.ForExc
import HandS.ForMost
import HandS.GenList
import HandS.IsInst
import HandS.Lambda
import HandS.More
import HandS.NoneIn
import HandS.Property
import HandS.Replace
import HandS.Set
import HandS.SetFor
import HandS.SetTxt0
import HandS.SlotsOwn
import HandS.Sort
import HandS.Star
import HandS.Strs
import HandS.Style
import HandS.TryMany
import HandS.TupAny
import HandS.TupMul
import HandS.TupSets
import HandS.Walk
import HandS.Wide
import HandS.Zip
import KE.GoesEnum
import KE.GoesMore
import KE.GoesZip
import KE.KCallOwn
import KE.KExcInit
import KE.KExcIs
import KE.KParD
import KE.KSortTupG
import KE.KSortTupUse
import KE.SortKeyHeap
import PyProof.CollectStr
import PyProof.P3Eq
import PyProof.Rows.SortShellAny
import PyProof.ToksMono
import Wide.FinOn
import HandS.Head0
import HandS.Head1
import HandS.Head2
import HandS.HeadEnd
import HandS.HeadHook1
import PySem.Challenge.RW_treewalks_k68_whole_desks_and_functions
set_option Elab.async false
set_option maxRecDepth 100000
set_option maxHeartbeats 4000000
namespace Tw
open PySem PySem.Spec PyProof.Rows L2
/-! ### trees over signs -/
abbrev ch (c : Nat) : Str := ⟨#[c]⟩
def tx (l : List Nat) : Str := ⟨l.toArray⟩
theorem tx_cps (l : List Nat) : (tx l).cps.toList = l := rfl
theorem tx_size (l : List Nat) : (tx l).cps.size = l.length := rfl
theorem tx_len (l : List Nat) : (tx l).length = l.length := rfl
theorem tx_one (c : Nat) : tx [c] = ch c := rfl
theorem tx_app (a b : List Nat) : tx a ++ tx b = tx (a ++ b) := by
  show (⟨(tx a).cps ++ (tx b).cps⟩ : Str) = _
  simp [tx]
theorem ch_app (c : Nat) (b : List Nat) : ch c ++ tx b = tx (c :: b) := tx_app [c] b
theorem tx_inj {a b : List Nat} (h : tx a = tx b) : a = b := congrArg (fun z : Str => z.cps.toList) h
theorem ch_inj {a b : Nat} (h : ch a = ch b) : a = b := by have := tx_inj (a := [a]) (b := [b]) h; simpa using this
theorem ch_lt (a b : Nat) : decide ((ch a).cps.toList < (ch b).cps.toList) = decide (a < b) := by
  have : ((ch a).cps.toList < (ch b).cps.toList) ↔ a < b := by
    show [a] < [b] ↔ _
    simp [List.cons_lt_cons_iff]
  simp only [this]
theorem tx_to (l : List Nat) (k : Nat) : cutS (tx l) none (some (k : Int)) = tx (l.take k) := by
  unfold cutS tx
  show (⟨_⟩ : Str) = ⟨_⟩
  rw [HT.sIx_nat, HT.sIx_none]
  show (⟨((l.drop 0).take (min k l.length - 0)).toArray⟩ : Str) = ⟨(l.take k).toArray⟩
  rw [List.drop_zero, Nat.sub_zero, Nat.min_def]
  split
  · rfl
  · rw [List.take_of_length_le (Nat.le_refl _), List.take_of_length_le (by omega)]
theorem tx_from (l : List Nat) (k : Nat) : cutS (tx l) (some (k : Int)) none = tx (l.drop k) := by
  unfold cutS tx
  show (⟨_⟩ : Str) = ⟨_⟩
  rw [HT.sIx_nat, HT.sIx_none]
  show (⟨((l.drop (min k l.length)).take (l.length - min k l.length)).toArray⟩ : Str) = ⟨(l.drop k).toArray⟩
  by_cases h : k ≤ l.length
  · rw [Nat.min_eq_left h, List.take_of_length_le (by rw [List.length_drop]; omega)]
  · rw [Nat.min_eq_right (by omega), List.drop_eq_nil_of_le (Nat.le_refl _), List.drop_eq_nil_of_le (by omega), List.take_nil]
theorem joinL_ones : ∀ l : List Nat, TL.joinL [] (l.map fun c => [c]) = l
  | [] => rfl
  | [c] => rfl
  | c :: d :: r => by
    have := joinL_ones (d :: r)
    show [c] ++ ([] ++ TL.joinL [] ((d :: r).map fun c => [c])) = _
    rw [this]; rfl
theorem tx_join (l : List Nat) : Txt.join (Str.ofString "") (l.map ch) = tx l := by
  rw [TL.join_eq]
  have e := TL.tl_join (Str.ofString "") (l.map ch)
  refine TL.ext_tl (e.trans ?_)
  rw [List.map_map]
  exact joinL_ones l
theorem tx_joinOk (l : List Nat) (h : l.length ≤ 1000) : ((l.map ch).map (·.length)).sum + (l.map ch).length * (Str.ofString "").length ≤ 16777216 := by
  have e0 : (Str.ofString "").length = 0 := by decide +kernel
  have e1 : ∀ l : List Nat, ((l.map ch).map (·.length)).sum = l.length := by
    intro l
    induction l with
    | nil => rfl
    | cons c r ih =>
      rw [List.map_cons, List.map_cons, List.sum_cons, ih, List.length_cons]
      show 1 + r.length = _
      omega
  rw [e0, e1]
  omega
inductive B where
  | nil
  | node (l : B) (x : Nat) (r : B)
  deriving DecidableEq
def B.size : B → Nat
  | .nil => 0
  | .node l _ r => l.size + 1 + r.size
def B.deep : B → Nat
  | .nil => 0
  | .node l _ r => 1 + max l.deep r.deep
def B.data : B → PyData
  | .nil => .none
  | .node l x r => .tuple [l.data, .str (ch x), r.data]
def B.pre : B → List Nat
  | .nil => []
  | .node l x r => x :: (l.pre ++ r.pre)
def B.mid : B → List Nat
  | .nil => []
  | .node l x r => l.mid ++ x :: r.mid
theorem B.deep_le : ∀ t : B, t.deep ≤ t.size
  | .nil => Nat.le_refl _
  | .node l _ r => by
    have h1 := l.deep_le
    have h2 := r.deep_le
    show 1 + max l.deep r.deep ≤ l.size + 1 + r.size
    omega
theorem B.pre_len : ∀ t : B, t.pre.length = t.size
  | .nil => rfl
  | .node l x r => by
    have h1 := l.pre_len
    have h2 := r.pre_len
    show (x :: (l.pre ++ r.pre)).length = l.size + 1 + r.size
    rw [List.length_cons, List.length_append]
    omega
theorem B.mid_len : ∀ t : B, t.mid.length = t.size
  | .nil => rfl
  | .node l x r => by
    have h1 := l.mid_len
    have h2 := r.mid_len
    show (l.mid ++ x :: r.mid).length = l.size + 1 + r.size
    rw [List.length_append, List.length_cons]
    omega
theorem B.mid_mem (t : B) (c : Nat) : c ∈ t.mid ↔ c ∈ t.pre := by
  induction t with
  | nil => exact Iff.rfl
  | node l x r h1 h2 =>
    show c ∈ l.mid ++ x :: r.mid ↔ c ∈ x :: (l.pre ++ r.pre)
    rw [List.mem_append, List.mem_cons, List.mem_cons, List.mem_append, h1, h2]
    constructor
    · rintro (h | h | h)
      · exact .inr (.inl h)
      · exact .inl h
      · exact .inr (.inr h)
    · rintro (h | h | h)
      · exact .inr (.inl h)
      · exact .inl h
      · exact .inr (.inr h)
/-- the tree t lies at v -/
inductive BAt (H : Hp) : V → B → Prop
  | nil : BAt H .non .nil
  | node {a : Addr} {l r : V} {x : Nat} {tl tr : B} : H a = some (.tup [l, .str (ch x), r]) → BAt H l tl → BAt H r tr → BAt H (.ref a) (.node tl x tr)
/-- tuples stand still -/
def KeepT (H H' : Hp) : Prop := ∀ b xs, H b = some (.tup xs) → H' b = some (.tup xs)
theorem KeepT.refl (H : Hp) : KeepT H H := fun _ _ h => h
theorem KeepT.trans {H H1 H2 : Hp} (a : KeepT H H1) (b : KeepT H1 H2) : KeepT H H2 := fun c xs h => b c xs (a c xs h)
theorem Same.keepT {H H' : Hp} (h : Same H H') : KeepT H H' := fun b xs e => h b _ e
theorem BAt.keep {H H' : Hp} (k : KeepT H H') {v : V} {t : B} (h : BAt H v t) : BAt H' v t := by
  induction h with
  | nil => exact .nil
  | node e _ _ h1 h2 => exact .node (k _ _ e) h1 h2
theorem BAt.same {H H' : Hp} (k : Same H H') {v : V} {t : B} (h : BAt H v t) : BAt H' v t := h.keep (Tw.Same.keepT k)
theorem BAt.dp {K : PySem.W.Frag} {H : Hp} {v : V} {t : B} (h : BAt H v t) : Dp K H v t.data := by
  induction h with
  | nil => exact .non
  | node e _ _ h1 h2 => exact .tup (SqT.of e) (.cons h1 (.cons (.str _) (.cons h2 .nil)))
theorem BAt.inv {H : Hp} {v : V} {t : B} (h : BAt H v t) : (v = .non ∧ t = .nil) ∨ ∃ a l r x tl tr, v = .ref a ∧ t = .node tl x tr ∧ H a = some (.tup [l, .str (ch x), r]) ∧ BAt H l tl ∧ BAt H r tr := by
  cases h with
  | nil => exact .inl ⟨rfl, rfl⟩
  | node e h1 h2 => exact .inr ⟨_, _, _, _, _, _, rfl, rfl, e, h1, h2⟩
theorem same_new {H : Hp} {p : Addr} (h : H p = none) (o : HO) : Same H (upd H p o) := fun b u q => by rw [upd_ne (ne_of_none q h)]; exact q
theorem small {n : Nat} (h : n ≤ 1000) : n ≤ sizeLine := Nat.le_of_lt (small1000 h)
theorem at_map {α : Type} {f : α → V} {ns : List α} {i : Int} {v : α} (h0 : 0 ≤ i) (h : ns[i.toNat]? = some v) : atI (ns.map f) i = some (f v) := by
  have e : i = ((i.toNat : Nat) : Int) := by omega
  rw [e]
  exact atI_nat (by rw [List.getElem?_map, h]; rfl)
theorem ixN_nat {n : Nat} {i : Int} (h0 : 0 ≤ i) (h : i < n) : ixN n i = some i.toNat := by
  unfold ixN
  first
    | rw [if_pos h0, if_pos h]
    | (rw [if_pos h0]; rw [if_pos (by omega)])
    | simp [h0, h]
theorem cut_to (xs : List V) (k : Nat) : cutV xs none (some (k : Int)) = xs.take k := by
  unfold cutV
  rw [HT.sIx_nat, HT.sIx_none, List.drop_zero, Nat.sub_zero]
  rw [Nat.min_def]
  split
  · rfl
  · rw [List.take_of_length_le (Nat.le_refl _), List.take_of_length_le (by omega)]
theorem cut_from (xs : List V) (k : Nat) : cutV xs (some (k : Int)) none = xs.drop k := by
  unfold cutV
  rw [HT.sIx_nat, HT.sIx_none]
  by_cases h : k ≤ xs.length
  · rw [Nat.min_eq_left h, List.take_of_length_le (by rw [List.length_drop]; omega)]
  · rw [Nat.min_eq_right (by omega), List.drop_eq_nil_of_le (Nat.le_refl _), List.drop_eq_nil_of_le (by omega), List.take_nil]
theorem kept {σ : L2.St} {H : Hp} {A B : Hp → Prop} (h : A H) : tYes σ H (fun b H3 => if b = true then A H3 else B H3) := by
  show if true = true then A H else B H
  exact iteT h
theorem erase_map {α β : Type} (f : α → β) : ∀ (l : List α) (i : Nat), (l.map f).eraseIdx i = (l.eraseIdx i).map f
  | [], _ => rfl
  | _ :: _, 0 => rfl
  | x :: l, i + 1 => congrArg (f x :: ·) (erase_map f l i)
/-- a def that stands at a name, with its promise -/
structure Df (P : Program) (w : World) (K : PySem.W.Frag) (mg : Str → Option Value) (base : Heap) (k : Nat) (nm : Str) (ps : List Str) (sp : Sp) where
  f : Addr
  fd : FuncData
  ok : FnOk P w K mg base CX0 k f fd ps sp
  b : Binds K fd ps []
  kp : PySem.W.keepIn K (.ref f) = true
  g : mg nm = some (.ref f)
structure Mgs (mg : Str → Option Value) : Prop where
  zip : mg "zip" = none
  all : mg "all" = none
  repr : mg "repr" = none
  len : mg "len" = none
  isinstance : mg "isinstance" = none
  list : mg "list" = none
  tuple : mg "tuple" = none
  str : mg "str" = none
  int : mg "int" = none
  bool : mg "bool" = none
  dict : mg "dict" = none
  range : mg "range" = none
  sorted : mg "sorted" = none
  abs : mg "abs" = none
  min : mg "min" = none
  max : mg "max" = none
theorem vals_signs : ∀ (l : List Nat) (vs : List Value), vs.length = l.length → (∀ (j : Nat) (v : Value), vs[j]? = some v → ∃ c u, l[j]? = some c ∧ v = .str ⟨#[c]⟩ u) → Vals (l.map fun c => V.str ⟨#[c]⟩) vs
  | [], [], _, _ => .nil
  | [], _ :: _, h, _ => by simp at h
  | _ :: _, [], h, _ => by simp at h
  | c :: l, v :: vs, h, k => by
    obtain ⟨c', u, e, rfl⟩ := k 0 v rfl
    cases e
    exact .cons ⟨u, rfl⟩ (vals_signs l vs (by simpa using h) fun j v e => k (j + 1) v e)
theorem call_signs {X : Cx} (hc : X.calm = true) : CallR X (.type "list") (fun xs H Q => ∃ x : Str, xs = [.str x] ∧ x.cps.size ≤ 1000 ∧ ∀ p, H p = none → Q (.ref p) (upd H p (.lst (x.cps.toList.map fun c => V.str ⟨#[c]⟩)))) := by
  intro pins s σ H xs us Q I r h
  obtain ⟨x, rfl, hz, q⟩ := h
  obtain ⟨u, rfl, t, rfl⟩ := vals1 r
  have hz' : x.cps.size ≤ sizeLine := small hz
  refine call_list_str (I.ok.hd hc) x t (fun h' tk acc' c' hk hS hacc => ?_) hz'
  have hv : Vals (x.cps.toList.map fun c => V.str ⟨#[c]⟩) acc'.toList := vals_signs _ _ (by rw [Array.length_toList, Array.length_toList]; exact hacc.1) fun j v e => by
    obtain ⟨c, u, h1, h2⟩ := hacc.2 j v (by rw [← Array.getElem?_toList]; exact e)
    exact ⟨c, u, by rw [Array.getElem?_toList]; exact h1, h2⟩
  exact ⟨.ref s.heap.objs.size, _, I.laid (t' := tk) hk (Nat.le_refl _) (show ObjOk X.prog X.w _ h' _ (.lst _) from ⟨by rw [List.length_map, Array.length_toList]; exact hz', acc'.toList, c', hv, by rw [Array.toArray_toList]; exact hS⟩), rfl, q _ (I.hok.fresh (Nat.le_refl _))⟩
/-- for c in text -/
theorem for_text {x : Str} {g : TG} {tb : TS} {D : Ends} {σ : L2.St} {H : Hp} (Pv : Nat → L2.St → Hp → Prop) (h0 : Pv 0 σ H)
    (hs : ∀ i c σ H, x.cps.toList[i]? = some c → Pv i σ H → g (.str ⟨#[c]⟩) σ H fun σ2 H2 => tb { D with nx := Pv (i + 1), ct := Pv (i + 1), bk := D.nx } σ2 H2)
    (hd : ∀ σ H, Pv x.cps.toList.length σ H → D.nx σ H) :
    ∃ W : Nat → Nat → L2.St → Hp → Prop, (∃ m, W 0 m σ H) ∧ ∀ i m σ H, W i m σ H →
      ((Its x).stop i H ∧ D.nx σ H) ∨ ((Its x).go i H ∧ ∃ N : L2.St → Hp → Prop, (∀ σ' H', N σ' H' → ∃ m', m' < m ∧ W (i + 1) m' σ' H') ∧ ∀ v H', (Its x).yld i H v H' → g v σ H' fun σ2 H2 => tb { D with nx := N, ct := N, bk := D.nx } σ2 H2) := by
  refine for_it walk_str Pv h0 (fun _ _ _ _ _ => trivial) (fun i v σ H H' hi hp hy => ?_) (fun σ H hp => hd σ H (by rw [Array.length_toList]; exact hp))
  obtain ⟨rfl, c, hc, rfl⟩ := hy
  exact hs i c σ H' (by rw [Array.getElem?_toList]; exact hc) hp
theorem lc_text {x : Str} {g : TG} {tt : TT} {te : TE} {vs : List Nat} {σ : L2.St} {H1 : Hp} {D : Addr} {Qd : Hp → Prop} (Pv : Nat → Hp → Prop) (h0 : Pv 0 (upd H1 D (.lst [])))
    (hs : ∀ i c H, x.cps.toList[i]? = some c → Pv i H → g (.str ⟨#[c]⟩) (wipe σ vs) H fun σ2 H2 => wipe σ2 vs = wipe σ vs ∧ tt σ2 H2 fun b H3 =>
      if b = true then te σ2 H3 fun y H4 => ∃ acc, H4 D = some (.lst acc) ∧ acc.length < sizeLine ∧ Pv (i + 1) (upd H4 D (.lst (acc ++ [y]))) else Pv (i + 1) H3) (hd : ∀ H, Pv x.cps.toList.length H → Qd H) :
    ∃ W : Nat → Nat → Hp → Prop, (∃ m, W 0 m (upd H1 D (.lst []))) ∧ ∀ i m H, W i m H →
      ((Its x).stop i H ∧ Qd H) ∨ ((Its x).go i H ∧ ∃ Nx : Hp → Prop, (∀ H', Nx H' → ∃ m', m' < m ∧ W (i + 1) m' H') ∧ ∀ v H', (Its x).yld i H v H' → g v (wipe σ vs) H' fun σ2 H2 => wipe σ2 vs = wipe σ vs ∧ tt σ2 H2 fun b H3 =>
        if b = true then te σ2 H3 fun y H4 => ∃ acc, H4 D = some (.lst acc) ∧ acc.length < sizeLine ∧ Nx (upd H4 D (.lst (acc ++ [y]))) else Nx H3) := by
  refine lc_it walk_str Pv h0 (fun _ _ _ _ => trivial) (fun i v H H' hi hp hy => ?_) (fun H hp => hd H (by rw [Array.length_toList]; exact hp))
  obtain ⟨rfl, c, hc, rfl⟩ := hy
  exact hs i c H' (by rw [Array.getElem?_toList]; exact hc) hp
/-! ### the text by places -/
def top (i : Nat) : Stmt := PySem.Challenge.pw_treewalks_k68_whole_desks_and_functions.main.body.getD i (.Pass ⟨0, 0, 0, 0⟩)
abbrev s__wall : Stmt := top 0
abbrev s_is_letter : Stmt := top 23
abbrev s_is_whole_number : Stmt := top 24
abbrev s_is_index : Stmt := top 25
abbrev s_is_ascending : Stmt := top 26
abbrev s_is_node : Stmt := top 28
abbrev s_is_tree : Stmt := top 29
abbrev s_size_of : Stmt := top 30
abbrev s_part_at : Stmt := top 31
abbrev s_is_open : Stmt := top 32
abbrev s_replaced : Stmt := top 33
abbrev s_with_part : Stmt := top 34
abbrev s_mirrored : Stmt := top 35
abbrev s_each_node : Stmt := top 36
abbrev s_node_at : Stmt := top 38
abbrev s_with_node : Stmt := top 39
abbrev s_without_node : Stmt := top 40
abbrev s_with_label : Stmt := top 41
abbrev s_turned : Stmt := top 42
abbrev s_has_form_of_edit : Stmt := top 45
abbrev s_edited : Stmt := top 46
abbrev s_is_kind : Stmt := top 49
abbrev s_ordered_steps : Stmt := top 50
abbrev s_deep_steps : Stmt := top 51
abbrev s_level_steps : Stmt := top 52
abbrev s_walk : Stmt := top 53
abbrev s_walks : Stmt := top 54
abbrev s_is_search_tree : Stmt := top 56
abbrev s_parse_tree : Stmt := top 58
abbrev s_sign_at : Stmt := top 59
abbrev s_read_tree : Stmt := top 60
abbrev s_read_left : Stmt := top 61
abbrev s_read_side : Stmt := top 62
abbrev s_is_row : Stmt := top 67
abbrev s_three_rows : Stmt := top 68
abbrev s_tree_fits : Stmt := top 69
abbrev s_fits : Stmt := top 70
abbrev s__law_stream : Stmt := top 72
abbrev s__law_take : Stmt := top 73
abbrev s__law_equal : Stmt := top 74
abbrev s__law_letter : Stmt := top 75
abbrev s__law_paths : Stmt := top 76
abbrev s__law_part : Stmt := top 77
abbrev s__law_grafted : Stmt := top 78
abbrev s__law_swapped : Stmt := top 79
abbrev s__law_spot : Stmt := top 80
abbrev s__law_sorted_tree : Stmt := top 81
abbrev s__law_tree : Stmt := top 82
abbrev s__law_is_letter : Stmt := top 83
abbrev s__law_due_put : Stmt := top 84
abbrev s__law_due : Stmt := top 85
abbrev s__law_do : Stmt := top 86
abbrev s__law_some_edit : Stmt := top 87
abbrev s__law_valid_edit : Stmt := top 88
abbrev s__law_seen : Stmt := top 89
abbrev s__law_tree_right : Stmt := top 90
abbrev s__law_edit_right : Stmt := top 91
abbrev s_law : Stmt := top 92
abbrev s_TooLarge___init__ : Stmt := inClass (top 5) 0
abbrev s_BadRow___init__ : Stmt := inClass (top 7) 0
abbrev s_NotAlike___init__ : Stmt := inClass (top 8) 0
abbrev s_NotOpen___init__ : Stmt := inClass (top 10) 0
abbrev s_NoLabel___init__ : Stmt := inClass (top 11) 0
abbrev s_BadEdit___init__ : Stmt := inClass (top 15) 0
abbrev s_Rejected___init__ : Stmt := inClass (top 16) 0
abbrev s_BadText___init__ : Stmt := inClass (top 18) 0
abbrev s_NoPath___init__ : Stmt := inClass (top 19) 0
abbrev s_NoKind___init__ : Stmt := inClass (top 20) 0
abbrev s_NoVersion___init__ : Stmt := inClass (top 21) 0
abbrev s_Desk___init__ : Stmt := inClass (top 64) 2
abbrev s_Desk_read : Stmt := inClass (top 64) 3
abbrev s_Desk_is_edit : Stmt := inClass (top 64) 4
abbrev s_Desk_put : Stmt := inClass (top 64) 5
abbrev s_Desk_cut : Stmt := inClass (top 64) 6
abbrev s_Desk_label : Stmt := inClass (top 64) 7
abbrev s_Desk_turn : Stmt := inClass (top 64) 8
abbrev s_Desk_undo : Stmt := inClass (top 64) 9
abbrev s_Desk_run : Stmt := inClass (top 64) 10
abbrev s_Desk_version : Stmt := inClass (top 64) 11
abbrev s_Desk_size : Stmt := inClass (top 64) 12
abbrev s_Desk_first : Stmt := inClass (top 64) 13
abbrev s_Desk_between : Stmt := inClass (top 64) 14
abbrev s_Desk_last : Stmt := inClass (top 64) 15
abbrev s_Desk_tree : Stmt := inClass (top 64) 16
abbrev s_Desk_edits : Stmt := inClass (top 64) 17
abbrev s_Desk_history : Stmt := inClass (top 64) 18
abbrev s_Desk___len__ : Stmt := inClass (top 64) 19
abbrev s_Desk___str__ : Stmt := inClass (top 64) 20
abbrev s_Desk___eq__ : Stmt := inClass (top 64) 21
abbrev s_Desk_check_free : Stmt := inClass (top 64) 22
abbrev s_Desk_check_tree : Stmt := inClass (top 64) 23
abbrev s_Desk_checked_batch : Stmt := inClass (top 64) 24
abbrev s_Desk_take : Stmt := inClass (top 64) 25
abbrev s_Desk_could_take : Stmt := inClass (top 64) 26
abbrev s_Desk_called : Stmt := inClass (top 64) 27
abbrev s_Desk_told : Stmt := inClass (top 64) 28
theorem sc__wall : FnScope ["k"] ["k"] (defScope s__wall) := ⟨rfl, rfl, rfl, by decide +kernel, rfl, by decide +kernel, by decide +kernel⟩
theorem sc_is_letter : FnScope ["value"] ["value"] (defScope s_is_letter) := ⟨rfl, rfl, rfl, by decide +kernel, rfl, by decide +kernel, by decide +kernel⟩
theorem sc_is_whole_number : FnScope ["value"] ["value"] (defScope s_is_whole_number) := ⟨rfl, rfl, rfl, by decide +kernel, rfl, by decide +kernel, by decide +kernel⟩
theorem sc_is_index : FnScope ["value", "many"] ["value", "many"] (defScope s_is_index) := ⟨rfl, rfl, rfl, by decide +kernel, rfl, by decide +kernel, by decide +kernel⟩
theorem sc_is_ascending : FnScope ["items", "one", "other"] ["items"] (defScope s_is_ascending) := ⟨rfl, rfl, rfl, by decide +kernel, rfl, by decide +kernel, by decide +kernel⟩
theorem sc_is_node : FnScope ["value"] ["value"] (defScope s_is_node) := ⟨rfl, rfl, rfl, by decide +kernel, rfl, by decide +kernel, by decide +kernel⟩
theorem sc_is_tree : FnScope ["value", "count", "waiting", "part", "side"] ["value"] (defScope s_is_tree) := ⟨rfl, rfl, rfl, by decide +kernel, rfl, by decide +kernel, by decide +kernel⟩
theorem sc_size_of : FnScope ["tree"] ["tree"] (defScope s_size_of) := ⟨rfl, rfl, rfl, by decide +kernel, rfl, by decide +kernel, by decide +kernel⟩
theorem sc_part_at : FnScope ["tree", "path", "part", "step"] ["tree", "path"] (defScope s_part_at) := ⟨rfl, rfl, rfl, by decide +kernel, rfl, by decide +kernel, by decide +kernel⟩
theorem sc_is_open : FnScope ["tree", "path"] ["tree", "path"] (defScope s_is_open) := ⟨rfl, rfl, rfl, by decide +kernel, rfl, by decide +kernel, by decide +kernel⟩
theorem sc_replaced : FnScope ["tree", "path", "part", "old"] ["tree", "path", "part"] (defScope s_replaced) := ⟨rfl, rfl, rfl, by decide +kernel, rfl, by decide +kernel, by decide +kernel⟩
theorem sc_with_part : FnScope ["tree", "path", "part", "left", "label", "right"] ["tree", "path", "part"] (defScope s_with_part) := ⟨rfl, rfl, rfl, by decide +kernel, rfl, by decide +kernel, by decide +kernel⟩
theorem sc_mirrored : FnScope ["tree", "left", "label", "right"] ["tree"] (defScope s_mirrored) := ⟨rfl, rfl, rfl, by decide +kernel, rfl, by decide +kernel, by decide +kernel⟩
theorem sc_node_at : FnScope ["tree", "path", "part"] ["tree", "path"] (defScope s_node_at) := ⟨rfl, rfl, rfl, by decide +kernel, rfl, by decide +kernel, by decide +kernel⟩
theorem sc_with_node : FnScope ["tree", "path", "label"] ["tree", "path", "label"] (defScope s_with_node) := ⟨rfl, rfl, rfl, by decide +kernel, rfl, by decide +kernel, by decide +kernel⟩
theorem sc_without_node : FnScope ["tree", "path"] ["tree", "path"] (defScope s_without_node) := ⟨rfl, rfl, rfl, by decide +kernel, rfl, by decide +kernel, by decide +kernel⟩
theorem sc_with_label : FnScope ["tree", "path", "label", "left", "old", "right"] ["tree", "path", "label"] (defScope s_with_label) := ⟨rfl, rfl, rfl, by decide +kernel, rfl, by decide +kernel, by decide +kernel⟩
theorem sc_turned : FnScope ["tree", "path"] ["tree", "path"] (defScope s_turned) := ⟨rfl, rfl, rfl, by decide +kernel, rfl, by decide +kernel, by decide +kernel⟩
theorem sc_has_form_of_edit : FnScope ["value"] ["value"] (defScope s_has_form_of_edit) := ⟨rfl, rfl, rfl, by decide +kernel, rfl, by decide +kernel, by decide +kernel⟩
theorem sc_edited : FnScope ["tree", "edit", "word", "rest", "action"] ["tree", "edit"] (defScope s_edited) := ⟨rfl, rfl, rfl, by decide +kernel, rfl, by decide +kernel, by decide +kernel⟩
theorem sc_is_kind : FnScope ["value"] ["value"] (defScope s_is_kind) := ⟨rfl, rfl, rfl, by decide +kernel, rfl, by decide +kernel, by decide +kernel⟩
theorem sc_ordered_steps : FnScope ["tree", "kind"] ["tree", "kind"] (defScope s_ordered_steps) := ⟨rfl, rfl, rfl, by decide +kernel, rfl, by decide +kernel, by decide +kernel⟩
theorem sc_deep_steps : FnScope ["tree", "kind", "path", "left", "label", "right", "root", "lefts", "rights"] ["tree", "kind", "path"] (defScope s_deep_steps) := ⟨rfl, rfl, rfl, by decide +kernel, rfl, by decide +kernel, by decide +kernel⟩
theorem sc_level_steps : FnScope ["tree"] ["tree"] (defScope s_level_steps) := ⟨rfl, rfl, rfl, by decide +kernel, rfl, by decide +kernel, by decide +kernel⟩
theorem sc_walk : FnScope ["tree", "kind", "path", "label"] ["tree", "kind"] (defScope s_walk) := ⟨rfl, rfl, rfl, by decide +kernel, rfl, by decide +kernel, by decide +kernel⟩
theorem sc_is_search_tree : FnScope ["tree"] ["tree"] (defScope s_is_search_tree) := ⟨rfl, rfl, rfl, by decide +kernel, rfl, by decide +kernel, by decide +kernel⟩
theorem sc_parse_tree : FnScope ["text", "tree", "behind"] ["text"] (defScope s_parse_tree) := ⟨rfl, rfl, rfl, by decide +kernel, rfl, by decide +kernel, by decide +kernel⟩
theorem sc_sign_at : FnScope ["text", "at"] ["text", "at"] (defScope s_sign_at) := ⟨rfl, rfl, rfl, by decide +kernel, rfl, by decide +kernel, by decide +kernel⟩
theorem sc_read_tree : FnScope ["text", "at", "room", "label", "left", "comma", "rest", "right", "end"] ["text", "at", "room"] (defScope s_read_tree) := ⟨rfl, rfl, rfl, by decide +kernel, rfl, by decide +kernel, by decide +kernel⟩
theorem sc_read_left : FnScope ["text", "at", "room", "left", "comma"] ["text", "at", "room"] (defScope s_read_left) := ⟨rfl, rfl, rfl, by decide +kernel, rfl, by decide +kernel, by decide +kernel⟩
theorem sc_read_side : FnScope ["text", "at", "room"] ["text", "at", "room"] (defScope s_read_side) := ⟨rfl, rfl, rfl, by decide +kernel, rfl, by decide +kernel, by decide +kernel⟩
theorem sc_is_row : FnScope ["value", "sign"] ["value"] (defScope s_is_row) := ⟨rfl, rfl, rfl, by decide +kernel, rfl, by decide +kernel, by decide +kernel⟩
theorem sc_three_rows : FnScope ["rows", "name", "names", "size", "kind"] ["rows"] (defScope s_three_rows) := ⟨rfl, rfl, rfl, by decide +kernel, rfl, by decide +kernel, by decide +kernel⟩
theorem sc_tree_fits : FnScope ["tree", "given", "told", "row", "text", "sign", "label"] ["tree", "given"] (defScope s_tree_fits) := ⟨rfl, rfl, rfl, by decide +kernel, rfl, by decide +kernel, by decide +kernel⟩
theorem sc__law_stream : FnScope ["_law_script", "_law_turn", "_law_cell", "_law_rest"] ["_law_script", "_law_turn"] (defScope s__law_stream) := ⟨rfl, rfl, rfl, by decide +kernel, rfl, by decide +kernel, by decide +kernel⟩
theorem sc__law_take : FnScope ["_law_stream_here", "_law_many", "_law_found", "_law_low", "_law_high", "_law_turn", "_law_mixed"] ["_law_stream_here", "_law_many"] (defScope s__law_take) := ⟨rfl, rfl, rfl, by decide +kernel, rfl, by decide +kernel, by decide +kernel⟩
theorem sc__law_equal : FnScope ["_law_one", "_law_other"] ["_law_one", "_law_other"] (defScope s__law_equal) := ⟨rfl, rfl, rfl, by decide +kernel, rfl, by decide +kernel, by decide +kernel⟩
theorem sc__law_letter : FnScope ["_law_stream_here"] ["_law_stream_here"] (defScope s__law_letter) := ⟨rfl, rfl, rfl, by decide +kernel, rfl, by decide +kernel, by decide +kernel⟩
theorem sc__law_paths : FnScope ["_law_tree_here", "_law_nodes", "_law_opens", "_law_waiting", "_law_path", "_law_part_here"] ["_law_tree_here"] (defScope s__law_paths) := ⟨rfl, rfl, rfl, by decide +kernel, rfl, by decide +kernel, by decide +kernel⟩
theorem sc__law_part : FnScope ["_law_tree_here", "_law_path", "_law_step"] ["_law_tree_here", "_law_path"] (defScope s__law_part) := ⟨rfl, rfl, rfl, by decide +kernel, rfl, by decide +kernel, by decide +kernel⟩
theorem sc__law_grafted : FnScope ["_law_tree_here", "_law_path", "_law_part_here"] ["_law_tree_here", "_law_path", "_law_part_here"] (defScope s__law_grafted) := ⟨rfl, rfl, rfl, by decide +kernel, rfl, by decide +kernel, by decide +kernel⟩
theorem sc__law_swapped : FnScope ["_law_tree_here"] ["_law_tree_here"] (defScope s__law_swapped) := ⟨rfl, rfl, rfl, by decide +kernel, rfl, by decide +kernel, by decide +kernel⟩
theorem sc__law_spot : FnScope ["_law_tree_here", "_law_letter_here", "_law_path"] ["_law_tree_here", "_law_letter_here"] (defScope s__law_spot) := ⟨rfl, rfl, rfl, by decide +kernel, rfl, by decide +kernel, by decide +kernel⟩
theorem sc__law_sorted_tree : FnScope ["_law_stream_here", "_law_size", "_law_tree_here", "_law_left", "_law_k", "_law_letter_here"] ["_law_stream_here", "_law_size"] (defScope s__law_sorted_tree) := ⟨rfl, rfl, rfl, by decide +kernel, rfl, by decide +kernel, by decide +kernel⟩
theorem sc__law_tree : FnScope ["_law_stream_here", "_law_top", "_law_size", "_law_way", "_law_tree_here", "_law_k", "_law_path", "_law_opens", "_law_spot_here"] ["_law_stream_here", "_law_top"] (defScope s__law_tree) := ⟨rfl, rfl, rfl, by decide +kernel, rfl, by decide +kernel, by decide +kernel⟩
theorem sc__law_is_letter : FnScope ["_law_value"] ["_law_value"] (defScope s__law_is_letter) := ⟨rfl, rfl, rfl, by decide +kernel, rfl, by decide +kernel, by decide +kernel⟩
theorem sc__law_due_put : FnScope ["_law_tree_here", "_law_edit", "_law_nodes", "_law_opens"] ["_law_tree_here", "_law_edit", "_law_nodes", "_law_opens"] (defScope s__law_due_put) := ⟨rfl, rfl, rfl, by decide +kernel, rfl, by decide +kernel, by decide +kernel⟩
theorem sc__law_due : FnScope ["_law_tree_here", "_law_edit", "_law_path", "_law_nodes", "_law_opens", "_law_part_here"] ["_law_tree_here", "_law_edit"] (defScope s__law_due) := ⟨rfl, rfl, rfl, by decide +kernel, rfl, by decide +kernel, by decide +kernel⟩
theorem sc__law_do : FnScope ["_law_desk", "_law_edit"] ["_law_desk", "_law_edit"] (defScope s__law_do) := ⟨rfl, rfl, rfl, by decide +kernel, rfl, by decide +kernel, by decide +kernel⟩
theorem sc__law_some_edit : FnScope ["_law_stream_here", "_law_tree_here", "_law_top", "_law_nodes", "_law_opens", "_law_way", "_law_path", "_law_letter_here"] ["_law_stream_here", "_law_tree_here", "_law_top"] (defScope s__law_some_edit) := ⟨rfl, rfl, rfl, by decide +kernel, rfl, by decide +kernel, by decide +kernel⟩
theorem sc__law_valid_edit : FnScope ["_law_stream_here", "_law_tree_here", "_law_top", "_law_again", "_law_edit"] ["_law_stream_here", "_law_tree_here", "_law_top"] (defScope s__law_valid_edit) := ⟨rfl, rfl, rfl, by decide +kernel, rfl, by decide +kernel, by decide +kernel⟩
theorem sc__law_seen : FnScope ["_law_desk", "_law_views"] ["_law_desk"] (defScope s__law_seen) := ⟨rfl, rfl, rfl, by decide +kernel, rfl, by decide +kernel, by decide +kernel⟩
theorem sc__law_tree_right : FnScope ["_law_desk", "_law_tree_here", "_law_told", "_law_path", "_law_letter_here", "_law_labels"] ["_law_desk"] (defScope s__law_tree_right) := ⟨rfl, rfl, rfl, by decide +kernel, rfl, by decide +kernel, by decide +kernel⟩
theorem sc__law_edit_right : FnScope ["_law_old", "_law_new", "_law_edit", "_law_found", "_law_one", "_law_other", "_law_again"] ["_law_old", "_law_new", "_law_edit"] (defScope s__law_edit_right) := ⟨rfl, rfl, rfl, by decide +kernel, rfl, by decide +kernel, by decide +kernel⟩
theorem sc_law : FnScope ["_law_script", "_law_turn", "_law_stream_here", "_law_desk", "_law_k", "_law_old", "_law_edit", "_law_found", "_law_seen_here"] ["_law_script"] (defScope s_law) := ⟨rfl, rfl, rfl, by decide +kernel, rfl, by decide +kernel, by decide +kernel⟩
theorem sc_TooLarge___init__ : FnScope ["self", "limit"] ["self", "limit"] (defScope s_TooLarge___init__) := ⟨rfl, rfl, rfl, by decide +kernel, rfl, by decide +kernel, by decide +kernel⟩
theorem sc_BadRow___init__ : FnScope ["self", "name"] ["self", "name"] (defScope s_BadRow___init__) := ⟨rfl, rfl, rfl, by decide +kernel, rfl, by decide +kernel, by decide +kernel⟩
theorem sc_NotAlike___init__ : FnScope ["self", "name"] ["self", "name"] (defScope s_NotAlike___init__) := ⟨rfl, rfl, rfl, by decide +kernel, rfl, by decide +kernel, by decide +kernel⟩
theorem sc_NotOpen___init__ : FnScope ["self", "path"] ["self", "path"] (defScope s_NotOpen___init__) := ⟨rfl, rfl, rfl, by decide +kernel, rfl, by decide +kernel, by decide +kernel⟩
theorem sc_NoLabel___init__ : FnScope ["self", "letter"] ["self", "letter"] (defScope s_NoLabel___init__) := ⟨rfl, rfl, rfl, by decide +kernel, rfl, by decide +kernel, by decide +kernel⟩
theorem sc_BadEdit___init__ : FnScope ["self", "index"] ["self", "index"] (defScope s_BadEdit___init__) := ⟨rfl, rfl, rfl, by decide +kernel, rfl, by decide +kernel, by decide +kernel⟩
theorem sc_Rejected___init__ : FnScope ["self", "index"] ["self", "index"] (defScope s_Rejected___init__) := ⟨rfl, rfl, rfl, by decide +kernel, rfl, by decide +kernel, by decide +kernel⟩
theorem sc_BadText___init__ : FnScope ["self", "index"] ["self", "index"] (defScope s_BadText___init__) := ⟨rfl, rfl, rfl, by decide +kernel, rfl, by decide +kernel, by decide +kernel⟩
theorem sc_NoPath___init__ : FnScope ["self", "value"] ["self", "value"] (defScope s_NoPath___init__) := ⟨rfl, rfl, rfl, by decide +kernel, rfl, by decide +kernel, by decide +kernel⟩
theorem sc_NoKind___init__ : FnScope ["self", "value"] ["self", "value"] (defScope s_NoKind___init__) := ⟨rfl, rfl, rfl, by decide +kernel, rfl, by decide +kernel, by decide +kernel⟩
theorem sc_NoVersion___init__ : FnScope ["self", "value"] ["self", "value"] (defScope s_NoVersion___init__) := ⟨rfl, rfl, rfl, by decide +kernel, rfl, by decide +kernel, by decide +kernel⟩
theorem sc_Desk___init__ : FnScope ["self", "tree"] ["self", "tree"] (defScope s_Desk___init__) := ⟨rfl, rfl, rfl, by decide +kernel, rfl, by decide +kernel, by decide +kernel⟩
theorem sc_Desk_read : FnScope ["cls", "text"] ["cls", "text"] (defScope s_Desk_read) := ⟨rfl, rfl, rfl, by decide +kernel, rfl, by decide +kernel, by decide +kernel⟩
theorem sc_Desk_is_edit : FnScope ["value"] ["value"] (defScope s_Desk_is_edit) := ⟨rfl, rfl, rfl, by decide +kernel, rfl, by decide +kernel, by decide +kernel⟩
theorem sc_Desk_put : FnScope ["self", "path", "label"] ["self", "path", "label"] (defScope s_Desk_put) := ⟨rfl, rfl, rfl, by decide +kernel, rfl, by decide +kernel, by decide +kernel⟩
theorem sc_Desk_cut : FnScope ["self", "path"] ["self", "path"] (defScope s_Desk_cut) := ⟨rfl, rfl, rfl, by decide +kernel, rfl, by decide +kernel, by decide +kernel⟩
theorem sc_Desk_label : FnScope ["self", "path", "label"] ["self", "path", "label"] (defScope s_Desk_label) := ⟨rfl, rfl, rfl, by decide +kernel, rfl, by decide +kernel, by decide +kernel⟩
theorem sc_Desk_turn : FnScope ["self", "path"] ["self", "path"] (defScope s_Desk_turn) := ⟨rfl, rfl, rfl, by decide +kernel, rfl, by decide +kernel, by decide +kernel⟩
theorem sc_Desk_undo : FnScope ["self"] ["self"] (defScope s_Desk_undo) := ⟨rfl, rfl, rfl, by decide +kernel, rfl, by decide +kernel, by decide +kernel⟩
theorem sc_Desk_version : FnScope ["self"] ["self"] (defScope s_Desk_version) := ⟨rfl, rfl, rfl, by decide +kernel, rfl, by decide +kernel, by decide +kernel⟩
theorem sc_Desk_size : FnScope ["self"] ["self"] (defScope s_Desk_size) := ⟨rfl, rfl, rfl, by decide +kernel, rfl, by decide +kernel, by decide +kernel⟩
theorem sc_Desk_first : FnScope ["self"] ["self"] (defScope s_Desk_first) := ⟨rfl, rfl, rfl, by decide +kernel, rfl, by decide +kernel, by decide +kernel⟩
theorem sc_Desk_between : FnScope ["self"] ["self"] (defScope s_Desk_between) := ⟨rfl, rfl, rfl, by decide +kernel, rfl, by decide +kernel, by decide +kernel⟩
theorem sc_Desk_last : FnScope ["self"] ["self"] (defScope s_Desk_last) := ⟨rfl, rfl, rfl, by decide +kernel, rfl, by decide +kernel, by decide +kernel⟩
theorem sc_Desk_edits : FnScope ["self"] ["self"] (defScope s_Desk_edits) := ⟨rfl, rfl, rfl, by decide +kernel, rfl, by decide +kernel, by decide +kernel⟩
theorem sc_Desk_history : FnScope ["self"] ["self"] (defScope s_Desk_history) := ⟨rfl, rfl, rfl, by decide +kernel, rfl, by decide +kernel, by decide +kernel⟩
theorem sc_Desk___len__ : FnScope ["self"] ["self"] (defScope s_Desk___len__) := ⟨rfl, rfl, rfl, by decide +kernel, rfl, by decide +kernel, by decide +kernel⟩
theorem sc_Desk___str__ : FnScope ["self"] ["self"] (defScope s_Desk___str__) := ⟨rfl, rfl, rfl, by decide +kernel, rfl, by decide +kernel, by decide +kernel⟩
theorem sc_Desk___eq__ : FnScope ["self", "other"] ["self", "other"] (defScope s_Desk___eq__) := ⟨rfl, rfl, rfl, by decide +kernel, rfl, by decide +kernel, by decide +kernel⟩
theorem sc_Desk_check_free : FnScope ["self"] ["self"] (defScope s_Desk_check_free) := ⟨rfl, rfl, rfl, by decide +kernel, rfl, by decide +kernel, by decide +kernel⟩
theorem sc_Desk_check_tree : FnScope ["self", "tree"] ["self", "tree"] (defScope s_Desk_check_tree) := ⟨rfl, rfl, rfl, by decide +kernel, rfl, by decide +kernel, by decide +kernel⟩
theorem sc_Desk_checked_batch : FnScope ["self", "edits", "index", "edit"] ["self", "edits"] (defScope s_Desk_checked_batch) := ⟨rfl, rfl, rfl, by decide +kernel, rfl, by decide +kernel, by decide +kernel⟩
theorem sc_Desk_take : FnScope ["self", "edit", "tree"] ["self", "edit"] (defScope s_Desk_take) := ⟨rfl, rfl, rfl, by decide +kernel, rfl, by decide +kernel, by decide +kernel⟩
theorem sc_Desk_could_take : FnScope ["self", "edit"] ["self", "edit"] (defScope s_Desk_could_take) := ⟨rfl, rfl, rfl, by decide +kernel, rfl, by decide +kernel, by decide +kernel⟩
theorem sc_Desk_called : FnScope ["self", "edit"] ["self", "edit"] (defScope s_Desk_called) := ⟨rfl, rfl, rfl, by decide +kernel, rfl, by decide +kernel, by decide +kernel⟩
theorem sc_Desk_told : FnScope ["self", "name"] ["self", "name"] (defScope s_Desk_told) := ⟨rfl, rfl, rfl, by decide +kernel, rfl, by decide +kernel, by decide +kernel⟩
/-! ### the head by one run: facts of a part of the heap, told by names -/
namespace Hx
/-- a part of the heap -/
def fr (N : Nat) (g : Addr → Option Obj) : PySem.W.Frag := He.frG g (List.range N)
/-- a function without what its making adds: defaults, texts, code object -/
def bare (fd : FuncData) : FuncData := { fd with defaults := .none, kwdefaults := .none, doc := .none, pyModule := .none, annotations := none, code := .none, closureTuple := .none }
theorem bare_inj {a b : FuncData} (h : bare a = bare b) : a = { b with defaults := a.defaults, kwdefaults := a.kwdefaults, doc := a.doc, pyModule := a.pyModule, annotations := a.annotations, code := a.code, closureTuple := a.closureTuple } := by
  cases a
  cases b
  simp only [bare, FuncData.mk.injEq, true_and, and_true] at h ⊢
  exact h
abbrev FnT : Type := Option FuncData
/-- the function of an object -/
def funOf (o : Obj) : FnT := match o.data with
  | .func fd => some fd
  | _ => none
theorem funOf_some {o : Obj} {fd : FuncData} (h : funOf o = some fd) : o = ⟨o.cls, o.dict, .func fd, o.slots⟩ := by
  obtain ⟨c, d, dt, sl⟩ := o
  unfold funOf at h
  cases dt <;> simp_all
def fnAt (K : PySem.W.Frag) (a : Addr) : FnT := (K.lookup a).bind funOf
def fnT (K : PySem.W.Frag) (a : Addr) : FnT := (fnAt K a).map bare
/-- one def: where it stands, its row, what holds of its defaults -/
structure Fd where
  at_ : PySem.W.Frag → Addr
  name : Str
  qual : Str
  st : Stmt
  dB : PySem.W.Frag → Value → Value → Bool
def Fd.val (d : Fd) : FnT := some (bare (PySem.W.fnOf d.name d.qual (defArgs d.st) (defBody d.st) (defScope d.st) .none .none .none .none none .none .none))
def Fd.ok (K : PySem.W.Frag) (d : Fd) : Bool := (fnAt K (d.at_ K)).any fun fd => PySem.W.keepIn K (.ref (d.at_ K)) && (PySem.W.codeIn K fd.code d.qual && d.dB K fd.defaults fd.kwdefaults)
theorem Fd.tells {K : PySem.W.Frag} {d : Fd} (e : fnT K (d.at_ K) = d.val) (c : d.ok K = true) :
    ∃ oc od dV kV doc pm an cdv ct sl, K.lookup (d.at_ K) = some ⟨oc, od, .func (PySem.W.fnOf d.name d.qual (defArgs d.st) (defBody d.st) (defScope d.st) dV kV doc pm an cdv ct), sl⟩ ∧ PySem.W.codeIn K cdv d.qual = true ∧ PySem.W.keepIn K (.ref (d.at_ K)) = true ∧ d.dB K dV kV = true := by
  obtain ⟨fd, hf⟩ : ∃ fd, fnAt K (d.at_ K) = some fd := Option.isSome_iff_exists.mp (by unfold Fd.ok at c; cases h : fnAt K (d.at_ K) with | none => rw [h] at c; cases c | some _ => rfl)
  unfold Fd.ok at c
  rw [hf] at c
  have c : (PySem.W.keepIn K (.ref (d.at_ K)) && (PySem.W.codeIn K fd.code d.qual && d.dB K fd.defaults fd.kwdefaults)) = true := c
  obtain ⟨kp, c⟩ := He.ba c
  obtain ⟨cd, db⟩ := He.ba c
  obtain ⟨o, hl, ho⟩ := Option.bind_eq_some_iff.mp hf
  have eb : bare fd = bare (PySem.W.fnOf d.name d.qual (defArgs d.st) (defBody d.st) (defScope d.st) .none .none .none .none none .none .none) := by
    unfold fnT at e
    rw [hf] at e
    exact Option.some.inj e
  have ef := bare_inj eb
  rw [funOf_some ho, ef] at hl
  exact ⟨_, _, _, _, _, _, _, _, _, _, hl, cd, kp, db⟩
/-! defaults -/
def dNone (_ : PySem.W.Frag) (dV _ : Value) : Bool := match dV with
  | .none => true
  | _ => false
theorem dNone_ok {K : PySem.W.Frag} {dV kV : Value} (h : dNone K dV kV = true) : dV = .none := by
  cases dV <;> first | rfl | cases h
def dInt (i : Int) (K : PySem.W.Frag) (dV _ : Value) : Bool := match dV with
  | .ref T => (match K.lookup T with
    | some ⟨.type c, _, .seq its _, _⟩ => decide (c = "tuple") && (match its.toList with
      | [.int j _] => decide (j = i)
      | _ => false)
    | _ => false)
  | _ => false
theorem dInt_ok {i : Int} {K : PySem.W.Frag} {dV kV : Value} (h : dInt i K dV kV = true) : ∃ T o t n s, dV = .ref T ∧ K.lookup T = some ⟨.type "tuple", o, .seq #[.int i t] n, s⟩ := by
  cases dV with
  | ref T =>
    have h : (match K.lookup T with
      | some ⟨.type c, _, .seq its _, _⟩ => decide (c = "tuple") && (match its.toList with
        | [.int j _] => decide (j = i)
        | _ => false)
      | _ => false) = true := h
    cases q : K.lookup T with
    | none => rw [q] at h; cases h
    | some o =>
      obtain ⟨oc, od, dt, sl⟩ := o
      rw [q] at h
      cases oc with
      | type c =>
        cases dt with
        | seq its n =>
          obtain ⟨h1, h2⟩ := He.ba h
          have e1 : c = "tuple" := of_decide_eq_true h1
          subst e1
          obtain ⟨l⟩ := its
          cases l with
          | nil => cases h2
          | cons x r =>
            cases r with
            | cons _ _ => cases x <;> cases h2
            | nil =>
              cases x with
              | int j t =>
                have e2 : j = i := of_decide_eq_true h2
                subst e2
                exact ⟨T, od, t, n, sl, rfl, q⟩
              | _ => cases h2
        | _ => cases h
      | _ => cases dt <;> cases h
  | _ => cases h
/-- no default, and one of those behind the star, which is None -/
def dKw (x : Str) (K : PySem.W.Frag) (dV kV : Value) : Bool := dNone K dV kV && (match kV with
  | .ref D => decide (PySem.W.nsIn K D x = some (some .none))
  | _ => false)
theorem dKw_ok {x : Str} {K : PySem.W.Frag} {dV kV : Value} (h : dKw x K dV kV = true) : dV = .none ∧ ∃ D, kV = .ref D ∧ PySem.W.nsIn K D x = some (some .none) := by
  obtain ⟨h1, h2⟩ := He.ba h
  refine ⟨dNone_ok h1, ?_⟩
  cases kV with
  | ref D => exact ⟨D, rfl, of_decide_eq_true h2⟩
  | _ => cases h2
/-! values by names -/
def intB (r : Option (Option Value)) (i : Int) : Bool := match r with
  | some (some (.int j _)) => decide (j = i)
  | _ => false
theorem intB_ok {r : Option (Option Value)} {i : Int} (h : intB r i = true) : ∃ t, r = some (some (.int i t)) := by
  unfold intB at h
  split at h
  · next j t => exact ⟨t, by rw [of_decide_eq_true h]⟩
  · cases h
def mostB (K : PySem.W.Frag) (C : Addr) : Bool := match PySem.W.findIn K (.ref C) "MOST_EDITS" with
  | some (some (.int j t)) => decide (j = 60) && decide (PySem.W.specialIn K (.int 60 t) "__get__" = some none)
  | _ => false
theorem mostB_ok {K : PySem.W.Frag} {C : Addr} (h : mostB K C = true) : ∃ t, PySem.W.findIn K (.ref C) "MOST_EDITS" = some (some (.int 60 t)) ∧ PySem.W.specialIn K (.int 60 t) "__get__" = some none := by
  unfold mostB at h
  split at h
  · next j t e =>
    obtain ⟨h1, h2⟩ := He.ba h
    have e1 : j = 60 := of_decide_eq_true h1
    subst e1
    exact ⟨t, e, of_decide_eq_true h2⟩
  · cases h
def dictB (K : PySem.W.Frag) (a : Addr) : Bool := match K.lookup a with
  | some ⟨.type c, none, .dict _ _, sl⟩ => decide (c = "dict") && decide (sl.size = 0)
  | _ => false
def keyT : Value → Option Str
  | .str x _ => some x
  | _ => none
def keysT (K : PySem.W.Frag) (a : Addr) : List (Option Str × Int) := match K.lookup a with
  | some ⟨_, _, .dict es _, _⟩ => es.toList.map fun e => (keyT e.key, e.hash)
  | _ => []
def keysV (P : PySem.Params) (xs : List Str) : List (Option Str × Int) := xs.map fun x => (some x, PyData.keyHash P x)
theorem keys_lit {P : PySem.Params} : ∀ (es : List DictEntry) (xs : List Str), (es.map fun e => (keyT e.key, e.hash)) = keysV P xs → PySem.W.KeysLit P es
  | [], [], _ => trivial
  | [], _ :: _, h => nomatch h
  | _ :: _, [], h => nomatch h
  | ⟨hs, k, v⟩ :: es, x :: xs, h => by
    have h : (keyT k, hs) :: (es.map fun e => (keyT e.key, e.hash)) = (some x, PyData.keyHash P x) :: keysV P xs := h
    obtain ⟨h1, h2⟩ := List.cons.inj h
    obtain ⟨h3, h4⟩ := Prod.mk.inj h1
    refine ⟨?_, keys_lit es xs h2⟩
    cases k with
    | str y t => exact ⟨x, t, by rw [show y = x from Option.some.inj h3], h4⟩
    | _ => cases h3
theorem dictB_ok {K : PySem.W.Frag} {a : Addr} {P : PySem.Params} {xs : List Str} (h : dictB K a = true) (k : keysT K a = keysV P xs) : ∃ es n, K.lookup a = some ⟨.type "dict", none, .dict es n, #[]⟩ ∧ PySem.W.KeysLit P es.toList := by
  unfold dictB at h
  unfold keysT at k
  cases q : K.lookup a with
  | none => rw [q] at h; cases h
  | some o =>
    obtain ⟨oc, od, dt, sl⟩ := o
    rw [q] at h k
    cases oc with
    | type c =>
      cases od with
      | none =>
        cases dt with
        | dict es n =>
          obtain ⟨h1, h2⟩ := He.ba h
          have e1 : c = "dict" := of_decide_eq_true h1
          subst e1
          have e2 : sl = #[] := Array.eq_empty_of_size_eq_zero (of_decide_eq_true h2)
          subst e2
          exact ⟨es, n, rfl, keys_lit _ _ k⟩
        | _ => cases h
      | some _ => cases dt <;> cases h
    | _ => cases od <;> cases dt <;> cases h
def strsB : List Value → List Str → Bool
  | [], [] => true
  | .str y _ :: vs, x :: xs => decide (y = x) && strsB vs xs
  | _, _ => false
def tupsB (K : PySem.W.Frag) (a : Addr) (xs : List Str) : Bool := match K.lookup a with
  | some ⟨.type c, _, .seq its _, _⟩ => decide (c = "tuple") && strsB its.toList xs
  | _ => false
theorem strsB_ok : ∀ {vs : List Value} {xs : List Str}, strsB vs xs = true → ∃ ts : List Tok, ts.length = xs.length ∧ vs = (xs.zip ts).map fun p => .str p.1 p.2
  | [], [], _ => ⟨[], rfl, rfl⟩
  | [], _ :: _, h => by cases h
  | v :: vs, [], h => by cases v <;> cases h
  | v :: vs, x :: xs, h => by
    cases v with
    | str y t =>
      obtain ⟨h1, h2⟩ := He.ba (show (decide (y = x) && strsB vs xs) = true from h)
      obtain ⟨ts, e1, e2⟩ := strsB_ok h2
      have e3 : y = x := of_decide_eq_true h1
      exact ⟨t :: ts, by rw [List.length_cons, List.length_cons, e1], by rw [e2, e3]; rfl⟩
    | _ => cases h
theorem tupsB_ok {K : PySem.W.Frag} {a : Addr} {xs : List Str} (h : tupsB K a xs = true) : ∃ (ts : List Tok) (o : Option Addr) (n : Nat) (s : Array (Option Value)), ts.length = xs.length ∧ K.lookup a = some ⟨.type "tuple", o, .seq ((xs.zip ts).map fun p => Value.str p.1 p.2).toArray n, s⟩ := by
  unfold tupsB at h
  cases q : K.lookup a with
  | none => rw [q] at h; cases h
  | some o =>
    obtain ⟨oc, od, dt, sl⟩ := o
    rw [q] at h
    cases oc with
    | type c =>
      cases dt with
      | seq its n =>
        obtain ⟨h1, h2⟩ := He.ba h
        have e1 : c = "tuple" := of_decide_eq_true h1
        subst e1
        obtain ⟨ts, e2, e3⟩ := strsB_ok h2
        obtain ⟨l⟩ := its
        have e3 : l = (xs.zip ts).map fun p => Value.str p.1 p.2 := e3
        exact ⟨ts, od, n, sl, e2, by rw [e3]⟩
      | _ => cases h
    | _ => cases dt <;> cases h
def gp (K : PySem.W.Frag) (p : Addr) : Addr := match PySem.W.recIn K p "property" with
  | some (.ref g :: _) => g
  | _ => 0
def gpB (K : PySem.W.Frag) (p : Addr) : Bool := match PySem.W.recIn K p "property" with
  | some (.ref _ :: _) => true
  | _ => false
theorem gpB_ok {K : PySem.W.Frag} {p : Addr} (h : gpB K p = true) : ∃ rs, PySem.W.recIn K p "property" = some (.ref (gp K p) :: rs) := by
  unfold gpB at h
  unfold gp
  split at h
  · next g rs e => rw [e]; exact ⟨rs, rfl⟩
  · cases h
/-! the Hook -/
abbrev Al : Type := Bool × List FnT × List (Option Str × Int)
def look (cs : PySem.W.Frag → List Bool) (fs : List Fd) (d : PySem.W.Frag → Addr) (K : PySem.W.Frag) : Al := ((cs K).all id && fs.all fun f => f.ok K, fs.map fun f => fnT K (f.at_ K), keysT K (d K))
def hook (N : Nat) (cs : PySem.W.Frag → List Bool) (fs : List Fd) (d : PySem.W.Frag → Addr) (xs : List Str) : PySem.W.Hook where
  α := Al
  obs := fun s => look cs fs d (fr N s.heap.get?)
  val := fun w => (true, fs.map Fd.val, keysV w.params xs)
  says := fun w h => ∃ K : PySem.W.Frag, K.In h ∧ look cs fs d K = (true, fs.map Fd.val, keysV w.params xs)
  of := fun _ _ e => ⟨_, He.frG_in, e⟩
  keeps := fun _ _ _ ⟨K, hK, c⟩ k => ⟨K, PySem.W.Frag.In.keeps hK k, c⟩
theorem ob_eq {N : Nat} {cs : PySem.W.Frag → List Bool} {fs : List Fd} {d : PySem.W.Frag → Addr} {xs : List Str} {g : Addr → Option Obj} {s : Shared} (h : ∀ a, g a = s.heap.get? a) : look cs fs d (fr N g) = (hook N cs fs d xs).obs s := by
  have e : g = s.heap.get? := funext h
  rw [e] <;> rfl
section
variable {cs : PySem.W.Frag → List Bool} {fs : List Fd} {d : PySem.W.Frag → Addr} {K : PySem.W.Frag} {P : PySem.Params} {xs : List Str}
theorem fact (c : look cs fs d K = (true, fs.map Fd.val, keysV P xs)) (i : Nat) {b : Bool} (h : (cs K)[i]? = some b := by rfl) : b = true := by
  have c1 := (He.ba (show ((cs K).all id && fs.all fun f => f.ok K) = true from congrArg (fun z : Al => z.1) c)).1
  exact List.all_eq_true.mp c1 b (List.mem_of_getElem? h)
theorem fdef (c : look cs fs d K = (true, fs.map Fd.val, keysV P xs)) (i : Nat) {f : Fd} (h : fs[i]? = some f := by rfl) :
    ∃ oc od dV kV doc pm an cdv ct sl, K.lookup (f.at_ K) = some ⟨oc, od, .func (PySem.W.fnOf f.name f.qual (defArgs f.st) (defBody f.st) (defScope f.st) dV kV doc pm an cdv ct), sl⟩ ∧ PySem.W.codeIn K cdv f.qual = true ∧ PySem.W.keepIn K (.ref (f.at_ K)) = true ∧ f.dB K dV kV = true := by
  have c2 := (He.ba (show ((cs K).all id && fs.all fun f => f.ok K) = true from congrArg (fun z : Al => z.1) c)).2
  have e : fs.map (fun f => fnT K (f.at_ K)) = fs.map Fd.val := congrArg (fun z : Al => z.2.1) c
  have e2 : (fs.map fun f => fnT K (f.at_ K))[i]? = (fs.map Fd.val)[i]? := by rw [e]
  rw [List.getElem?_map, List.getElem?_map, h] at e2
  exact Fd.tells (Option.some.inj e2) (List.all_eq_true.mp c2 f (List.mem_of_getElem? h))
theorem fkeys (c : look cs fs d K = (true, fs.map Fd.val, keysV P xs)) : keysT K (d K) = keysV P xs := congrArg (fun z : Al => z.2.2) c
end
end Hx
/-! ### what the top leaves, by one run -/
namespace Hx
def cs (K : PySem.W.Frag) : List Bool := [
  decide (PySem.W.nsIn K mainGlobals "Desk" = some (some (.ref (He.ga K "Desk")))),
  PySem.W.plainGet K (He.ga K "Desk") Str.empty,
  PySem.W.hasDictIn K (He.ga K "Desk"),
  PySem.W.plainOver K (He.ga K "Desk"),
  decide (PySem.W.findIn K (.ref (He.ga K "Desk")) "__setattr__" = some (some (.builtin "object.__setattr__"))),
  PySem.W.makesIn K (He.ga K "Desk"),
  decide (PySem.W.findIn K (.ref (He.ga K "Desk")) "trees" = some none),
  decide (PySem.W.findIn K (.ref (He.ga K "Desk")) "done" = some none),
  decide (PySem.W.findIn K (.ref (He.ga K "Desk")) "busy" = some none),
  Hx.mostB K (He.ga K "Desk"),
  decide (PySem.W.nsIn K mainGlobals "ACTIONS" = some (some (.ref (He.ga K "ACTIONS")))),
  Hx.dictB K (He.ga K "ACTIONS"),
  decide (PySem.W.nsIn K (He.ga K "ACTIONS") "put" = some (some (.ref (He.ga K "with_node")))),
  decide (PySem.W.nsIn K (He.ga K "ACTIONS") "cut" = some (some (.ref (He.ga K "without_node")))),
  decide (PySem.W.nsIn K (He.ga K "ACTIONS") "label" = some (some (.ref (He.ga K "with_label")))),
  decide (PySem.W.nsIn K (He.ga K "ACTIONS") "turn" = some (some (.ref (He.ga K "turned")))),
  decide (PySem.W.nsIn K mainGlobals "KINDS" = some (some (.ref (He.ga K "KINDS")))),
  Hx.tupsB K (He.ga K "KINDS") ["first", "between", "last", "level"],
  decide (PySem.W.findIn K (.ref (He.ga K "Desk")) "__init__" = some (some (.ref (He.ma K (He.ga K "Desk") "__init__")))),
  PySem.W.isFn K (.ref (He.ma K (He.ga K "Desk") "__init__")),
  decide (PySem.W.findIn K (.ref (He.ga K "Desk")) "check_free" = some (some (.ref (He.ma K (He.ga K "Desk") "check_free")))),
  PySem.W.isFn K (.ref (He.ma K (He.ga K "Desk") "check_free")),
  decide (PySem.W.findIn K (.ref (He.ga K "Desk")) "check_tree" = some (some (.ref (He.ma K (He.ga K "Desk") "check_tree")))),
  PySem.W.isFn K (.ref (He.ma K (He.ga K "Desk") "check_tree")),
  decide (PySem.W.findIn K (.ref (He.ga K "Desk")) "told" = some (some (.ref (He.ma K (He.ga K "Desk") "told")))),
  PySem.W.isFn K (.ref (He.ma K (He.ga K "Desk") "told")),
  decide (PySem.W.findIn K (.ref (He.ga K "Desk")) "take" = some (some (.ref (He.ma K (He.ga K "Desk") "take")))),
  PySem.W.isFn K (.ref (He.ma K (He.ga K "Desk") "take")),
  decide (PySem.W.findIn K (.ref (He.ga K "Desk")) "called" = some (some (.ref (He.ma K (He.ga K "Desk") "called")))),
  PySem.W.isFn K (.ref (He.ma K (He.ga K "Desk") "called")),
  decide (PySem.W.findIn K (.ref (He.ga K "Desk")) "put" = some (some (.ref (He.ma K (He.ga K "Desk") "put")))),
  PySem.W.isFn K (.ref (He.ma K (He.ga K "Desk") "put")),
  decide (PySem.W.findIn K (.ref (He.ga K "Desk")) "cut" = some (some (.ref (He.ma K (He.ga K "Desk") "cut")))),
  PySem.W.isFn K (.ref (He.ma K (He.ga K "Desk") "cut")),
  decide (PySem.W.findIn K (.ref (He.ga K "Desk")) "label" = some (some (.ref (He.ma K (He.ga K "Desk") "label")))),
  PySem.W.isFn K (.ref (He.ma K (He.ga K "Desk") "label")),
  decide (PySem.W.findIn K (.ref (He.ga K "Desk")) "turn" = some (some (.ref (He.ma K (He.ga K "Desk") "turn")))),
  PySem.W.isFn K (.ref (He.ma K (He.ga K "Desk") "turn")),
  decide (PySem.W.findIn K (.ref (He.ga K "Desk")) "edits" = some (some (.ref (He.ma K (He.ga K "Desk") "edits")))),
  PySem.W.isFn K (.ref (He.ma K (He.ga K "Desk") "edits")),
  decide (PySem.W.findIn K (.ref (He.ga K "Desk")) "__len__" = some (some (.ref (He.ma K (He.ga K "Desk") "__len__")))),
  PySem.W.isFn K (.ref (He.ma K (He.ga K "Desk") "__len__")),
  decide (PySem.W.findIn K (.ref (He.ga K "Desk")) "__str__" = some (some (.ref (He.ma K (He.ga K "Desk") "__str__")))),
  PySem.W.isFn K (.ref (He.ma K (He.ga K "Desk") "__str__")),
  decide (PySem.W.findIn K (.ref (He.ga K "Desk")) "tree" = some (some (.ref (He.ma K (He.ga K "Desk") "tree")))),
  PySem.W.isFn K (.ref (He.ma K (He.ga K "Desk") "tree")),
  decide (PySem.W.findIn K (.ref (He.ga K "Desk")) "version" = some (some (.ref (He.ma K (He.ga K "Desk") "version")))),
  decide (PySem.W.specialIn K (.ref (He.ma K (He.ga K "Desk") "version")) "__get__" = some (some (.builtin "property.__get__"))),
  decide (PySem.W.takesIn K (.ref (He.ma K (He.ga K "Desk") "version")) = some true),
  Hx.gpB K (He.ma K (He.ga K "Desk") "version"),
  decide (PySem.W.findIn K (.ref (He.ga K "Desk")) "size" = some (some (.ref (He.ma K (He.ga K "Desk") "size")))),
  decide (PySem.W.specialIn K (.ref (He.ma K (He.ga K "Desk") "size")) "__get__" = some (some (.builtin "property.__get__"))),
  decide (PySem.W.takesIn K (.ref (He.ma K (He.ga K "Desk") "size")) = some true),
  Hx.gpB K (He.ma K (He.ga K "Desk") "size"),
  decide (PySem.W.findIn K (.ref (He.ga K "Desk")) "first" = some (some (.ref (He.ma K (He.ga K "Desk") "first")))),
  decide (PySem.W.specialIn K (.ref (He.ma K (He.ga K "Desk") "first")) "__get__" = some (some (.builtin "property.__get__"))),
  decide (PySem.W.takesIn K (.ref (He.ma K (He.ga K "Desk") "first")) = some true),
  Hx.gpB K (He.ma K (He.ga K "Desk") "first"),
  decide (PySem.W.findIn K (.ref (He.ga K "Desk")) "between" = some (some (.ref (He.ma K (He.ga K "Desk") "between")))),
  decide (PySem.W.specialIn K (.ref (He.ma K (He.ga K "Desk") "between")) "__get__" = some (some (.builtin "property.__get__"))),
  decide (PySem.W.takesIn K (.ref (He.ma K (He.ga K "Desk") "between")) = some true),
  Hx.gpB K (He.ma K (He.ga K "Desk") "between"),
  decide (PySem.W.findIn K (.ref (He.ga K "Desk")) "last" = some (some (.ref (He.ma K (He.ga K "Desk") "last")))),
  decide (PySem.W.specialIn K (.ref (He.ma K (He.ga K "Desk") "last")) "__get__" = some (some (.builtin "property.__get__"))),
  decide (PySem.W.takesIn K (.ref (He.ma K (He.ga K "Desk") "last")) = some true),
  Hx.gpB K (He.ma K (He.ga K "Desk") "last"),
  decide (PySem.W.nsIn K mainGlobals "_law_some_edit" = some (some (.ref (He.ga K "_law_some_edit")))),
  decide (PySem.W.nsIn K mainGlobals "_law_valid_edit" = some (some (.ref (He.ga K "_law_valid_edit")))),
  decide (PySem.W.nsIn K mainGlobals "ROW_KINDS" = some (some (.ref (He.ga K "ROW_KINDS")))),
  Hx.tupsB K (He.ga K "ROW_KINDS") ["first", "between", "last"],
  decide (PySem.W.nsIn K mainGlobals "is_letter" = some (some (.ref (He.ga K "is_letter")))),
  decide (PySem.W.nsIn K mainGlobals "is_node" = some (some (.ref (He.ga K "is_node")))),
  decide (PySem.W.nsIn K mainGlobals "is_tree" = some (some (.ref (He.ga K "is_tree")))),
  decide (PySem.W.nsIn K mainGlobals "size_of" = some (some (.ref (He.ga K "size_of")))),
  decide (PySem.W.nsIn K mainGlobals "part_at" = some (some (.ref (He.ga K "part_at")))),
  decide (PySem.W.nsIn K mainGlobals "is_open" = some (some (.ref (He.ga K "is_open")))),
  decide (PySem.W.nsIn K mainGlobals "replaced" = some (some (.ref (He.ga K "replaced")))),
  decide (PySem.W.nsIn K mainGlobals "with_part" = some (some (.ref (He.ga K "with_part")))),
  decide (PySem.W.nsIn K mainGlobals "mirrored" = some (some (.ref (He.ga K "mirrored")))),
  decide (PySem.W.nsIn K mainGlobals "node_at" = some (some (.ref (He.ga K "node_at")))),
  decide (PySem.W.nsIn K mainGlobals "with_node" = some (some (.ref (He.ga K "with_node")))),
  decide (PySem.W.nsIn K mainGlobals "without_node" = some (some (.ref (He.ga K "without_node")))),
  decide (PySem.W.nsIn K mainGlobals "with_label" = some (some (.ref (He.ga K "with_label")))),
  decide (PySem.W.nsIn K mainGlobals "turned" = some (some (.ref (He.ga K "turned")))),
  decide (PySem.W.nsIn K mainGlobals "edited" = some (some (.ref (He.ga K "edited")))),
  decide (PySem.W.nsIn K mainGlobals "is_kind" = some (some (.ref (He.ga K "is_kind")))),
  decide (PySem.W.nsIn K mainGlobals "ordered_steps" = some (some (.ref (He.ga K "ordered_steps")))),
  decide (PySem.W.nsIn K mainGlobals "deep_steps" = some (some (.ref (He.ga K "deep_steps")))),
  decide (PySem.W.nsIn K mainGlobals "walk" = some (some (.ref (He.ga K "walk")))),
  decide (PySem.W.nsIn K mainGlobals "_law_stream" = some (some (.ref (He.ga K "_law_stream")))),
  decide (PySem.W.nsIn K mainGlobals "_law_take" = some (some (.ref (He.ga K "_law_take")))),
  decide (PySem.W.nsIn K mainGlobals "_law_equal" = some (some (.ref (He.ga K "_law_equal")))),
  decide (PySem.W.nsIn K mainGlobals "_law_letter" = some (some (.ref (He.ga K "_law_letter")))),
  decide (PySem.W.nsIn K mainGlobals "_law_paths" = some (some (.ref (He.ga K "_law_paths")))),
  decide (PySem.W.nsIn K mainGlobals "_law_part" = some (some (.ref (He.ga K "_law_part")))),
  decide (PySem.W.nsIn K mainGlobals "_law_grafted" = some (some (.ref (He.ga K "_law_grafted")))),
  decide (PySem.W.nsIn K mainGlobals "_law_swapped" = some (some (.ref (He.ga K "_law_swapped")))),
  decide (PySem.W.nsIn K mainGlobals "_law_spot" = some (some (.ref (He.ga K "_law_spot")))),
  decide (PySem.W.nsIn K mainGlobals "_law_sorted_tree" = some (some (.ref (He.ga K "_law_sorted_tree")))),
  decide (PySem.W.nsIn K mainGlobals "_law_tree" = some (some (.ref (He.ga K "_law_tree")))),
  decide (PySem.W.nsIn K mainGlobals "_law_is_letter" = some (some (.ref (He.ga K "_law_is_letter")))),
  decide (PySem.W.nsIn K mainGlobals "_law_due_put" = some (some (.ref (He.ga K "_law_due_put")))),
  decide (PySem.W.nsIn K mainGlobals "_law_due" = some (some (.ref (He.ga K "_law_due")))),
  decide (PySem.W.nsIn K mainGlobals "_law_do" = some (some (.ref (He.ga K "_law_do")))),
  decide (PySem.W.nsIn K mainGlobals "_law_seen" = some (some (.ref (He.ga K "_law_seen")))),
  decide (PySem.W.nsIn K mainGlobals "walks" = some (some (.ref (He.ga K "walks")))),
  decide (PySem.W.nsIn K mainGlobals "is_row" = some (some (.ref (He.ga K "is_row")))),
  decide (PySem.W.nsIn K mainGlobals "three_rows" = some (some (.ref (He.ga K "three_rows")))),
  decide (PySem.W.nsIn K mainGlobals "tree_fits" = some (some (.ref (He.ga K "tree_fits")))),
  decide (PySem.W.nsIn K mainGlobals "fits" = some (some (.ref (He.ga K "fits")))),
  decide (PySem.W.nsIn K mainGlobals "is_ascending" = some (some (.ref (He.ga K "is_ascending")))),
  decide (PySem.W.nsIn K mainGlobals "is_search_tree" = some (some (.ref (He.ga K "is_search_tree")))),
  decide (PySem.W.nsIn K mainGlobals "each_node" = some (some (.ref (He.ga K "each_node")))),
  decide (PySem.W.nsIn K mainGlobals "_law_tree_right" = some (some (.ref (He.ga K "_law_tree_right")))),
  decide (PySem.W.nsIn K mainGlobals "_law_edit_right" = some (some (.ref (He.ga K "_law_edit_right")))),
  decide (PySem.W.nsIn K mainGlobals "law" = some (some (.ref (He.ga K "law")))),
  decide (PySem.W.nsIn K mainGlobals "zip" = some none),
  decide (PySem.W.nsIn K mainGlobals "all" = some none),
  decide (PySem.W.nsIn K mainGlobals "repr" = some none),
  decide (PySem.W.nsIn K mainGlobals "len" = some none),
  decide (PySem.W.nsIn K mainGlobals "isinstance" = some none),
  decide (PySem.W.nsIn K mainGlobals "list" = some none),
  decide (PySem.W.nsIn K mainGlobals "tuple" = some none),
  decide (PySem.W.nsIn K mainGlobals "str" = some none),
  decide (PySem.W.nsIn K mainGlobals "int" = some none),
  decide (PySem.W.nsIn K mainGlobals "bool" = some none),
  decide (PySem.W.nsIn K mainGlobals "dict" = some none),
  decide (PySem.W.nsIn K mainGlobals "range" = some none),
  decide (PySem.W.nsIn K mainGlobals "sorted" = some none),
  decide (PySem.W.nsIn K mainGlobals "abs" = some none),
  decide (PySem.W.nsIn K mainGlobals "min" = some none),
  decide (PySem.W.nsIn K mainGlobals "max" = some none),
  decide (PySem.W.nsIn K mainGlobals "set" = some none),
  Hx.intB (PySem.W.nsIn K mainGlobals "MAX_NODES") 12,
  PySem.W.keepIn K (.ref (He.ga K "Desk"))]
def fs : List Fd := [
  ⟨fun K => He.ma K (He.ga K "Desk") "__init__", "__init__", "Desk.__init__", s_Desk___init__, Hx.dNone⟩,
  ⟨fun K => He.ma K (He.ga K "Desk") "check_free", "check_free", "Desk.check_free", s_Desk_check_free, Hx.dNone⟩,
  ⟨fun K => He.ma K (He.ga K "Desk") "check_tree", "check_tree", "Desk.check_tree", s_Desk_check_tree, Hx.dNone⟩,
  ⟨fun K => He.ma K (He.ga K "Desk") "told", "told", "Desk.told", s_Desk_told, Hx.dNone⟩,
  ⟨fun K => He.ma K (He.ga K "Desk") "take", "take", "Desk.take", s_Desk_take, Hx.dNone⟩,
  ⟨fun K => He.ma K (He.ga K "Desk") "called", "called", "Desk.called", s_Desk_called, Hx.dNone⟩,
  ⟨fun K => He.ma K (He.ga K "Desk") "put", "put", "Desk.put", s_Desk_put, Hx.dNone⟩,
  ⟨fun K => He.ma K (He.ga K "Desk") "cut", "cut", "Desk.cut", s_Desk_cut, Hx.dNone⟩,
  ⟨fun K => He.ma K (He.ga K "Desk") "label", "label", "Desk.label", s_Desk_label, Hx.dNone⟩,
  ⟨fun K => He.ma K (He.ga K "Desk") "turn", "turn", "Desk.turn", s_Desk_turn, Hx.dNone⟩,
  ⟨fun K => He.ma K (He.ga K "Desk") "edits", "edits", "Desk.edits", s_Desk_edits, Hx.dNone⟩,
  ⟨fun K => He.ma K (He.ga K "Desk") "__len__", "__len__", "Desk.__len__", s_Desk___len__, Hx.dNone⟩,
  ⟨fun K => He.ma K (He.ga K "Desk") "__str__", "__str__", "Desk.__str__", s_Desk___str__, Hx.dNone⟩,
  ⟨fun K => He.ma K (He.ga K "Desk") "tree", "tree", "Desk.tree", s_Desk_tree, (Hx.dKw "version")⟩,
  ⟨fun K => Hx.gp K (He.ma K (He.ga K "Desk") "version"), "version", "Desk.version", s_Desk_version, Hx.dNone⟩,
  ⟨fun K => Hx.gp K (He.ma K (He.ga K "Desk") "size"), "size", "Desk.size", s_Desk_size, Hx.dNone⟩,
  ⟨fun K => Hx.gp K (He.ma K (He.ga K "Desk") "first"), "first", "Desk.first", s_Desk_first, Hx.dNone⟩,
  ⟨fun K => Hx.gp K (He.ma K (He.ga K "Desk") "between"), "between", "Desk.between", s_Desk_between, Hx.dNone⟩,
  ⟨fun K => Hx.gp K (He.ma K (He.ga K "Desk") "last"), "last", "Desk.last", s_Desk_last, Hx.dNone⟩,
  ⟨fun K => He.ga K "_law_some_edit", "_law_some_edit", "_law_some_edit", s__law_some_edit, (Hx.dInt 13)⟩,
  ⟨fun K => He.ga K "_law_valid_edit", "_law_valid_edit", "_law_valid_edit", s__law_valid_edit, (Hx.dInt 13)⟩,
  ⟨fun K => He.ga K "is_letter", "is_letter", "is_letter", s_is_letter, Hx.dNone⟩,
  ⟨fun K => He.ga K "is_node", "is_node", "is_node", s_is_node, Hx.dNone⟩,
  ⟨fun K => He.ga K "is_tree", "is_tree", "is_tree", s_is_tree, Hx.dNone⟩,
  ⟨fun K => He.ga K "size_of", "size_of", "size_of", s_size_of, Hx.dNone⟩,
  ⟨fun K => He.ga K "part_at", "part_at", "part_at", s_part_at, Hx.dNone⟩,
  ⟨fun K => He.ga K "is_open", "is_open", "is_open", s_is_open, Hx.dNone⟩,
  ⟨fun K => He.ga K "replaced", "replaced", "replaced", s_replaced, Hx.dNone⟩,
  ⟨fun K => He.ga K "with_part", "with_part", "with_part", s_with_part, Hx.dNone⟩,
  ⟨fun K => He.ga K "mirrored", "mirrored", "mirrored", s_mirrored, Hx.dNone⟩,
  ⟨fun K => He.ga K "node_at", "node_at", "node_at", s_node_at, Hx.dNone⟩,
  ⟨fun K => He.ga K "with_node", "with_node", "with_node", s_with_node, Hx.dNone⟩,
  ⟨fun K => He.ga K "without_node", "without_node", "without_node", s_without_node, Hx.dNone⟩,
  ⟨fun K => He.ga K "with_label", "with_label", "with_label", s_with_label, Hx.dNone⟩,
  ⟨fun K => He.ga K "turned", "turned", "turned", s_turned, Hx.dNone⟩,
  ⟨fun K => He.ga K "edited", "edited", "edited", s_edited, Hx.dNone⟩,
  ⟨fun K => He.ga K "is_kind", "is_kind", "is_kind", s_is_kind, Hx.dNone⟩,
  ⟨fun K => He.ga K "ordered_steps", "ordered_steps", "ordered_steps", s_ordered_steps, Hx.dNone⟩,
  ⟨fun K => He.ga K "deep_steps", "deep_steps", "deep_steps", s_deep_steps, Hx.dNone⟩,
  ⟨fun K => He.ga K "walk", "walk", "walk", s_walk, Hx.dNone⟩,
  ⟨fun K => He.ga K "_law_stream", "_law_stream", "_law_stream", s__law_stream, Hx.dNone⟩,
  ⟨fun K => He.ga K "_law_take", "_law_take", "_law_take", s__law_take, Hx.dNone⟩,
  ⟨fun K => He.ga K "_law_equal", "_law_equal", "_law_equal", s__law_equal, Hx.dNone⟩,
  ⟨fun K => He.ga K "_law_letter", "_law_letter", "_law_letter", s__law_letter, Hx.dNone⟩,
  ⟨fun K => He.ga K "_law_paths", "_law_paths", "_law_paths", s__law_paths, Hx.dNone⟩,
  ⟨fun K => He.ga K "_law_part", "_law_part", "_law_part", s__law_part, Hx.dNone⟩,
  ⟨fun K => He.ga K "_law_grafted", "_law_grafted", "_law_grafted", s__law_grafted, Hx.dNone⟩,
  ⟨fun K => He.ga K "_law_swapped", "_law_swapped", "_law_swapped", s__law_swapped, Hx.dNone⟩,
  ⟨fun K => He.ga K "_law_spot", "_law_spot", "_law_spot", s__law_spot, Hx.dNone⟩,
  ⟨fun K => He.ga K "_law_sorted_tree", "_law_sorted_tree", "_law_sorted_tree", s__law_sorted_tree, Hx.dNone⟩,
  ⟨fun K => He.ga K "_law_tree", "_law_tree", "_law_tree", s__law_tree, Hx.dNone⟩,
  ⟨fun K => He.ga K "_law_is_letter", "_law_is_letter", "_law_is_letter", s__law_is_letter, Hx.dNone⟩,
  ⟨fun K => He.ga K "_law_due_put", "_law_due_put", "_law_due_put", s__law_due_put, Hx.dNone⟩,
  ⟨fun K => He.ga K "_law_due", "_law_due", "_law_due", s__law_due, Hx.dNone⟩,
  ⟨fun K => He.ga K "_law_do", "_law_do", "_law_do", s__law_do, Hx.dNone⟩,
  ⟨fun K => He.ga K "_law_seen", "_law_seen", "_law_seen", s__law_seen, Hx.dNone⟩,
  ⟨fun K => He.ga K "walks", "walks", "walks", s_walks, Hx.dNone⟩,
  ⟨fun K => He.ga K "is_row", "is_row", "is_row", s_is_row, Hx.dNone⟩,
  ⟨fun K => He.ga K "three_rows", "three_rows", "three_rows", s_three_rows, Hx.dNone⟩,
  ⟨fun K => He.ga K "tree_fits", "tree_fits", "tree_fits", s_tree_fits, Hx.dNone⟩,
  ⟨fun K => He.ga K "fits", "fits", "fits", s_fits, Hx.dNone⟩,
  ⟨fun K => He.ga K "is_ascending", "is_ascending", "is_ascending", s_is_ascending, Hx.dNone⟩,
  ⟨fun K => He.ga K "is_search_tree", "is_search_tree", "is_search_tree", s_is_search_tree, Hx.dNone⟩,
  ⟨fun K => He.ga K "each_node", "each_node", "each_node", s_each_node, Hx.dNone⟩,
  ⟨fun K => He.ga K "_law_tree_right", "_law_tree_right", "_law_tree_right", s__law_tree_right, Hx.dNone⟩,
  ⟨fun K => He.ga K "_law_edit_right", "_law_edit_right", "_law_edit_right", s__law_edit_right, Hx.dNone⟩,
  ⟨fun K => He.ga K "law", "law", "law", s_law, Hx.dNone⟩]
def dc (K : PySem.W.Frag) : Addr := He.ga K "ACTIONS"
def ks : List Str := ["put", "cut", "label", "turn"]
abbrev R : PySem.W.OpenRow := PySem.W.OpenLaw.row PySem.Challenge.rw_treewalks_k68_whole_desks_and_functions
abbrev qv : Program := PySem.W.view R.prog [92]
abbrev hk : PySem.W.Hook := hook 1100 cs fs dc ks
def loose : List Str := (["_wall", "MAX_NODES", "BATCH", "WalkError", "TooLarge", "NoRows", "BadRow", "NotAlike", "BadTree", "NotOpen", "NoLabel", "LastNode", "TooManyEdits", "BadEdits", "BadEdit", "Rejected"] : List PySem.Str) ++ (["Busy", "BadText", "NoPath", "NoKind", "NoVersion", "is_letter", "is_whole_number", "is_index", "is_ascending", "is_node", "is_tree", "size_of", "part_at", "is_open", "replaced", "with_part"] : List PySem.Str) ++ (["mirrored", "each_node", "node_at", "with_node", "without_node", "with_label", "turned", "ACTIONS", "LENGTHS", "has_form_of_edit", "edited", "KINDS", "is_kind", "ordered_steps", "deep_steps", "level_steps"] : List PySem.Str) ++ (["walk", "walks", "is_search_tree", "parse_tree", "sign_at", "read_tree", "read_left", "read_side", "Desk", "ROW_KINDS", "is_row", "three_rows", "tree_fits", "fits", "_law_stream", "_law_take"] : List PySem.Str) ++ (["_law_equal", "_law_letter", "_law_paths", "_law_part", "_law_grafted", "_law_swapped", "_law_spot", "_law_sorted_tree", "_law_tree", "_law_is_letter", "_law_due_put", "_law_due", "_law_do", "_law_some_edit", "_law_valid_edit", "_law_seen"] : List PySem.Str) ++ (["_law_tree_right", "_law_edit_right"] : List PySem.Str)
def ob (s : PySem.W.SharedT) : Al := look cs fs dc (fr 1100 (HandSHeadRun.getT s))
theorem ob_ok (s : PySem.W.SharedT) : ob s = hk.obs s.abs := ob_eq (HandSHeadRun.getT_eq s)
theorem runF (w : World) : HandSHeadRun.RunEq R qv hk ob 9000 loose (w.withFollow "special-get-raises" false) := by
  intro os
  kernel_rfl
theorem runT (w : World) : HandSHeadRun.RunEq R qv hk ob 9000 loose (w.withFollow "special-get-raises" true) := by
  intro os
  kernel_rfl
theorem run (w : World) : HandSHeadRun.RunEq R qv hk ob 9000 loose w := PySem.W.byRow2 "special-get-raises" (P := fun w => HandSHeadRun.RunEq R qv hk ob 9000 loose w) runF runT w
end Hx
/-! ### xs != [], xs == [] -/
abbrev vc (c : Nat) : V := .str (ch c)
theorem map_vc (l : List Nat) : l.map vc = (l.map ch).map V.str := by rw [List.map_map]; rfl
section
variable {X : Cx}
theorem op_neL (hu : X.A.units < cLine) : OpR X (compareOp .NotEq) (fun x y H Q => ∃ a b xs, x = .ref a ∧ y = .ref b ∧ SqL X.K H a xs ∧ SqL X.K H b [] ∧ Q (.bl (!xs.isEmpty)) H) := by
  intro pins s σ H x y v u Q I rx ry h
  obtain ⟨a, b, xs, rfl, rfl, hx, hy, q⟩ := h
  cases rx
  cases ry
  obtain ⟨its, r1, t1, _⟩ := I.list hx
  obtain ⟨its2, r2, t2, _⟩ := I.list hy
  cases r2
  cases r1 with
  | nil =>
    have rc := SeqAt.RcNeAt.lists (A := X.A) (s := s) (items := ([] : List Value).toArray) (items2 := ([] : List Value).toArray) (e := fun _ => true) t1.isList t2.isList rfl hu (fun j h1 _ => absurd h1 (by simp))
    exact rc X.prog X.w X.xe _ ⟨.bl _, H, I, rfl, q⟩
  | cons _ _ =>
    have rc := SeqAt.RcNeAt.lists_lengths (A := X.A) (s := s) t1.isList t2.isList (by simp) hu
    exact rc X.prog X.w X.xe _ ⟨.bl _, H, I, rfl, q⟩
end
theorem op_eqL {X : Cx} (hu : X.A.units < cLine) : OpR X (compareOp .Eq) (fun x y H Q => ∃ a b xs, x = .ref a ∧ y = .ref b ∧ SqL X.K H a xs ∧ SqL X.K H b [] ∧ Q (.bl xs.isEmpty) H) := by
  intro pins s σ H x y v u Q I rx ry h
  obtain ⟨a, b, xs, rfl, rfl, hx, hy, q⟩ := h
  cases rx
  cases ry
  obtain ⟨its, r1, t1, _⟩ := I.list hx
  obtain ⟨its2, r2, t2, _⟩ := I.list hy
  cases r2
  cases r1 with
  | nil =>
    have rc := SeqAt.RcAt.lists (A := X.A) (s := s) (items := ([] : List Value).toArray) (items2 := ([] : List Value).toArray) (e := fun _ => true) t1.isList t2.isList rfl hu (fun j h1 _ => absurd h1 (by simp))
    exact rc X.prog X.w X.xe _ ⟨.bl _, H, I, rfl, q⟩
  | cons _ _ =>
    have rc := SeqAt.RcAt.lists_lengths (A := X.A) (s := s) t1.isList t2.isList (by simp) hu
    exact rc X.prog X.w X.xe _ ⟨.bl _, H, I, rfl, q⟩
/-! ### a def entered at one caller -/
theorem enter_def {P : Program} {w : World} {K : PySem.W.Frag} {mg : Str → Option Value} {base : Heap} {f : Addr} {fd : FuncData} {N ps : List Str} {k : Nat} {x qual : Str} {st : Stmt} (F : Fun K x qual st f fd) (S : FnScope N ps (defScope st))
    {A : Around} {outer : List Env} {s : Shared} {H : Hp} {args : Args} {us : List Value} {vs : List V} {Q : VK} {E : XK}
    (room : Room (k + 1) A) (en : Env0 P w K mg base A outer s H) (bd : BindsTo s fd args (ps.zip us)) (rel : Vals vs us) (hln : vs.length = ps.length)
    (body : ∀ cdv : Value, Room k (A.deeper (envOfC qual (defScope st) s.heap.objs.size f cdv)) →
      ∃ t, PSs (cxOf CX0 P w K mg base N qual (defScope st) f cdv A outer s H E).nox (defBody st) t ∧ t { nx := fun _ H' => Q .non H', rt := Q } (start N vs) H) :
    codeAny (model P w) A (.call (.ref f) args) (CR CX0 outer P w H s Q E) s := by
  obtain ⟨oc, od, kV, doc, pm, an, cdv, ct, osl, rfl, look, code⟩ := F.ex
  have still : ∀ b o, base.get? b = some o → s.heap.get? b = some o := fun b o e => (en.bs b o e).1
  have inK : K.In s.heap := en.mod.kin.keeps still
  have noL : s.heap.NoLimit := en.mod.nolimit.keeps still
  have kinds : ∀ y ∈ ps.zip us, (defScope st).names.lookup y.1 = some .local ∨
      ((defScope st).names.lookup y.1 = some .cell ∧ ((cellsFrom (s.heap.objs.size + 1) (defScope st).names []).lookup y.1).isSome = true) := by
    rintro ⟨nm, u⟩ hy
    cases S.par nm (List.of_mem_zip hy).1 with
    | inl z => exact .inl z
    | inr z => exact .inr ⟨z, PySem.W.cellsFrom_some _ _ _ (.inl z)⟩
  have step := codeAny_call_function (prog := P) (w := w) (A := A) (s := s) room.depth (inK _ _ look) rfl S.co S.gen rfl (PySem.W.codeRec_of inK code)
    (R := CR CX0 outer P w H s Q E) (args := args)
  refine step (bd _ _ _ _ ?_)
  refine wpAny_newFunctionEnv_cells S.kind kinds ?_
  intro env isEnv s1 inC
  subst isEnv
  refine ⟨noL.keeps inC.toInCall.keep, codeAny_func ?_⟩
  obtain ⟨t, ht, hq⟩ := body cdv (room.deeper _)
  have J : Inv (cxOf CX0 P w K mg base N qual (defScope st) f cdv A outer s H E) [] (start N vs) H s1 := inv_start S room.hd en hln rel inC
  refine wpAny_mono (ht.nox.run [] s1 (start N vs) H _ J hq) ?_ ?_
  · intro fl s' done
    cases fl with
    | ret u =>
      obtain ⟨v, σ', H', I', rv, qv⟩ := done
      exact ⟨v, H', I'.os, I'.bare, I'.base, I'.hok, rv, qv⟩
    | next =>
      obtain ⟨σ', H', I', qv⟩ := done
      exact ⟨V.non, H', I'.os, I'.bare, I'.base, I'.hok, rfl, qv⟩
    | brk => exact done.elim fun _ z => z.elim fun _ z => z.2.elim
    | cont => exact done.elim fun _ z => z.elim fun _ z => z.2.elim
  · intro e s' z
    exact z
/-! ### the law's own call -/
theorem law_at {P : Program} {w : World} {K : PySem.W.Frag} {mg mb : Str → Option Value} {fa a : Addr} {s₁ : Shared} {vs : List Value} {ns : List Int}
    (inK : K.In s₁.heap) (gl : s₁.heap.Ns mainGlobals mg) (bl : s₁.heap.Ns builtinsNs mb) (isB : ∀ x : Str, x ≠ "__name__" → mb x = bootBuiltins x) (lim : s₁.heap.NoLimit) (gens : s₁.gens = #[])
    (obj : s₁.heap.get? a = some { cls := .type "list", data := .seq vs.toArray }) (hints : IntsAre vs ns) (few : ns.length ≤ sizeLine)
    (run : ∀ (base : Heap) (H : Hp), K.In base → base.Ns mainGlobals mg → Env0 P w K mg base callerA [] s₁ H → SqL K H a (ns.map V.int) →
      codeAny (model P w) callerA (.call (.ref fa) ⟨[.ref a], []⟩) (CR CX0 [] P w H s₁ (fun v _ => v = .bl true) fun _ _ _ => False) s₁) :
    codeAny (model P w) callerA (.call (.ref fa) ⟨[.ref a], []⟩) (fun r s' => r = .ok (.ret (.bool true)) ∧ OldK s₁.heap s'.heap ∧ s'.os = s₁.os ∧ AllBare s'.gens) s₁ := by
  have rel := vals_ints hints
  have lens := hints.length
  have found : ∃ H : Hp, Only H ∧ SqL K H a (ns.map V.int) ∧ HOk P w H s₁.heap ∧ (∀ b u, H b = some u → b = a ∧ K.lookup a = none) := by
    cases inText : K.lookup a with
    | some o =>
      have same := inK a o inText
      rw [obj] at same
      cases same
      have never : ∀ (u : HO), (none : Option HO) ≠ some u := fun u z => by cases z
      refine ⟨fun _ => none, fun _ => .inl rfl, ?_, (fun b u z => (never u z).elim), (fun b u z => (never u z).elim)⟩
      refine .inr ⟨_, vs.toArray, _, inText, rfl, rfl, rfl, ?_, ?_⟩
      · rw [List.size_toArray, lens]
        exact few
      · rw [List.toList_toArray]
        exact rel
    | none =>
      let here : HO := .frz { cls := .type "list", data := .seq vs.toArray } (.lst (ns.map V.int))
      have only : ∀ b u, (if b = a then some here else none) = some u → b = a ∧ u = here := fun b u z => by
        by_cases hb : b = a
        · rw [if_pos hb] at z
          exact ⟨hb, (Option.some.inj z).symm⟩
        · rw [if_neg hb] at z
          cases z
      refine ⟨fun b => if b = a then some here else none, fun b => ?_, .inl (.inr ⟨{ cls := .type "list", data := .seq vs.toArray }, if_pos rfl⟩), fun b u z => ?_, fun b u z => ⟨(only b u z).1, rfl⟩⟩
      · by_cases hb : b = a
        · exact .inr ⟨_, _, if_pos hb⟩
        · exact .inl (if_neg hb)
      · obtain ⟨rfl, rfl⟩ := only b u z
        exact ⟨obj, by rw [List.length_map]; exact few, vs, _, rel, obj⟩
  obtain ⟨H, hO, hS, hok, hA⟩ := found
  have under : ∀ {b : Addr} {o : Obj}, s₁.heap.get? b = some o → H b = none → (hidT s₁.heap H).get? b = some o := fun e z => hidT_get e z
  have notDict : ∀ {b : Addr} {o : Obj} {es : Array DictEntry} {ep : Nat}, s₁.heap.get? b = some o → o.data = .dict es ep → H b = none := by
    intro b o es ep e isD
    cases z : H b with
    | none => rfl
    | some u =>
      obtain ⟨rfl, _⟩ := hA b u z
      rw [obj] at e
      cases e
      cases isD
  have ns' : ∀ {b : Addr} {m : Str → Option Value}, s₁.heap.Ns b m → (hidT s₁.heap H).Ns b m := by
    rintro b m ⟨o, es, ep, e, isD, r⟩
    exact ⟨o, es, ep, under e (notDict e isD), isD, r⟩
  have inK' : K.In (hidT s₁.heap H) := by
    intro b o e
    refine under (inK b o e) ?_
    cases z : H b with
    | none => rfl
    | some u =>
      obtain ⟨rfl, no⟩ := hA b u z
      rw [no] at e
      cases e
  obtain ⟨mc, l1, l2⟩ := lim
  have env : Env0 P w K mg (hidT s₁.heap H) callerA [] s₁ H :=
    ⟨rfl, ⟨inK', ns' gl, ⟨mb, ns' bl, isB⟩, ⟨mc, ns' l1, l2⟩⟩, fun _ _ e => of_hidT e, Nat.le_of_eq (hidT_size _ _), trivial, (fun _ hb => nomatch hb), hok, .of_eq gens⟩
  refine codeAny_mono (run _ H inK' (ns' gl) env hS) ?_
  intro r s' h
  cases r with
  | error e => exact h.elim
  | ok fl =>
    cases fl with
    | next => exact h.elim
    | brk => exact h.elim
    | cont => exact h.elim
    | ret u =>
      obtain ⟨v, H', os, bare, un, hok', rv, isT⟩ := h
      subst isT
      cases rv
      refine ⟨rfl, OldK.of_keep ?_, os, bare⟩
      intro b o e
      cases z : H b with
      | none => exact un.keep b o e z (fun y => nomatch y) (fun y => nomatch y)
      | some u =>
        rcases hO b with y | ⟨ob, xs, y⟩
        · rw [z] at y
          cases y
        · have y2 := un.frzs b ob _ y
          obtain ⟨e1, _⟩ := hok b _ y
          obtain ⟨e2, _⟩ := hok' b _ y2
          rw [e] at e1
          cases e1
          exact e2
/-! ### defs that ask for repr: the guards are carried -/
structure FnOkG (P : Program) (w : World) (K : PySem.W.Frag) (mg : Str → Option Value) (base : Heap) (k : Nat) (f : Addr) (fd : FuncData) (ps : List Str) (sp : Sp) : Prop where
  len : ∀ vs H Q E, sp vs H Q E → vs.length = ps.length
  run : ∀ (A : Around) (outer : List Env) (s : Shared) (H : Hp) (args : Args) (us : List Value) (vs : List V) (Q : VK) (E : XK), A.guards = some [] → Room k A → Env0 P w K mg base A outer s H →
    BindsTo s fd args (ps.zip us) → Vals vs us → sp vs H Q E → codeAny (model P w) A (.call (.ref f) args) (CR CX0 outer P w H s Q E) s
theorem fnG {P : Program} {w : World} {K : PySem.W.Frag} {mg : Str → Option Value} {base : Heap} {f : Addr} {fd : FuncData} {N ps : List Str} {k : Nat} {x qual : Str} {st : Stmt} {sp : Sp} (F : Fun K x qual st f fd) (S : FnScope N ps (defScope st))
    (len : ∀ vs H Q E, sp vs H Q E → vs.length = ps.length)
    (body : ∀ (cdv : Value) (A : Around) (outer : List Env) (s : Shared) (H : Hp) (vs : List V) (Q : VK) (E : XK), A.guards = some [] → Room k (A.deeper (envOfC qual (defScope st) s.heap.objs.size f cdv)) → sp vs H Q E →
      ∃ t, PSs (cxOf CX0 P w K mg base N qual (defScope st) f cdv A outer s H E).nox (defBody st) t ∧ t { nx := fun _ H' => Q .non H', rt := Q } (start N vs) H) :
    FnOkG P w K mg base (k + 1) f fd ps sp := by
  refine ⟨len, ?_⟩
  intro A outer s H args us vs Q E gs room en bd rel hsp
  exact enter_def F S room en bd rel (len _ _ _ _ hsp) fun cdv hr => body cdv A outer s H vs Q E gs hr hsp
theorem pe_callG {X : Cx} {k : Nat} {f : Addr} {fd : FuncData} {ps : List Str} {sp : Sp} {x : Str} {p pos : Pos} {e : Expr} {es : List Expr} {t : TA}
    (G : FnOkG X.prog X.w X.K X.mg X.base k f fd ps sp) (gs : X.A.guards = some []) (room : Room k X.A) (isG : Gl X x) (at0 : X.mg x = some (.ref f)) (kp : PySem.W.keepIn X.K (.ref f) = true) (bd : Binds X.K fd ps []) (args : PA X (e :: es) t)
    (nd : (x == ("__debug__" : Str)) = false := by decide) (he : starEach (e :: es) X.env = (false, eval e X.env) :: starEach es X.env := by rfl) (hp : (backTo pos (starEach es X.env)).any (·.1) = false := by rfl) :
    PE X (.Call (.Name x p) (e :: es) [] pos) (tCall sp [] E0 t) := by
  constructor
  intro pins s σ H Q I h
  refine wpAny_Call_Name_kw (ld_glob I isG at0 ?_ nd)
  refine PySem.W.callWith_K (h₀ := X.base) I.ok.mod.kin kp (thn (args.run pos pins s σ H _ I h) ?_) he hp
  rintro us s1 ⟨vs, H1, I1, rel, q⟩
  refine ⟨I1.kIn, ?_⟩
  have q' : sp vs H1 Q E0 := by
    rw [List.append_nil] at q
    exact q
  have hl : (us ++ []).length = ps.length := by
    rw [List.append_nil, ← rel.length]
    exact G.len _ _ _ _ q'
  have bd' := bd s1 us I1.kIn hl
  rw [List.append_nil] at bd'
  refine wpAny_call (codeAny_mono (G.run X.A X.stack s1 H1 ⟨us, []⟩ us vs Q E0 gs room I1.env0 bd' rel q') ?_)
  intro r s' done
  cases r with
  | error e => exact done.elim
  | ok fl =>
    cases fl with
    | ret u => exact I1.after done
    | next => exact done.elim
    | brk => exact done.elim
    | cont => exact done.elim
/-- a def that asks for repr, with its promise -/
structure DfG (P : Program) (w : World) (K : PySem.W.Frag) (mg : Str → Option Value) (base : Heap) (k : Nat) (nm : Str) (ps : List Str) (sp : Sp) where
  f : Addr
  fd : FuncData
  ok : FnOkG P w K mg base k f fd ps sp
  b : Binds K fd ps []
  kp : PySem.W.keepIn K (.ref f) = true
  g : mg nm = some (.ref f)
/-! ### repr of data without dicts -/
mutual
def okR : PyData → Bool
  | .none => true
  | .bool _ => true
  | .int i => decide (0 ≤ i) && decide (i < 64)
  | .str x => decide (x.length ≤ 64) && x.cps.toList.all (· < 128)
  | .list xs => okRs xs
  | .tuple xs => okRs xs
  | .dict _ => false
def okRs : List PyData → Bool
  | [] => true
  | x :: xs => okR x && okRs xs
end
mutual
def wtR : PyData → Nat
  | .none => 4
  | .bool _ => 5
  | .int _ => 31
  | .str x => 10 * x.length + 2
  | .list xs => 3 + wtRs xs
  | .tuple xs => 3 + wtRs xs
  | .dict _ => 0
def wtRs : List PyData → Nat
  | [] => 0
  | x :: xs => wtR x + 2 + wtRs xs
end
theorem small_shown : ∀ n : Nat, n < 64 → (Str.ofString (toString (n : Int))).length ≤ 31 ∧ (n : Int).natAbs.log2 < 1920 := by decide +kernel
theorem listText_leR (ts : List Str) : (listText ts).length ≤ piled ts + 3 := by
  have h := textFrom_len_le ts 0 "["
  have e : (listText ts).length = (textFrom 0 "[" ts).length + 1 := by
    show (textFrom 0 "[" ts ++ "]").length = _
    rw [strLen_append]
    rfl
  have z : ∀ l : List Str, (l.map (·.length)).sum + 2 * l.length = piled l := by
    intro l
    induction l with
    | nil => rfl
    | cons t l ih =>
      rw [piled_cons, List.map_cons, List.sum_cons, List.length_cons]
      omega
  have z2 := z ts
  have z3 : (("[" : String) : Str).length = 1 := rfl
  omega
mutual
theorem shownR : ∀ d : PyData, okR d = true → d.shown.length ≤ wtR d ∧ d.showable = true ∧ d.hasDict = false
  | .none, _ => by
    simp only [PyData.shown, wtR, PyData.showable, PyData.hasDict, and_true]
    decide +kernel
  | .bool b, _ => by
    simp only [PyData.shown, wtR, PyData.showable, PyData.hasDict, and_true]
    cases b <;> decide +kernel
  | .int i, h => by
    simp only [okR, Bool.and_eq_true, decide_eq_true_eq] at h
    obtain ⟨h1, h2⟩ := small_shown i.toNat (by omega)
    rw [show ((i.toNat : Nat) : Int) = i by omega] at h1 h2
    simp only [PyData.shown, wtR, PyData.showable, PyData.hasDict, decide_eq_true_eq, and_true]
    exact ⟨h1, h2⟩
  | .str x, h => by
    simp only [okR, Bool.and_eq_true, decide_eq_true_eq, List.all_eq_true] at h
    have h1 := StrLaws.reprText_len x (fun c hc => Nat.lt_of_lt_of_le (h.2 c hc) (by decide))
    simp only [PyData.shown, wtR, PyData.showable, PyData.hasDict, and_true]
    omega
  | .list xs, h => by
    simp only [okR] at h
    obtain ⟨h1, h2, h3⟩ := shownRs xs h
    simp only [PyData.shown, wtR, PyData.showable, PyData.hasDict]
    exact ⟨Nat.le_trans (listText_leR _) (by omega), h2, h3⟩
  | .tuple xs, h => by
    simp only [okR] at h
    obtain ⟨h1, h2, h3⟩ := shownRs xs h
    simp only [PyData.shown, wtR, PyData.showable, PyData.hasDict]
    exact ⟨Nat.le_trans (fmt_text _) (by omega), h2, h3⟩
  | .dict _, h => by
    simp only [okR] at h
    exact absurd h Bool.false_ne_true
theorem shownRs : ∀ ds : List PyData, okRs ds = true → piled (PyData.shownAll ds) ≤ wtRs ds ∧ PyData.showableAll ds = true ∧ PyData.hasDictAll ds = false
  | [], _ => by
    simp only [PyData.shownAll, wtRs, PyData.showableAll, PyData.hasDictAll, and_true]
    exact Nat.le_refl _
  | d :: ds, h => by
    simp only [okRs, Bool.and_eq_true] at h
    obtain ⟨h1, h2, h5⟩ := shownR d h.1
    obtain ⟨h3, h4, h6⟩ := shownRs ds h.2
    simp only [PyData.shownAll, wtRs, PyData.showableAll, PyData.hasDictAll, h2, h4, h5, h6, Bool.and_self, Bool.or_self, and_true]
    rw [piled_cons]
    omega
end
def rReprR (K : PySem.W.Frag) : List V → Hp → VK → Prop := fun xs H Q => ∃ (a : Addr) (d : PyData), xs = [.ref a] ∧ Dp K H (.ref a) d ∧ okR d = true ∧ wtR d ≤ 1000000 ∧ d.depth ≤ 60 ∧ Q (.str d.shown) H
theorem call_reprR {X : Cx} (hg : X.A.guards = some []) (hu : X.A.units + 64 < cLine) : CallR X (.builtin "repr") (rReprR X.K) := by
  intro pins s σ H xs us Q I r h
  obtain ⟨a, d, rfl, hd, hs, hw, hz, q⟩ := h
  obtain ⟨u, rfl, rx⟩ := vals1 r
  cases rx
  obtain ⟨h1, h2, h3⟩ := shownR d hs
  obtain ⟨as, rd⟩ := Dp.reads I d _ _ hd rfl
  exact repr_of_reads' rd h2 (PyData.noDict_hsm h3) hg (by omega) (fun _ _ e => e) (fun h' u tk hk => ⟨.str d.shown, H, I.kept (t' := tk) hk, ⟨u, rfl⟩, q⟩) (by show _ ≤ 16777216; omega)
/-! ### walks -/
inductive Kd where
  | first
  | between
  | last
def Kd.str : Kd → Str
  | .first => "first"
  | .between => "between"
  | .last => "last"
def B.post : B → List Nat
  | .nil => []
  | .node l x r => l.post ++ r.post ++ [x]
def B.wk (k : Kd) (t : B) : List Nat := match k with
  | .first => t.pre
  | .between => t.mid
  | .last => t.post
def B.steps (k : Kd) : B → List Nat → List (List Nat × Nat)
  | .nil, _ => []
  | .node l x r, q => match k with
    | .first => [(q, x)] ++ l.steps k (q ++ [108]) ++ r.steps k (q ++ [114])
    | .between => l.steps k (q ++ [108]) ++ [(q, x)] ++ r.steps k (q ++ [114])
    | .last => l.steps k (q ++ [108]) ++ r.steps k (q ++ [114]) ++ [(q, x)]
theorem B.steps_wk (k : Kd) (t : B) : ∀ q : List Nat, (t.steps k q).map (·.2) = t.wk k := by
  induction t with
  | nil => intro q; cases k <;> rfl
  | node l x r h1 h2 =>
    intro q
    have a := h1 (q ++ [108])
    have b := h2 (q ++ [114])
    cases k
    · show ([(q, x)] ++ l.steps .first (q ++ [108]) ++ r.steps .first (q ++ [114])).map (·.2) = x :: (l.pre ++ r.pre)
      rw [List.map_append, List.map_append, a, b]; rfl
    · show (l.steps .between (q ++ [108]) ++ [(q, x)] ++ r.steps .between (q ++ [114])).map (·.2) = l.mid ++ x :: r.mid
      rw [List.map_append, List.map_append, a, b]
      show l.mid ++ [x] ++ r.mid = _
      rw [List.append_assoc]; rfl
    · show (l.steps .last (q ++ [108]) ++ r.steps .last (q ++ [114]) ++ [(q, x)]).map (·.2) = l.post ++ r.post ++ [x]
      rw [List.map_append, List.map_append, a, b]; rfl
theorem B.wk_len (k : Kd) (t : B) : (t.wk k).length = t.size := by
  cases k
  · exact t.pre_len
  · exact t.mid_len
  · show t.post.length = t.size
    induction t with
    | nil => rfl
    | node l x r h1 h2 =>
      show (l.post ++ r.post ++ [x]).length = l.size + 1 + r.size
      rw [List.length_append, List.length_append, h1, h2, List.length_cons, List.length_nil]
      omega
theorem B.steps_len (k : Kd) (t : B) (q : List Nat) : (t.steps k q).length = t.size := by
  rw [← t.wk_len k, ← t.steps_wk k q, List.length_map]
inductive StAt (H : Hp) : List V → List (List Nat × Nat) → Prop
  | nil : StAt H [] []
  | cons {a : Addr} {q : List Nat} {x : Nat} {vs : List V} {ss : List (List Nat × Nat)} : H a = some (.tup [.str (tx q), .str (ch x)]) → StAt H vs ss → StAt H (.ref a :: vs) ((q, x) :: ss)
theorem StAt.keep {H H' : Hp} (k : KeepT H H') {vs : List V} {ss : List (List Nat × Nat)} (h : StAt H vs ss) : StAt H' vs ss := by
  induction h with
  | nil => exact .nil
  | cons e _ ih => exact .cons (k _ _ e) ih
theorem StAt.same {H H' : Hp} (k : Same H H') {vs : List V} {ss : List (List Nat × Nat)} (h : StAt H vs ss) : StAt H' vs ss := h.keep (Tw.Same.keepT k)
theorem StAt.app {H : Hp} {vs us : List V} {ss ts : List (List Nat × Nat)} (h : StAt H vs ss) (g : StAt H us ts) : StAt H (vs ++ us) (ss ++ ts) := by
  induction h with
  | nil => exact g
  | cons e _ ih => exact .cons e ih
theorem StAt.len {H : Hp} {vs : List V} {ss : List (List Nat × Nat)} (h : StAt H vs ss) : vs.length = ss.length := by
  induction h with
  | nil => rfl
  | cons _ _ ih => rw [List.length_cons, List.length_cons, ih]
theorem StAt.get {H : Hp} {vs : List V} {ss : List (List Nat × Nat)} (h : StAt H vs ss) : ∀ {i : Nat} {v : V}, vs[i]? = some v → ∃ a q x, v = .ref a ∧ ss[i]? = some (q, x) ∧ H a = some (.tup [.str (tx q), .str (ch x)]) := by
  induction h with
  | nil => intro i v e; simp at e
  | cons e _ ih =>
    intro i v he
    cases i with
    | zero => cases he; exact ⟨_, _, _, rfl, rfl, e⟩
    | succ i => exact ih he
theorem str_l : Str.ofString "l" = tx [108] := by decide +kernel
theorem str_r : Str.ofString "r" = tx [114] := by decide +kernel
theorem str_0 : Str.ofString "" = tx [] := by decide +kernel
def spDeep (n : Nat) : Sp := fun vs H Q _ => ∃ (v : V) (t : B) (k : Kd) (q : List Nat), vs = [v, .str k.str, .str (tx q)] ∧ BAt H v t ∧ t.size < n ∧ t.size + q.length ≤ 200 ∧
  ∀ (p : Addr) (us : List V) (H' : Hp), Same H H' → H' p = some (.lst us) → StAt H' us (t.steps k q) → Q (.ref p) H'
theorem iteS {x y : Str} {A B : Prop} (h : x = y) (a : A) : if decide (V.str x = V.str y) = true then A else B := by
  rw [if_pos (decide_eq_true (congrArg V.str h))]; exact a
theorem iteR {x y : Str} {A B : Prop} (h : x ≠ y) (b : B) : if decide (V.str x = V.str y) = true then A else B := by
  rw [if_neg (fun z => h (V.str.inj (of_decide_eq_true z)))]; exact b
section
variable {P : Program} {w : World} {K : PySem.W.Frag} {mg : Str → Option Value} {base : Heap} {f : Addr} {fd : FuncData}
theorem ok_deep (F : Fun K "deep_steps" "deep_steps" s_deep_steps f fd) (b : Binds K fd ["tree", "kind", "path"] []) (g : mg "deep_steps" = some (.ref f)) : ∀ n : Nat, FnOk P w K mg base CX0 n f fd ["tree", "kind", "path"] (spDeep n)
  | 0 => by
    have no : ∀ vs H Q E, ¬ spDeep 0 vs H Q E := fun vs H Q E h => by
      obtain ⟨v, t, k, q, _, _, h1, _⟩ := h
      omega
    exact ⟨fun vs H Q E h => absurd h (no vs H Q E), fun A outer s H args us vs Q E _ _ _ _ h => absurd h (no vs H Q E)⟩
  | n + 1 => by
    have Dself : Df P w K mg base n "deep_steps" ["tree", "kind", "path"] (spDeep n) := ⟨f, fd, ok_deep F b g n, b, F.kp, g⟩
    refine F.ok sc_deep_steps (fun vs H Q E h => ?_) (fun cdv A outer s H vs Q E hr h => ?_)
    · obtain ⟨v, t, k, q, rfl, _⟩ := h
      rfl
    obtain ⟨v, t, k, pth, rfl, hv, hn, hz, q⟩ := h
    refine ⟨_, (pss_cons (ps_if (pt_cmpR op_isN (pv 0) pe_non (nomark _))
      (pss_one (ps_ret (pe_lst pa_nil))) pss_nil)
    (pss_cons (ps_asg (pv 0) (pg_tup rfl (pgs_cons (pg_name (i := 3) sc_deep_steps.nd rfl (.inl rfl)) (pgs_cons (pg_name (i := 4) sc_deep_steps.nd rfl (.inl rfl)) (pgs_cons (pg_name (i := 5) sc_deep_steps.nd rfl (.inl rfl)) pgs_nil)))))
    (pss_cons (ps_set (i := 6) sc_deep_steps.nd rfl (.inl rfl) (pe_lst (pa_cons (pe_tup (pa_cons (pv 2) (pa_cons (pv 4) pa_nil))) pa_nil)))
    (pss_cons (ps_set (i := 7) sc_deep_steps.nd rfl (.inl rfl) (pe_call Dself.ok (hr.mono (by omega)) rfl Dself.g Dself.kp Dself.b .nil pass0 (pa_cons (pv 3) (pa_cons (pv 1) (pa_cons (pe_op op_add_str (pv 2) pe_str) pa_nil)))))
    (pss_cons (ps_set (i := 8) sc_deep_steps.nd rfl (.inl rfl) (pe_call Dself.ok (hr.mono (by omega)) rfl Dself.g Dself.kp Dself.b .nil pass0 (pa_cons (pv 5) (pa_cons (pv 1) (pa_cons (pe_op op_add_str (pv 2) pe_str) pa_nil)))))
    (pss_cons (ps_if (pt_cmpR op_eq (pv 1) pe_str (nomark _))
      (pss_one (ps_ret (pe_op op_cat (pe_op op_cat (pv 6) (pv 7)) (pv 8)))) pss_nil)
    (pss_cons (ps_if (pt_cmpR op_eq (pv 1) pe_str (nomark _))
      (pss_one (ps_ret (pe_op op_cat (pe_op op_cat (pv 7) (pv 6)) (pv 8)))) pss_nil)
    (pss_one (ps_ret (pe_op op_cat (pe_op op_cat (pv 7) (pv 8)) (pv 6))))))))))), ?_⟩
    rcases hv.inv with ⟨rfl, rfl⟩ | ⟨a, l, r, x, tl, tr, rfl, rfl, ea, hl, hr'⟩
    · refine ⟨_, rfl, rfl, _, rfl, iteT ⟨(by show 0 ≤ sizeLine; decide), fun p np => ?_⟩⟩
      exact q p [] _ (same_new np _) upd_same .nil
    · refine ⟨_, rfl, rfl, _, rfl, iteF ?_⟩
      refine ⟨_, rfl, a, _, rfl, SqT.of ea, rfl, _, _, rfl, _, _, rfl, _, _, rfl, rfl, ?_⟩
      have sz : tl.size + 1 + tr.size < n + 1 := hn
      have sz2 : tl.size + 1 + tr.size + pth.length ≤ 200 := hz
      -- root
      refine ⟨_, rfl, _, rfl, (by show 2 ≤ sizeLine; decide), fun tp ntp => ⟨(by show 1 ≤ sizeLine; decide), fun ro nro => ?_⟩⟩
      have q1 := same_new ntp (.tup [.str (tx pth), .str (ch x)])
      have q2 := same_new nro (.lst [.ref tp])
      have etp := q2 _ _ (upd_same (H := H) (a := tp) (o := .tup [.str (tx pth), .str (ch x)]))
      have ero := upd_same (H := upd H tp (.tup [.str (tx pth), .str (ch x)])) (a := ro) (o := .lst [.ref tp])
      have s1 := q1.trans q2
      generalize upd (upd H tp (.tup [.str (tx pth), .str (ch x)])) ro (.lst [.ref tp]) = H1 at etp ero s1
      -- lefts
      refine ⟨_, rfl, _, rfl, _, rfl, _, _, rfl, rfl, ?_, ?_⟩
      · rw [str_l, tx_len, tx_len]; exact small (by show _ + 1 ≤ 1000; omega)
      rw [str_l, tx_app]
      refine ⟨l, tl, k, pth ++ [108], rfl, hl.same s1, by omega, by rw [List.length_append]; show _ + (_ + 1) ≤ 200; omega, fun lp ul H2 s2 elp stl => ?_⟩
      -- rights
      refine ⟨_, rfl, _, rfl, _, rfl, _, _, rfl, rfl, ?_, ?_⟩
      · rw [str_r, tx_len, tx_len]; exact small (by show _ + 1 ≤ 1000; omega)
      rw [str_r, tx_app]
      refine ⟨r, tr, k, pth ++ [114], rfl, (hr'.same s1).same s2, by omega, by rw [List.length_append]; show _ + (_ + 1) ≤ 200; omega, fun rp ur H3 s3 erp str => ?_⟩
      have ero3 := s3 _ _ (s2 _ _ ero)
      have elp3 := s3 _ _ elp
      have strt : StAt H3 [.ref tp] [(pth, x)] := .cons (s3 _ _ (s2 _ _ etp)) .nil
      have stl3 := stl.same s3
      have sA := (s1.trans s2).trans s3
      have ll := stl.len
      have lr := str.len
      rw [B.steps_len] at ll lr
      cases k
      · refine ⟨_, rfl, rfl, _, rfl, iteS rfl ?_⟩
        refine ⟨_, rfl, _, rfl, ro, lp, _, _, rfl, rfl, ero3, elp3, small (by show 1 + _ ≤ 1000; omega), fun c1 n1 => ?_⟩
        have k1 := same_new n1 (.lst ([.ref tp] ++ ul))
        refine ⟨_, rfl, c1, rp, _, _, rfl, rfl, upd_same, k1 _ _ erp, small (by rw [List.length_append]; show 1 + _ + _ ≤ 1000; omega), fun c2 n2 => ?_⟩
        have k2 := same_new n2 (.lst ([.ref tp] ++ ul ++ ur))
        exact q c2 _ _ (sA.trans (k1.trans k2)) upd_same (((strt.app stl3).app str).same (k1.trans k2))
      · refine ⟨_, rfl, rfl, _, rfl, iteR (by decide +kernel) ?_⟩
        refine ⟨_, rfl, rfl, _, rfl, iteS rfl ?_⟩
        refine ⟨_, rfl, _, rfl, lp, ro, _, _, rfl, rfl, elp3, ero3, small (by show _ + 1 ≤ 1000; omega), fun c1 n1 => ?_⟩
        have k1 := same_new n1 (.lst (ul ++ [.ref tp]))
        refine ⟨_, rfl, c1, rp, _, _, rfl, rfl, upd_same, k1 _ _ erp, small (by rw [List.length_append]; show _ + 1 + _ ≤ 1000; omega), fun c2 n2 => ?_⟩
        have k2 := same_new n2 (.lst (ul ++ [.ref tp] ++ ur))
        exact q c2 _ _ (sA.trans (k1.trans k2)) upd_same (((stl3.app strt).app str).same (k1.trans k2))
      · refine ⟨_, rfl, rfl, _, rfl, iteR (by decide +kernel) ?_⟩
        refine ⟨_, rfl, rfl, _, rfl, iteR (by decide +kernel) ?_⟩
        refine ⟨_, rfl, _, rfl, lp, rp, _, _, rfl, rfl, elp3, erp, small (by omega), fun c1 n1 => ?_⟩
        have k1 := same_new n1 (.lst (ul ++ ur))
        refine ⟨_, rfl, c1, ro, _, _, rfl, rfl, upd_same, k1 _ _ ero3, small (by rw [List.length_append]; show _ + _ + 1 ≤ 1000; omega), fun c2 n2 => ?_⟩
        have k2 := same_new n2 (.lst (ul ++ ur ++ [.ref tp]))
        exact q c2 _ _ (sA.trans (k1.trans k2)) upd_same (((stl3.app str).app strt).same (k1.trans k2))
/-- the tuple KINDS of the text -/
structure KindsT (K : PySem.W.Frag) (mg : Str → Option Value) (a : Addr) : Prop where
  mg : mg "KINDS" = some (.ref a)
  sq : ∀ H : Hp, SqT K H a [.str "first", .str "between", .str "last", .str "level"]
def spKind : Sp := fun vs H Q _ => ∃ k : Kd, vs = [.str k.str] ∧ Q (.bl true) H
theorem ok_kind {k : Nat} {aK : Addr} (F : Fun K "is_kind" "is_kind" s_is_kind f fd) (M : Mgs mg) (Kk : KindsT K mg aK) : FnOk P w K mg base CX0 (k + 1) f fd ["value"] spKind := by
  refine F.ok sc_is_kind (fun vs H Q E h => ?_) (fun cdv A outer s H vs Q E hr h => ?_)
  · obtain ⟨k, rfl, _⟩ := h
    rfl
  obtain ⟨k, rfl, q⟩ := h
  refine ⟨_, (pss_one (ps_ret (pe_and (pe_callB call_isi rfl M.isinstance (by decide +kernel) (pa_cons (pv 0) (pa_cons (pe_bltn (v := .ty "str") rfl M.str (by decide +kernel) rfl) pa_nil))) (pe_one (pe_cmpR op_in_seq (pv 0) (pe_glob (v := .ref _) rfl Kk.mg rfl) (by rfl)))))), ?_⟩
  refine ⟨_, rfl, _, _, _, _, true, rfl, .ty _, .base (.str _), kit_ty (by decide +kernel), _, rfl, iteT ?_⟩
  refine ⟨_, rfl, aK, _, rfl, .inr (Kk.sq H), rfl, ?_, ?_⟩
  · rfl
  · have e : (if false = true then !inV (.str k.str) [.str "first", .str "between", .str "last", .str "level"] else inV (.str k.str) [.str "first", .str "between", .str "last", .str "level"]) = true := by
      cases k <;> decide +kernel
    rw [e]
    exact q
def spSteps : Sp := fun vs H Q _ => ∃ (v : V) (t : B) (k : Kd), vs = [v, .str k.str] ∧ BAt H v t ∧ t.size ≤ 50 ∧
  ∀ (p : Addr) (us : List V) (H' : Hp), Same H H' → H' p = some (.lst us) → StAt H' us (t.steps k []) → Q (.ref p) H'
theorem ok_steps (F : Fun K "ordered_steps" "ordered_steps" s_ordered_steps f fd) (Dis_kind : Df P w K mg base 1 "is_kind" ["value"] spKind) (Ddeep_steps : Df P w K mg base 60 "deep_steps" ["tree", "kind", "path"] (spDeep 60)) :
    FnOk P w K mg base CX0 61 f fd ["tree", "kind"] spSteps := by
  refine F.ok sc_ordered_steps (fun vs H Q E h => ?_) (fun cdv A outer s H vs Q E hr h => ?_)
  · obtain ⟨v, t, k, rfl, _⟩ := h
    rfl
  obtain ⟨v, t, k, rfl, hv, hz, q⟩ := h
  refine ⟨_, (pss_cons (ps_if (pt_not (pt_val (pe_call Dis_kind.ok (hr.mono (by omega)) rfl Dis_kind.g Dis_kind.kp Dis_kind.b .nil pass0 (pa_cons (pv 1) pa_nil))))
      (pss_one ps_never) pss_nil)
    (pss_cons (ps_if (pt_cmpR op_eq (pv 1) pe_str (nomark _))
      (pss_one ps_never) pss_nil)
    (pss_one (ps_ret (pe_call Ddeep_steps.ok (hr.mono (by omega)) rfl Ddeep_steps.g Ddeep_steps.kp Ddeep_steps.b .nil pass0 (pa_cons (pv 0) (pa_cons (pv 1) (pa_cons pe_str pa_nil)))))))), ?_⟩
  refine ⟨_, rfl, k, rfl, _, rfl, iteF ?_⟩
  refine ⟨_, rfl, rfl, _, rfl, iteR (by cases k <;> decide +kernel) ?_⟩
  refine ⟨_, rfl, _, rfl, v, t, k, [], ?_, hv, by omega, by show t.size + 0 ≤ 200; omega, q⟩
  rw [← str_0]
  rfl
def spWalk : Sp := fun vs H Q _ => ∃ (v : V) (t : B) (k : Kd), vs = [v, .str k.str] ∧ BAt H v t ∧ t.size ≤ 50 ∧ ∀ H', Same H H' → Q (.str (tx (t.wk k))) H'
theorem ok_walk (F : Fun K "walk" "walk" s_walk f fd) (Dordered_steps : Df P w K mg base 61 "ordered_steps" ["tree", "kind"] spSteps) : FnOk P w K mg base CX0 62 f fd ["tree", "kind"] spWalk := by
  refine F.ok sc_walk (fun vs H Q E h => ?_) (fun cdv A outer s H vs Q E hr h => ?_)
  · obtain ⟨v, t, k, rfl, _⟩ := h
    rfl
  obtain ⟨v, t, k, rfl, hv, hz, q⟩ := h
  refine ⟨_, (pss_one (ps_ret (pe_bm PySem.F.plainAttrs_str PySem.F.slot_str_join PySem.F.type_str_join mt_join pe_str (pa_cons (pe_lc (own := [("path", 2), ("label", 3)]) (g := gTup K 2 (gCons (gName 2) (gCons (gName 3) gNil))) (tt := tYes) rfl sc_walk.nd (pi_list (pe_call Dordered_steps.ok (hr.mono (by omega)) rfl Dordered_steps.g Dordered_steps.kp Dordered_steps.b .nil pass0 (pa_cons (pv 0) (pa_cons (pv 1) pa_nil)))) (blkOk_by (N := ["tree", "kind", "path", "label"]) (sc := defScope s_walk) (by decide +kernel)) (fun _ _ _ _ _ => (pg_tup rfl (pgs_cons (pg_name (i := 2) sc_walk.nd rfl (.inl rfl)) (pgs_cons (pg_name (i := 3) sc_walk.nd rfl (.inl rfl)) pgs_nil)))) (fun _ _ _ _ _ => pts_nil) (fun _ _ _ _ _ => (pv 3))) pa_nil)))), ?_⟩
  refine ⟨rfl, _, rfl, _, rfl, v, t, k, rfl, hv, hz, fun p us H1 s1 ep st => ?_⟩
  refine ⟨p, rfl, ⟨_, SqL.of ep⟩, fun D nD => ?_⟩
  have q1 := same_new nD (.lst [])
  have hl := st.len
  rw [B.steps_len] at hl
  have ez := t.steps_wk k []
  refine lc_list (K := K) (a := p) (xs := us) (fun i H' => Same H1 H' ∧ H' D = some (.lst (((t.wk k).take i).map vc))) ⟨q1, upd_same⟩ (fun i H' _ hp => SqL.of (hp.1 _ _ ep)) (fun i x H' hx hp => ?_) (fun H' hp => ?_)
  · obtain ⟨sm, ed⟩ := hp
    obtain ⟨a, pq, c, rfl, es, ea⟩ := st.get hx
    have hc : (t.wk k)[i]? = some c := by rw [← ez, List.getElem?_map, es]; rfl
    have hi := (List.getElem?_eq_some_iff.mp hx).1
    refine ⟨a, _, rfl, SqT.of (sm _ _ ea), rfl, _, _, rfl, _, _, rfl, rfl, rfl, kept ?_⟩
    refine ⟨_, rfl, _, ed, ?_, fun b o e => ?_, ?_⟩
    · rw [List.length_map, List.length_take]; exact small1000 (by omega)
    · rw [upd_ne (ne_of_none e nD)]; exact sm _ _ e
    · rw [upd_same, take_next hc, List.map_append]; rfl
  · obtain ⟨sm, ed⟩ := hp
    have tk : (t.wk k).take us.length = t.wk k := List.take_of_length_le (by rw [t.wk_len k]; omega)
    rw [tk, map_vc] at ed
    refine ⟨_, D, (t.wk k).map ch, rfl, rfl, .inl (SqL.of ed), tx_joinOk _ (by rw [t.wk_len k]; omega), ?_⟩
    rw [tx_join]
    exact q H' (s1.trans sm)
end
/-! ### is_letter, is_node, is_tree of a tree -/
def isLow (c : Nat) : Bool := decide (97 ≤ c) && decide (c ≤ 122)
def isLt : List Nat → Bool
  | [c] => isLow c
  | _ => false
def spLow : Sp := fun vs H Q _ => ∃ l : List Nat, vs = [.str (tx l)] ∧ l.length ≤ 1 ∧ Q (.bl (isLt l)) H
/-- all labels are letters -/
def B.lts (t : B) : Prop := ∀ c ∈ t.pre, isLow c = true
theorem B.lts_node {l r : B} {x : Nat} : (B.node l x r).lts ↔ isLow x = true ∧ l.lts ∧ r.lts := by
  unfold B.lts
  constructor
  · intro h
    exact ⟨h x List.mem_cons_self, fun c hc => h c (List.mem_cons_of_mem _ (List.mem_append_left _ hc)), fun c hc => h c (List.mem_cons_of_mem _ (List.mem_append_right _ hc))⟩
  · rintro ⟨h1, h2, h3⟩ c hc
    rcases List.mem_cons.mp hc with rfl | hc
    · exact h1
    · rcases List.mem_append.mp hc with hc | hc
      · exact h2 c hc
      · exact h3 c hc
theorem B.lts_nil : B.nil.lts := fun _ h => nomatch h
inductive FsAt (H : Hp) : List V → Nat → Prop
  | nil : FsAt H [] 0
  | cons {v : V} {t : B} {vs : List V} {n : Nat} : BAt H v t → t ≠ .nil → t.lts → FsAt H vs n → FsAt H (v :: vs) (t.size + n)
theorem B.size_pos {t : B} (h : t ≠ .nil) : 1 ≤ t.size := by
  cases t with
  | nil => exact absurd rfl h
  | node l x r => show 1 ≤ l.size + 1 + r.size; omega
theorem FsAt.same {H H' : Hp} (s : Same H H') {vs : List V} {n : Nat} (h : FsAt H vs n) : FsAt H' vs n := by
  induction h with
  | nil => exact .nil
  | cons a b c _ ih => exact .cons (a.same s) b c ih
theorem FsAt.keepT {H H' : Hp} (s : KeepT H H') {vs : List V} {n : Nat} (h : FsAt H vs n) : FsAt H' vs n := by
  induction h with
  | nil => exact .nil
  | cons a b c _ ih => exact .cons (a.keep s) b c ih
theorem FsAt.app {H : Hp} {vs ws : List V} {n m : Nat} (h : FsAt H vs n) (g : FsAt H ws m) : FsAt H (vs ++ ws) (n + m) := by
  induction h with
  | nil => rw [Nat.zero_add]; exact g
  | cons a b c _ ih => rw [Nat.add_assoc]; exact .cons a b c ih
theorem FsAt.len {H : Hp} {vs : List V} {n : Nat} (h : FsAt H vs n) : vs.length ≤ n := by
  induction h with
  | nil => exact Nat.le_refl _
  | cons _ b _ _ ih => have := B.size_pos b; rw [List.length_cons]; omega
theorem FsAt.last {H : Hp} {vs : List V} {n : Nat} (h : FsAt H vs n) : vs ≠ [] → ∃ v t m, vs[vs.length - 1]? = some v ∧ n = m + t.size ∧ BAt H v t ∧ t ≠ .nil ∧ t.lts ∧ FsAt H vs.dropLast m := by
  induction h with
  | nil => intro z; exact absurd rfl z
  | @cons v t vs n a b c hh ih =>
    intro _
    cases vs with
    | nil => cases hh; exact ⟨v, t, 0, rfl, by omega, a, b, c, .nil⟩
    | cons w ws =>
      obtain ⟨u, t', m, e1, e2, e3, e4, e5, e6⟩ := ih (by simp)
      refine ⟨u, t', t.size + m, ?_, by omega, e3, e4, e5, .cons a b c e6⟩
      show (w :: ws)[(w :: ws).length - 1]? = some u
      exact e1
def keepV : V → List V
  | .non => []
  | v => [v]
theorem keep_step {xs : List V} {j : Nat} {x : V} (h : xs[j]? = some x) : (xs.take (j + 1)).flatMap keepV = (xs.take j).flatMap keepV ++ keepV x := by
  rw [List.take_add_one, h, List.flatMap_append]
  congr 1
  show keepV x ++ [] = keepV x
  rw [List.append_nil]
theorem keep_len : ∀ xs : List V, (xs.flatMap keepV).length ≤ xs.length
  | [] => Nat.le_refl _
  | x :: xs => by
    have h := keep_len xs
    have h1 : (keepV x).length ≤ 1 := by cases x <;> first | exact Nat.zero_le _ | exact Nat.le_refl _
    rw [List.flatMap_cons, List.length_append, List.length_cons]
    omega
theorem FsAt.keep {H : Hp} {v : V} {t : B} (h : BAt H v t) (l : t.lts) : FsAt H (keepV v) t.size := by
  rcases h.inv with ⟨rfl, rfl⟩ | ⟨a, vl, vr, x, tl, tr, rfl, rfl, _⟩
  · exact .nil
  · exact .cons h (fun z => nomatch z) l .nil
def spNodeT : Sp := fun vs H Q _ => ∃ (v : V) (t : B), vs = [v] ∧ BAt H v t ∧ t ≠ .nil ∧ t.lts ∧ Q (.bl true) H
def spTreeT : Sp := fun vs H Q _ => ∃ (v : V) (t : B), vs = [v] ∧ BAt H v t ∧ t ≠ .nil ∧ t.lts ∧ t.size ≤ 12 ∧ ∀ H', Same H H' → Q (.bl true) H'
def toGo (σ : L2.St) : Nat := match σ[1]? with
  | some (some (V.int c)) => (13 - c).toNat
  | _ => 0
def spSz (n : Nat) : Sp := fun vs H Q _ => ∃ (v : V) (t : B), vs = [v] ∧ BAt H v t ∧ t.size < n ∧ Q (.int (t.size : Int)) H
section
variable {P : Program} {w : World} {K : PySem.W.Frag} {mg : Str → Option Value} {base : Heap} {f : Addr} {fd : FuncData}
theorem ok_low {k : Nat} (F : Fun K "is_letter" "is_letter" s_is_letter f fd) (M : Mgs mg) : FnOk P w K mg base CX0 (k + 1) f fd ["value"] spLow := by
  refine F.ok sc_is_letter (fun vs H Q E h => ?_) (fun cdv A outer s H vs Q E hr h => ?_)
  · obtain ⟨l, rfl, _⟩ := h
    rfl
  obtain ⟨l, rfl, hl, q⟩ := h
  refine ⟨_, (pss_one (ps_ret (pe_and (pe_callB call_isi rfl M.isinstance (by decide +kernel) (pa_cons (pv 0) (pa_cons (pe_bltn (v := .ty "str") rfl M.str (by decide +kernel) rfl) pa_nil))) (pe_and (pe_cmpR op_eq (pe_callB call_len_str rfl M.len PySem.boot_len (pa_cons (pv 0) pa_nil)) pe_int (nomark _)) (pe_one (pe_chain op_le_str op_le_str pe_str (pv 0) pe_str)))))), ?_⟩
  refine ⟨_, rfl, _, _, _, _, true, rfl, .ty _, .base (.str (tx l)), kit_ty (by decide +kernel), _, rfl, iteT ?_⟩
  refine ⟨_, rfl, tx l, rfl, small (by rw [tx_len]; omega), rfl, _, rfl, ?_⟩
  match l, hl, q with
  | [], _, q => exact iteF q
  | [c], _, q =>
    rw [show decide (V.int ((tx [c]).length : Nat) = V.int 1) = true from rfl]
    refine iteT ⟨_, rfl, _, _, rfl, rfl, _, rfl, ?_⟩
    have e1 : (!decide ((tx [c]).cps.toList < (Str.ofString "a").cps.toList)) = decide (97 ≤ c) := by
      rw [show (Str.ofString "a").cps.toList = [97] by decide +kernel, show (tx [c]).cps.toList = [c] from rfl]
      by_cases h : c < 97
      · rw [decide_eq_true (by simp [List.cons_lt_cons_iff, h]), decide_eq_false (by omega)]; rfl
      · rw [decide_eq_false (by simp [List.cons_lt_cons_iff, h]), decide_eq_true (by omega)]; rfl
    have e2 : (!decide ((Str.ofString "z").cps.toList < (tx [c]).cps.toList)) = decide (c ≤ 122) := by
      rw [show (Str.ofString "z").cps.toList = [122] by decide +kernel, show (tx [c]).cps.toList = [c] from rfl]
      by_cases h : 122 < c
      · rw [decide_eq_true (by simp [List.cons_lt_cons_iff, h]), decide_eq_false (by omega)]; rfl
      · rw [decide_eq_false (by simp [List.cons_lt_cons_iff, h]), decide_eq_true (by omega)]; rfl
    rw [e1]
    have q : Q (.bl (decide (97 ≤ c) && decide (c ≤ 122))) H := q
    by_cases h : 97 ≤ c
    · rw [decide_eq_true h] at q ⊢
      refine iteT ⟨_, _, rfl, rfl, ?_⟩
      rw [e2]
      exact q
    · rw [decide_eq_false h] at q ⊢
      exact iteF q
theorem ok_node {k : Nat} (F : Fun K "is_node" "is_node" s_is_node f fd) (M : Mgs mg) (Dis_letter : Df P w K mg base (k + 1) "is_letter" ["value"] spLow) : FnOk P w K mg base CX0 (k + 2) f fd ["value"] spNodeT := by
  refine F.ok sc_is_node (fun vs H Q E h => ?_) (fun cdv A outer s H vs Q E hr h => ?_)
  · obtain ⟨v, t, rfl, _⟩ := h
    rfl
  obtain ⟨v, t, rfl, ht, hn, hl, q⟩ := h
  refine ⟨_, (pss_one (ps_ret (pe_and (pe_callB call_isi rfl M.isinstance (by decide +kernel) (pa_cons (pv 0) (pa_cons (pe_bltn (v := .ty "tuple") rfl M.tuple (by decide +kernel) rfl) pa_nil))) (pe_and (pe_cmpR op_eq (pe_callB call_len_seq rfl M.len PySem.boot_len (pa_cons (pv 0) pa_nil)) pe_int (nomark _)) (pe_one (pe_call Dis_letter.ok (hr.mono (by omega)) rfl Dis_letter.g Dis_letter.kp Dis_letter.b .nil pass0 (pa_cons (pe_ix ix_tup (pv 0) pe_int (fun _ _ => rfl)) pa_nil))))))), ?_⟩
  rcases ht.inv with ⟨_, rfl⟩ | ⟨a, vl, vr, x, tl, tr, rfl, rfl, e, _⟩
  · exact absurd rfl hn
  have hx := (B.lts_node.mp hl).1
  refine ⟨_, rfl, _, _, _, _, true, rfl, .ty _, .base (.tup e), kit_ty (by decide +kernel), _, rfl, iteT ?_⟩
  refine ⟨_, rfl, a, _, rfl, .inr (SqT.of e), rfl, _, rfl, iteT ?_⟩
  refine ⟨_, rfl, a, _, 1, _, rfl, rfl, SqT.of e, atI_nat (j := 1) rfl, [x], rfl, Nat.le_refl _, ?_⟩
  have : isLt [x] = true := hx
  rw [this]
  exact q
theorem ok_isTree {tM : Tok} (F : Fun K "is_tree" "is_tree" s_is_tree f fd) (mMAX : mg "MAX_NODES" = some (.int 12 tM)) (Dis_node : Df P w K mg base 2 "is_node" ["value"] spNodeT) : FnOk P w K mg base CX0 3 f fd ["value"] spTreeT := by
  refine F.ok sc_is_tree (fun vs H Q E h => ?_) (fun cdv A outer s H vs Q E hr h => ?_)
  · obtain ⟨v, t, rfl, _⟩ := h
    rfl
  obtain ⟨v, t, rfl, ht, hn, hlt, hsz, q⟩ := h
  refine ⟨_, (pss_cons (ps_set (i := 1) sc_is_tree.nd rfl (.inl rfl) pe_int)
    (pss_cons (ps_set (i := 2) sc_is_tree.nd rfl (.inl rfl) (pe_lst (pa_cons (pv 0) pa_nil)))
    (pss_cons (ps_while PassesOwn.never (pt_truth (pv 2) (by intro _; rfl))
      (pss_cons (ps_set (i := 3) sc_is_tree.nd rfl (.inl rfl) (pe_bm0 PySem.F.plainAttrs_list PySem.F.slot_list_pop PySem.F.type_list_pop mt_pop (pv 2)))
    (pss_cons (ps_aug (i := 1) sc_is_tree.nd rfl (.inl rfl) pe_int ip_add)
    (pss_cons (ps_if (PW.pt (pw_or (pt_cmpR op_gt (pv 1) (pe_glob (v := .int _) rfl mMAX ⟨_, rfl⟩) (nomark _)) (pw_or1 (pt_not (pt_val (pe_call Dis_node.ok (hr.mono (by omega)) rfl Dis_node.g Dis_node.kp Dis_node.b .nil pass0 (pa_cons (pv 3) pa_nil)))))))
      (pss_one (ps_ret pe_bl)) pss_nil)
    (pss_one (ps_expr (pe_bm PySem.F.plainAttrs_list PySem.F.slot_list_extend PySem.F.type_list_extend mt_extend (pv 2) (pa_cons (pe_lc (own := [("side", 4)]) (g := gName 4) rfl sc_is_tree.nd (pi_tup (pe_tup (pa_cons (pe_ix ix_tup (pv 3) pe_int (fun _ _ => rfl)) (pa_cons (pe_ix ix_tup (pv 3) pe_int (fun _ _ => rfl)) pa_nil)))) (blkOk_by (N := ["value", "count", "waiting", "part", "side"]) (sc := defScope s_is_tree) (by decide +kernel)) (fun _ _ _ _ _ => (pg_name (i := 4) sc_is_tree.nd rfl (.inl rfl))) (fun _ _ _ _ _ => pts_one (pt_cmpR op_notN (pv 4) pe_non (nomark _))) (fun _ _ _ _ _ => (pv 4))) pa_nil))))))))
    (pss_one (ps_ret pe_bl))))), ?_⟩
  refine ⟨_, rfl, (by show 1 ≤ sizeLine; decide), fun wa nw => ?_⟩
  have q0 := same_new nw (.lst [v])
  refine while_by (c := fun σ H' Q' => tVar 2 σ H' fun x H2 => ∃ k, TruV K x H2 k ∧ Q' k H2) (fun σ H' => ∃ (c n : Nat) (y3 : Option V) (ws : List V), σ = [some v, some (.int (c : Int)), some (.ref wa), y3, none] ∧ Same H H' ∧ H' wa = some (.lst ws) ∧ FsAt H' ws n ∧ c + n ≤ 12)
    (fun σ _ => toGo σ)
    ?_ (fun σ H' hp => ?_) ?_
  · exact ⟨0, _, none, [v], rfl, q0, upd_same, .cons (ht.same q0) hn hlt .nil, by omega⟩
  · obtain ⟨c, n, y3, ws, rfl, sm, ew, fs, hc⟩ := hp
    refine ⟨_, rfl, !ws.isEmpty, .inl ⟨ws, SqL.of ew, rfl⟩, ?_⟩
    cases ws with
    | nil => exact iteF (q H' sm)
    | cons w0 ws0 =>
      refine iteT ?_
      obtain ⟨p, tp, n', ep, rfl, hp, hpn, hpl, fs'⟩ := fs.last (by simp)
      have hp1 := B.size_pos hpn
      refine ⟨.ref wa, rfl, .inl ⟨rfl, _, SqL.of ew⟩, wa, _, p, rfl, rfl, ew, ep, ?_⟩
      refine ⟨_, rfl, _, _, rfl, rfl, ?_⟩
      have sm2 : Same H (upd H' wa (.lst (w0 :: ws0).dropLast)) := fun b o z => by
        rw [upd_ne (ne_of_none z nw)]
        exact sm _ _ z
      have kt : KeepT H' (upd H' wa (.lst (w0 :: ws0).dropLast)) := fun b xs z => by
        rw [upd_ne (ne_of z ew (by intro z; cases z))]
        exact z
      have ew2 : (upd H' wa (.lst (w0 :: ws0).dropLast)) wa = some (.lst (w0 :: ws0).dropLast) := upd_same
      have hp2 := hp.keep kt
      have fs2 : FsAt (upd H' wa (.lst (w0 :: ws0).dropLast)) (w0 :: ws0).dropLast n' := fs'.keepT kt
      generalize upd H' wa (.lst (w0 :: ws0).dropLast) = H2 at sm2 ew2 hp2 fs2 ⊢
      have lw := fs2.len
      generalize (w0 :: ws0).dropLast = W at ew2 fs2 lw ⊢
      refine ⟨_, rfl, _, _, rfl, rfl, _, rfl, ?_⟩
      rw [decide_eq_false (show ¬ ((c : Int) + 1 > 12) by omega)]
      refine iteF ?_
      refine ⟨_, rfl, p, tp, rfl, hp2, hpn, hpl, _, rfl, iteF ?_⟩
      rcases hp2.inv with ⟨_, rfl⟩ | ⟨a, vl, vr, x, tl, tr, rfl, rfl, e3, aL, aR⟩
      · exact absurd rfl hpn
      obtain ⟨_, l1, l3⟩ := B.lts_node.mp hpl
      have hsp : (B.node tl x tr).size = tl.size + 1 + tr.size := rfl
      refine ⟨.ref wa, rfl, .inl ⟨rfl, _, SqL.of ew2⟩, _, rfl, a, _, 0, vl, rfl, rfl, SqT.of e3, atI_nat (j := 0) rfl, _, rfl, a, _, 2, vr, rfl, rfl, SqT.of e3, atI_nat (j := 2) rfl, (by show 2 ≤ sizeLine; decide), fun tp ntp => ?_⟩
      have q6 := same_new ntp (.tup [vl, vr])
      refine ⟨tp, rfl, ⟨_, SqT.of upd_same⟩, fun L nL => ?_⟩
      have q7 := same_new nL (.lst [])
      refine lc_tup (K := K) (a := tp) (xs := [vl, vr]) (fun j H'' => Same (upd H2 tp (.tup [vl, vr])) H'' ∧ H'' L = some (.lst ((([vl, vr] : List V).take j).flatMap keepV))) ⟨q7, upd_same⟩ (fun j H'' _ hp => SqT.of (hp.1 _ _ upd_same)) (fun j x H'' hx hp => ?_) (fun H'' hp => ?_)
      · obtain ⟨s7, eL⟩ := hp
        refine ⟨rfl, _, rfl, rfl, _, rfl, ?_⟩
        by_cases hxn : x = .non
        · refine iteNS hxn ⟨s7, ?_⟩
          rw [keep_step hx, hxn]
          show _ = some (HO.lst (_ ++ []))
          rw [List.append_nil]
          exact eL
        · rw [decide_eq_false hxn]
          refine iteT ⟨x, rfl, _, eL, ?_, fun b o z => ?_, ?_⟩
          · have := keep_len (([vl, vr] : List V).take j)
            have h2 : (([vl, vr] : List V).take j).length ≤ 2 := by rw [List.length_take]; exact Nat.min_le_right _ _
            exact small1000 (by omega)
          · rw [upd_ne (ne_of_none z nL)]
            exact s7 _ _ z
          · rw [upd_same, keep_step hx]
            cases x <;> first | rfl | exact absurd rfl hxn
      · obtain ⟨s7, eL⟩ := hp
        have s8 : Same H2 H'' := q6.trans s7
        have eL' : H'' L = some (.lst (keepV vl ++ keepV vr)) := by
          rw [eL]
          show some (HO.lst (keepV vl ++ (keepV vr ++ []))) = _
          rw [List.append_nil]
        have k1 : (keepV vl).length ≤ 1 := by cases vl <;> first | exact Nat.zero_le _ | exact Nat.le_refl _
        have k2 : (keepV vr).length ≤ 1 := by cases vr <;> first | exact Nat.zero_le _ | exact Nat.le_refl _
        refine ⟨wa, L, _, _, rfl, rfl, s8 _ _ ew2, eL', small (by rw [List.length_append]; omega), ?_⟩
        have kt2 : KeepT H'' (upd H'' wa (.lst (W ++ (keepV vl ++ keepV vr)))) := fun b xs z => by
          rw [upd_ne (ne_of z (s8 _ _ ew2) (by intro z; cases z))]
          exact z
        refine ⟨⟨c + 1, _, some (.ref a), _, rfl, fun b o z => ?_, upd_same, ((fs2.same s8).app ((FsAt.keep (aL.same s8) l1).app (FsAt.keep (aR.same s8) l3))).keepT kt2, by omega⟩, ?_⟩
        · rw [upd_ne (ne_of_none z nw)]
          exact s8 _ _ (sm2 _ _ z)
        · show (13 - ((c : Int) + 1)).toNat < (13 - (c : Int)).toNat
          omega
  · intro σ H' Q1 Q2 hQ h
    obtain ⟨v', e, k', t, q'⟩ := h
    exact ⟨v', e, k', t, hQ _ _ q'⟩
theorem ok_size (F : Fun K "size_of" "size_of" s_size_of f fd) (b : Binds K fd ["tree"] []) (g : mg "size_of" = some (.ref f)) : ∀ n : Nat, FnOk P w K mg base CX0 n f fd ["tree"] (spSz n)
  | 0 => by
    have no : ∀ vs H Q E, ¬ spSz 0 vs H Q E := fun vs H Q E h => by
      obtain ⟨v, t, _, _, h1, _⟩ := h
      omega
    exact ⟨fun vs H Q E h => absurd h (no vs H Q E), fun A outer s H args us vs Q E _ _ _ _ h => absurd h (no vs H Q E)⟩
  | n + 1 => by
    have Dself : Df P w K mg base n "size_of" ["tree"] (spSz n) := ⟨f, fd, ok_size F b g n, b, F.kp, g⟩
    refine F.ok sc_size_of (fun vs H Q E h => ?_) (fun cdv A outer s H vs Q E hr h => ?_)
    · obtain ⟨v, t, rfl, _⟩ := h
      rfl
    obtain ⟨v, t, rfl, hv, hn, q⟩ := h
    refine ⟨_, (pss_cons (ps_if (pt_cmpR op_isN (pv 0) pe_non (nomark _))
      (pss_one (ps_ret pe_int)) pss_nil)
    (pss_one (ps_ret (pe_op op_add (pe_op op_add (pe_call Dself.ok (hr.mono (by omega)) rfl Dself.g Dself.kp Dself.b .nil pass0 (pa_cons (pe_ix ix_tup (pv 0) pe_int (fun _ _ => rfl)) pa_nil)) pe_int) (pe_call Dself.ok (hr.mono (by omega)) rfl Dself.g Dself.kp Dself.b .nil pass0 (pa_cons (pe_ix ix_tup (pv 0) pe_int (fun _ _ => rfl)) pa_nil)))))), ?_⟩
    rcases hv.inv with ⟨rfl, rfl⟩ | ⟨a, l, r, x, tl, tr, rfl, rfl, ea, hl, hr'⟩
    · exact ⟨_, rfl, rfl, _, rfl, iteT q⟩
    · refine ⟨_, rfl, rfl, _, rfl, iteF ?_⟩
      have hz : tl.size + 1 + tr.size < n + 1 := hn
      refine ⟨_, rfl, a, _, 0, l, rfl, rfl, SqT.of ea, atI_nat (j := 0) rfl, l, tl, rfl, hl, by omega, _, _, rfl, rfl, _, rfl, a, _, 2, r, rfl, rfl, SqT.of ea, atI_nat (j := 2) rfl, r, tr, rfl, hr', by omega, _, _, rfl, rfl, ?_⟩
      have e : (tl.size : Int) + 1 + (tr.size : Int) = ((tl.size + 1 + tr.size : Nat) : Int) := by omega
      show Q (.int ((tl.size : Int) + 1 + (tr.size : Int))) H
      rw [e]
      exact q
end
/-! ### paths and parts -/
def dir : Bool → Nat
  | false => 108
  | true => 114
def px (p : List Bool) : Str := tx (p.map dir)
theorem dir_inj {a b : Bool} (h : dir a = dir b) : a = b := by cases a <;> cases b <;> first | rfl | cases h
theorem dirs_inj {p q : List Bool} (h : p.map dir = q.map dir) : p = q := by
  induction p generalizing q with
  | nil => cases q with
    | nil => rfl
    | cons b q => cases h
  | cons a p ih => cases q with
    | nil => cases h
    | cons b q =>
      rw [List.map_cons, List.map_cons] at h
      injection h with h1 h2
      rw [dir_inj h1, ih h2]
theorem px_inj {p q : List Bool} (h : px p = px q) : p = q := dirs_inj (tx_inj h)
theorem px_nil : px [] = Str.ofString "" := str_0.symm
theorem px_len (p : List Bool) : (px p).length = p.length := by
  show (p.map dir).length = _
  rw [List.length_map]
theorem px_drop (p : List Bool) : cutS (px p) (some 1) none = px (p.drop 1) := by
  have h := tx_from (p.map dir) 1
  rw [← List.map_drop] at h
  exact h
def B.at : B → List Bool → Option B
  | t, [] => some t
  | .nil, _ :: _ => none
  | .node l _ _, false :: p => l.at p
  | .node _ _ r, true :: p => r.at p
def B.put : B → List Bool → B → B
  | _, [], u => u
  | .nil, _ :: _, _ => .nil
  | .node l x r, false :: p, u => .node (l.put p u) x r
  | .node l x r, true :: p, u => .node l x (r.put p u)
def B.mir : B → B
  | .nil => .nil
  | .node l x r => .node r.mir x l.mir
theorem B.mir_size : ∀ t : B, t.mir.size = t.size
  | .nil => rfl
  | .node l x r => by
    have h1 := l.mir_size
    have h2 := r.mir_size
    show r.mir.size + 1 + l.mir.size = l.size + 1 + r.size
    omega
theorem B.at_size : ∀ (t : B) (p : List Bool) {o : B}, t.at p = some o → o.size + p.length ≤ t.size
  | t, [], o, h => by cases t <;> (cases h; exact Nat.le_refl _)
  | .nil, _ :: _, _, h => by cases h
  | .node l x r, false :: p, o, h => by
    have := l.at_size p (show l.at p = some o from h)
    show o.size + (p.length + 1) ≤ l.size + 1 + r.size
    omega
  | .node l x r, true :: p, o, h => by
    have := r.at_size p (show r.at p = some o from h)
    show o.size + (p.length + 1) ≤ l.size + 1 + r.size
    omega
theorem B.put_size : ∀ (t : B) (p : List Bool) (u : B) {o : B}, t.at p = some o → (t.put p u).size + o.size = t.size + u.size
  | t, [], u, o, h => by cases t <;> (cases h; exact Nat.add_comm _ _)
  | .nil, _ :: _, _, _, h => by cases h
  | .node l x r, false :: p, u, o, h => by
    have := l.put_size p u (show l.at p = some o from h)
    show (l.put p u).size + 1 + r.size + o.size = l.size + 1 + r.size + u.size
    omega
  | .node l x r, true :: p, u, o, h => by
    have := r.put_size p u (show r.at p = some o from h)
    show l.size + 1 + (r.put p u).size + o.size = l.size + 1 + r.size + u.size
    omega
theorem B.mir_lts : ∀ t : B, t.lts → t.mir.lts
  | .nil, h => h
  | .node l x r, h => by
    obtain ⟨h1, h2, h3⟩ := B.lts_node.mp h
    exact B.lts_node.mpr ⟨h1, r.mir_lts h3, l.mir_lts h2⟩
theorem B.at_lts : ∀ (t : B) (p : List Bool) {o : B}, t.at p = some o → t.lts → o.lts
  | t, [], o, h, k => by cases t <;> (cases h; exact k)
  | .nil, _ :: _, _, h, _ => by cases h
  | .node l x r, false :: p, o, h, k => l.at_lts p (show l.at p = some o from h) (B.lts_node.mp k).2.1
  | .node l x r, true :: p, o, h, k => r.at_lts p (show r.at p = some o from h) (B.lts_node.mp k).2.2
theorem B.put_lts : ∀ (t : B) (p : List Bool) {u : B}, t.lts → u.lts → (t.put p u).lts
  | t, [], u, _, k => by cases t <;> exact k
  | .nil, _ :: _, _, _, _ => B.lts_nil
  | .node l x r, false :: p, u, h, k => by
    obtain ⟨h1, h2, h3⟩ := B.lts_node.mp h
    exact B.lts_node.mpr ⟨h1, l.put_lts p h2 k, h3⟩
  | .node l x r, true :: p, u, h, k => by
    obtain ⟨h1, h2, h3⟩ := B.lts_node.mp h
    exact B.lts_node.mpr ⟨h1, h2, r.put_lts p h3 k⟩
def spPart : Sp := fun vs H Q _ => ∃ (v : V) (t u : B) (p : List Bool), vs = [v, .str (px p)] ∧ BAt H v t ∧ t.at p = some u ∧ p.length ≤ 100 ∧ ∀ (v' : V) (H' : Hp), Same H H' → BAt H' v' u → Q v' H'
def spWith (n : Nat) : Sp := fun vs H Q _ => ∃ (v vp : V) (t u : B) (p : List Bool), vs = [v, .str (px p), vp] ∧ BAt H v t ∧ BAt H vp u ∧ p.length < n ∧ p.length ≤ 100 ∧ (t.at p).isSome = true ∧ ∀ (v' : V) (H' : Hp), Same H H' → BAt H' v' (t.put p u) → Q v' H'
def spRepl : Sp := fun vs H Q _ => ∃ (v vp : V) (t u o : B) (p : List Bool), vs = [v, .str (px p), vp] ∧ BAt H v t ∧ BAt H vp u ∧ t.at p = some o ∧ t.size ≤ 12 ∧ (t.put p u).size ≤ 12 ∧ ∀ (v' : V) (H' : Hp), Same H H' → BAt H' v' (t.put p u) → Q v' H'
def spMir (n : Nat) : Sp := fun vs H Q _ => ∃ (v : V) (t : B), vs = [v] ∧ BAt H v t ∧ t.size < n ∧ ∀ (v' : V) (H' : Hp), Same H H' → BAt H' v' t.mir → Q v' H'
theorem dir_str (b : Bool) : decide (V.str (ch (dir b)) = V.str (Str.ofString "l")) = !b := by
  rw [str_l]
  cases b
  · exact decide_eq_true rfl
  · exact decide_eq_false fun z => absurd (tx_inj (V.str.inj z)) (by simp [dir])
theorem dir_in (b : Bool) : inV (.str (ch (dir b))) [.str (Str.ofString "l"), .str (Str.ofString "r")] = true := by
  rw [str_l, str_r]
  cases b <;> rfl
section
variable {P : Program} {w : World} {K : PySem.W.Frag} {mg : Str → Option Value} {base : Heap} {f : Addr} {fd : FuncData}
theorem ok_part {k : Nat} (F : Fun K "part_at" "part_at" s_part_at f fd) (M : Mgs mg) : FnOk P w K mg base CX0 (k + 1) f fd ["tree", "path"] spPart := by
  refine F.ok sc_part_at (fun vs H Q E h => ?_) (fun cdv A outer s H vs Q E hr h => ?_)
  · obtain ⟨v, t, u, p, rfl, _⟩ := h
    rfl
  obtain ⟨v, t, u, p, rfl, ht, hu, hp, q⟩ := h
  refine ⟨_, (pss_cons (ps_if (pt_not (pt_val (pe_callB call_isi rfl M.isinstance (by decide +kernel) (pa_cons (pv 1) (pa_cons (pe_bltn (v := .ty "str") rfl M.str (by decide +kernel) rfl) pa_nil)))))
      (pss_one ps_never) pss_nil)
    (pss_cons (ps_set (i := 2) sc_part_at.nd rfl (.inl rfl) (pv 0))
    (pss_cons (ps_for PassesOwn.never rfl (pi_str (pv 1)) (pg_name (i := 3) sc_part_at.nd rfl (.inl rfl))
      (pss_cons (ps_if (PW.pt (pw_or (pt_cmpR op_isN (pv 2) pe_non (nomark _)) (pw_or1 (pt_cmpR op_notIn_seq (pv 3) (pe_tup (pa_cons pe_str (pa_cons pe_str pa_nil))) (by rfl)))))
      (pss_one ps_never) pss_nil)
    (pss_one (ps_set (i := 2) sc_part_at.nd rfl (.inl rfl) (pe_ifExp (pt_cmpR op_eq (pv 3) pe_str (nomark _)) (pe_ix ix_tup (pv 2) pe_int (fun _ _ => rfl)) (pe_ix ix_tup (pv 2) pe_int (fun _ _ => rfl)))))))
    (pss_one (ps_ret (pv 2)))))), ?_⟩
  refine ⟨_, rfl, _, _, _, _, true, rfl, .ty _, .base (.str (px p)), kit_ty (by decide +kernel), _, rfl, iteF ?_⟩
  refine ⟨_, rfl, ?_⟩
  refine ⟨_, rfl, px p, rfl, ?_⟩
  refine for_text (x := px p) (fun i σ H' => ∃ (vi : V) (ti : B) (y3 : Option V), σ = [some v, some (.str (px p)), some vi, y3] ∧ Same H H' ∧ BAt H' vi ti ∧ ti.at (p.drop i) = some u) ⟨v, t, none, rfl, Same.refl _, ht, hu⟩ (fun i c σ H1 hc hq => ?_) (fun σ H1 hq => ?_)
  · obtain ⟨vi, ti, y3, rfl, s1, hi, ei⟩ := hq
    have hc' : (p.map dir)[i]? = some c := hc
    obtain ⟨b, hb, rfl⟩ : ∃ b, p[i]? = some b ∧ dir b = c := by
      rw [List.getElem?_map] at hc'
      cases e : p[i]? with
      | none => rw [e] at hc'; cases hc'
      | some b => rw [e] at hc'; exact ⟨b, rfl, Option.some.inj hc'⟩
    have hdr : p.drop i = b :: p.drop (i + 1) := by
      obtain ⟨h1, h2⟩ := List.getElem?_eq_some_iff.mp hb
      rw [List.drop_eq_getElem_cons h1, h2]
    rw [hdr] at ei
    rcases hi.inv with ⟨rfl, rfl⟩ | ⟨a, vl, vr, x, tl, tr, rfl, rfl, ea, hl, hr'⟩
    · cases ei
    refine ⟨_, rfl, rfl, _, rfl, iteF ?_⟩
    refine ⟨_, rfl, (by show 2 ≤ sizeLine; decide), fun tp ntp => ?_⟩
    have k2 := same_new ntp (.tup [.str "l", .str "r"])
    refine ⟨tp, _, rfl, .inr (SqT.of upd_same), rfl, (by decide +kernel), _, rfl, ?_⟩
    have hin : (!inV (V.str (ch (dir b))) [V.str "l", V.str "r"]) = false := by rw [dir_in]; rfl
    rw [hin]
    refine iteF ?_
    have s12 := s1.trans k2
    refine ⟨_, rfl, rfl, _, rfl, ?_⟩
    rw [dir_str]
    cases b with
    | false =>
      refine iteT ⟨_, rfl, a, _, 0, vl, rfl, rfl, SqT.of (k2 _ _ ea), atI_nat (j := 0) rfl, ?_⟩
      exact ⟨vl, tl, _, rfl, s12, hl.same k2, ei⟩
    | true =>
      refine iteF ⟨_, rfl, a, _, 2, vr, rfl, rfl, SqT.of (k2 _ _ ea), atI_nat (j := 2) rfl, ?_⟩
      exact ⟨vr, tr, _, rfl, s12, hr'.same k2, ei⟩
  · obtain ⟨vi, ti, y3, rfl, s1, hi, ei⟩ := hq
    rw [List.drop_eq_nil_of_le (by rw [show (px p).cps.toList = p.map dir from rfl, List.length_map]; exact Nat.le_refl _)] at ei
    have : ti = u := by cases ti <;> (cases ei; rfl)
    subst this
    exact ⟨_, rfl, q vi H1 s1 hi⟩
theorem ok_with (F : Fun K "with_part" "with_part" s_with_part f fd) (b : Binds K fd ["tree", "path", "part"] []) (g : mg "with_part" = some (.ref f)) : ∀ n : Nat, FnOk P w K mg base CX0 n f fd ["tree", "path", "part"] (spWith n)
  | 0 => by
    have no : ∀ vs H Q E, ¬ spWith 0 vs H Q E := fun vs H Q E h => by
      obtain ⟨v, vp, t, u, p, _, _, _, h1, _⟩ := h
      exact absurd h1 (Nat.not_lt_zero _)
    exact ⟨fun vs H Q E h => absurd h (no vs H Q E), fun A outer s H args us vs Q E _ _ _ _ h => absurd h (no vs H Q E)⟩
  | n + 1 => by
    have Dself : Df P w K mg base n "with_part" ["tree", "path", "part"] (spWith n) := ⟨f, fd, ok_with F b g n, b, F.kp, g⟩
    refine F.ok sc_with_part (fun vs H Q E h => ?_) (fun cdv A outer s H vs Q E hr h => ?_)
    · obtain ⟨v, vp, t, u, p, rfl, _⟩ := h
      rfl
    obtain ⟨v, vp, t, u, p, rfl, ht, hu, hn, hp, hs, q⟩ := h
    refine ⟨_, (pss_cons (ps_if (pt_cmpR op_eq (pv 1) pe_str (nomark _))
      (pss_one (ps_ret (pv 2))) pss_nil)
    (pss_cons (ps_asg (pv 0) (pg_tup rfl (pgs_cons (pg_name (i := 3) sc_with_part.nd rfl (.inl rfl)) (pgs_cons (pg_name (i := 4) sc_with_part.nd rfl (.inl rfl)) (pgs_cons (pg_name (i := 5) sc_with_part.nd rfl (.inl rfl)) pgs_nil)))))
    (pss_cons (ps_if (pt_cmpR op_eq (pe_ix ix_str (pv 1) pe_int (fun _ _ => rfl)) pe_str (nomark _))
      (pss_one (ps_ret (pe_tup (pa_cons (pe_call Dself.ok (hr.mono (by omega)) rfl Dself.g Dself.kp Dself.b .nil pass0 (pa_cons (pv 3) (pa_cons (pe_slice sl_str (pv 1) (po_some pe_int) po_none) (pa_cons (pv 2) pa_nil)))) (pa_cons (pv 4) (pa_cons (pv 5) pa_nil)))))) pss_nil)
    (pss_one (ps_ret (pe_tup (pa_cons (pv 3) (pa_cons (pv 4) (pa_cons (pe_call Dself.ok (hr.mono (by omega)) rfl Dself.g Dself.kp Dself.b .nil pass0 (pa_cons (pv 5) (pa_cons (pe_slice sl_str (pv 1) (po_some pe_int) po_none) (pa_cons (pv 2) pa_nil)))) pa_nil))))))))), ?_⟩
    have lp : (px p).length ≤ sizeLine := small (by rw [px_len]; omega)
    refine ⟨_, rfl, rfl, _, rfl, ?_⟩
    cases p with
    | nil =>
      refine iteS px_nil ⟨_, rfl, ?_⟩
      have e : t.put [] u = u := by cases t <;> rfl
      rw [e] at q
      exact q vp H (Same.refl H) hu
    | cons d p =>
      refine iteR (fun z => by rw [← px_nil] at z; cases px_inj z) ?_
      rcases ht.inv with ⟨rfl, rfl⟩ | ⟨a, vl, vr, x, tl, tr, rfl, rfl, ea, hl, hr'⟩
      · cases hs
      refine ⟨_, rfl, a, _, rfl, SqT.of ea, rfl, vl, _, rfl, .str (ch x), _, rfl, vr, _, rfl, rfl, ?_⟩
      have hp' : p.length + 1 < n + 1 := hn
      have hp2 : p.length + 1 ≤ 100 := hp
      refine ⟨_, rfl, _, _, _, rfl, rfl, lp, atI_nat (j := 0) rfl, rfl, _, rfl, ?_⟩
      have e0 : decide (V.str (ch (dir d)) = V.str (Str.ofString "l")) = !d := dir_str d
      have ed : cutS (px (d :: p)) (some 1) none = px p := px_drop _
      cases d with
      | false =>
        refine iteS str_l.symm ⟨_, rfl, _, rfl, _, rfl, _, rfl, lp, _, rfl, vl, vp, tl, u, p, by rw [ed]; rfl, hl, hu, by omega, by omega, hs, fun v' H1 s1 h1 => ?_⟩
        refine ⟨_, rfl, _, rfl, (by show 3 ≤ sizeLine; decide), fun r nr => ?_⟩
        have k2 := same_new nr (.tup [v', .str (ch x), vr])
        exact q _ _ (s1.trans k2) (.node upd_same (h1.same k2) (hr'.same (s1.trans k2)))
      | true =>
        refine iteR (fun z => by rw [str_l] at z; have := tx_inj z; cases this) ⟨_, rfl, _, rfl, _, rfl, _, rfl, _, rfl, _, rfl, lp, _, rfl, vr, vp, tr, u, p, by rw [ed]; rfl, hr', hu, by omega, by omega, hs, fun v' H1 s1 h1 => ?_⟩
        refine ⟨(by show 3 ≤ sizeLine; decide), fun r nr => ?_⟩
        have k2 := same_new nr (.tup [vl, .str (ch x), v'])
        exact q _ _ (s1.trans k2) (.node upd_same (hl.same (s1.trans k2)) (h1.same k2))
theorem ok_repl {tM : Tok} (F : Fun K "replaced" "replaced" s_replaced f fd) (mMAX : mg "MAX_NODES" = some (.int 12 tM)) (Dpart_at : Df P w K mg base 1 "part_at" ["tree", "path"] spPart) (Dsize_of : Df P w K mg base 20 "size_of" ["tree"] (spSz 20)) (Dwith_part : Df P w K mg base 20 "with_part" ["tree", "path", "part"] (spWith 20)) :
    FnOk P w K mg base CX0 21 f fd ["tree", "path", "part"] spRepl := by
  refine F.ok sc_replaced (fun vs H Q E h => ?_) (fun cdv A outer s H vs Q E hr h => ?_)
  · obtain ⟨v, vp, t, u, o, p, rfl, _⟩ := h
    rfl
  obtain ⟨v, vp, t, u, o, p, rfl, ht, hu, ho, h12, h12', q⟩ := h
  refine ⟨_, (pss_cons (ps_set (i := 3) sc_replaced.nd rfl (.inl rfl) (pe_call Dpart_at.ok (hr.mono (by omega)) rfl Dpart_at.g Dpart_at.kp Dpart_at.b .nil pass0 (pa_cons (pv 0) (pa_cons (pv 1) pa_nil))))
    (pss_cons (ps_if (pt_cmpR op_gt (pe_op op_add (pe_op op_sub (pe_call Dsize_of.ok (hr.mono (by omega)) rfl Dsize_of.g Dsize_of.kp Dsize_of.b .nil pass0 (pa_cons (pv 0) pa_nil)) (pe_call Dsize_of.ok (hr.mono (by omega)) rfl Dsize_of.g Dsize_of.kp Dsize_of.b .nil pass0 (pa_cons (pv 3) pa_nil))) (pe_call Dsize_of.ok (hr.mono (by omega)) rfl Dsize_of.g Dsize_of.kp Dsize_of.b .nil pass0 (pa_cons (pv 2) pa_nil))) (pe_glob (v := .int _) rfl mMAX ⟨_, rfl⟩) (nomark _))
      (pss_one ps_never) pss_nil)
    (pss_one (ps_ret (pe_call Dwith_part.ok (hr.mono (by omega)) rfl Dwith_part.g Dwith_part.kp Dwith_part.b .nil pass0 (pa_cons (pv 0) (pa_cons (pv 1) (pa_cons (pv 2) pa_nil)))))))), ?_⟩
  have z1 := t.at_size p ho
  have z2 := t.put_size p u ho
  refine ⟨_, rfl, _, rfl, v, t, o, p, rfl, ht, ho, by omega, fun vo H1 s1 ho1 => ?_⟩
  have ht1 := ht.same s1
  have hu1 := hu.same s1
  refine ⟨_, rfl, v, t, rfl, ht1, by omega, _, rfl, vo, o, rfl, ho1, by omega, _, _, rfl, rfl, _, rfl, vp, u, rfl, hu1, by omega, _, _, rfl, rfl, _, _, rfl, rfl, _, rfl, ?_⟩
  rw [decide_eq_false (show ¬ ((t.size : Int) - (o.size : Int) + (u.size : Int) > 12) by omega)]
  refine iteF ?_
  refine ⟨_, rfl, _, rfl, _, rfl, v, vp, t, u, p, rfl, ht1, hu1, by omega, by omega, by rw [ho]; rfl, fun v' H2 s2 h2 => q v' H2 (s1.trans s2) h2⟩
theorem ok_mir (F : Fun K "mirrored" "mirrored" s_mirrored f fd) (b : Binds K fd ["tree"] []) (g : mg "mirrored" = some (.ref f)) : ∀ n : Nat, FnOk P w K mg base CX0 n f fd ["tree"] (spMir n)
  | 0 => by
    have no : ∀ vs H Q E, ¬ spMir 0 vs H Q E := fun vs H Q E h => by
      obtain ⟨v, t, _, _, h1, _⟩ := h
      exact absurd h1 (Nat.not_lt_zero _)
    exact ⟨fun vs H Q E h => absurd h (no vs H Q E), fun A outer s H args us vs Q E _ _ _ _ h => absurd h (no vs H Q E)⟩
  | n + 1 => by
    have Dself : Df P w K mg base n "mirrored" ["tree"] (spMir n) := ⟨f, fd, ok_mir F b g n, b, F.kp, g⟩
    refine F.ok sc_mirrored (fun vs H Q E h => ?_) (fun cdv A outer s H vs Q E hr h => ?_)
    · obtain ⟨v, t, rfl, _⟩ := h
      rfl
    obtain ⟨v, t, rfl, ht, hn, q⟩ := h
    refine ⟨_, (pss_cons (ps_if (pt_cmpR op_isN (pv 0) pe_non (nomark _))
      (pss_one (ps_ret pe_non)) pss_nil)
    (pss_cons (ps_asg (pv 0) (pg_tup rfl (pgs_cons (pg_name (i := 1) sc_mirrored.nd rfl (.inl rfl)) (pgs_cons (pg_name (i := 2) sc_mirrored.nd rfl (.inl rfl)) (pgs_cons (pg_name (i := 3) sc_mirrored.nd rfl (.inl rfl)) pgs_nil)))))
    (pss_one (ps_ret (pe_tup (pa_cons (pe_call Dself.ok (hr.mono (by omega)) rfl Dself.g Dself.kp Dself.b .nil pass0 (pa_cons (pv 3) pa_nil)) (pa_cons (pv 2) (pa_cons (pe_call Dself.ok (hr.mono (by omega)) rfl Dself.g Dself.kp Dself.b .nil pass0 (pa_cons (pv 1) pa_nil)) pa_nil)))))))), ?_⟩
    rcases ht.inv with ⟨rfl, rfl⟩ | ⟨a, vl, vr, x, tl, tr, rfl, rfl, ea, hl, hr'⟩
    · exact ⟨_, rfl, rfl, _, rfl, iteT (q _ _ (Same.refl H) .nil)⟩
    have hz : tl.size + 1 + tr.size < n + 1 := hn
    refine ⟨_, rfl, rfl, _, rfl, iteF ?_⟩
    refine ⟨_, rfl, a, _, rfl, SqT.of ea, rfl, vl, _, rfl, .str (ch x), _, rfl, vr, _, rfl, rfl, ?_⟩
    refine ⟨_, rfl, vr, tr, rfl, hr', by omega, fun v1 H1 s1 h1 => ?_⟩
    refine ⟨_, rfl, _, rfl, vl, tl, rfl, hl.same s1, by omega, fun v2 H2 s2 h2 => ?_⟩
    refine ⟨(by show 3 ≤ sizeLine; decide), fun r nr => ?_⟩
    have k2 := same_new nr (.tup [v1, .str (ch x), v2])
    exact q _ _ (s1.trans (s2.trans k2)) (.node upd_same (h1.same (s2.trans k2)) (h2.same k2))
end
/-! ### first, *rest = a tuple -/
section
open PySem.W
theorem unpack_head {prog : Program} {w : World} {A : Around} {E : Value → Shared → Prop} {s : Shared} {l : Addr} {u : Value} {us : List Value} {Q : List Value → Shared → Prop} (hl : IsTup s.heap l (u :: us).toArray) (hh : A.handled = none) (hz : us.length ≤ 1000)
    (h : ∀ (h' : Heap) (tk : Tok), (∀ b o, s.heap.get? b = some o → h'.get? b = some o) → Q [u, .ref h'.objs.size] { s with heap := h'.push { cls := .type "list", data := .seq us.toArray }, toks := tk }) : wpAny (model prog w) A (unpackItems (.ref l) 2 (some 1)) Q E s := by
  have hlt : l ≠ s.heap.objs.size := by obtain ⟨o, ho, _⟩ := hl; exact Nat.ne_of_lt (Heap.lt_size ho)
  have sz : (u :: us).toArray.size = us.length + 1 := by simp
  unfold unpackItems
  refine wpAny_bind ?_
  unfold notIterableAtAll
  refine wpAny_bind (wpAny_specialOf hl.typeIs slot_tuple_iter.lookup ?_)
  refine wpAny_pure ?_
  simp only [Bool.false_eq_true, if_false]
  refine wpAny_bind (wpAny_holding (iter_tuple hl ?_))
  refine wpAny_bind (wpAny_holding (draw_tuple hlt 1 0 _ _ ⟨_, Heap.get?_push_size _ rfl, rfl, rfl⟩ (hl.push _) (by omega) fun h₁ it₁ b₁ => ?_))
  have hl₁ : IsTup h₁ l (u :: us).toArray := (hl.push _).extBut b₁.extBut hlt
  have it₁' := it₁
  obtain ⟨oi, hoi, _⟩ := it₁'
  have hl₁' := hl₁
  obtain ⟨ol, hol, _⟩ := hl₁'
  show wpAny _ _ (if ([u] : List Value).length < 1 then _ else _) _ _ _
  rw [if_neg (by show ¬ 1 < 1; omega)]
  refine wpAny_bind (wpAny_holding (kun_collect (s := { s with heap := h₁ }) (T := "tuple_iterator") (.inr (.inr (.inr rfl))) (Walks.tuple (A := A.in1) hh s.heap.objs.size l hlt (u :: us).toArray) (fun j u st => st.1.typeIs) (k := 1) (by omega) ⟨it₁, hl₁⟩ (Heap.lt_size hoi) (Heap.lt_size hol) (fun h₂ tk hk => ?_) (by rw [sz, sizeLine_eq]; omega)))
  show wpAny _ _ (if (us : List Value).length < 2 - 1 - 1 then _ else _) _ _ _
  rw [if_neg (by omega)]
  show wpAny _ _ (newList (us.take (us.length - 0)) >>= fun d => pure ([u] ++ [d] ++ us.drop (us.length - 0))) _ _ _
  rw [Nat.sub_zero, List.take_length, List.drop_length]
  refine wpAny_bind (wpAny_newList ?_ (by rw [sizeLine_eq]; omega))
  refine wpAny_pure ?_
  exact h h₂ tk fun b o e => hk b o (Nat.ne_of_lt (Heap.lt_size e)) (b₁.extBut b o (Nat.ne_of_lt (Heap.lt_size e)) (Heap.get?_push_of_some _ e))
end
def gHead (K : PySem.W.Frag) (t1 t2 : TG) : TG := fun v σ H Q => ∃ a x xs, v = .ref a ∧ SqT K H a (x :: xs) ∧ xs.length ≤ 1000 ∧ ∀ D, H D = none → t1 x σ (upd H D (.lst xs)) fun σ1 H1 => t2 (.ref D) σ1 H1 Q
theorem pg_head {X : Cx} {pos sp_ : Pos} {e1 e2 : Expr} {k : Nat} {t1 t2 : TG} (hc : X.calm = true) (h1 : PG X e1 t1) (h2 : PG X e2 t2)
    (hn : (assignEach [e1, .Starred e2 sp_] X.env).length = 2 := by rfl) (hst : (assignEach [e1, .Starred e2 sp_] X.env).findIdx? (·.1) = some 1 := by rfl)
    (hm : (assignEach [e1, .Starred e2 sp_] X.env).map (·.2) = [assign e1 X.env, assign e2 X.env] := by rfl) : PG X (.Tuple [e1, .Starred e2 sp_] k pos) (gHead X.K t1 t2) := by
  refine ⟨fun pins s σ H v u Q I r hw => ?_⟩
  obtain ⟨a, x, xs, e, hq, hz, hw⟩ := hw
  subst e
  cases r
  obtain ⟨its, rv, ht, _⟩ := I.tuple hq
  cases rv with
  | cons r1 rr =>
    rename_i y ys
    rw [PyProof.Rows.assign_Tuple]
    refine wpAny_bind (wpAny_standAt ?_)
    unfold unpack
    rw [hn, hst]
    refine wpAny_bind (wpAny_holding (unpack_head ht (I.ok.hd hc) (by rw [← rr.length]; exact hz) fun h' tk hk => ?_))
    have I1 : Inv X pins σ H { s with heap := h', toks := tk } := I.kept hk
    have I2 : Inv X pins σ (upd H h'.objs.size (.lst xs)) { s with heap := h'.push { cls := .type "list", data := .seq ys.toArray }, toks := tk } :=
      I1.laid (fun b o e => Heap.get?_push_of_some _ e) (Nat.le_refl _) ⟨small hz, ys, 0, rr, Heap.get?_push_size _ rfl⟩
    rw [hm]
    refine assignInOrder_cons (thn (h1.run pins _ σ _ x y _ I2 r1 (hw _ (I1.hok.fresh (Nat.le_refl _)))) fun _ s1 ⟨σ1, H1, I3, q1⟩ => ?_)
    refine assignInOrder_cons (thn (h2.run pins s1 σ1 H1 (.ref h'.objs.size) _ _ I3 rfl q1) fun _ s2 ⟨σ2, H2, I4, q2⟩ => ?_)
    exact assignInOrder_nil ⟨σ2, H2, I4, q2⟩
/-! ### a call with a star of a def that a name holds -/
structure HeldR (P : Program) (w : World) (K : PySem.W.Frag) (mg : Str → Option Value) (base : Heap) (k : Nat) (f : Addr) (sp : Sp) : Prop where
  ok : FnR P w K mg base CX0 k f sp
  kp : PySem.W.keepIn K (.ref f) = true
def tCallAS (i : Nat) (S : Addr → Sp → Prop) (t : TA) : TE := fun σ H Q => ∃ f sp, σ[i]? = some (some (.ref f)) ∧ S f sp ∧ t σ H fun vs H1 => sp vs H1 Q E0
theorem pe_callAS {X : Cx} {k i : Nat} {S : Addr → Sp → Prop} {x : Str} {p pos : Pos} {e : Expr} {es : List Expr} {t : TA} (A : ∀ f sp, S f sp → HeldR X.prog X.w X.K X.mg X.base k f sp) (hr : Room k X.A) (hN : X.N[i]? = some x) (hv : Vis X.env.scope x) (ha : PA X (e :: es) t)
    (hdb : (x == ("__debug__" : Str)) = false := by decide) (hcd : (x == ("__classdict__" : Str)) = false := by decide)
    (he : starEach (e :: es) X.env = (false, eval e X.env) :: starEach es X.env := by rfl) (hst : (backTo pos (starEach es X.env)).any (·.1) = true := by rfl) : PE X (.Call (.Name x p) (e :: es) [] pos) (tCallAS i S t) := by
  refine ⟨fun pins s σ H Q I h => ?_⟩
  obtain ⟨f, sp, hs, hS, ht⟩ := h
  obtain ⟨F, hk⟩ := A f sp hS
  refine wpAny_Call_Name_kw (thn ((pe_var (pos := p) hN hv hdb hcd).run pins s σ H (fun v H1 => v = .ref f ∧ H1 = H) I ⟨.ref f, hs, rfl, rfl⟩) fun u s1 ⟨v, H1, I1, r1, q1⟩ => ?_)
  obtain ⟨rfl, rfl⟩ := q1
  cases r1
  refine PySem.W.callWith_S2 (h₀ := X.base) I.ok.mod.kin hk (thn (ha.run pos pins s1 σ _ _ I1 ht) fun us s2 ⟨vs, H2, I2, r, q⟩ => ⟨I2.kIn, ?_⟩) he hst
  exact wpAny_call (run_fnR F hr pass0 I2 r q)
/-! ### the edits of a tree -/
/-- an edit that can be done -/
inductive Ed where
  | put (p : List Bool) (c : Nat)
  | cut (p : List Bool)
  | label (p : List Bool) (c : Nat)
  | turn (p : List Bool)
def Ed.word : Ed → Str
  | .put _ _ => "put"
  | .cut _ => "cut"
  | .label _ _ => "label"
  | .turn _ => "turn"
def Ed.args : Ed → List V
  | .put p c => [.str (px p), .str (ch c)]
  | .cut p => [.str (px p)]
  | .label p c => [.str (px p), .str (ch c)]
  | .turn p => [.str (px p)]
def Ed.vals (e : Ed) : List V := .str e.word :: e.args
/-- it can be done, and this becomes of the tree -/
inductive Does : B → Ed → B → Prop
  | put {t : B} {p : List Bool} {c : Nat} : t.at p = some .nil → isLow c = true → t.size ≤ 11 → Does t (.put p c) (t.put p (.node .nil c .nil))
  | cut {t u : B} {p : List Bool} : t.at p = some u → u ≠ .nil → p ≠ [] → Does t (.cut p) (t.put p .nil)
  | label {t l r : B} {p : List Bool} {y c : Nat} : t.at p = some (.node l y r) → isLow c = true → Does t (.label p c) (t.put p (.node l c r))
  | turn {t u : B} {p : List Bool} : t.at p = some u → u ≠ .nil → Does t (.turn p) (t.put p u.mir)
theorem nd_nil {t : B} : t ≠ .nil ↔ 1 ≤ t.size := by
  cases t with
  | nil => exact ⟨fun h => absurd rfl h, fun h => absurd h (by decide)⟩
  | node l x r => exact ⟨fun _ => by show 1 ≤ l.size + 1 + r.size; omega, fun _ z => nomatch z⟩
theorem put_ne {t : B} {p : List Bool} {u : B} (h : p ≠ []) (ht : (t.at p).isSome = true) : t.put p u ≠ .nil := by
  cases p with
  | nil => exact absurd rfl h
  | cons b p => cases t with
    | nil => cases ht
    | node l x r => cases b <;> exact fun z => nomatch z
theorem Does.good {t t' : B} {e : Ed} (d : Does t e t') (h1 : t.lts) (h2 : t.size ≤ 12) (h3 : t ≠ .nil) : t'.lts ∧ t'.size ≤ 12 ∧ t' ≠ .nil := by
  cases d with
  | @put p c ho hc hz =>
    have := t.put_size p (.node .nil c .nil) ho
    have e1 : (B.node .nil c .nil).size = 1 := rfl
    have e2 : B.nil.size = 0 := rfl
    exact ⟨B.put_lts _ _ h1 (B.lts_node.mpr ⟨hc, B.lts_nil, B.lts_nil⟩), by omega, nd_nil.mpr (by omega)⟩
  | @cut u p ho hu hp =>
    have := t.put_size p .nil ho
    have e2 : B.nil.size = 0 := rfl
    exact ⟨B.put_lts _ _ h1 B.lts_nil, by omega, put_ne hp (by rw [ho]; rfl)⟩
  | @label l r p y c ho hc =>
    have := t.put_size p (.node l c r) ho
    have e1 : (B.node l c r).size = (B.node l y r).size := rfl
    have hl := B.at_lts t p ho h1
    have hn := nd_nil.mp h3
    exact ⟨B.put_lts _ _ h1 (B.lts_node.mpr ⟨hc, (B.lts_node.mp hl).2⟩), by omega, nd_nil.mpr (by omega)⟩
  | @turn u p ho hu =>
    have := t.put_size p u.mir ho
    have e1 := u.mir_size
    have hl := B.at_lts t p ho h1
    have hn := nd_nil.mp h3
    exact ⟨B.put_lts _ _ h1 (u.mir_lts hl), by omega, nd_nil.mpr (by omega)⟩
def spOpen : Sp := fun vs H Q _ => ∃ (v : V) (t : B) (p : List Bool), vs = [v, .str (px p)] ∧ BAt H v t ∧ t.at p = some .nil ∧ p.length ≤ 100 ∧ ∀ H', Same H H' → Q (.bl true) H'
def spNodeAt : Sp := fun vs H Q _ => ∃ (v : V) (t u : B) (p : List Bool), vs = [v, .str (px p)] ∧ BAt H v t ∧ t.at p = some u ∧ u ≠ .nil ∧ p.length ≤ 100 ∧ ∀ (v' : V) (H' : Hp), Same H H' → BAt H' v' u → Q v' H'
/-- one of the four: the tree, then the edit's arguments -/
def spAct (mk : Ed → Prop) : Sp := fun vs H Q _ => ∃ (v : V) (t t' : B) (e : Ed), vs = v :: e.args ∧ mk e ∧ BAt H v t ∧ Does t e t' ∧ t.size ≤ 12 ∧ t.lts ∧ t ≠ .nil ∧ ∀ (v' : V) (H' : Hp), Same H H' → BAt H' v' t' → Q v' H'
def isPut : Ed → Prop | .put _ _ => True | _ => False
def isCut : Ed → Prop | .cut _ => True | _ => False
def isLab : Ed → Prop | .label _ _ => True | _ => False
def isTur : Ed → Prop | .turn _ => True | _ => False
def spEdited : Sp := fun vs H Q _ => ∃ (v : V) (t t' : B) (e : Ed) (a : Addr), vs = [v, .ref a] ∧ H a = some (.tup e.vals) ∧ BAt H v t ∧ Does t e t' ∧ t.size ≤ 12 ∧ t.lts ∧ t ≠ .nil ∧ ∀ (v' : V) (H' : Hp), Same H H' → BAt H' v' t' → Q v' H'
/-- the table of the actions -/
structure Acts (K : PySem.W.Frag) (w : World) (mg : Str → Option Value) (aA f1 f2 f3 f4 : Addr) : Prop where
  g : mg "ACTIONS" = some (.ref aA)
  put : L2.KDct K w aA "put" (.ref f1)
  cut : L2.KDct K w aA "cut" (.ref f2)
  label : L2.KDct K w aA "label" (.ref f3)
  turn : L2.KDct K w aA "turn" (.ref f4)
section
variable {P : Program} {w : World} {K : PySem.W.Frag} {mg : Str → Option Value} {base : Heap} {f : Addr} {fd : FuncData}
theorem ok_open {k : Nat} (F : Fun K "is_open" "is_open" s_is_open f fd) (Dpart_at : Df P w K mg base (k + 1) "part_at" ["tree", "path"] spPart) : FnOk P w K mg base CX0 (k + 2) f fd ["tree", "path"] spOpen := by
  refine F.ok sc_is_open (fun vs H Q E h => ?_) (fun cdv A outer s H vs Q E hr h => ?_)
  · obtain ⟨v, t, p, rfl, _⟩ := h
    rfl
  obtain ⟨v, t, p, rfl, ht, ho, hp, q⟩ := h
  refine ⟨_, (pss_one (ps_try_thru0 (pss_one (ps_ret (pe_cmpR op_isN (pe_call Dpart_at.ok (hr.mono (by omega)) rfl Dpart_at.g Dpart_at.kp Dpart_at.b .nil pass0 (pa_cons (pv 0) (pa_cons (pv 1) pa_nil))) pe_non (nomark _)))))), ?_⟩
  refine ⟨_, rfl, _, rfl, v, t, .nil, p, rfl, ht, ho, hp, fun v' H1 s1 h1 => ?_⟩
  cases h1
  exact ⟨rfl, q H1 s1⟩
theorem ok_nodeAt {k : Nat} (F : Fun K "node_at" "node_at" s_node_at f fd) (Dpart_at : Df P w K mg base (k + 1) "part_at" ["tree", "path"] spPart) : FnOk P w K mg base CX0 (k + 2) f fd ["tree", "path"] spNodeAt := by
  refine F.ok sc_node_at (fun vs H Q E h => ?_) (fun cdv A outer s H vs Q E hr h => ?_)
  · obtain ⟨v, t, u, p, rfl, _⟩ := h
    rfl
  obtain ⟨v, t, u, p, rfl, ht, ho, hu, hp, q⟩ := h
  refine ⟨_, (pss_cons (ps_set (i := 2) sc_node_at.nd rfl (.inl rfl) (pe_call Dpart_at.ok (hr.mono (by omega)) rfl Dpart_at.g Dpart_at.kp Dpart_at.b .nil pass0 (pa_cons (pv 0) (pa_cons (pv 1) pa_nil))))
    (pss_cons (ps_if (pt_cmpR op_isN (pv 2) pe_non (nomark _))
      (pss_one ps_never) pss_nil)
    (pss_one (ps_ret (pv 2))))), ?_⟩
  refine ⟨_, rfl, _, rfl, v, t, u, p, rfl, ht, ho, hp, fun v' H1 s1 h1 => ?_⟩
  rcases h1.inv with ⟨_, rfl⟩ | ⟨a, vl, vr, x, tl, tr, rfl, rfl, _⟩
  · exact absurd rfl hu
  · exact ⟨_, rfl, rfl, _, rfl, iteF ⟨_, rfl, q _ H1 s1 h1⟩⟩
end
/-! ### the four actions, edited -/
theorem Does.plen {t t' : B} {e : Ed} (d : Does t e t') : ∃ p o, t.at p = some o ∧ p.length ≤ t.size := by
  cases d with
  | put ho _ _ => exact ⟨_, _, ho, by have := B.at_size _ _ ho; omega⟩
  | cut ho _ _ => exact ⟨_, _, ho, by have := B.at_size _ _ ho; omega⟩
  | label ho _ => exact ⟨_, _, ho, by have := B.at_size _ _ ho; omega⟩
  | turn ho _ => exact ⟨_, _, ho, by have := B.at_size _ _ ho; omega⟩
section
variable {P : Program} {w : World} {K : PySem.W.Frag} {mg : Str → Option Value} {base : Heap} {f f1 f2 f3 f4 aA : Addr} {fd : FuncData}
theorem ok_withNode (F : Fun K "with_node" "with_node" s_with_node f fd) (Dis_open : Df P w K mg base 2 "is_open" ["tree", "path"] spOpen) (Dis_letter : Df P w K mg base 1 "is_letter" ["value"] spLow) (Dreplaced : Df P w K mg base 21 "replaced" ["tree", "path", "part"] spRepl) :
    FnOk P w K mg base CX0 22 f fd ["tree", "path", "label"] (spAct isPut) := by
  refine F.ok (k := 21) sc_with_node (fun vs H Q E h => ?_) (fun cdv A outer s H vs Q E hr h => ?_)
  · obtain ⟨v, t, t', e, rfl, he, _⟩ := h
    cases e <;> first | rfl | exact he.elim
  obtain ⟨v, t, t', e, rfl, he, ht, d, h12, hl, hn, q⟩ := h
  have gd := d.good hl h12 hn
  cases d with
  | cut _ _ _ => exact he.elim
  | label _ _ => exact he.elim
  | turn _ _ => exact he.elim
  | @put p c ho hc hz =>
    refine ⟨_, (pss_cons (ps_if (pt_not (pt_val (pe_call Dis_open.ok (hr.mono (by omega)) rfl Dis_open.g Dis_open.kp Dis_open.b .nil pass0 (pa_cons (pv 0) (pa_cons (pv 1) pa_nil)))))
      (pss_one ps_never) pss_nil)
    (pss_cons (ps_if (pt_not (pt_val (pe_call Dis_letter.ok (hr.mono (by omega)) rfl Dis_letter.g Dis_letter.kp Dis_letter.b .nil pass0 (pa_cons (pv 2) pa_nil))))
      (pss_one ps_never) pss_nil)
    (pss_one (ps_ret (pe_call Dreplaced.ok (hr.mono (by omega)) rfl Dreplaced.g Dreplaced.kp Dreplaced.b .nil pass0 (pa_cons (pv 0) (pa_cons (pv 1) (pa_cons (pe_tup (pa_cons pe_non (pa_cons (pv 2) (pa_cons pe_non pa_nil)))) pa_nil)))))))), ?_⟩
    have hp := t.at_size p ho
    refine ⟨_, rfl, _, rfl, v, t, p, rfl, ht, ho, by omega, fun H1 s1 => ⟨_, rfl, iteF ?_⟩⟩
    refine ⟨_, rfl, [c], rfl, Nat.le_refl _, _, rfl, ?_⟩
    have e1 : isLt [c] = true := hc
    rw [e1]
    refine iteF ⟨_, rfl, _, rfl, _, rfl, (by show 3 ≤ sizeLine; decide), fun r nr => ?_⟩
    have k2 := same_new nr (.tup [.non, .str (ch c), .non])
    exact ⟨v, .ref r, t, .node .nil c .nil, .nil, p, rfl, ht.same (s1.trans k2), .node upd_same .nil .nil, ho, h12, gd.2.1, fun v' H2 s2 h2 => q v' H2 (s1.trans (k2.trans s2)) h2⟩
theorem ok_without (F : Fun K "without_node" "without_node" s_without_node f fd) (Dnode_at : Df P w K mg base 2 "node_at" ["tree", "path"] spNodeAt) (Dreplaced : Df P w K mg base 21 "replaced" ["tree", "path", "part"] spRepl) :
    FnOk P w K mg base CX0 22 f fd ["tree", "path"] (spAct isCut) := by
  refine F.ok (k := 21) sc_without_node (fun vs H Q E h => ?_) (fun cdv A outer s H vs Q E hr h => ?_)
  · obtain ⟨v, t, t', e, rfl, he, _⟩ := h
    cases e <;> first | rfl | exact he.elim
  obtain ⟨v, t, t', e, rfl, he, ht, d, h12, hl, hn, q⟩ := h
  have gd := d.good hl h12 hn
  cases d with
  | put _ _ _ => exact he.elim
  | label _ _ => exact he.elim
  | turn _ _ => exact he.elim
  | @cut u p ho hu hpn =>
    refine ⟨_, (pss_cons (ps_expr (pe_call Dnode_at.ok (hr.mono (by omega)) rfl Dnode_at.g Dnode_at.kp Dnode_at.b .nil pass0 (pa_cons (pv 0) (pa_cons (pv 1) pa_nil))))
    (pss_cons (ps_if (pt_cmpR op_eq (pv 1) pe_str (nomark _))
      (pss_one ps_never) pss_nil)
    (pss_one (ps_ret (pe_call Dreplaced.ok (hr.mono (by omega)) rfl Dreplaced.g Dreplaced.kp Dreplaced.b .nil pass0 (pa_cons (pv 0) (pa_cons (pv 1) (pa_cons pe_non pa_nil)))))))), ?_⟩
    have hp := t.at_size p ho
    refine ⟨_, rfl, _, rfl, v, t, u, p, rfl, ht, ho, hu, by omega, fun v1 H1 s1 h1 => ?_⟩
    refine ⟨_, rfl, rfl, _, rfl, iteR (fun z => hpn (by rw [← px_nil] at z; exact px_inj z)) ?_⟩
    exact ⟨_, rfl, _, rfl, v, .non, t, .nil, u, p, rfl, ht.same s1, .nil, ho, h12, gd.2.1, fun v' H2 s2 h2 => q v' H2 (s1.trans s2) h2⟩
theorem ok_withLabel (F : Fun K "with_label" "with_label" s_with_label f fd) (Dnode_at : Df P w K mg base 2 "node_at" ["tree", "path"] spNodeAt) (Dis_letter : Df P w K mg base 1 "is_letter" ["value"] spLow) (Dreplaced : Df P w K mg base 21 "replaced" ["tree", "path", "part"] spRepl) :
    FnOk P w K mg base CX0 22 f fd ["tree", "path", "label"] (spAct isLab) := by
  refine F.ok (k := 21) sc_with_label (fun vs H Q E h => ?_) (fun cdv A outer s H vs Q E hr h => ?_)
  · obtain ⟨v, t, t', e, rfl, he, _⟩ := h
    cases e <;> first | rfl | exact he.elim
  obtain ⟨v, t, t', e, rfl, he, ht, d, h12, hl, hn, q⟩ := h
  have gd := d.good hl h12 hn
  cases d with
  | put _ _ _ => exact he.elim
  | cut _ _ _ => exact he.elim
  | turn _ _ => exact he.elim
  | @label l r p y c ho hc =>
    refine ⟨_, (pss_cons (ps_asg (pe_call Dnode_at.ok (hr.mono (by omega)) rfl Dnode_at.g Dnode_at.kp Dnode_at.b .nil pass0 (pa_cons (pv 0) (pa_cons (pv 1) pa_nil))) (pg_tup rfl (pgs_cons (pg_name (i := 3) sc_with_label.nd rfl (.inl rfl)) (pgs_cons (pg_name (i := 4) sc_with_label.nd rfl (.inl rfl)) (pgs_cons (pg_name (i := 5) sc_with_label.nd rfl (.inl rfl)) pgs_nil)))))
    (pss_cons (ps_if (pt_not (pt_val (pe_call Dis_letter.ok (hr.mono (by omega)) rfl Dis_letter.g Dis_letter.kp Dis_letter.b .nil pass0 (pa_cons (pv 2) pa_nil))))
      (pss_one ps_never) pss_nil)
    (pss_one (ps_ret (pe_call Dreplaced.ok (hr.mono (by omega)) rfl Dreplaced.g Dreplaced.kp Dreplaced.b .nil pass0 (pa_cons (pv 0) (pa_cons (pv 1) (pa_cons (pe_tup (pa_cons (pv 3) (pa_cons (pv 2) (pa_cons (pv 5) pa_nil)))) pa_nil)))))))), ?_⟩
    have hp := t.at_size p ho
    refine ⟨_, rfl, _, rfl, v, t, _, p, rfl, ht, ho, (fun z => nomatch z), by omega, fun v1 H1 s1 h1 => ?_⟩
    rcases h1.inv with ⟨_, z⟩ | ⟨a, vl, vr, x, tl, tr, rfl, e, ea, aL, aR⟩
    · cases z
    cases e
    refine ⟨a, _, rfl, SqT.of ea, rfl, vl, _, rfl, .str (ch y), _, rfl, vr, _, rfl, rfl, ?_⟩
    refine ⟨_, rfl, [c], rfl, Nat.le_refl _, _, rfl, ?_⟩
    have e1 : isLt [c] = true := hc
    rw [e1]
    refine iteF ⟨_, rfl, _, rfl, _, rfl, _, rfl, _, rfl, (by show 3 ≤ sizeLine; decide), fun r' nr => ?_⟩
    have k2 := same_new nr (.tup [vl, .str (ch c), vr])
    exact ⟨v, .ref r', t, .node l c r, _, p, rfl, ht.same (s1.trans k2), .node upd_same (aL.same k2) (aR.same k2), ho, h12, gd.2.1, fun v' H2 s2 h2 => q v' H2 (s1.trans (k2.trans s2)) h2⟩
theorem ok_turned (F : Fun K "turned" "turned" s_turned f fd) (Dnode_at : Df P w K mg base 2 "node_at" ["tree", "path"] spNodeAt) (Dmirrored : Df P w K mg base 20 "mirrored" ["tree"] (spMir 20)) (Dreplaced : Df P w K mg base 21 "replaced" ["tree", "path", "part"] spRepl) :
    FnOk P w K mg base CX0 22 f fd ["tree", "path"] (spAct isTur) := by
  refine F.ok (k := 21) sc_turned (fun vs H Q E h => ?_) (fun cdv A outer s H vs Q E hr h => ?_)
  · obtain ⟨v, t, t', e, rfl, he, _⟩ := h
    cases e <;> first | rfl | exact he.elim
  obtain ⟨v, t, t', e, rfl, he, ht, d, h12, hl, hn, q⟩ := h
  have gd := d.good hl h12 hn
  cases d with
  | put _ _ _ => exact he.elim
  | cut _ _ _ => exact he.elim
  | label _ _ => exact he.elim
  | @turn u p ho hu =>
    refine ⟨_, (pss_one (ps_ret (pe_call Dreplaced.ok (hr.mono (by omega)) rfl Dreplaced.g Dreplaced.kp Dreplaced.b .nil pass0 (pa_cons (pv 0) (pa_cons (pv 1) (pa_cons (pe_call Dmirrored.ok (hr.mono (by omega)) rfl Dmirrored.g Dmirrored.kp Dmirrored.b .nil pass0 (pa_cons (pe_call Dnode_at.ok (hr.mono (by omega)) rfl Dnode_at.g Dnode_at.kp Dnode_at.b .nil pass0 (pa_cons (pv 0) (pa_cons (pv 1) pa_nil))) pa_nil)) pa_nil)))))), ?_⟩
    have hp := t.at_size p ho
    refine ⟨_, rfl, _, rfl, _, rfl, _, rfl, v, t, u, p, rfl, ht, ho, hu, by omega, fun v1 H1 s1 h1 => ?_⟩
    refine ⟨v1, u, rfl, h1, by omega, fun v2 H2 s2 h2 => ?_⟩
    exact ⟨v, v2, t, u.mir, u, p, rfl, ht.same (s1.trans s2), h2, ho, h12, gd.2.1, fun v' H3 s3 h3 => q v' H3 (s1.trans (s2.trans s3)) h3⟩
theorem ok_edited (F : Fun K "edited" "edited" s_edited f fd) (AC : Acts K w mg aA f1 f2 f3 f4) (A1 : HeldR P w K mg base 22 f1 (spAct isPut)) (A2 : HeldR P w K mg base 22 f2 (spAct isCut)) (A3 : HeldR P w K mg base 22 f3 (spAct isLab)) (A4 : HeldR P w K mg base 22 f4 (spAct isTur)) :
    FnOk P w K mg base CX0 23 f fd ["tree", "edit"] spEdited := by
  refine F.ok (k := 22) sc_edited (fun vs H Q E h => ?_) (fun cdv A outer s H vs Q E hr h => ?_)
  · obtain ⟨v, t, t', e, a, rfl, _⟩ := h
    rfl
  obtain ⟨v, t, t', e, a, rfl, ea, ht, d, h12, hl, hn, q⟩ := h
  have AH : ∀ f sp, (fun (g : Addr) (sp : Sp) => (g = f1 ∧ sp = spAct isPut) ∨ (g = f2 ∧ sp = spAct isCut) ∨ (g = f3 ∧ sp = spAct isLab) ∨ (g = f4 ∧ sp = spAct isTur)) f sp → HeldR P w K mg base 22 f sp := by
    rintro f sp (⟨rfl, rfl⟩ | ⟨rfl, rfl⟩ | ⟨rfl, rfl⟩ | ⟨rfl, rfl⟩)
    · exact A1
    · exact A2
    · exact A3
    · exact A4
  refine ⟨_, (pss_cons (ps_asg (pv 1) (pg_head rfl (pg_name (i := 2) sc_edited.nd rfl (.inl rfl)) (pg_name (i := 3) sc_edited.nd rfl (.inl rfl))))
    (pss_cons (ps_set (i := 4) sc_edited.nd rfl (.inl rfl) (pe_ix ix_kdict (pe_glob (v := .ref _) rfl AC.g rfl) (pv 2) (fun _ _ => rfl)))
    (pss_one (ps_ret (pe_callAS (i := 4) AH (hr.mono (by omega)) rfl (.inl rfl) (pa_cons (pv 0) (StX.pa_star (pv 3) pa_nil))))))), ?_⟩
  refine ⟨_, rfl, a, .str e.word, e.args, rfl, SqT.of ea, by cases e <;> (show _ ≤ 1000; simp [Ed.args]), fun L nL => ?_⟩
  have k1 := same_new nL (.lst e.args)
  have eL := upd_same (H := H) (a := L) (o := .lst e.args)
  have ht1 := ht.same k1
  generalize upd H L (.lst e.args) = H1 at k1 eL ht1 ⊢
  cases e with
  | put p c =>
    refine ⟨_, rfl, aA, "put", .ref f1, rfl, rfl, AC.put, ?_⟩
    exact ⟨f1, _, rfl, .inl ⟨rfl, rfl⟩, _, rfl, _, rfl, L, _, rfl, .inr (SqL.of eL), v, t, t', .put p c, rfl, trivial, ht1, d, h12, hl, hn, fun v' H2 s2 h2 => q v' H2 (k1.trans s2) h2⟩
  | cut p =>
    refine ⟨_, rfl, aA, "cut", .ref f2, rfl, rfl, AC.cut, ?_⟩
    exact ⟨f2, _, rfl, .inr (.inl ⟨rfl, rfl⟩), _, rfl, _, rfl, L, _, rfl, .inr (SqL.of eL), v, t, t', .cut p, rfl, trivial, ht1, d, h12, hl, hn, fun v' H2 s2 h2 => q v' H2 (k1.trans s2) h2⟩
  | label p c =>
    refine ⟨_, rfl, aA, "label", .ref f3, rfl, rfl, AC.label, ?_⟩
    exact ⟨f3, _, rfl, .inr (.inr (.inl ⟨rfl, rfl⟩)), _, rfl, _, rfl, L, _, rfl, .inr (SqL.of eL), v, t, t', .label p c, rfl, trivial, ht1, d, h12, hl, hn, fun v' H2 s2 h2 => q v' H2 (k1.trans s2) h2⟩
  | turn p =>
    refine ⟨_, rfl, aA, "turn", .ref f4, rfl, rfl, AC.turn, ?_⟩
    exact ⟨f4, _, rfl, .inr (.inr (.inr ⟨rfl, rfl⟩)), _, rfl, _, rfl, L, _, rfl, .inr (SqL.of eL), v, t, t', .turn p, rfl, trivial, ht1, d, h12, hl, hn, fun v' H2 s2 h2 => q v' H2 (k1.trans s2) h2⟩
end
/-! ### an instance with a dict: constants of its class, len, str -/
structure ConD (K : PySem.W.Frag) (C : Addr) (f : Str) (v : V) (u : Value) : Prop where
  at_ : PySem.W.findIn K (.ref C) f = some (some u)
  get : PySem.W.specialIn K u "__get__" = some none
  rel : RelV v u
  cp : PySem.W.copiedNames.contains f = false
def tConD (K : PySem.W.Frag) (ta : TE) (f : Str) : TE := fun σ H Q => ta σ H fun x H1 => ∃ a C dx fs v u, x = .ref a ∧ H1 a = some (.ins C dx fs) ∧ Cls K C ∧ ConD K C f v u ∧ fs.lookup f = none ∧ Q v H1
theorem isCls_of {K : PySem.W.Frag} {C : Addr} (c : Cls K C) : PySem.W.isClsIn K C = true := by
  obtain ⟨cd, hc, _⟩ := PySem.W.any_some c.hd
  show (PySem.W.clsIn K C).isSome = true
  rw [hc]
  rfl
theorem pe_conD {X : Cx} {e : Expr} {f : Str} {pos : Pos} {ta : TE} (he : PE X e ta) (hb : attributeBase e f X.env (eval e X.env) = eval e X.env := by rfl) : PE X (.Attribute e f pos) (tConD X.K ta f) := by
  refine ⟨fun pins s σ H Q I h => ?_⟩
  refine attr_of hb (thn (he.run pins s σ H _ I h) fun w s1 ⟨x, H1, I1, rx, a, C, dx, fs, v, u, ex, ea, c, k, l, q⟩ => ?_)
  subst ex
  obtain rfl : w = Value.ref a := rx
  obtain ⟨mA, O, r, _, _, _⟩ := ins_get I1.hok ea
  have hn : mA f = none := RelO.none_of (by rw [← l]; exact r f)
  obtain ⟨od, J, hl⟩ := O.look
  exact PySem.W.get_value I1.kIn J (PySem.W.plainGet_of (c.get f)).1 (OwX.find_con (isCls_of c) k.at_ k.get (handed_of k.rel) k.cp (by rw [hl f, hn])) (handed_of k.rel) ⟨v, H1, I1.tok _, k.rel, q⟩
def rLenOwn (C : Addr) (sp : Sp) : List V → Hp → VK → Prop := fun xs H Q => ∃ a dx fs, xs = [.ref a] ∧ H a = some (.ins C dx fs) ∧ sp [.ref a] H (fun z H' => ∃ n : Int, z = .int n ∧ 0 ≤ n ∧ n < 2 ^ 63 ∧ Q z H') E0
theorem call_lenOwn {X : Cx} {C g : Addr} {n : Nat} {sp : Sp} (hs : PySem.W.findIn X.K (.ref C) "__len__" = some (some (.ref g))) (hf : PySem.W.isFn X.K (.ref g) = true) (F : FnR X.prog X.w X.K X.mg X.base CX0 n g sp) (hr : Room (n + 1) X.A) : CallR X (.builtin "len") (rLenOwn C sp) := by
  intro pins s σ H xs us Q I r h
  obtain ⟨a, dx, fs, rfl, ea, q⟩ := h
  obtain ⟨u, rfl, ru⟩ := r.one
  cases (show u = Value.ref a from ru)
  obtain ⟨mA, O, _, _, _, _⟩ := ins_get I.hok ea
  obtain ⟨od, J, _⟩ := O.look
  obtain ⟨m, hF⟩ := I.fr
  refine PySem.W.len_K hF I.ok.mod.kin J hs hf (wpAny_mono (wpAny_call (SlX.run_at (us := [.ref a]) (ws := [.ref a]) F hr.in1 I.env0.in1 pass0 I (.cons rfl .nil) q)) (fun v s' z => ?_) fun _ _ x => x)
  obtain ⟨z', H', I', rz, n, en, h0, h1, qz⟩ := z
  subst en
  obtain ⟨t, e⟩ := (show ∃ t, v = Value.int n t from rz)
  cases e
  exact ⟨⟨h0, h1⟩, .int n, H', I'.tok _, ⟨_, rfl⟩, qz⟩
def rStrOwn (C : Addr) (sp : Sp) : List V → Hp → VK → Prop := fun xs H Q => ∃ a dx fs, xs = [.ref a] ∧ H a = some (.ins C dx fs) ∧ sp [.ref a] H (fun z H' => ∃ x : Str, z = .str x ∧ Q z H') E0
theorem call_strOwn {X : Cx} {C g : Addr} {n : Nat} {sp : Sp} (hs : PySem.W.findIn X.K (.ref C) "__str__" = some (some (.ref g))) (hf : PySem.W.isFn X.K (.ref g) = true) (F : FnR X.prog X.w X.K X.mg X.base CX0 n g sp) (hr : Room (n + 2) X.A) : CallR X (.type "str") (rStrOwn C sp) := by
  intro pins s σ H xs us Q I r h
  obtain ⟨a, dx, fs, rfl, ea, q⟩ := h
  obtain ⟨u, rfl, ru⟩ := r.one
  cases (show u = Value.ref a from ru)
  obtain ⟨mA, O, _, _, _, _⟩ := ins_get I.hok ea
  obtain ⟨od, J, _⟩ := O.look
  have hr2 : Room n X.A.in1.in1 := (show Room (n + 1) X.A.in1 from Room.in1 hr).in1
  refine PySem.W.kso_call hr2.units0 I.kIn J hs hf (wpAny_mono (wpAny_call (SlX.run_at (us := [.ref a]) (ws := [.ref a]) F hr2 I.env0.in1.in1 pass0 I (.cons rfl .nil) q)) (fun v s' z => ?_) fun _ _ x => x)
  obtain ⟨z', H', I', rz, x, en, qz⟩ := z
  subst en
  obtain ⟨t, e⟩ := (show ∃ t, v = Value.str x t from rz)
  cases e
  exact ⟨.str x, H', I', ⟨_, rfl⟩, qz⟩
/-! ### Desk -/
structure DeskC (K : PySem.W.Frag) (mg : Str → Option Value) (C : Addr) : Prop where
  cl : Cls K C
  nT : NoAttr K C "trees"
  nD : NoAttr K C "done"
  nB : NoAttr K C "busy"
  g : mg "Desk" = some (.ref C)
  mo : ∃ u, ConD K C "MOST_EDITS" (.int 60) u
/-- a method of the class, with its promise -/
structure MDf (P : Program) (w : World) (K : PySem.W.Frag) (mg : Str → Option Value) (base : Heap) (C : Addr) (k : Nat) (m : Str) (ps : List Str) (sp : Sp) where
  f : Addr
  fd : FuncData
  ok : FnOk P w K mg base CX0 k f fd ps sp
  b : Binds K fd ps []
  at_ : Meth K C m f
/-- a property of the class -/
structure PDf (P : Program) (w : World) (K : PySem.W.Frag) (mg : Str → Option Value) (base : Heap) (C : Addr) (k : Nat) (m : Str) (sp : Sp) where
  f : Addr
  fd : FuncData
  p : Addr
  ok : FnOk P w K mg base CX0 k f fd ["self"] sp
  b : Binds K fd ["self"] []
  pr : PropOf K C m p f
def deskF (vt vd vb : V) : List (Str × V) := [("trees", vt), ("done", vd), ("busy", vb)]
abbrev deskF1 (vt : V) : List (Str × V) := [("trees", vt)]
abbrev deskF2 (vt vd : V) : List (Str × V) := [("trees", vt), ("done", vd)]
theorem dn1 : ¬ (("trees" : Str) = "done") := by decide +kernel
theorem dn2 : ¬ (("trees" : Str) = "busy") := by decide +kernel
theorem dn3 : ¬ (("done" : Str) = "busy") := by decide +kernel
theorem put_d (vt vd : V) : putF "done" vd (deskF1 vt) = deskF2 vt vd := by
  show (if ("trees" : Str) = "done" then (("trees" : Str), vd) :: [] else (("trees" : Str), vt) :: putF "done" vd []) = deskF2 vt vd
  rw [if_neg dn1]
  rfl
theorem put_b (vt vd vb : V) : putF "busy" vb (deskF2 vt vd) = deskF vt vd vb := by
  show (if ("trees" : Str) = "busy" then (("trees" : Str), vb) :: _ else (("trees" : Str), vt) :: (if ("done" : Str) = "busy" then (("done" : Str), vb) :: [] else (("done" : Str), vd) :: putF "busy" vb [])) = deskF vt vd vb
  rw [if_neg dn2, if_neg dn3]
  rfl
theorem set_t (vt vd vb vt' : V) : putF "trees" vt' (deskF vt vd vb) = deskF vt' vd vb := rfl
theorem set_d (vt vd vb vd' : V) : putF "done" vd' (deskF vt vd vb) = deskF vt vd' vb := by
  show (if ("trees" : Str) = "done" then _ else (("trees" : Str), vt) :: putF "done" vd' [("done", vd), ("busy", vb)]) = deskF vt vd' vb
  rw [if_neg dn1]
  rfl
theorem look_t (vt vd vb : V) : (deskF vt vd vb).lookup ("trees" : Str) = some vt := rfl
theorem look_d (vt vd vb : V) : (deskF vt vd vb).lookup ("done" : Str) = some vd := by
  have h : (("done" : Str) == ("trees" : Str)) = false := by decide +kernel
  unfold deskF
  simp only [List.lookup, h]
  rfl
theorem look_b (vt vd vb : V) : (deskF vt vd vb).lookup ("busy" : Str) = some vb := by
  have h : (("busy" : Str) == ("trees" : Str)) = false := by decide +kernel
  have h2 : (("busy" : Str) == ("done" : Str)) = false := by decide +kernel
  unfold deskF
  simp only [List.lookup, h, h2]
  rfl
theorem no_look {m : Str} (vt vd vb : V) (h1 : (m == ("trees" : Str)) = false) (h2 : (m == ("done" : Str)) = false) (h3 : (m == ("busy" : Str)) = false) : (deskF vt vd vb).lookup m = none := by
  unfold deskF
  simp only [List.lookup, h1, h2, h3]
/-- trees, one for each -/
inductive BsAt (H : Hp) : List V → List B → Prop
  | nil : BsAt H [] []
  | snoc {vs : List V} {ts : List B} {v : V} {t : B} : BsAt H vs ts → BAt H v t → BsAt H (vs ++ [v]) (ts ++ [t])
theorem BsAt.keep {H H' : Hp} (k : KeepT H H') {vs : List V} {ts : List B} (h : BsAt H vs ts) : BsAt H' vs ts := by
  induction h with
  | nil => exact .nil
  | snoc _ b ih => exact .snoc ih (b.keep k)
theorem BsAt.len {H : Hp} {vs : List V} {ts : List B} (h : BsAt H vs ts) : vs.length = ts.length := by
  induction h with
  | nil => rfl
  | snoc _ _ ih => rw [List.length_append, List.length_append, ih]; rfl
/-- edits, one for each -/
inductive EsAt (H : Hp) : List V → List Ed → Prop
  | nil : EsAt H [] []
  | snoc {vs : List V} {es : List Ed} {q : Addr} {e : Ed} : EsAt H vs es → H q = some (.tup e.vals) → EsAt H (vs ++ [.ref q]) (es ++ [e])
theorem EsAt.keep {H H' : Hp} (k : KeepT H H') {vs : List V} {es : List Ed} (h : EsAt H vs es) : EsAt H' vs es := by
  induction h with
  | nil => exact .nil
  | snoc _ b ih => exact .snoc ih (k _ _ b)
theorem EsAt.len {H : Hp} {vs : List V} {es : List Ed} (h : EsAt H vs es) : vs.length = es.length := by
  induction h with
  | nil => rfl
  | snoc _ _ ih => rw [List.length_append, List.length_append, ih]; rfl
/-- a desk: the trees before, the tree, the edits that stand -/
def Dk (C : Addr) (H : Hp) (a : Addr) (ts : List B) (t : B) (es : List Ed) (busy : Bool) : Prop :=
  ∃ (dx ta td : Addr) (vs : List V) (v : V) (ds : List V), H a = some (.ins C dx (deskF (.ref ta) (.ref td) (.bl busy))) ∧ H ta = some (.tup (vs ++ [v])) ∧ H td = some (.tup ds) ∧ BsAt H vs ts ∧ BAt H v t ∧ EsAt H ds es
/-- all but the object at a stands still -/
def But (a : Addr) (H H' : Hp) : Prop := ∀ b o, b ≠ a → H b = some o → H' b = some o
theorem But.refl (a : Addr) (H : Hp) : But a H H := fun _ _ _ h => h
theorem But.trans {a : Addr} {H H1 H2 : Hp} (x : But a H H1) (y : But a H1 H2) : But a H H2 := fun b o h e => y b o h (x b o h e)
theorem But.of {a : Addr} {H H' : Hp} (s : Same H H') : But a H H' := fun b o _ e => s b o e
theorem But.keepT {a C : Addr} {H H' : Hp} {ts : List B} {t : B} {es : List Ed} {bu : Bool} (x : But a H H') (d : Dk C H a ts t es bu) : KeepT H H' := fun b xs e => by
  obtain ⟨dx, ta, td, vs, v, ds, h1, _⟩ := d
  exact x b _ (ne_of e h1 (by intro z; cases z)) e
theorem Dk.same {C a : Addr} {H H' : Hp} {ts : List B} {t : B} {es : List Ed} {bu : Bool} (s : Same H H') (d : Dk C H a ts t es bu) : Dk C H' a ts t es bu := by
  obtain ⟨dx, ta, td, vs, v, ds, h1, h2, h3, h4, h5, h6⟩ := d
  exact ⟨dx, ta, td, vs, v, ds, s _ _ h1, s _ _ h2, s _ _ h3, h4.keep (Tw.Same.keepT s), h5.same s, h6.keep (Tw.Same.keepT s)⟩
theorem atI_last (xs : List V) (x : V) : atI (xs ++ [x]) (-1) = some x := by
  unfold atI ixN
  rw [List.length_append, List.length_singleton, if_neg (by omega), if_pos (by omega)]
  show (xs ++ [x])[((-1 : Int) + ((xs.length + 1 : Nat) : Int)).toNat]? = some x
  rw [show ((-1 : Int) + ((xs.length + 1 : Nat) : Int)).toNat = xs.length by omega]
  simp
/-! ### the methods of Desk -/
def spInitD (C : Addr) : Sp := fun vs H Q _ => ∃ (p dx : Addr) (v : V) (t : B), vs = [.ref p, v] ∧ H p = some (.ins C dx []) ∧ BAt H v t ∧ t ≠ .nil ∧ t.lts ∧ t.size ≤ 12 ∧ ∀ H', But p H H' → Dk C H' p [] t [] false → Q .non H'
def spFree (C : Addr) : Sp := fun vs H Q _ => ∃ (a : Addr) (ts : List B) (t : B) (es : List Ed), vs = [.ref a] ∧ Dk C H a ts t es false ∧ Q .non H
def spCT : Sp := fun vs H Q _ => ∃ a v, vs = [.ref a, v] ∧ Q .non H
def spTold (C : Addr) : Sp := fun vs H Q _ => ∃ (a : Addr) (v : V) (ts : List B) (t : B) (es : List Ed) (bu : Bool), vs = [.ref a, v] ∧ Dk C H a ts t es bu ∧ es.length ≤ 1000 ∧ Q (.int (es.length : Int)) H
def spTake (C : Addr) : Sp := fun vs H Q _ => ∃ (a q : Addr) (ts : List B) (t t' : B) (es : List Ed) (bu : Bool) (e : Ed), vs = [.ref a, .ref q] ∧ Dk C H a ts t es bu ∧ H q = some (.tup e.vals) ∧ Does t e t' ∧ es.length < 60 ∧ ts.length ≤ 100 ∧ t.lts ∧ t.size ≤ 12 ∧ t ≠ .nil ∧
  ∀ H', But a H H' → Dk C H' a (ts ++ [t]) t' (es ++ [e]) bu → Q .non H'
def spCalled (C : Addr) : Sp := fun vs H Q _ => ∃ (a q : Addr) (ts : List B) (t t' : B) (es : List Ed) (e : Ed), vs = [.ref a, .ref q] ∧ Dk C H a ts t es false ∧ H q = some (.tup e.vals) ∧ Does t e t' ∧ es.length < 60 ∧ ts.length ≤ 100 ∧ t.lts ∧ t.size ≤ 12 ∧ t ≠ .nil ∧
  ∀ H', But a H H' → Dk C H' a (ts ++ [t]) t' (es ++ [e]) false → Q (.int ((es.length + 1 : Nat) : Int)) H'
/-- one of the four methods: the desk, then the edit's arguments -/
def spDo (C : Addr) (mk : Ed → Prop) : Sp := fun vs H Q _ => ∃ (a : Addr) (ts : List B) (t t' : B) (es : List Ed) (e : Ed), vs = .ref a :: e.args ∧ mk e ∧ Dk C H a ts t es false ∧ Does t e t' ∧ es.length < 60 ∧ ts.length ≤ 100 ∧ t.lts ∧ t.size ≤ 12 ∧ t ≠ .nil ∧
  ∀ H', But a H H' → Dk C H' a (ts ++ [t]) t' (es ++ [e]) false → Q (.int ((es.length + 1 : Nat) : Int)) H'
/-- the tree of a desk -/
def spTreeM (C : Addr) : Sp := fun vs H Q _ => ∃ (a : Addr) (ts : List B) (t : B) (es : List Ed) (bu : Bool), vs = [.ref a, .non] ∧ Dk C H a ts t es bu ∧ ∀ v, BAt H v t → Q v H
def spEditsM (C : Addr) : Sp := fun vs H Q _ => ∃ (a : Addr) (ts : List B) (t : B) (es : List Ed) (bu : Bool), vs = [.ref a] ∧ Dk C H a ts t es bu ∧ ∀ (d : Addr) (ds : List V), H d = some (.tup ds) → EsAt H ds es → Q (.ref d) H
def spVer (C : Addr) : Sp := fun vs H Q _ => ∃ (a : Addr) (ts : List B) (t : B) (es : List Ed) (bu : Bool), vs = [.ref a] ∧ Dk C H a ts t es bu ∧ es.length ≤ 1000 ∧ Q (.int (es.length : Int)) H
def spSizeP (C : Addr) : Sp := fun vs H Q _ => ∃ (a : Addr) (ts : List B) (t : B) (es : List Ed) (bu : Bool), vs = [.ref a] ∧ Dk C H a ts t es bu ∧ t.size ≤ 12 ∧ Q (.int (t.size : Int)) H
def spWalkP (C : Addr) (k : Kd) : Sp := fun vs H Q _ => ∃ (a : Addr) (ts : List B) (t : B) (es : List Ed) (bu : Bool), vs = [.ref a] ∧ Dk C H a ts t es bu ∧ t.size ≤ 12 ∧ ∀ H', Same H H' → Q (.str (tx (t.wk k))) H'
/-- the text of a desk -/
def dtext (n m : Nat) : Str := Str.ofString (toString (n : Int)) ++ Str.ofString " nodes, " ++ Str.ofString (toString (m : Int)) ++ Str.ofString " edits"
def spStrD (C : Addr) : Sp := fun vs H Q _ => ∃ (a : Addr) (ts : List B) (t : B) (es : List Ed) (bu : Bool), vs = [.ref a] ∧ Dk C H a ts t es bu ∧ t.size ≤ 12 ∧ es.length ≤ 60 ∧ Q (.str (dtext t.size es.length)) H
theorem sc_Desk_tree : FnScope ["self", "version"] ["self", "version"] (defScope s_Desk_tree) := ⟨rfl, rfl, rfl, by decide +kernel, rfl, by decide +kernel, by decide +kernel⟩
section
variable {P : Program} {w : World} {K : PySem.W.Frag} {mg : Str → Option Value} {base : Heap} {f : Addr} {fd : FuncData} {C : Addr}
theorem ok_init (F : Fun K "__init__" "Desk.__init__" s_Desk___init__ f fd) (TD : DeskC K mg C) (Dis_tree : Df P w K mg base 3 "is_tree" ["value"] spTreeT) : FnOk P w K mg base CX0 4 f fd ["self", "tree"] (spInitD C) := by
  refine F.ok sc_Desk___init__ (fun vs H Q E h => ?_) (fun cdv A outer s H vs Q E hr h => ?_)
  · obtain ⟨p, dx, v, x, rfl, _⟩ := h
    rfl
  obtain ⟨p, dx, v, x, rfl, hp, ht, hn, hl, hz, q⟩ := h
  refine ⟨_, (pss_cons (ps_if (pt_not (pt_val (pe_call Dis_tree.ok (hr.mono (by omega)) rfl Dis_tree.g Dis_tree.kp Dis_tree.b .nil pass0 (pa_cons (pv 1) pa_nil))))
      (pss_one ps_never) pss_nil)
    (pss_cons (ps_fld (pv 0) (pe_tup (pa_cons (pv 1) pa_nil)) rfl)
    (pss_cons (ps_fld (pv 0) (pe_tup pa_nil) rfl)
    (pss_one (ps_fld (pv 0) pe_bl rfl))))), ?_⟩
  refine ⟨_, rfl, v, x, rfl, ht, hn, hl, hz, fun H1 s1 => ⟨_, rfl, iteF ?_⟩⟩
  refine ⟨_, rfl, (by show 1 ≤ sizeLine; decide), fun ta nta => ?_⟩
  have k2 := same_new nta (.tup [v])
  have hp2 := k2 _ _ (s1 _ _ hp)
  have npt : p ≠ ta := ne_of_none (s1 _ _ hp) nta
  refine ⟨_, rfl, p, C, dx, [], rfl, hp2, TD.cl, TD.nT, (by show 0 < 1000; decide), ?_⟩
  refine ⟨(by show 0 ≤ sizeLine; decide), fun td ntd => ?_⟩
  have npd : p ≠ td := fun z => by rw [← z, upd_same] at ntd; cases ntd
  rw [upd_ne npd.symm] at ntd
  have ntt : ta ≠ td := ne_of_none (H := upd H1 ta (.tup [v])) upd_same ntd
  refine ⟨_, rfl, p, C, dx, deskF1 (.ref ta), rfl, (by rw [upd_ne npd, upd_same]; rfl), TD.cl, TD.nD, (by show 1 < 1000; decide), ?_⟩
  refine ⟨_, rfl, p, C, dx, deskF2 (.ref ta) (.ref td), rfl, (by rw [upd_same, put_d]), TD.cl, TD.nB, (by show 2 < 1000; decide), ?_⟩
  refine q _ (fun b o hb e => ?_) ⟨dx, ta, td, [], v, [], (by rw [upd_same, put_b]), (by rw [upd_ne npt.symm, upd_ne npt.symm, upd_ne ntt, upd_ne npt.symm, upd_same]; rfl), (by rw [upd_ne npd.symm, upd_ne npd.symm, upd_same]), .nil, ?_, .nil⟩
  · have e1 := k2 _ _ (s1 _ _ e)
    have n1 : b ≠ td := ne_of_none e1 ntd
    rw [upd_ne hb, upd_ne hb, upd_ne n1, upd_ne hb]
    exact e1
  · refine (ht.same (s1.trans k2)).keep fun b xs e => ?_
    have hb : b ≠ p := ne_of e hp2 (by intro z; cases z)
    have n1 : b ≠ td := ne_of_none e ntd
    rw [upd_ne hb, upd_ne hb, upd_ne n1, upd_ne hb]
    exact e
theorem ok_free {k : Nat} (F : Fun K "check_free" "Desk.check_free" s_Desk_check_free f fd) (TD : DeskC K mg C) : FnOk P w K mg base CX0 (k + 1) f fd ["self"] (spFree C) := by
  refine F.ok sc_Desk_check_free (fun vs H Q E h => ?_) (fun cdv A outer s H vs Q E hr h => ?_)
  · obtain ⟨a, ts, t, es, rfl, _⟩ := h
    rfl
  obtain ⟨a, ts, t, es, rfl, ⟨dx, ta, td, vs, v, ds, h1, h2, h3, h4, h5, h6⟩, q⟩ := h
  refine ⟨_, (pss_one (ps_if (pt_val (pe_fld (pv 0) rfl))
      (pss_one ps_never) pss_nil)), ?_⟩
  exact ⟨_, rfl, a, C, dx, _, _, rfl, h1, TD.cl, TD.nB, look_b _ _ _, false, rfl, iteF q⟩
theorem ok_ct {k : Nat} (F : Fun K "check_tree" "Desk.check_tree" s_Desk_check_tree f fd) : FnOk P w K mg base CX0 (k + 1) f fd ["self", "tree"] spCT := by
  refine F.ok sc_Desk_check_tree (fun vs H Q E h => ?_) (fun cdv A outer s H vs Q E hr h => ?_)
  · obtain ⟨a, v, rfl, _⟩ := h
    rfl
  obtain ⟨a, v, rfl, q⟩ := h
  exact ⟨_, (pss_one ps_pass), q⟩
theorem ok_told {k : Nat} (F : Fun K "told" "Desk.told" s_Desk_told f fd) (TD : DeskC K mg C) (M : Mgs mg) : FnOk P w K mg base CX0 (k + 1) f fd ["self", "name"] (spTold C) := by
  refine F.ok sc_Desk_told (fun vs H Q E h => ?_) (fun cdv A outer s H vs Q E hr h => ?_)
  · obtain ⟨a, v, ts, t, es, bu, rfl, _⟩ := h
    rfl
  obtain ⟨a, v, ts, t, es, bu, rfl, ⟨dx, ta, td, vs, u, ds, h1, h2, h3, h4, h5, h6⟩, hz, q⟩ := h
  refine ⟨_, (pss_one (ps_ret (pe_callB call_len_seq rfl M.len PySem.boot_len (pa_cons (pe_fld (pv 0) rfl) pa_nil)))), ?_⟩
  have hl := h6.len
  refine ⟨_, rfl, a, C, dx, _, _, rfl, h1, TD.cl, TD.nD, look_d _ _ _, td, ds, rfl, .inr (SqT.of h3), ?_⟩
  rw [hl]
  exact q
theorem ok_take (F : Fun K "take" "Desk.take" s_Desk_take f fd) (TD : DeskC K mg C) (M : Mgs mg) (Dedited : Df P w K mg base 23 "edited" ["tree", "edit"] spEdited) (Dct : MDf P w K mg base C 1 "check_tree" ["self", "tree"] spCT) : FnOk P w K mg base CX0 24 f fd ["self", "edit"] (spTake C) := by
  refine F.ok (k := 23) sc_Desk_take (fun vs H Q E h => ?_) (fun cdv A outer s H vs Q E hr h => ?_)
  · obtain ⟨a, q, ts, t, t', es, bu, e, rfl, _⟩ := h
    rfl
  obtain ⟨a, qe, ts, t, t', es, bu, e, rfl, ⟨dx, ta, td, vs, u, ds, h1, h2, h3, h4, h5, h6⟩, he, hd, h60, hts, hl, hz, hn, q⟩ := h
  obtain ⟨um, mo⟩ := TD.mo
  refine ⟨_, (pss_cons (ps_if (pt_cmpR op_ge (pe_callB call_len_seq rfl M.len PySem.boot_len (pa_cons (pe_fld (pv 0) rfl) pa_nil)) (pe_conD (pv 0)) (nomark _))
      (pss_one ps_never) pss_nil)
    (pss_cons (ps_set (i := 2) sc_Desk_take.nd rfl (.inl rfl) (pe_call Dedited.ok (hr.mono (by omega)) rfl Dedited.g Dedited.kp Dedited.b .nil pass0 (pa_cons (pe_ix ix_tup (pe_fld (pv 0) rfl) (pe_un un_neg pe_int) (fun _ _ => rfl)) (pa_cons (pv 1) pa_nil))))
    (pss_cons (ps_expr (pe_meth (pv 0) TD.cl Dct.at_ Dct.ok (hr.mono (by omega)) Dct.b .nil pass0 (pa_cons (pv 2) pa_nil)))
    (pss_cons (ps_fld (pv 0) (pe_tup (StX.pa_star (pe_fld (pv 0) rfl) (pa_cons (pv 2) pa_nil))) rfl)
    (pss_one (ps_fld (pv 0) (pe_tup (StX.pa_star (pe_fld (pv 0) rfl) (pa_cons (pv 1) pa_nil))) rfl)))))), ?_⟩
  have el := h6.len
  have tl := h4.len
  refine ⟨_, rfl, a, C, dx, _, _, rfl, h1, TD.cl, TD.nD, look_d _ _ _, td, ds, rfl, .inr (SqT.of h3), ?_⟩
  refine ⟨_, rfl, a, C, dx, _, _, um, rfl, h1, TD.cl, mo, no_look _ _ _ (by decide +kernel) (by decide +kernel) (by decide +kernel), _, _, rfl, rfl, _, rfl, ?_⟩
  rw [decide_eq_false (show ¬ ((ds.length : Int) ≥ 60) by omega)]
  refine iteF ?_
  refine ⟨_, rfl, a, C, dx, _, _, rfl, h1, TD.cl, TD.nT, look_t _ _ _, _, rfl, ta, _, _, u, rfl, rfl, SqT.of h2, atI_last _ _, _, rfl, u, t, t', e, qe, rfl, he, h5, hd, hz, hl, hn, fun v' H1 s1 b1 => ?_⟩
  refine ⟨_, rfl, a, dx, _, rfl, s1 _ _ h1, no_look _ _ _ (by decide +kernel) (by decide +kernel) (by decide +kernel), _, rfl, a, v', rfl, ?_⟩
  refine ⟨_, rfl, a, C, dx, _, _, rfl, s1 _ _ h1, TD.cl, TD.nT, look_t _ _ _, ta, _, rfl, .inl (SqT.of (s1 _ _ h2)), _, rfl, small (by rw [List.length_append, List.length_append]; show vs.length + 1 + 1 ≤ 1000; omega), fun tb ntb => ?_⟩
  have k2 := same_new ntb (.tup ((vs ++ [u]) ++ [v']))
  have e2 := k2 _ _ (s1 _ _ h1)
  have et2 := upd_same (H := H1) (a := tb) (o := .tup ((vs ++ [u]) ++ [v']))
  have s12 := s1.trans k2
  have b2 := b1.same k2
  generalize upd H1 tb (.tup ((vs ++ [u]) ++ [v'])) = H2 at k2 e2 et2 s12 b2 ⊢
  refine ⟨_, rfl, a, C, dx, _, rfl, e2, TD.cl, TD.nT, (by show 3 < 1000; decide), ?_⟩
  rw [set_t]
  have bB : But a H2 (upd H2 a (.ins C dx (deskF (.ref tb) (.ref td) (.bl bu)))) := fun b o hb e => by rw [upd_ne hb]; exact e
  have e3 := upd_same (H := H2) (a := a) (o := .ins C dx (deskF (.ref tb) (.ref td) (.bl bu)))
  have k3 : KeepT H2 (upd H2 a (.ins C dx (deskF (.ref tb) (.ref td) (.bl bu)))) := fun b xs e => bB b _ (ne_of e e2 (by intro z; cases z)) e
  generalize upd H2 a (.ins C dx (deskF (.ref tb) (.ref td) (.bl bu))) = H3 at bB e3 k3 ⊢
  have kA : KeepT H H3 := (Tw.Same.keepT s12).trans k3
  refine ⟨_, rfl, a, C, dx, _, _, rfl, e3, TD.cl, TD.nD, look_d _ _ _, td, _, rfl, .inl (SqT.of (kA _ _ h3)), _, rfl, small (by rw [List.length_append]; show ds.length + 1 ≤ 1000; omega), fun tc ntc => ?_⟩
  have k4 := same_new ntc (.tup (ds ++ [.ref qe]))
  have e4 := k4 _ _ e3
  have et4 := upd_same (H := H3) (a := tc) (o := .tup (ds ++ [.ref qe]))
  generalize upd H3 tc (.tup (ds ++ [.ref qe])) = H4 at k4 e4 et4 ⊢
  refine ⟨_, rfl, a, C, dx, _, rfl, e4, TD.cl, TD.nD, (by show 3 < 1000; decide), ?_⟩
  rw [set_d]
  have bB5 : But a H4 (upd H4 a (.ins C dx (deskF (.ref tb) (.ref tc) (.bl bu)))) := fun b o hb e => by rw [upd_ne hb]; exact e
  have e5 := upd_same (H := H4) (a := a) (o := .ins C dx (deskF (.ref tb) (.ref tc) (.bl bu)))
  have k5 : KeepT H4 (upd H4 a (.ins C dx (deskF (.ref tb) (.ref tc) (.bl bu)))) := fun b xs e => bB5 b _ (ne_of e e4 (by intro z; cases z)) e
  generalize upd H4 a (.ins C dx (deskF (.ref tb) (.ref tc) (.bl bu))) = H5 at bB5 e5 k5 ⊢
  have kB : KeepT H2 H5 := k3.trans ((Tw.Same.keepT k4).trans k5)
  have kC : KeepT H H5 := (Tw.Same.keepT s12).trans kB
  refine q H5 ((But.of s12).trans (bB.trans ((But.of k4).trans bB5))) ⟨dx, tb, tc, vs ++ [u], v', ds ++ [.ref qe], e5, kB _ _ et2, k5 _ _ et4, .snoc (h4.keep kC) (h5.keep kC), b2.keep kB, .snoc (h6.keep kC) (kC _ _ he)⟩
theorem ok_called (F : Fun K "called" "Desk.called" s_Desk_called f fd) (TD : DeskC K mg C) (Dcf : MDf P w K mg base C 1 "check_free" ["self"] (spFree C)) (Dtake : MDf P w K mg base C 24 "take" ["self", "edit"] (spTake C)) (Dtold : MDf P w K mg base C 1 "told" ["self", "name"] (spTold C)) :
    FnOk P w K mg base CX0 25 f fd ["self", "edit"] (spCalled C) := by
  refine F.ok (k := 24) sc_Desk_called (fun vs H Q E h => ?_) (fun cdv A outer s H vs Q E hr h => ?_)
  · obtain ⟨a, q, ts, t, t', es, e, rfl, _⟩ := h
    rfl
  obtain ⟨a, qe, ts, t, t', es, e, rfl, dk, he, hd, h60, hts, hl, hz, hn, q⟩ := h
  refine ⟨_, (pss_cons (ps_expr (pe_meth0 (pv 0) TD.cl Dcf.at_ Dcf.ok (hr.mono (by omega)) Dcf.b .nil pass0))
    (pss_cons (ps_expr (pe_meth (pv 0) TD.cl Dtake.at_ Dtake.ok (hr.mono (by omega)) Dtake.b .nil pass0 (pa_cons (pv 1) pa_nil)))
    (pss_one (ps_ret (pe_meth (pv 0) TD.cl Dtold.at_ Dtold.ok (hr.mono (by omega)) Dtold.b .nil pass0 (pa_cons (pe_ix ix_tup (pv 1) pe_int (fun _ _ => rfl)) pa_nil)))))), ?_⟩
  obtain ⟨dx, ta, td, vs, u, ds, h1, _⟩ := id dk
  refine ⟨_, rfl, a, dx, _, rfl, h1, no_look _ _ _ (by decide +kernel) (by decide +kernel) (by decide +kernel), a, ts, t, es, rfl, dk, ?_⟩
  refine ⟨_, rfl, a, dx, _, rfl, h1, no_look _ _ _ (by decide +kernel) (by decide +kernel) (by decide +kernel), _, rfl, a, qe, ts, t, t', es, false, e, rfl, dk, he, hd, h60, hts, hl, hz, hn, fun H1 b1 d1 => ?_⟩
  have he1 : H1 qe = some (.tup e.vals) := b1.keepT dk _ _ he
  obtain ⟨dx1, ta1, td1, vs1, u1, ds1, g1, _⟩ := id d1
  refine ⟨_, rfl, a, dx1, _, rfl, g1, no_look _ _ _ (by decide +kernel) (by decide +kernel) (by decide +kernel), _, rfl, qe, _, 0, .str e.word, rfl, rfl, SqT.of he1, atI_nat (j := 0) rfl, a, _, _, t', _, false, rfl, d1, by rw [List.length_append]; show es.length + 1 ≤ 1000; omega, ?_⟩
  rw [List.length_append]
  exact q H1 b1 d1
theorem do_tail {a q : Addr} {H : Hp} {ts : List B} {t t' : B} {es : List Ed} {e : Ed} {Q : VK} (dk : Dk C H a ts t es false) (nq : H q = none) (hd : Does t e t') (h60 : es.length < 60) (hts : ts.length ≤ 100) (hl : t.lts) (hz : t.size ≤ 12) (hn : t ≠ .nil)
    (k : ∀ H', But a H H' → Dk C H' a (ts ++ [t]) t' (es ++ [e]) false → Q (.int ((es.length + 1 : Nat) : Int)) H') : spCalled C [.ref a, .ref q] (upd H q (.tup e.vals)) Q E0 := by
  have s := same_new nq (.tup e.vals)
  exact ⟨a, q, ts, t, t', es, e, rfl, dk.same s, upd_same, hd, h60, hts, hl, hz, hn, fun H' b d => k H' ((But.of s).trans b) d⟩
theorem ok_put (F : Fun K "put" "Desk.put" s_Desk_put f fd) (TD : DeskC K mg C) (Dcalled : MDf P w K mg base C 25 "called" ["self", "edit"] (spCalled C)) : FnOk P w K mg base CX0 26 f fd ["self", "path", "label"] (spDo C isPut) := by
  refine F.ok (k := 25) sc_Desk_put (fun vs H Q E h => ?_) (fun cdv A outer s H vs Q E hr h => ?_)
  · obtain ⟨a, ts, t, t', es, e, rfl, he, _⟩ := h
    cases e <;> first | rfl | exact he.elim
  obtain ⟨a, ts, t, t', es, e, rfl, he, dk, hd, h60, hts, hl, hz, hn, q⟩ := h
  obtain ⟨dx, ta, td, vs, u, ds, h1, _⟩ := id dk
  cases e with
  | put p c =>
    refine ⟨_, (pss_one (ps_ret (pe_meth (pv 0) TD.cl Dcalled.at_ Dcalled.ok (hr.mono (by omega)) Dcalled.b .nil pass0 (pa_cons (pe_tup (pa_cons pe_str (pa_cons (pv 1) (pa_cons (pv 2) pa_nil)))) pa_nil)))), ?_⟩
    exact ⟨_, rfl, a, dx, _, rfl, h1, no_look _ _ _ (by decide +kernel) (by decide +kernel) (by decide +kernel), _, rfl, _, rfl, (by show 3 ≤ sizeLine; decide), fun r nr => do_tail dk nr hd h60 hts hl hz hn q⟩
  | cut _ => exact he.elim
  | label _ _ => exact he.elim
  | turn _ => exact he.elim
theorem ok_cut (F : Fun K "cut" "Desk.cut" s_Desk_cut f fd) (TD : DeskC K mg C) (Dcalled : MDf P w K mg base C 25 "called" ["self", "edit"] (spCalled C)) : FnOk P w K mg base CX0 26 f fd ["self", "path"] (spDo C isCut) := by
  refine F.ok (k := 25) sc_Desk_cut (fun vs H Q E h => ?_) (fun cdv A outer s H vs Q E hr h => ?_)
  · obtain ⟨a, ts, t, t', es, e, rfl, he, _⟩ := h
    cases e <;> first | rfl | exact he.elim
  obtain ⟨a, ts, t, t', es, e, rfl, he, dk, hd, h60, hts, hl, hz, hn, q⟩ := h
  obtain ⟨dx, ta, td, vs, u, ds, h1, _⟩ := id dk
  cases e with
  | cut p =>
    refine ⟨_, (pss_one (ps_ret (pe_meth (pv 0) TD.cl Dcalled.at_ Dcalled.ok (hr.mono (by omega)) Dcalled.b .nil pass0 (pa_cons (pe_tup (pa_cons pe_str (pa_cons (pv 1) pa_nil))) pa_nil)))), ?_⟩
    exact ⟨_, rfl, a, dx, _, rfl, h1, no_look _ _ _ (by decide +kernel) (by decide +kernel) (by decide +kernel), _, rfl, (by show 2 ≤ sizeLine; decide), fun r nr => do_tail dk nr hd h60 hts hl hz hn q⟩
  | put _ _ => exact he.elim
  | label _ _ => exact he.elim
  | turn _ => exact he.elim
theorem ok_label (F : Fun K "label" "Desk.label" s_Desk_label f fd) (TD : DeskC K mg C) (Dcalled : MDf P w K mg base C 25 "called" ["self", "edit"] (spCalled C)) : FnOk P w K mg base CX0 26 f fd ["self", "path", "label"] (spDo C isLab) := by
  refine F.ok (k := 25) sc_Desk_label (fun vs H Q E h => ?_) (fun cdv A outer s H vs Q E hr h => ?_)
  · obtain ⟨a, ts, t, t', es, e, rfl, he, _⟩ := h
    cases e <;> first | rfl | exact he.elim
  obtain ⟨a, ts, t, t', es, e, rfl, he, dk, hd, h60, hts, hl, hz, hn, q⟩ := h
  obtain ⟨dx, ta, td, vs, u, ds, h1, _⟩ := id dk
  cases e with
  | label p c =>
    refine ⟨_, (pss_one (ps_ret (pe_meth (pv 0) TD.cl Dcalled.at_ Dcalled.ok (hr.mono (by omega)) Dcalled.b .nil pass0 (pa_cons (pe_tup (pa_cons pe_str (pa_cons (pv 1) (pa_cons (pv 2) pa_nil)))) pa_nil)))), ?_⟩
    exact ⟨_, rfl, a, dx, _, rfl, h1, no_look _ _ _ (by decide +kernel) (by decide +kernel) (by decide +kernel), _, rfl, _, rfl, (by show 3 ≤ sizeLine; decide), fun r nr => do_tail dk nr hd h60 hts hl hz hn q⟩
  | put _ _ => exact he.elim
  | cut _ => exact he.elim
  | turn _ => exact he.elim
theorem ok_turn (F : Fun K "turn" "Desk.turn" s_Desk_turn f fd) (TD : DeskC K mg C) (Dcalled : MDf P w K mg base C 25 "called" ["self", "edit"] (spCalled C)) : FnOk P w K mg base CX0 26 f fd ["self", "path"] (spDo C isTur) := by
  refine F.ok (k := 25) sc_Desk_turn (fun vs H Q E h => ?_) (fun cdv A outer s H vs Q E hr h => ?_)
  · obtain ⟨a, ts, t, t', es, e, rfl, he, _⟩ := h
    cases e <;> first | rfl | exact he.elim
  obtain ⟨a, ts, t, t', es, e, rfl, he, dk, hd, h60, hts, hl, hz, hn, q⟩ := h
  obtain ⟨dx, ta, td, vs, u, ds, h1, _⟩ := id dk
  cases e with
  | turn p =>
    refine ⟨_, (pss_one (ps_ret (pe_meth (pv 0) TD.cl Dcalled.at_ Dcalled.ok (hr.mono (by omega)) Dcalled.b .nil pass0 (pa_cons (pe_tup (pa_cons pe_str (pa_cons (pv 1) pa_nil))) pa_nil)))), ?_⟩
    exact ⟨_, rfl, a, dx, _, rfl, h1, no_look _ _ _ (by decide +kernel) (by decide +kernel) (by decide +kernel), _, rfl, (by show 2 ≤ sizeLine; decide), fun r nr => do_tail dk nr hd h60 hts hl hz hn q⟩
  | put _ _ => exact he.elim
  | cut _ => exact he.elim
  | label _ _ => exact he.elim
end
/-! ### what a desk shows -/
theorem dn12 (n : Nat) (h : n ≤ 60) : (Str.ofString (toString (n : Int))).length ≤ 31 ∧ (n : Int).natAbs.log2 < 1920 := by
  have := small_shown n (by omega)
  exact ⟨Nat.le_trans this.1 (by decide), this.2⟩
section
variable {P : Program} {w : World} {K : PySem.W.Frag} {mg : Str → Option Value} {base : Heap} {f : Addr} {fd : FuncData} {C : Addr}
theorem ok_treeM {k : Nat} (F : Fun K "tree" "Desk.tree" s_Desk_tree f fd) (TD : DeskC K mg C) : FnOk P w K mg base CX0 (k + 1) f fd ["self", "version"] (spTreeM C) := by
  refine F.ok sc_Desk_tree (fun vs H Q E h => ?_) (fun cdv A outer s H vs Q E hr h => ?_)
  · obtain ⟨a, ts, t, es, bu, rfl, _⟩ := h
    rfl
  obtain ⟨a, ts, t, es, bu, rfl, ⟨dx, ta, td, vs, v, ds, h1, h2, h3, h4, h5, h6⟩, q⟩ := h
  refine ⟨_, pss_cons (ps_if (pt_cmpR op_isN (pv 1) pe_non (nomark _)) (pss_one (ps_ret (pe_ix ix_tup (pe_fld (pv 0) rfl) (pe_un un_neg pe_int) (fun _ _ => rfl)))) pss_nil) pss_never, ?_⟩
  refine ⟨_, rfl, rfl, _, rfl, iteT ?_⟩
  refine ⟨_, rfl, a, C, dx, _, _, rfl, h1, TD.cl, TD.nT, look_t _ _ _, ?_⟩
  exact ⟨_, rfl, ta, _, _, v, rfl, rfl, SqT.of h2, atI_last _ _, q v h5⟩
theorem ok_editsM {k : Nat} (F : Fun K "edits" "Desk.edits" s_Desk_edits f fd) (TD : DeskC K mg C) : FnOk P w K mg base CX0 (k + 1) f fd ["self"] (spEditsM C) := by
  refine F.ok sc_Desk_edits (fun vs H Q E h => ?_) (fun cdv A outer s H vs Q E hr h => ?_)
  · obtain ⟨a, ts, t, es, bu, rfl, _⟩ := h
    rfl
  obtain ⟨a, ts, t, es, bu, rfl, ⟨dx, ta, td, vs, v, ds, h1, h2, h3, h4, h5, h6⟩, q⟩ := h
  refine ⟨_, (pss_one (ps_ret (pe_fld (pv 0) rfl))), ?_⟩
  exact ⟨_, rfl, a, C, dx, _, _, rfl, h1, TD.cl, TD.nD, look_d _ _ _, q td ds h3 h6⟩
theorem ok_ver {k : Nat} (F : Fun K "version" "Desk.version" s_Desk_version f fd) (TD : DeskC K mg C) (M : Mgs mg) : FnOk P w K mg base CX0 (k + 1) f fd ["self"] (spVer C) := by
  refine F.ok sc_Desk_version (fun vs H Q E h => ?_) (fun cdv A outer s H vs Q E hr h => ?_)
  · obtain ⟨a, ts, t, es, bu, rfl, _⟩ := h
    rfl
  obtain ⟨a, ts, t, es, bu, rfl, ⟨dx, ta, td, vs, u, ds, h1, h2, h3, h4, h5, h6⟩, hz, q⟩ := h
  refine ⟨_, (pss_one (ps_ret (pe_callB call_len_seq rfl M.len PySem.boot_len (pa_cons (pe_fld (pv 0) rfl) pa_nil)))), ?_⟩
  refine ⟨_, rfl, a, C, dx, _, _, rfl, h1, TD.cl, TD.nD, look_d _ _ _, td, ds, rfl, .inr (SqT.of h3), ?_⟩
  rw [h6.len]
  exact q
theorem ok_len {k : Nat} (F : Fun K "__len__" "Desk.__len__" s_Desk___len__ f fd) (TD : DeskC K mg C) (M : Mgs mg) : FnOk P w K mg base CX0 (k + 1) f fd ["self"] (spVer C) := by
  refine F.ok sc_Desk___len__ (fun vs H Q E h => ?_) (fun cdv A outer s H vs Q E hr h => ?_)
  · obtain ⟨a, ts, t, es, bu, rfl, _⟩ := h
    rfl
  obtain ⟨a, ts, t, es, bu, rfl, ⟨dx, ta, td, vs, u, ds, h1, h2, h3, h4, h5, h6⟩, hz, q⟩ := h
  refine ⟨_, (pss_one (ps_ret (pe_callB call_len_seq rfl M.len PySem.boot_len (pa_cons (pe_fld (pv 0) rfl) pa_nil)))), ?_⟩
  refine ⟨_, rfl, a, C, dx, _, _, rfl, h1, TD.cl, TD.nD, look_d _ _ _, td, ds, rfl, .inr (SqT.of h3), ?_⟩
  rw [h6.len]
  exact q
theorem ok_sizeP (F : Fun K "size" "Desk.size" s_Desk_size f fd) (TD : DeskC K mg C) (Dsize_of : Df P w K mg base 20 "size_of" ["tree"] (spSz 20)) : FnOk P w K mg base CX0 21 f fd ["self"] (spSizeP C) := by
  refine F.ok (k := 20) sc_Desk_size (fun vs H Q E h => ?_) (fun cdv A outer s H vs Q E hr h => ?_)
  · obtain ⟨a, ts, t, es, bu, rfl, _⟩ := h
    rfl
  obtain ⟨a, ts, t, es, bu, rfl, ⟨dx, ta, td, vs, u, ds, h1, h2, h3, h4, h5, h6⟩, hz, q⟩ := h
  refine ⟨_, (pss_one (ps_ret (pe_call Dsize_of.ok (hr.mono (by omega)) rfl Dsize_of.g Dsize_of.kp Dsize_of.b .nil pass0 (pa_cons (pe_ix ix_tup (pe_fld (pv 0) rfl) (pe_un un_neg pe_int) (fun _ _ => rfl)) pa_nil)))), ?_⟩
  exact ⟨_, rfl, a, C, dx, _, _, rfl, h1, TD.cl, TD.nT, look_t _ _ _, _, rfl, ta, _, _, u, rfl, rfl, SqT.of h2, atI_last _ _, u, t, rfl, h5, by omega, q⟩
theorem ok_first (F : Fun K "first" "Desk.first" s_Desk_first f fd) (TD : DeskC K mg C) (Dwalk : Df P w K mg base 62 "walk" ["tree", "kind"] spWalk) : FnOk P w K mg base CX0 63 f fd ["self"] (spWalkP C .first) := by
  refine F.ok (k := 62) sc_Desk_first (fun vs H Q E h => ?_) (fun cdv A outer s H vs Q E hr h => ?_)
  · obtain ⟨a, ts, t, es, bu, rfl, _⟩ := h
    rfl
  obtain ⟨a, ts, t, es, bu, rfl, ⟨dx, ta, td, vs, u, ds, h1, h2, h3, h4, h5, h6⟩, hz, q⟩ := h
  refine ⟨_, (pss_one (ps_ret (pe_call Dwalk.ok (hr.mono (by omega)) rfl Dwalk.g Dwalk.kp Dwalk.b .nil pass0 (pa_cons (pe_ix ix_tup (pe_fld (pv 0) rfl) (pe_un un_neg pe_int) (fun _ _ => rfl)) (pa_cons pe_str pa_nil))))), ?_⟩
  exact ⟨_, rfl, a, C, dx, _, _, rfl, h1, TD.cl, TD.nT, look_t _ _ _, _, rfl, ta, _, _, u, rfl, rfl, SqT.of h2, atI_last _ _, u, t, .first, rfl, h5, by omega, q⟩
theorem ok_betw (F : Fun K "between" "Desk.between" s_Desk_between f fd) (TD : DeskC K mg C) (Dwalk : Df P w K mg base 62 "walk" ["tree", "kind"] spWalk) : FnOk P w K mg base CX0 63 f fd ["self"] (spWalkP C .between) := by
  refine F.ok (k := 62) sc_Desk_between (fun vs H Q E h => ?_) (fun cdv A outer s H vs Q E hr h => ?_)
  · obtain ⟨a, ts, t, es, bu, rfl, _⟩ := h
    rfl
  obtain ⟨a, ts, t, es, bu, rfl, ⟨dx, ta, td, vs, u, ds, h1, h2, h3, h4, h5, h6⟩, hz, q⟩ := h
  refine ⟨_, (pss_one (ps_ret (pe_call Dwalk.ok (hr.mono (by omega)) rfl Dwalk.g Dwalk.kp Dwalk.b .nil pass0 (pa_cons (pe_ix ix_tup (pe_fld (pv 0) rfl) (pe_un un_neg pe_int) (fun _ _ => rfl)) (pa_cons pe_str pa_nil))))), ?_⟩
  exact ⟨_, rfl, a, C, dx, _, _, rfl, h1, TD.cl, TD.nT, look_t _ _ _, _, rfl, ta, _, _, u, rfl, rfl, SqT.of h2, atI_last _ _, u, t, .between, rfl, h5, by omega, q⟩
theorem ok_last (F : Fun K "last" "Desk.last" s_Desk_last f fd) (TD : DeskC K mg C) (Dwalk : Df P w K mg base 62 "walk" ["tree", "kind"] spWalk) : FnOk P w K mg base CX0 63 f fd ["self"] (spWalkP C .last) := by
  refine F.ok (k := 62) sc_Desk_last (fun vs H Q E h => ?_) (fun cdv A outer s H vs Q E hr h => ?_)
  · obtain ⟨a, ts, t, es, bu, rfl, _⟩ := h
    rfl
  obtain ⟨a, ts, t, es, bu, rfl, ⟨dx, ta, td, vs, u, ds, h1, h2, h3, h4, h5, h6⟩, hz, q⟩ := h
  refine ⟨_, (pss_one (ps_ret (pe_call Dwalk.ok (hr.mono (by omega)) rfl Dwalk.g Dwalk.kp Dwalk.b .nil pass0 (pa_cons (pe_ix ix_tup (pe_fld (pv 0) rfl) (pe_un un_neg pe_int) (fun _ _ => rfl)) (pa_cons pe_str pa_nil))))), ?_⟩
  exact ⟨_, rfl, a, C, dx, _, _, rfl, h1, TD.cl, TD.nT, look_t _ _ _, _, rfl, ta, _, _, u, rfl, rfl, SqT.of h2, atI_last _ _, u, t, .last, rfl, h5, by omega, q⟩
theorem ok_str (F : Fun K "__str__" "Desk.__str__" s_Desk___str__ f fd) (TD : DeskC K mg C) (M : Mgs mg) (Dsize_of : Df P w K mg base 20 "size_of" ["tree"] (spSz 20)) : FnOk P w K mg base CX0 21 f fd ["self"] (spStrD C) := by
  refine F.ok (k := 20) sc_Desk___str__ (fun vs H Q E h => ?_) (fun cdv A outer s H vs Q E hr h => ?_)
  · obtain ⟨a, ts, t, es, bu, rfl, _⟩ := h
    rfl
  obtain ⟨a, ts, t, es, bu, rfl, ⟨dx, ta, td, vs, u, ds, h1, h2, h3, h4, h5, h6⟩, hz, he, q⟩ := h
  refine ⟨_, (pss_one (ps_ret (pe_joined (PJ.cons (pe_fmt (pe_call Dsize_of.ok (hr.mono (by omega)) rfl Dsize_of.g Dsize_of.kp Dsize_of.b .nil pass0 (pa_cons (pe_ix ix_tup (pe_fld (pv 0) rfl) (pe_un un_neg pe_int) (fun _ _ => rfl)) pa_nil))) (PJ.cons pe_str (PJ.cons (pe_fmt (pe_callB call_len_seq rfl M.len PySem.boot_len (pa_cons (pe_fld (pv 0) rfl) pa_nil))) (PJ.cons pe_str PJ.nil))))))), ?_⟩
  obtain ⟨n1, n2⟩ := dn12 t.size (by omega)
  obtain ⟨m1, m2⟩ := dn12 es.length (by omega)
  have e0 : ∀ x : Str, Str.empty ++ x = x := fun x => by
    show (⟨#[] ++ x.cps⟩ : Str) = x
    simp
  have l1 : (Str.ofString " nodes, ").length = 8 := by decide +kernel
  have l2 : (Str.ofString " edits").length = 6 := by decide +kernel
  refine ⟨_, rfl, a, C, dx, _, _, rfl, h1, TD.cl, TD.nT, look_t _ _ _, _, rfl, ta, _, _, u, rfl, rfl, SqT.of h2, atI_last _ _, u, t, rfl, h5, by omega, .inr ⟨_, rfl, n2, _, rfl, ?_, ?_⟩⟩
  · rw [e0]
    exact small (by omega)
  rw [e0]
  refine ⟨_, rfl, by rw [strLen_append, l1]; exact small (by omega), ?_⟩
  refine ⟨_, rfl, a, C, dx, _, _, rfl, h1, TD.cl, TD.nD, look_d _ _ _, td, ds, rfl, .inr (SqT.of h3), ?_⟩
  rw [h6.len]
  refine .inr ⟨_, rfl, m2, _, rfl, by rw [strLen_append, strLen_append, l1]; exact small (by omega), ?_⟩
  refine ⟨_, rfl, by rw [strLen_append, strLen_append, strLen_append, l1, l2]; exact small (by omega), ?_⟩
  exact q
end
/-! ### the stream -/
def Strm (H : Hp) (s : Addr) (n : Nat) : Prop := ∃ r c : Int, H s = some (.lst [.int r, .int c, .int (n : Int)]) ∧ 0 ≤ c ∧ c < 2305843009213693951
theorem Strm.same {H H' : Hp} {s : Addr} {n : Nat} (k : Same H H') (h : Strm H s n) : Strm H' s n := by
  obtain ⟨r, c, e, h1⟩ := h
  exact ⟨r, c, k _ _ e, h1⟩
theorem Strm.but {H H' : Hp} {s a : Addr} {n : Nat} (k : But a H H') (ne : s ≠ a) (h : Strm H s n) : Strm H' s n := by
  obtain ⟨r, c, e, h1⟩ := h
  exact ⟨r, c, k _ _ ne e, h1⟩
theorem Strm.lst {H : Hp} {s : Addr} {n : Nat} (h : Strm H s n) : ∃ xs, H s = some (.lst xs) := by
  obtain ⟨r, c, e, _⟩ := h
  exact ⟨_, e⟩
theorem But.keepL {a : Addr} {H H' : Hp} {xs : List V} (e : H a = some (.lst xs)) (x : But a H H') : KeepT H H' := fun b ys h => x b _ (ne_of h e (by intro z; cases z)) h
theorem modP (z p : Int) (h0 : 0 < p) (h1 : p < 2 ^ 64) : -(2 ^ 64) < z % p ∧ z % p < 2 ^ 64 := by
  have a := Int.emod_nonneg z (show p ≠ 0 by omega)
  have b := Int.emod_lt_of_pos z h0
  omega
theorem seq_cut {t u : TS} {D : Ends} {σ : L2.St} {H : Hp} (I : L2.St → Hp → Prop) (h2 : ∀ σ' H', I σ' H' → u D σ' H') (h1 : (∀ σ' H', I σ' H' → u D σ' H') → t { D with nx := u D } σ H) : tSeq t u D σ H := h1 h2
theorem seq_cutN {t u : TS} {D : Ends} {r1 : VK} {r2 r3 : L2.St → Hp → Prop} {σ : L2.St} {H : Hp} (I : L2.St → Hp → Prop) (h2 : ∀ σ' H', I σ' H' → u D σ' H') (h1 : (∀ σ' H', I σ' H' → u D σ' H') → t { D with nx := u D } σ H) : (Ends.mk (tSeq t u D) r1 r2 r3).nx σ H := h1 h2
def alph : List Nat := (Str.ofString "abcdefghijklmnopqrstuvwxyz").cps.toList
theorem alph_all : ∀ k : Fin 26, (alph[k.val]?).any isLow = true := by decide +kernel
theorem alph_at {j : Nat} (h : j < 26) : ∃ c, alph[j]? = some c ∧ isLow c = true := by
  have a := alph_all ⟨j, h⟩
  cases e : alph[j]? with
  | none => rw [show (⟨j, h⟩ : Fin 26).val = j from rfl, e] at a; cases a
  | some c => rw [show (⟨j, h⟩ : Fin 26).val = j from rfl, e] at a; exact ⟨c, rfl, a⟩
def StI (a : Addr) (i : Nat) (H : Hp) (σ : L2.St) (H' : Hp) : Prop := ∃ x : Int, σ = [some (.ref a), some (.int (i : Int)), some (.int x), none] ∧ H' = H
def spStream (K : PySem.W.Frag) : Sp := fun vs H Q _ => ∃ (a : Addr) (ns : List Int) (i : Nat), vs = [.ref a, .int (i : Int)] ∧ SqL K H a (ns.map V.int) ∧ i ≤ 1000 ∧ ∀ (s : Addr) (H' : Hp), H s = none → Same H H' → Strm H' s 0 → Q (.ref s) H'
def spTake1 : Sp := fun vs H Q _ => ∃ (s : Addr) (n : Nat) (m : Int), vs = [.ref s, .int m] ∧ Strm H s n ∧ n ≤ 1000000 ∧ 0 < m ∧ m ≤ 1000 ∧ ∀ (i : Nat) (n' : Nat) (H' : Hp), (i : Int) < m → Strm H' s n' → n' ≤ n + 1 → But s H H' → Q (.int (i : Int)) H'
def spLetter1 : Sp := fun vs H Q _ => ∃ (s : Addr) (n : Nat), vs = [.ref s] ∧ Strm H s n ∧ n + 2 ≤ 1000000 ∧ ∀ (c : Nat) (n' : Nat) (H' : Hp), isLow c = true → Strm H' s n' → n' ≤ n + 2 → But s H H' → Q (.str (ch c)) H'
section
variable {P : Program} {w : World} {K : PySem.W.Frag} {mg : Str → Option Value} {base : Heap} {f : Addr} {fd : FuncData}
theorem ok_stream {k : Nat} (F : Fun K "_law_stream" "_law_stream" s__law_stream f fd) (M : Mgs mg) : FnOk P w K mg base CX0 (k + 1) f fd ["_law_script", "_law_turn"] (spStream K) := by
  refine F.ok sc__law_stream (fun vs H Q E h => ?_) (fun cdv A outer s H vs Q E hr h => ?_)
  · obtain ⟨a, ns, i, rfl, _⟩ := h
    rfl
  obtain ⟨a, ns, i, rfl, hS, hi, q⟩ := h
  refine ⟨_, (pss_cons (ps_set (i := 2) sc__law_stream.nd rfl (.inl rfl) pe_int)
    (pss_cons (ps_if (pt_cmpR op_gt (pe_callB call_len_seq rfl M.len PySem.boot_len (pa_cons (pv 0) pa_nil)) pe_int (nomark _))
      (pss_one (ps_set (i := 2) sc__law_stream.nd rfl (.inl rfl) (pe_ix ix_list (pv 0) (pe_op op_mod (pv 1) (pe_callB call_len_seq rfl M.len PySem.boot_len (pa_cons (pv 0) pa_nil))) (fun _ _ => rfl)))) pss_nil)
    (pss_cons (ps_if (pt_cmpR op_lt (pv 2) pe_int (nomark _))
      (pss_one (ps_set (i := 2) sc__law_stream.nd rfl (.inl rfl) (pe_op op_sub pe_int (pe_op op_mul pe_int (pv 2))))) pss_nil)
    (pss_cons (ps_set (i := 3) sc__law_stream.nd rfl (.inl rfl) pe_int)
    (pss_cons (ps_if (pt_cmpR op_ge (pv 2) (pe_op op_pow pe_int pe_int) (nomark _))
      (pss_one (ps_set (i := 3) sc__law_stream.nd rfl (.inl rfl) (pv 2))) pss_nil)
    (pss_one (ps_ret (pe_lst (pa_cons (pv 3) (pa_cons (pe_op op_mod (pe_op op_add (pe_op op_add (pe_op op_mod (pv 2) pe_int) (pe_op op_mul (pe_op op_mul pe_int (pv 1)) (pv 1))) pe_int) pe_int) (pa_cons pe_int pa_nil))))))))))), ?_⟩
  refine seq_cut (StI a i H) (fun σ H6 hp => ?_) (fun rest => rest _ _ ⟨_, rfl, rfl⟩)
  obtain ⟨x, rfl, rfl⟩ := hp
  refine seq_cut (StI a i H6) (fun σ H6 hp => ?_) (fun rest => ?_)
  rotate_left
  · refine ⟨_, rfl, a, _, rfl, .inl hS, _, _, rfl, rfl, _, rfl, ite2 (fun hl => ?_) (fun hl => rest _ _ ⟨_, rfl, rfl⟩)⟩
    have hl' : 0 < ns.length := by
      have hl : (0 : Int) < ((ns.map V.int).length : Int) := of_decide_eq_true hl
      rw [List.length_map] at hl
      omega
    refine ⟨_, rfl, _, rfl, _, rfl, a, _, rfl, .inl hS, _, _, rfl, rfl, (by rw [List.length_map]; omega), ?_⟩
    have h0 := Int.emod_nonneg (i : Int) (show ((ns.map V.int).length : Int) ≠ 0 by rw [List.length_map]; omega)
    have h1 := Int.emod_lt_of_pos (i : Int) (show 0 < ((ns.map V.int).length : Int) by rw [List.length_map]; omega)
    obtain ⟨j, hj⟩ := Int.eq_ofNat_of_zero_le h0
    rw [hj] at h1
    have hj1 : j < ns.length := by rw [List.length_map] at h1; omega
    refine ⟨a, _, _, V.int (ns[j]'hj1), rfl, (show V.int ((i : Int) % _) = V.int (j : Int) by rw [hj]), hS, ?_, ?_⟩
    · refine atI_nat (j := j) ?_
      rw [List.getElem?_map, List.getElem?_eq_getElem hj1]
      rfl
    · exact rest _ _ ⟨_, rfl, rfl⟩
  obtain ⟨x, rfl, rfl⟩ := hp
  refine seq_cut (StI a i H6) (fun σ H7 hp => ?_) (fun rest => ?_)
  rotate_left
  · refine ⟨_, rfl, _, _, rfl, rfl, _, rfl, ite2 (fun hl => ?_) (fun hl => rest _ _ ⟨_, rfl, rfl⟩)⟩
    refine ⟨_, rfl, _, _, rfl, rfl, .inl (by decide), _, _, rfl, rfl, rest _ _ ⟨_, rfl, rfl⟩⟩
  obtain ⟨y, rfl, rfl⟩ := hp
  have fin : ∀ r : Int, ∀ (s : Addr), H7 s = none → Q (.ref s) (upd H7 s (.lst [.int r, .int ((y % 2305843009213693951 + 7919 * (i : Int) * (i : Int) + 11) % 2305843009213693951), .int 0])) := fun r s n => q s _ n (same_new n _) ⟨_, _, upd_same, Int.emod_nonneg _ (by decide), Int.emod_lt_of_pos _ (by decide)⟩
  refine ⟨_, rfl, _, _, rfl, rfl, ⟨by decide, by decide, by decide⟩, _, _, rfl, rfl, _, rfl, ite2 (fun hl => ?_) (fun hl => ?_)⟩
  · refine ⟨_, rfl, _, rfl, _, rfl, _, _, rfl, rfl, (show (0 : Int) < 2305843009213693951 by decide), _, rfl, _, _, rfl, rfl, .inl (by decide), _, rfl, _, _, rfl, rfl, .inr (by constructor <;> omega), _, _, rfl, rfl, _, _, rfl, rfl, _, _, rfl, rfl, (show (0 : Int) < 2305843009213693951 by decide), (show (3 : Nat) ≤ sizeLine by decide), ?_⟩
    exact fun s n => fin _ s n
  · refine ⟨_, rfl, _, rfl, _, _, rfl, rfl, (show (0 : Int) < 2305843009213693951 by decide), _, rfl, _, _, rfl, rfl, .inl (by decide), _, rfl, _, _, rfl, rfl, .inr (by constructor <;> omega), _, _, rfl, rfl, _, _, rfl, rfl, _, _, rfl, rfl, (show (0 : Int) < 2305843009213693951 by decide), (show (3 : Nat) ≤ sizeLine by decide), ?_⟩
    exact fun s n => fin _ s n
theorem ok_take1 {k : Nat} (F : Fun K "_law_take" "_law_take" s__law_take f fd) : FnOk P w K mg base CX0 (k + 1) f fd ["_law_stream_here", "_law_many"] spTake1 := by
  refine F.ok sc__law_take (fun vs H Q E h => ?_) (fun cdv A outer s H vs Q E hr h => ?_)
  · obtain ⟨sa, n, m, rfl, _⟩ := h
    rfl
  obtain ⟨sa, n, m, rfl, ⟨r, c, e1, c0, c1⟩, hn, m0, m1, q⟩ := h
  refine ⟨_, (pss_cons (ps_if (pt_cmpR op_gt (pe_ix ix_list (pv 0) pe_int (fun _ _ => rfl)) pe_int (nomark _))
      (pss_cons (ps_set (i := 2) sc__law_take.nd rfl (.inl rfl) (pe_op op_mod (pe_ix ix_list (pv 0) pe_int (fun _ _ => rfl)) (pv 1)))
    (pss_cons (ps_asg (pe_op op_fdiv (pe_ix ix_list (pv 0) pe_int (fun _ _ => rfl)) (pv 1)) (pg_sub (pv 0) pe_int set_list))
    (pss_one (ps_ret (pv 2))))) pss_nil)
    (pss_cons (ps_asg (pe_op op_add (pe_ix ix_list (pv 0) pe_int (fun _ _ => rfl)) pe_int) (pg_sub (pv 0) pe_int set_list))
    (pss_cons (ps_par (i := 3) (j := 4) (by rfl) sc__law_take.nd rfl rfl (by decide) rfl rfl (pa_cons (pe_op op_mod (pe_ix ix_list (pv 0) pe_int (fun _ _ => rfl)) pe_int) (pa_cons (pe_op op_fdivW (pe_ix ix_list (pv 0) pe_int (fun _ _ => rfl)) pe_int) pa_nil)) (by rfl))
    (pss_cons (ps_set (i := 5) sc__law_take.nd rfl (.inl rfl) (pe_ix ix_list (pv 0) pe_int (fun _ _ => rfl)))
    (pss_cons (ps_set (i := 6) sc__law_take.nd rfl (.inl rfl) (pe_op op_add (pe_op op_mul (pv 3) (pe_op op_add pe_int (pe_op op_mul pe_int (pv 5)))) (pe_op op_mul (pv 4) pe_int)))
    (pss_cons (ps_set (i := 6) sc__law_take.nd rfl (.inl rfl) (pe_op op_mod (pe_op op_add (pv 6) (pe_op op_mul (pe_op op_mul (pv 5) (pv 5)) pe_int)) pe_int))
    (pss_cons (ps_set (i := 6) sc__law_take.nd rfl (.inl rfl) (pe_op op_mod (pe_op op_mul (pe_op op_mod (pe_op op_mul (pv 6) (pv 6)) pe_int) (pe_op op_add (pv 6) pe_int)) pe_int))
    (pss_one (ps_ret (pe_op op_mod (pe_op op_fdiv (pe_op op_add (pe_op op_mul (pv 6) pe_int) (pe_op op_mod (pe_op op_mul (pv 6) (pv 6)) pe_int)) pe_int) (pv 1))))))))))), ?_⟩
  refine ⟨_, rfl, sa, _, 0, _, rfl, rfl, SqL.of e1, atI_nat (j := 0) rfl, _, _, rfl, rfl, _, rfl, ite2 (fun hpos => ?_) (fun hpos => ?_)⟩
  · refine ⟨_, rfl, sa, _, 0, _, rfl, rfl, SqL.of e1, atI_nat (j := 0) rfl, _, rfl, _, _, rfl, rfl, m0, ?_⟩
    refine ⟨_, rfl, sa, _, 0, _, rfl, rfl, SqL.of e1, atI_nat (j := 0) rfl, _, rfl, _, _, rfl, rfl, ⟨m0, by omega⟩, ?_⟩
    refine ⟨_, rfl, sa, _, _, 0, rfl, rfl, e1, rfl, ?_⟩
    have h0 := Int.emod_nonneg r (show m ≠ 0 by omega)
    have h1 := Int.emod_lt_of_pos r m0
    obtain ⟨j, hj⟩ := Int.eq_ofNat_of_zero_le h0
    rw [hj] at h1
    have e : V.int (r % m) = V.int (j : Int) := by rw [hj]
    refine ⟨_, rfl, ?_⟩
    exact (congrArg (fun z => Q z (upd H sa (.lst [.int (r / m), .int c, .int (n : Int)]))) e).mpr <| q j n _ h1 ⟨r / m, c, upd_same, c0, c1⟩ (by omega) fun b o hb e => by rw [upd_ne hb]; exact e
  · refine ⟨_, rfl, sa, _, 2, _, rfl, rfl, SqL.of e1, atI_nat (j := 2) rfl, _, _, rfl, rfl, _, rfl, sa, _, _, 2, rfl, rfl, e1, rfl, ?_⟩
    have fin : ∀ z : Int, Q (.int (z % m)) (upd H sa (.lst [.int r, .int c, .int ((n : Int) + 1)])) := fun z => by
      have h0 := Int.emod_nonneg z (show m ≠ 0 by omega)
      have h1 := Int.emod_lt_of_pos z m0
      obtain ⟨j, hj⟩ := Int.eq_ofNat_of_zero_le h0
      rw [hj] at h1 ⊢
      exact q j (n + 1) _ h1 ⟨r, c, by rw [Int.natCast_add]; exact upd_same, c0, c1⟩ (by omega) fun b o hb e => by rw [upd_ne hb]; exact e
    have x1 : (upd H sa (.lst [.int r, .int c, .int ((n : Int) + 1)])) sa = some (.lst [.int r, .int c, .int ((n : Int) + 1)]) := upd_same
    have b1 : But sa H (upd H sa (.lst [.int r, .int c, .int ((n : Int) + 1)])) := fun b o hb e => by rw [upd_ne hb]; exact e
    have y1 : atI [V.int r, .int c, .int ((n : Int) + 1)] 1 = some (.int c) := atI_nat (j := 1) rfl
    have y2 : atI [V.int r, .int c, .int ((n : Int) + 1)] 2 = some (.int ((n : Int) + 1)) := atI_nat (j := 2) rfl
    refine ⟨_, rfl, sa, _, _, _, rfl, rfl, SqL.of x1, y1, _, _, rfl, rfl, (show (0 : Int) < 2147483647 by decide), _, rfl, sa, _, _, _, rfl, rfl, SqL.of x1, y1, _, _, rfl, rfl, wide_div (b := 40) (by decide) (by decide) (by decide) (by decide), _, _, rfl, ?_⟩
    refine ⟨_, rfl, sa, _, _, _, rfl, rfl, SqL.of x1, y2, ?_⟩
    refine ⟨_, rfl, _, rfl, _, _, rfl, rfl, .inl (by decide), _, _, rfl, rfl, _, _, rfl, rfl, .inl (modP _ _ (by decide) (by decide)), _, rfl, _, _, rfl, rfl, .inr (by decide), _, _, rfl, rfl, ?_⟩
    refine ⟨_, rfl, _, rfl, _, rfl, _, _, rfl, rfl, .inl (by constructor <;> omega), _, _, rfl, rfl, .inr (by decide), _, _, rfl, rfl, _, _, rfl, rfl, (show (0 : Int) < 2147483647 by decide), ?_⟩
    refine ⟨_, rfl, _, rfl, _, _, rfl, rfl, .inl (modP _ _ (by decide) (by decide)), _, _, rfl, rfl, (show (0 : Int) < 2147483647 by decide), _, rfl, _, _, rfl, rfl, _, _, rfl, rfl, .inl (modP _ _ (by decide) (by decide)), _, _, rfl, rfl, (show (0 : Int) < 2147483647 by decide), ?_⟩
    refine ⟨_, rfl, _, _, rfl, rfl, .inr (by decide), _, rfl, _, rfl, _, _, rfl, rfl, .inl (modP _ _ (by decide) (by decide)), _, _, rfl, rfl, (show (0 : Int) < 1073741789 by decide), _, _, rfl, rfl, _, _, rfl, rfl, (show (0 : Int) < 8 ∧ (8 : Int) < 1073741824 by decide), _, rfl, _, _, rfl, rfl, m0, ?_⟩
    exact fin _
theorem ok_letter1 (F : Fun K "_law_letter" "_law_letter" s__law_letter f fd) (D_law_take : Df P w K mg base 1 "_law_take" ["_law_stream_here", "_law_many"] spTake1) : FnOk P w K mg base CX0 2 f fd ["_law_stream_here"] spLetter1 := by
  refine F.ok (k := 1) sc__law_letter (fun vs H Q E h => ?_) (fun cdv A outer s H vs Q E hr h => ?_)
  · obtain ⟨sa, n, rfl, _⟩ := h
    rfl
  obtain ⟨sa, n, rfl, h, hn, q⟩ := h
  refine ⟨_, (pss_one (ps_ret (pe_ix ix_str pe_str (pe_call D_law_take.ok (hr.mono (by omega)) rfl D_law_take.g D_law_take.kp D_law_take.b .nil pass0 (pa_cons (pv 0) (pa_cons (pe_ix ix_list (pe_lst (pa_cons pe_int (pa_cons pe_int pa_nil))) (pe_call D_law_take.ok (hr.mono (by omega)) rfl D_law_take.g D_law_take.kp D_law_take.b .nil pass0 (pa_cons (pv 0) (pa_cons pe_int pa_nil))) (fun _ _ => rfl)) pa_nil))) (fun _ _ => rfl)))), ?_⟩
  refine ⟨_, rfl, (show (2 : Nat) ≤ sizeLine by decide), fun la na => ⟨_, rfl, ?_⟩⟩
  have h1 : Strm (upd H la (.lst [.int 26, .int 3])) sa n := h.same (same_new na _)
  refine ⟨sa, n, 2, rfl, h1, by omega, by decide, by decide, fun i n1 H1 l1 t1 c1 b1 => ?_⟩
  have e1 : H1 la = some (.lst [.int 26, .int 3]) := b1 _ _ (fun z => by obtain ⟨xs, e⟩ := h.lst; rw [← z, na] at e; cases e) upd_same
  have hv : ∃ m : Int, atI [V.int 26, .int 3] (i : Int) = some (.int m) ∧ 0 < m ∧ m ≤ 26 := by
    match i, l1 with
    | 0, _ => exact ⟨26, rfl, by decide, by decide⟩
    | 1, _ => exact ⟨3, rfl, by decide, by decide⟩
  obtain ⟨m, hm, m0, m1⟩ := hv
  refine ⟨la, _, _, _, rfl, rfl, SqL.of e1, hm, ?_⟩
  refine ⟨sa, n1, m, rfl, t1, by omega, m0, by omega, fun j n2 H2 l2 t2 c2 b2 => ?_⟩
  obtain ⟨c, hc, hl⟩ := alph_at (j := j) (by omega)
  refine ⟨_, _, c, rfl, rfl, (by decide +kernel), atI_nat hc, q c n2 _ hl t2 (by omega) fun b o hb e => b2 b o hb (b1 b o hb (same_new na _ b o e))⟩
end
/-! ### the law's own walks through a tree -/
def B.nds : B → List Bool → List (List Bool)
  | .nil, _ => []
  | .node l _ r, q => q :: (l.nds (q ++ [false]) ++ r.nds (q ++ [true]))
def B.ops : B → List Bool → List (List Bool)
  | .nil, q => [q]
  | .node l _ r, q => l.ops (q ++ [false]) ++ r.ops (q ++ [true])
theorem B.nds_len : ∀ (t : B) (q : List Bool), (t.nds q).length = t.size
  | .nil, _ => rfl
  | .node l x r, q => by
    have h1 := l.nds_len (q ++ [false])
    have h2 := r.nds_len (q ++ [true])
    show (q :: (l.nds (q ++ [false]) ++ r.nds (q ++ [true]))).length = l.size + 1 + r.size
    rw [List.length_cons, List.length_append]
    omega
theorem B.ops_len : ∀ (t : B) (q : List Bool), (t.ops q).length = t.size + 1
  | .nil, _ => rfl
  | .node l x r, q => by
    have h1 := l.ops_len (q ++ [false])
    have h2 := r.ops_len (q ++ [true])
    show (l.ops (q ++ [false]) ++ r.ops (q ++ [true])).length = l.size + 1 + r.size + 1
    rw [List.length_append]
    omega
theorem B.nds_mem : ∀ (t : B) (q p : List Bool), p ∈ t.nds q ↔ ∃ s u, p = q ++ s ∧ t.at s = some u ∧ u ≠ .nil
  | .nil, q, p => by
    constructor
    · intro h
      cases (show p ∈ ([] : List (List Bool)) from h)
    rintro ⟨s, u, _, h, n⟩
    cases s with
    | nil => cases h; exact absurd rfl n
    | cons _ _ => cases h
  | .node l x r, q, p => by
    show p ∈ q :: (l.nds (q ++ [false]) ++ r.nds (q ++ [true])) ↔ _
    rw [List.mem_cons, List.mem_append, l.nds_mem, r.nds_mem]
    constructor
    · rintro (rfl | ⟨s, u, rfl, h, n⟩ | ⟨s, u, rfl, h, n⟩)
      · exact ⟨[], _, (List.append_nil _).symm, rfl, fun z => nomatch z⟩
      · exact ⟨false :: s, u, by rw [List.append_assoc]; rfl, h, n⟩
      · exact ⟨true :: s, u, by rw [List.append_assoc]; rfl, h, n⟩
    · rintro ⟨s, u, rfl, h, n⟩
      cases s with
      | nil => exact .inl (List.append_nil _)
      | cons b s => cases b with
        | false => exact .inr (.inl ⟨s, u, by rw [List.append_assoc]; rfl, h, n⟩)
        | true => exact .inr (.inr ⟨s, u, by rw [List.append_assoc]; rfl, h, n⟩)
theorem B.ops_mem : ∀ (t : B) (q p : List Bool), p ∈ t.ops q ↔ ∃ s, p = q ++ s ∧ t.at s = some .nil
  | .nil, q, p => by
    show p ∈ [q] ↔ _
    rw [List.mem_singleton]
    refine ⟨fun h => ⟨[], by rw [h, List.append_nil], rfl⟩, fun ⟨s, e, h⟩ => ?_⟩
    cases s with
    | nil => rw [e, List.append_nil]
    | cons _ _ => cases h
  | .node l x r, q, p => by
    show p ∈ l.ops (q ++ [false]) ++ r.ops (q ++ [true]) ↔ _
    rw [List.mem_append, l.ops_mem, r.ops_mem]
    constructor
    · rintro (⟨s, rfl, h⟩ | ⟨s, rfl, h⟩)
      · exact ⟨false :: s, by rw [List.append_assoc]; rfl, h⟩
      · exact ⟨true :: s, by rw [List.append_assoc]; rfl, h⟩
    · rintro ⟨s, rfl, h⟩
      cases s with
      | nil => cases h
      | cons b s => cases b with
        | false => exact .inl ⟨s, by rw [List.append_assoc]; rfl, h⟩
        | true => exact .inr ⟨s, by rw [List.append_assoc]; rfl, h⟩
theorem B.nds_at {t : B} {p : List Bool} : p ∈ t.nds [] ↔ ∃ u, t.at p = some u ∧ u ≠ .nil := by
  rw [B.nds_mem]
  exact ⟨fun ⟨s, u, e, h⟩ => ⟨u, by rw [e]; exact h⟩, fun ⟨u, h⟩ => ⟨p, u, rfl, h⟩⟩
theorem B.ops_at {t : B} {p : List Bool} : p ∈ t.ops [] ↔ t.at p = some .nil := by
  rw [B.ops_mem]
  exact ⟨fun ⟨s, e, h⟩ => by rw [e]; exact h, fun h => ⟨p, rfl, h⟩⟩
def spPaths : Sp := fun vs H Q _ => ∃ (v : V) (t : B), vs = [v] ∧ BAt H v t ∧ t.size ≤ 12 ∧ ∀ (p A B' : Addr) (H' : Hp), Same H H' → H p = none → H A = none → H B' = none → H' p = some (.tup [.ref A, .ref B']) → H' A = some (.lst ((t.nds []).map fun p => V.str (px p))) → H' B' = some (.lst ((t.ops []).map fun p => V.str (px p))) → Q (.ref p) H'
inductive WtAt (H : Hp) : List V → List (List Bool × B) → Prop
  | nil : WtAt H [] []
  | cons {a : Addr} {q : List Bool} {v : V} {t : B} {vs : List V} {ss : List (List Bool × B)} : H a = some (.tup [.str (px q), v]) → BAt H v t → WtAt H vs ss → WtAt H (.ref a :: vs) ((q, t) :: ss)
theorem WtAt.keep {H H' : Hp} (k : KeepT H H') {vs : List V} {ss : List (List Bool × B)} (h : WtAt H vs ss) : WtAt H' vs ss := by
  induction h with
  | nil => exact .nil
  | cons e b _ ih => exact .cons (k _ _ e) (b.keep k) ih
theorem WtAt.app {H : Hp} {vs us : List V} {ss ts : List (List Bool × B)} (h : WtAt H vs ss) (g : WtAt H us ts) : WtAt H (vs ++ us) (ss ++ ts) := by
  induction h with
  | nil => exact g
  | cons e b _ ih => exact .cons e b ih
theorem WtAt.last {H : Hp} {vs : List V} {ss : List (List Bool × B)} (h : WtAt H vs ss) : vs ≠ [] → ∃ a q v t ts, vs[vs.length - 1]? = some (.ref a) ∧ ss = ts ++ [(q, t)] ∧ H a = some (.tup [.str (px q), v]) ∧ BAt H v t ∧ WtAt H vs.dropLast ts := by
  induction h with
  | nil => intro z; exact absurd rfl z
  | @cons a q v t vs ss e b hh ih =>
    intro _
    cases vs with
    | nil => cases hh; exact ⟨a, q, v, t, [], rfl, rfl, e, b, .nil⟩
    | cons u us =>
      obtain ⟨a', q', v', t', ts, e1, e2, e3, e4, e5⟩ := ih (by simp)
      exact ⟨a', q', v', t', (q, t) :: ts, e1, by rw [e2]; rfl, e3, e4, .cons e b e5⟩
def ndsS (ss : List (List Bool × B)) : List (List Bool) := ss.reverse.flatMap fun x => x.2.nds x.1
def opsS (ss : List (List Bool × B)) : List (List Bool) := ss.reverse.flatMap fun x => x.2.ops x.1
theorem ndsS_snoc (ss : List (List Bool × B)) (q : List Bool) (t : B) : ndsS (ss ++ [(q, t)]) = t.nds q ++ ndsS ss := by
  unfold ndsS
  rw [List.reverse_append]
  rfl
theorem opsS_snoc (ss : List (List Bool × B)) (q : List Bool) (t : B) : opsS (ss ++ [(q, t)]) = t.ops q ++ opsS ss := by
  unfold opsS
  rw [List.reverse_append]
  rfl
theorem WtAt.len {H : Hp} {vs : List V} {ss : List (List Bool × B)} (h : WtAt H vs ss) : vs.length = ss.length := by
  induction h with
  | nil => rfl
  | cons _ _ _ ih => rw [List.length_cons, List.length_cons, ih]
theorem ndsO (ss : List (List Bool × B)) : ss.length ≤ (opsS ss).length := by
  unfold opsS
  rw [← List.length_reverse]
  generalize ss.reverse = rs
  induction rs with
  | nil => exact Nat.le_refl _
  | cons x rs ih =>
    rw [List.flatMap_cons, List.length_append, B.ops_len, List.length_cons]
    omega
theorem px_snoc (q : List Bool) (b : Bool) : px q ++ tx [dir b] = px (q ++ [b]) := by
  unfold px
  rw [tx_app, List.map_append]
  rfl
def lenAt (σ : L2.St) (i : Nat) (H : Hp) : Nat := match σ[i]? with
  | some (some (V.ref a)) => (match H a with
    | some (.lst xs) => xs.length
    | _ => 0)
  | _ => 0
theorem lenAt_of {σ : L2.St} {i : Nat} {H : Hp} {a : Addr} {xs : List V} (h : σ[i]? = some (some (.ref a))) (e : H a = some (.lst xs)) : lenAt σ i H = xs.length := by
  unfold lenAt
  rw [h]
  show (match H a with
    | some (.lst xs) => xs.length
    | _ => 0) = _
  rw [e]
def PaI (H : Hp) (t : B) (v : V) (A B' W : Addr) (σ : L2.St) (H' : Hp) : Prop := ∃ (ws : List V) (ss : List (List Bool × B)) (N O : List (List Bool)) (y4 y5 : Option V), σ = [some v, some (.ref A), some (.ref B'), some (.ref W), y4, y5] ∧ Same H H' ∧ H' A = some (.lst (N.map fun p => V.str (px p))) ∧ H' B' = some (.lst (O.map fun p => V.str (px p))) ∧ H' W = some (.lst ws) ∧ WtAt H' ws ss ∧ N ++ ndsS ss = t.nds [] ∧ O ++ opsS ss = t.ops []
def Kd.num : Kd → Int
  | .first => 0
  | .between => 1
  | .last => 2
def spLabs (n : Nat) : Sp := fun vs H Q _ => ∃ (v : V) (t : B) (k : Kd), vs = [v, .int k.num] ∧ BAt H v t ∧ t.size < n ∧ t.size ≤ 100 ∧ ∀ (H' : Hp), Same H H' → Q (.str (tx (t.wk k))) H'
abbrev vp (p : List Bool) : V := .str (px p)
section
variable {P : Program} {w : World} {K : PySem.W.Frag} {mg : Str → Option Value} {base : Heap} {f : Addr} {fd : FuncData}
theorem ok_lpart {k : Nat} (F : Fun K "_law_part" "_law_part" s__law_part f fd) : FnOk P w K mg base CX0 (k + 1) f fd ["_law_tree_here", "_law_path"] spPart := by
  refine F.ok sc__law_part (fun vs H Q E h => ?_) (fun cdv A outer s H vs Q E hr h => ?_)
  · obtain ⟨v, t, u, p, rfl, _⟩ := h
    rfl
  obtain ⟨v, t, u, p, rfl, ht, hu, hp, q⟩ := h
  refine ⟨_, (pss_cons (ps_for PassesOwn.never rfl (pi_str (pv 1)) (pg_name (i := 2) sc__law_part.nd rfl (.inl rfl))
      (pss_one (ps_set (i := 0) sc__law_part.nd rfl (.inl rfl) (pe_ifExp (pt_cmpR op_eq (pv 2) pe_str (nomark _)) (pe_ix ix_tup (pv 0) pe_int (fun _ _ => rfl)) (pe_ix ix_tup (pv 0) pe_int (fun _ _ => rfl))))))
    (pss_one (ps_ret (pv 0)))), ?_⟩
  refine ⟨_, rfl, px p, rfl, ?_⟩
  refine for_text (x := px p) (fun i σ H' => ∃ (vi : V) (ti : B) (y2 : Option V), σ = [some vi, some (.str (px p)), y2] ∧ Same H H' ∧ BAt H' vi ti ∧ ti.at (p.drop i) = some u) ⟨v, t, none, rfl, Same.refl _, ht, hu⟩ (fun i c σ H1 hc hq => ?_) (fun σ H1 hq => ?_)
  · obtain ⟨vi, ti, y2, rfl, s1, hi, ei⟩ := hq
    have hc' : (p.map dir)[i]? = some c := hc
    obtain ⟨b, hb, rfl⟩ : ∃ b, p[i]? = some b ∧ dir b = c := by
      rw [List.getElem?_map] at hc'
      cases e : p[i]? with
      | none => rw [e] at hc'; cases hc'
      | some b => rw [e] at hc'; exact ⟨b, rfl, Option.some.inj hc'⟩
    have hdr : p.drop i = b :: p.drop (i + 1) := by
      obtain ⟨h1, h2⟩ := List.getElem?_eq_some_iff.mp hb
      rw [List.drop_eq_getElem_cons h1, h2]
    rw [hdr] at ei
    rcases hi.inv with ⟨rfl, rfl⟩ | ⟨a, vl, vr, x, tl, tr, rfl, rfl, ea, hl, hr'⟩
    · cases ei
    refine ⟨_, rfl, rfl, _, rfl, ?_⟩
    rw [dir_str]
    cases b with
    | false =>
      refine iteT ⟨_, rfl, a, _, 0, vl, rfl, rfl, SqT.of ea, atI_nat (j := 0) rfl, ?_⟩
      exact ⟨vl, tl, _, rfl, s1, hl, ei⟩
    | true =>
      refine iteF ⟨_, rfl, a, _, 2, vr, rfl, rfl, SqT.of ea, atI_nat (j := 2) rfl, ?_⟩
      exact ⟨vr, tr, _, rfl, s1, hr', ei⟩
  · obtain ⟨vi, ti, y2, rfl, s1, hi, ei⟩ := hq
    rw [List.drop_eq_nil_of_le (by rw [show (px p).cps.toList = p.map dir from rfl, List.length_map]; exact Nat.le_refl _)] at ei
    have : ti = u := by cases ti <;> (cases ei; rfl)
    subst this
    exact ⟨_, rfl, q vi H1 s1 hi⟩
theorem ok_lgraft (F : Fun K "_law_grafted" "_law_grafted" s__law_grafted f fd) (b : Binds K fd ["_law_tree_here", "_law_path", "_law_part_here"] []) (g : mg "_law_grafted" = some (.ref f)) : ∀ n : Nat, FnOk P w K mg base CX0 n f fd ["_law_tree_here", "_law_path", "_law_part_here"] (spWith n)
  | 0 => by
    have no : ∀ vs H Q E, ¬ spWith 0 vs H Q E := fun vs H Q E h => by
      obtain ⟨v, vp, t, u, p, _, _, _, h1, _⟩ := h
      exact absurd h1 (Nat.not_lt_zero _)
    exact ⟨fun vs H Q E h => absurd h (no vs H Q E), fun A outer s H args us vs Q E _ _ _ _ h => absurd h (no vs H Q E)⟩
  | n + 1 => by
    have Dself : Df P w K mg base n "_law_grafted" ["_law_tree_here", "_law_path", "_law_part_here"] (spWith n) := ⟨f, fd, ok_lgraft F b g n, b, F.kp, g⟩
    refine F.ok sc__law_grafted (fun vs H Q E h => ?_) (fun cdv A outer s H vs Q E hr h => ?_)
    · obtain ⟨v, vp, t, u, p, rfl, _⟩ := h
      rfl
    obtain ⟨v, vp, t, u, p, rfl, ht, hu, hn, hp, hs, q⟩ := h
    refine ⟨_, (pss_cons (ps_if (pt_cmpR op_eq (pv 1) pe_str (nomark _))
      (pss_one (ps_ret (pv 2))) pss_nil)
    (pss_cons (ps_if (pt_cmpR op_eq (pe_ix ix_str (pv 1) pe_int (fun _ _ => rfl)) pe_str (nomark _))
      (pss_one (ps_ret (pe_tup (pa_cons (pe_call Dself.ok (hr.mono (by omega)) rfl Dself.g Dself.kp Dself.b .nil pass0 (pa_cons (pe_ix ix_tup (pv 0) pe_int (fun _ _ => rfl)) (pa_cons (pe_slice sl_str (pv 1) (po_some pe_int) po_none) (pa_cons (pv 2) pa_nil)))) (pa_cons (pe_ix ix_tup (pv 0) pe_int (fun _ _ => rfl)) (pa_cons (pe_ix ix_tup (pv 0) pe_int (fun _ _ => rfl)) pa_nil)))))) pss_nil)
    (pss_one (ps_ret (pe_tup (pa_cons (pe_ix ix_tup (pv 0) pe_int (fun _ _ => rfl)) (pa_cons (pe_ix ix_tup (pv 0) pe_int (fun _ _ => rfl)) (pa_cons (pe_call Dself.ok (hr.mono (by omega)) rfl Dself.g Dself.kp Dself.b .nil pass0 (pa_cons (pe_ix ix_tup (pv 0) pe_int (fun _ _ => rfl)) (pa_cons (pe_slice sl_str (pv 1) (po_some pe_int) po_none) (pa_cons (pv 2) pa_nil)))) pa_nil)))))))), ?_⟩
    have lp : (px p).length ≤ sizeLine := small (by rw [px_len]; omega)
    refine ⟨_, rfl, rfl, _, rfl, ?_⟩
    cases p with
    | nil =>
      refine iteS px_nil ⟨_, rfl, ?_⟩
      have e : t.put [] u = u := by cases t <;> rfl
      rw [e] at q
      exact q vp H (Same.refl H) hu
    | cons d p =>
      refine iteR (fun z => by rw [← px_nil] at z; cases px_inj z) ?_
      rcases ht.inv with ⟨rfl, rfl⟩ | ⟨a, vl, vr, x, tl, tr, rfl, rfl, ea, hl, hr'⟩
      · cases hs
      have hp' : p.length + 1 < n + 1 := hn
      have hp2 : p.length + 1 ≤ 100 := hp
      refine ⟨_, rfl, _, _, _, rfl, rfl, lp, atI_nat (j := 0) rfl, rfl, _, rfl, ?_⟩
      have ed : cutS (px (d :: p)) (some 1) none = px p := px_drop _
      cases d with
      | false =>
        refine iteS str_l.symm ⟨_, rfl, a, _, 0, vl, rfl, rfl, SqT.of ea, atI_nat (j := 0) rfl, _, rfl, _, rfl, _, rfl, lp, _, rfl, vl, vp, tl, u, p, by rw [ed]; rfl, hl, hu, by omega, by omega, hs, fun v' H1 s1 h1 => ?_⟩
        refine ⟨_, rfl, a, _, 1, _, rfl, rfl, SqT.of (s1 _ _ ea), atI_nat (j := 1) rfl, _, rfl, a, _, 2, vr, rfl, rfl, SqT.of (s1 _ _ ea), atI_nat (j := 2) rfl, (by show 3 ≤ sizeLine; decide), fun r nr => ?_⟩
        have k2 := same_new nr (.tup [v', .str (ch x), vr])
        exact q _ _ (s1.trans k2) (.node upd_same (h1.same k2) (hr'.same (s1.trans k2)))
      | true =>
        refine iteR (fun z => by rw [str_l] at z; have := tx_inj z; cases this) ⟨_, rfl, a, _, 0, vl, rfl, rfl, SqT.of ea, atI_nat (j := 0) rfl, _, rfl, a, _, 1, _, rfl, rfl, SqT.of ea, atI_nat (j := 1) rfl, _, rfl, a, _, 2, vr, rfl, rfl, SqT.of ea, atI_nat (j := 2) rfl, _, rfl, _, rfl, _, rfl, lp, _, rfl, vr, vp, tr, u, p, by rw [ed]; rfl, hr', hu, by omega, by omega, hs, fun v' H1 s1 h1 => ?_⟩
        refine ⟨(by show 3 ≤ sizeLine; decide), fun r nr => ?_⟩
        have k2 := same_new nr (.tup [vl, .str (ch x), v'])
        exact q _ _ (s1.trans k2) (.node upd_same (hl.same (s1.trans k2)) (h1.same k2))
theorem ok_lswap (F : Fun K "_law_swapped" "_law_swapped" s__law_swapped f fd) (b : Binds K fd ["_law_tree_here"] []) (g : mg "_law_swapped" = some (.ref f)) : ∀ n : Nat, FnOk P w K mg base CX0 n f fd ["_law_tree_here"] (spMir n)
  | 0 => by
    have no : ∀ vs H Q E, ¬ spMir 0 vs H Q E := fun vs H Q E h => by
      obtain ⟨v, t, _, _, h1, _⟩ := h
      exact absurd h1 (Nat.not_lt_zero _)
    exact ⟨fun vs H Q E h => absurd h (no vs H Q E), fun A outer s H args us vs Q E _ _ _ _ h => absurd h (no vs H Q E)⟩
  | n + 1 => by
    have Dself : Df P w K mg base n "_law_swapped" ["_law_tree_here"] (spMir n) := ⟨f, fd, ok_lswap F b g n, b, F.kp, g⟩
    refine F.ok sc__law_swapped (fun vs H Q E h => ?_) (fun cdv A outer s H vs Q E hr h => ?_)
    · obtain ⟨v, t, rfl, _⟩ := h
      rfl
    obtain ⟨v, t, rfl, ht, hn, q⟩ := h
    refine ⟨_, (pss_cons (ps_if (pt_cmpR op_isN (pv 0) pe_non (nomark _))
      (pss_one (ps_ret pe_non)) pss_nil)
    (pss_one (ps_ret (pe_tup (pa_cons (pe_call Dself.ok (hr.mono (by omega)) rfl Dself.g Dself.kp Dself.b .nil pass0 (pa_cons (pe_ix ix_tup (pv 0) pe_int (fun _ _ => rfl)) pa_nil)) (pa_cons (pe_ix ix_tup (pv 0) pe_int (fun _ _ => rfl)) (pa_cons (pe_call Dself.ok (hr.mono (by omega)) rfl Dself.g Dself.kp Dself.b .nil pass0 (pa_cons (pe_ix ix_tup (pv 0) pe_int (fun _ _ => rfl)) pa_nil)) pa_nil))))))), ?_⟩
    rcases ht.inv with ⟨rfl, rfl⟩ | ⟨a, vl, vr, x, tl, tr, rfl, rfl, ea, hl, hr'⟩
    · exact ⟨_, rfl, rfl, _, rfl, iteT (q _ _ (Same.refl H) .nil)⟩
    have hz : tl.size + 1 + tr.size < n + 1 := hn
    refine ⟨_, rfl, rfl, _, rfl, iteF ?_⟩
    refine ⟨_, rfl, a, _, 2, vr, rfl, rfl, SqT.of ea, atI_nat (j := 2) rfl, vr, tr, rfl, hr', by omega, fun v1 H1 s1 h1 => ?_⟩
    refine ⟨_, rfl, a, _, 1, _, rfl, rfl, SqT.of (s1 _ _ ea), atI_nat (j := 1) rfl, _, rfl, a, _, 0, vl, rfl, rfl, SqT.of (s1 _ _ ea), atI_nat (j := 0) rfl, vl, tl, rfl, hl.same s1, by omega, fun v2 H2 s2 h2 => ?_⟩
    refine ⟨(by show 3 ≤ sizeLine; decide), fun r nr => ?_⟩
    have k2 := same_new nr (.tup [v1, .str (ch x), v2])
    exact q _ _ (s1.trans (s2.trans k2)) (.node upd_same (h1.same (s2.trans k2)) (h2.same k2))
theorem ok_lpaths {k : Nat} (F : Fun K "_law_paths" "_law_paths" s__law_paths f fd) : FnOk P w K mg base CX0 (k + 1) f fd ["_law_tree_here"] spPaths := by
  refine F.ok sc__law_paths (fun vs H Q E h => ?_) (fun cdv A outer s H vs Q E hr h => ?_)
  · obtain ⟨v, t, rfl, _⟩ := h
    rfl
  obtain ⟨v, t, rfl, ht, hz, q⟩ := h
  refine ⟨_, (pss_cons (ps_par3 (i := 1) (j := 2) (l := 3) (by rfl) sc__law_paths.nd rfl rfl rfl (by decide) (by decide) (by decide) rfl rfl rfl (pa_cons (pe_lst pa_nil) (pa_cons (pe_lst pa_nil) (pa_cons (pe_lst (pa_cons (pe_tup (pa_cons pe_str (pa_cons (pv 0) pa_nil))) pa_nil)) pa_nil))) (by rfl))
    (pss_cons (ps_while PassesOwn.never (pt_cmpR (op_neL hr.units0) (pv 3) (pe_lst pa_nil) (nomark _))
      (pss_cons (ps_asg (pe_bm0 PySem.F.plainAttrs_list PySem.F.slot_list_pop PySem.F.type_list_pop mt_pop (pv 3)) (pg_tup rfl (pgs_cons (pg_name (i := 4) sc__law_paths.nd rfl (.inl rfl)) (pgs_cons (pg_name (i := 5) sc__law_paths.nd rfl (.inl rfl)) pgs_nil))))
    (pss_one (ps_if (pt_cmpR op_isN (pv 5) pe_non (nomark _))
      (pss_one (ps_expr (pe_bm PySem.F.plainAttrs_list PySem.F.slot_list_append PySem.F.type_list_append mt_append (pv 2) (pa_cons (pv 4) pa_nil)))) (pss_cons (ps_expr (pe_bm PySem.F.plainAttrs_list PySem.F.slot_list_append PySem.F.type_list_append mt_append (pv 1) (pa_cons (pv 4) pa_nil)))
    (pss_one (ps_expr (pe_bm PySem.F.plainAttrs_list PySem.F.slot_list_extend PySem.F.type_list_extend mt_extend (pv 3) (pa_cons (pe_lst (pa_cons (pe_tup (pa_cons (pe_op op_add_str (pv 4) pe_str) (pa_cons (pe_ix ix_tup (pv 5) pe_int (fun _ _ => rfl)) pa_nil))) (pa_cons (pe_tup (pa_cons (pe_op op_add_str (pv 4) pe_str) (pa_cons (pe_ix ix_tup (pv 5) pe_int (fun _ _ => rfl)) pa_nil))) pa_nil))) pa_nil)))))))))
    (pss_one (ps_ret (pe_tup (pa_cons (pv 1) (pa_cons (pv 2) pa_nil))))))), ?_⟩
  have z0 : 0 ≤ sizeLine := by decide
  have z1 : 1 ≤ sizeLine := by decide
  have z2 : 2 ≤ sizeLine := by decide
  refine ⟨z0, fun A nA => ⟨z0, fun B' nB => ⟨_, rfl, z2, fun tp ntp => ⟨z1, fun W nW => ⟨_, _, _, rfl, ?_⟩⟩⟩⟩⟩
  have k1 := same_new nA (.lst [])
  have k2 := same_new nB (.lst [])
  have k3 := same_new ntp (.tup [.str "", v])
  have k4 := same_new nW (.lst [.ref tp])
  have eA := k4 _ _ (k3 _ _ (k2 _ _ (upd_same (H := H) (a := A) (o := .lst []))))
  have eB := k4 _ _ (k3 _ _ (upd_same (H := upd H A (.lst [])) (a := B') (o := .lst [])))
  have et := k4 _ _ (upd_same (H := upd (upd H A (.lst [])) B' (.lst [])) (a := tp) (o := .tup [.str "", v]))
  have eW := upd_same (H := upd (upd (upd H A (.lst [])) B' (.lst [])) tp (.tup [.str "", v])) (a := W) (o := .lst [.ref tp])
  have nAB : A ≠ B' := fun z => by rw [← z, upd_same] at nB; cases nB
  have nAW : A ≠ W := fun z => by rw [← z, k3 _ _ (k2 _ _ upd_same)] at nW; cases nW
  have nBW : B' ≠ W := fun z => by rw [← z, k3 _ _ upd_same] at nW; cases nW
  have s4 := k1.trans (k2.trans (k3.trans k4))
  have fB : H B' = none := by
    cases e : H B' with
    | none => rfl
    | some o => rw [k1 _ _ e] at nB; cases nB
  have fW : H W = none := by
    cases e : H W with
    | none => rfl
    | some o => rw [k3 _ _ (k2 _ _ (k1 _ _ e))] at nW; cases nW
  have ht4 := ht.same s4
  generalize upd (upd (upd (upd H A (.lst [])) B' (.lst [])) tp (.tup [.str "", v])) W (.lst [.ref tp]) = H4 at eA eB et eW s4 ht4 ⊢
  rw [← px_nil] at et
  refine while_by (PaI H t v A B' W) (fun σ H' => 100 - lenAt σ 1 H' - lenAt σ 2 H') ?_ (fun σ H' hp => ?_) ?_
  · exact ⟨[.ref tp], [([], t)], [], [], none, none, rfl, s4, eA, eB, eW, .cons et ht4 .nil, by simp [ndsS], by simp [opsS]⟩
  · obtain ⟨ws, ss, N, O, y4, y5, rfl, sm, hA, hB, hW, hw, hN, hO⟩ := hp
    refine ⟨_, rfl, z0, fun el ne => ?_⟩
    have k5 := same_new ne (.lst [])
    refine ⟨W, el, _, rfl, rfl, SqL.of (k5 _ _ hW), SqL.of upd_same, _, rfl, ?_⟩
    have lN : N.length ≤ 12 := by
      have := congrArg List.length hN
      rw [B.nds_len, List.length_append] at this
      omega
    have lO : O.length ≤ 13 := by
      have := congrArg List.length hO
      rw [B.ops_len, List.length_append] at this
      omega
    have m0 : lenAt [some v, some (V.ref A), some (.ref B'), some (.ref W), y4, y5] 1 H' = N.length := by rw [lenAt_of rfl hA, List.length_map]
    have m1 : lenAt [some v, some (V.ref A), some (.ref B'), some (.ref W), y4, y5] 2 H' = O.length := by rw [lenAt_of rfl hB, List.length_map]
    have sm := sm.trans k5
    have hA := k5 _ _ hA
    have hB := k5 _ _ hB
    have hW := k5 _ _ hW
    have hw := hw.keep (Tw.Same.keepT k5)
    rw [m0, m1]
    generalize upd H' el (.lst []) = H5 at sm hA hB hW hw ⊢
    cases ws with
    | nil =>
      cases hw
      rw [show ndsS [] = [] from rfl, List.append_nil] at hN
      rw [show opsS [] = [] from rfl, List.append_nil] at hO
      rw [hN] at hA
      rw [hO] at hB
      refine iteF ⟨_, rfl, _, rfl, z2, fun r nr => ?_⟩
      have k6 := same_new nr (.tup [.ref A, .ref B'])
      refine q r A B' _ (sm.trans k6) ?_ nA fB upd_same (k6 _ _ hA) (k6 _ _ hB)
      cases e : H r with
      | none => rfl
      | some o => rw [sm _ _ e] at nr; cases nr
    | cons w0 ws0 =>
      refine iteT ?_
      obtain ⟨a, qq, vv, tt, ts, e1, rfl, e3, e4, e5⟩ := hw.last (by simp)
      refine ⟨.ref W, rfl, .inl ⟨rfl, _, SqL.of hW⟩, W, _, _, rfl, rfl, hW, e1, ?_⟩
      have sm6 : Same H (upd H5 W (.lst (w0 :: ws0).dropLast)) := fun b o z => by
        rw [upd_ne (ne_of_none z fW)]
        exact sm _ _ z
      have kt : KeepT H5 (upd H5 W (.lst (w0 :: ws0).dropLast)) := fun b xs z => by
        rw [upd_ne (ne_of z hW (by intro z; cases z))]
        exact z
      have hA6 : (upd H5 W (.lst (w0 :: ws0).dropLast)) A = _ := (upd_ne nAW).trans hA
      have hB6 : (upd H5 W (.lst (w0 :: ws0).dropLast)) B' = _ := (upd_ne nBW).trans hB
      have hW6 : (upd H5 W (.lst (w0 :: ws0).dropLast)) W = _ := upd_same
      have e3 := kt _ _ e3
      have e4 := e4.keep kt
      have e5 := e5.keep kt
      generalize upd H5 W (.lst (w0 :: ws0).dropLast) = H6 at sm6 hA6 hB6 hW6 e3 e4 e5 ⊢
      generalize (w0 :: ws0).dropLast = W0 at hW6 e5
      rw [ndsS_snoc] at hN
      rw [opsS_snoc] at hO
      refine ⟨a, _, rfl, SqT.of e3, rfl, _, _, rfl, _, _, rfl, rfl, ?_⟩
      rcases e4.inv with ⟨rfl, rfl⟩ | ⟨b, vl, vr, x, tl, tr, rfl, rfl, eb, hl, hr'⟩
      · refine ⟨_, rfl, rfl, _, rfl, iteT ?_⟩
        refine ⟨_, rfl, .inl ⟨rfl, _, SqL.of hB6⟩, _, rfl, B', _, _, rfl, rfl, hB6, by rw [List.length_map]; exact small1000 (by omega), ?_⟩
        have kt7 : KeepT H6 (upd H6 B' (.lst (List.map (fun p => V.str (px p)) O ++ [V.str (px qq)]))) := fun b xs z => by
          rw [upd_ne (ne_of z hB6 (by intro z; cases z))]
          exact z
        have sm7 : Same H (upd H6 B' (.lst (List.map (fun p => V.str (px p)) O ++ [V.str (px qq)]))) := fun b o z => by
          rw [upd_ne (ne_of_none z fB)]
          exact sm6 _ _ z
        have hA7 := (upd_ne (o := .lst (List.map (fun p => V.str (px p)) O ++ [V.str (px qq)])) nAB).trans hA6
        have hW7 := (upd_ne (o := .lst (List.map (fun p => V.str (px p)) O ++ [V.str (px qq)])) (Ne.symm nBW)).trans hW6
        have hB7 : (upd H6 B' (.lst (List.map (fun p => V.str (px p)) O ++ [V.str (px qq)]))) B' = some (.lst ((O ++ [qq]).map fun p => V.str (px p))) := by rw [upd_same, List.map_append]; rfl
        refine ⟨⟨W0, ts, N, O ++ [qq], _, _, rfl, sm7, hA7, hB7, hW7, e5.keep kt7, hN, ?_⟩, ?_⟩
        · rw [List.append_assoc]; exact hO
        · rw [lenAt_of rfl hA7, lenAt_of rfl hB7, List.length_map, List.length_map, List.length_append]
          show 100 - N.length - (O.length + 1) < _
          omega
      · refine ⟨_, rfl, rfl, _, rfl, iteF ?_⟩
        refine ⟨_, rfl, .inl ⟨rfl, _, SqL.of hA6⟩, _, rfl, A, _, _, rfl, rfl, hA6, by rw [List.length_map]; exact small1000 (by omega), ?_⟩
        have kt7 : KeepT H6 (upd H6 A (.lst (List.map (fun p => V.str (px p)) N ++ [V.str (px qq)]))) := fun b xs z => by
          rw [upd_ne (ne_of z hA6 (by intro z; cases z))]
          exact z
        have sm7 : Same H (upd H6 A (.lst (List.map (fun p => V.str (px p)) N ++ [V.str (px qq)]))) := fun b o z => by
          rw [upd_ne (ne_of_none z nA)]
          exact sm6 _ _ z
        have hB7 := (upd_ne (o := .lst (List.map (fun p => V.str (px p)) N ++ [V.str (px qq)])) nAB.symm).trans hB6
        have hW7 := (upd_ne (o := .lst (List.map (fun p => V.str (px p)) N ++ [V.str (px qq)])) nAW.symm).trans hW6
        have hA7 : (upd H6 A (.lst (List.map (fun p => V.str (px p)) N ++ [V.str (px qq)]))) A = some (.lst ((N ++ [qq]).map fun p => V.str (px p))) := by rw [upd_same, List.map_append]; rfl
        have eb := kt7 _ _ eb
        have hl := hl.keep kt7
        have hr' := hr'.keep kt7
        have e5 := e5.keep kt7
        generalize upd H6 A (.lst (List.map (fun p => V.str (px p)) N ++ [V.str (px qq)])) = H7 at sm7 hB7 hW7 hA7 eb hl hr' e5 ⊢
        have hq : qq.length ≤ 12 := by
          have hm : qq ∈ t.nds [] := by rw [← hN]; exact List.mem_append_right _ (List.mem_append_left _ List.mem_cons_self)
          obtain ⟨u, hu, _⟩ := B.nds_at.mp hm
          have := t.at_size qq hu
          omega
        have cr : px qq ++ Str.ofString "r" = px (qq ++ [true]) := by rw [str_r]; exact px_snoc qq true
        have cl : px qq ++ Str.ofString "l" = px (qq ++ [false]) := by rw [str_l]; exact px_snoc qq false
        have cl1 : (px qq).length + (Str.ofString "r").length ≤ sizeLine := small (by rw [px_len, str_r, tx_len]; show _ + 1 ≤ 1000; omega)
        have cl2 : (px qq).length + (Str.ofString "l").length ≤ sizeLine := small (by rw [px_len, str_l, tx_len]; show _ + 1 ≤ 1000; omega)
        refine ⟨_, rfl, .inl ⟨rfl, _, SqL.of hW7⟩, _, rfl, _, _, rfl, rfl, cl1, _, rfl, b, _, 2, vr, rfl, rfl, SqT.of eb, atI_nat (j := 2) rfl, z2, fun t1 n1 => ?_⟩
        have k8 := same_new n1 (.tup [.str (px qq ++ Str.ofString "r"), vr])
        refine ⟨_, rfl, _, _, rfl, rfl, cl2, _, rfl, b, _, 0, vl, rfl, rfl, SqT.of (k8 _ _ eb), atI_nat (j := 0) rfl, z2, fun t2 n2 => ⟨z2, fun L nL => ?_⟩⟩
        have k9 := same_new n2 (.tup [.str (px qq ++ Str.ofString "l"), vl])
        have k10 := same_new nL (.lst [.ref t1, .ref t2])
        have kk := k8.trans (k9.trans k10)
        have f1 := k10 _ _ (k9 _ _ (upd_same (H := H7) (a := t1) (o := .tup [.str (px qq ++ Str.ofString "r"), vr])))
        have f2 := k10 _ _ (upd_same (H := upd H7 t1 (.tup [.str (px qq ++ Str.ofString "r"), vr])) (a := t2) (o := .tup [.str (px qq ++ Str.ofString "l"), vl]))
        have f3 := upd_same (H := upd (upd H7 t1 (.tup [.str (px qq ++ Str.ofString "r"), vr])) t2 (.tup [.str (px qq ++ Str.ofString "l"), vl])) (a := L) (o := .lst [.ref t1, .ref t2])
        generalize upd (upd (upd H7 t1 (.tup [.str (px qq ++ Str.ofString "r"), vr])) t2 (.tup [.str (px qq ++ Str.ofString "l"), vl])) L (.lst [.ref t1, .ref t2]) = H8 at kk f1 f2 f3 ⊢
        rw [cr] at f1
        rw [cl] at f2
        have hw8 : WtAt H8 (W0 ++ [.ref t1, .ref t2]) (ts ++ [(qq ++ [true], tr), (qq ++ [false], tl)]) := (e5.keep (Tw.Same.keepT kk)).app (.cons f1 (hr'.same kk) (.cons f2 (hl.same kk) .nil))
        have lW : W0.length ≤ 900 := by
          have h1 := e5.len
          have h2 := ndsO ts
          have h3 := congrArg List.length hO
          rw [B.ops_len, List.length_append, List.length_append] at h3
          omega
        refine ⟨W, L, _, _, rfl, rfl, kk _ _ hW7, f3, small (by show W0.length + 2 ≤ 1000; omega), ?_⟩
        have kt9 : KeepT H8 (upd H8 W (.lst (W0 ++ [.ref t1, .ref t2]))) := fun b xs z => by
          rw [upd_ne (ne_of z (kk _ _ hW7) (by intro z; cases z))]
          exact z
        have sm9 : Same H (upd H8 W (.lst (W0 ++ [.ref t1, .ref t2]))) := fun b o z => by
          rw [upd_ne (ne_of_none z fW)]
          exact kk _ _ (sm7 _ _ z)
        have hA9 := (upd_ne (o := .lst (W0 ++ [.ref t1, .ref t2])) nAW).trans (kk _ _ hA7)
        have hB9 := (upd_ne (o := .lst (W0 ++ [.ref t1, .ref t2])) nBW).trans (kk _ _ hB7)
        refine ⟨⟨W0 ++ [.ref t1, .ref t2], ts ++ [(qq ++ [true], tr), (qq ++ [false], tl)], N ++ [qq], O, _, _, rfl, sm9, hA9, hB9, upd_same, hw8.keep kt9, ?_, ?_⟩, ?_⟩
        · rw [show ts ++ [(qq ++ [true], tr), (qq ++ [false], tl)] = (ts ++ [(qq ++ [true], tr)]) ++ [(qq ++ [false], tl)] by rw [List.append_assoc]; rfl, ndsS_snoc, ndsS_snoc, List.append_assoc, ← hN, ← List.append_assoc (tl.nds _)]
          rfl
        · rw [show ts ++ [(qq ++ [true], tr), (qq ++ [false], tl)] = (ts ++ [(qq ++ [true], tr)]) ++ [(qq ++ [false], tl)] by rw [List.append_assoc]; rfl, opsS_snoc, opsS_snoc, ← hO, ← List.append_assoc (tl.ops _)]
          rfl
        · rw [lenAt_of rfl hA9, lenAt_of rfl hB9, List.length_map, List.length_map, List.length_append]
          show 100 - (N.length + 1) - O.length < _
          omega
  · intro σ H' Q1 Q2 hQ h
    obtain ⟨v', e, l0, h⟩ := h
    exact ⟨v', e, l0, fun el ne => by
      obtain ⟨a, b, xs, e1, e2, h1, h2, k, e3, h⟩ := h el ne
      exact ⟨a, b, xs, e1, e2, h1, h2, k, e3, hQ _ _ h⟩⟩
end
/-! ### sorted(xs), xs a list of (int, text) -/
section
variable {X : Cx}
def shIT : Nat → Bool := fun i => i == 1
def rSortIT (K : PySem.W.Frag) : List V → Hp → VK → Prop := fun vs H Q => ∃ (a : Addr) (xs : List V), vs = [V.ref a] ∧ SqL K H a xs ∧ (∀ x ∈ xs, ∃ (t : Addr) (i : Int) (k : Str), x = .ref t ∧ H t = some (.tup [.int i, .str k])) ∧
  ∀ (ys : List V) (p : Addr), ys.Perm xs → H p = none → Q (.ref p) (upd H p (.lst ys))
theorem tups_of {h : Heap} {shape : Nat → Bool} : ∀ {vs : List Value}, (∀ v ∈ vs, ∃ f, PyProof.Rows.TupOf h shape v f) → ∃ fs, PyProof.Rows.TupsOf h shape vs fs
  | [], _ => ⟨[], .nil⟩
  | v :: vs, H => by
    obtain ⟨f, hf⟩ := H v List.mem_cons_self
    obtain ⟨fs, hfs⟩ := tups_of (vs := vs) fun u hu => H u (List.mem_cons_of_mem _ hu)
    exact ⟨f :: fs, .cons hf hfs⟩
theorem cr_sortIT : CallR X (.builtin "sorted") (rSortIT X.K) := by
  intro pins s σ H vs us Q I r h
  obtain ⟨a, xs, rfl, hs, hx, q⟩ := h
  obtain ⟨its, rv, hl, hz⟩ := I.list hs
  obtain ⟨u, rfl, ru⟩ := vals1 r
  obtain rfl : u = Value.ref a := ru
  obtain ⟨e1, e2⟩ := refs_back rv fun x m => by
    obtain ⟨t, _, _, e, _⟩ := hx x m
    exact ⟨t, e⟩
  have raw : ∀ v ∈ its, ∃ (t : Addr) (o : Obj) (i : Int) (k : Str) (t1 t2 : Tok) (n : Nat), v = .ref t ∧ s.heap.get? t = some o ∧ o.cls = .type "tuple" ∧ o.data = .seq #[.int i t1, .str k t2] n := fun v hv => by
    obtain ⟨t, rfl⟩ := e2 v hv
    have hm : V.ref t ∈ xs := by rw [e1]; exact List.mem_map.mpr ⟨_, hv, rfl⟩
    obtain ⟨t', i, k, e, ht⟩ := hx _ hm
    cases e
    obtain ⟨_, its2, r2, o, ho, hc, n, hd⟩ := I.hok _ _ ht
    obtain ⟨u1, u2, rfl, ri, rj⟩ := vals2 r2
    obtain ⟨t1, rfl⟩ := ri
    obtain ⟨t2, rfl⟩ := rj
    exact ⟨t, o, i, k, t1, t2, n, rfl, ho, hc, hd⟩
  obtain ⟨fs, hfs⟩ := tups_of (h := s.heap) (shape := shIT) (vs := its) fun v hv => by
    obtain ⟨t, o, i, k, t1, t2, n, rfl, ho, hc, hd⟩ := raw v hv
    exact ⟨.int i t1, t, o, _, n, rfl, ho, hc, hd, rfl, fun _ => ⟨i, t1, rfl⟩, (fun e => absurd e (by decide))⟩
  refine PyProof.Rows.G.sorted_tups (shape := shIT) hl.isList hfs (fun v hv => ?_) (by rw [← rv.length]; exact hz) fun st' hp _ _ => ?_
  · obtain ⟨t, o, i, k, t1, t2, n, rfl, ho, hc, hd⟩ := raw v hv
    exact ⟨[Sum.inl i, Sum.inr k.cps.toList], PyProof.Rows.G.tupKeyC_of ho hc hd rfl⟩
  · generalize hout : (arrOf st').map (·.2) = out
    have hp' : out.toList.Perm its := by
      rw [← hout, Array.toList_map]
      have e := (Array.perm_iff_toList_perm.mp hp).map Prod.snd
      rw [pairsOf_toList, List.map_snd_zip (Nat.le_refl _)] at e
      exact e
    have h3 : ∀ u ∈ out.toList, ∃ a, u = Value.ref a := fun u hu => e2 u (hp'.mem_iff.mp hu)
    obtain ⟨ep, he'⟩ := PyProof.Rows.sortedAll_at s.heap its out
    have hpp : (out.toList.map backV).Perm xs := by rw [e1]; exact hp'.map backV
    have hlen : (out.toList.map backV).length ≤ sizeLine := by rw [hpp.length_eq]; exact hz
    exact ⟨.ref _, upd H (s.heap.objs.size + 1) (.lst (out.toList.map backV)), I.laid (t' := s.toks) (fun _ _ => PyProof.Rows.sortedAll_old) (Nat.le_succ _) ⟨hlen, out.toList, ep, vals_back h3, he'⟩, rfl, q _ _ hpp (I.hok.fresh (Nat.le_succ _))⟩
end
theorem B.at_snoc : ∀ (t : B) (q : List Bool) (b : Bool) {u : B}, t.at q = some u → t.at (q ++ [b]) = u.at [b]
  | t, [], b, u, h => by cases t <;> (cases h; rfl)
  | .nil, _ :: _, _, _, h => by cases h
  | .node l x r, false :: q, b, u, h => l.at_snoc q b (show l.at q = some u from h)
  | .node l x r, true :: q, b, u, h => r.at_snoc q b (show r.at q = some u from h)
def spSpot : Sp := fun vs H Q _ => ∃ (v : V) (t : B) (c : Nat), vs = [v, .str (ch c)] ∧ BAt H v t ∧ t.size ≤ 30 ∧ ∀ (p : List Bool) (H' : Hp), Same H H' → t.at p = some .nil → Q (.str (px p)) H'
def spSTree : Sp := fun vs H Q _ => ∃ (s : Addr) (n m : Nat), vs = [.ref s, .int (m : Int)] ∧ Strm H s n ∧ n ≤ 900000 ∧ m ≤ 12 ∧ ∀ (v : V) (t : B) (n' : Nat) (H' : Hp), BAt H' v t → t.size = m → t.lts → Strm H' s n' → n' ≤ n + m → But s H H' → Q v H'
theorem lts_one {c : Nat} (h : isLow c = true) : (B.node .nil c .nil).lts := B.lts_node.mpr ⟨h, B.lts_nil, B.lts_nil⟩
theorem alph_mem : ∀ c ∈ alph, isLow c = true := by decide +kernel
theorem lts_of_mem {l : List Nat} (h : ∀ c ∈ l, isLow c = true) {i c : Nat} (e : l[i]? = some c) : isLow c = true := h c (List.mem_of_getElem? e)
def stLen (σ : L2.St) : Nat := match σ[2]? with
  | some (some (V.str x)) => 200 - x.length
  | _ => 0
section
variable {P : Program} {w : World} {K : PySem.W.Frag} {mg : Str → Option Value} {base : Heap} {f : Addr} {fd : FuncData}
theorem ok_spot1 {k : Nat} (F : Fun K "_law_spot" "_law_spot" s__law_spot f fd) : FnOk P w K mg base CX0 (k + 1) f fd ["_law_tree_here", "_law_letter_here"] spSpot := by
  refine F.ok sc__law_spot (fun vs H Q E h => ?_) (fun cdv A outer s H vs Q E hr h => ?_)
  · obtain ⟨v, t, c, rfl, _⟩ := h
    rfl
  obtain ⟨v, t, c, rfl, ht, hz, q⟩ := h
  refine ⟨_, (pss_cons (ps_set (i := 2) sc__law_spot.nd rfl (.inl rfl) pe_str)
    (pss_cons (ps_while PassesOwn.never (pt_cmpR op_notN (pv 0) pe_non (nomark _))
      (pss_one (ps_asg (pe_ifExp (pt_cmpR op_lt_str (pv 1) (pe_ix ix_tup (pv 0) pe_int (fun _ _ => rfl)) (nomark _)) (pe_tup (pa_cons (pe_op op_add_str (pv 2) pe_str) (pa_cons (pe_ix ix_tup (pv 0) pe_int (fun _ _ => rfl)) pa_nil))) (pe_tup (pa_cons (pe_op op_add_str (pv 2) pe_str) (pa_cons (pe_ix ix_tup (pv 0) pe_int (fun _ _ => rfl)) pa_nil)))) (pg_tup rfl (pgs_cons (pg_name (i := 2) sc__law_spot.nd rfl (.inl rfl)) (pgs_cons (pg_name (i := 0) sc__law_spot.nd rfl (.inl rfl)) pgs_nil))))))
    (pss_one (ps_ret (pv 2))))), ?_⟩
  refine while_by (fun σ H' => ∃ (p : List Bool) (vi : V) (ti : B), σ = [some vi, some (.str (ch c)), some (.str (px p))] ∧ Same H H' ∧ BAt H' vi ti ∧ t.at p = some ti) (fun σ _ => stLen σ) ⟨[], v, t, by rw [px_nil]; rfl, Same.refl H, ht, by cases t <;> rfl⟩ (fun σ H' hp => ?_) ?_
  · obtain ⟨p, vi, ti, rfl, sm, hi, ei⟩ := hp
    have hsz := t.at_size p ei
    rcases hi.inv with ⟨rfl, rfl⟩ | ⟨b, vl, vr, x, tl, tr, rfl, rfl, eb, hl, hr'⟩
    · exact ⟨_, rfl, rfl, _, rfl, iteF ⟨_, rfl, q p H' sm ei⟩⟩
    have cl : px p ++ Str.ofString "l" = px (p ++ [false]) := by rw [str_l]; exact px_snoc p false
    have cr : px p ++ Str.ofString "r" = px (p ++ [true]) := by rw [str_r]; exact px_snoc p true
    have cl1 : (px p).length + (Str.ofString "r").length ≤ sizeLine := small (by rw [px_len, str_r, tx_len]; show _ + 1 ≤ 1000; omega)
    have cl2 : (px p).length + (Str.ofString "l").length ≤ sizeLine := small (by rw [px_len, str_l, tx_len]; show _ + 1 ≤ 1000; omega)
    have ms : ∀ (d : Bool) (y : Option V), stLen [y, some (.str (ch c)), some (.str (px (p ++ [d])))] < stLen [some (.ref b), some (.str (ch c)), some (.str (px p))] := fun b y => by
      show 200 - (px (p ++ [_])).length < 200 - (px p).length
      rw [px_len, px_len, List.length_append]
      show 200 - (p.length + 1) < _
      omega
    refine ⟨_, rfl, rfl, _, rfl, iteT ?_⟩
    refine ⟨_, rfl, _, rfl, b, _, 1, _, rfl, rfl, SqT.of eb, atI_nat (j := 1) rfl, _, _, rfl, rfl, _, rfl, ite2 (fun _ => ?_) (fun _ => ?_)⟩
    · refine ⟨_, rfl, _, _, rfl, rfl, cl2, _, rfl, b, _, 0, vl, rfl, rfl, SqT.of eb, atI_nat (j := 0) rfl, (by show 2 ≤ sizeLine; decide), fun r nr => ?_⟩
      have k2 := same_new nr (.tup [.str (px p ++ Str.ofString "l"), vl])
      refine ⟨r, _, rfl, SqT.of upd_same, rfl, _, _, rfl, _, _, rfl, rfl, ?_⟩
      refine ⟨⟨p ++ [false], vl, tl, by rw [← cl]; rfl, sm.trans k2, hl.same k2, (t.at_snoc p false ei).trans (by cases tl <;> rfl)⟩, ?_⟩
      have := ms false (some vl)
      rw [← cl] at this
      exact this
    · refine ⟨_, rfl, _, _, rfl, rfl, cl1, _, rfl, b, _, 2, vr, rfl, rfl, SqT.of eb, atI_nat (j := 2) rfl, (by show 2 ≤ sizeLine; decide), fun r nr => ?_⟩
      have k2 := same_new nr (.tup [.str (px p ++ Str.ofString "r"), vr])
      refine ⟨r, _, rfl, SqT.of upd_same, rfl, _, _, rfl, _, _, rfl, rfl, ?_⟩
      refine ⟨⟨p ++ [true], vr, tr, by rw [← cr]; rfl, sm.trans k2, hr'.same k2, (t.at_snoc p true ei).trans (by cases tr <;> rfl)⟩, ?_⟩
      have := ms true (some vr)
      rw [← cr] at this
      exact this
  · intro σ H' Q1 Q2 hQ h
    obtain ⟨v', e, h1, k, e2, h⟩ := h
    exact ⟨v', e, h1, k, e2, hQ _ _ h⟩
theorem ok_sortedTree (F : Fun K "_law_sorted_tree" "_law_sorted_tree" s__law_sorted_tree f fd) (M : Mgs mg) (D_law_take : Df P w K mg base 1 "_law_take" ["_law_stream_here", "_law_many"] spTake1) (D_law_spot : Df P w K mg base 1 "_law_spot" ["_law_tree_here", "_law_letter_here"] spSpot) (D_law_grafted : Df P w K mg base 20 "_law_grafted" ["_law_tree_here", "_law_path", "_law_part_here"] (spWith 20)) :
    FnOk P w K mg base CX0 21 f fd ["_law_stream_here", "_law_size"] spSTree := by
  refine F.ok (k := 20) sc__law_sorted_tree (fun vs H Q E h => ?_) (fun cdv A outer s H vs Q E hr h => ?_)
  · obtain ⟨sa, n, m, rfl, _⟩ := h
    rfl
  obtain ⟨sa, n, m, rfl, h, hn, hm, q⟩ := h
  refine ⟨_, (pss_cons (ps_par (i := 2) (j := 3) (by rfl) sc__law_sorted_tree.nd rfl rfl (by decide) rfl rfl (pa_cons pe_non (pa_cons (pe_callTy (call_signs rfl) rfl M.list (by decide +kernel) (pa_cons pe_str pa_nil)) pa_nil)) (by rfl))
    (pss_cons (ps_for PassesOwn.never rfl (pi_range1 rfl M.range (pa_cons (pv 1) pa_nil)) (pg_name (i := 4) sc__law_sorted_tree.nd rfl (.inl rfl))
      (pss_cons (ps_set (i := 5) sc__law_sorted_tree.nd rfl (.inl rfl) (pe_bm PySem.F.plainAttrs_list PySem.F.slot_list_pop PySem.F.type_list_pop mt_popAt (pv 3) (pa_cons (pe_call D_law_take.ok (hr.mono (by omega)) rfl D_law_take.g D_law_take.kp D_law_take.b .nil pass0 (pa_cons (pv 0) (pa_cons (pe_callB call_len_seq rfl M.len PySem.boot_len (pa_cons (pv 3) pa_nil)) pa_nil))) pa_nil)))
    (pss_one (ps_set (i := 2) sc__law_sorted_tree.nd rfl (.inl rfl) (pe_call D_law_grafted.ok (hr.mono (by omega)) rfl D_law_grafted.g D_law_grafted.kp D_law_grafted.b .nil pass0 (pa_cons (pv 2) (pa_cons (pe_call D_law_spot.ok (hr.mono (by omega)) rfl D_law_spot.g D_law_spot.kp D_law_spot.b .nil pass0 (pa_cons (pv 2) (pa_cons (pv 5) pa_nil))) (pa_cons (pe_tup (pa_cons pe_non (pa_cons (pv 5) (pa_cons pe_non pa_nil)))) pa_nil))))))))
    (pss_one (ps_ret (pv 2))))), ?_⟩
  refine ⟨_, rfl, by decide +kernel, fun la nla => ?_⟩
  have k1 := same_new nla (.lst (alph.map vc))
  have h1 : Strm (upd H la (.lst (alph.map vc))) sa n := h.same k1
  have e1 : (upd H la (.lst (alph.map vc))) la = some (.lst (alph.map vc)) := upd_same
  have nls : la ≠ sa := fun z => by obtain ⟨xs, e⟩ := h.lst; rw [← z, nla] at e; cases e
  refine ⟨_, _, rfl, ?_⟩
  refine ⟨_, rfl, (m : Int), rfl, by omega, by omega, ?_⟩
  refine for_range (lo := 0) (n := m) (fun i σ H' => ∃ (vi : V) (ti : B) (n' : Nat) (ls : List Nat) (y4 y5 : Option V), σ = [some (.ref sa), some (.int (m : Int)), some vi, some (.ref la), y4, y5] ∧ BAt H' vi ti ∧ ti.size = i ∧ ti.lts ∧ Strm H' sa n' ∧ n' ≤ n + i ∧ H' la = some (.lst (ls.map vc)) ∧ ls.length = 26 - i ∧ (∀ c ∈ ls, isLow c = true) ∧ But sa H H')
    ⟨.non, .nil, n, alph, none, none, rfl, .nil, rfl, B.lts_nil, h1, by omega, e1, by decide +kernel, alph_mem, But.of k1⟩ (fun i σ H2 hi hp => ?_) (fun σ H2 hp => ?_)
  · obtain ⟨vi, ti, n', ls, y4, y5, rfl, b1, z1, l1, st1, hn1, e2, hl1, al, bu⟩ := hp
    refine ⟨_, rfl, .inl ⟨rfl, _, SqL.of e2⟩, _, rfl, _, rfl, la, _, rfl, .inl (SqL.of e2), sa, n', _, rfl, st1, by omega, by rw [List.length_map]; omega, by rw [List.length_map]; omega, fun j n2 H3 lj st3 hn2 bu3 => ?_⟩
    rw [List.length_map] at lj
    have lj' : j < ls.length := by omega
    have e3 := bu3 _ _ nls e2
    obtain ⟨xs0, es0⟩ := st1.lst
    have b3 := b1.keep (But.keepL es0 bu3)
    refine ⟨la, _, (j : Int), j, vc (ls[j]'lj'), rfl, rfl, e3, by omega, by omega, by rw [PyProof.Rows.seqIndex_at (by omega) (by rw [List.length_map]; omega)]; rfl, by rw [List.getElem?_map, List.getElem?_eq_getElem lj']; rfl, ?_⟩
    have hc := al _ (List.getElem_mem lj')
    generalize ls[j]'lj' = c at hc ⊢
    have e4 : (upd H3 la (.lst ((ls.map vc).eraseIdx j))) la = some (.lst ((ls.eraseIdx j).map vc)) := by rw [upd_same, erase_map]
    have bu4 : But sa H (upd H3 la (.lst ((ls.map vc).eraseIdx j))) := fun b o hb e => by
      rw [upd_ne (ne_of_none e nla)]
      exact bu3 _ _ hb (bu _ _ hb e)
    have b4 : BAt (upd H3 la (.lst ((ls.map vc).eraseIdx j))) vi ti := b3.keep fun b xs e => by
      rw [upd_ne (ne_of e e3 (by intro z; cases z))]
      exact e
    have st4 : Strm (upd H3 la (.lst ((ls.map vc).eraseIdx j))) sa n2 := by
      obtain ⟨r, c', er, cc⟩ := st3
      exact ⟨r, c', by rw [upd_ne nls.symm]; exact er, cc⟩
    generalize upd H3 la (.lst ((ls.map vc).eraseIdx j)) = H4 at e4 bu4 b4 st4 ⊢
    refine ⟨_, rfl, _, rfl, _, rfl, vi, ti, c, rfl, b4, by omega, fun p H5 s5 hp => ?_⟩
    have hpl := ti.at_size p hp
    refine ⟨_, rfl, (by show 3 ≤ sizeLine; decide), fun r nr => ?_⟩
    have k6 := same_new nr (.tup [.non, .str (ch c), .non])
    have b6 := b4.same (s5.trans k6)
    refine ⟨vi, .ref r, ti, .node .nil c .nil, p, rfl, b6, .node upd_same .nil .nil, by omega, by omega, by rw [hp]; rfl, fun v' H7 s7 b7 => ?_⟩
    have s47 := s5.trans (k6.trans s7)
    have zz := ti.put_size p (.node .nil c .nil) hp
    refine ⟨v', _, n2, ls.eraseIdx j, _, _, rfl, b7, ?_, ti.put_lts p l1 (lts_one hc), st4.same s47, by omega, s47 _ _ e4, ?_, fun d hd => al d (List.mem_of_mem_eraseIdx hd), bu4.trans (But.of s47)⟩
    · have e0 : (B.node .nil c .nil).size = 1 := rfl
      have e1 : B.nil.size = 0 := rfl
      omega
    · rw [List.length_eraseIdx_of_lt lj']
      omega
  · obtain ⟨vi, ti, n', ls, y4, y5, rfl, b1, z1, l1, st1, hn1, e2, hl1, al, bu⟩ := hp
    exact ⟨_, rfl, q vi ti n' H2 b1 z1 l1 st1 hn1 bu⟩
end
/-! ### the drawn tree -/
theorem at_any {xs : List V} {z : Int} (h1 : -(xs.length : Int) ≤ z) (h2 : z < xs.length) : ∃ x ∈ xs, atI xs z = some x := by
  unfold atI ixN
  by_cases h : 0 ≤ z
  · rw [if_pos h, if_pos (by omega)]
    refine ⟨xs[z.toNat]'(by omega), List.getElem_mem _, ?_⟩
    exact List.getElem?_eq_getElem _
  · rw [if_neg h, if_pos (by omega)]
    refine ⟨xs[(z + xs.length).toNat]'(by omega), List.getElem_mem _, ?_⟩
    exact List.getElem?_eq_getElem _
def spTreeL : Sp := fun vs H Q _ => ∃ (s : Addr) (n m : Nat), vs = [.ref s, .int (m : Int)] ∧ Strm H s n ∧ n ≤ 800000 ∧ 0 < m ∧ m ≤ 12 ∧ ∀ (v : V) (t : B) (n' : Nat) (H' : Hp), BAt H' v t → 1 ≤ t.size → t.size ≤ m → t.lts → Strm H' s n' → n' ≤ n + 200 → But s H H' → Q v H'
def OpAt (H : Hp) (t : B) (x : V) : Prop := ∃ (a : Addr) (q : List Bool), x = .ref a ∧ t.at q = some .nil ∧ H a = some (.tup [.int (q.length : Int), .str (px q)])
theorem OpAt.keep {H H' : Hp} (k : KeepT H H') {t : B} {x : V} (h : OpAt H t x) : OpAt H' t x := by
  obtain ⟨a, q, e, h1, h2⟩ := h
  exact ⟨a, q, e, h1, k _ _ h2⟩
section
variable {P : Program} {w : World} {K : PySem.W.Frag} {mg : Str → Option Value} {base : Heap} {f : Addr} {fd : FuncData}
theorem ok_treeL (F : Fun K "_law_tree" "_law_tree" s__law_tree f fd) (M : Mgs mg) (D_law_take : Df P w K mg base 1 "_law_take" ["_law_stream_here", "_law_many"] spTake1) (D_law_letter : Df P w K mg base 2 "_law_letter" ["_law_stream_here"] spLetter1) (D_law_sorted_tree : Df P w K mg base 21 "_law_sorted_tree" ["_law_stream_here", "_law_size"] spSTree) (D_law_paths : Df P w K mg base 1 "_law_paths" ["_law_tree_here"] spPaths) (D_law_grafted : Df P w K mg base 20 "_law_grafted" ["_law_tree_here", "_law_path", "_law_part_here"] (spWith 20)) :
    FnOk P w K mg base CX0 22 f fd ["_law_stream_here", "_law_top"] spTreeL := by
  refine F.ok (k := 21) sc__law_tree (fun vs H Q E h => ?_) (fun cdv A outer s H vs Q E hr h => ?_)
  · obtain ⟨sa, n, m, rfl, _⟩ := h
    rfl
  obtain ⟨sa, n, m, rfl, h, hn, m0, m1, q⟩ := h
  refine ⟨_, (pss_cons (ps_par3 (i := 2) (j := 3) (l := 4) (by rfl) sc__law_tree.nd rfl rfl rfl (by decide) (by decide) (by decide) rfl rfl rfl (pa_cons (pe_op op_add pe_int (pe_call D_law_take.ok (hr.mono (by omega)) rfl D_law_take.g D_law_take.kp D_law_take.b .nil pass0 (pa_cons (pv 0) (pa_cons (pv 1) pa_nil)))) (pa_cons (pe_call D_law_take.ok (hr.mono (by omega)) rfl D_law_take.g D_law_take.kp D_law_take.b .nil pass0 (pa_cons (pv 0) (pa_cons pe_int pa_nil))) (pa_cons pe_non pa_nil))) (by rfl))
    (pss_cons (ps_if (pt_cmpR op_eq (pv 3) pe_int (nomark _))
      (pss_one (ps_ret (pe_call D_law_sorted_tree.ok (hr.mono (by omega)) rfl D_law_sorted_tree.g D_law_sorted_tree.kp D_law_sorted_tree.b .nil pass0 (pa_cons (pv 0) (pa_cons (pv 2) pa_nil))))) pss_nil)
    (pss_cons (ps_for PassesOwn.never rfl (pi_range1 rfl M.range (pa_cons (pv 2) pa_nil)) (pg_name (i := 5) sc__law_tree.nd rfl (.inl rfl))
      (pss_cons (ps_set (i := 7) sc__law_tree.nd rfl (.inl rfl) (pe_callB cr_sortIT rfl M.sorted (by decide +kernel) (pa_cons (pe_lc (own := [("_law_path", 6)]) (g := gName 6) (tt := tYes) rfl sc__law_tree.nd (pi_list (pe_ix ix_tup (pe_call D_law_paths.ok (hr.mono (by omega)) rfl D_law_paths.g D_law_paths.kp D_law_paths.b .nil pass0 (pa_cons (pv 4) pa_nil)) pe_int (fun _ _ => rfl))) (blkOk_by (N := ["_law_stream_here", "_law_top", "_law_size", "_law_way", "_law_tree_here", "_law_k", "_law_path", "_law_opens", "_law_spot_here"]) (sc := defScope s__law_tree) (by decide +kernel)) (fun _ _ _ _ _ => (pg_name (i := 6) sc__law_tree.nd rfl (.inl rfl))) (fun _ _ _ _ _ => pts_nil) (fun _ _ _ _ _ => (pe_tup (pa_cons (pe_callB call_len_str rfl M.len PySem.boot_len (pa_cons (pv 6) pa_nil)) (pa_cons (pv 6) pa_nil))))) pa_nil)))
    (pss_cons (ps_set (i := 8) sc__law_tree.nd rfl (.inl rfl) (pe_ix ix_list (pe_lst (pa_cons (pe_call D_law_take.ok (hr.mono (by omega)) rfl D_law_take.g D_law_take.kp D_law_take.b .nil pass0 (pa_cons (pv 0) (pa_cons (pe_callB call_len_seq rfl M.len PySem.boot_len (pa_cons (pv 7) pa_nil)) pa_nil))) (pa_cons pe_int (pa_cons (pe_un un_neg pe_int) (pa_cons (pe_op op_sub (pe_un un_neg pe_int) (pe_call D_law_take.ok (hr.mono (by omega)) rfl D_law_take.g D_law_take.kp D_law_take.b .nil pass0 (pa_cons (pv 0) (pa_cons (pe_callB (call_min2 rfl) rfl M.min (by decide +kernel) (pa_cons pe_int (pa_cons (pe_callB call_len_seq rfl M.len PySem.boot_len (pa_cons (pv 7) pa_nil)) pa_nil))) pa_nil)))) pa_nil))))) (pv 3) (fun _ _ => rfl)))
    (pss_one (ps_set (i := 4) sc__law_tree.nd rfl (.inl rfl) (pe_call D_law_grafted.ok (hr.mono (by omega)) rfl D_law_grafted.g D_law_grafted.kp D_law_grafted.b .nil pass0 (pa_cons (pv 4) (pa_cons (pe_ix ix_tup (pe_ix ix_list (pv 7) (pv 8) (fun _ _ => rfl)) pe_int (fun _ _ => rfl)) (pa_cons (pe_tup (pa_cons pe_non (pa_cons (pe_call D_law_letter.ok (hr.mono (by omega)) rfl D_law_letter.g D_law_letter.kp D_law_letter.b .nil pass0 (pa_cons (pv 0) pa_nil)) (pa_cons pe_non pa_nil)))) pa_nil)))))))))
    (pss_one (ps_ret (pv 4)))))), ?_⟩
  refine ⟨_, rfl, _, rfl, sa, n, (m : Int), rfl, h, by omega, by omega, by omega, fun j n1 H1 l1 st1 hn1 bu1 => ?_⟩
  refine ⟨_, _, rfl, rfl, _, rfl, sa, n1, 5, rfl, st1, by omega, by decide, by decide, fun wy n2 H2 l2 st2 hn2 bu2 => ?_⟩
  have bu2 := bu1.trans bu2
  refine ⟨_, _, _, rfl, ?_⟩
  have hw : wy < 5 := by omega
  have hj : j < m := by omega
  refine ⟨_, rfl, rfl, _, rfl, ?_⟩
  by_cases h4 : wy = 4
  · subst h4
    refine iteT ⟨_, rfl, _, rfl, sa, n2, 1 + j, by rw [Int.natCast_add]; rfl, st2, by omega, by omega, fun v t n' H' b z l st hn' bu => ?_⟩
    exact q v t n' H' b (by omega) (by omega) l st (by omega) (bu2.trans bu)
  have e4 : decide (V.int (wy : Int) = V.int 4) = false := decide_eq_false fun z => h4 (by have := V.int.inj z; omega)
  rw [e4]
  refine iteF ?_
  refine ⟨_, rfl, (1 + (j : Int)), rfl, by omega, by omega, ?_⟩
  have es : (1 + (j : Int)) = ((1 + j : Nat) : Int) := by omega
  rw [es]
  refine for_range (lo := 0) (n := 1 + j) (fun i σ H' => ∃ (vi : V) (ti : B) (n' : Nat) (y5 y6 y7 y8 : Option V), σ = [some (.ref sa), some (.int (m : Int)), some (.int (1 + (j : Int))), some (.int (wy : Int)), some vi, y5, y6, y7, y8] ∧ BAt H' vi ti ∧ ti.size = i ∧ ti.lts ∧ Strm H' sa n' ∧ n' ≤ n2 + 4 * i ∧ But sa H2 H')
    ⟨.non, .nil, n2, none, none, none, none, rfl, .nil, rfl, B.lts_nil, st2, by omega, But.refl _ _⟩ (fun i' σ H3 hi hp => ?_) (fun σ H3 hp => ?_)
  · obtain ⟨vi, ti, n', y5, y6, y7, y8, rfl, b3, z3, l3, st3, hn3, bu3⟩ := hp
    refine ⟨_, rfl, vi, ti, rfl, b3, by omega, fun p A B' H4 s4 np nA nB ep eA eB => ?_⟩
    refine ⟨p, _, 1, _, rfl, rfl, SqT.of ep, atI_nat (j := 1) rfl, ?_⟩
    refine ⟨B', rfl, ⟨_, SqL.of eB⟩, fun D nD => ?_⟩
    have k5 := same_new nD (.lst [])
    refine lc_list (K := K) (a := B') (xs := (ti.ops []).map fun p => V.str (px p)) (fun i H' => Same H4 H' ∧ ∃ us, H' D = some (.lst us) ∧ us.length = i ∧ ∀ x ∈ us, OpAt H' ti x) ⟨k5, [], upd_same, rfl, fun x hx => nomatch hx⟩ (fun i H' _ hp => SqL.of (hp.1 _ _ eB)) (fun i x H' hx hp => ?_) (fun H' hp => ?_)
    · obtain ⟨sm, us, eu, lu, hu⟩ := hp
      obtain ⟨qq, hq, rfl⟩ : ∃ qq, (ti.ops [])[i]? = some qq ∧ V.str (px qq) = x := by
        rw [List.getElem?_map] at hx
        cases e : (ti.ops [])[i]? with
        | none => rw [e] at hx; cases hx
        | some qq => rw [e] at hx; exact ⟨qq, rfl, Option.some.inj hx⟩
      have hat := B.ops_at.mp (List.mem_of_getElem? hq)
      have hql := ti.at_size qq hat
      have hil := (List.getElem?_eq_some_iff.mp hq).1
      rw [B.ops_len] at hil
      refine ⟨rfl, kept ?_⟩
      refine ⟨_, rfl, px qq, rfl, small (by rw [px_len]; omega), _, rfl, (by show 2 ≤ sizeLine; decide), fun r nr => ?_⟩
      have k6 := same_new nr (.tup [.int ((px qq).length : Int), .str (px qq)])
      have ner : D ≠ r := fun z => by rw [← z, eu] at nr; cases nr
      have eu' := k6 _ _ eu
      have kt : KeepT H' (upd (upd H' r (.tup [.int ((px qq).length : Int), .str (px qq)])) D (.lst (us ++ [.ref r]))) := fun b xs z => by
        rw [upd_ne (ne_of (k6 _ _ z) eu' (by intro z; cases z))]
        exact k6 _ _ z
      refine ⟨us, eu', small1000 (by omega), fun b o z => ?_, us ++ [.ref r], upd_same, by rw [List.length_append, lu]; rfl, fun x hx => ?_⟩
      · rw [upd_ne (ne_of_none z nD)]
        exact k6 _ _ (sm _ _ z)
      · rcases List.mem_append.mp hx with hx | hx
        · exact (hu x hx).keep kt
        · rw [List.mem_singleton.mp hx]
          refine ⟨r, qq, rfl, hat, ?_⟩
          rw [upd_ne ner.symm, upd_same, px_len]
    · obtain ⟨sm, us, eu, lu, hu⟩ := hp
      refine ⟨D, us, rfl, SqL.of eu, fun x hx => ?_, fun ys so pm nso => ?_⟩
      · obtain ⟨a, qq, e, _, h⟩ := hu x hx
        exact ⟨a, _, _, e, h⟩
      have k7 := same_new nso (.lst ys)
      have eso := upd_same (H := H') (a := so) (o := .lst ys)
      have s37 := s4.trans (sm.trans k7)
      have hys : ∀ x ∈ ys, OpAt (upd H' so (.lst ys)) ti x := fun x hx => (hu x (pm.mem_iff.mp hx)).keep (Tw.Same.keepT k7)
      have lys : ys.length = i' + 1 := by rw [pm.length_eq, lu, List.length_map, B.ops_len, z3]
      have st7 := st3.same s37
      have b7 := b3.same s37
      have neS : so ≠ sa := fun z => by obtain ⟨xs, e⟩ := st3.lst; rw [z, (s4.trans sm) _ _ e] at nso; cases nso
      generalize upd H' so (.lst ys) = H7 at s37 eso hys st7 b7 ⊢
      refine ⟨_, rfl, _, rfl, so, _, rfl, .inl (SqL.of eso), sa, n', _, rfl, st7, by omega, by omega, by omega, fun j1 n8 H8 l8 st8 hn8 bu8 => ?_⟩
      have eso8 := bu8 _ _ neS eso
      refine ⟨_, rfl, _, rfl, _, rfl, _, rfl, so, _, rfl, .inl (SqL.of eso8), 2, _, rfl, ?_⟩
      have mn : ∃ mm : Int, (if (ys.length : Int) < 2 then (ys.length : Int) else 2) = mm ∧ 0 < mm ∧ mm ≤ 2 ∧ mm ≤ ys.length := by
        by_cases hc : (ys.length : Int) < 2
        · exact ⟨_, if_pos hc, by omega, by omega, by omega⟩
        · exact ⟨_, if_neg hc, by omega, by omega, by omega⟩
      obtain ⟨mm, emm, mm0, mm2, mml⟩ := mn
      rw [emm]
      refine ⟨sa, n8, mm, rfl, st8, by omega, mm0, by omega, fun j2 n9 H9 l9 st9 hn9 bu9 => ?_⟩
      refine ⟨_, _, rfl, rfl, (by show 4 ≤ sizeLine; decide), fun L nL => ?_⟩
      have kA := same_new nL (.lst [.int (j1 : Int), .int 0, .int (-1), .int (-1 - (j2 : Int))])
      have eL := upd_same (H := H9) (a := L) (o := .lst [.int (j1 : Int), .int 0, .int (-1), .int (-1 - (j2 : Int))])
      have esoA := kA _ _ (bu9 _ _ neS eso8)
      have buA := bu8.trans (bu9.trans (But.of kA))
      have stA := st9.same kA
      obtain ⟨xs7, es7⟩ := st7.lst
      have ktA : KeepT H7 (upd H9 L (.lst [.int (j1 : Int), .int 0, .int (-1), .int (-1 - (j2 : Int))])) := But.keepL es7 buA
      have bA := b7.keep ktA
      have hysA : ∀ x ∈ ys, OpAt (upd H9 L (.lst [.int (j1 : Int), .int 0, .int (-1), .int (-1 - (j2 : Int))])) ti x := fun x hx => (hys x hx).keep ktA
      generalize upd H9 L (.lst [.int (j1 : Int), .int 0, .int (-1), .int (-1 - (j2 : Int))]) = HA at eL esoA buA stA bA hysA ⊢
      have hv : ∃ z : Int, atI [V.int (j1 : Int), .int 0, .int (-1), .int (-1 - (j2 : Int))] (wy : Int) = some (.int z) ∧ -(ys.length : Int) ≤ z ∧ z < ys.length := by
        match wy, hw, h4 with
        | 0, _, _ => exact ⟨j1, rfl, by omega, by omega⟩
        | 1, _, _ => exact ⟨0, rfl, by omega, by omega⟩
        | 2, _, _ => exact ⟨-1, rfl, by omega, by omega⟩
        | 3, _, _ => exact ⟨-1 - (j2 : Int), rfl, by omega, by omega⟩
        | 4, _, h => exact absurd rfl h
      obtain ⟨z, hz, z1, z2⟩ := hv
      refine ⟨_, rfl, L, _, _, _, rfl, rfl, SqL.of eL, hz, ?_⟩
      obtain ⟨x, hx, ex⟩ := at_any z1 z2
      obtain ⟨ta, qq, rfl, hat, eta⟩ := hysA x hx
      have hql := ti.at_size qq hat
      refine ⟨_, rfl, _, rfl, _, rfl, so, _, z, _, rfl, rfl, SqL.of esoA, ex, ta, _, 1, _, rfl, rfl, SqT.of eta, atI_nat (j := 1) rfl, _, rfl, sa, n9, rfl, stA, by omega, fun c nB HB hlow stB hnB buB => ?_⟩
      refine ⟨(by show 3 ≤ sizeLine; decide), fun r nr => ?_⟩
      have kC := same_new nr (.tup [.non, .str (ch c), .non])
      obtain ⟨xsA, esA⟩ := stA.lst
      have bC := (bA.keep (But.keepL esA buB)).same kC
      refine ⟨vi, .ref r, ti, .node .nil c .nil, qq, rfl, bC, .node upd_same .nil .nil, by omega, by omega, by rw [hat]; rfl, fun v' HD sD bD => ?_⟩
      have zz := ti.put_size qq (.node .nil c .nil) hat
      have e0 : (B.node .nil c .nil).size = 1 := rfl
      have e1 : B.nil.size = 0 := rfl
      exact ⟨v', _, nB, _, _, _, _, rfl, bD, by omega, ti.put_lts qq l3 (lts_one hlow), (stB.same kC).same sD, by omega, bu3.trans ((But.of s37).trans (buA.trans (buB.trans ((But.of kC).trans (But.of sD)))))⟩
  · obtain ⟨vi, ti, n', y5, y6, y7, y8, rfl, b1, z1, l1, st1', hn1', bu⟩ := hp
    exact ⟨_, rfl, q vi ti n' H3 b1 (by omega) (by omega) l1 st1' (by omega) (bu2.trans bu)⟩
end
/-! ### what is due -/
theorem flat_px (L : List (List Bool)) : (L.map fun p => V.str (px p)).all flatV = true := by
  rw [List.all_eq_true]
  intro x hx
  obtain ⟨k, _, rfl⟩ := List.mem_map.mp hx
  rfl
theorem inV_px (p : List Bool) (L : List (List Bool)) : inV (V.str (px p)) (L.map fun p => V.str (px p)) = decide (p ∈ L) := by
  unfold inV
  by_cases h : p ∈ L
  · rw [decide_eq_true h, List.any_eq_true]
    exact ⟨V.str (px p), List.mem_map.mpr ⟨p, h, rfl⟩, by show eqV (.str _) (.str _) = true; simp [eqV]⟩
  · rw [decide_eq_false h, Bool.eq_false_iff]
    intro e
    obtain ⟨y, hy, e⟩ := List.any_eq_true.mp e
    obtain ⟨k, hk, rfl⟩ := List.mem_map.mp hy
    have e : eqV (.str (px k)) (.str (px p)) = true := e
    simp only [eqV, beq_iff_eq] at e
    exact h (px_inj e ▸ hk)
theorem Does.same {t t' u : B} {e : Ed} (h : Does t e t') (g : Does t e u) : u = t' := by
  cases h with
  | put h1 _ _ => cases g; rfl
  | cut h1 _ _ => cases g; rfl
  | label h1 _ =>
    cases g with
    | label g1 _ => rw [h1] at g1; cases g1; rfl
  | turn h1 _ =>
    cases g with
    | turn g1 _ => rw [h1] at g1; cases g1; rfl
/-- an edit as the law draws it -/
def Drawn (t : B) : Ed → Prop
  | .put p c => t.at p = some .nil ∧ isLow c = true
  | .cut p => ∃ u, t.at p = some u ∧ u ≠ .nil
  | .label p c => (∃ u, t.at p = some u ∧ u ≠ .nil) ∧ isLow c = true
  | .turn p => ∃ u, t.at p = some u ∧ u ≠ .nil
def DueAt (H : Hp) (t : B) (e : Ed) (p : Addr) : Prop := (∃ t' v', Does t e t' ∧ H p = some (.tup [.str "state", v']) ∧ BAt H v' t') ∨ ((∀ t', ¬ Does t e t') ∧ ∃ x xs, x ≠ Str.ofString "state" ∧ H p = some (.tup (.str x :: xs)))
def spDueP : Sp := fun vs H Q _ => ∃ (v : V) (t : B) (q A B' : Addr) (p : List Bool) (c : Nat), vs = [v, .ref q, .ref A, .ref B'] ∧ BAt H v t ∧ t.size ≤ 12 ∧ H q = some (.tup (Ed.put p c).vals) ∧ t.at p = some .nil ∧ isLow c = true ∧ H A = some (.lst ((t.nds []).map fun p => V.str (px p))) ∧ H B' = some (.lst ((t.ops []).map fun p => V.str (px p))) ∧
  ∀ (r : Addr) (H' : Hp), Same H H' → DueAt H' t (.put p c) r → Q (.ref r) H'
def spDueL : Sp := fun vs H Q _ => ∃ (v : V) (t : B) (q : Addr) (e : Ed), vs = [v, .ref q] ∧ BAt H v t ∧ t.size ≤ 12 ∧ H q = some (.tup e.vals) ∧ Drawn t e ∧ ∀ (r : Addr) (H' : Hp), Same H H' → DueAt H' t e r → Q (.ref r) H'
def Ed.path : Ed → List Bool
  | .put p _ => p
  | .cut p => p
  | .label p _ => p
  | .turn p => p
def Ed.more : Ed → List V
  | .put _ c => [.str (ch c)]
  | .cut _ => []
  | .label _ c => [.str (ch c)]
  | .turn _ => []
theorem Ed.vals_eq (e : Ed) : e.vals = .str e.word :: .str (px e.path) :: e.more := by cases e <;> rfl
theorem w1 : Str.ofString "cut" ≠ Str.ofString "put" := by decide +kernel
theorem w2 : Str.ofString "label" ≠ Str.ofString "put" := by decide +kernel
theorem w3 : Str.ofString "turn" ≠ Str.ofString "put" := by decide +kernel
theorem w4 : Str.ofString "label" ≠ Str.ofString "cut" := by decide +kernel
theorem w5 : Str.ofString "turn" ≠ Str.ofString "cut" := by decide +kernel
theorem w6 : Str.ofString "label" ≠ Str.ofString "turn" := by decide +kernel
theorem w7 : Str.ofString "TooLarge" ≠ Str.ofString "state" := by decide +kernel
theorem w8 : Str.ofString "LastNode" ≠ Str.ofString "state" := by decide +kernel
theorem w9 : Str.ofString "turn" ≠ Str.ofString "label" := by decide +kernel
section
variable {P : Program} {w : World} {K : PySem.W.Frag} {mg : Str → Option Value} {base : Heap} {f : Addr} {fd : FuncData}
theorem ok_lowL {k : Nat} (F : Fun K "_law_is_letter" "_law_is_letter" s__law_is_letter f fd) (M : Mgs mg) : FnOk P w K mg base CX0 (k + 1) f fd ["_law_value"] spLow := by
  refine F.ok sc__law_is_letter (fun vs H Q E h => ?_) (fun cdv A outer s H vs Q E hr h => ?_)
  · obtain ⟨l, rfl, _⟩ := h
    rfl
  obtain ⟨l, rfl, hl, q⟩ := h
  refine ⟨_, (pss_one (ps_ret (pe_and (pe_callB call_isi rfl M.isinstance (by decide +kernel) (pa_cons (pv 0) (pa_cons (pe_bltn (v := .ty "str") rfl M.str (by decide +kernel) rfl) pa_nil))) (pe_and (pe_cmpR op_eq (pe_callB call_len_str rfl M.len PySem.boot_len (pa_cons (pv 0) pa_nil)) pe_int (nomark _)) (pe_one (pe_chain op_le_str op_le_str pe_str (pv 0) pe_str)))))), ?_⟩
  refine ⟨_, rfl, _, _, _, _, true, rfl, .ty _, .base (.str (tx l)), kit_ty (by decide +kernel), _, rfl, iteT ?_⟩
  refine ⟨_, rfl, tx l, rfl, small (by rw [tx_len]; omega), rfl, _, rfl, ?_⟩
  match l, hl, q with
  | [], _, q => exact iteF q
  | [c], _, q =>
    rw [show decide (V.int ((tx [c]).length : Nat) = V.int 1) = true from rfl]
    refine iteT ⟨_, rfl, _, _, rfl, rfl, _, rfl, ?_⟩
    have e1 : (!decide ((tx [c]).cps.toList < (Str.ofString "a").cps.toList)) = decide (97 ≤ c) := by
      rw [show (Str.ofString "a").cps.toList = [97] by decide +kernel, show (tx [c]).cps.toList = [c] from rfl]
      by_cases h : c < 97
      · rw [decide_eq_true (by simp [List.cons_lt_cons_iff, h]), decide_eq_false (by omega)]; rfl
      · rw [decide_eq_false (by simp [List.cons_lt_cons_iff, h]), decide_eq_true (by omega)]; rfl
    have e2 : (!decide ((Str.ofString "z").cps.toList < (tx [c]).cps.toList)) = decide (c ≤ 122) := by
      rw [show (Str.ofString "z").cps.toList = [122] by decide +kernel, show (tx [c]).cps.toList = [c] from rfl]
      by_cases h : 122 < c
      · rw [decide_eq_true (by simp [List.cons_lt_cons_iff, h]), decide_eq_false (by omega)]; rfl
      · rw [decide_eq_false (by simp [List.cons_lt_cons_iff, h]), decide_eq_true (by omega)]; rfl
    rw [e1]
    have q : Q (.bl (decide (97 ≤ c) && decide (c ≤ 122))) H := q
    by_cases h : 97 ≤ c
    · rw [decide_eq_true h] at q ⊢
      refine iteT ⟨_, _, rfl, rfl, ?_⟩
      rw [e2]
      exact q
    · rw [decide_eq_false h] at q ⊢
      exact iteF q
theorem ok_dueP (F : Fun K "_law_due_put" "_law_due_put" s__law_due_put f fd) (M : Mgs mg) (D_law_is_letter : Df P w K mg base 1 "_law_is_letter" ["_law_value"] spLow) (D_law_grafted : Df P w K mg base 20 "_law_grafted" ["_law_tree_here", "_law_path", "_law_part_here"] (spWith 20)) :
    FnOk P w K mg base CX0 21 f fd ["_law_tree_here", "_law_edit", "_law_nodes", "_law_opens"] spDueP := by
  refine F.ok (k := 20) sc__law_due_put (fun vs H Q E h => ?_) (fun cdv A outer s H vs Q E hr h => ?_)
  · obtain ⟨v, t, q, A, B', p, c, rfl, _⟩ := h
    rfl
  obtain ⟨v, t, q, A, B', p, c, rfl, ht, hz, eq, hat, hc, eA, eB, k⟩ := h
  refine ⟨_, (pss_cons (ps_if (pt_cmpR op_notIn_seq (pe_ix ix_tup (pv 1) pe_int (fun _ _ => rfl)) (pv 3) (by rfl))
      (pss_one (ps_ret (pe_tup (pa_cons pe_str (pa_cons (pe_ix ix_tup (pv 1) pe_int (fun _ _ => rfl)) pa_nil))))) pss_nil)
    (pss_cons (ps_if (pt_not (pt_val (pe_call D_law_is_letter.ok (hr.mono (by omega)) rfl D_law_is_letter.g D_law_is_letter.kp D_law_is_letter.b .nil pass0 (pa_cons (pe_ix ix_tup (pv 1) pe_int (fun _ _ => rfl)) pa_nil))))
      (pss_one (ps_ret (pe_tup (pa_cons pe_str (pa_cons (pe_ix ix_tup (pv 1) pe_int (fun _ _ => rfl)) pa_nil))))) pss_nil)
    (pss_cons (ps_if (pt_cmpR op_eq (pe_callB call_len_seq rfl M.len PySem.boot_len (pa_cons (pv 2) pa_nil)) pe_int (nomark _))
      (pss_one (ps_ret (pe_tup (pa_cons pe_str (pa_cons pe_int pa_nil))))) pss_nil)
    (pss_one (ps_ret (pe_tup (pa_cons pe_str (pa_cons (pe_call D_law_grafted.ok (hr.mono (by omega)) rfl D_law_grafted.g D_law_grafted.kp D_law_grafted.b .nil pass0 (pa_cons (pv 0) (pa_cons (pe_ix ix_tup (pv 1) pe_int (fun _ _ => rfl)) (pa_cons (pe_tup (pa_cons pe_non (pa_cons (pe_ix ix_tup (pv 1) pe_int (fun _ _ => rfl)) (pa_cons pe_non pa_nil)))) pa_nil)))) pa_nil)))))))), ?_⟩
  have eq : H q = some (.tup [.str "put", .str (px p), .str (ch c)]) := eq
  have hql := t.at_size p hat
  refine ⟨_, rfl, q, _, 1, _, rfl, rfl, SqT.of eq, atI_nat (j := 1) rfl, _, rfl, B', _, rfl, .inl (SqL.of eB), rfl, flat_px _, _, rfl, ?_⟩
  rw [inV_px, decide_eq_true (B.ops_at.mpr hat)]
  refine iteF ?_
  refine ⟨_, rfl, q, _, 2, _, rfl, rfl, SqT.of eq, atI_nat (j := 2) rfl, [c], rfl, Nat.le_refl _, _, rfl, ?_⟩
  have e1 : isLt [c] = true := hc
  rw [e1]
  refine iteF ⟨_, rfl, A, _, rfl, .inl (SqL.of eA), rfl, _, rfl, ?_⟩
  rw [List.length_map, B.nds_len]
  by_cases h12 : t.size = 12
  · rw [show decide (V.int (t.size : Int) = V.int 12) = true from decide_eq_true (by rw [h12]; rfl)]
    refine iteT ⟨(by show 2 ≤ sizeLine; decide), fun r nr => k r _ (same_new nr _) (.inr ⟨fun t' d => ?_, _, _, w7, upd_same⟩)⟩
    cases d with
    | put _ _ hh => omega
  · rw [show decide (V.int (t.size : Int) = V.int 12) = false from decide_eq_false fun z => h12 (by have := V.int.inj z; omega)]
    refine iteF ⟨_, rfl, _, rfl, q, _, 1, _, rfl, rfl, SqT.of eq, atI_nat (j := 1) rfl, _, rfl, q, _, 2, _, rfl, rfl, SqT.of eq, atI_nat (j := 2) rfl, (by show 3 ≤ sizeLine; decide), fun r nr => ?_⟩
    have k2 := same_new nr (.tup [.non, .str (ch c), .non])
    refine ⟨v, .ref r, t, .node .nil c .nil, p, rfl, ht.same k2, .node upd_same .nil .nil, by omega, by omega, by rw [hat]; rfl, fun v' H2 s2 h2 => ?_⟩
    refine ⟨(by show 2 ≤ sizeLine; decide), fun r2 nr2 => ?_⟩
    have k3 := same_new nr2 (.tup [.str "state", v'])
    exact k r2 _ (k2.trans (s2.trans k3)) (.inl ⟨_, v', .put hat hc (by omega), upd_same, h2.same k3⟩)
theorem ok_dueL (F : Fun K "_law_due" "_law_due" s__law_due f fd) (M : Mgs mg) (D_law_paths : Df P w K mg base 1 "_law_paths" ["_law_tree_here"] spPaths) (D_law_due_put : Df P w K mg base 21 "_law_due_put" ["_law_tree_here", "_law_edit", "_law_nodes", "_law_opens"] spDueP) (D_law_part : Df P w K mg base 1 "_law_part" ["_law_tree_here", "_law_path"] spPart) (D_law_is_letter : Df P w K mg base 1 "_law_is_letter" ["_law_value"] spLow) (D_law_swapped : Df P w K mg base 20 "_law_swapped" ["_law_tree_here"] (spMir 20)) (D_law_grafted : Df P w K mg base 20 "_law_grafted" ["_law_tree_here", "_law_path", "_law_part_here"] (spWith 20)) :
    FnOk P w K mg base CX0 22 f fd ["_law_tree_here", "_law_edit"] spDueL := by
  refine F.ok (k := 21) sc__law_due (fun vs H Q E h => ?_) (fun cdv A outer s H vs Q E hr h => ?_)
  · obtain ⟨v, t, q, e, rfl, _⟩ := h
    rfl
  obtain ⟨v, t, q, e, rfl, ht, hz, eq, hd, k⟩ := h
  refine ⟨_, (pss_cons (ps_asg (pe_tup (pa_cons (pe_ix ix_tup (pv 1) pe_int (fun _ _ => rfl)) (pa_cons (pe_call D_law_paths.ok (hr.mono (by omega)) rfl D_law_paths.g D_law_paths.kp D_law_paths.b .nil pass0 (pa_cons (pv 0) pa_nil)) pa_nil))) (pg_tup rfl (pgs_cons (pg_name (i := 2) sc__law_due.nd rfl (.inl rfl)) (pgs_cons (pg_tup rfl (pgs_cons (pg_name (i := 3) sc__law_due.nd rfl (.inl rfl)) (pgs_cons (pg_name (i := 4) sc__law_due.nd rfl (.inl rfl)) pgs_nil))) pgs_nil))))
    (pss_cons (ps_if (pt_cmpR op_eq (pe_ix ix_tup (pv 1) pe_int (fun _ _ => rfl)) pe_str (nomark _))
      (pss_one (ps_ret (pe_call D_law_due_put.ok (hr.mono (by omega)) rfl D_law_due_put.g D_law_due_put.kp D_law_due_put.b .nil pass0 (pa_cons (pv 0) (pa_cons (pv 1) (pa_cons (pv 3) (pa_cons (pv 4) pa_nil))))))) pss_nil)
    (pss_cons (ps_if (pt_cmpR op_notIn_seq (pv 2) (pv 3) (by rfl))
      (pss_one (ps_ret (pe_tup (pa_cons pe_str (pa_cons (pv 2) pa_nil))))) pss_nil)
    (pss_cons (ps_set (i := 5) sc__law_due.nd rfl (.inl rfl) (pe_call D_law_part.ok (hr.mono (by omega)) rfl D_law_part.g D_law_part.kp D_law_part.b .nil pass0 (pa_cons (pv 0) (pa_cons (pv 2) pa_nil))))
    (pss_cons (ps_if (pt_cmpR op_eq (pe_ix ix_tup (pv 1) pe_int (fun _ _ => rfl)) pe_str (nomark _))
      (pss_one (ps_ret (pe_ifExp (pt_cmpR op_eq (pv 2) pe_str (nomark _)) (pe_tup (pa_cons pe_str pa_nil)) (pe_tup (pa_cons pe_str (pa_cons (pe_call D_law_grafted.ok (hr.mono (by omega)) rfl D_law_grafted.g D_law_grafted.kp D_law_grafted.b .nil pass0 (pa_cons (pv 0) (pa_cons (pv 2) (pa_cons pe_non pa_nil)))) pa_nil)))))) pss_nil)
    (pss_cons (ps_if (pt_cmpR op_eq (pe_ix ix_tup (pv 1) pe_int (fun _ _ => rfl)) pe_str (nomark _))
      (pss_one (ps_ret (pe_tup (pa_cons pe_str (pa_cons (pe_call D_law_grafted.ok (hr.mono (by omega)) rfl D_law_grafted.g D_law_grafted.kp D_law_grafted.b .nil pass0 (pa_cons (pv 0) (pa_cons (pv 2) (pa_cons (pe_call D_law_swapped.ok (hr.mono (by omega)) rfl D_law_swapped.g D_law_swapped.kp D_law_swapped.b .nil pass0 (pa_cons (pv 5) pa_nil)) pa_nil)))) pa_nil))))) pss_nil)
    (pss_cons (ps_if (pt_not (pt_val (pe_call D_law_is_letter.ok (hr.mono (by omega)) rfl D_law_is_letter.g D_law_is_letter.kp D_law_is_letter.b .nil pass0 (pa_cons (pe_ix ix_tup (pv 1) pe_int (fun _ _ => rfl)) pa_nil))))
      (pss_one (ps_ret (pe_tup (pa_cons pe_str (pa_cons (pe_ix ix_tup (pv 1) pe_int (fun _ _ => rfl)) pa_nil))))) pss_nil)
    (pss_one (ps_ret (pe_tup (pa_cons pe_str (pa_cons (pe_call D_law_grafted.ok (hr.mono (by omega)) rfl D_law_grafted.g D_law_grafted.kp D_law_grafted.b .nil pass0 (pa_cons (pv 0) (pa_cons (pv 2) (pa_cons (pe_tup (pa_cons (pe_ix ix_tup (pv 5) pe_int (fun _ _ => rfl)) (pa_cons (pe_ix ix_tup (pv 1) pe_int (fun _ _ => rfl)) (pa_cons (pe_ix ix_tup (pv 5) pe_int (fun _ _ => rfl)) pa_nil)))) pa_nil)))) pa_nil)))))))))))), ?_⟩
  have eq1 : H q = some (.tup (.str e.word :: .str (px e.path) :: e.more)) := by rw [eq, e.vals_eq]
  refine ⟨_, rfl, q, _, 1, _, rfl, rfl, SqT.of eq1, atI_nat (j := 1) rfl, _, rfl, v, t, rfl, ht, hz, fun pa A B' H1 s1 np nA nB ep eA eB => ⟨(by show 2 ≤ sizeLine; decide), fun tp ntp => ?_⟩⟩
  have k2 := same_new ntp (.tup [.str (px e.path), .ref pa])
  have et := upd_same (H := H1) (a := tp) (o := .tup [.str (px e.path), .ref pa])
  have s2 := s1.trans k2
  have ep2 := k2 _ _ ep
  have eA2 := k2 _ _ eA
  have eB2 := k2 _ _ eB
  have ht2 := ht.same s2
  have eq2 := s2 _ _ eq1
  generalize upd H1 tp (.tup [.str (px e.path), .ref pa]) = H2 at k2 et s2 ep2 eA2 eB2 ht2 eq2 ⊢
  refine ⟨tp, _, rfl, SqT.of et, rfl, _, _, rfl, _, _, rfl, pa, _, rfl, SqT.of ep2, rfl, _, _, rfl, _, _, rfl, rfl, rfl, ?_⟩
  refine ⟨_, rfl, q, _, 0, _, rfl, rfl, SqT.of eq2, atI_nat (j := 0) rfl, rfl, _, rfl, ?_⟩
  have st : ∀ {t' : B} {v' : V} {H3 : Hp}, Does t e t' → Same H2 H3 → BAt H3 v' t' → ∀ r, H3 r = none → Q (.ref r) (upd H3 r (.tup [.str "state", v'])) := fun d s3 b r nr => k r _ (s2.trans (s3.trans (same_new nr _))) (.inl ⟨_, _, d, upd_same, b.same (same_new nr _)⟩)
  cases e with
  | put p c =>
    obtain ⟨hat, hc⟩ := hd
    exact iteS rfl ⟨_, rfl, _, rfl, _, rfl, _, rfl, v, t, q, A, B', p, c, rfl, ht2, hz, eq2, hat, hc, eA2, eB2, fun r H3 s3 h => k r H3 (s2.trans s3) h⟩
  | cut p =>
    obtain ⟨u, hat, hu⟩ := hd
    have hql := t.at_size p hat
    refine iteR w1 ⟨_, rfl, _, rfl, A, _, rfl, .inl (SqL.of eA2), rfl, flat_px _, _, rfl, ?_⟩
    rw [show inV (V.str (px (Ed.cut p).path)) _ = true from (inV_px p _).trans (decide_eq_true (B.nds_at.mpr ⟨u, hat, hu⟩))]
    refine iteF ⟨_, rfl, _, rfl, v, t, u, p, rfl, ht2, hat, by omega, fun vu H3 s3 hu3 => ?_⟩
    refine ⟨_, rfl, q, _, 0, _, rfl, rfl, SqT.of (s3 _ _ eq2), atI_nat (j := 0) rfl, rfl, _, rfl, iteS rfl ?_⟩
    refine ⟨_, rfl, rfl, _, rfl, ?_⟩
    cases p with
    | nil =>
      refine iteS px_nil ⟨(by show 1 ≤ sizeLine; decide), fun r nr => k r _ (s2.trans (s3.trans (same_new nr _))) (.inr ⟨fun t' d => ?_, _, _, w8, upd_same⟩)⟩
      cases d with
      | cut _ _ h => exact h rfl
    | cons b p =>
      refine iteR (fun z => by rw [← px_nil] at z; cases px_inj z) ?_
      refine ⟨_, rfl, _, rfl, v, .non, t, .nil, b :: p, rfl, ht2.same s3, .nil, by omega, by omega, by rw [hat]; rfl, fun v' H4 s4 b4 => ⟨(by show 2 ≤ sizeLine; decide), fun r nr => ?_⟩⟩
      exact st (.cut hat hu (by simp)) (s3.trans s4) b4 r nr
  | turn p =>
    obtain ⟨u, hat, hu⟩ := hd
    have hql := t.at_size p hat
    refine iteR w3 ⟨_, rfl, _, rfl, A, _, rfl, .inl (SqL.of eA2), rfl, flat_px _, _, rfl, ?_⟩
    rw [show inV (V.str (px (Ed.turn p).path)) _ = true from (inV_px p _).trans (decide_eq_true (B.nds_at.mpr ⟨u, hat, hu⟩))]
    refine iteF ⟨_, rfl, _, rfl, v, t, u, p, rfl, ht2, hat, by omega, fun vu H3 s3 hu3 => ?_⟩
    refine ⟨_, rfl, q, _, 0, _, rfl, rfl, SqT.of (s3 _ _ eq2), atI_nat (j := 0) rfl, rfl, _, rfl, iteR w5 ?_⟩
    refine ⟨_, rfl, q, _, 0, _, rfl, rfl, SqT.of (s3 _ _ eq2), atI_nat (j := 0) rfl, rfl, _, rfl, iteS rfl ?_⟩
    refine ⟨_, rfl, _, rfl, _, rfl, vu, u, rfl, hu3, by omega, fun vm H4 s4 b4 => ?_⟩
    refine ⟨v, vm, t, u.mir, p, rfl, ht2.same (s3.trans s4), b4, by omega, by omega, by rw [hat]; rfl, fun v' H5 s5 b5 => ⟨(by show 2 ≤ sizeLine; decide), fun r nr => ?_⟩⟩
    exact st (.turn hat hu) (s3.trans (s4.trans s5)) b5 r nr
  | label p c =>
    obtain ⟨⟨u, hat, hu⟩, hc⟩ := hd
    have hql := t.at_size p hat
    refine iteR w2 ⟨_, rfl, _, rfl, A, _, rfl, .inl (SqL.of eA2), rfl, flat_px _, _, rfl, ?_⟩
    rw [show inV (V.str (px (Ed.label p c).path)) _ = true from (inV_px p _).trans (decide_eq_true (B.nds_at.mpr ⟨u, hat, hu⟩))]
    refine iteF ⟨_, rfl, _, rfl, v, t, u, p, rfl, ht2, hat, by omega, fun vu H3 s3 hu3 => ?_⟩
    refine ⟨_, rfl, q, _, 0, _, rfl, rfl, SqT.of (s3 _ _ eq2), atI_nat (j := 0) rfl, rfl, _, rfl, iteR w4 ?_⟩
    refine ⟨_, rfl, q, _, 0, _, rfl, rfl, SqT.of (s3 _ _ eq2), atI_nat (j := 0) rfl, rfl, _, rfl, iteR w6 ?_⟩
    refine ⟨_, rfl, q, _, 2, _, rfl, rfl, SqT.of (s3 _ _ eq2), atI_nat (j := 2) rfl, [c], rfl, Nat.le_refl _, _, rfl, ?_⟩
    have e1 : isLt [c] = true := hc
    rw [e1]
    rcases hu3.inv with ⟨_, rfl⟩ | ⟨b, vl, vr, x, tl, tr, rfl, rfl, eb, hl, hr'⟩
    · exact absurd rfl hu
    refine iteF ⟨_, rfl, _, rfl, _, rfl, b, _, 0, vl, rfl, rfl, SqT.of eb, atI_nat (j := 0) rfl, _, rfl, q, _, 2, _, rfl, rfl, SqT.of (s3 _ _ eq2), atI_nat (j := 2) rfl, _, rfl, b, _, 2, vr, rfl, rfl, SqT.of eb, atI_nat (j := 2) rfl, (by show 3 ≤ sizeLine; decide), fun r nr => ?_⟩
    have k4 := same_new nr (.tup [vl, .str (ch c), vr])
    refine ⟨v, .ref r, t, .node tl c tr, p, rfl, ht2.same (s3.trans k4), .node upd_same (hl.same k4) (hr'.same k4), by omega, by omega, by rw [hat]; rfl, fun v' H5 s5 b5 => ⟨(by show 2 ≤ sizeLine; decide), fun r nr => ?_⟩⟩
    exact st (.label hat hc) (s3.trans (k4.trans s5)) b5 r nr
end
/-! ### an edit done, an edit drawn -/
def spSome : Sp := fun vs H Q _ => ∃ (s : Addr) (n : Nat) (v : V) (t : B), vs = [.ref s, v, .int 13] ∧ Strm H s n ∧ n ≤ 900000 ∧ BAt H v t ∧ 1 ≤ t.size ∧ t.size ≤ 12 ∧ ∀ (q : Addr) (e : Ed) (n' : Nat) (H' : Hp), H' q = some (.tup e.vals) → Drawn t e → Strm H' s n' → n' ≤ n + 10 → But s H H' → Q (.ref q) H'
def spValid : Sp := fun vs H Q _ => ∃ (s : Addr) (n : Nat) (v : V) (t : B), vs = [.ref s, v, .int 13] ∧ Strm H s n ∧ n ≤ 800000 ∧ BAt H v t ∧ 1 ≤ t.size ∧ t.size ≤ 12 ∧ ∀ (q : Addr) (e : Ed) (t' : B) (n' : Nat) (H' : Hp), H' q = some (.tup e.vals) → Drawn t e → Does t e t' → Strm H' s n' → n' ≤ n + 60 → But s H H' → Q (.ref q) H'
theorem okN {P : Program} {w : World} {K : PySem.W.Frag} {mg : Str → Option Value} {base : Heap} {x qual : Str} {params : Arguments} {body : List Stmt} {scope : Scope} {dvs : List V} {kws : List (Str × V)} {f : Addr} {fd : FuncData} {N ps : List Str} {k : Nat} {sp : Sp} (F : FunD K x qual params body scope dvs kws f fd) (S : FnScope N ps scope) (len : ∀ vs H Q E, sp vs H Q E → vs.length = ps.length)
    (hbody : ∀ (cdv : Value) (A : Around) (outer : List Env) (s : Shared) (H : Hp) (vs : List V) (Q : VK) (E : XK), Room k (A.deeper (envOfC qual scope s.heap.objs.size f cdv)) → sp vs H Q E →
      ∃ t, PSs (cxOf CX0 P w K mg base N qual scope f cdv A outer s H E).nox body t ∧ t { nx := fun _ H' => Q .non H', rt := Q } (start N vs) H) : FnOk P w K mg base CX0 (k + 1) f fd ps sp :=
  F.ok (CX := CX0) S len fun cdv A outer s H vs Q E hr h => by
    obtain ⟨t, h1, h2⟩ := hbody cdv A outer s H vs Q E hr h
    exact ⟨t, h1.nox, h2⟩
theorem inl_state {H : Hp} {t : B} {e : Ed} {r : Addr} (d : DueAt H t e r) : ∃ x xs, H r = some (.tup (.str x :: xs)) ∧ (x = Str.ofString "state" → ∃ t', Does t e t') := by
  rcases d with ⟨t', v', d, h, _⟩ | ⟨_, x, xs, n, h⟩
  · exact ⟨_, _, h, fun _ => ⟨t', d⟩⟩
  · exact ⟨x, xs, h, fun z => absurd z n⟩
section
variable {P : Program} {w : World} {K : PySem.W.Frag} {mg : Str → Option Value} {base : Heap} {f : Addr} {fd : FuncData} {C : Addr}
theorem ok_doL (F : Fun K "_law_do" "_law_do" s__law_do f fd) (TD : DeskC K mg C) (Dput : MDf P w K mg base C 26 "put" ["self", "path", "label"] (spDo C isPut)) (Dcut : MDf P w K mg base C 26 "cut" ["self", "path"] (spDo C isCut)) (Dlabel : MDf P w K mg base C 26 "label" ["self", "path", "label"] (spDo C isLab)) (Dturn : MDf P w K mg base C 26 "turn" ["self", "path"] (spDo C isTur)) :
    FnOk P w K mg base CX0 27 f fd ["_law_desk", "_law_edit"] (spCalled C) := by
  refine F.ok (k := 26) sc__law_do (fun vs H Q E h => ?_) (fun cdv A outer s H vs Q E hr h => ?_)
  · obtain ⟨a, q, ts, t, t', es, e, rfl, _⟩ := h
    rfl
  obtain ⟨a, qe, ts, t, t', es, e, rfl, dk, he, hd, h60, hts, hl, hz, hn, q⟩ := h
  obtain ⟨dx, ta, td, vs, u, ds, h1, _⟩ := id dk
  refine ⟨_, (pss_cons (ps_if (pt_cmpR op_eq (pe_ix ix_tup (pv 1) pe_int (fun _ _ => rfl)) pe_str (nomark _))
      (pss_one (ps_ret (pe_meth (pv 0) TD.cl Dput.at_ Dput.ok (hr.mono (by omega)) Dput.b .nil pass0 (pa_cons (pe_ix ix_tup (pv 1) pe_int (fun _ _ => rfl)) (pa_cons (pe_ix ix_tup (pv 1) pe_int (fun _ _ => rfl)) pa_nil))))) pss_nil)
    (pss_cons (ps_if (pt_cmpR op_eq (pe_ix ix_tup (pv 1) pe_int (fun _ _ => rfl)) pe_str (nomark _))
      (pss_one (ps_ret (pe_meth (pv 0) TD.cl Dcut.at_ Dcut.ok (hr.mono (by omega)) Dcut.b .nil pass0 (pa_cons (pe_ix ix_tup (pv 1) pe_int (fun _ _ => rfl)) pa_nil)))) pss_nil)
    (pss_one (ps_ret (pe_ifExp (pt_cmpR op_eq (pe_ix ix_tup (pv 1) pe_int (fun _ _ => rfl)) pe_str (nomark _)) (pe_meth (pv 0) TD.cl Dlabel.at_ Dlabel.ok (hr.mono (by omega)) Dlabel.b .nil pass0 (pa_cons (pe_ix ix_tup (pv 1) pe_int (fun _ _ => rfl)) (pa_cons (pe_ix ix_tup (pv 1) pe_int (fun _ _ => rfl)) pa_nil))) (pe_meth (pv 0) TD.cl Dturn.at_ Dturn.ok (hr.mono (by omega)) Dturn.b .nil pass0 (pa_cons (pe_ix ix_tup (pv 1) pe_int (fun _ _ => rfl)) pa_nil))))))), ?_⟩
  have he : H qe = some (.tup (.str e.word :: .str (px e.path) :: e.more)) := by rw [he, e.vals_eq]
  have nl : ∀ {m : Str} (vt vd vb : V), (m == ("trees" : Str)) = false → (m == ("done" : Str)) = false → (m == ("busy" : Str)) = false → (deskF vt vd vb).lookup m = none := no_look
  refine ⟨_, rfl, qe, _, 0, _, rfl, rfl, SqT.of he, atI_nat (j := 0) rfl, rfl, _, rfl, ?_⟩
  cases e with
  | put p c =>
    exact iteS rfl ⟨_, rfl, a, dx, _, rfl, h1, nl _ _ _ (by decide +kernel) (by decide +kernel) (by decide +kernel), _, rfl, qe, _, 1, _, rfl, rfl, SqT.of he, atI_nat (j := 1) rfl, _, rfl, qe, _, 2, _, rfl, rfl, SqT.of he, atI_nat (j := 2) rfl, a, ts, t, t', es, .put p c, rfl, trivial, dk, hd, h60, hts, hl, hz, hn, q⟩
  | cut p =>
    refine iteR w1 ⟨_, rfl, qe, _, 0, _, rfl, rfl, SqT.of he, atI_nat (j := 0) rfl, rfl, _, rfl, ?_⟩
    exact iteS rfl ⟨_, rfl, a, dx, _, rfl, h1, nl _ _ _ (by decide +kernel) (by decide +kernel) (by decide +kernel), _, rfl, qe, _, 1, _, rfl, rfl, SqT.of he, atI_nat (j := 1) rfl, a, ts, t, t', es, .cut p, rfl, trivial, dk, hd, h60, hts, hl, hz, hn, q⟩
  | label p c =>
    refine iteR w2 ⟨_, rfl, qe, _, 0, _, rfl, rfl, SqT.of he, atI_nat (j := 0) rfl, rfl, _, rfl, ?_⟩
    refine iteR w4 ⟨_, rfl, qe, _, 0, _, rfl, rfl, SqT.of he, atI_nat (j := 0) rfl, rfl, _, rfl, ?_⟩
    exact iteS rfl ⟨_, rfl, a, dx, _, rfl, h1, nl _ _ _ (by decide +kernel) (by decide +kernel) (by decide +kernel), _, rfl, qe, _, 1, _, rfl, rfl, SqT.of he, atI_nat (j := 1) rfl, _, rfl, qe, _, 2, _, rfl, rfl, SqT.of he, atI_nat (j := 2) rfl, a, ts, t, t', es, .label p c, rfl, trivial, dk, hd, h60, hts, hl, hz, hn, q⟩
  | turn p =>
    refine iteR w3 ⟨_, rfl, qe, _, 0, _, rfl, rfl, SqT.of he, atI_nat (j := 0) rfl, rfl, _, rfl, ?_⟩
    refine iteR w5 ⟨_, rfl, qe, _, 0, _, rfl, rfl, SqT.of he, atI_nat (j := 0) rfl, rfl, _, rfl, ?_⟩
    exact iteR w9 ⟨_, rfl, a, dx, _, rfl, h1, nl _ _ _ (by decide +kernel) (by decide +kernel) (by decide +kernel), _, rfl, qe, _, 1, _, rfl, rfl, SqT.of he, atI_nat (j := 1) rfl, a, ts, t, t', es, .turn p, rfl, trivial, dk, hd, h60, hts, hl, hz, hn, q⟩
theorem ok_some (F : FunD K "_law_some_edit" "_law_some_edit" (defArgs s__law_some_edit) (defBody s__law_some_edit) (defScope s__law_some_edit) [.int 13] [] f fd) (M : Mgs mg) (D_law_take : Df P w K mg base 1 "_law_take" ["_law_stream_here", "_law_many"] spTake1) (D_law_letter : Df P w K mg base 2 "_law_letter" ["_law_stream_here"] spLetter1) (D_law_paths : Df P w K mg base 1 "_law_paths" ["_law_tree_here"] spPaths) :
    FnOk P w K mg base CX0 3 f fd ["_law_stream_here", "_law_tree_here", "_law_top"] spSome := by
  refine okN F (k := 2) sc__law_some_edit (fun vs H Q E h => ?_) (fun cdv A outer s H vs Q E hr h => ?_)
  · obtain ⟨sa, n, v, t, rfl, _⟩ := h
    rfl
  obtain ⟨sa, n, v, t, rfl, st, hn, ht, z0, z1, q⟩ := h
  refine ⟨_, (pss_cons (ps_asg (pe_tup (pa_cons (pe_call D_law_paths.ok (hr.mono (by omega)) rfl D_law_paths.g D_law_paths.kp D_law_paths.b .nil pass0 (pa_cons (pv 1) pa_nil)) (pa_cons (pe_call D_law_take.ok (hr.mono (by omega)) rfl D_law_take.g D_law_take.kp D_law_take.b .nil pass0 (pa_cons (pv 0) (pa_cons pe_int pa_nil))) pa_nil))) (pg_tup rfl (pgs_cons (pg_tup rfl (pgs_cons (pg_name (i := 3) sc__law_some_edit.nd rfl (.inl rfl)) (pgs_cons (pg_name (i := 4) sc__law_some_edit.nd rfl (.inl rfl)) pgs_nil))) (pgs_cons (pg_name (i := 5) sc__law_some_edit.nd rfl (.inl rfl)) pgs_nil))))
    (pss_cons (ps_par (i := 6) (j := 7) (by rfl) sc__law_some_edit.nd rfl rfl (by decide) rfl rfl (pa_cons (pe_ix ix_list (pv 3) (pe_call D_law_take.ok (hr.mono (by omega)) rfl D_law_take.g D_law_take.kp D_law_take.b .nil pass0 (pa_cons (pv 0) (pa_cons (pe_callB call_len_seq rfl M.len PySem.boot_len (pa_cons (pv 3) pa_nil)) pa_nil))) (fun _ _ => rfl)) (pa_cons (pe_call D_law_letter.ok (hr.mono (by omega)) rfl D_law_letter.g D_law_letter.kp D_law_letter.b .nil pass0 (pa_cons (pv 0) pa_nil)) pa_nil)) (by rfl))
    (pss_cons (ps_if (PW.pt (pw_and (pt_cmpR op_lt (pv 5) pe_int (nomark _)) (pw_and1 (pt_cmpR op_lt (pe_callB call_len_seq rfl M.len PySem.boot_len (pa_cons (pv 3) pa_nil)) (pv 2) (nomark _)))))
      (pss_one (ps_ret (pe_tup (pa_cons pe_str (pa_cons (pe_ix ix_list (pv 4) (pe_call D_law_take.ok (hr.mono (by omega)) rfl D_law_take.g D_law_take.kp D_law_take.b .nil pass0 (pa_cons (pv 0) (pa_cons (pe_callB call_len_seq rfl M.len PySem.boot_len (pa_cons (pv 4) pa_nil)) pa_nil))) (fun _ _ => rfl)) (pa_cons (pv 7) pa_nil)))))) pss_nil)
    (pss_cons (ps_if (pt_cmpR op_eq (pv 5) pe_int (nomark _))
      (pss_one (ps_ret (pe_tup (pa_cons pe_str (pa_cons (pv 6) pa_nil))))) pss_nil)
    (pss_one (ps_ret (pe_ifExp (pt_cmpR op_lt (pv 5) pe_int (nomark _)) (pe_tup (pa_cons pe_str (pa_cons (pv 6) (pa_cons (pv 7) pa_nil)))) (pe_tup (pa_cons pe_str (pa_cons (pv 6) pa_nil)))))))))), ?_⟩
  refine ⟨_, rfl, v, t, rfl, ht, z1, fun pa A B' H1 s1 np nA nB ep eA eB => ?_⟩
  have st1 := st.same s1
  refine ⟨_, rfl, sa, n, 8, rfl, st1, by omega, by decide, by decide, fun wy n2 H2 l2 st2 hn2 bu2 => ⟨(by show 2 ≤ sizeLine; decide), fun tp ntp => ?_⟩⟩
  obtain ⟨xs0, es0⟩ := st.lst
  have ne : ∀ {x : Addr}, H x = none → x ≠ sa := fun e z => by rw [z, es0] at e; cases e
  have k3 := same_new ntp (.tup [.ref pa, .int (wy : Int)])
  have et := upd_same (H := H2) (a := tp) (o := .tup [.ref pa, .int (wy : Int)])
  have ep3 := k3 _ _ (bu2 _ _ (ne np) ep)
  have eA3 := k3 _ _ (bu2 _ _ (ne nA) eA)
  have eB3 := k3 _ _ (bu2 _ _ (ne nB) eB)
  have st3 := st2.same k3
  have bu3 : But sa H _ := (But.of s1).trans (bu2.trans (But.of k3))
  generalize upd H2 tp (.tup [.ref pa, .int (wy : Int)]) = H3 at et ep3 eA3 eB3 st3 bu3 ⊢
  refine ⟨tp, _, rfl, SqT.of et, rfl, _, _, rfl, pa, _, rfl, SqT.of ep3, rfl, _, _, rfl, _, _, rfl, rfl, _, _, rfl, rfl, ?_⟩
  refine ⟨_, rfl, _, rfl, _, rfl, A, _, rfl, .inl (SqL.of eA3), sa, n2, _, rfl, st3, by omega, by rw [List.length_map, B.nds_len]; omega, by rw [List.length_map, B.nds_len]; omega, fun j n4 H4 l4 st4 hn4 bu4 => ?_⟩
  rw [List.length_map, B.nds_len] at l4
  have hj : j < (t.nds []).length := by rw [B.nds_len]; omega
  have eA4 := bu4 _ _ (ne nA) eA3
  have eB4 := bu4 _ _ (ne nB) eB3
  refine ⟨A, _, _, V.str (px ((t.nds [])[j]'hj)), rfl, rfl, SqL.of eA4, atI_nat (by rw [List.getElem?_map, List.getElem?_eq_getElem hj]; rfl), ?_⟩
  have hnode := B.nds_at.mp (List.getElem_mem hj)
  generalize (t.nds [])[j]'hj = p at hnode ⊢
  refine ⟨_, rfl, sa, n4, rfl, st4, by omega, fun c n5 H5 hc st5 hn5 bu5 => ⟨_, _, rfl, ?_⟩⟩
  have eA5 := bu5 _ _ (ne nA) eA4
  have eB5 := bu5 _ _ (ne nB) eB4
  have bu := bu3.trans (bu4.trans bu5)
  have fin : ∀ (e : Ed) (r : Addr), H5 r = none → Drawn t e → Q (.ref r) (upd H5 r (.tup e.vals)) := fun e r nr d => q r e n5 _ upd_same d (st5.same (same_new nr _)) (by omega) (bu.trans (But.of (same_new nr _)))
  refine ⟨_, rfl, _, _, rfl, rfl, _, rfl, ite2 (fun _ => ?_) (fun _ => ?_)⟩
  · refine ⟨_, rfl, A, _, rfl, .inl (SqL.of eA5), _, rfl, _, _, rfl, rfl, _, rfl, ?_⟩
    rw [List.length_map, B.nds_len, decide_eq_true (show ((t.size : Int) < 13) by omega)]
    refine iteT ⟨_, rfl, _, rfl, _, rfl, B', _, rfl, .inl (SqL.of eB5), sa, n5, _, rfl, st5, by omega, by rw [List.length_map, B.ops_len]; omega, by rw [List.length_map, B.ops_len]; omega, fun i n6 H6 l6 st6 hn6 bu6 => ?_⟩
    rw [List.length_map, B.ops_len] at l6
    have hi : i < (t.ops []).length := by rw [B.ops_len]; omega
    have eB6 := bu6 _ _ (ne nB) eB5
    refine ⟨B', _, _, V.str (px ((t.ops [])[i]'hi)), rfl, rfl, SqL.of eB6, atI_nat (by rw [List.getElem?_map, List.getElem?_eq_getElem hi]; rfl), ?_⟩
    have hop := B.ops_at.mp (List.getElem_mem hi)
    generalize (t.ops [])[i]'hi = p2 at hop ⊢
    refine ⟨_, rfl, (by show 3 ≤ sizeLine; decide), fun r nr => ?_⟩
    exact q r (.put p2 c) n6 _ upd_same ⟨hop, hc⟩ (st6.same (same_new nr _)) (by omega) (bu.trans (bu6.trans (But.of (same_new nr _))))
  · refine ⟨_, rfl, rfl, _, rfl, ite2 (fun _ => ?_) (fun _ => ?_)⟩
    · exact ⟨_, rfl, (by show 2 ≤ sizeLine; decide), fun r nr => fin (.cut p) r nr hnode⟩
    · refine ⟨_, rfl, _, _, rfl, rfl, _, rfl, ite2 (fun _ => ?_) (fun _ => ?_)⟩
      · exact ⟨_, rfl, _, rfl, (by show 3 ≤ sizeLine; decide), fun r nr => fin (.label p c) r nr ⟨hnode, hc⟩⟩
      · exact ⟨_, rfl, (by show 2 ≤ sizeLine; decide), fun r nr => fin (.turn p) r nr hnode⟩
theorem ok_valid (F : FunD K "_law_valid_edit" "_law_valid_edit" (defArgs s__law_valid_edit) (defBody s__law_valid_edit) (defScope s__law_valid_edit) [.int 13] [] f fd) (M : Mgs mg) (D_law_some_edit : Df P w K mg base 3 "_law_some_edit" ["_law_stream_here", "_law_tree_here", "_law_top"] spSome) (D_law_due : Df P w K mg base 22 "_law_due" ["_law_tree_here", "_law_edit"] spDueL) :
    FnOk P w K mg base CX0 23 f fd ["_law_stream_here", "_law_tree_here", "_law_top"] spValid := by
  refine okN F (k := 22) sc__law_valid_edit (fun vs H Q E h => ?_) (fun cdv A outer s H vs Q E hr h => ?_)
  · obtain ⟨sa, n, v, t, rfl, _⟩ := h
    rfl
  obtain ⟨sa, n, v, t, rfl, st, hn, ht, z0, z1, q⟩ := h
  obtain ⟨xs0, es0⟩ := st.lst
  refine ⟨_, (pss_cons (ps_for PassesOwn.never rfl (pi_range1 rfl M.range (pa_cons pe_int pa_nil)) (pg_name (i := 3) sc__law_valid_edit.nd rfl (.inl rfl))
      (pss_cons (ps_set (i := 4) sc__law_valid_edit.nd rfl (.inl rfl) (pe_call D_law_some_edit.ok (hr.mono (by omega)) rfl D_law_some_edit.g D_law_some_edit.kp D_law_some_edit.b .nil pass0 (pa_cons (pv 0) (pa_cons (pv 1) (pa_cons (pv 2) pa_nil)))))
    (pss_one (ps_if (pt_cmpR op_eq (pe_ix ix_tup (pe_call D_law_due.ok (hr.mono (by omega)) rfl D_law_due.g D_law_due.kp D_law_due.b .nil pass0 (pa_cons (pv 1) (pa_cons (pv 4) pa_nil))) pe_int (fun _ _ => rfl)) pe_str (nomark _))
      (pss_one (ps_ret (pv 4))) pss_nil))))
    (pss_one (ps_ret (pe_tup (pa_cons pe_str (pa_cons pe_str pa_nil)))))), ?_⟩
  refine ⟨6, rfl, by decide, by decide, ?_⟩
  refine for_range (lo := 0) (n := 6) (fun i σ H' => ∃ (y3 y4 : Option V) (n' : Nat), σ = [some (.ref sa), some v, some (.int 13), y3, y4] ∧ Strm H' sa n' ∧ n' ≤ n + 10 * i ∧ But sa H H') ⟨none, none, n, rfl, st, by omega, But.refl _ _⟩ (fun i σ H1 hi hp => ?_) (fun σ H1 hp => ?_)
  · obtain ⟨y3, y4, n', rfl, st1, hn1, bu1⟩ := hp
    have ht1 := ht.keep (But.keepL es0 bu1)
    refine ⟨_, rfl, _, rfl, _, rfl, sa, n', v, t, rfl, st1, by omega, ht1, z0, z1, fun qa e n2 H2 he hd st2 hn2 bu2 => ?_⟩
    obtain ⟨xs1, es1⟩ := st1.lst
    have ht2 := ht1.keep (But.keepL es1 bu2)
    refine ⟨_, rfl, _, rfl, v, t, qa, e, rfl, ht2, z1, he, hd, fun r H3 s3 du => ?_⟩
    obtain ⟨x, xs, hx, hst⟩ := inl_state du
    refine ⟨r, _, 0, _, rfl, rfl, SqT.of hx, atI_nat (j := 0) rfl, rfl, _, rfl, ?_⟩
    by_cases hs : x = Str.ofString "state"
    · obtain ⟨t', d⟩ := hst hs
      exact iteS hs ⟨_, rfl, q qa e t' n2 H3 (s3 _ _ he) hd d (st2.same s3) (by omega) (bu1.trans (bu2.trans (But.of s3)))⟩
    · refine iteR hs ?_
      exact ⟨_, _, n2, rfl, st2.same s3, by omega, bu1.trans (bu2.trans (But.of s3))⟩
  · obtain ⟨y3, y4, n', rfl, st1, hn1, bu1⟩ := hp
    refine ⟨(by show 2 ≤ sizeLine; decide), fun r nr => ?_⟩
    have hne : t ≠ .nil := nd_nil.mpr z0
    have hat : t.at [] = some t := by cases t <;> rfl
    exact q r (.turn []) _ n' _ (by rw [upd_same]; show _ = some (HO.tup [.str "turn", .str (px [])]); rw [px_nil]) ⟨t, hat, hne⟩ (.turn hat hne) (st1.same (same_new nr _)) (by omega) (bu1.trans (But.of (same_new nr _)))
end
/-! ### what is seen of a desk -/
def Ed.data : Ed → PyData
  | .put p c => .tuple [.str "put", .str (px p), .str (ch c)]
  | .cut p => .tuple [.str "cut", .str (px p)]
  | .label p c => .tuple [.str "label", .str (px p), .str (ch c)]
  | .turn p => .tuple [.str "turn", .str (px p)]
theorem Ed.dp {K : PySem.W.Frag} {H : Hp} {q : Addr} {e : Ed} (h : H q = some (.tup e.vals)) : Dp K H (.ref q) e.data := by
  cases e <;> first | exact .tup (SqT.of h) (.cons (.str _) (.cons (.str _) (.cons (.str _) .nil))) | exact .tup (SqT.of h) (.cons (.str _) (.cons (.str _) .nil))
theorem DpAll.snoc {K : PySem.W.Frag} {H : Hp} {v : V} {d : PyData} (hv : Dp K H v d) : ∀ {vs : List V} {ds : List PyData}, DpAll K H vs ds → DpAll K H (vs ++ [v]) (ds ++ [d])
  | _, _, .nil => .cons hv .nil
  | _, _, .cons a b => .cons a (DpAll.snoc hv b)
theorem EsAt.dp {K : PySem.W.Frag} {H : Hp} {vs : List V} {es : List Ed} (h : EsAt H vs es) : DpAll K H vs (es.map Ed.data) := by
  induction h with
  | nil => exact .nil
  | snoc _ b ih =>
    rw [List.map_append]
    exact DpAll.snoc (Ed.dp b) ih
def dSeen (t : B) (es : List Ed) : PyData := .tuple [t.data, .tuple (es.map Ed.data), .int (es.length : Int), .str (dtext t.size es.length), .int (es.length : Int), .int (t.size : Int), .str (tx (t.wk .first)), .str (tx (t.wk .between)), .str (tx (t.wk .last))]
theorem ok_t (xs : List PyData) : okR (.tuple xs) = okRs xs := by simp only [okR]
theorem ok_c (x : PyData) (xs : List PyData) : okRs (x :: xs) = (okR x && okRs xs) := by simp only [okRs]
theorem ok_e : okRs [] = true := by simp only [okRs]
theorem wt_t (xs : List PyData) : wtR (.tuple xs) = 3 + wtRs xs := by simp only [wtR]
theorem wt_c (x : PyData) (xs : List PyData) : wtRs (x :: xs) = wtR x + 2 + wtRs xs := by simp only [wtRs]
theorem wt_e : wtRs [] = 0 := by simp only [wtRs]
theorem dp_t (xs : List PyData) : (PyData.tuple xs).depth = PyData.depthAll xs + 1 := by simp only [PyData.depth]
theorem dp_c (x : PyData) (xs : List PyData) : PyData.depthAll (x :: xs) = max x.depth (PyData.depthAll xs) := by simp only [PyData.depthAll]
theorem dp_e : PyData.depthAll [] = 0 := by simp only [PyData.depthAll]
theorem dp_s (x : Str) : (PyData.str x).depth = 0 := by simp only [PyData.depth]
theorem dp_i (x : Int) : (PyData.int x).depth = 0 := by simp only [PyData.depth]
theorem wt_i (x : Int) : wtR (.int x) = 31 := by simp only [wtR]
theorem ok_i {n : Nat} (h : n < 64) : okR (.int (n : Int)) = true := by
  simp only [okR, Bool.and_eq_true, decide_eq_true_eq]
  omega
def Ed.fine (e : Ed) : Prop := okR e.data = true ∧ wtR e.data ≤ 300 ∧ e.data.depth ≤ 2
theorem low_lt {c : Nat} (h : isLow c = true) : c < 128 := by
  simp only [isLow, Bool.and_eq_true, decide_eq_true_eq] at h
  omega
theorem px_ok {p : List Bool} (h : p.length ≤ 12) : okR (.str (px p)) = true ∧ wtR (.str (px p)) ≤ 122 := by
  have e : (px p).cps.toList = p.map dir := rfl
  simp only [okR, wtR, Bool.and_eq_true, decide_eq_true_eq, List.all_eq_true, px_len]
  refine ⟨⟨by omega, fun c hc => ?_⟩, by omega⟩
  rw [e] at hc
  obtain ⟨b, _, rfl⟩ := List.mem_map.mp hc
  cases b <;> decide
theorem tx_ok {l : List Nat} (h : l.length ≤ 12) (hl : ∀ c ∈ l, isLow c = true) : okR (.str (tx l)) = true ∧ wtR (.str (tx l)) ≤ 122 := by
  have e : (tx l).cps.toList = l := rfl
  simp only [okR, wtR, Bool.and_eq_true, decide_eq_true_eq, List.all_eq_true, tx_len]
  refine ⟨⟨decide_eq_true (by omega), fun c hc => ?_⟩, by show 10 * l.length + 2 ≤ 122; omega⟩
  rw [e] at hc
  exact low_lt (hl c hc)
theorem ch_ok {c : Nat} (h : isLow c = true) : okR (.str (ch c)) = true ∧ wtR (.str (ch c)) = 12 := by
  have := (tx_ok (l := [c]) (show 1 ≤ 12 by decide) (fun d hd => by rw [List.mem_singleton.mp hd]; exact h)).1
  exact ⟨this, rfl⟩
theorem fine_of {t : B} {e : Ed} (h : Drawn t e) (z : t.size ≤ 12) : e.fine := by
  have k1 : okR (.str (Str.ofString "put")) = true ∧ wtR (.str (Str.ofString "put")) ≤ 60 := by decide +kernel
  have k2 : okR (.str (Str.ofString "cut")) = true ∧ wtR (.str (Str.ofString "cut")) ≤ 60 := by decide +kernel
  have k3 : okR (.str (Str.ofString "label")) = true ∧ wtR (.str (Str.ofString "label")) ≤ 60 := by decide +kernel
  have k4 : okR (.str (Str.ofString "turn")) = true ∧ wtR (.str (Str.ofString "turn")) ≤ 60 := by decide +kernel
  have pl : ∀ {p : List Bool} {u : B}, t.at p = some u → p.length ≤ 12 := fun h => by have := t.at_size _ h; omega
  unfold Ed.fine
  cases e with
  | put p c =>
    obtain ⟨hp, hc⟩ := h
    obtain ⟨a1, a2⟩ := px_ok (pl hp)
    obtain ⟨b1, b2⟩ := ch_ok hc
    show okR (.tuple [_, _, _]) = true ∧ wtR (.tuple [_, _, _]) ≤ 300 ∧ (PyData.tuple [_, _, _]).depth ≤ 2
    rw [ok_t, ok_c, ok_c, ok_c, ok_e, wt_t, wt_c, wt_c, wt_c, wt_e, dp_t, dp_c, dp_c, dp_c, dp_e, dp_s, dp_s, dp_s, a1, b1, k1.1]
    refine ⟨rfl, by omega, by decide⟩
  | cut p =>
    obtain ⟨u, hp, _⟩ := h
    obtain ⟨a1, a2⟩ := px_ok (pl hp)
    show okR (.tuple [_, _]) = true ∧ wtR (.tuple [_, _]) ≤ 300 ∧ (PyData.tuple [_, _]).depth ≤ 2
    rw [ok_t, ok_c, ok_c, ok_e, wt_t, wt_c, wt_c, wt_e, dp_t, dp_c, dp_c, dp_e, dp_s, dp_s, a1, k2.1]
    refine ⟨rfl, by omega, by decide⟩
  | label p c =>
    obtain ⟨⟨u, hp, _⟩, hc⟩ := h
    obtain ⟨a1, a2⟩ := px_ok (pl hp)
    obtain ⟨b1, b2⟩ := ch_ok hc
    show okR (.tuple [_, _, _]) = true ∧ wtR (.tuple [_, _, _]) ≤ 300 ∧ (PyData.tuple [_, _, _]).depth ≤ 2
    rw [ok_t, ok_c, ok_c, ok_c, ok_e, wt_t, wt_c, wt_c, wt_c, wt_e, dp_t, dp_c, dp_c, dp_c, dp_e, dp_s, dp_s, dp_s, a1, b1, k3.1]
    refine ⟨rfl, by omega, by decide⟩
  | turn p =>
    obtain ⟨u, hp, _⟩ := h
    obtain ⟨a1, a2⟩ := px_ok (pl hp)
    show okR (.tuple [_, _]) = true ∧ wtR (.tuple [_, _]) ≤ 300 ∧ (PyData.tuple [_, _]).depth ≤ 2
    rw [ok_t, ok_c, ok_c, ok_e, wt_t, wt_c, wt_c, wt_e, dp_t, dp_c, dp_c, dp_e, dp_s, dp_s, a1, k4.1]
    refine ⟨rfl, by omega, by decide⟩
theorem tree_fine : ∀ t : B, t.lts → okR t.data = true ∧ wtR t.data ≤ 25 * t.size + 4 ∧ t.data.depth ≤ t.size
  | .nil, _ => by
    refine ⟨rfl, ?_, ?_⟩
    · show wtR .none ≤ 4
      simp only [wtR]
      decide
    · show PyData.none.depth ≤ 0
      simp only [PyData.depth]
      decide
  | .node l x r, h => by
    obtain ⟨hx, hl, hr⟩ := B.lts_node.mp h
    obtain ⟨a1, a2, a3⟩ := tree_fine l hl
    obtain ⟨b1, b2, b3⟩ := tree_fine r hr
    obtain ⟨c1, c2⟩ := ch_ok hx
    show okR (.tuple [l.data, .str (ch x), r.data]) = true ∧ wtR (.tuple [l.data, .str (ch x), r.data]) ≤ 25 * (l.size + 1 + r.size) + 4 ∧ (PyData.tuple [l.data, .str (ch x), r.data]).depth ≤ l.size + 1 + r.size
    rw [ok_t, ok_c, ok_c, ok_c, ok_e, wt_t, wt_c, wt_c, wt_c, wt_e, dp_t, dp_c, dp_c, dp_c, dp_e, dp_s, a1, b1, c1]
    refine ⟨rfl, by omega, by omega⟩
theorem eds_fine : ∀ es : List Ed, (∀ e ∈ es, e.fine) → okRs (es.map Ed.data) = true ∧ wtRs (es.map Ed.data) ≤ 302 * es.length ∧ PyData.depthAll (es.map Ed.data) ≤ 2
  | [], _ => by
    show okRs [] = true ∧ wtRs [] ≤ 0 ∧ PyData.depthAll [] ≤ 2
    rw [ok_e, wt_e, dp_e]
    exact ⟨rfl, Nat.le_refl _, by decide⟩
  | e :: es, h => by
    obtain ⟨a1, a2, a3⟩ := eds_fine es fun x hx => h x (List.mem_cons_of_mem _ hx)
    obtain ⟨b1, b2, b3⟩ := h e List.mem_cons_self
    show okRs (e.data :: es.map Ed.data) = true ∧ wtRs (e.data :: es.map Ed.data) ≤ 302 * (es.length + 1) ∧ PyData.depthAll (e.data :: es.map Ed.data) ≤ 2
    rw [ok_c, wt_c, dp_c, a1, b1]
    exact ⟨rfl, by omega, by omega⟩
theorem dtext_ok : ∀ n : Fin 13, ∀ m : Fin 21, okR (.str (dtext n.val m.val)) = true ∧ wtR (.str (dtext n.val m.val)) ≤ 642 := by decide +kernel
theorem wk_low {t : B} (h : t.lts) (k : Kd) : ∀ c ∈ t.wk k, isLow c = true := by
  intro c hc
  refine h c ?_
  cases k with
  | first => exact hc
  | between => exact (t.mid_mem c).mp hc
  | last =>
    have post_mem : ∀ t : B, c ∈ t.post → c ∈ t.pre := by
      intro t
      induction t with
      | nil => exact id
      | node l x r h1 h2 =>
        intro hc
        have hc : c ∈ l.post ++ r.post ++ [x] := hc
        show c ∈ x :: (l.pre ++ r.pre)
        rcases List.mem_append.mp hc with hc | hc
        · rcases List.mem_append.mp hc with hc | hc
          · exact List.mem_cons_of_mem _ (List.mem_append_left _ (h1 hc))
          · exact List.mem_cons_of_mem _ (List.mem_append_right _ (h2 hc))
        · exact List.mem_cons.mpr (.inl (List.mem_singleton.mp hc))
    exact post_mem t hc
theorem seen_fine {t : B} {es : List Ed} (h1 : t.lts) (h2 : t.size ≤ 12) (h3 : ∀ e ∈ es, e.fine) (h4 : es.length ≤ 20) : okR (dSeen t es) = true ∧ wtR (dSeen t es) ≤ 20000 ∧ (dSeen t es).depth ≤ 20 := by
  obtain ⟨a1, a2, a3⟩ := tree_fine t h1
  obtain ⟨b1, b2, b3⟩ := eds_fine es h3
  obtain ⟨c1, c2⟩ := dtext_ok ⟨t.size, by omega⟩ ⟨es.length, by omega⟩
  have c1 : okR (.str (dtext t.size es.length)) = true := c1
  have c2 : wtR (.str (dtext t.size es.length)) ≤ 642 := c2
  have w : ∀ k : Kd, okR (.str (tx (t.wk k))) = true ∧ wtR (.str (tx (t.wk k))) ≤ 122 := fun k => tx_ok (by rw [t.wk_len]; exact h2) (wk_low h1 k)
  obtain ⟨d1, d2⟩ := w .first
  obtain ⟨e1, e2⟩ := w .between
  obtain ⟨f1, f2⟩ := w .last
  unfold dSeen
  simp only [ok_t, ok_c, ok_e, wt_t, wt_c, wt_e, dp_t, dp_c, dp_e, dp_s, dp_i, wt_i]
  rw [a1, b1, c1, d1, e1, f1, ok_i (show es.length < 64 by omega), ok_i (show t.size < 64 by omega)]
  exact ⟨rfl, by omega, by omega⟩
def spText2 : Sp := fun vs H Q _ => ∃ (v : V) (t : B) (m : Nat), vs = [v, .int (m : Int)] ∧ BAt H v t ∧ t.size ≤ 12 ∧ m ≤ 20 ∧ ∀ H', Same H H' → Q (.str (dtext t.size m)) H'
def spSeenL (C : Addr) : Sp := fun vs H Q _ => ∃ (a : Addr) (ts : List B) (t : B) (es : List Ed), vs = [.ref a] ∧ Dk C H a ts t es false ∧ t.size ≤ 12 ∧ es.length ≤ 20 ∧ ∀ (p : Addr) (H' : Hp), Same H H' → (∀ (K : PySem.W.Frag), Dp K H' (.ref p) (dSeen t es)) → Q (.ref p) H'
def spDueS : Sp := fun vs H Q _ => ∃ (v : V) (t : B) (d : Addr) (ds : List V) (es : List Ed), vs = [v, .ref d] ∧ BAt H v t ∧ H d = some (.tup ds) ∧ EsAt H ds es ∧ t.size ≤ 12 ∧ es.length ≤ 20 ∧ ∀ (p : Addr) (H' : Hp), Same H H' → (∀ (K : PySem.W.Frag), Dp K H' (.ref p) (dSeen t es)) → Q (.ref p) H'
def spEqual (K : PySem.W.Frag) : Sp := fun vs H Q _ => ∃ (a b : Addr) (d : PyData), vs = [.ref a, .ref b] ∧ Dp K H (.ref a) d ∧ Dp K H (.ref b) d ∧ okR d = true ∧ wtR d ≤ 1000000 ∧ d.depth ≤ 60 ∧ Q (.bl true) H
section
variable {P : Program} {w : World} {K : PySem.W.Frag} {mg : Str → Option Value} {base : Heap} {f : Addr} {fd : FuncData} {C : Addr}
theorem ok_equal {k : Nat} (F : Fun K "_law_equal" "_law_equal" s__law_equal f fd) (M : Mgs mg) : FnOkG P w K mg base (k + 1) f fd ["_law_one", "_law_other"] (spEqual K) := by
  refine fnG F sc__law_equal (fun vs H Q E h => ?_) (fun cdv A outer s H vs Q E gs hr h => ?_)
  · obtain ⟨a, b, d, rfl, _⟩ := h
    rfl
  obtain ⟨a, b, d, rfl, h1, h2, h3, h4, h5, q⟩ := h
  refine ⟨_, (pss_one (ps_ret (pe_cmpR op_eq (pe_callB (call_reprR gs hr.units) rfl M.repr (by decide +kernel) (pa_cons (pv 0) pa_nil)) (pe_callB (call_reprR gs hr.units) rfl M.repr (by decide +kernel) (pa_cons (pv 1) pa_nil)) (nomark _)))), ?_⟩
  refine ⟨_, rfl, a, d, rfl, h1, h3, h4, h5, _, rfl, b, d, rfl, h2, h3, h4, h5, rfl, ?_⟩
  rw [decide_eq_true (rfl : V.str d.shown = V.str d.shown)]
  exact q
end
/-! ### seen and due -/
def kds : List Kd := [.first, .between, .last]
section
variable {P : Program} {w : World} {K : PySem.W.Frag} {mg : Str → Option Value} {base : Heap} {f : Addr} {fd : FuncData} {C : Addr}
theorem ok_seen {ft gL gS : Addr} {fdt : FuncData} {dn : List Value} (F : Fun K "_law_seen" "_law_seen" s__law_seen f fd) (TD : DeskC K mg C) (M : Mgs mg)
    (Pver : PDf P w K mg base C 1 "version" (spVer C)) (Psize : PDf P w K mg base C 21 "size" (spSizeP C)) (Pfirst : PDf P w K mg base C 63 "first" (spWalkP C .first)) (Pbetw : PDf P w K mg base C 63 "between" (spWalkP C .between)) (Plast : PDf P w K mg base C 63 "last" (spWalkP C .last))
    (MT : Meth K C "tree" ft) (Ft : FnOk P w K mg base CX0 1 ft fdt ["self", "version"] (spTreeM C)) (bt : Binds K fdt ["self", "version"] dn) (vt : Vals [.non] dn) (Dedits : MDf P w K mg base C 1 "edits" ["self"] (spEditsM C))
    (cL : PySem.W.findIn K (.ref C) "__len__" = some (some (.ref gL))) (fL : PySem.W.isFn K (.ref gL) = true) (FL : FnR P w K mg base CX0 1 gL (spVer C)) (cS : PySem.W.findIn K (.ref C) "__str__" = some (some (.ref gS))) (fS : PySem.W.isFn K (.ref gS) = true) (FS : FnR P w K mg base CX0 21 gS (spStrD C)) :
    FnOk P w K mg base CX0 66 f fd ["_law_desk"] (spSeenL C) := by
  refine F.ok (k := 65) sc__law_seen (fun vs H Q E h => ?_) (fun cdv A outer s H vs Q E hr h => ?_)
  · obtain ⟨a, ts, t, es, rfl, _⟩ := h
    rfl
  obtain ⟨a, ts, t, es, rfl, dk, hz, he, q⟩ := h
  obtain ⟨dx, ta, td, vs, u, ds, h1, h2, h3, h4, h5, h6⟩ := id dk
  refine ⟨_, (pss_cons (ps_set (i := 1) sc__law_seen.nd rfl (.inl rfl) (pe_tup (pa_cons (pe_prop (pv 0) TD.cl Pver.pr Pver.ok (hr.mono (by omega)) Pver.b .nil (E := E0) (fun _ _ _ _ _ _ _ h => h.elim) rfl) (pa_cons (pe_prop (pv 0) TD.cl Psize.pr Psize.ok (hr.mono (by omega)) Psize.b .nil (E := E0) (fun _ _ _ _ _ _ _ h => h.elim) rfl) (pa_cons (pe_prop (pv 0) TD.cl Pfirst.pr Pfirst.ok (hr.mono (by omega)) Pfirst.b .nil (E := E0) (fun _ _ _ _ _ _ _ h => h.elim) rfl) (pa_cons (pe_prop (pv 0) TD.cl Pbetw.pr Pbetw.ok (hr.mono (by omega)) Pbetw.b .nil (E := E0) (fun _ _ _ _ _ _ _ h => h.elim) rfl) (pa_cons (pe_prop (pv 0) TD.cl Plast.pr Plast.ok (hr.mono (by omega)) Plast.b .nil (E := E0) (fun _ _ _ _ _ _ _ h => h.elim) rfl) pa_nil)))))))
    (pss_one (ps_ret (pe_op op_catA (pe_tup (pa_cons (pe_meth0 (pv 0) TD.cl MT Ft (hr.mono (by omega)) bt vt pass0) (pa_cons (pe_meth0 (pv 0) TD.cl Dedits.at_ Dedits.ok (hr.mono (by omega)) Dedits.b .nil pass0) (pa_cons (pe_callB (call_lenOwn cL fL FL (hr.mono (by omega))) rfl M.len PySem.boot_len (pa_cons (pv 0) pa_nil)) (pa_cons (pe_callTy (call_strOwn cS fS FS (hr.mono (by omega))) rfl M.str (by decide +kernel) (pa_cons (pv 0) pa_nil)) pa_nil))))) (pv 1))))), ?_⟩
  refine ⟨_, rfl, a, dx, _, rfl, h1, a, ts, t, es, false, rfl, dk, by omega, _, rfl, a, dx, _, rfl, h1, a, ts, t, es, false, rfl, dk, hz, _, rfl, a, dx, _, rfl, h1, a, ts, t, es, false, rfl, dk, hz, fun H1 s1 => ?_⟩
  refine ⟨_, rfl, a, dx, _, rfl, s1 _ _ h1, a, ts, t, es, false, rfl, dk.same s1, hz, fun H2 s2 => ?_⟩
  have s12 := s1.trans s2
  refine ⟨_, rfl, a, dx, _, rfl, s12 _ _ h1, a, ts, t, es, false, rfl, dk.same s12, hz, fun H3 s3 => ⟨(by show 5 ≤ sizeLine; decide), fun vp nvp => ?_⟩⟩
  have k4 := same_new nvp (.tup [.int (es.length : Int), .int (t.size : Int), .str (tx (t.wk .first)), .str (tx (t.wk .between)), .str (tx (t.wk .last))])
  have ev := upd_same (H := H3) (a := vp) (o := .tup [.int (es.length : Int), .int (t.size : Int), .str (tx (t.wk .first)), .str (tx (t.wk .between)), .str (tx (t.wk .last))])
  have s4 := s12.trans (s3.trans k4)
  generalize upd H3 vp (.tup [.int (es.length : Int), .int (t.size : Int), .str (tx (t.wk .first)), .str (tx (t.wk .between)), .str (tx (t.wk .last))]) = H4 at ev s4 ⊢
  have dk4 := dk.same s4
  have g1 := s4 _ _ h1
  have nl : ∀ {m : Str} (vt vd vb : V), (m == ("trees" : Str)) = false → (m == ("done" : Str)) = false → (m == ("busy" : Str)) = false → (deskF vt vd vb).lookup m = none := no_look
  refine ⟨_, rfl, a, dx, _, rfl, g1, nl _ _ _ (by decide +kernel) (by decide +kernel) (by decide +kernel), a, ts, t, es, false, rfl, dk4, fun v hv => ?_⟩
  refine ⟨_, rfl, a, dx, _, rfl, g1, nl _ _ _ (by decide +kernel) (by decide +kernel) (by decide +kernel), a, ts, t, es, false, rfl, dk4, fun d ds' ed hes => ?_⟩
  refine ⟨_, rfl, a, dx, _, rfl, g1, a, ts, t, es, false, rfl, dk4, by omega, _, rfl, by omega, by omega, ?_⟩
  refine ⟨_, rfl, a, dx, _, rfl, g1, a, ts, t, es, false, rfl, dk4, hz, by omega, _, rfl, (by show 4 ≤ sizeLine; decide), fun tp ntp => ?_⟩
  have k5 := same_new ntp (.tup [v, .ref d, .int (es.length : Int), .str (dtext t.size es.length)])
  refine ⟨_, rfl, tp, vp, _, _, rfl, rfl, SqT.of upd_same, SqT.of (k5 _ _ ev), (by show 4 + 5 ≤ sizeLine; decide), (fun z => nomatch z), (fun _ z => nomatch z), fun _ _ p np => ?_⟩
  have k6 := same_new np (.tup ([v, .ref d, .int (es.length : Int), .str (dtext t.size es.length)] ++ [.int (es.length : Int), .int (t.size : Int), .str (tx (t.wk .first)), .str (tx (t.wk .between)), .str (tx (t.wk .last))]))
  refine q p _ (s4.trans (k5.trans k6)) fun K' => ?_
  have hv6 := (hv.same (k5.trans k6)).dp (K := K')
  have he6 := (hes.keep (Tw.Same.keepT (k5.trans k6))).dp (K := K')
  exact .tup (SqT.of upd_same) (.cons hv6 (.cons (.tup (SqT.of ((k5.trans k6) _ _ ed)) he6) (.cons (.int _) (.cons (.str _) (.cons (.int _) (.cons (.int _) (.cons (.str _) (.cons (.str _) (.cons (.str _) .nil)))))))))
end
/-! ### def f(a, .., **d), called with keywords: a new dict of them -/
theorem push_last (h : Heap) (o : Obj) (f : Obj → Obj) : (h.push o).update h.objs.size f = h.push (f o) := by
  obtain ⟨objs, l⟩ := h
  show (⟨(objs.push o).modify objs.size f, l⟩ : Heap) = ⟨objs.push (f o), l⟩
  refine congrArg (fun z => (⟨z, l⟩ : Heap)) (Array.ext_getElem? fun i => ?_)
  rw [Array.getElem?_modify, Array.getElem?_push, Array.getElem?_push]
  by_cases e : objs.size = i
  · subst e
    simp
  · rw [if_neg e, if_neg (fun z => e z.symm), if_neg (fun z => e z.symm)]
section
variable {P : Program} {w : World} {A : Around} {E : Value → Shared → Prop}
/-- one entry more -/
theorem kw_put {z : Shared} {es : List DictEntry} {n t : Nat} {k : Str} {v : Value} {Q : Unit → Shared → Prop} (new : ∀ e ∈ es, ∃ k' u, e.key = .str k' u ∧ k' ≠ k)
    (h : ∀ n' t', Q () { z with heap := z.heap.push (PySem.W.dictOf (es ++ [⟨PyData.keyHash w.params k, .str k t, v⟩]) n'), toks := t' }) :
    wpAny (model P w) A (nsSet z.heap.objs.size k v) Q E { z with heap := z.heap.push (PySem.W.dictOf es n), toks := t } := by
  have here : (z.heap.push (PySem.W.dictOf es n)).get? z.heap.objs.size = some (PySem.W.dictOf es n) := Heap.get?_push_size _ rfl
  have other : ∀ e ∈ es, e.key.isStr k = false := fun e he => by
    obtain ⟨k', u, ek, ne⟩ := new e he
    rw [ek]
    exact beq_eq_false_iff_ne.mpr ne
  have named : aRefKeyMayBeTheName k es.toArray = false := by
    rw [aRefKeyMayBeTheName_at]
    have : es.toArray.any (·.refKey) = false := by
      rw [← Array.any_toList]
      refine List.any_eq_false.mpr fun e he => ?_
      obtain ⟨k', u, ek, _⟩ := new e he
      show ¬ e.refKey = true
      unfold DictEntry.refKey
      rw [ek]
      exact Bool.false_ne_true
    rw [this, Bool.and_false]
  unfold nsSet
  refine wpAny_bind (wpAny_bind (wpAny_askSetting (wpAny_pure ?_)))
  refine wpAny_bind (wpAny_mkText ?_)
  refine wpAny_bind (wpAny_loadPart here ?_)
  show wpAny _ _ (if aRefKeyMayBeTheName k es.toArray = true then _ else _) _ _ _
  rw [named]
  refine wpAny_updatePart (s := { z with heap := z.heap.push (PySem.W.dictOf es n), toks := t + 1 }) here ?_
  rw [push_last, PySem.W.putName_dict, PySem.W.putL_new other]
  exact h _ _
/-- all entries -/
theorem kw_fill {z : Shared} {Q : PUnit → Shared → Prop} : ∀ (ex : List (Str × Value)) (es : List DictEntry) (n t : Nat), (∀ e ∈ es, ∃ k' u, e.key = .str k' u ∧ ∀ x ∈ ex, k' ≠ x.1) → (ex.map (·.1)).Nodup →
    (∀ n' t' es', Pairs (mixKind P w) es' (ex.map fun x => ((.inr x.1 : Key), x.2)) → (∀ e ∈ es', ∃ k u, e.key = .str k u ∧ e.hash = PyData.keyHash w.params k) → Q ⟨⟩ { z with heap := z.heap.push (PySem.W.dictOf (es ++ es') n'), toks := t' }) →
    wpAny (model P w) A (forIn ex PUnit.unit fun x _ => (nsSet z.heap.objs.size x.1 x.2 >>= fun _ => pure (ForInStep.yield PUnit.unit))) Q E { z with heap := z.heap.push (PySem.W.dictOf es n), toks := t }
  | [], es, n, t, _, _, h => by
    rw [List.forIn_nil]
    refine wpAny_pure ?_
    have := h n t [] .nil (fun e he => by cases he)
    rw [List.append_nil] at this
    exact this
  | (k, v) :: ex, es, n, t, old, nd, h => by
    obtain ⟨nk, nd⟩ := List.nodup_cons.mp (show (k :: ex.map (·.1)).Nodup from nd)
    rw [List.forIn_cons]
    refine wpAny_bind (wpAny_bind (kw_put (fun e he => ?_) fun n1 t1 => wpAny_pure ?_))
    · obtain ⟨k', u, ek, ne⟩ := old e he
      exact ⟨k', u, ek, ne (k, v) List.mem_cons_self⟩
    refine kw_fill ex _ n1 t1 (fun e he => ?_) nd fun n' t' es' pr hs => ?_
    · rcases List.mem_append.mp he with he | he
      · obtain ⟨k', u, ek, ne⟩ := old e he
        exact ⟨k', u, ek, fun x hx => ne x (List.mem_cons_of_mem _ hx)⟩
      · rw [List.mem_singleton.mp he]
        exact ⟨k, t, rfl, fun x hx e => nk (List.mem_map.mpr ⟨x, hx, e.symm⟩)⟩
    · have := h n' t' (⟨PyData.keyHash w.params k, .str k t, v⟩ :: es') (.cons (mixKind_str P w k t) rfl pr) (fun e he => by
        rcases List.mem_cons.mp he with rfl | he
        · exact ⟨k, t, rfl, rfl⟩
        · exact hs e he)
      rw [List.append_assoc]
      exact this
end
/-- what such a def's binding comes to -/
structure KwBind (fd : FuncData) (ps : List Str) (pd : Str) (ks : List Str) : Prop where
  eq : ∀ us ws : List Value, us.length = ps.length → ws.length = ks.length → bindArgs fd ⟨us, ks.zip ws⟩ =
    ((alloc ({ cls := .type "dict", data := .dict #[] } : Obj) : Sem Addr) >>= fun d => (forIn (ks.zip ws) PUnit.unit fun x _ => (nsSet d x.1 x.2 >>= fun _ => pure (ForInStep.yield PUnit.unit))) >>= fun _ => pure (ps.zip us ++ [(pd, Value.ref d)]))
  nd : ks.Nodup
/-- its promise: vs the values, zs the keywords' -/
def FnKw (P : Program) (w : World) (K : PySem.W.Frag) (mg : Str → Option Value) (base : Heap) (k : Nat) (f : Addr) (n : Nat) (ks : List Str) (sp : List V → List V → Hp → VK → Prop) : Prop :=
  ∀ (A : Around) (outer : List Env) (s : Shared) (H : Hp) (us ws : List Value) (vs zs : List V) (Q : VK), Room k A → Env0 P w K mg base A outer s H → Vals vs us → vs.length = n → Vals zs ws → zs.length = ks.length → sp vs zs H Q →
    codeAny (model P w) A (.call (.ref f) ⟨us, ks.zip ws⟩) (CR CX0 outer P w H s Q E0) s
theorem kv_zip : ∀ {ks : List Str} {zs : List V} {ws : List Value}, Vals zs ws → zs.length = ks.length → KV ((ks.zip zs).map fun x => ((.inr x.1 : Key), x.2)) ((ks.zip ws).map fun x => ((.inr x.1 : Key), x.2))
  | [], _, _, .nil, _ => .nil
  | k :: ks, _, _, .cons r h, e => .cons ⟨rfl, r⟩ (kv_zip h (by simpa using e))
section
variable {P : Program} {w : World} {K : PySem.W.Frag} {mg : Str → Option Value} {base : Heap}
theorem fnKw {x qual : Str} {st : Stmt} {f : Addr} {fd : FuncData} {N ps ks : List Str} {pd : Str} {k : Nat} {sp : List V → List V → Hp → VK → Prop} (F : Fun K x qual st f fd) (B : KwBind fd ps pd ks) (few : ks.length ≤ 1000) (S : FnScope N (ps ++ [pd]) (defScope st))
    (body : ∀ (cdv : Value) (A : Around) (outer : List Env) (s : Shared) (H : Hp) (vs zs : List V) (d : Addr) (Q : VK), Room k (A.deeper (envOfC qual (defScope st) s.heap.objs.size f cdv)) → H d = some (.dK ((ks.zip zs).map fun x => ((.inr x.1 : Key), x.2))) → zs.length = ks.length →
      (∃ H0, H0 d = none ∧ H = upd H0 d (.dK ((ks.zip zs).map fun x => ((.inr x.1 : Key), x.2))) ∧ sp vs zs H0 Q) →
      ∃ t, PSs (cxOf CX0 P w K mg base N qual (defScope st) f cdv A outer s H E0).nox (defBody st) t ∧ t { nx := fun _ H' => Q .non H', rt := Q } (start N (vs ++ [.ref d])) H) :
    FnKw P w K mg base (k + 1) f ps.length ks sp := by
  intro A outer s H us ws vs zs Q room e0 rv lv rz lz q
  obtain ⟨oc, od, kV, doc, pm, an, cdv, ct, osl, e, look, code⟩ := F.ex
  subst e
  have lus : us.length = ps.length := by rw [← rv.length]; exact lv
  have lws : ws.length = ks.length := by rw [← rz.length]; exact lz
  have fresh : H s.heap.objs.size = none := e0.hok.fresh (Nat.le_refl _)
  refine StX.run_bnd look code S room e0 (G := fun xs H2 => ∃ d, H d = none ∧ xs = vs ++ [V.ref d] ∧ H2 = upd H d (.dK ((ks.zip zs).map fun x => ((.inr x.1 : Key), x.2)))) (fun A' Ex Q' fin => ?_) fun s2 H2 xs g room2 => ?_
  · rw [B.eq us ws lus lws]
    refine wpAny_bind (wpAny_alloc ?_)
    have names : ((ks.zip ws).map (·.1)) = ks := List.map_fst_zip (Nat.le_of_eq lws.symm)
    refine wpAny_bind (kw_fill (z := s) (ks.zip ws) [] 0 s.toks (fun e he => by cases he) (by rw [names]; exact B.nd) fun n' t' es' pr hs => wpAny_pure ?_)
    rw [List.nil_append]
    have ok : ObjOk P w (upd H s.heap.objs.size (.dK ((ks.zip zs).map fun x => ((.inr x.1 : Key), x.2)))) (s.heap.push (PySem.W.dictOf es' n')) s.heap.objs.size (.dK ((ks.zip zs).map fun x => ((.inr x.1 : Key), x.2))) := by
      refine ⟨?_, beq_eq_false_iff_ne.mpr (Ne.symm (Nat.ne_of_lt (StX.env0_big e0))), _, kv_zip rz lz, _, es'.toArray, n', Heap.get?_push_size _ rfl, ⟨rfl, rfl, rfl⟩, rfl, fun e he => ?_, pr, ?_⟩
      · rw [List.length_map, List.length_zip]
        exact small (by omega)
      · obtain ⟨k', u, ek, eh⟩ := hs e (List.mem_toArray.mp he)
        exact ⟨.inr k', by rw [ek]; exact mixKind_str P w k' u, eh⟩
      · rw [List.map_map]
        have : (ks.zip ws).map ((fun x : Key × Value => x.1) ∘ fun x => ((.inr x.1 : Key), x.2)) = ((ks.zip ws).map (·.1)).map Sum.inr := by rw [List.map_map]; rfl
        rw [this, names]
        exact List.Pairwise.map _ (fun _ _ ne e => ne (Sum.inr.inj e)) B.nd
    have en := StX.env0_laid e0 ok
    have un := StX.un_laid (fs := frs outer) (s := s) (o := PySem.W.dictOf es' n') (u := .dK ((ks.zip zs).map fun x => ((.inr x.1 : Key), x.2))) fresh
    have z := fin { s with heap := s.heap.push (PySem.W.dictOf es' n'), toks := t' } _ (vs ++ [V.ref s.heap.objs.size]) (us ++ [Value.ref s.heap.objs.size]) ⟨en.frames, en.mod, en.bs, en.bsz, en.funs, en.frf, en.hok, en.bare⟩ un rfl (fun _ _ h => h.elim)
      (rv.append (.cons rfl .nil)) (by rw [List.length_append, List.length_append, lv]; rfl) ⟨_, fresh, rfl, rfl⟩
    rw [List.zip_append lus.symm] at z
    exact z
  · obtain ⟨d, nd, rfl, rfl⟩ := g
    obtain ⟨t, rule, read⟩ := body cdv A outer s2 _ vs zs d Q room2 upd_same lz ⟨H, nd, rfl, q⟩
    exact ⟨t, rule.nox, read⟩
end
/-- f(e, .., k = v, ..) of such a def -/
def tCallKw (n m : Nat) (sp : List V → List V → Hp → VK → Prop) (t tk : TA) : TE := fun σ H Q => t σ H fun vs H1 => tk σ H1 fun zs H2 => vs.length = n ∧ zs.length = m ∧ sp vs zs H2 Q
theorem pe_callKw {X : Cx} {k n : Nat} {f : Addr} {ks : List Str} {sp : List V → List V → Hp → VK → Prop} {x : Str} {p pos : Pos} {e : Expr} {es : List Expr} {kws : List Keyword} {t tk : TA} (F : FnKw X.prog X.w X.K X.mg X.base k f n ks sp) (room : Room k X.A) (isG : Gl X x) (at0 : X.mg x = some (.ref f)) (kp : PySem.W.keepIn X.K (.ref f) = true)
    (args : PA X (e :: es) t) (kargs : PK X kws tk) (all : (backToKw pos (keywordEach kws X.env)).all (·.1.isSome) = true := by rfl) (names : (backToKw pos (keywordEach kws X.env)).filterMap (·.1) = ks := by rfl)
    (nd : (x == ("__debug__" : Str)) = false := by decide) (he : starEach (e :: es) X.env = (false, eval e X.env) :: starEach es X.env := by rfl)
    (plain : ((backTo pos (starEach (e :: es) X.env)).any (·.1) || (backToKw pos (keywordEach kws X.env)).any (·.1.isNone)) = false := by rfl) :
    PE X (.Call (.Name x p) (e :: es) kws pos) (tCallKw n ks.length sp t tk) := by
  refine ⟨fun pins s σ H Q I h => wpAny_Call_Name_kw (ld_glob I isG at0 ?_ nd)⟩
  refine PySem.W.callWith_KW (h₀ := X.base) I.ok.mod.kin kp all (thn (args.run pos pins s σ H _ I h) fun us s1 ⟨vs, H1, I1, rv, q1⟩ => ?_) plain he
  refine thn (kargs.run pos pins s1 σ H1 _ I1 q1) fun ws s2 ⟨zs, H2, I2, rz, l1, l2, q2⟩ => ⟨I2.kIn, ?_⟩
  rw [names]
  refine wpAny_call (codeAny_mono (F X.A X.stack s2 H2 us ws vs zs Q room I2.env0 rv l1 rz l2 q2) fun r z hq => ?_)
  match r, hq with
  | .ok (.ret u), hq => exact I2.after hq
/-! ### zip of two texts -/
section
variable {X : Cx}
/-- new pairs of the signs of x and y -/
def ItzS (x y : Str) : It :=
  ⟨fun i _ => i < x.cps.size ∧ i < y.cps.size,
    fun i H v H' => ∃ (p : Addr) (c d : Nat), v = .ref p ∧ H p = none ∧ H' = upd H p (.tup [.str ⟨#[c]⟩, .str ⟨#[d]⟩]) ∧ x.cps[i]? = some c ∧ y.cps[i]? = some d,
    fun i _ => i = min x.cps.size y.cps.size⟩
theorem turn_zipS {P : Program} {w : World} {K : PySem.W.Frag} {elts : List Expr} {kk : Nat} {tpos : Pos} {x y : Str} {t1 t2 : Tok} {z ti to i1 i2 : Addr} (S : ZipSep2 z ti to i1 i2 [i1] [i2]) :
    Turn P w K (.Tuple elts kk tpos) (ItzS x y) [z, ti, to, i1, i2] z
      (fun i h => IsZip h z ti to .none ∧ IsTupOf2 h ti (.ref i1) (.ref i2) ∧ (∃ a b, IsTupOf2 h to a b) ∧ h.IsStrIter i1 (strIterType x) x t1 i ∧ h.IsStrIter i2 (strIterType y) y t2 i) where
  mem := by simp
  obj := fun i h st c hc => by
    obtain ⟨hz, hti, ⟨a, b, hto⟩, ⟨o1, e1, _, d1⟩, ⟨o2, e2, _, d2⟩⟩ := st
    have hc' : c = z ∨ c = ti ∨ c = to ∨ c = i1 ∨ c = i2 := by simpa using hc
    rcases hc' with q | q | q | q | q
    · rw [q]; exact ⟨_, hz, fun v q2 => nomatch q2⟩
    · rw [q]; exact ⟨_, hti, fun v q2 => nomatch q2⟩
    · rw [q]; exact ⟨_, hto, fun v q2 => nomatch q2⟩
    · exact ⟨o1, by rw [q]; exact e1, fun v q => by rw [d1] at q; cases q⟩
    · exact ⟨o2, by rw [q]; exact e2, fun v q => by rw [d2] at q; cases q⟩
  keep := fun i h h' st k => by
    obtain ⟨hz, hti, ⟨a, b, hto⟩, ⟨o1, e1, r1⟩, ⟨o2, e2, r2⟩⟩ := st
    exact ⟨k z (by simp) _ hz, k ti (by simp) _ hti, ⟨a, b, k to (by simp) _ hto⟩, ⟨o1, k i1 (by simp) _ e1, r1⟩, ⟨o2, k i2 (by simp) _ e2, r2⟩⟩
  item := by
    intro X hP hw hK hc i pins s σ H E I hf st hg
    subst hP hw hK
    obtain ⟨hz, hti, ⟨a0, b0, hto⟩, h1, h2⟩ := st
    have quiet : X.A.in1.handled = none := I.ok.hd hc
    have zlt : z < s.heap.objs.size := Heap.lt_size hz
    refine wpAny_pyNext_zipD2_item S (Draws.text quiet i1 x t1) (Draws.text quiet i2 y t2) hz hti hto h1 h2 hg.1 hg.2 fun u1 u2 h' tk p1 p2 z' to' j1 j2 hT hsz hk => ?_
    obtain ⟨c, tc, ec, rfl⟩ := p1
    obtain ⟨d, td, ed, rfl⟩ := p2
    refine ⟨_, rfl, wpAny_letOwnedTupleGo_zip (s := { s with heap := h', toks := tk }) z' fun h'' z'' sb => ?_⟩
    have hT2 : h''.get? s.heap.objs.size = some { cls := .type "tuple", data := .seq #[.str ⟨#[c]⟩ tc, .str ⟨#[d]⟩ td] } := (sb.2 _ (Nat.ne_of_gt zlt)).trans hT
    have new : ObjOk X.prog X.w (upd H s.heap.objs.size (.tup [.str ⟨#[c]⟩, .str ⟨#[d]⟩])) h'' s.heap.objs.size (.tup [.str ⟨#[c]⟩, .str ⟨#[d]⟩]) :=
      ⟨by show 2 ≤ sizeLine; decide, [.str ⟨#[c]⟩ tc, .str ⟨#[d]⟩ td], .cons ⟨_, rfl⟩ (.cons ⟨_, rfl⟩ .nil), ⟨_, hT2, rfl, _, rfl⟩⟩
    have I1 : Inv X pins σ (upd H s.heap.objs.size (.tup [.str ⟨#[c]⟩, .str ⟨#[d]⟩])) { s with heap := h'', toks := tk } :=
      I.turnedNew (t' := tk) (ch := [z, ti, to, i1, i2]) (fun c o hb q => (sb.2 c (fun e => hb (by simp [e]))).trans (hk c o (fun e => hb (by simp [e])) (fun e => hb (by simp [e])) (fun e => hb (by simp [e])) (fun e => hb (by simp [e])) q)) hf (Nat.le_refl _) new
    refine ⟨.ref s.heap.objs.size, _, I1, rfl, ⟨_, c, d, rfl, I.hok.fresh (Nat.le_refl _), rfl, ec, ed⟩, ⟨z'', (sb.2 _ S.TIz).trans (hk _ _ S.TIz S.TITO S.TIi1 S.TIi2 hti), ⟨_, _, (sb.2 _ S.TOz).trans to'⟩, ?_, ?_⟩, fun c hcm => ?_⟩
    · obtain ⟨o, e, r⟩ := j1
      exact ⟨o, (sb.2 _ S.zi1.symm).trans e, r⟩
    · obtain ⟨o, e, r⟩ := j2
      exact ⟨o, (sb.2 _ S.zi2.symm).trans e, r⟩
    · have lt : c < s.heap.objs.size := by
        have hc' : c = z ∨ c = ti ∨ c = to ∨ c = i1 ∨ c = i2 := by simpa using hcm
        rcases hc' with q | q | q | q | q
        · rw [q]; exact zlt
        · rw [q]; exact Heap.lt_size hti
        · rw [q]; exact Heap.lt_size hto
        · rw [q]; obtain ⟨_, e, _⟩ := h1; exact Heap.lt_size e
        · rw [q]; obtain ⟨_, e, _⟩ := h2; exact Heap.lt_size e
      rw [upd_ne (Nat.ne_of_lt lt)]
      exact (hf c hcm).1
  done := by
    intro X hP hw hK hc i pins s σ H E I hf st hg
    subst hP hw hK
    obtain ⟨hz, hti, ⟨a0, b0, hto⟩, h1, h2⟩ := st
    have quiet : X.A.in1.handled = none := I.ok.hd hc
    have hg' : i = min x.cps.size y.cps.size := hg
    exact wpAny_pyNext_zipD2_end S (Draws.text quiet i1 x t1) (Draws.text quiet i2 y t2) hz hti hto h1 h2 (by omega) (by omega) (by omega) fun h' tk hk => ⟨rfl, I.turnedL (t' := tk) (ch := [z, ti, to, i1, i2]) (fun c o hb q =>
      hk c o (fun e => hb (by simp [e])) (fun e => hb (by simp [e])) (fun e => hb (by simp [e])) (fun e => hb (by simp [e])) q) hf⟩
  self := fun A i s Q E st h => wpAny_pyIter_zip st.1 h
def iZipS (ta : TA) : TI := fun σ H R => ta σ H fun vs H1 => ∃ x y : Str, vs = [.str x, .str y] ∧ R (ItzS x y) H1
theorem pi_zipS {e e2 : Expr} {ta : TA} {p pos tpos : Pos} {elts : List Expr} {kk : Nat} (hg : Gl X "zip") (hm : X.mg "zip" = none) (ha : PA X [e, e2] ta)
    (hs : starEach [e, e2] X.env = (false, eval e X.env) :: starEach [e2] X.env := by rfl) (hpl : (backTo pos (starEach [e2] X.env)).any (·.1) = false := by rfl) :
    PI X (.Tuple elts kk tpos) (.Call (.Name "zip" p) [e, e2] [] pos) (iZipS ta) := by
  refine ⟨fun pins s σ H R I h => ?_⟩
  refine Call_ (ld_blt I hg hm PyProof.Rows.boot_zip (PyProof.Rows.callWith_type1 (thn (ha.run pos pins s σ H _ I h) fun us s1 h1 => ?_) hs hpl))
  obtain ⟨vs, H1, I1, r1, x, y, rfl, q⟩ := h1
  obtain ⟨u, u2, rfl, ⟨t1, rfl⟩, ⟨t2, rfl⟩⟩ := vals2 r1
  refine zip_begins2 (begins_text x t1) (begins_text y t2) trivial trivial fun h' hz hti hto g1 g2 hsz hk => wpAny_pyIter_zip hz ?_
  have I2 : Inv X pins σ H1 { s1 with heap := h' } := I1.kept (t' := s1.toks) hk
  have young : ∀ c, c ∈ [s1.heap.objs.size + 4, s1.heap.objs.size + 2, s1.heap.objs.size + 3, s1.heap.objs.size, s1.heap.objs.size + 1] → FpOk X pins H1 c := fun c hc => by
    have le : s1.heap.objs.size ≤ c := by
      have hc' : c = s1.heap.objs.size + 4 ∨ c = s1.heap.objs.size + 2 ∨ c = s1.heap.objs.size + 3 ∨ c = s1.heap.objs.size ∨ c = s1.heap.objs.size + 1 := by simpa using hc
      rcases hc' with q | q | q | q | q <;> (rw [q]; first | exact Nat.le_add_right _ _ | exact Nat.le_refl _)
    exact I1.fpOk le (I1.hok.fresh le)
  have apart : ∀ (n a b : Nat), a ≠ b → n + a ≠ n + b := fun n a b h z => h (Nat.add_left_cancel z)
  refine ⟨s1.heap.objs.size + 4, [s1.heap.objs.size + 4, s1.heap.objs.size + 2, s1.heap.objs.size + 3, s1.heap.objs.size, s1.heap.objs.size + 1], _, _, H1, rfl, I2, turn_zipS (t1 := t1) (t2 := t2) ?_, ⟨hz, hti, ⟨_, _, hto⟩, ⟨_, g1, rfl, rfl⟩, ⟨_, g2, rfl, rfl⟩⟩, young, q⟩
  have n0 : s1.heap.objs.size = s1.heap.objs.size + 0 := rfl
  refine ⟨apart _ _ _ (by decide), apart _ _ _ (by decide), apart _ _ _ (by decide), ?_, by simp, ?_, ?_, apart _ _ _ (by decide), by simp, ?_, ?_, ?_, ?_⟩
  · exact apart _ 2 0 (by decide)
  · intro h; exact apart _ 4 0 (by decide) (List.mem_singleton.mp h)
  · intro h; exact apart _ 3 0 (by decide) (List.mem_singleton.mp h)
  · intro h; exact apart _ 4 1 (by decide) (List.mem_singleton.mp h)
  · intro h; exact apart _ 3 1 (by decide) (List.mem_singleton.mp h)
  · intro h; exact apart _ 0 1 (by decide) (List.mem_singleton.mp h)
  · intro h; exact apart _ 1 0 (by decide) (List.mem_singleton.mp h)
theorem pi_or {tg e : Expr} {w1 w2 : TI} (a : PI X tg e w1) (b : PI X tg e w2) : PI X tg e (fun σ H R => w1 σ H R ∨ w2 σ H R) :=
  ⟨fun pins s σ H R I h => h.elim (fun h => a.run pins s σ H R I h) fun h => b.run pins s σ H R I h⟩
theorem walk_zipS {x y : Str} {n : Nat} (hn : n = min x.cps.size y.cps.size) : Walk (ItzS x y) n (fun _ => True) (fun i H v H' => ∃ (p : Addr) (c d : Nat), v = .ref p ∧ H p = none ∧ H' = upd H p (.tup [.str ⟨#[c]⟩, .str ⟨#[d]⟩]) ∧ x.cps[i]? = some c ∧ y.cps[i]? = some d) :=
  ⟨fun i _ hi _ => ⟨by omega, by omega⟩, fun _ _ => hn, fun _ _ _ _ _ _ q => q⟩
end
/-! ### comprehensions of two clauses; text * count -/
theorem lc2_it {J : It} {n : Nat} {G : Hp → Prop} {Y : Nat → Hp → V → Hp → Prop} (w : Walk J n G Y) {g : TG} {tt : TT} {wi1 : TI} {g1 : TG} {tt1 : TT} {te : TE} {vs vs1 : List Nat} {σ : L2.St} {H1 : Hp} {D : Addr} {Qd : Hp → Prop} (Pv : Nat → Hp → Prop) (h0 : Pv 0 (upd H1 D (.lst []))) (hG : ∀ i H, i ≤ n → Pv i H → G H)
    (hs : ∀ i x H H', i < n → Pv i H → Y i H x H' → g x (wipe σ vs) H' fun σ2 H2 => wipe σ2 vs = wipe σ vs ∧ tt σ2 H2 fun b H3 =>
      if b = true then wi1 σ2 H3 fun J1 H4 => ∃ W1 : Nat → Nat → Hp → Prop, (∃ m, W1 0 m H4) ∧ ∀ j k H, W1 j k H →
        (J1.stop j H ∧ Pv (i + 1) H) ∨ (J1.go j H ∧ ∃ Nx1 : Hp → Prop, (∀ H', Nx1 H' → ∃ k', k' < k ∧ W1 (j + 1) k' H') ∧ ∀ x H', J1.yld j H x H' → g1 x (wipe σ2 vs1) H' fun σ3 H5 => wipe σ3 vs1 = wipe σ2 vs1 ∧ tt1 σ3 H5 fun b H6 =>
          if b = true then te σ3 H6 fun y H7 => ∃ acc, H7 D = some (.lst acc) ∧ acc.length < sizeLine ∧ Nx1 (upd H7 D (.lst (acc ++ [y]))) else Nx1 H6)
      else Pv (i + 1) H3) (hd : ∀ H, Pv n H → Qd H) :
    ∃ W : Nat → Nat → Hp → Prop, (∃ m, W 0 m (upd H1 D (.lst []))) ∧ ∀ i m H, W i m H →
      (J.stop i H ∧ Qd H) ∨ (J.go i H ∧ ∃ Nx : Hp → Prop, (∀ H', Nx H' → ∃ m', m' < m ∧ W (i + 1) m' H') ∧ ∀ x H', J.yld i H x H' → g x (wipe σ vs) H' fun σ2 H2 => wipe σ2 vs = wipe σ vs ∧ tt σ2 H2 fun b H3 =>
        if b = true then wi1 σ2 H3 fun J1 H4 => ∃ W1 : Nat → Nat → Hp → Prop, (∃ m, W1 0 m H4) ∧ ∀ j k H, W1 j k H →
          (J1.stop j H ∧ Nx H) ∨ (J1.go j H ∧ ∃ Nx1 : Hp → Prop, (∀ H', Nx1 H' → ∃ k', k' < k ∧ W1 (j + 1) k' H') ∧ ∀ x H', J1.yld j H x H' → g1 x (wipe σ2 vs1) H' fun σ3 H5 => wipe σ3 vs1 = wipe σ2 vs1 ∧ tt1 σ3 H5 fun b H6 =>
            if b = true then te σ3 H6 fun y H7 => ∃ acc, H7 D = some (.lst acc) ∧ acc.length < sizeLine ∧ Nx1 (upd H7 D (.lst (acc ++ [y]))) else Nx1 H6)
        else Nx H3) := by
  refine ⟨fun i m H => m = n - i ∧ i ≤ n ∧ Pv i H, ⟨n, by simp, Nat.zero_le _, h0⟩, ?_⟩
  rintro i m H ⟨rfl, hi, p⟩
  have q := hG i H hi p
  by_cases hlt : i < n
  · exact .inr ⟨w.goes i H hlt q, Pv (i + 1), fun H' p' => ⟨n - (i + 1), by omega, rfl, hlt, p'⟩, fun x H' y => hs i x H H' hlt p (w.yields i H x H' hlt q y)⟩
  · have e : i = n := by omega
    subst e
    exact .inl ⟨w.stops H q, hd H p⟩
theorem in_it {J : It} {n : Nat} {G : Hp → Prop} {Y : Nat → Hp → V → Hp → Prop} (w : Walk J n G Y) {g : TG} {tt : TT} {te : TE} {vs : List Nat} {σ : L2.St} {H4 : Hp} {D : Addr} {Nx : Hp → Prop} (Pv : Nat → Hp → Prop) (h0 : Pv 0 H4) (hG : ∀ i H, i ≤ n → Pv i H → G H)
    (hs : ∀ i x H H', i < n → Pv i H → Y i H x H' → g x (wipe σ vs) H' fun σ2 H2 => wipe σ2 vs = wipe σ vs ∧ tt σ2 H2 fun b H3 =>
      if b = true then te σ2 H3 fun y H4 => ∃ acc, H4 D = some (.lst acc) ∧ acc.length < sizeLine ∧ Pv (i + 1) (upd H4 D (.lst (acc ++ [y]))) else Pv (i + 1) H3) (hd : ∀ H, Pv n H → Nx H) :
    ∃ W : Nat → Nat → Hp → Prop, (∃ m, W 0 m H4) ∧ ∀ i m H, W i m H →
      (J.stop i H ∧ Nx H) ∨ (J.go i H ∧ ∃ Nx1 : Hp → Prop, (∀ H', Nx1 H' → ∃ m', m' < m ∧ W (i + 1) m' H') ∧ ∀ x H', J.yld i H x H' → g x (wipe σ vs) H' fun σ2 H2 => wipe σ2 vs = wipe σ vs ∧ tt σ2 H2 fun b H3 =>
        if b = true then te σ2 H3 fun y H4 => ∃ acc, H4 D = some (.lst acc) ∧ acc.length < sizeLine ∧ Nx1 (upd H4 D (.lst (acc ++ [y]))) else Nx1 H3) := by
  refine ⟨fun i m H => m = n - i ∧ i ≤ n ∧ Pv i H, ⟨n, by simp, Nat.zero_le _, h0⟩, ?_⟩
  rintro i m H ⟨rfl, hi, p⟩
  have q := hG i H hi p
  by_cases hlt : i < n
  · exact .inr ⟨w.goes i H hlt q, Pv (i + 1), fun H' p' => ⟨n - (i + 1), by omega, rfl, hlt, p'⟩, fun x H' y => hs i x H H' hlt p (w.yields i H x H' hlt q y)⟩
  · have e : i = n := by omega
    subst e
    exact .inl ⟨w.stops H q, hd H p⟩
/-- trees at vs -/
theorem foldl_cat (x : Array Nat) : ∀ (m : Nat) (a : Array Nat), (List.replicate m x).foldl (· ++ ·) a = a ++ (List.replicate m x.toList).flatten.toArray
  | 0, a => by simp
  | m + 1, a => by
    rw [List.replicate_succ, List.foldl_cons, foldl_cat x m, List.replicate_succ, List.flatten_cons]
    apply Array.ext'
    simp
theorem flat_ones (c m : Nat) : (List.replicate m [c]).flatten = List.replicate m c := by
  induction m with
  | zero => rfl
  | succ m ih => rw [List.replicate_succ, List.flatten_cons, ih, List.replicate_succ]; rfl
/-- one sign, often -/
theorem op_timesS {X : Cx} : OpR X (binaryOp .Mult) (fun x y H Q => ∃ (c : Nat) (m : Nat), x = .str (tx [c]) ∧ y = .int (m : Int) ∧ 1 ≤ m ∧ m ≤ 1000 ∧ Q (.str (tx (List.replicate m c))) H) := by
  intro pins s σ H x y v u Q I rx ry h
  obtain ⟨c, m, rfl, rfl, h1, h2, q⟩ := h
  obtain ⟨t, rfl⟩ := rx
  obtain ⟨t', rfl⟩ := ry
  have one : (tx [c]).length = 1 := rfl
  have far : (1 : Int) ≤ (2 ^ 63 - 1) / (m : Int) := (Int.le_ediv_iff_mul_le (by omega)).mpr (by omega)
  refine PySem.P.mul_str (by rw [decide_eq_false (by omega), decide_eq_false (by omega)]; rfl) (fun _ _ => by rw [one]; have := far; omega) (fun _ _ => by unfold Builtin.Str.tooLong; exact decide_eq_false (by rw [one]; have : (1000 : Nat) ≤ sizeLine := (by decide); omega)) ?_
  rw [if_neg (show ¬ (m : Int) < 1 by omega)]
  by_cases h0 : m = 1
  · subst h0
    rw [if_pos (show (((1 : Nat) : Int) == 1 || (tx [c]).length == 0) = true from rfl)]
    exact ⟨.str (tx [c]), H, I, ⟨t, rfl⟩, q⟩
  · have no : ¬ (((m : Int) == 1 || (tx [c]).length == 0) = true) := by
      rw [one]
      simp
      omega
    rw [if_neg no]
    have e : (⟨(List.replicate (m : Int).toNat (tx [c]).cps).foldl (· ++ ·) #[]⟩ : Str) = tx (List.replicate m c) := by
      rw [foldl_cat, ← flat_ones]
      simp [tx]
    rw [e]
    refine ⟨?_, .str _, H, I.tok _, ⟨_, rfl⟩, q⟩
    rw [tx_len, List.length_replicate]
    exact small h2
/-! ### rows: signs, is_letter, is_row -/
abbrev vt (l : List Nat) : V := .str (tx l)
def sgn (c : Nat) : Prop := c = 63 ∨ (97 ≤ c ∧ c ≤ 122)
structure RowOk (r : List Nat) : Prop where
  ne : r ≠ []
  few : r.length ≤ 12
  all : ∀ c ∈ r, sgn c
theorem str_q : Str.ofString "?" = ch 63 := by decide +kernel
def spOne : Sp := fun vs H Q _ => ∃ c : Nat, vs = [vc c] ∧ Q (.bl (decide (97 ≤ c) && decide (c ≤ 122))) H
def spRow : Sp := fun vs H Q _ => ∃ r : List Nat, vs = [vt r] ∧ RowOk r ∧ ∀ H', Same H H' → Q (.bl true) H'
section
variable {P : Program} {w : World} {K : PySem.W.Frag} {mg : Str → Option Value} {base : Heap} {f : Addr} {fd : FuncData}
theorem ok_one {k : Nat} (F : Fun K "is_letter" "is_letter" s_is_letter f fd) (M : Mgs mg) : FnOk P w K mg base CX0 (k + 1) f fd ["value"] spOne := by
  refine F.ok sc_is_letter (fun vs H Q E h => ?_) (fun cdv A outer s H vs Q E hr h => ?_)
  · obtain ⟨c, rfl, _⟩ := h
    rfl
  obtain ⟨c, rfl, q⟩ := h
  refine ⟨_, (pss_one (ps_ret (pe_and (pe_callB call_isi rfl M.isinstance (by decide +kernel) (pa_cons (pv 0) (pa_cons (pe_bltn (v := .ty "str") rfl M.str (by decide +kernel) rfl) pa_nil))) (pe_and (pe_cmpR op_eq (pe_callB call_len_str rfl M.len PySem.boot_len (pa_cons (pv 0) pa_nil)) pe_int (nomark _)) (pe_one (pe_chain op_le_str op_le_str pe_str (pv 0) pe_str)))))), ?_⟩
  refine ⟨_, rfl, _, _, _, _, true, rfl, .ty _, .base (.str (tx [c])), kit_ty (by decide +kernel), _, rfl, iteT ?_⟩
  refine ⟨_, rfl, tx [c], rfl, small (by show 1 ≤ 1000; decide), rfl, _, rfl, ?_⟩
  rw [show decide (V.int ((tx [c]).length : Nat) = V.int 1) = true from rfl]
  refine iteT ⟨_, rfl, _, _, rfl, rfl, _, rfl, ?_⟩
  have e1 : (!decide ((ch c).cps.toList < (Str.ofString "a").cps.toList)) = decide (97 ≤ c) := by
    rw [show (Str.ofString "a").cps.toList = [97] by decide +kernel, show (ch c).cps.toList = [c] from rfl]
    by_cases h : c < 97
    · rw [decide_eq_true (by simp [List.cons_lt_cons_iff, h]), decide_eq_false (by omega)]; rfl
    · rw [decide_eq_false (by simp [List.cons_lt_cons_iff, h]), decide_eq_true (by omega)]; rfl
  have e2 : (!decide ((Str.ofString "z").cps.toList < (ch c).cps.toList)) = decide (c ≤ 122) := by
    rw [show (Str.ofString "z").cps.toList = [122] by decide +kernel, show (ch c).cps.toList = [c] from rfl]
    by_cases h : 122 < c
    · rw [decide_eq_true (by simp [List.cons_lt_cons_iff, h]), decide_eq_false (by omega)]; rfl
    · rw [decide_eq_false (by simp [List.cons_lt_cons_iff, h]), decide_eq_true (by omega)]; rfl
  rw [e1]
  by_cases h : 97 ≤ c
  · rw [decide_eq_true h] at q ⊢
    refine iteT ⟨_, _, rfl, rfl, ?_⟩
    rw [e2]
    exact q
  · rw [decide_eq_false h] at q ⊢
    exact iteF q
theorem ok_row {tM : Tok} (F : Fun K "is_row" "is_row" s_is_row f fd) (M : Mgs mg) (mMAX : mg "MAX_NODES" = some (.int 12 tM)) (Dis_letter : Df P w K mg base 1 "is_letter" ["value"] spOne) : FnOk P w K mg base CX0 2 f fd ["value"] spRow := by
  refine F.ok sc_is_row (fun vs H Q E h => ?_) (fun cdv A outer s H vs Q E hr h => ?_)
  · obtain ⟨r, rfl, _⟩ := h
    rfl
  obtain ⟨r, rfl, ok, q⟩ := h
  refine ⟨_, (pss_cons (ps_if (PW.pt (pw_or (pt_not (pt_val (pe_callB call_isi rfl M.isinstance (by decide +kernel) (pa_cons (pv 0) (pa_cons (pe_bltn (v := .ty "str") rfl M.str (by decide +kernel) rfl) pa_nil))))) (pw_or1 (pt_not (pt_chain op_le op_le pe_int (pe_callB call_len_str rfl M.len PySem.boot_len (pa_cons (pv 0) pa_nil)) (pe_glob (v := .int _) rfl mMAX ⟨_, rfl⟩))))))
      (pss_one (ps_ret pe_bl)) pss_nil)
    (pss_one (ps_ret (pe_callB (cr_all rfl) rfl M.all (by decide +kernel) (pa_cons (pe_lc (own := [("sign", 1)]) (g := gName 1) (tt := tYes) rfl sc_is_row.nd (pi_str (pv 0)) (blkOk_by (N := ["value", "sign"]) (sc := defScope s_is_row) (by decide +kernel)) (fun _ _ _ _ _ => (pg_name (i := 1) sc_is_row.nd rfl (.inl rfl))) (fun _ _ _ _ _ => pts_nil) (fun _ _ _ _ _ => (pe_or (pe_cmpR op_eq (pv 1) pe_str (nomark _)) (pe_one (pe_call Dis_letter.ok (hr.mono (by omega)) rfl Dis_letter.g Dis_letter.kp Dis_letter.b .nil pass0 (pa_cons (pv 1) pa_nil)))))) pa_nil))))), ?_⟩
  have r0 : 0 < r.length := List.length_pos_iff.mpr ok.ne
  have few := ok.few
  refine ⟨_, rfl, _, _, _, _, true, rfl, .ty _, .base (.str (tx r)), kit_ty (by decide +kernel), _, rfl, ?_⟩
  have few2 : ((tx r).length : Int) ≤ 12 := by rw [tx_len]; omega
  have more2 : (1 : Int) ≤ ((tx r).length : Int) := by rw [tx_len]; omega
  refine ⟨_, rfl, _, rfl, small (by rw [tx_len]; omega), _, _, rfl, rfl, ?_⟩
  refine ⟨_, rfl, ?_⟩
  rw [decide_eq_true more2]
  refine iteT ⟨_, _, rfl, rfl, _, rfl, ?_⟩
  rw [decide_eq_true few2]
  refine iteF ?_
  refine ⟨_, rfl, tx r, rfl, fun D nD => ?_⟩
  have q1 := same_new nD (.lst [])
  refine lc_text (x := tx r) (fun i H' => Same H H' ∧ H' D = some (.lst ((List.replicate i true).map V.bl))) ⟨q1, upd_same⟩ (fun i c H' hc hp => ?_) (fun H' hp => ?_)
  · obtain ⟨sm, ed⟩ := hp
    have hc : r[i]? = some c := hc
    have hi := (List.getElem?_eq_some_iff.mp hc).1
    have sg := ok.all c (List.mem_of_getElem? hc)
    have out : ∀ Qn : Hp → Prop, (∀ H2, (Same H H2 ∧ H2 D = some (.lst ((List.replicate (i + 1) true).map V.bl))) → Qn H2) → ∃ acc, H' D = some (.lst acc) ∧ acc.length < sizeLine ∧ Qn (upd H' D (.lst (acc ++ [V.bl true]))) := fun Qn hq => by
      refine ⟨_, ed, ?_, hq _ ⟨fun b o e => ?_, ?_⟩⟩
      · rw [List.length_map, List.length_replicate]; exact small1000 (by omega)
      · rw [upd_ne (ne_of_none e nD)]; exact sm _ _ e
      · rw [upd_same, List.replicate_succ', List.map_append]; rfl
    refine ⟨rfl, kept ?_⟩
    refine ⟨_, rfl, rfl, _, rfl, ?_⟩
    rw [str_q]
    by_cases h63 : c = 63
    · subst h63
      rw [decide_eq_true (show V.str ⟨#[63]⟩ = V.str (ch 63) from rfl)]
      exact iteT (out _ fun _ z => z)
    · rw [decide_eq_false (show ¬ V.str ⟨#[c]⟩ = V.str (ch 63) from fun z => h63 (ch_inj (V.str.inj z)))]
      refine iteF ⟨_, rfl, c, rfl, ?_⟩
      have hl : 97 ≤ c ∧ c ≤ 122 := by
        rcases sg with z | z
        · exact absurd z h63
        · exact z
      rw [decide_eq_true hl.1, decide_eq_true hl.2]
      exact out _ fun _ z => z
  · obtain ⟨sm, ed⟩ := hp
    refine ⟨D, _, rfl, SqL.of ed, ?_⟩
    have e : (List.replicate (tx r).cps.toList.length true).all id = true := by simp
    rw [e]
    exact q H' sm
end
/-! ### three_rows -/
instance kdEq : DecidableEq Kd := fun a b => by cases a <;> cases b <;> first | exact .isTrue rfl | exact .isFalse (by intro h; cases h)
abbrev Rows := List (Kd × List Nat)
def rowsK (L : Rows) : List (Key × V) := L.map fun p => (.inr p.1.str, vt p.2)
def rowOf (L : Rows) (n : Nat) (k : Kd) : List Nat := ((L.find? fun p => decide (p.1 = k)).map (·.2)).getD (List.replicate n 63)
theorem Kd.inj {a b : Kd} (h : a.str = b.str) : a = b := by
  cases a <;> cases b <;> first | rfl | exact absurd h (by decide +kernel)
theorem rows_val (k : Kd) : ∀ L : Rows, valV (rowsK L) (.inr k.str) = ((L.find? fun p => decide (p.1 = k)).map (·.2)).map vt
  | [] => rfl
  | (j, r) :: L => by
    by_cases h : j = k
    · subst h
      rw [show rowsK ((j, r) :: L) = (.inr j.str, vt r) :: rowsK L from rfl, valV_pos rfl, List.find?_cons_of_pos (by simp)]
      rfl
    · rw [show rowsK ((j, r) :: L) = (.inr j.str, vt r) :: rowsK L from rfl, valV_neg (fun e => h (Kd.inj (Sum.inr.inj e))), List.find?_cons_of_neg (by simpa using h)]
      exact rows_val k L
theorem rows_there {L : Rows} (nd : (L.map (·.1)).Nodup) {k : Kd} {r : List Nat} (h : (k, r) ∈ L) : L.find? (fun p => decide (p.1 = k)) = some (k, r) := by
  induction L with
  | nil => cases h
  | cons p L ih =>
    obtain ⟨j, z⟩ := p
    obtain ⟨h1, h2⟩ := List.nodup_cons.mp (show (j :: L.map (·.1)).Nodup from nd)
    rcases List.mem_cons.mp h with e | e
    · cases e
      exact List.find?_cons_of_pos (by simp)
    · rw [List.find?_cons_of_neg (by
        have : j ≠ k := fun z => h1 (List.mem_map.mpr ⟨_, e, z.symm⟩)
        simpa using this)]
      exact ih h2 e
theorem rowOf_there {L : Rows} {n : Nat} (nd : (L.map (·.1)).Nodup) {k : Kd} {r : List Nat} (h : (k, r) ∈ L) : rowOf L n k = r := by
  unfold rowOf
  rw [rows_there nd h]
  rfl
theorem lock_back {H H' : Hp} {d : Addr} {u : HO} {od : Obj} (hd : H d = some u) (s : Same (upd H d (.frz od u)) H') : Same H (upd H' d u) := fun b o e => by
  by_cases h : b = d
  · subst h
    rw [hd] at e
    rw [upd_same]; exact e
  · rw [upd_ne h]
    exact s _ _ (by rw [upd_ne h]; exact e)
/-- the tuple ROW_KINDS of the text -/
structure RowT (K : PySem.W.Frag) (mg : Str → Option Value) (a : Addr) : Prop where
  mg : mg "ROW_KINDS" = some (.ref a)
  sq : ∀ H : Hp, SqT K H a [.str "first", .str "between", .str "last"]
def spThree : Sp := fun vs H Q _ => ∃ (d : Addr) (L : Rows) (n : Nat), vs = [.ref d] ∧ H d = some (.dK (rowsK L)) ∧ L ≠ [] ∧ (L.map (·.1)).Nodup ∧ L.length ≤ 3 ∧ (∀ p ∈ L, RowOk p.2 ∧ p.2.length = n) ∧
  ∀ (t : Addr) (H' : Hp), Same H H' → H' t = some (.tup [vt (rowOf L n .first), vt (rowOf L n .between), vt (rowOf L n .last)]) → Q (.ref t) H'
section
variable {P : Program} {w : World} {K : PySem.W.Frag} {mg : Str → Option Value} {base : Heap} {f : Addr} {fd : FuncData}
theorem ok_three {aR : Addr} (F : Fun K "three_rows" "three_rows" s_three_rows f fd) (M : Mgs mg) (Rk : RowT K mg aR) (Dis_row : Df P w K mg base 2 "is_row" ["value"] spRow) : FnOk P w K mg base CX0 3 f fd ["rows"] spThree := by
  refine F.ok sc_three_rows (fun vs H Q E h => ?_) (fun cdv A outer s H vs Q E hr h => ?_)
  · obtain ⟨d, L, n, rfl, _⟩ := h
    rfl
  obtain ⟨d, L, n, rfl, hd, ne, nd, few, ok, q⟩ := h
  refine ⟨_, (pss_cons (ps_lock (ps_for PassesOwn.never rfl (pi_keys (pv 0)) (pg_name (i := 1) sc_three_rows.nd rfl (.inl rfl))
      (pss_one (ps_if (pt_cmpR op_notIn_seq (pv 1) (pe_glob (v := .ref _) rfl Rk.mg rfl) (by rfl))
      (pss_one ps_never) pss_nil))))
    (pss_cons (ps_if (pt_not (pt_truth (pv 0) (by intro _; rfl)))
      (pss_one ps_never) pss_nil)
    (pss_cons (ps_lock (ps_for PassesOwn.never rfl (pi_keys (pv 0)) (pg_name (i := 1) sc_three_rows.nd rfl (.inl rfl))
      (pss_one (ps_if (pt_not (pt_val (pe_call Dis_row.ok (hr.mono (by omega)) rfl Dis_row.g Dis_row.kp Dis_row.b .nil pass0 (pa_cons (pe_dget (Nat.lt_of_le_of_lt (Nat.add_le_add_left (by decide) _) hr.units) (pv 0) (pv 1) (fun _ _ => rfl)) pa_nil))))
      (pss_one ps_never) pss_nil))))
    (pss_cons (ps_set (i := 2) sc_three_rows.nd rfl (.inl rfl) (pe_callTy (call_listD rfl) rfl M.list (by decide +kernel) (pa_cons (pv 0) pa_nil)))
    (pss_cons (ps_set (i := 3) sc_three_rows.nd rfl (.inr rfl) (pe_callB call_len_str rfl M.len PySem.boot_len (pa_cons (pe_dget (Nat.lt_of_le_of_lt (Nat.add_le_add_left (by decide) _) hr.units) (pv 0) (pe_ix ix_list (pv 2) pe_int (fun _ _ => rfl)) (fun _ _ => rfl)) pa_nil)))
    (pss_cons (ps_for PassesOwn.never rfl (pi_list (pv 2)) (pg_name (i := 1) sc_three_rows.nd rfl (.inl rfl))
      (pss_one (ps_if (pt_cmpR op_ne (pe_callB call_len_str rfl M.len PySem.boot_len (pa_cons (pe_dget (Nat.lt_of_le_of_lt (Nat.add_le_add_left (by decide) _) hr.units) (pv 0) (pv 1) (fun _ _ => rfl)) pa_nil)) (pv 3) (nomark _))
      (pss_one ps_never) pss_nil)))
    (pss_one (ps_ret (pe_callTy call_tuple_of rfl M.tuple (by decide +kernel) (pa_cons (pe_lc (own := [("kind", 4)]) (g := gName 4) (tt := tYes) rfl sc_three_rows.nd (pi_tup (pe_glob (v := .ref _) rfl Rk.mg rfl)) (blkOk_by (N := ["rows", "name", "names", "size", "kind"]) (sc := defScope s_three_rows) (by decide +kernel)) (fun _ _ _ _ _ => (pg_name (i := 4) sc_three_rows.nd rfl (.inl rfl))) (fun _ _ _ _ _ => pts_nil) (fun _ _ _ _ _ => (pe_dget2 (Nat.lt_of_le_of_lt (Nat.add_le_add_left (by decide) _) hr.units) (pv 0) (pv 4) (pe_op op_timesS pe_str (pv 3)) ⟨rfl, rfl, rfl, rfl⟩))) pa_nil)))))))))), ?_⟩
  have lK : (rowsK L).length = L.length := List.length_map _
  refine ⟨d, _, hd, trivial, fun od => ?_⟩
  have efz := upd_same (H := H) (a := d) (o := .frz od (.dK (rowsK L)))
  have back : ∀ H', Same (upd H d (.frz od (.dK (rowsK L)))) H' → Same H (upd H' d (.dK (rowsK L))) := fun H' => lock_back hd
  generalize upd H d (.frz od (.dK (rowsK L))) = H1 at efz back ⊢
  refine ⟨_, rfl, d, od, rfl, .inl ⟨_, efz, ?_⟩⟩
  refine for_it (walk_keys (d := d) (o := od) (kvs := rowsK L)) (fun i σ H' => (∃ o1, σ = [some (.ref d), o1, none, none, none]) ∧ H' = H1) ⟨⟨_, rfl⟩, rfl⟩ (fun i σ H' _ hp => by rw [hp.2]; exact efz) (fun i x σ H' H'' hi hp hy => ?_) (fun σ H' hp => ?_)
  · obtain ⟨⟨o1, rfl⟩, e1⟩ := hp
    obtain ⟨e2, ky, v, hk, rfl⟩ := hy
    subst e2
    unfold rowsK at hk
    rw [List.getElem?_map] at hk
    obtain ⟨⟨k, r⟩, hc, he⟩ := Option.map_eq_some_iff.mp hk
    cases he
    refine ⟨_, rfl, aR, _, rfl, .inr (Rk.sq _), rfl, ?_, ?_⟩
    · rfl
    have e : (if true = true then !inV (.str k.str) [.str "first", .str "between", .str "last"] else inV (.str k.str) [.str "first", .str "between", .str "last"]) = false := by
      cases k <;> decide +kernel
    refine ⟨_, rfl, ?_⟩
    show if (if true = true then !inV (.str k.str) [.str "first", .str "between", .str "last"] else inV (.str k.str) [.str "first", .str "between", .str "last"]) = true then _ else _
    rw [e]
    refine iteF ?_
    exact ⟨⟨_, rfl⟩, e1⟩
  · obtain ⟨⟨o1, rfl⟩, rfl⟩ := hp
    refine ⟨efz, ?_⟩
    have s1 := back H' (Same.refl _)
    have hd1 : (upd H' d (.dK (rowsK L))) d = some (.dK (rowsK L)) := upd_same
    clear back efz
    generalize upd H' d (.dK (rowsK L)) = H2 at s1 hd1
    have nek : (!(rowsK L).isEmpty) = true := by
      cases L with
      | nil => exact absurd rfl ne
      | cons _ _ => rfl
    refine ⟨_, rfl, true, .inr (.inr ⟨_, hd1, nek.symm⟩), ?_⟩
    refine iteF ?_
    have val : ∀ {k : Kd} {r : List Nat}, (k, r) ∈ L → valV (rowsK L) (.inr k.str) = some (vt r) := fun {k r} hm => by
      rw [rows_val, rows_there nd hm]; rfl
    have len : ∀ {k : Kd} {r : List Nat}, (k, r) ∈ L → (tx r).length = n := fun {k r} hm => by
      rw [tx_len]; exact (ok _ hm).2
    have n12 : 1 ≤ n ∧ n ≤ 12 := by
      obtain ⟨p, L', rfl⟩ := List.exists_cons_of_ne_nil ne
      obtain ⟨a, b⟩ := ok p List.mem_cons_self
      have := List.length_pos_iff.mpr a.ne
      have := a.few
      omega
    refine ⟨d, _, hd1, trivial, fun od2 => ?_⟩
    have efz2 := upd_same (H := H2) (a := d) (o := .frz od2 (.dK (rowsK L)))
    have back2 : ∀ H', Same (upd H2 d (.frz od2 (.dK (rowsK L)))) H' → Same H2 (upd H' d (.dK (rowsK L))) := fun H' => lock_back hd1
    generalize upd H2 d (.frz od2 (.dK (rowsK L))) = H3 at efz2 back2 ⊢
    refine ⟨_, rfl, d, od2, rfl, .inl ⟨_, efz2, ?_⟩⟩
    refine for_it (walk_keys (d := d) (o := od2) (kvs := rowsK L)) (fun i σ H' => (∃ o1, σ = [some (.ref d), o1, none, none, none]) ∧ Same H3 H') ⟨⟨_, rfl⟩, Same.refl _⟩ (fun i σ H' _ hp => hp.2 _ _ efz2) (fun i x σ H' H'' hi hp hy => ?_) (fun σ H' hp => ?_)
    · obtain ⟨⟨o1, rfl⟩, sm⟩ := hp
      obtain ⟨e2, ky, v, hk, rfl⟩ := hy
      subst e2
      unfold rowsK at hk
      rw [List.getElem?_map] at hk
      obtain ⟨⟨k, r⟩, hc, he⟩ := Option.map_eq_some_iff.mp hk
      cases he
      have hm := List.mem_of_getElem? hc
      refine ⟨_, rfl, _, rfl, d, vt r, rfl, .inl ⟨_, .inr k.str, .inr ⟨od2, sm _ _ efz2⟩, rfl, (val hm).symm⟩, ?_⟩
      refine ⟨r, rfl, (ok _ hm).1, fun H4 s4 => ?_⟩
      refine ⟨_, rfl, iteF ?_⟩
      exact ⟨⟨_, rfl⟩, sm.trans s4⟩
    obtain ⟨⟨o1, rfl⟩, sm⟩ := hp
    refine ⟨sm _ _ efz2, ?_⟩
    have s3 := s1.trans (back2 H' sm)
    have hd3 : (upd H' d (.dK (rowsK L))) d = some (.dK (rowsK L)) := upd_same
    clear back2 efz2 sm
    generalize upd H' d (.dK (rowsK L)) = H5 at s3 hd3
    refine ⟨_, rfl, d, _, rfl, .inl hd3, fun p np => ?_⟩
    have ndp : d ≠ p := ne_of_none hd3 np
    have k1 := same_new np (.lst ((rowsK L).map fun kv => kV kv.1))
    have ep := upd_same (H := H5) (a := p) (o := .lst ((rowsK L).map fun kv => kV kv.1))
    have s6 := s3.trans k1
    have hd6 := k1 _ _ hd3
    generalize upd H5 p (.lst ((rowsK L).map fun kv => kV kv.1)) = H6 at s6 hd6 ep
    have nmE : ((rowsK L).map fun kv => kV kv.1) = L.map fun p => V.str p.1.str := by
      unfold rowsK; rw [List.map_map]; rfl
    rw [nmE] at ep
    obtain ⟨⟨k0, r0⟩, L', eL⟩ := List.exists_cons_of_ne_nil ne
    have hm0 : (k0, r0) ∈ L := by rw [eL]; exact List.mem_cons_self
    have at0 : atI (L.map fun p => V.str p.1.str) 0 = some (.str k0.str) := by
      rw [eL]; exact atI_nat (j := 0) rfl
    refine ⟨_, rfl, _, rfl, p, _, _, _, rfl, rfl, SqL.of ep, at0, d, vt r0, rfl, .inl ⟨_, .inr k0.str, .inl hd6, rfl, (val hm0).symm⟩, ?_⟩
    refine ⟨_, rfl, small (by rw [len hm0]; omega), ?_⟩
    rw [len hm0]
    refine ⟨_, rfl, p, rfl, ⟨_, SqL.of ep⟩, ?_⟩
    refine for_list (K := K) (a := p) (xs := L.map fun p => V.str p.1.str) (fun j σ Hx => ∃ o1, σ = [some (.ref d), o1, some (.ref p), some (.int (n : Int)), none] ∧ Hx = H6) ⟨_, rfl, rfl⟩ (fun j σ Hx _ hp => by obtain ⟨_, _, e⟩ := hp; rw [e]; exact SqL.of ep) (fun j x σ Hx hx hp => ?_) (fun σ Hx hp => ?_)
    · obtain ⟨o2, rfl, e6⟩ := hp
      subst e6
      rw [List.getElem?_map] at hx
      obtain ⟨⟨k, r⟩, hc, he⟩ := Option.map_eq_some_iff.mp hx
      cases he
      have hm := List.mem_of_getElem? hc
      refine ⟨_, rfl, _, rfl, d, vt r, rfl, .inl ⟨_, .inr k.str, .inl hd6, rfl, (val hm).symm⟩, ?_⟩
      refine ⟨_, rfl, small (by rw [len hm]; omega), ?_⟩
      rw [len hm]
      refine ⟨_, rfl, rfl, _, rfl, ?_⟩
      rw [show decide (V.int (n : Int) = V.int (n : Int)) = true from decide_eq_true rfl]
      refine iteF ?_
      exact ⟨_, rfl, rfl⟩
    obtain ⟨o2, rfl, e6⟩ := hp
    subst e6
    refine ⟨aR, rfl, ⟨_, Rk.sq _⟩, fun D nD => ?_⟩
    have kD := same_new nD (.lst [])
    refine lc_tup (K := K) (a := aR) (xs := [.str "first", .str "between", .str "last"]) (fun j H' => Same Hx H' ∧ H' D = some (.lst (([Kd.first, Kd.between, Kd.last].take j).map fun k => vt (rowOf L n k)))) ⟨kD, upd_same⟩ (fun j H' _ hp => Rk.sq _) (fun j x H7 hx7 hp => ?_) (fun H7 hp => ?_)
    · obtain ⟨sm, eD⟩ := hp
      obtain ⟨kk, rfl, hk⟩ : ∃ kk : Kd, x = .str kk.str ∧ [Kd.first, Kd.between, Kd.last][j]? = some kk := by
        match j, hx7 with
        | 0, h => cases h; exact ⟨.first, rfl, rfl⟩
        | 1, h => cases h; exact ⟨.between, rfl, rfl⟩
        | 2, h => cases h; exact ⟨.last, rfl, rfl⟩
      refine ⟨rfl, kept ?_⟩
      refine ⟨_, rfl, d, rfl, .inl ⟨_, .inl (sm _ _ hd6)⟩, _, rfl, _, rfl, 63, n, ?_, rfl, n12.1, by omega, _, .inl ⟨_, .inr kk.str, .inl (sm _ _ hd6), rfl, rfl⟩, ?_⟩
      · rw [str_q]; rfl
      rw [rows_val]
      have ev : (Option.map vt (Option.map (fun x => x.2) (List.find? (fun p => decide (p.1 = kk)) L))).getD (V.str (tx (List.replicate n 63))) = vt (rowOf L n kk) := by
        unfold rowOf
        cases List.find? (fun p => decide (p.1 = kk)) L <;> rfl
      rw [ev]
      refine ⟨_, eD, ?_, fun b o e => ?_, ?_⟩
      · rw [List.length_map, List.length_take]; exact small1000 (by show min j 3 ≤ 1000; omega)
      · rw [upd_ne (ne_of_none e nD)]; exact sm _ _ e
      · rw [upd_same, take_next hk, List.map_append]; rfl
    · obtain ⟨sm, eD⟩ := hp
      refine ⟨D, _, rfl, .inl ⟨SqL.of eD, fun t nt => ?_⟩⟩
      exact q t _ (s6.trans (sm.trans (same_new nt _))) upd_same
end
/-! ### walks, tree_fits, fits -/
def tst (r x : List Nat) : List Bool := (r.zip x).map fun p => decide (p.1 = 63) || decide (p.1 = p.2)
def fit (r x : List Nat) : Bool := (tst r x).all id
def fit3 (a b c : List Nat) (t : B) : Bool := fit a t.pre && (fit b t.mid && fit c t.post)
theorem walk_zipT {K : PySem.W.Frag} {a b : Addr} {xs ys : List V} {n : Nat} (hn : n = min xs.length ys.length) : Walk (RZ.ItzT K a b) n (fun H => SqT K H a xs ∧ SqT K H b ys) (YPair (fun i => xs[i]?) (fun i => ys[i]?)) :=
  ⟨fun i H hi h => ⟨xs, ys, xs[i]'(by omega), ys[i]'(by omega), h.1, h.2, List.getElem?_eq_getElem _, List.getElem?_eq_getElem _⟩, fun H h => ⟨xs, ys, h.1, h.2, by omega⟩, fun i H v H' hi h q => by
    obtain ⟨T, x, y, e1, e2, e3, e4, e5⟩ := q
    exact ⟨T, x, y, e1, e2, e3, e4 xs h.1, e5 ys h.2⟩⟩
theorem tst_len (r x : List Nat) : (tst r x).length ≤ r.length := by
  unfold tst
  rw [List.length_map, List.length_zip]
  omega
theorem in_two (e l : Nat) : inV (vc e) [vc 63, vc l] = (decide (e = 63) || decide (e = l)) := by
  have q : ∀ a b : Nat, eqV (vc a) (vc b) = decide (b = a) := fun a b => by
    by_cases h : b = a
    · subst h
      rw [decide_eq_true rfl]
      show eqV (.str _) (.str _) = true
      simp [eqV]
    · rw [decide_eq_false h]
      show eqV (.str _) (.str _) = false
      have : ¬ ch a = ch b := fun z => h (ch_inj z).symm
      simp [eqV, this]
  unfold inV
  rw [List.any_cons, List.any_cons, List.any_nil, q, q, Bool.or_false]
def spWalksT : Sp := fun vs H Q _ => ∃ (v : V) (t : B) (p : Addr), vs = [v, .ref p] ∧ BAt H v t ∧ t.size ≤ 50 ∧ H p = some (.tup [.str "first", .str "between", .str "last"]) ∧ ∀ (d : Addr) (H' : Hp), Same H H' → H' d = some (.tup [vt t.pre, vt t.mid, vt t.post]) → Q (.ref d) H'
def spWalks : Sp := fun vs H Q E => ∃ ws rest, vs = ws ++ rest ∧ ws.length = ["tree"].length ∧ rest.length ≤ sizeLine ∧ ∀ p, H p = Option.none → spWalksT (ws ++ [V.ref p]) (upd H p (.tup rest)) Q E
structure DfR (P : Program) (w : World) (K : PySem.W.Frag) (mg : Str → Option Value) (base : Heap) (k : Nat) (nm : Str) (sp : Sp) where
  f : Addr
  ok : FnR P w K mg base CX0 k f sp
  kp : PySem.W.keepIn K (.ref f) = true
  g : mg nm = some (.ref f)
def spTreeFits : Sp := fun vs H Q _ => ∃ (v : V) (t : B) (g : Addr) (a b c : List Nat) (n : Nat), vs = [v, .ref g] ∧ BAt H v t ∧ t.size ≤ 30 ∧ H g = some (.tup [vt a, vt b, vt c]) ∧ a.length = n ∧ b.length = n ∧ c.length = n ∧ n ≤ 12 ∧ ∀ H', Same H H' → Q (.bl (decide (t.size = n) && fit3 a b c t)) H'
def spFits (ks : List Kd) : List V → List V → Hp → VK → Prop := fun vs zs H Q => ∃ (v : V) (t : B) (L : Rows) (n : Nat), vs = [v] ∧ L.map (·.1) = ks ∧ zs = L.map (fun p => vt p.2) ∧ BAt H v t ∧ t.size ≤ 30 ∧ L ≠ [] ∧ (L.map (·.1)).Nodup ∧ L.length ≤ 3 ∧ (∀ p ∈ L, RowOk p.2 ∧ p.2.length = n) ∧
  ∀ H', Same H H' → Q (.bl (decide (t.size = n) && fit3 (rowOf L n .first) (rowOf L n .between) (rowOf L n .last) t)) H'
theorem rowOf_len {L : Rows} {n : Nat} (ok : ∀ p ∈ L, RowOk p.2 ∧ p.2.length = n) (k : Kd) : (rowOf L n k).length = n := by
  unfold rowOf
  cases h : L.find? (fun p => decide (p.1 = k)) with
  | none => exact List.length_replicate
  | some p => exact (ok p (List.mem_of_find?_eq_some h)).2
section
variable {P : Program} {w : World} {K : PySem.W.Frag} {mg : Str → Option Value} {base : Heap} {f : Addr} {fd : FuncData}
theorem sc_walks : FnScope ["tree", "kinds", "kind"] ["tree", "kinds"] (defScope s_walks) := ⟨rfl, rfl, rfl, by decide +kernel, rfl, by decide +kernel, by decide +kernel⟩
theorem ok_walks (F : Fun K "walks" "walks" s_walks f fd) (M : Mgs mg) (Dwalk : Df P w K mg base 62 "walk" ["tree", "kind"] spWalk) : FnR P w K mg base CX0 63 f spWalks := by
  obtain ⟨oc, od, kV, doc, pm, an, cdv, ct, osl, rfl, lk, hcd⟩ := F.ex
  refine StX.fn_star (k := 62) (ps := ["tree"]) (pv := "kinds") (sp := spWalksT) lk hcd sc_walks StX.cxUp_none (fun us rest hl => by match us, hl with | [_], _ => cases rest <;> rfl) fun A outer s H vs Q E hr h => ?_
  obtain ⟨v, t, p, rfl, hv, hz, ep, q⟩ := h
  refine ⟨_, ((pss_one (ps_ret (pe_callTy call_tuple_of rfl M.tuple (by decide +kernel) (pa_cons (pe_lc (own := [("kind", 2)]) (g := gName 2) (tt := tYes) rfl sc_walks.nd (pi_tup (pv 1)) (blkOk_by (N := ["tree", "kinds", "kind"]) (sc := defScope s_walks) (by decide +kernel)) (fun _ _ _ _ _ => (pg_name (i := 2) sc_walks.nd rfl (.inl rfl))) (fun _ _ _ _ _ => pts_nil) (fun _ _ _ _ _ => (pe_call Dwalk.ok (hr.mono (by omega)) rfl Dwalk.g Dwalk.kp Dwalk.b .nil pass0 (pa_cons (pv 0) (pa_cons (pv 2) pa_nil))))) pa_nil)))) : PSs (cxOf CX0 P w K mg base ["tree", "kinds", "kind"] "walks" (defScope s_walks) f cdv A outer s H E).nox (defBody s_walks) _).nox, ?_⟩
  refine ⟨_, rfl, p, rfl, ⟨_, SqT.of ep⟩, fun D nD => ?_⟩
  have k1 := same_new nD (.lst [])
  refine lc_tup (K := K) (a := p) (xs := [.str "first", .str "between", .str "last"]) (fun i H' => Same H H' ∧ H' D = some (.lst ([vt t.pre, vt t.mid, vt t.post].take i))) ⟨k1, upd_same⟩ (fun i H' _ hq => SqT.of (hq.1 _ _ ep)) (fun i x H1 hx hq => ?_) (fun H1 hq => ?_)
  · obtain ⟨s1, e1⟩ := hq
    obtain ⟨kk, rfl, hk⟩ : ∃ kk : Kd, x = .str kk.str ∧ ([vt t.pre, vt t.mid, vt t.post])[i]? = some (vt (t.wk kk)) := by
      match i, hx with
      | 0, h => cases h; exact ⟨.first, rfl, rfl⟩
      | 1, h => cases h; exact ⟨.between, rfl, rfl⟩
      | 2, h => cases h; exact ⟨.last, rfl, rfl⟩
    refine ⟨rfl, kept ?_⟩
    refine ⟨_, rfl, _, rfl, v, t, kk, rfl, hv.same s1, hz, fun H2 s2 => ?_⟩
    refine ⟨_, s2 _ _ e1, ?_, fun b u e => ?_, ?_⟩
    · rw [List.length_take]; exact small1000 (by show min i 3 ≤ 1000; omega)
    · rw [upd_ne (ne_of_none e nD)]; exact s2 _ _ (s1 _ _ e)
    · rw [upd_same, take_next hk]
  · obtain ⟨s1, e1⟩ := hq
    refine ⟨D, _, rfl, .inl ⟨SqL.of e1, fun d nd => ?_⟩⟩
    exact q d _ (s1.trans (same_new nd _)) upd_same
theorem ok_treeFits {aR : Addr} (F : Fun K "tree_fits" "tree_fits" s_tree_fits f fd) (M : Mgs mg) (Rk : RowT K mg aR) (Dsize_of : Df P w K mg base 60 "size_of" ["tree"] (fun vs H Q _ => ∃ (v : V) (t : B), vs = [v] ∧ BAt H v t ∧ t.size < 60 ∧ Q (.int (t.size : Int)) H))
    (Dwalks : DfR P w K mg base 63 "walks" spWalks) : FnOk P w K mg base CX0 64 f fd ["tree", "given"] spTreeFits := by
  refine F.ok sc_tree_fits (fun vs H Q E h => ?_) (fun cdv A outer s H vs Q E hr h => ?_)
  · obtain ⟨v, t, g, a, b, c, n, rfl, _⟩ := h
    rfl
  obtain ⟨v, t, g, a, b, c, n, rfl, hv, hz, eg, la, lb, lc, n12, q⟩ := h
  refine ⟨_, (pss_cons (ps_if (pt_cmpR op_ne (pe_call Dsize_of.ok (hr.mono (by omega)) rfl Dsize_of.g Dsize_of.kp Dsize_of.b .nil pass0 (pa_cons (pv 0) pa_nil)) (pe_callB call_len_str rfl M.len PySem.boot_len (pa_cons (pe_ix ix_tup (pv 1) pe_int (fun _ _ => rfl)) pa_nil)) (nomark _))
      (pss_one (ps_ret pe_bl)) pss_nil)
    (pss_cons (ps_set (i := 2) sc_tree_fits.nd rfl (.inl rfl) (StX.pe_callS2 (E := E0) Dwalks.ok (hr.mono (by omega)) Dwalks.kp rfl Dwalks.g pass0 (pa_cons (pv 0) (StX.pa_star (pe_glob (v := .ref _) rfl Rk.mg rfl) pa_nil))))
    (pss_one (ps_ret (pe_callB (cr_all rfl) rfl M.all (by decide +kernel) (pa_cons (pe_lc2 (own := [("row", 3), ("text", 4), ("sign", 5), ("label", 6)]) (vs1 := [5, 6]) (g := gTup K 2 (gCons (gName 3) (gCons (gName 4) gNil))) (tt := tYes) (g1 := gTup K 2 (gCons (gName 5) (gCons (gName 6) gNil))) (tt1 := tYes) rfl sc_tree_fits.nd (RZ.pi_zipA rfl M.zip (pa_cons (pv 1) (pa_cons (pv 2) pa_nil))) (blkOk_by (N := ["tree", "given", "told", "row", "text", "sign", "label"]) (sc := defScope s_tree_fits) (by decide +kernel)) (by decide) (fun _ _ _ _ _ => (pg_tup rfl (pgs_cons (pg_name (i := 3) sc_tree_fits.nd rfl (.inl rfl)) (pgs_cons (pg_name (i := 4) sc_tree_fits.nd rfl (.inl rfl)) pgs_nil)))) (fun _ _ _ _ _ => pts_nil) (fun _ _ _ _ _ => (pi_zipS rfl M.zip (pa_cons (pv 3) (pa_cons (pv 4) pa_nil)))) (fun _ _ _ _ _ => (pg_tup rfl (pgs_cons (pg_name (i := 5) sc_tree_fits.nd rfl (.inl rfl)) (pgs_cons (pg_name (i := 6) sc_tree_fits.nd rfl (.inl rfl)) pgs_nil)))) (fun _ _ _ _ _ => pts_nil) (fun _ _ _ _ _ => (pe_cmpR (show OpR _ (compareOp .In) (rIn K false) from op_in_seq) (pv 5) (pe_tup (pa_cons pe_str (pa_cons (pv 6) pa_nil))) (by rfl)))) pa_nil)))))), ?_⟩
  let prs : List (List Nat × List Nat) := [(a, t.pre), (b, t.mid), (c, t.post)]
  have prs_len : ∀ i, ((prs.take i).flatMap fun p => tst p.1 p.2).length ≤ 36 := by
    intro i
    have h1 := tst_len a t.pre
    have h2 := tst_len b t.mid
    have h3 := tst_len c t.post
    match i with
    | 0 => exact Nat.zero_le _
    | 1 => show (tst a t.pre ++ []).length ≤ 36; rw [List.append_nil]; omega
    | 2 => show (tst a t.pre ++ (tst b t.mid ++ [])).length ≤ 36; rw [List.append_nil, List.length_append]; omega
    | n + 3 =>
      rw [List.take_of_length_le (show prs.length ≤ n + 3 by show 3 ≤ n + 3; omega)]
      show (tst a t.pre ++ (tst b t.mid ++ (tst c t.post ++ []))).length ≤ 36
      rw [List.append_nil, List.length_append, List.length_append]; omega
  refine ⟨_, rfl, v, t, rfl, hv, by omega, _, rfl, g, _, _, _, rfl, rfl, SqT.of eg, atI_nat (j := 0) rfl, _, rfl, small (by rw [tx_len]; omega), rfl, _, rfl, ?_⟩
  rw [tx_len, la]
  by_cases hs : t.size = n
  · rw [decide_eq_true (show V.int (t.size : Int) = V.int (n : Int) by rw [hs])]
    refine iteF ?_
    rw [decide_eq_true hs] at q
    refine ⟨_, rfl, aR, _, rfl, .inl (Rk.sq _), [v], _, rfl, rfl, (by show 3 ≤ sizeLine; decide), fun p np => ?_⟩
    have k1 := same_new np (.tup [.str "first", .str "between", .str "last"])
    refine ⟨v, t, p, rfl, hv.same k1, by omega, upd_same, fun d H1 s1 ed => ?_⟩
    have s2 := k1.trans s1
    have eg1 := s2 _ _ eg
    clear k1 s1 np
    refine ⟨_, rfl, _, rfl, g, d, _, _, rfl, .inr ⟨SqT.of eg1, SqT.of ed, fun D nD => ?_⟩⟩
    have kD := same_new nD (.lst [])
    refine lc2_it (walk_zipT (K := K) (a := g) (b := d) (xs := [vt a, vt b, vt c]) (ys := [vt t.pre, vt t.mid, vt t.post]) rfl) (fun i H' => Same H1 H' ∧ H' D = some (.lst (((prs.take i).flatMap fun p => tst p.1 p.2).map V.bl))) ⟨kD, upd_same⟩ (fun i H' _ hp => ⟨SqT.of (hp.1 _ _ eg1), SqT.of (hp.1 _ _ ed)⟩) (fun i x H2 H2' hi hp hy => ?_) (fun H2 hp => ?_)
    · obtain ⟨s3, eD⟩ := hp
      obtain ⟨T, x, y, rfl, nT, rfl, hx, hy⟩ := hy
      obtain ⟨r, z, rfl, rfl, hpz⟩ : ∃ r z, x = vt r ∧ y = vt z ∧ prs[i]? = some (r, z) := by
        match i, hx, hy with
        | 0, h, g => cases h; cases g; exact ⟨_, _, rfl, rfl, rfl⟩
        | 1, h, g => cases h; cases g; exact ⟨_, _, rfl, rfl, rfl⟩
        | 2, h, g => cases h; cases g; exact ⟨_, _, rfl, rfl, rfl⟩
      have kT := same_new nT (.tup [vt r, vt z])
      have rl : r.length = n := by
        match i, hpz with
        | 0, h => cases h; exact la
        | 1, h => cases h; exact lb
        | 2, h => cases h; exact lc
      have il : i < 3 := hi
      have pl := prs_len i
      refine ⟨T, _, rfl, SqT.of upd_same, rfl, _, _, rfl, _, _, rfl, rfl, rfl, kept ?_⟩
      refine ⟨_, rfl, _, rfl, _, _, rfl, ?_⟩
      refine in_it (walk_zipS (x := tx r) (y := tx z) rfl) (fun j H' => Same H1 H' ∧ H' D = some (.lst ((((prs.take i).flatMap fun p => tst p.1 p.2) ++ (tst r z).take j).map V.bl))) ⟨s3.trans kT, by rw [List.take_zero, List.append_nil]; exact kT _ _ eD⟩ (fun _ _ _ _ => trivial) (fun j y H3 H3' hj hp hy => ?_) (fun H3 hp => ?_)
      · obtain ⟨s4, eD3⟩ := hp
        obtain ⟨q, e, l, rfl, nq, rfl, he, hl⟩ := hy
        have he' : r[j]? = some e := by rw [← he]; simp [tx]
        have hl' : z[j]? = some l := by rw [← hl]; simp [tx]
        have hz : (tst r z)[j]? = some (decide (e = 63) || decide (e = l)) := by
          unfold tst
          rw [List.getElem?_map, List.getElem?_zip_eq_some (z := (e, l)) |>.mpr ⟨he', hl'⟩]
          rfl
        have kq := same_new nq (.tup [vc e, vc l])
        refine ⟨q, _, rfl, SqT.of upd_same, rfl, _, _, rfl, _, _, rfl, rfl, rfl, kept ?_⟩
        refine ⟨_, rfl, _, rfl, (by show 2 ≤ sizeLine; decide), fun m nm => ⟨m, _, rfl, .inr (SqT.of upd_same), rfl, rfl, ?_⟩⟩
        have ev : (if false = true then !inV (.str ⟨#[e]⟩) [V.str (Str.ofString "?"), .str ⟨#[l]⟩] else inV (.str ⟨#[e]⟩) [V.str (Str.ofString "?"), .str ⟨#[l]⟩]) = (decide (e = 63) || decide (e = l)) := by
          rw [str_q]
          exact in_two e l
        show ∃ acc, _
        rw [ev]
        have km := same_new nm (.tup [V.str (Str.ofString "?"), vc l])
        refine ⟨_, km _ _ (kq _ _ eD3), ?_, fun b' o e' => ?_, ?_⟩
        · rw [List.length_map, List.length_append, List.length_take]
          have := tst_len r z
          exact small1000 (by omega)
        · rw [upd_ne (ne_of_none e' nD)]; exact km _ _ (kq _ _ (s4 _ _ e'))
        · rw [upd_same, take_next hz]
          simp only [List.map_append, List.map_cons, List.map_nil, List.append_assoc]
      · obtain ⟨s4, eD3⟩ := hp
        refine ⟨s4, ?_⟩
        rw [eD3, take_next hpz, List.flatMap_append]
        have e1 : (tst r z).take (min (tx r).cps.size (tx z).cps.size) = tst r z := by
          refine List.take_of_length_le ?_
          unfold tst
          rw [List.length_map, List.length_zip, tx_size, tx_size]
          exact Nat.le_refl _
        rw [e1]
        show _ = some (HO.lst (List.map V.bl (_ ++ (tst r z ++ []))))
        rw [List.append_nil]
    · obtain ⟨s3, eD⟩ := hp
      refine ⟨D, _, rfl, SqL.of eD, ?_⟩
      have ea : ((prs.take (min [vt a, vt b, vt c].length [vt t.pre, vt t.mid, vt t.post].length)).flatMap fun p => tst p.1 p.2).all id = fit3 a b c t := by
        show (tst a t.pre ++ (tst b t.mid ++ (tst c t.post ++ []))).all id = _
        rw [List.append_nil, List.all_append, List.all_append]
        rfl
      rw [ea]
      exact q _ (s2.trans s3)
  · rw [decide_eq_false (fun z => hs (by have := V.int.inj z; omega))]
    refine iteT ?_
    rw [decide_eq_false hs] at q
    exact q H (Same.refl _)
theorem rows_zip (L : Rows) : (((L.map (·.1)).map Kd.str).zip (L.map fun p => vt p.2)).map (fun x => ((.inr x.1 : Key), x.2)) = rowsK L := by
  induction L with
  | nil => rfl
  | cons p L ih => exact congrArg (_ :: ·) ih
theorem sc_fits : FnScope ["tree", "rows"] ["tree", "rows"] (defScope s_fits) := ⟨rfl, rfl, rfl, by decide +kernel, rfl, by decide +kernel, by decide +kernel⟩
theorem ok_fits {ks : List Kd} (h3 : ks.length ≤ 3) (F : Fun K "fits" "fits" s_fits f fd) (Bk : KwBind fd ["tree"] "rows" (ks.map Kd.str)) (Dthree_rows : Df P w K mg base 3 "three_rows" ["rows"] spThree) (Dtree_fits : Df P w K mg base 64 "tree_fits" ["tree", "given"] spTreeFits) :
    FnKw P w K mg base 65 f 1 (ks.map Kd.str) (spFits ks) := by
  refine fnKw (k := 64) F Bk (by rw [List.length_map]; omega) sc_fits fun cdv A outer s H vs zs d Q hr hd hl h => ?_
  obtain ⟨H0, n0, eH, v, t, L, n, rfl, rfl, rfl, hv, hz, ne, nd, few, ok, q⟩ := h
  refine ⟨_, (pss_one (ps_ret (pe_call Dtree_fits.ok (hr.mono (by omega)) rfl Dtree_fits.g Dtree_fits.kp Dtree_fits.b .nil pass0 (pa_cons (pv 0) (pa_cons (pe_call Dthree_rows.ok (hr.mono (by omega)) rfl Dthree_rows.g Dthree_rows.kp Dthree_rows.b .nil pass0 (pa_cons (pv 1) pa_nil)) pa_nil))))), ?_⟩
  rw [rows_zip] at hd eH
  have k0 := same_new n0 (.dK (rowsK L))
  rw [← eH] at k0
  refine ⟨_, rfl, _, rfl, d, L, n, rfl, hd, ne, nd, few, ok, fun g H1 s1 eg => ?_⟩
  have n12 : n ≤ 12 := by
    obtain ⟨p, L', rfl⟩ := List.exists_cons_of_ne_nil ne
    obtain ⟨a, b⟩ := ok p List.mem_cons_self
    have := a.few
    omega
  refine ⟨v, t, g, _, _, _, n, rfl, (hv.same k0).same s1, hz, eg, rowOf_len ok .first, rowOf_len ok .between, rowOf_len ok .last, n12, fun H2 s2 => ?_⟩
  exact q H2 (k0.trans (s1.trans s2))
end
/-! ### the law -/
theorem rd_same {H H' : Hp} {a : Addr} {u : HO} (k : Same H H') (h : Rd H a u) : Rd H' a u := by
  rcases h with h | ⟨o, h⟩
  · exact .inl (k _ _ h)
  · exact .inr ⟨o, k _ _ h⟩
theorem sqL_same {K : PySem.W.Frag} {H H' : Hp} {a : Addr} {xs : List V} (k : Same H H') (h : SqL K H a xs) : SqL K H' a xs := h.imp (rd_same k) id
theorem sqT_same {K : PySem.W.Frag} {H H' : Hp} {a : Addr} {xs : List V} (k : Same H H') (h : SqT K H a xs) : SqT K H' a xs := h.imp (rd_same k) id
mutual
theorem dp_same {K : PySem.W.Frag} {H H' : Hp} (k : Same H H') : ∀ (d : PyData) (v : V), Dp K H v d → Dp K H' v d
  | .none, _, h => by cases h; exact .non
  | .bool _, _, h => by cases h; exact .bl _
  | .int _, _, h => by cases h; exact .int _
  | .str _, _, h => by cases h; exact .str _
  | .list ds, _, h => by
    cases h with
    | lst q hs => exact .lst (sqL_same k q) (dpA_same k ds _ hs)
  | .tuple ds, _, h => by
    cases h with
    | tup q hs => exact .tup (sqT_same k q) (dpA_same k ds _ hs)
  | .dict _, _, h => by cases h
theorem dpA_same {K : PySem.W.Frag} {H H' : Hp} (k : Same H H') : ∀ (ds : List PyData) (vs : List V), DpAll K H vs ds → DpAll K H' vs ds
  | [], _, h => by cases h; exact .nil
  | d :: ds, _, h => by
    cases h with
    | cons a b => exact .cons (dp_same k d _ a) (dpA_same k ds _ b)
end
theorem catA_any {K : PySem.W.Frag} {H : Hp} {a b : Addr} {xs ys : List V} {Q : VK} (hx : H a = some (.tup xs)) (hy : H b = some (.tup ys)) (hz : xs.length + ys.length ≤ sizeLine)
    (q : ∀ (p : Addr) (H' : Hp), Same H H' → H' p = some (.tup (xs ++ ys)) → Q (.ref p) H') : rCatA K (.ref a) (.ref b) H Q :=
  ⟨a, b, xs, ys, rfl, rfl, SqT.of hx, SqT.of hy, hz, fun e => q b H (Same.refl H) (by rw [e]; exact hy), fun _ e => q a H (Same.refl H) (by rw [e, List.append_nil]; exact hx), fun _ _ p np => q p _ (same_new np _) upd_same⟩
theorem Dk.apart {C a b : Addr} {H H' : Hp} {ts : List B} {t : B} {es : List Ed} {bu : Bool} {xs : List V} (k : But b H H') (eb : H b = some (.lst xs)) (d : Dk C H a ts t es bu) : Dk C H' a ts t es bu := by
  obtain ⟨dx, ta, td, vs, v, ds, h1, h2, h3, h4, h5, h6⟩ := d
  have kt : KeepT H H' := But.keepL eb k
  exact ⟨dx, ta, td, vs, v, ds, k _ _ (ne_of h1 eb (by intro z; cases z)) h1, kt _ _ h2, kt _ _ h3, h4.keep kt, h5.keep kt, h6.keep kt⟩
/-! ### ascending texts -/
def asc (zs : List Nat) : Bool := ((zs.zip (zs.drop 1)).map fun q => decide (q.1 < q.2)).all id
def spAsc (K : PySem.W.Frag) : Sp := fun vs H Q _ =>
  (∃ zs : List Nat, vs = [.str (tx zs)] ∧ zs.length ≤ 60 ∧ ∀ H', Same H H' → Q (.bl (asc zs)) H') ∨
  (∃ (a : Addr) (i j k : Int), vs = [.ref a] ∧ SqT K H a [.int i, .int j, .int k] ∧ ∀ H', Same H H' → Q (.bl (decide (i < j) && decide (j < k))) H')
theorem bl_ints (a b : Bool) : ([a, b].all id) = (a && b) := by cases a <;> cases b <;> rfl
section
variable {P : Program} {w : World} {K : PySem.W.Frag} {mg : Str → Option Value} {base : Heap} {f : Addr} {fd : FuncData}
theorem ok_asc {k : Nat} (F : Fun K "is_ascending" "is_ascending" s_is_ascending f fd) (M : Mgs mg) : FnOk P w K mg base CX0 (k + 1) f fd ["items"] (spAsc K) := by
  refine F.ok sc_is_ascending (fun vs H Q E h => ?_) (fun cdv A outer s H vs Q E hr h => ?_)
  · rcases h with ⟨zs, rfl, _⟩ | ⟨a, i, j, k, rfl, _⟩ <;> rfl
  refine ⟨_, (pss_one (ps_ret (pe_callB (cr_all rfl) rfl M.all (by decide +kernel) (pa_cons (pe_lc (own := [("one", 1), ("other", 2)]) (g := gTup K 2 (gCons (gName 1) (gCons (gName 2) gNil))) (tt := tYes) rfl sc_is_ascending.nd (pi_or (pi_zipS rfl M.zip (pa_cons (pv 0) (pa_cons (pe_slice sl_str (pv 0) (po_some pe_int) po_none) pa_nil))) (RZ.pi_zipA rfl M.zip (pa_cons (pv 0) (pa_cons (pe_slice sl_tupA (pv 0) (po_some pe_int) po_none) pa_nil)))) (blkOk_by (N := ["items", "one", "other"]) (sc := defScope s_is_ascending) (by decide +kernel)) (fun _ _ _ _ _ => (pg_tup rfl (pgs_cons (pg_name (i := 1) sc_is_ascending.nd rfl (.inl rfl)) (pgs_cons (pg_name (i := 2) sc_is_ascending.nd rfl (.inl rfl)) pgs_nil)))) (fun _ _ _ _ _ => pts_nil) (fun _ _ _ _ _ => (pe_cmpR (op_lt_str.or op_lt) (pv 1) (pv 2) (nomark _)))) pa_nil)))), ?_⟩
  rcases h with ⟨zs, rfl, hl, q⟩ | ⟨a, i, j, k, rfl, ha, q⟩
  · have lz : (tx zs).length ≤ sizeLine := small (by rw [tx_len]; omega)
    refine .inl ⟨_, rfl, _, rfl, 1, rfl, _, rfl, lz, _, _, rfl, fun D nD => ?_⟩
    rw [show (1 : Int) = ((1 : Nat) : Int) from rfl, tx_from]
    have q1 := same_new nD (.lst [])
    refine lc_it (walk_zipS (x := tx zs) (y := tx (zs.drop 1)) rfl) (fun i H' => Same H H' ∧ H' D = some (.lst ((((zs.zip (zs.drop 1)).take i).map fun q => decide (q.1 < q.2)).map V.bl))) ⟨q1, upd_same⟩ (fun _ _ _ _ => trivial) (fun i x H' H'' hi hp hy => ?_) (fun H' hp => ?_)
    · obtain ⟨sm, ed⟩ := hp
      obtain ⟨p, c, d, rfl, np, rfl, hc, hd⟩ := hy
      have hc' : zs[i]? = some c := by rw [← hc]; simp [tx]
      have hd' : (zs.drop 1)[i]? = some d := by rw [← hd]; simp [tx]
      have q2 := same_new np (.tup [.str ⟨#[c]⟩, .str ⟨#[d]⟩])
      have hz : (zs.zip (zs.drop 1))[i]? = some (c, d) := List.getElem?_zip_eq_some.mpr ⟨hc', hd'⟩
      have hi' : i < zs.length := (List.getElem?_eq_some_iff.mp hc').1
      refine ⟨p, _, rfl, SqT.of upd_same, rfl, _, _, rfl, _, _, rfl, rfl, rfl, kept ?_⟩
      refine ⟨_, rfl, _, rfl, .inl ⟨_, _, rfl, rfl, _, q2 _ _ ed, ?_, fun b o e => ?_, ?_⟩⟩
      · rw [List.length_map, List.length_map, List.length_take]; exact small1000 (by omega)
      · rw [upd_ne (ne_of_none e nD)]; exact q2 _ _ (sm _ _ e)
      · rw [upd_same, List.take_succ, hz, List.map_append, List.map_append]
        show _ = some (HO.lst (_ ++ [V.bl (decide (c < d))]))
        rw [show V.bl (decide ((⟨#[c]⟩ : Str).cps.toList < (⟨#[d]⟩ : Str).cps.toList)) = V.bl (decide (c < d)) from congrArg V.bl (ch_lt c d)]
    · obtain ⟨sm, ed⟩ := hp
      refine ⟨D, _, rfl, SqL.of ed, ?_⟩
      have e : (zs.zip (zs.drop 1)).take (min (tx zs).cps.size (tx (zs.drop 1)).cps.size) = zs.zip (zs.drop 1) := by
        refine List.take_of_length_le ?_
        rw [List.length_zip, tx_size, tx_size]
        exact Nat.le_refl _
      rw [e]
      exact q H' sm
  · refine .inr ⟨_, rfl, _, rfl, 1, rfl, a, _, rfl, ha, fun hw => ?_, fun _ b nb => ?_⟩
    · exact absurd (show HT.sIx 3 0 (some 1) = 0 from hw.1) (by decide)
    have q0 := same_new nb (.tup [.int j, .int k])
    refine ⟨a, b, _, _, rfl, .inr ⟨sqT_same q0 ha, SqT.of upd_same, fun D nD => ?_⟩⟩
    have q1 := same_new nD (.lst [])
    have ha1 := sqT_same q0 ha
    have eb : SqT K (upd H b (.tup [.int j, .int k])) b [.int j, .int k] := SqT.of upd_same
    refine lc_it (walk_zipT (K := K) (a := a) (b := b) (xs := [.int i, .int j, .int k]) (ys := [.int j, .int k]) rfl) (fun n H' => Same (upd H b (.tup [.int j, .int k])) H' ∧ H' D = some (.lst (([decide (i < j), decide (j < k)].take n).map V.bl))) ⟨q1, upd_same⟩ (fun _ H' _ hp => ⟨sqT_same hp.1 ha1, sqT_same hp.1 eb⟩) (fun n x H' H'' hi hp hy => ?_) (fun H' hp => ?_)
    · obtain ⟨sm, ed⟩ := hp
      obtain ⟨p, x, y, rfl, np, rfl, hx, hy⟩ := hy
      have q2 := same_new np (.tup [x, y])
      have hn : n = 0 ∨ n = 1 := by
        have : n < 2 := hi
        omega
      rcases hn with rfl | rfl
      · cases hx
        cases hy
        refine ⟨p, _, rfl, SqT.of upd_same, rfl, _, _, rfl, _, _, rfl, rfl, rfl, kept ?_⟩
        refine ⟨_, rfl, _, rfl, .inr ⟨_, _, rfl, rfl, _, q2 _ _ ed, (by show 0 < sizeLine; decide), fun b o e => ?_, ?_⟩⟩
        · rw [upd_ne (ne_of_none e nD)]; exact q2 _ _ (sm _ _ e)
        · rw [upd_same]; rfl
      · cases hx
        cases hy
        refine ⟨p, _, rfl, SqT.of upd_same, rfl, _, _, rfl, _, _, rfl, rfl, rfl, kept ?_⟩
        refine ⟨_, rfl, _, rfl, .inr ⟨_, _, rfl, rfl, _, q2 _ _ ed, (by show 1 < sizeLine; decide), fun b o e => ?_, ?_⟩⟩
        · rw [upd_ne (ne_of_none e nD)]; exact q2 _ _ (sm _ _ e)
        · rw [upd_same]; rfl
    · obtain ⟨sm, ed⟩ := hp
      refine ⟨D, [decide (i < j), decide (j < k)], rfl, SqL.of ed, ?_⟩
      rw [bl_ints]
      exact q H' (q0.trans sm)
end
def spSearch : Sp := fun vs H Q _ => ∃ (v : V) (t : B), vs = [v] ∧ BAt H v t ∧ t ≠ .nil ∧ t.size ≤ 50 ∧ ∀ H', Same H H' → Q (.bl (asc t.mid)) H'
section
variable {P : Program} {w : World} {K : PySem.W.Frag} {mg : Str → Option Value} {base : Heap} {f : Addr} {fd : FuncData}
theorem ok_search (F : Fun K "is_search_tree" "is_search_tree" s_is_search_tree f fd) (Dwalk : Df P w K mg base 62 "walk" ["tree", "kind"] spWalk) (Dis_ascending : Df P w K mg base 1 "is_ascending" ["items"] (spAsc K)) : FnOk P w K mg base CX0 63 f fd ["tree"] spSearch := by
  refine F.ok sc_is_search_tree (fun vs H Q E h => ?_) (fun cdv A outer s H vs Q E hr h => ?_)
  · obtain ⟨v, t, rfl, _⟩ := h
    rfl
  obtain ⟨v, t, rfl, hv, hn, hz, q⟩ := h
  refine ⟨_, (pss_one (ps_ret (pe_and (pe_cmpR op_notN (pv 0) pe_non (nomark _)) (pe_one (pe_call Dis_ascending.ok (hr.mono (by omega)) rfl Dis_ascending.g Dis_ascending.kp Dis_ascending.b .nil pass0 (pa_cons (pe_call Dwalk.ok (hr.mono (by omega)) rfl Dwalk.g Dwalk.kp Dwalk.b .nil pass0 (pa_cons (pv 0) (pa_cons pe_str pa_nil))) pa_nil)))))), ?_⟩
  rcases hv.inv with ⟨rfl, rfl⟩ | ⟨a, l, r, x, tl, tr, rfl, rfl, ea, hl, hr'⟩
  · exact absurd rfl hn
  · refine ⟨_, rfl, rfl, _, rfl, iteT ?_⟩
    refine ⟨_, rfl, _, _, .between, rfl, hv, hz, fun H1 s1 => ?_⟩
    refine .inl ⟨_, rfl, ?_, fun H2 s2 => q H2 (s1.trans s2)⟩
    have e := B.wk_len .between (.node tl x tr)
    omega
end
/-! ### sorted(set(text)) -/
section
open PySem.Froz
/-- the set of texts at a: its members are l; its table rises and can be walked -/
def SetX (P : Program) (w : World) (h : Heap) (a : Addr) (l : List Str) : Prop :=
  ∃ D : SD, h.get? a = some (sObj "set" D) ∧ TxOk P w D l ∧ Ris D.2.2.place.toList ∧ (w.params.followText "set-order" = true ∨ D.2.2.led = true)
theorem SetX.at {P : Program} {w : World} {h h' : Heap} {a : Addr} {l : List Str} (R : SetX P w h a l) (k : ∀ o, h.get? a = some o → h'.get? a = some o) : SetX P w h' a l := by
  obtain ⟨D, ho, r⟩ := R
  exact ⟨D, k _ ho, r⟩
theorem add_tab {w : World} {h : Int} {v : Value} {D : SD} (r : Ris D.2.2.place.toList) (l : w.params.followText "set-order" = true ∨ D.2.2.led = true) :
    Ris (addTx h v D).2.2.place.toList ∧ (w.params.followText "set-order" = true ∨ (addTx h v D).2.2.led = true) := by
  obtain ⟨es, ep, t⟩ := D
  have r1 := layNew_ris t es h v r
  have l1 := layNew_led t es h v
  unfold addTx
  dsimp only at l ⊢
  generalize layNew t es h v = L at r1 l1 ⊢
  obtain ⟨es1, t1, wd, gv⟩ := L
  dsimp only at r1 l1 ⊢
  generalize ht2 : (if t1.plain = true then ({ t1 with plain := false } : SetTable) else t1) = t2
  have r2 : Ris t2.place.toList ∧ t2.led = t1.led := by
    rw [← ht2]
    split
    · exact ⟨r1, rfl⟩
    · exact ⟨r1, rfl⟩
  unfold tailTx
  split
  · exact ⟨relayAll_ris t2 es1 _, l.imp id fun z => by show (relayAll t2 es1 _).2.1.led = true; rw [relayAll_led, r2.2, l1]; exact z⟩
  · exact ⟨r2.1, l.imp id fun z => by show t2.led = true; rw [r2.2, l1]; exact z⟩
section
variable {P : Program} {w : World} {A : Around} {E : Value → Shared → Prop} {s : Shared}
theorem setX_add {a : Addr} {l : List Str} {k : Str} {u : Tok} {Q : Bool → Shared → Prop} (R : SetX P w s.heap a l) (hb : l.length + 1 < scanBound)
    (h : ∀ (h' : Heap) (b : Bool), Heap.SameBut a s.heap h' → SetX P w h' a (if k ∈ l then l else k :: l) → Q b { s with heap := h' }) : wpAny (model P w) A (setAddHashed a (.str k u) (hashStr w k)) Q E s := by
  obtain ⟨D, ho, F, ris, led⟩ := R
  by_cases hk : k ∈ l
  · rw [if_pos hk] at h
    have h1 : ∀ b, Q b s := fun b => h s.heap b (Heap.SameBut.refl a s.heap) ⟨D, ho, F, ris, led⟩
    obtain ⟨es, ep, t⟩ := D
    have hd : (sObj "set" (es, ep, t)).data = .set es ep t := rfl
    have hf : t.fits es.size = true := F.fit
    have hel : ElemsOf (PySem.strKind P w) es.toList := F.el
    have hsz : es.size = l.length := F.sz
    obtain ⟨e, he, ke⟩ := (F.mem k).mp hk
    unfold setAddHashed setAddHashedIn
    refine wpAny_holding (wpAny_bind (wpAny_setState_of ho hd hf ?_))
    dsimp only
    rw [byScan_of (x := Value.str k u) rfl (by omega) hel]
    simp only [↓reduceIte]
    unfold setAddByScan
    refine wpAny_bind ?_
    refine wpAny_bind (wpAny_rule ?_)
    refine wpAny_bind (wpAny_setScan_of (knd := PySem.strKind P w) (k := k) (is_str k u) ho hd hf hel ?_)
    cases hfi : List.findIdx? (fun e => (PySem.strKind P w).is k e.2) es.toList with
    | none =>
      have c := List.findIdx?_eq_none_iff.mp hfi e he
      rw [ke] at c
      cases c
    | some j =>
      dsimp only
      exact wpAny_pure (wpAny_pure (h1 _))
  · rw [if_neg hk] at h
    obtain ⟨t1, t2⟩ := add_tab (w := w) (h := hashStr w k) (v := .str k u) ris led
    exact add_x ho F hk hb (h _ true (Heap.SameBut.update s.heap a _) ⟨_, get_upd _ ho rfl, add_ok u F, t1, t2⟩)
theorem setX_loop {I : Addr} {fp wr : List Addr} {G : Array GenState → Array GenState → Prop} {n : Nat} {Pv : Nat → Value → Prop} {St : Nat → Shared → Prop} {R : Result → Shared → Prop}
    (W : WalksS P w A.in1 I fp wr G n Pv St) (S : Addr) (hSf : S ∉ fp) (cs : List Nat) (hn : n = cs.length) (hb : cs.length + 1 < scanBound) (hval : ∀ i v, Pv i v → ∃ c t, cs[i]? = some c ∧ v = .str (ch c) t) :
    ∀ (k i : Nat) (s : Shared), n - i = k → i ≤ n → St i s → (∃ l, SetX P w s.heap S l ∧ l.length ≤ i ∧ l.Nodup ∧ ∀ x, x ∈ l ↔ x ∈ (cs.take i).map ch) →
      (∀ s' l, Moved (S :: wr) G s s' → SetX P w s'.heap S l → l.length ≤ n → l.Nodup → (∀ x, x ∈ l ↔ x ∈ cs.map ch) → R (.ok (.ret .none)) s') →
      codeAny (model P w) A (.builtin "set.update.loop" ⟨[.ref S, .ref I], []⟩) R s := by
  have hSw : S ∉ wr := fun h => hSf (W.sub _ h)
  have up : ∀ b ∈ wr, b ∈ S :: wr := fun b hb => List.mem_cons_of_mem _ hb
  intro k
  induction k with
  | zero =>
    intro i s hk' hi hst ⟨l, hS, hl, nd, mem⟩ hR
    have hin : i = n := by omega
    subst hin
    refine codeAny_builtin PyProof.Rows.F.entry_set_update_loop ?_
    rw [Around.under_plainId PyProof.Rows.F.plain_set_update_loop _]
    show wpAny _ A.in1 (pyNext (.ref I) >>= _) _ _ s
    refine wpAny_bind (W.done s _ _ hst fun s' hm => ?_)
    show wpAny _ A.in1 (ret Value.none) _ _ s'
    rw [List.take_of_length_le (by omega)] at mem
    exact wpAny_pure (hR s' l (hm.mono up) (hS.at fun o e => hm.heap S o hSw e) hl nd mem)
  | succ k ih =>
    intro i s hk' hi hst ⟨l, hS, hl, nd, mem⟩ hR
    have hlt : i < n := by omega
    refine codeAny_builtin PyProof.Rows.F.entry_set_update_loop ?_
    rw [Around.under_plainId PyProof.Rows.F.plain_set_update_loop _]
    show wpAny _ A.in1 (pyNext (.ref I) >>= _) _ _ s
    refine wpAny_bind (W.item i s _ _ hlt hst fun v s' hP hst' hm => ?_)
    obtain ⟨c, t, hc, rfl⟩ := hval i v hP
    have hS' : SetX P w s'.heap S l := hS.at fun o e => hm.heap S o hSw e
    show wpAny _ A.in1 (holding [Value.str (ch c) t] (setAdd S (.str (ch c) t)) >>= _) _ _ s'
    refine wpAny_bind (wpAny_holding ?_)
    unfold setAdd
    refine wpAny_holding ?_
    refine wpAny_bind ((PySem.strKind P w).pyHash (k := ch c) (is_str _ _) ?_)
    refine setX_add (s := { s' with toks := s'.toks + 1 }) hS' (by omega) fun h' b hsb hS2 => ?_
    have tk : (cs.take (i + 1)).map ch = (cs.take i).map ch ++ [ch c] := by
      rw [List.take_succ, hc, List.map_append]
      rfl
    refine wpAny_pure ⟨plainId_quiet PyProof.Rows.F.plain_set_update_loop _, ih (i + 1) _ (by omega) hlt (W.frame _ s' _ _ hst' (Nat.le_succ _) fun b hb o e => ?_) ⟨_, hS2, ?_, ?_, ?_⟩ fun s'' l2 hm'' hS'' hl'' nd'' mem'' => ?_⟩
    · rw [hsb.2 b (fun h : b = S => hSf (by rw [← h]; exact hb))]; exact e
    · split
      · omega
      · rw [List.length_cons]; omega
    · split
      · exact nd
      · exact List.nodup_cons.mpr ⟨by assumption, nd⟩
    · intro x
      rw [tk, List.mem_append, List.mem_singleton, ← mem x]
      split
      · rename_i hm
        constructor
        · exact .inl
        · rintro (h | rfl)
          · exact h
          · exact hm
      · rw [List.mem_cons]
        exact Or.comm
    · refine hR s'' l2 (Moved.trans W.gtrans ((hm.mono up).then_heap (Nat.le_succ _) fun b o hb e => ?_) hm'') hS'' hl'' nd'' mem''
      rw [hsb.2 b (fun h : b = S => hb (by rw [h]; exact List.mem_cons_self))]; exact e
end
end
/-! ### set(text), sorted of it -/
section
open PySem.Froz
abbrev freshS (w : World) : Obj := { cls := .type "set", dict := none, data := .set #[] 0 (.fresh 0 0 (!w.params.followText "set-order")) }
theorem setX_fresh {P : Program} {w : World} {h : Heap} {a : Addr} (ho : h.get? a = some (freshS w)) : SetX P w h a [] := by
  refine ⟨(#[], 0, .fresh 0 0 (!w.params.followText "set-order")), ho, .nil (by rfl), List.Pairwise.nil, ?_⟩
  show _ ∨ (!w.params.followText "set-order") = true
  cases w.params.followText "set-order"
  · exact .inr rfl
  · exact .inl rfl
section
variable {P : Program} {w : World} {A : Around} {E : Value → Shared → Prop} {s : Shared}
set_option maxHeartbeats 4000000 in
theorem call_setX {x : Str} {t : Tok} {Q : Value → Shared → Prop} (hh : A.handled = none) (hb : x.cps.size + 1 < scanBound)
    (h : ∀ (h' : Heap) (tk : Nat) (l : List Str), SetX P w h' s.heap.objs.size l → l.length ≤ x.cps.size → l.Nodup → (∀ y, y ∈ l ↔ y ∈ x.cps.toList.map ch) → (∀ b o, s.heap.get? b = some o → h'.get? b = some o) → Q (.ref s.heap.objs.size) { s with heap := h', toks := tk }) :
    wpAny (model P w) A (call (.type "set") [.str x t]) Q E s := by
  obtain ⟨c, tl, hmro⟩ := F.called_set.mro
  have hmade := F.called_set.made
  have hsub := F.called_set.sub
  refine wpAny_call (codeAny_of_tree ?_)
  show wpAny _ _ (callAny (.type "set") _) _ _ _
  refine wpAny_pure ⟨Code.quiet_builtin _ (by decide +kernel), codeAny_builtin F.entry_type_call ?_⟩
  rw [Around.under_plain (weight_type_call_type "set" [.str x t] []) rfl]
  have h1 := F.called_set.notType
  have h2 := F.called_set.canCreate
  have hct := F.typeCall_set_1 (.str x t)
  repeat (any_goals (first | assumption | wp_step))
  refine codeAny_mono (code_set_led1 (.str x t) (E := E) (Q₁ := fun obj s₁ => obj = .ref s.heap.objs.size ∧ s₁ = { s with heap := s.heap.push (freshS w) }) ⟨rfl, rfl⟩) fun r s₁ hr => ?_
  match r, hr with
  | .error e, hr => exact hr
  | .ok .next, hr => exact hr.elim
  | .ok .brk, hr => exact hr.elim
  | .ok .cont, hr => exact hr.elim
  | .ok (.ret obj), hr =>
    obtain ⟨rfl, rfl⟩ := hr
    have hS : (s.heap.push (freshS w)).get? s.heap.objs.size = some (freshS w) := Heap.get?_push_size _ rfl
    have hT : Shared.TypeIs { s with heap := s.heap.push (freshS w) } (.ref s.heap.objs.size) "set" := ⟨_, hS, rfl⟩
    have hli := F.called_set.init.lookup
    have hbi := F.called_set.init.bind (.ref s.heap.objs.size)
    repeat (any_goals (first | assumption | wp_step))
    refine codeAny_mono (codeAny_call_builtin (R := wants (fun r s₂ => r = .none ∧ ∃ h' tk l, s₂ = { s with heap := h', toks := tk } ∧ SetX P w h' s.heap.objs.size l ∧ l.length ≤ x.cps.size ∧ l.Nodup ∧ (∀ y, y ∈ l ↔ y ∈ x.cps.toList.map ch) ∧
        (∀ b o, s.heap.get? b = some o → h'.get? b = some o)) E) F.called_set.init.plain F.entry_set_init (check_set_init_1 hT ?_)) fun r₂ s₂ hr₂ => ?_
    · have hsls : isSubtype (.type "str") (.type "set") = pure false := by rw [isSubtype_type]; kernel_rfl
      have hslf : isSubtype (.type "str") (.type "frozenset") = pure false := by rw [isSubtype_type]; kernel_rfl
      have hne : (Value.type "str" == Value.type "dict") = false := by decide
      unfold Builtin.«set.__init__» noKeywords Builtin.Frozenset.updateFrom
      generalize hPI : pyIter = PI
      wp_walk
      subst hPI
      refine wpAny_pyIter_str fun o St W hst => ?_
      refine wpAny_bind (wpAny_runValue ?_)
      have hh3 : A.in1.in1.in1.handled = none := by simp [hh]
      have hSf : s.heap.objs.size ∉ [(s.heap.push (freshS w)).objs.size] := by
        rw [Heap.size_push]; simp only [List.mem_singleton]
        exact Nat.ne_of_lt (Nat.lt_succ_self _)
      have hval : ∀ (i : Nat) (v : Value), SignAt x i v → ∃ c t, x.cps.toList[i]? = some c ∧ v = .str (ch c) t := fun i v ⟨c, u, hc, e⟩ => ⟨c, u, by rw [Array.getElem?_toList]; exact hc, e⟩
      refine setX_loop ((W _ hh3).toS) s.heap.objs.size hSf x.cps.toList (Array.length_toList).symm (by rw [Array.length_toList]; exact hb) hval (x.cps.size - 0) 0 _ rfl (Nat.zero_le _) hst
        ⟨[], setX_fresh (Heap.get?_push_of_some _ hS), Nat.le_refl 0, List.nodup_nil, fun y => by simp⟩ fun s' l hm hS' hl nd mem => ?_
      obtain ⟨h', g2, d', tk', os'⟩ := s'
      have eg : g2 = s.gens := hm.gens
      have ed : d' = s.drawn := hm.drawn
      have eo : os' = s.os := hm.os
      subst eg; subst ed; subst eo
      show wpAny _ _ _ _ _ _
      refine wpAny_pure ?_
      show wpAny _ _ (ret Value.none) _ _ _
      refine wpAny_pure ⟨rfl, h', tk', l, rfl, hS', hl, nd, mem, fun b o e => ?_⟩
      have hb0 : b < s.heap.objs.size := Heap.lt_size e
      have hb1 : b ≠ s.heap.objs.size := Nat.ne_of_lt hb0
      have hb2 : b ≠ (s.heap.push (freshS w)).objs.size := by
        rw [Heap.size_push]; exact Nat.ne_of_lt (Nat.lt_succ_of_lt hb0)
      exact hm.heap b o (by simp only [List.mem_cons, List.mem_singleton, List.not_mem_nil, or_false, not_or]; exact ⟨hb1, hb2⟩) (Heap.get?_push_of_some _ (Heap.get?_push_of_some _ e))
    · match r₂, hr₂ with
      | .error e, hr₂ => exact hr₂
      | .ok .next, hr₂ => exact hr₂.elim
      | .ok .brk, hr₂ => exact hr₂.elim
      | .ok .cont, hr₂ => exact hr₂.elim
      | .ok (.ret r), hr₂ =>
        obtain ⟨rfl, h', tk, l, rfl, hS', hl, nd, mem, hk'⟩ := hr₂
        repeat (any_goals (first | assumption | wp_step))
        exact h _ _ _ hS' hl nd mem hk'
end
end
theorem perm_of_sub {α : Type} [DecidableEq α] : ∀ (l ss : List α), l.Nodup → (∀ x ∈ l, x ∈ ss) → ss.length ≤ l.length → ss.Perm l
  | [], ss, _, _, h => by
    have : ss = [] := List.eq_nil_of_length_eq_zero (Nat.le_zero.mp h)
    rw [this]
  | x :: l, ss, nd, sub, h => by
    obtain ⟨n1, n2⟩ := List.nodup_cons.mp nd
    have hx := sub x List.mem_cons_self
    have p := List.perm_cons_erase hx
    refine p.trans (List.Perm.cons x (perm_of_sub l (ss.erase x) n2 (fun y hy => ?_) ?_))
    · exact (List.mem_erase_of_ne (fun z : y = x => n1 (z ▸ hy))).mpr (sub y (List.mem_cons_of_mem _ hy))
    · rw [List.length_erase_of_mem hx]
      rw [List.length_cons] at h
      omega
section
open PySem.Froz
section
variable {P : Program} {w : World} {A : Around} {E : Value → Shared → Prop} {s : Shared}
theorem sorted_setX {a : Addr} {l : List Str} {Q : Value → Shared → Prop} (R : SetX P w s.heap a l) (nd : l.Nodup) (hh : A.handled = none) (h64 : l.length < 64)
    (hQ : ∀ s' p (out : Array Value) (c : Nat) (ys : List Str), (∀ b o, s.heap.get? b = some o → s'.heap.get? b = some o) → s'.gens = s.gens → s'.os = s.os → s.heap.objs.size ≤ p →
      s'.heap.get? p = some (seqObj "list" out c) → StrsAre out.toList ys → ys.Perm l → sortedS ys = true → Q (.ref p) s') :
    wpAny (model P w) A (call (.builtin "sorted") [.ref a]) Q E s := by
  obtain ⟨⟨es, ep, t⟩, ho, F, ris, led⟩ := R
  have hsz : es.size = l.length := F.sz
  have hsb : es.size < scanBound := by unfold scanBound; omega
  refine Calls.call_function_entry kind_sorted plain_sorted entry_sorted (args_sorted1 _) ?_
  unfold Builtin.«sorted»
  refine wpAny_bind (m := checkCount "sorted" 1 1 _) (wpAny_pure ?_)
  refine wpAny_bind (collect_set (A := A.in1) hh ⟨_, ho, rfl, rfl⟩ F.fit hsb ris led fun s1 vs k1 hz g1 o1 pm => ?_)
  have str : ∀ v ∈ vs, ∃ x t, v = Value.str x t := fun v hv => by
    obtain ⟨e, he, rfl⟩ := List.mem_map.mp (pm.mem_iff.mp hv)
    obtain ⟨⟨k, hk, _⟩, _⟩ := F.el e he
    have hk : Value.isStrOf k e.2 = true := hk
    cases h : e.2 <;> rw [h] at hk <;> first | exact ⟨_, _, rfl⟩ | exact absurd hk (by simp [Value.isStrOf])
  have hS : StrsAre vs (vs.map strOf) := strsAre_map vs str
  have hvl : vs.length = l.length := by rw [pm.length_eq, List.length_map, Array.length_toList]; exact hsz
  have pl : (vs.map strOf).Perm l := by
    refine perm_of_sub l _ nd (fun k hk => ?_) (by rw [List.length_map, hvl]; exact Nat.le_refl _)
    obtain ⟨e, he, q⟩ := (F.mem k).mp hk
    have q : Value.isStrOf k e.2 = true := q
    have hm : e.2 ∈ vs := pm.mem_iff.mpr (List.mem_map.mpr ⟨e, he, rfl⟩)
    refine List.mem_map.mpr ⟨e.2, hm, ?_⟩
    obtain ⟨x, u, hx⟩ := str _ hm
    rw [hx] at q ⊢
    have : x = k := by simpa [Value.isStrOf] using q
    exact this
  refine wpAny_bind (wpAny_newList ?_ (by rw [hvl, sizeLine_eq]; omega))
  have hoL : (s1.heap.push (seqObj "list" vs.toArray 0)).get? s1.heap.objs.size = some (seqObj "list" vs.toArray 0) := Heap.get?_push_size _ rfl
  refine wpAny_bind (wpAny_holding (wpAny_call_entry slot_list_sort ⟨_, hoL, rfl⟩ entry_list_sort (list_sort_treeK strKind_oneLt hoL hS.keysOf (fun v₁ v₂ rest e => keyKind_strs (by rw [← e]; exact hS)) (by rw [hvl]; exact h64) fun st' a1 a2 => ⟨_, rfl, ?_⟩) (args_list_sort _)))
  obtain ⟨ys, b1, b2, b3⟩ := sorted_out_str hS a1 a2
  generalize (arrOf st').map (·.2) = out at b1 ⊢
  obtain ⟨c, hc⟩ := sortedHeap_at (vs := vs) (out := out) hoL
  refine wpAny_pure ⟨_, rfl, hQ _ s1.heap.objs.size out c ys (fun b u e => ?_) g1 o1 hz hc b1 (b2.trans pl) b3⟩
  have q := k1 b u e
  have hlt := Heap.lt_size q
  show (sortedHeap (s1.heap.push (seqObj "list" vs.toArray 0)) s1.heap.objs.size vs out).get? b = some u
  rw [sortedHeap_old (Nat.ne_of_lt hlt) (by rw [size_push']; exact Nat.lt_succ_of_lt hlt)]
  exact Heap.get?_push_of_some _ q
end
def SetXO (P : Program) (w : World) (a : Addr) (l : List Str) : HO := .ext fun h => SetX P w h a l
section
variable {X : Cx}
theorem setXO_new {w : World} {P : Program} {H : Hp} {h : Heap} {a : Addr} {l : List Str} (R : SetX P w h a l) : ObjOk P w H h a (SetXO P w a l) := by
  have ⟨D, ho, _⟩ := R
  exact ⟨R, ⟨_, ho⟩, fun h1 h2 p k => SetX.at p k⟩
def rSetX (P : Program) (w : World) : List V → Hp → VK → Prop := fun xs H Q => ∃ cs : List Nat, xs = [.str (tx cs)] ∧ cs.length < 64 ∧
  ∀ (a : Addr) (l : List Str), H a = none → l.Nodup → (∀ y, y ∈ l ↔ y ∈ cs.map ch) → l.length < 64 → Q (.ref a) (upd H a (SetXO P w a l))
theorem cr_setX (hc : X.calm = true) : CallR X (.type "set") (rSetX X.prog X.w) := by
  intro pins s σ H xs us Q I r h
  obtain ⟨cs, rfl, hz, q⟩ := h
  obtain ⟨u, rfl, t, rfl⟩ := vals1 r
  have hz' : (tx cs).cps.size = cs.length := rfl
  refine call_setX (P := X.prog) (w := X.w) (I.ok.hd hc) (by rw [hz']; unfold scanBound; omega) fun h' tk l R hl nd mem k => ?_
  exact ⟨.ref s.heap.objs.size, upd H s.heap.objs.size (SetXO X.prog X.w s.heap.objs.size l), I.laid (t' := tk) k (Nat.le_refl _) (setXO_new R), rfl, q _ l (I.hok.fresh (Nat.le_refl _)) nd mem (by omega)⟩
def rSortX (P : Program) (w : World) : List V → Hp → VK → Prop := fun vs H Q => ∃ (a : Addr) (l : List Str), vs = [V.ref a] ∧ H a = some (SetXO P w a l) ∧ l.Nodup ∧ l.length < 64 ∧
  ∀ (ys : List Str) (p : Addr), ys.Perm l → sortedS ys = true → H p = none → Q (.ref p) (upd H p (.lst (ys.map V.str)))
theorem cr_sortX (hc : X.calm = true) : CallR X (.builtin "sorted") (rSortX X.prog X.w) := by
  intro pins s σ H vs us Q I r h
  obtain ⟨a, l, rfl, ha, nd, h64, q⟩ := h
  have R : SetX X.prog X.w s.heap a l := (I.hok a _ ha).1
  rw [Vals.ref1 r]
  refine sorted_setX R nd (I.ok.hd hc) h64 fun s' p out c ys k g o hp hg hi hs hm => ?_
  have hlen : (ys.map V.str).length ≤ sizeLine := by rw [List.length_map, hs.length_eq, sizeLine_eq]; omega
  have hn : H p = none := I.hok.fresh hp
  have J : Inv X pins σ (upd H p (.lst (ys.map V.str))) { s with heap := s'.heap, gens := s'.gens, drawn := s'.drawn, toks := s'.toks } :=
    I.call (ch := []) (Un.laid k hp hn) (I.hok.laid k hp ⟨hlen, out.toList, c, vals_of_strs hi, hg⟩) (by rw [g]; exact I.bare) (fun _ z => nomatch z)
  have e : s' = { s with heap := s'.heap, gens := s'.gens, drawn := s'.drawn, toks := s'.toks } := by
    cases s'
    cases s
    cases o
    rfl
  rw [e]
  exact ⟨.ref p, _, J, rfl, q ys p hs hm hn⟩
end
end
/-! ### ascending, and equal to its sorted set -/
theorem asc_iff : ∀ {zs : List Nat}, asc zs = true ↔ zs.Pairwise (· < ·)
  | [] => ⟨fun _ => .nil, fun _ => rfl⟩
  | [a] => ⟨fun _ => List.pairwise_singleton _ _, fun _ => rfl⟩
  | a :: b :: r => by
    have ih := asc_iff (zs := b :: r)
    have e : asc (a :: b :: r) = (decide (a < b) && asc (b :: r)) := rfl
    rw [e, Bool.and_eq_true, decide_eq_true_eq, ih]
    constructor
    · rintro ⟨h1, h2⟩
      refine List.pairwise_cons.mpr ⟨fun c hc => ?_, h2⟩
      rcases List.mem_cons.mp hc with rfl | hc
      · exact h1
      · exact Nat.lt_trans h1 ((List.pairwise_cons.mp h2).1 c hc)
    · intro h
      exact ⟨(List.pairwise_cons.mp h).1 b List.mem_cons_self, (List.pairwise_cons.mp h).2⟩
theorem risingS_ch : ∀ (p : Nat) (l : List Nat), risingS (ch p) (l.map ch) = true → (p :: l).Pairwise (· ≤ ·)
  | p, [], _ => List.pairwise_singleton _ _
  | p, c :: l, h => by
    have h : (!ltCps (ch c).cps.toList (ch p).cps.toList && risingS (ch c) (l.map ch)) = true := h
    rw [Bool.and_eq_true] at h
    have h2 := risingS_ch c l h.2
    have h1 : p ≤ c := by
      have := h.1
      rw [ltCps_eq, ch_lt] at this
      have : ¬ c < p := by simpa using this
      omega
    refine List.pairwise_cons.mpr ⟨fun d hd => ?_, h2⟩
    rcases List.mem_cons.mp hd with rfl | hd
    · exact h1
    · exact Nat.le_trans h1 ((List.pairwise_cons.mp h2).1 d hd)
theorem sortedS_ch : ∀ {l : List Nat}, sortedS (l.map ch) = true → l.Pairwise (· ≤ ·)
  | [], _ => .nil
  | p :: l, h => risingS_ch p l h
theorem lt_of_le_nd : ∀ {l : List Nat}, l.Pairwise (· ≤ ·) → l.Nodup → l.Pairwise (· < ·)
  | [], _, _ => .nil
  | x :: l, h, d => by
    obtain ⟨h1, h2⟩ := List.pairwise_cons.mp h
    obtain ⟨d1, d2⟩ := List.nodup_cons.mp d
    refine List.pairwise_cons.mpr ⟨fun y hy => ?_, lt_of_le_nd h2 d2⟩
    have a := h1 y hy
    have b : x ≠ y := fun z => d1 (z ▸ hy)
    omega
theorem eq_of_asc : ∀ {l z : List Nat}, l.Pairwise (· < ·) → z.Pairwise (· < ·) → (∀ c, c ∈ l ↔ c ∈ z) → l = z
  | [], [], _, _, _ => rfl
  | [], c :: z, _, _, h => by have := (h c).mpr List.mem_cons_self; cases this
  | c :: l, [], _, _, h => by have := (h c).mp List.mem_cons_self; cases this
  | a :: l, b :: z, hl, hz, h => by
    obtain ⟨l1, l2⟩ := List.pairwise_cons.mp hl
    obtain ⟨z1, z2⟩ := List.pairwise_cons.mp hz
    have e : a = b := by
      rcases List.mem_cons.mp ((h a).mp List.mem_cons_self) with e | e
      · exact e
      · rcases List.mem_cons.mp ((h b).mpr List.mem_cons_self) with e' | e'
        · exact e'.symm
        · have := l1 b e'
          have := z1 a e
          omega
    subst e
    refine congrArg (a :: ·) (eq_of_asc l2 z2 fun c => ⟨fun hc => ?_, fun hc => ?_⟩)
    · rcases List.mem_cons.mp ((h c).mp (List.mem_cons_of_mem _ hc)) with e | e
      · have := l1 c hc
        omega
      · exact e
    · rcases List.mem_cons.mp ((h c).mpr (List.mem_cons_of_mem _ hc)) with e | e
      · have := z1 c hc
        omega
      · exact e
theorem sorted_set_eq {l zs : List Nat} (nd : zs.Nodup) (le : zs.Pairwise (· ≤ ·)) (mem : ∀ c, c ∈ zs ↔ c ∈ l) : decide (l = zs) = asc l := by
  have lt := lt_of_le_nd le nd
  by_cases h : asc l = true
  · rw [h, decide_eq_true (eq_of_asc (asc_iff.mp h) lt fun c => (mem c).symm)]
  · rw [Bool.eq_false_iff.mpr h]
    refine decide_eq_false fun e => h (asc_iff.mpr ?_)
    rw [e]
    exact lt
def dS (l : List Nat) : PyData := .list (l.map fun c => .str (ch c))
theorem eqv_dS : ∀ a b : List Nat, PyData.eqvAll (a.map fun c => .str (ch c)) (b.map fun c => .str (ch c)) = decide (a = b)
  | [], [] => rfl
  | [], _ :: _ => rfl
  | _ :: _, [] => rfl
  | x :: a, y :: b => by
    have ih := eqv_dS a b
    show ((ch x == ch y) && PyData.eqvAll _ _) = _
    rw [ih]
    by_cases h : x = y
    · subst h
      rw [beq_self_eq_true, Bool.true_and]
      congr 1
      simp
    · rw [beq_eq_false_iff_ne.mpr (fun z => h (ch_inj z)), Bool.false_and, decide_eq_false]
      intro z
      exact h (List.cons.inj z).1
theorem ch_lay {c : Nat} (h : 97 ≤ c ∧ c ≤ 122) : (PyData.str (ch c)).canLay0 = true := by
  have : ∀ c : Nat, c < 123 → 97 ≤ c → (PyData.str (ch c)).canLay0 = true := by decide +kernel
  exact this c (by omega) h.1
theorem shaped_dS {l : List Nat} (h : ∀ c ∈ l, 97 ≤ c ∧ c ≤ 122) : SeqAt.shaped (dS l) = true := by
  have h1 : ∀ l : List Nat, (∀ c ∈ l, 97 ≤ c ∧ c ≤ 122) → PyData.canLayAll0 (l.map fun c => .str (ch c)) = true := by
    intro l
    induction l with
    | nil => intro _; rfl
    | cons x r ih =>
      intro h
      show ((PyData.str (ch x)).canLay0 && PyData.canLayAll0 _) = true
      rw [ch_lay (h x List.mem_cons_self), ih fun c hc => h c (List.mem_cons_of_mem _ hc)]
      rfl
  have h2 : ∀ l : List Nat, PyData.depthAll (l.map fun c => .str (ch c)) = 0 := by
    intro l
    induction l with
    | nil => rfl
    | cons x r ih =>
      show max 0 (PyData.depthAll _) = 0
      rw [ih]
      rfl
  unfold SeqAt.shaped
  rw [show (dS l).canLay0 = true from h1 l h, show (dS l).depth = 1 from congrArg (· + 1) (h2 l)]
  rfl
theorem dp_dS {K : PySem.W.Frag} {H : Hp} {p : Addr} : ∀ {l : List Nat}, H p = some (.lst (l.map vc)) → Dp K H (.ref p) (dS l) := fun {l} h => by
  have go : ∀ l : List Nat, DpAll K H (l.map vc) (l.map fun c => .str (ch c)) := by
    intro l
    induction l with
    | nil => exact .nil
    | cons x r ih => exact .cons (.str _) ih
  exact .lst (SqL.of h) (go l)
theorem of_chs {l : List Str} {cs : List Nat} (h : ∀ y ∈ l, y ∈ cs.map ch) : ∃ l' : List Nat, l = l'.map ch := by
  induction l with
  | nil => exact ⟨[], rfl⟩
  | cons y l ih =>
    obtain ⟨l', e⟩ := ih fun z hz => h z (List.mem_cons_of_mem _ hz)
    obtain ⟨c, _, rfl⟩ := List.mem_map.mp (h y List.mem_cons_self)
    exact ⟨c :: l', by rw [e]; rfl⟩
theorem mem_ch {c : Nat} {l : List Nat} : ch c ∈ l.map ch ↔ c ∈ l := by
  constructor
  · intro h
    obtain ⟨d, hd, e⟩ := List.mem_map.mp h
    rw [← ch_inj e]
    exact hd
  · exact fun h => List.mem_map.mpr ⟨c, h, rfl⟩
theorem nodup_ch {l : List Nat} (h : (l.map ch).Nodup) : l.Nodup := by
  refine List.Pairwise.imp (fun {a b} hab e => hab (by rw [e])) (List.pairwise_map.mp h)
theorem perm_ch {ys : List Str} {l : List Nat} (h : ys.Perm (l.map ch)) : ∃ zs : List Nat, ys = zs.map ch ∧ zs.Perm l := by
  have hy : ∀ y ∈ ys, ch ((fun y : Str => y.cps.toList.headD 0) y) = y := fun y hy => by
    obtain ⟨c, _, rfl⟩ := List.mem_map.mp (h.mem_iff.mp hy)
    rfl
  refine ⟨ys.map fun y => y.cps.toList.headD 0, ?_, ?_⟩
  · rw [List.map_map]
    clear h
    induction ys with
    | nil => rfl
    | cons y r ih =>
      rw [List.map_cons, ← ih fun z hz => hy z (List.mem_cons_of_mem _ hz)]
      exact congrArg (· :: r) (hy y List.mem_cons_self).symm
  · have := h.map (fun y : Str => y.cps.toList.headD 0)
    rw [List.map_map] at this
    have e : l.map ((fun y : Str => y.cps.toList.headD 0) ∘ ch) = l := by
      clear h this
      induction l with
      | nil => rfl
      | cons c r ih => rw [List.map_cons, ih]; rfl
    rw [e] at this
    exact this
/-- what sorted(set(text)) says of the text -/
theorem set_told {cs : List Nat} {l ys : List Str} (nd : l.Nodup) (mem : ∀ y, y ∈ l ↔ y ∈ cs.map ch) (p : ys.Perm l) (so : sortedS ys = true) : ∃ zs : List Nat, ys = zs.map ch ∧ decide (cs = zs) = asc cs ∧ ∀ c ∈ zs, c ∈ cs := by
  obtain ⟨l', rfl⟩ := of_chs fun y hy => (mem y).mp hy
  obtain ⟨zs, rfl, pz⟩ := perm_ch p
  have m : ∀ c, c ∈ zs ↔ c ∈ cs := fun c => by rw [pz.mem_iff, ← mem_ch, mem, mem_ch]
  exact ⟨zs, rfl, sorted_set_eq (pz.nodup_iff.mpr (nodup_ch nd)) (sortedS_ch so) m, fun c hc => (m c).mp hc⟩
/-! ### the table of generators: what sleeps is not touched -/
def gFroz : GenState → GenState
  | .suspended _ l c p fs cl => .suspended (fun _ => .unsupported "asleep") l c p fs cl
  | x => x
def gSlp : GenState → Bool
  | .suspended .. => true
  | _ => false
def NoZ (Z : Nat → Prop) (fs : List Frame) : Prop := ∀ g k l c p, Frame.gen g k l c p ∈ fs → ¬ Z g
def OkSt (Z : Nat → Prop) (x : GenState) : Prop := ∀ k l c p fs cl, x = .suspended k l c p fs cl → NoZ Z fs
/-- g₀: the table where the sleepers (Z) are cut off; G: they themselves -/
structure Asleep (Z : Nat → Prop) (G : Nat → GenState) (g₀ g : Array GenState) : Prop where
  size : g₀.size = g.size
  out : ∀ i, ¬ Z i → g₀[i]? = g[i]?
  sl : ∀ i, Z i → g[i]? = some (G i) ∧ g₀[i]? = some (gFroz (G i)) ∧ gSlp (G i) = true
  ok : ∀ i x, ¬ Z i → g[i]? = some x → OkSt Z x
theorem no_unsup {M : Model} {Γ : PySem.Ctx} {p : Pos} {what : String} {fs : List Frame} {s s' : Shared} {e : End} (h : Runs M Γ p (.unsupported what) fs s e s') : False := by
  cases h with
  | segRet h _ => cases h
  | segGen h _ => cases h
  | segSuspOut _ h => cases h
  | segSuspGen _ h _ _ => cases h
theorem seen_froz (x : GenState) : (gFroz x).seen = x.seen := by cases x <;> rfl
section
variable {Z : Nat → Prop} {G : Nat → GenState} {g₀ g : Array GenState}
theorem Asleep.seen (a : Asleep Z G g₀ g) {i : Nat} {x : GenState} (h : g₀[i]? = some x) : ∃ y, g[i]? = some y ∧ y.seen = x.seen := by
  by_cases z : Z i
  · obtain ⟨h1, h2, _⟩ := a.sl i z
    rw [h2] at h
    cases h
    exact ⟨_, h1, (seen_froz _).symm⟩
  · exact ⟨x, by rw [← a.out i z]; exact h, rfl⟩
theorem Asleep.awake (a : Asleep Z G g₀ g) {i : Nat} {x : GenState} (h : g₀[i]? = some x) (n : gSlp x = false) : ¬ Z i ∧ g[i]? = some x := by
  have z : ¬ Z i := fun z => by
    obtain ⟨_, h2, h3⟩ := a.sl i z
    rw [h2] at h
    cases h
    revert n h3
    cases G i <;> simp [gFroz, gSlp]
  exact ⟨z, by rw [← a.out i z]; exact h⟩
theorem Asleep.put (a : Asleep Z G g₀ g) {i : Nat} (z : ¬ Z i) {x : GenState} (ok : OkSt Z x) : Asleep Z G (g₀.setIfInBounds i x) (g.setIfInBounds i x) := by
  refine ⟨by simp [a.size], fun j hj => ?_, fun j hj => ?_, fun j y hj h => ?_⟩
  · by_cases e : j = i
    · subst e
      rw [Array.getElem?_setIfInBounds_self, Array.getElem?_setIfInBounds_self, a.size]
    · rw [Array.getElem?_setIfInBounds_ne (Ne.symm e), Array.getElem?_setIfInBounds_ne (Ne.symm e)]
      exact a.out j hj
  · have e : j ≠ i := fun e => z (e ▸ hj)
    rw [Array.getElem?_setIfInBounds_ne (Ne.symm e), Array.getElem?_setIfInBounds_ne (Ne.symm e)]
    exact a.sl j hj
  · by_cases e : j = i
    · subst e
      rw [Array.getElem?_setIfInBounds_self] at h
      split at h
      · cases h; exact ok
      · cases h
    · rw [Array.getElem?_setIfInBounds_ne (Ne.symm e)] at h
      exact a.ok j y hj h
theorem Asleep.push (a : Asleep Z G g₀ g) (c : Code) : Asleep Z G (g₀.push (.fresh c)) (g.push (.fresh c)) := by
  refine ⟨by simp [a.size], fun j hj => ?_, fun j hj => ?_, fun j y hj h => ?_⟩
  · rw [Array.getElem?_push, Array.getElem?_push, a.size, a.out j hj]
  · obtain ⟨h1, h2, h3⟩ := a.sl j hj
    refine ⟨?_, ?_, h3⟩
    · rw [Array.getElem?_push, if_neg (by have := (Array.getElem?_eq_some_iff.mp h1).1; omega)]
      exact h1
    · rw [Array.getElem?_push, if_neg (by have := (Array.getElem?_eq_some_iff.mp h2).1; omega)]
      exact h2
  · rw [Array.getElem?_push] at h
    split at h
    · cases h
      intro k l c p fs cl e
      cases e
    · exact a.ok j y hj h
end
theorem okSt_fin {Z : Nat → Prop} : OkSt Z .finished := fun _ _ _ _ _ _ e => by cases e
theorem okSt_run {Z : Nat → Prop} : OkSt Z .running := fun _ _ _ _ _ _ e => by cases e
def NoZE (Z : Nat → Prop) : End → Prop
  | .ret _ => True
  | .susp _ _ _ _ _ _ fs => NoZ Z fs
theorem okSt_end {Z : Nat → Prop} {e : End} (h : NoZE Z e) : OkSt Z e.genState := by
  cases e with
  | ret _ => exact okSt_fin
  | susp v g l k c p fs =>
    intro k' l' c' p' fs' cl' e
    cases e
    exact h
theorem noZ_nil {Z : Nat → Prop} : NoZ Z [] := fun _ _ _ _ _ h => by cases h
theorem NoZ.tail {Z : Nat → Prop} {F : Frame} {fs : List Frame} (h : NoZ Z (F :: fs)) : NoZ Z fs := fun g k l c p m => h g k l c p (List.mem_cons_of_mem _ m)
theorem NoZ.app {Z : Nat → Prop} {a b : List Frame} (h : NoZ Z a) (k : NoZ Z b) : NoZ Z (a ++ b) := fun g k' l c p m => by
  rcases List.mem_append.mp m with m | m
  · exact h g k' l c p m
  · exact k g k' l c p m
theorem noZ_split {Z : Nat → Prop} : ∀ {fs pre rest : List Frame} {g : Nat} {k : GenResult → Sem PySem.Fin} {c : Code} {p : Pos}, splitAtGen fs = some (pre, (g, k, c, p), rest) → NoZ Z fs → NoZ Z pre ∧ ¬ Z g ∧ NoZ Z rest
  | [], _, _, _, _, _, _, h, _ => by cases h
  | .gen g' k' l' c' p' :: fs, pre, rest, g, k, c, p, h, n => by
    cases h
    exact ⟨noZ_nil, n _ _ _ _ _ List.mem_cons_self, n.tail⟩
  | .ret k' h' g' l' c' p' kp' :: fs, pre, rest, g, k, c, p, h, n => by
    rw [splitAtGen_ret] at h
    cases hs : splitAtGen fs with
    | none => rw [hs] at h; cases h
    | some x =>
      obtain ⟨pre', b, rest'⟩ := x
      rw [hs] at h
      cases h
      obtain ⟨h1, h2, h3⟩ := noZ_split hs n.tail
      refine ⟨fun g k l c p m => ?_, h2, h3⟩
      rcases List.mem_cons.mp m with m | m
      · cases m
      · exact h1 g k l c p m
def wg (s : Shared) (g : Array GenState) : Shared := { s with gens := g }
/-- a run over the cut table is a run over the real one -/
theorem runs_awake {M : Model} {Z : Nat → Prop} {G : Nat → GenState} {Γ : PySem.Ctx} {p : Pos} {t : Sem PySem.Fin} {fs : List Frame} {s s' : Shared} {e : End} (h : Runs M Γ p t fs s e s') :
    ∀ g, Asleep Z G s.gens g → NoZ Z fs → ∃ g', Asleep Z G s'.gens g' ∧ NoZE Z e ∧ Runs M Γ p t fs (wg s g) e (wg s' g') := by
  induction h with
  | done => exact fun g a _ => ⟨g, a, trivial, .done⟩
  | raise => exact fun g a _ => ⟨g, a, trivial, .raise⟩
  | again hq _ ih => exact fun g a n => let ⟨g', a', z, r⟩ := ih g a n; ⟨g', a', z, .again hq r⟩
  | rule _ ih => exact fun g a n => let ⟨g', a', z, r⟩ := ih g a n; ⟨g', a', z, .rule r⟩
  | «at» _ ih => exact fun g a n => let ⟨g', a', z, r⟩ := ih g a n; ⟨g', a', z, .at r⟩
  | load ho _ ih => exact fun g a n => let ⟨g', a', z, r⟩ := ih g a n; ⟨g', a', z, .load ho r⟩
  | update ho _ ih => exact fun g a n => let ⟨g', a', z, r⟩ := ih g a n; ⟨g', a', z, .update ho r⟩
  | loadIfAlive _ ih => exact fun g a n => let ⟨g', a', z, r⟩ := ih g a n; ⟨g', a', z, .loadIfAlive r⟩
  | point _ ih => exact fun g a n => let ⟨g', a', z, r⟩ := ih g a n; ⟨g', a', z, .point r⟩
  | alloc _ ih => exact fun g a n => let ⟨g', a', z, r⟩ := ih g a n; ⟨g', a', z, .alloc r⟩
  | fresh _ ih => exact fun g a n => let ⟨g', a', z, r⟩ := ih g a n; ⟨g', a', z, .fresh r⟩
  | ask _ ih => exact fun g a n => let ⟨g', a', z, r⟩ := ih g a n; ⟨g', a', z, .ask r⟩
  | choose hn _ ih => exact fun g a n => let ⟨g', a', z, r⟩ := ih g a n; ⟨g', a', z, .choose hn r⟩
  | os _ ih => exact fun g a n => let ⟨g', a', z, r⟩ := ih g a n; ⟨g', a', z, .os r⟩
  | handled _ ih => exact fun g a n => let ⟨g', a', z, r⟩ := ih g a n; ⟨g', a', z, .handled r⟩
  | genState hg _ ih =>
    intro g a n
    obtain ⟨y, h1, h2⟩ := a.seen hg
    obtain ⟨g', a', z, r⟩ := ih g a n
    exact ⟨g', a', z, .genState (st := y) h1 (by rw [h2]; exact r)⟩
  | stack _ ih => exact fun g a n => let ⟨g', a', z, r⟩ := ih g a n; ⟨g', a', z, .stack r⟩
  | thread _ ih => exact fun g a n => let ⟨g', a', z, r⟩ := ih g a n; ⟨g', a', z, .thread r⟩
  | newGen _ ih =>
    intro g a n
    obtain ⟨g', a', z, r⟩ := ih _ (a.push _) n
    exact ⟨g', a', z, .newGen (by rw [show (wg _ g).gens.size = _ from a.size.symm]; exact r)⟩
  | call _ _ ih1 ih2 =>
    intro g a n
    obtain ⟨g1, a1, _, r1⟩ := ih1 g a noZ_nil
    obtain ⟨g2, a2, z, r2⟩ := ih2 g1 a1 n
    exact ⟨g2, a2, z, .call r1 r2⟩
  | callSusp _ ih =>
    intro g a n
    obtain ⟨g1, a1, z, r1⟩ := ih g a noZ_nil
    exact ⟨g1, a1, NoZ.app z (fun _ _ _ _ _ m => by cases List.mem_singleton.mp m), .callSusp r1⟩
  | yield => exact fun g a _ => ⟨g, a, noZ_nil, .yield⟩
  | resumeFresh hg _ hq _ ih1 ih2 =>
    intro g a n
    obtain ⟨z, hg'⟩ := a.awake hg rfl
    obtain ⟨g1, a1, z1, r1⟩ := ih1 _ (a.put z okSt_run) noZ_nil
    obtain ⟨g2, a2, z2, r2⟩ := ih2 _ (a1.put z (okSt_end z1)) n
    exact ⟨g2, a2, z2, .resumeFresh hg' r1 hq r2⟩
  | @resumeSuspended Γ p gi r l k s k₀ l₀ c₀ p₀ fs cl e₁ s₁ e s' hg hr hq _ ih1 ih2 =>
    intro g a n
    by_cases z : Z gi
    · exfalso
      obtain ⟨_, h2, h3⟩ := a.sl gi z
      rw [h2] at hg
      revert hg h3
      cases hG : G gi with
      | suspended k l c p fs cl =>
        intro hg _
        cases hg
        exact no_unsup hr
      | fresh _ => intro hg _; cases hg
      | running => intro hg _; cases hg
      | finished => intro hg _; cases hg
    · have hg' : g[gi]? = some (.suspended k₀ l₀ c₀ p₀ fs cl) := by rw [← a.out gi z]; exact hg
      obtain ⟨g1, a1, z1, r1⟩ := ih1 _ (a.put z okSt_run) (a.ok gi _ z hg' _ _ _ _ _ _ rfl)
      obtain ⟨g2, a2, z2, r2⟩ := ih2 _ (a1.put z (okSt_end z1)) n
      exact ⟨g2, a2, z2, .resumeSuspended hg' r1 hq r2⟩
  | resumeJustStarted hg hv _ ih =>
    intro g a n
    obtain ⟨_, hg'⟩ := a.awake hg rfl
    obtain ⟨g', a', z, r⟩ := ih g a n
    exact ⟨g', a', z, .resumeJustStarted hg' hv r⟩
  | resumeThrowFresh hg _ ih =>
    intro g a n
    obtain ⟨z, hg'⟩ := a.awake hg rfl
    obtain ⟨g', a', z', r⟩ := ih _ (a.put z okSt_fin) n
    exact ⟨g', a', z', .resumeThrowFresh hg' r⟩
  | resumeRunning hg _ ih =>
    intro g a n
    obtain ⟨_, hg'⟩ := a.awake hg rfl
    obtain ⟨g', a', z, r⟩ := ih g a n
    exact ⟨g', a', z, .resumeRunning hg' r⟩
  | resumeFinished hg _ ih =>
    intro g a n
    obtain ⟨_, hg'⟩ := a.awake hg rfl
    obtain ⟨g', a', z, r⟩ := ih g a n
    exact ⟨g', a', z, .resumeFinished hg' r⟩
  | segRet _ _ ih1 ih2 =>
    intro g a n
    obtain ⟨g1, a1, _, r1⟩ := ih1 g a noZ_nil
    obtain ⟨g2, a2, z, r2⟩ := ih2 g1 a1 n.tail
    exact ⟨g2, a2, z, .segRet r1 r2⟩
  | segGen _ _ ih1 ih2 =>
    intro g a n
    obtain ⟨g1, a1, _, r1⟩ := ih1 g a noZ_nil
    obtain ⟨g2, a2, z, r2⟩ := ih2 _ (a1.put (n _ _ _ _ _ List.mem_cons_self) okSt_fin) n.tail
    exact ⟨g2, a2, z, .segGen r1 r2⟩
  | segSuspOut hs _ ih =>
    intro g a n
    obtain ⟨g1, a1, z, r1⟩ := ih g a noZ_nil
    exact ⟨g1, a1, NoZ.app z n, .segSuspOut hs r1⟩
  | segSuspGen hs _ hq _ ih1 ih2 =>
    intro g a n
    obtain ⟨n1, n2, n3⟩ := noZ_split hs n
    obtain ⟨g1, a1, z1, r1⟩ := ih1 g a noZ_nil
    obtain ⟨g2, a2, z, r2⟩ := ih2 _ (a1.put n2 (okSt_end (e := .susp _ _ _ _ _ _ _) (NoZ.app z1 n1))) n3
    exact ⟨g2, a2, z, .segSuspGen hs r1 hq r2⟩
theorem wakes_awake {M : Model} {Z : Nat → Prop} {G : Nat → GenState} {Γ : PySem.Ctx} {p : Pos} {gi : Nat} {r : Resume} {s s' : Shared} {res : GenResult} (h : Wakes M Γ p gi r s res s') (g : Array GenState) (a : Asleep Z G s.gens g) :
    ∃ g', Asleep Z G s'.gens g' ∧ Wakes M Γ p gi r (wg s g) res (wg s' g') := by
  unfold Wakes at h ⊢
  cases hg : s.gens[gi]? with
  | none => rw [hg] at h; exact h.elim
  | some st =>
    rw [hg] at h
    cases st with
    | running =>
      obtain ⟨_, hg'⟩ := a.awake hg rfl
      obtain ⟨rfl, rfl⟩ := h
      refine ⟨g, a, ?_⟩
      rw [show (wg s' g).gens[gi]? = some .running from hg']
      exact ⟨rfl, rfl⟩
    | finished =>
      obtain ⟨_, hg'⟩ := a.awake hg rfl
      obtain ⟨rfl, rfl⟩ := h
      refine ⟨g, a, ?_⟩
      rw [show (wg s' g).gens[gi]? = some .finished from hg']
      exact ⟨rfl, rfl⟩
    | fresh c =>
      obtain ⟨z, hg'⟩ := a.awake hg rfl
      cases r with
      | throw x =>
        obtain ⟨rfl, rfl⟩ := h
        refine ⟨_, a.put z okSt_fin, ?_⟩
        rw [show (wg s g).gens[gi]? = some (.fresh c) from hg']
        exact ⟨rfl, rfl⟩
      | send v =>
        by_cases hv : v = .none
        · subst hv
          obtain ⟨e₁, s₁, hr, hq, rfl, rfl⟩ := h
          obtain ⟨g1, a1, z1, r1⟩ := runs_awake hr _ (a.put z okSt_run) noZ_nil
          refine ⟨_, a1.put z (okSt_end z1), ?_⟩
          rw [show (wg s g).gens[gi]? = some (.fresh c) from hg']
          exact ⟨e₁, _, r1, hq, rfl, rfl⟩
        · have h' : res = .justStarted ∧ s' = s := by
            revert h
            cases v <;> first | exact absurd rfl hv | exact fun h => h
          obtain ⟨rfl, rfl⟩ := h'
          refine ⟨g, a, ?_⟩
          rw [show (wg s' g).gens[gi]? = some (.fresh c) from hg']
          revert hv
          cases v <;> intro hv <;> first | exact absurd rfl hv | exact ⟨rfl, rfl⟩
    | suspended k₀ l₀ c₀ p₀ fs cl =>
      obtain ⟨e₁, s₁, hr, hq, rfl, rfl⟩ := h
      by_cases z : Z gi
      · exfalso
        obtain ⟨_, h2, h3⟩ := a.sl gi z
        rw [h2] at hg
        revert hg h3
        cases hG : G gi with
        | suspended k l c p fs cl =>
          intro hg _
          cases hg
          exact no_unsup hr
        | fresh _ => intro hg _; cases hg
        | running => intro hg _; cases hg
        | finished => intro hg _; cases hg
      · have hg' : g[gi]? = some (.suspended k₀ l₀ c₀ p₀ fs cl) := by rw [← a.out gi z]; exact hg
        obtain ⟨g1, a1, z1, r1⟩ := runs_awake hr _ (a.put z okSt_run) (a.ok gi _ z hg' _ _ _ _ _ _ rfl)
        refine ⟨_, a1.put z (okSt_end z1), ?_⟩
        rw [show (wg s g).gens[gi]? = some (.suspended k₀ l₀ c₀ p₀ fs cl) from hg']
        exact ⟨e₁, _, r1, hq, rfl, rfl⟩
/-! the same of wp -/
theorem wp_awake {α : Type} {M : Model} {Z : Nat → Prop} {G : Nat → GenState} {Γ : PySem.Ctx} (t : Sem α) : ∀ (Q : α → Pos → Shared → Prop) (E : Value → Pos → Shared → Prop) (p : Pos) (s : Shared) (g : Array GenState), Asleep Z G s.gens g → Sem.wp M Γ t Q E p s →
    Sem.wp M Γ t (fun x p' s' => ∃ g₀, Asleep Z G g₀ s'.gens ∧ Q x p' (wg s' g₀)) (fun x p' s' => ∃ g₀, Asleep Z G g₀ s'.gens ∧ E x p' (wg s' g₀)) p (wg s g) := by
  induction t with
  | pure a => intro Q E p s g a h; exact ⟨s.gens, a, h⟩
  | raise e => intro Q E p s g a h; exact ⟨s.gens, a, h⟩
  | unsupported _ => intro Q E p s g _ h; exact h
  | finish _ => intro Q E p s g _ h; exact h
  | register _ _ => intro Q E p s g _ h; exact h
  | yield _ _ _ _ => intro Q E p s g _ h; exact h
  | fork _ _ => intro Q E p s g _ h; exact h
  | await _ _ _ _ _ => intro Q E p s g _ h; exact h
  | rule _ k ih => intro Q E p s g a h; exact ih () Q E p s g a h
  | «at» p' k ih => intro Q E p s g a h; exact ih () Q E p' s g a h
  | load _ _ k ih => intro Q E p s g a h; obtain ⟨o, ho, h⟩ := h; exact ⟨o, ho, ih o Q E p s g a h⟩
  | update ad _ f k ih => intro Q E p s g a h; exact ⟨h.1, ih () Q E p { s with heap := s.heap.update ad f } g a h.2⟩
  | loadIfAlive _ k ih => intro Q E p s g a h; exact ih _ Q E p s g a h
  | point _ k ih => intro Q E p s g a h; exact ih () Q E p s g a h
  | alloc o k ih => intro Q E p s g a h; exact ih _ Q E p { s with heap := s.heap.push o } g a h
  | fresh k ih => intro Q E p s g a h; exact ih _ Q E p { s with toks := s.toks + 1 } g a h
  | ask k ih => intro Q E p s g a h; exact ih _ Q E p s g a h
  | choose src m k ih => intro Q E p s g a h; exact ⟨h.1, ih _ Q E p { s with drawn := s.drawn.bump src } g a h.2⟩
  | os q _ k ih => intro Q E p s g a h; exact ih _ Q E p { s with os := (Os.step s.os q).1 } g a h
  | call c hd _ _ k ih =>
    intro Q E p s g a h
    obtain ⟨r, s', hr, h⟩ := h
    obtain ⟨g1, a1, _, r1⟩ := runs_awake hr g a noZ_nil
    exact ⟨r, _, r1, ih r Q E p s' g1 a1 h⟩
  | handled own k ih => intro Q E p s g a h; exact ih _ Q E p s g a h
  | genState gi k ih =>
    intro Q E p s g a h
    obtain ⟨st, hs, h⟩ := h
    obtain ⟨y, h1, h2⟩ := a.seen hs
    exact ⟨y, h1, by rw [h2]; exact ih _ Q E p s g a h⟩
  | newGen c k ih =>
    intro Q E p s g a h
    have := ih _ Q E p _ _ (a.push c) h
    show Sem.wp M Γ (k g.size) _ _ p _
    rw [← a.size]
    exact this
  | resume gi r _ k ih =>
    intro Q E p s g a h
    obtain ⟨res, s', hw, h⟩ := h
    obtain ⟨g1, a1, w1⟩ := wakes_awake hw g a
    exact ⟨res, _, w1, ih res Q E p s' g1 a1 h⟩
  | stack k ih => intro Q E p s g a h; exact ih _ Q E p s g a h
  | thread k ih => intro Q E p s g a h; exact ih _ Q E p s g a h
/-- all that sleeps cut off -/
def cutG (g : Array GenState) : Array GenState := g.map gFroz
theorem asleep_cut (g : Array GenState) : Asleep (fun i => ∃ x, g[i]? = some x ∧ gSlp x = true) (fun i => (g[i]?).getD .running) (cutG g) g := by
  refine ⟨by simp [cutG], fun i hi => ?_, fun i hi => ?_, fun i x hi h => ?_⟩
  · unfold cutG
    rw [Array.getElem?_map]
    cases h : g[i]? with
    | none => rfl
    | some x =>
      have : gSlp x ≠ true := fun z => hi ⟨x, h, z⟩
      revert this
      cases x <;> simp [gSlp, gFroz]
  · obtain ⟨x, h, z⟩ := hi
    refine ⟨by rw [h]; rfl, ?_, by rw [h]; exact z⟩
    unfold cutG
    rw [Array.getElem?_map, h]
    rfl
  · intro k l c p fs cl e
    subst e
    exact absurd ⟨_, h, rfl⟩ hi
theorem cut_bare {g : Array GenState} (h : AllBare g) : AllBare (cutG g) := fun y hy => by
  obtain ⟨x, hx, rfl⟩ := Array.mem_map.mp hy
  have := h x hx
  revert this
  cases x <;> simp [gFroz, GenState.bare]
/-- what slept sleeps on -/
def Slept2 (g g' : Array GenState) : Prop := ∀ (i : Nat) (x : GenState), g[i]? = some x → gSlp x = true → g'[i]? = some x
theorem awake_bare {g g₀ g' : Array GenState} (a : Asleep (fun i => ∃ x, g[i]? = some x ∧ gSlp x = true) (fun i => (g[i]?).getD .running) g₀ g') (b : AllBare g) (b₀ : AllBare g₀) : AllBare g' ∧ Slept2 g g' := by
  refine ⟨fun y hy => ?_, fun i x h z => ?_⟩
  · obtain ⟨i, hi, e⟩ := Array.mem_iff_getElem.mp hy
    have hg : g'[i]? = some y := by rw [Array.getElem?_eq_getElem hi, e]
    by_cases z : ∃ x, g[i]? = some x ∧ gSlp x = true
    · obtain ⟨h1, _, _⟩ := a.sl i z
      obtain ⟨x, hx, _⟩ := z
      have h1 : g'[i]? = some ((g[i]?).getD .running) := h1
      rw [hx] at h1
      rw [hg] at h1
      cases h1
      exact b _ (Array.mem_of_getElem? hx)
    · have := a.out i z
      rw [hg] at this
      exact b₀ y (Array.mem_of_getElem? this)
  · obtain ⟨h1, _, _⟩ := a.sl i ⟨x, h, z⟩
    have h1 : g'[i]? = some ((g[i]?).getD .running) := h1
    rw [h] at h1
    exact h1
theorem wpAny_awake {α : Type} {M : Model} {A : Around} {t : Sem α} {Q : α → Shared → Prop} {E : Value → Shared → Prop} {s : Shared}
    (h : wpAny M A t Q E (wg s (cutG s.gens))) :
    wpAny M A t (fun x s' => ∃ g₀, Asleep (fun i => ∃ x, s.gens[i]? = some x ∧ gSlp x = true) (fun i => (s.gens[i]?).getD .running) g₀ s'.gens ∧ Q x (wg s' g₀))
      (fun x s' => ∃ g₀, Asleep (fun i => ∃ x, s.gens[i]? = some x ∧ gSlp x = true) (fun i => (s.gens[i]?).getD .running) g₀ s'.gens ∧ E x (wg s' g₀)) s := fun Γ p hΓ =>
  wp_awake t _ _ p (wg s (cutG s.gens)) s.gens (asleep_cut s.gens) (h Γ p hΓ)
/-! of statements: what sleeps ahead sleeps behind -/
section
variable {X : Cx} {pins : List (Addr × Obj)} {σ : L2.St} {H : Hp} {s : Shared}
theorem inv_wg {g : Array GenState} (I : Inv X pins σ H s) (b : AllBare g) : Inv X pins σ H (wg s g) := ⟨I.ok, I.os, b, I.base, I.loc, I.cell, I.free, I.freeC, I.pin, I.hok, I.len⟩
theorem sp_wg {D : Ends} {f : Flow} {g : Array GenState} (b : AllBare g) (h : SP X pins D f s) : SP X pins D f (wg s g) := by
  cases f with
  | next => obtain ⟨σ, H, I, q⟩ := h; exact ⟨σ, H, inv_wg I b, q⟩
  | brk => obtain ⟨σ, H, I, q⟩ := h; exact ⟨σ, H, inv_wg I b, q⟩
  | cont => obtain ⟨σ, H, I, q⟩ := h; exact ⟨σ, H, inv_wg I b, q⟩
  | ret u => obtain ⟨v, σ, H, I, r, q⟩ := h; exact ⟨v, σ, H, inv_wg I b, r, q⟩
theorem sp_bare {D : Ends} {f : Flow} (h : SP X pins D f s) : AllBare s.gens := by
  cases f with
  | next => obtain ⟨σ, H, I, q⟩ := h; exact I.bare
  | brk => obtain ⟨σ, H, I, q⟩ := h; exact I.bare
  | cont => obtain ⟨σ, H, I, q⟩ := h; exact I.bare
  | ret u => obtain ⟨v, σ, H, I, r, q⟩ := h; exact I.bare
/-- what is wanted of an exception doesn't ask what sleeps -/
def XeOk (X : Cx) : Prop := ∀ (Z : Nat → Prop) (G : Nat → GenState) (e : Value) (s : Shared) (g₀ : Array GenState), Asleep Z G g₀ s.gens → X.xe e (wg s g₀) → X.xe e s
theorem xeOk_never {X : Cx} (h : ∀ e s, ¬ X.xe e s) : XeOk X := fun _ _ e s g₀ _ x => absurd x (h e (wg s g₀))
/-- an exception that nobody wants may not leave the def -/
theorem xeOk_leaving {X : Cx} {M : Model} {A : Around} {env : Env} (h : ∀ e s, X.xe e s ↔ wpAny M A (leaving env e) (fun _ _ => False) (fun _ _ => False) s) : XeOk X := fun Z G e s g₀ a x => by
  rw [h] at x ⊢
  intro Γ p hΓ
  have := wp_awake (Z := Z) (G := G) (leaving env e) _ _ p (wg s g₀) s.gens a (x Γ p hΓ)
  exact Sem.wp_mono M Γ _ (fun _ _ _ q => let ⟨_, _, q⟩ := q; q) (fun _ _ _ q => let ⟨_, _, q⟩ := q; q) _ _ this
theorem pss_sleep {body : List Stmt} {t : TS} {D : Ends} (hx : XeOk X) (hb : PSs X body t) (I : Inv X pins σ H s) (h : t D σ H) :
    wpAny (model X.prog X.w) X.A (execs body X.env) (fun f s' => SP X pins D f s' ∧ Slept2 s.gens s'.gens) X.xe s := by
  refine wpAny_mono (wpAny_awake (hb.run pins _ σ H D (inv_wg I (cut_bare I.bare)) h)) (fun f s' q => ?_) fun e s' q => ?_
  · obtain ⟨g₀, a, q⟩ := q
    obtain ⟨b1, b2⟩ := awake_bare a I.bare (sp_bare q)
    exact ⟨sp_wg (s := wg s' g₀) b1 q, b2⟩
  · obtain ⟨g₀, a, q⟩ := q
    exact hx _ _ e s' g₀ a q
theorem pg_sleep {target : Expr} {t : TG} {v : V} {u : Value} {Q : L2.St → Hp → Prop} (hx : XeOk X) (hg : PG X target t) (I : Inv X pins σ H s) (r : RelV v u) (h : t v σ H Q) :
    wpAny (model X.prog X.w) X.A (assign target X.env u) (fun _ s' => ∃ σ' H', Inv X pins σ' H' s' ∧ Q σ' H' ∧ Slept2 s.gens s'.gens) X.xe s := by
  refine wpAny_mono (wpAny_awake (hg.run pins _ σ H v u Q (inv_wg I (cut_bare I.bare)) r h)) (fun f s' q => ?_) fun e s' q => ?_
  · obtain ⟨g₀, a, σ', H', I', q⟩ := q
    obtain ⟨b1, b2⟩ := awake_bare a I.bare I'.bare
    exact ⟨σ', H', inv_wg (s := wg s' g₀) I' b1, q, b2⟩
  · obtain ⟨g₀, a, q⟩ := q
    exact hx _ _ e s' g₀ a q
end
/-! ### one run of a generator's code, up to where it hands out or ends -/
def Go (M : Model) (A : Around) (F : End → Shared → Prop) (c : Code) (t : Sem PySem.Fin) (fs : List Frame) (s : Shared) : Prop :=
  ∀ (Γ : PySem.Ctx) (p : Pos), Γ.code = c → Γ.Woken A → ∃ e s', Runs M Γ p t fs s e s' ∧ F e s'
section
variable {M : Model} {A : Around} {F : End → Shared → Prop} {c : Code} {fs : List Frame} {s : Shared}
theorem go_wrap {α : Type} {m : Sem α} {K : α → Sem PySem.Fin} {J : Value → Sem PySem.Fin} {gd : Bool → Bool} {lv : List Value → List Value}
    (h : wpAny M (A.over c fs) m (fun a s' => Go M A F c (K a) fs s') (fun x s' => Go M A F c (J x) fs s') s) : Go M A F c (m.wrap K J gd lv) fs s := by
  rintro Γ p rfl w
  exact runs_wrap_of_wp K J gd lv m (h (Γ.over fs) p (w.over fs)) (fun a p' s' k => k Γ p' rfl w) fun x p' s' k => k Γ p' rfl w
theorem go_bind {α : Type} {m : Sem α} {K : α → Sem PySem.Fin} (h : wpAny M (A.over c fs) m (fun a s' => Go M A F c (K a) fs s') (fun x s' => Go M A F c (.raise x) fs s') s) : Go M A F c (m >>= K) fs s := by
  rw [Sem.bind_eq_wrap' m K]
  exact go_wrap h
theorem go_at {p' : Pos} {k : Unit → Sem PySem.Fin} (h : Go M A F c (k ()) fs s) : Go M A F c (.at p' k) fs s :=
  go_wrap (m := standAt p') (K := k) (J := Sem.raise) (gd := id) (lv := id) (wpAny_standAt h)
theorem go_point {l : List Value} {k : Unit → Sem PySem.Fin} (h : Go M A F c (k ()) fs s) : Go M A F c (.point l k) fs s :=
  go_wrap (m := point) (K := k) (J := Sem.raise) (gd := id) (lv := fun _ => l) (wpAny_point h)
theorem go_call {c' : Code} {hd : Option Value} {g : Bool} {l : List Value} {k : Result → Sem PySem.Fin} (h : ∀ p, Go M A F c' (M.den c') (.ret k hd g l c p [] :: fs) s) : Go M A F c (.call c' hd g l k) fs s := by
  rintro Γ p rfl w
  obtain ⟨e, s', r, q⟩ := h p (Γ.goto c') p rfl (w.goto c')
  exact ⟨e, s', runs_call_seg r, q⟩
theorem go_leaf {k : Result → Sem PySem.Fin} {hd : Option Value} {g : Bool} {l kp : List Value} {c₁ : Code} {p₁ : Pos} (r : Result) (h : Go M A F c₁ (k r) fs s) : Go M A F c (leafOf r) (.ret k hd g l c₁ p₁ kp :: fs) s := by
  rintro Γ p rfl w
  obtain ⟨e, s', r', q⟩ := h (Γ.goto c₁) p₁ rfl (w.goto c₁)
  exact ⟨e, s', Runs.pop r r', q⟩
theorem go_again {c' : Code} (hq : c'.quiet = true) (h : Go M A F c' (M.den c') fs s) : Go M A F c (.pure (.again c')) fs s := by
  rintro Γ p rfl w
  obtain ⟨e, s', r, q⟩ := h (Γ.goto c') p rfl (w.goto c')
  exact ⟨e, s', Runs.head (c₁ := c') (fun _ _ x => .again hq x) r, q⟩
theorem go_end (r : Result) (h : F (.ret r) s) : Go M A F c (leafOf r) [] s := by
  rintro Γ p rfl _
  exact ⟨.ret r, s, Runs.leaf r, h⟩
theorem go_yield {v : Value} {g : Bool} {l : List Value} {k : Resume → Sem PySem.Fin} (hf : splitAtGen fs = none) (h : ∀ p, F (.susp v g l k c p fs) s) : Go M A F c (.yield v g l k) fs s := by
  rintro Γ p rfl _
  exact ⟨_, s, Runs.yield' fs hf, h p⟩
end
/-! ### the generator's frame, seen anew at each waking -/
structure Gp where
  P : Program
  w : World
  K : PySem.W.Frag
  mg : Str → Option Value
  base : Heap
  N : List Str
  env : Env
  A : Around
  outer : List Env
/-- what a waking finds: the heap as far as it is older than the generator, what is tracked, what must not be touched -/
structure Ix where
  s0 : Shared
  H0 : Hp
def Gp.X (G : Gp) (x : Ix) : Cx where
  prog := G.P
  w := G.w
  K := G.K
  mg := G.mg
  base := G.base
  A := G.A.deeper G.env
  N := G.N
  s_0 := x.s0
  H_0 := x.H0
  env := G.env
  outer := G.outer
  stack := G.env :: G.outer
  ex := []
  fn := fun _ => true
  calm := true
  pn := []
  xe := fun _ _ => False
/-- what a sleeping generator still knows when it wakes -/
def plainK : HO → Bool
  | .lst _ => true
  | .tup _ => true
  | .dK _ => true
  | _ => false
def KeepP (H H' : Hp) : Prop := ∀ b u, plainK u = true → H b = some u → H' b = some u
theorem KeepP.refl (H : Hp) : KeepP H H := fun _ _ _ e => e
theorem KeepP.of {H H' : Hp} (s : Same H H') : KeepP H H' := fun b u _ e => s b u e
/-- what comes of a run: It: what is true when x is handed out behind ys; Fn: at the end -/
def Fi (G : Gp) (It : List V → V → Hp → Prop) (Fn : List V → Hp → Prop) : Nat → Ix → End → Shared → Prop
  | 0 => fun ix e s => match e with
    | .ret r => (r = .ok (.ret .none) ∨ r = .ok .next) ∧ ∃ ys ip σ H, 0 + ys.length = sizeLine ∧ Inv (G.X ix) ip σ H s ∧ Fn ys H
    | .susp .. => False
  | m + 1 => fun ix e s => match e with
    | .ret r => (r = .ok (.ret .none) ∨ r = .ok .next) ∧ ∃ ys ip σ H, m + 1 + ys.length = sizeLine ∧ Inv (G.X ix) ip σ H s ∧ Fn ys H
    | .susp v g l k c p fs => (End.susp v g l k c p fs).quiet = true ∧ ∃ ys x ip σ H, m + 1 + ys.length = sizeLine ∧ RelV x v ∧ Inv (G.X ix) ip σ H s ∧ (∀ p ∈ ip, G.env.locals ≤ p.1) ∧ It ys x H ∧
      ∀ ix' H' s', KeepP H H' → Inv (G.X ix') ip σ H' s' → Go (model G.P G.w) G.A (Fi G It Fn m ix') c (k (.send .none)) fs s'
theorem fi_end {G : Gp} {It : List V → V → Hp → Prop} {Fn : List V → Hp → Prop} {n : Nat} {ix : Ix} {r : Result} {s : Shared} {ys : List V} {ip : List (Addr × Obj)} {σ : L2.St} {H : Hp} (hr : r = .ok (.ret .none) ∨ r = .ok .next) (hn : n + ys.length = sizeLine)
    (I : Inv (G.X ix) ip σ H s) (q : Fn ys H) : Fi G It Fn n ix (.ret r) s := by
  cases n with
  | zero => exact ⟨hr, ys, ip, σ, H, hn, I, q⟩
  | succ m => exact ⟨hr, ys, ip, σ, H, hn, I, q⟩
structure G3C (G : Gp) (ip : List (Addr × Obj)) (c : Code) (fs : List Frame) (gd : Bool → Bool) : Prop where
  ips : ∀ p ∈ ip, G.env.locals ≤ p.1
  over : G.A.over c fs = G.A.deeper G.env
  split : splitAtGen fs = none
  guard : fs.any Frame.guarded = false
  gd : gd false = false
def G3P (G : Gp) (ix : Ix) (ip : List (Addr × Obj)) (D : GEnds) (ys : List V) (f : Flow) (s : Shared) : Prop :=
  match f with
  | .next => ∃ σ H, Inv (G.X ix) ip σ H s ∧ D.nx ys σ H
  | .brk => ∃ σ H, Inv (G.X ix) ip σ H s ∧ D.bk ys σ H
  | .cont => ∃ σ H, Inv (G.X ix) ip σ H s ∧ D.ct ys σ H
  | .ret u => ∃ v σ H, Inv (G.X ix) ip σ H s ∧ RelV v u ∧ D.rt ys v H
def G3K (G : Gp) (It : List V → V → Hp → Prop) (Fn : List V → Hp → Prop) (ip : List (Addr × Obj)) (c : Code) (fs : List Frame) (K : Flow → Sem PySem.Fin) (D : GEnds) : Prop :=
  ∀ (n : Nat) (ys : List V) (ix : Ix) (s : Shared) (f : Flow), n + ys.length = sizeLine → G3P G ix ip D ys f s → Go (model G.P G.w) G.A (Fi G It Fn n ix) c (K f) fs s
structure GS3 (G : Gp) (It : List V → V → Hp → Prop) (st : Stmt) (t : TGn) : Prop where
  run : ∀ (Fn : List V → Hp → Prop) (n : Nat) (ys : List V) (ix : Ix) (ip : List (Addr × Obj)) (c : Code) (fs : List Frame) (K : Flow → Sem PySem.Fin) (J : Value → Sem PySem.Fin) (gd : Bool → Bool) (lv : List Value → List Value) (s : Shared) (σ : L2.St) (H : Hp) (D : GEnds),
    G3C G ip c fs gd → n + ys.length = sizeLine → G3K G It Fn ip c fs K D → Inv (G.X ix) ip σ H s → t D ys σ H → Go (model G.P G.w) G.A (Fi G It Fn n ix) c ((exec st G.env).wrap K J gd lv) fs s
structure GSs3 (G : Gp) (It : List V → V → Hp → Prop) (st : List Stmt) (t : TGn) : Prop where
  run : ∀ (Fn : List V → Hp → Prop) (n : Nat) (ys : List V) (ix : Ix) (ip : List (Addr × Obj)) (c : Code) (fs : List Frame) (K : Flow → Sem PySem.Fin) (J : Value → Sem PySem.Fin) (gd : Bool → Bool) (lv : List Value → List Value) (s : Shared) (σ : L2.St) (H : Hp) (D : GEnds),
    G3C G ip c fs gd → n + ys.length = sizeLine → G3K G It Fn ip c fs K D → Inv (G.X ix) ip σ H s → t D ys σ H → Go (model G.P G.w) G.A (Fi G It Fn n ix) c ((execs st G.env).wrap K J gd lv) fs s
section
variable {G : Gp} {It : List V → V → Hp → Prop} {st : Stmt} {rest : List Stmt}
theorem sp_g3 {ix : Ix} {ip : List (Addr × Obj)} {s : Shared} {D : GEnds} {ys : List V} {f : Flow} (h : SP (G.X ix) ip (D.at ys) f s) : G3P G ix ip D ys f s := by
  cases f <;> exact h
theorem g3_plain {t : TS} (h : ∀ ix, PS (G.X ix) st t) : GS3 G It st (tPlain t) := by
  refine ⟨fun Fn n ys ix ip c fs K J gd lv s σ H D g hn k I ht => go_wrap ?_⟩
  rw [g.over]
  exact wpAny_mono ((h ix).run ip s σ H (D.at ys) I ht) (fun f s' q => k n ys ix s' f hn (sp_g3 q)) fun _ _ x => x.elim
theorem g3s_plain {t : TS} (h : ∀ ix, PSs (G.X ix) rest t) : GSs3 G It rest (tPlain t) := by
  refine ⟨fun Fn n ys ix ip c fs K J gd lv s σ H D g hn k I ht => go_wrap ?_⟩
  rw [g.over]
  exact wpAny_mono ((h ix).run ip s σ H (D.at ys) I ht) (fun f s' q => k n ys ix s' f hn (sp_g3 q)) fun _ _ x => x.elim
theorem g3s_nil : GSs3 G It [] tG0 := ⟨fun Fn n ys ix ip c fs K J gd lv s σ H D g hn k I ht => k n ys ix s .next hn ⟨σ, H, I, ht⟩⟩
theorem g3s_cons {t u : TGn} (a : GS3 G It st t) (b : GSs3 G It rest u) : GSs3 G It (st :: rest) (tGThen t u) := by
  refine ⟨fun Fn n ys ix ip c fs K J gd lv s σ H D g hn k I ht => ?_⟩
  rw [execs_cons_wrap]
  refine a.run Fn n ys ix ip c fs _ J gd lv s σ H { D with nx := fun ys' σ' H' => u D ys' σ' H' } g hn (fun n' ys' ix' s' f hn' q => ?_) I ht
  cases f with
  | next =>
    obtain ⟨σ', H', I', q⟩ := q
    exact b.run Fn n' ys' ix' ip c fs K J gd lv s' σ' H' D g hn' k I' q
  | brk => exact k n' ys' ix' s' .brk hn' q
  | cont => exact k n' ys' ix' s' .cont hn' q
  | ret u => exact k n' ys' ix' s' (.ret u) hn' q
def tGIf (c : TT) (t u : TGn) : TGn := fun D ys σ H => c σ H fun b H1 => if b = true then t D ys σ H1 else u D ys σ H1
theorem g3_if {test : Expr} {body orelse : List Stmt} {pos : Pos} {tc : TT} {t u : TGn} (hc : ∀ ix, PT (G.X ix) test tc) (ha : GSs3 G It body t) (hb : GSs3 G It orelse u) : GS3 G It (.If test body orelse pos) (tGIf tc t u) := by
  refine ⟨fun Fn n ys ix ip c fs K J gd lv s σ H D g hn k I ht => ?_⟩
  rw [exec_If]
  refine go_at ?_
  show Go _ _ _ _ (((isTrue test G.env (eval test G.env)) >>= fun b => if b = true then execs body G.env else execs orelse G.env).wrap K J gd lv) fs s
  rw [Sem.bind_eq_wrap', Sem.wrap_wrap]
  refine go_wrap ?_
  rw [g.over]
  refine wpAny_mono ((hc ix).run ip s σ H _ I ht) (fun b s1 q => ?_) fun _ _ x => x.elim
  obtain ⟨H1, I1, q⟩ := q
  cases b with
  | true => exact ha.run Fn n ys ix ip c fs K J gd lv s1 σ H1 D g hn k I1 q
  | false => exact hb.run Fn n ys ix ip c fs K J gd lv s1 σ H1 D g hn k I1 q
/-! yield -/
def tGY3 (It : List V → V → Hp → Prop) (te : TE) : TGn := fun D ys σ H => ys.length < sizeLine ∧ te σ H fun x H1 => It ys x H1 ∧ ∀ H2, KeepP H1 H2 → D.nx (ys ++ [x]) σ H2
theorem g3_yield {e : Expr} {yp pos : Pos} {te : TE} (he : ∀ ix, PE (G.X ix) e te) (hco : G.env.scope.isCoroutine = false) (hi : interactive G.env = false) : GS3 G It (.Expr (.Yield (some e) yp) pos) (tGY3 It te) := by
  refine ⟨fun Fn n ys ix ip c fs K J gd lv s σ H D g hn k I ht => ?_⟩
  obtain ⟨hlt, ht⟩ := ht
  obtain ⟨n, rfl⟩ : ∃ m, n = m + 1 := ⟨n - 1, by omega⟩
  rw [exec_Expr G.env _ pos hi rfl]
  show Go _ _ _ c (.at pos fun _ => ((eval e G.env >>= fun v => (standAt yp >>= fun _ => yieldOut G.env v)) >>= fun x => dropValue (.Yield (some e) yp) pos x).wrap K J gd lv) fs s
  have hy : ∀ v, yieldOut G.env v = yieldValue v := fun v => by simp only [yieldOut, hco, Bool.false_eq_true, if_false]
  simp only [hy]
  refine go_at ?_
  rw [Sem.bind_eq_wrap', Sem.bind_eq_wrap', Sem.wrap_wrap, Sem.wrap_wrap]
  refine go_wrap ?_
  rw [g.over]
  refine wpAny_mono ((he ix).run ip s σ H _ I ht) (fun v s1 q => ?_) fun _ _ x => x.elim
  obtain ⟨x, H1, I1, rv, q1, q2⟩ := q
  refine go_at (go_yield g.split fun p => ?_)
  refine ⟨?_, ys, x, ip, σ, H1, hn, rv, I1, g.ips, q1, fun ix' H' s' hk I' => ?_⟩
  · simp [End.quiet, g.gd, g.guard]
  · exact k n (ys ++ [x]) ix' s' .next (by rw [List.length_append]; show n + (ys.length + 1) = _; omega) ⟨σ, H', I', q2 H' hk⟩
end
/-! ### while, in a generator -/
section
variable {G : Gp} {It : List V → V → Hp → Prop}
theorem turn_eq {prog : Program} {w : World} {env : Env} {test : Expr} {body : List Stmt} : (model prog w).den (.whileLoop test body [] env) =
    (isTrue test env (eval test env)).wrap (fun b => if b = true then (execs body env).wrap (fun f => match f with
          | .next => .pure (.again (.whileLoop test body [] env))
          | .cont => .pure (.again (.whileLoop test body [] env))
          | .brk => .pure (.done .next)
          | .ret v => .pure (.done (.ret v))) (fun e => (do noteFrame e env; theTreesLotGoes e : Sem Unit).bind fun _ => .raise e) id id
        else .pure (.done .next)) (fun e => (do noteFrame e env; theTreesLotGoes e : Sem Unit).bind fun _ => .raise e) id id := by
  show (whileTurn test body [] env).onRaise (fun x => do noteFrame x env; theTreesLotGoes x) = _
  unfold whileTurn
  rw [Sem.onRaise_eq_wrap]
  rw [Sem.bind_eq_wrap']
  rw [Sem.wrap_wrap]
  refine Sem.wrap_congr _ _ _ (fun b => ?_) fun e => rfl
  cases b with
  | true =>
    show Sem.wrap _ _ _ _ (if true = true then _ else _) = _
    rw [if_pos rfl, if_pos rfl]
    rw [Sem.bind_eq_wrap']
    rw [Sem.wrap_wrap]
    exact Sem.wrap_congr _ _ _ (fun f => by cases f <;> rfl) fun e => rfl
  | false =>
    show Sem.wrap _ _ _ _ (if false = true then _ else _) = _
    rw [if_neg Bool.false_ne_true, if_neg Bool.false_ne_true]
    rfl
theorem g3c_loop {c c' : Code} {fs : List Frame} {gd : Bool → Bool} {k : Result → Sem PySem.Fin} {l kp : List Value} {p : Pos} {ip : List (Addr × Obj)} (g : G3C G ip c fs gd) (hw : c'.weight = 0) (hu : c'.cUnits = 0)   : G3C G ip c' (.ret k none (gd false) l c p kp :: fs) id := by
  refine ⟨g.ips, (GenW.over_loop hw hu).trans g.over, ?_, ?_, rfl⟩
  · rw [splitAtGen_ret, g.split]; rfl
  · show (gd false || fs.any Frame.guarded) = false
    rw [g.gd, g.guard]; rfl
theorem g3_while {test : Expr} {body : List Stmt} {pos : Pos} {tc : TT} {tb : TGn} (hc : ∀ ix, PT (G.X ix) test tc) (hb : GSs3 G It body tb) : GS3 G It (.While test body [] pos) (tGWhile tc tb) := by
  refine ⟨fun Fn n ys ix ip c fs K J gd lv s σ H D g hn k I ht => ?_⟩
  obtain ⟨W, ⟨m0, w0⟩, turn⟩ := ht
  refine go_at (go_call fun p => ?_)
  have gl := fun (kk : Result → Sem PySem.Fin) => g3c_loop (k := kk) (c' := .whileLoop test body [] G.env) (l := lv []) (kp := []) (p := p) g rfl rfl
  have loop : ∀ (m n : Nat) (ys : List V) (ix : Ix) (s : Shared) (σ : L2.St) (H : Hp), n + ys.length = sizeLine → W m ys σ H → Inv (G.X ix) ip σ H s →
      Go (model G.P G.w) G.A (Fi G It Fn n ix) (.whileLoop test body [] G.env) ((model G.P G.w).den (.whileLoop test body [] G.env))
        (.ret (fun r => ((match r with | .ok f => (.pure f : Sem Flow) | .error e => .raise e).onRaise fun (x : Value) => do
          if (← field x 1) == Value.none then unsupported "frame.own-activation:exception-without-traceback"
          setFlight x G.env.frame).wrap K J gd lv) none (gd false) (lv []) c p [] :: fs) s := by
    intro m
    induction m using Nat.strongRecOn with
    | ind m ih =>
      intro n ys ix s σ H hn w I
      rw [turn_eq]
      refine go_wrap ?_
      rw [(gl _).over]
      refine wpAny_mono ((hc ix).run ip s σ H _ I (turn m ys σ H w)) (fun b s1 q => ?_) fun _ _ x => x.elim
      obtain ⟨H2, I2, q2⟩ := q
      cases b with
      | true =>
        obtain ⟨N, hN, q2⟩ := q2
        rw [if_pos rfl]
        refine hb.run Fn n ys ix ip _ _ _ _ id id s1 σ H2 { D with nx := N, ct := N, bk := D.nx } (gl _) hn (fun n' ys' ix' s3 f hn' q3 => ?_) I2 q2
        cases f with
        | next =>
          obtain ⟨σ3, H3, I3, n3⟩ := q3
          obtain ⟨m', hm, w3⟩ := hN ys' σ3 H3 n3
          exact go_again rfl (ih m' hm n' ys' ix' s3 σ3 H3 hn' w3 I3)
        | cont =>
          obtain ⟨σ3, H3, I3, n3⟩ := q3
          obtain ⟨m', hm, w3⟩ := hN ys' σ3 H3 n3
          exact go_again rfl (ih m' hm n' ys' ix' s3 σ3 H3 hn' w3 I3)
        | brk => exact go_leaf (.ok .next) (k n' ys' ix' s3 .next hn' q3)
        | ret v => exact go_leaf (.ok (.ret v)) (k n' ys' ix' s3 (.ret v) hn' q3)
      | false =>
        rw [if_neg Bool.false_ne_true]
        exact go_leaf (.ok .next) (k n ys ix s1 .next hn ⟨σ, H2, I2, q2⟩)
  exact loop m0 n ys ix s σ H hn w0 I
end
/-! ### the older part of a heap -/
def cutH (h : Heap) (n : Nat) : Heap := { h with objs := h.objs.extract 0 n }
theorem cut_size {h : Heap} {n : Nat} (hn : n ≤ h.objs.size) : (cutH h n).objs.size = n := by
  show (h.objs.extract 0 n).size = n
  rw [Array.size_extract]
  omega
theorem cut_get {h : Heap} {n : Nat} {b : Addr} (hb : b < n) : (cutH h n).get? b = h.get? b := by
  have e : (h.objs.extract 0 n)[b]? = h.objs[b]? := by
    rw [Array.getElem?_extract]
    by_cases hs : b < h.objs.size
    · rw [if_pos (by rw [Nat.sub_zero]; exact Nat.lt_min.mpr ⟨hb, hs⟩), Nat.zero_add]
    · rw [if_neg (fun z => hs (Nat.lt_of_lt_of_le (by rw [Nat.sub_zero] at z; exact z) (Nat.min_le_right _ _)))]
      exact (Array.getElem?_eq_none_iff.mpr (Nat.not_lt.mp hs)).symm
  unfold Heap.get?
  show (match (h.objs.extract 0 n)[b]? with | some ⟨_, _, .freed, _⟩ => none | o => o) = _
  rw [e]
  rfl
theorem cut_of {h : Heap} {n : Nat} (hn : n ≤ h.objs.size) {b : Addr} {o : Obj} (e : (cutH h n).get? b = some o) : b < n ∧ h.get? b = some o := by
  have hb := Heap.lt_size e
  rw [cut_size hn] at hb
  exact ⟨hb, by rw [← cut_get hb]; exact e⟩
theorem cut_frames {h base : Heap} {n : Nat} : ∀ {l : List Env}, h.FunFrames base l → (∀ b ∈ frs l, b < n) → (cutH h n).FunFrames base l
  | [], _, _ => trivial
  | env :: rest, ⟨hk, ⟨L, o, hf, hn, ho, hd⟩, hr⟩, hl => by
    have hL : L < n := hl L (by unfold frs; rw [List.filterMap_cons, hf]; exact List.mem_cons_self)
    refine ⟨hk, ⟨L, o, hf, hn, by rw [cut_get hL]; exact ho, hd⟩, cut_frames hr fun b hb => hl b ?_⟩
    unfold frs
    rw [List.filterMap_cons, hf]
    exact List.mem_cons_of_mem _ hb
/-! ### what the generator knows at a waking -/
def KeepU (H H' : Hp) : Prop := ∀ b xs, H b = some (.tup xs) → H' b = some (.tup xs)
def frzO (o : Obj) : HO := .frz o (.ext fun _ => True)
def mkH (n0 : Nat) (own : List Addr) (Hg : Hp) (h : Heap) : Hp := fun b =>
  if b < n0 then Hg b else if b ∈ own then (match Hg b with | some u => if plainK u = true then some u else none | none => none) else (match h.get? b with | some o => some (frzO o) | none => none)
def cellB (o : Obj) : Bool := match o.data with | .cell _ => true | _ => false
theorem cellB_no {o : Obj} (h : cellB o = false) : ∀ v, o.data ≠ .cell v := fun v e => by
  unfold cellB at h
  rw [e] at h
  cases h
theorem cellB_yes {o : Obj} (h : ∀ v, o.data ≠ .cell v) : cellB o = false := by
  unfold cellB
  cases hd : o.data with
  | cell v => exact absurd hd (h v)
  | _ => rfl
def cut0 (s : Shared) (n0 : Nat) : Shared := { s with heap := cutH s.heap n0 }
def ixOf (n0 : Nat) (own : List Addr) (Hg : Hp) (s : Shared) : Ix := ⟨cut0 s n0, mkH n0 own Hg s.heap⟩
section
variable {n0 : Nat} {own : List Addr} {Hg : Hp} {h : Heap} {b : Addr}
theorem mkH_old (hb : b < n0) : mkH n0 own Hg h b = Hg b := if_pos hb
theorem mkH_own (hb : n0 ≤ b) (m : b ∈ own) : mkH n0 own Hg h b = (match Hg b with | some u => if plainK u = true then some u else none | none => none) := by
  unfold mkH
  rw [if_neg (Nat.not_lt.mpr hb), if_pos m]
theorem mkH_for (hb : n0 ≤ b) (m : b ∉ own) {o : Obj} (e : h.get? b = some o) : mkH n0 own Hg h b = some (frzO o) := by
  unfold mkH
  rw [if_neg (Nat.not_lt.mpr hb), if_neg m, e]
theorem mkH_none (hb : n0 ≤ b) (m : b ∉ own) (e : h.get? b = none) : mkH n0 own Hg h b = none := by
  unfold mkH
  rw [if_neg (Nat.not_lt.mpr hb), if_neg m, e]
theorem mkH_ownS (hb : n0 ≤ b) (m : b ∈ own) {u : HO} (e : Hg b = some u) (p : plainK u = true) : mkH n0 own Hg h b = some u := by
  rw [mkH_own hb m, e]
  exact if_pos p
theorem mkH_ownN (hb : n0 ≤ b) (m : b ∈ own) (e : Hg b = none) : mkH n0 own Hg h b = none := by
  rw [mkH_own hb m, e]
end
/-- a plain object is no cell -/
theorem plain_cell {P : Program} {w : World} {H : Hp} {h : Heap} {b : Addr} {u : HO} (p : plainK u = true) (x : ObjOk P w H h b u) : ∃ o, h.get? b = some o ∧ cellB o = false := by
  cases u with
  | lst xs => obtain ⟨_, its, n, _, e⟩ := x; exact ⟨_, e, rfl⟩
  | tup xs => obtain ⟨_, its, _, o, e, _, n, d⟩ := x; exact ⟨o, e, cellB_yes fun v z => by rw [d] at z; cases z⟩
  | dK kvs => obtain ⟨_, _, vs, _, o, es, ep, e, ex, d, _⟩ := x; exact ⟨o, e, cellB_yes fun v z => by rw [d] at z; cases z⟩
  | _ => cases p
/-- a plain object's description leans on nothing else -/
theorem plain_stay {P : Program} {w : World} {H H' : Hp} {h h' : Heap} {b : Addr} {u : HO} (p : plainK u = true) (x : ObjOk P w H h b u) (k : ∀ o, h.get? b = some o → h'.get? b = some o) : ObjOk P w H' h' b u := by
  cases u with
  | lst xs => obtain ⟨z, its, n, r, e⟩ := x; exact ⟨z, its, n, r, k _ e⟩
  | tup xs => obtain ⟨z, its, r, o, e, c⟩ := x; exact ⟨z, its, r, o, k _ e, c⟩
  | dK kvs => obtain ⟨z, y, vs, r, o, es, ep, e, c⟩ := x; exact ⟨z, y, vs, r, o, es, ep, k _ e, c⟩
  | _ => cases p
/-- it sleeps: H, h are what the other side knows and holds -/
structure Slp (G : Gp) (n0 : Nat) (own : List Addr) (ip : List (Addr × Obj)) (σg : L2.St) (Hg H : Hp) (h : Heap) : Prop where
  inv : ∃ ix sy, ix.s0.heap.objs.size = n0 ∧ Inv (G.X ix) ip σg Hg sy ∧ ∀ b ∈ own, H b = none → sy.heap.get? b = h.get? b
  old : ∀ b, b < n0 → ∀ u, Hg b = some u → ∃ xs, u = .tup xs ∧ H b = some u
  ow : ∀ b ∈ own, n0 ≤ b ∧ (∃ o, h.get? b = some o ∧ cellB o = false) ∧ (H b = none ∨ ∃ xs, H b = some (.tup xs) ∧ Hg b = some (.tup xs))
  pl : ∀ b u, n0 ≤ b → plainK u = true → Hg b = some u → b ∈ own
  tup : ∀ b xs, n0 ≤ b → Hg b = some (.tup xs) → H b = some (.tup xs)
  loc : G.env.locals ∈ own
  ips : ∀ p ∈ ip, p.1 ∈ own
  cells : G.env.cells = []
/-- it may be woken -/
structure Rdy (G : Gp) (n0 : Nat) (own : List Addr) (ip : List (Addr × Obj)) (σg : L2.St) (Hg H : Hp) (s : Shared) : Prop where
  inv : Inv (G.X (ixOf n0 own Hg s)) ip σg (mkH n0 own Hg s.heap) s
  sz : n0 ≤ s.heap.objs.size
  keep : KeepP Hg (mkH n0 own Hg s.heap)
  old : ∀ b, b < n0 → ∀ u, Hg b = some u → ∃ xs, u = .tup xs ∧ H b = some u
  ow : ∀ b ∈ own, n0 ≤ b ∧ (∃ o, s.heap.get? b = some o ∧ cellB o = false) ∧ (H b = none ∨ ∃ xs, H b = some (.tup xs) ∧ Hg b = some (.tup xs))
  loc : G.env.locals ∈ own
  cells : G.env.cells = []
def plst (own : List Addr) (H : Hp) (h : Heap) : List (Addr × Obj) := own.filterMap fun b => if (H b).isNone = true then (h.get? b).map fun o => (b, o) else none
theorem mem_plst {own : List Addr} {H : Hp} {h : Heap} {b : Addr} {o : Obj} (m : b ∈ own) (n : H b = none) (e : h.get? b = some o) : (b, o) ∈ plst own H h :=
  List.mem_filterMap.mpr ⟨b, m, by rw [n, e]; rfl⟩
theorem of_plst {own : List Addr} {H : Hp} {h : Heap} {p : Addr × Obj} (m : p ∈ plst own H h) : p.1 ∈ own ∧ H p.1 = none ∧ h.get? p.1 = some p.2 := by
  obtain ⟨b, hb, e⟩ := List.mem_filterMap.mp m
  by_cases n : (H b).isNone = true
  · rw [if_pos n] at e
    cases q : h.get? b with
    | none => rw [q] at e; cases e
    | some o =>
      rw [q] at e
      cases e
      exact ⟨hb, Option.isNone_iff_eq_none.mp n, q⟩
  · rw [if_neg n] at e; cases e
/-- the consumer and the generator speak of the same program; the generator was made within the consumer's frame -/
structure Fit0 (X : Cx) (G : Gp) (n0 : Nat) : Prop where
  P : G.P = X.prog
  w : G.w = X.w
  base : G.base = X.base
  outer : G.outer = X.stack
  frs : ∀ b ∈ frs X.stack, b < n0
structure Fit (X : Cx) (G : Gp) (n0 : Nat) (pins : List (Addr × Obj)) : Prop extends Fit0 X G n0 where
  s0 : X.s_0.heap.objs.size ≤ n0
  loc : X.env.locals < n0
  cell : ∀ x c, X.env.cells.lookup x = some c → c < n0
  pin : ∀ p ∈ X.pn ++ pins, p.1 < n0
/-- what may change, by the consumer's own things -/
def ChOk (X : Cx) (pins : List (Addr × Obj)) (b : Addr) : Prop := (b ∈ X.ex ∨ X.s_0.heap.objs.size ≤ b) ∧ b ≠ X.env.locals ∧ (∀ x c, X.env.cells.lookup x = some c → c ≠ b) ∧ ∀ p ∈ X.pn ++ pins, p.1 ≠ b
theorem Fit.ch {X : Cx} {G : Gp} {n0 : Nat} {pins : List (Addr × Obj)} (F : Fit X G n0 pins) {b : Addr} (h1 : n0 ≤ b) : ChOk X pins b :=
  ⟨.inr (Nat.le_trans F.s0 h1), fun z => absurd (Nat.lt_of_lt_of_le (z ▸ F.loc) h1) (Nat.lt_irrefl _), fun x c e z => absurd (Nat.lt_of_lt_of_le (F.cell x c e) (z ▸ h1)) (Nat.lt_irrefl _), fun p hp z => absurd (Nat.lt_of_lt_of_le (F.pin p hp) (z ▸ h1)) (Nat.lt_irrefl _)⟩
theorem Slp.wake0 {X : Cx} {G : Gp} {n0 : Nat} {own : List Addr} {ip pins : List (Addr × Obj)} {σg σ' : L2.St} {Hg H H' : Hp} {h : Heap} {s : Shared} (Z : Slp G n0 own ip σg Hg H h) (F : Fit0 X G n0) (I : Inv X (pins ++ plst own H h) σ' H' s) (kt : KeepU H H') :
    Rdy G n0 own ip σg Hg H' s := by
  obtain ⟨ix, sy, hix, J, same⟩ := Z.inv
  have sz : n0 ≤ s.heap.objs.size := by
    obtain ⟨o1, ⟨oL, hoL, _⟩, _⟩ := (Z.ow _ Z.loc)
    have h3 : n0 ≤ G.env.locals := o1
    have h4 : G.env.locals < s.heap.objs.size := by
      rcases (Z.ow _ Z.loc).2.2 with n | ⟨xs, e, e2⟩
      · have := (I.pin (G.env.locals, oL) (List.mem_append_right _ (List.mem_append_right _ (mem_plst Z.loc n hoL)))).1
        exact Heap.lt_size this
      · have z : Hg G.env.locals = none := J.free
        rw [z] at e2; cases e2
    exact Nat.le_of_lt (Nat.lt_of_le_of_lt h3 h4)
  have pinned : ∀ b ∈ own, H b = none → ∀ o, h.get? b = some o → s.heap.get? b = some o ∧ H' b = none := fun b m n o e => by
    have := I.pin (b, o) (List.mem_append_right _ (List.mem_append_right _ (mem_plst m n e)))
    exact ⟨this.1, this.2.1⟩
  have own' : ∀ b ∈ own, n0 ≤ b ∧ (∃ o, s.heap.get? b = some o ∧ cellB o = false) ∧ (H' b = none ∨ ∃ xs, H' b = some (.tup xs) ∧ Hg b = some (.tup xs)) := fun b m => by
    obtain ⟨o1, ⟨o, ho, hc⟩, o3⟩ := Z.ow b m
    rcases o3 with n | ⟨xs, e, e2⟩
    · obtain ⟨p1, p2⟩ := pinned b m n o ho
      exact ⟨o1, ⟨o, p1, hc⟩, .inl p2⟩
    · have := kt b xs e
      exact ⟨o1, plain_cell (u := .tup xs) rfl (I.hok b _ this), .inr ⟨xs, this, e2⟩⟩
  have old' : ∀ b, b < n0 → ∀ u, Hg b = some u → ∃ xs, u = .tup xs ∧ H' b = some u := fun b hb u e => by
    obtain ⟨xs, rfl, e2⟩ := Z.old b hb u e
    exact ⟨xs, rfl, kt b xs e2⟩
  have phys : ∀ b ∈ own, (∀ xs, Hg b ≠ some (.tup xs)) → ∀ o, sy.heap.get? b = some o → s.heap.get? b = some o := fun b m nt o e => by
    rcases (Z.ow b m).2.2 with n | ⟨xs, _, e2⟩
    · rw [same b m n] at e
      exact (pinned b m n o e).1
    · exact absurd e2 (nt xs)
  have csz : (cutH s.heap n0).objs.size = n0 := cut_size sz
  have locN : Hg G.env.locals = none := J.free
  refine ⟨?_, sz, fun b u p e => ?_, old', own', Z.loc, Z.cells⟩
  · refine ⟨⟨J.ok.mod, J.ok.kind, J.ok.glob, J.ok.blt, ?_, J.ok.inj, J.ok.has, fun x c _ e => ?_, J.ok.hd, J.ok.frames, J.ok.stk, fun b hb => ?_, fun b o e => ?_, ?_, fun b o _ hb => ?_, fun b hb => ?_, ?_, fun b hb => ?_⟩, rfl, I.bare, ?_, ?_, fun x c e => ?_, ?_, fun x c e => ?_, fun p hp => ?_, fun b u e => ?_, J.len⟩
    · show (cutH s.heap n0).objs.size ≤ G.env.locals
      rw [csz]
      exact (Z.ow _ Z.loc).1
    · have e : G.env.cells.lookup x = some c := e
      rw [Z.cells] at e; cases e
    · exact absurd (show b ∈ ([] : List Addr) from hb) (by simp)
    · have hb : b < n0 := Nat.lt_of_lt_of_le (Heap.lt_size e) (by rw [← hix]; exact J.ok.bsz)
      have e' : X.base.get? b = some o := by rw [← F.base]; exact e
      refine ⟨by show (cutH s.heap n0).get? b = some o; rw [cut_get hb]; exact I.bk b o e', ?_⟩
      show mkH n0 own Hg s.heap b = none
      rw [mkH_old hb]
      exact (J.bs b o e).2
    · show G.base.objs.size ≤ (cutH s.heap n0).objs.size
      rw [csz, ← hix]
      exact J.ok.bsz
    · exact absurd (show b ∈ ([] : List Addr) from hb) (by simp)
    · exact absurd (show b ∈ ([] : List Addr) from hb) (by simp)
    · show (cutH s.heap n0).FunFrames G.base G.outer
      rw [F.base, F.outer]
      exact cut_frames I.stack F.frs
    · have hb' : b ∈ L2.frs X.stack := by rw [← F.outer]; exact hb
      show mkH n0 own Hg s.heap b = none
      rw [mkH_old (F.frs b hb')]
      have hb2 : b ∈ L2.frs (G.X ix).stack := by
        show b ∈ L2.frs (G.env :: G.outer)
        unfold L2.frs
        rw [List.filterMap_cons]
        cases G.env.frame with
        | none => exact hb
        | some _ => exact List.mem_cons_of_mem _ hb
      exact J.stkFree b hb2
    · exact Un.kept fun b u e => (cut_of sz e).2
    · obtain ⟨m, hn, hl⟩ := J.loc
      refine ⟨m, ?_, fun i x v a b c => ?_⟩
      · obtain ⟨o, es, ep, ho, r⟩ := hn
        exact ⟨o, es, ep, phys _ Z.loc (fun xs z => by rw [locN] at z; cases z) o ho, r⟩
      · obtain ⟨u, ru, lk⟩ := hl i x v a b c
        refine ⟨u, ru, ?_⟩
        rcases lk with lk | ⟨_, c', lk, _⟩
        · exact .inl lk
        · have lk : G.env.cells.lookup x = some c' := lk
          rw [Z.cells] at lk; cases lk
    · have e : G.env.cells.lookup x = some c := e
      rw [Z.cells] at e; cases e
    · exact mkH_ownN (Z.ow _ Z.loc).1 Z.loc locN
    · have e : G.env.cells.lookup x = some c := e
      rw [Z.cells] at e; cases e
    · have hp : p ∈ ([] : List (Addr × Obj)) ++ ip := hp
      rw [List.nil_append] at hp
      obtain ⟨p1, p2, p3, p4, p5⟩ := J.pin p (List.mem_append_right _ hp)
      have m := Z.ips p hp
      exact ⟨phys _ m (fun xs z => by rw [p2] at z; cases z) _ p1, mkH_ownN (Z.ow _ m).1 m p2, p3, p4, p5⟩
    · by_cases hb : b < n0
      · rw [mkH_old hb] at e
        obtain ⟨xs, rfl, e2⟩ := old' b hb u e
        have := I.hok b _ e2
        show ObjOk G.P G.w _ _ _ _
        rw [F.P, F.w]
        exact plain_stay rfl this fun _ z => z
      · by_cases m : b ∈ own
        · rw [mkH_own (Nat.not_lt.mp hb) m] at e
          cases hg : Hg b with
          | none => rw [hg] at e; cases e
          | some u' =>
            rw [hg] at e
            by_cases p : plainK u' = true
            · have e : (if plainK u' = true then some u' else none) = some u := e
              rw [if_pos p] at e
              have e := Option.some.inj e
              subst e
              by_cases ht : ∃ xs, u' = .tup xs
              · obtain ⟨xs, rfl⟩ := ht
                rcases (own' b m).2.2 with n | ⟨ys, e1, e2⟩
                · exfalso
                  have h2 := kt b xs (Z.tup b xs (Nat.not_lt.mp hb) hg)
                  rw [n] at h2; cases h2
                · have := I.hok b _ e1
                  rw [hg] at e2
                  cases e2
                  show ObjOk G.P G.w _ _ _ _
                  rw [F.P, F.w]
                  exact plain_stay rfl this fun _ z => z
              · exact plain_stay p (J.hok b _ hg) fun o z => phys b m (fun xs z => ht ⟨xs, by rw [hg] at z; exact Option.some.inj z⟩) o z
            · have e : (if plainK u' = true then some u' else none) = some u := e
              rw [if_neg p] at e; cases e
        · cases hg : s.heap.get? b with
          | none => rw [mkH_none (Nat.not_lt.mp hb) m hg] at e; cases e
          | some o =>
            rw [mkH_for (Nat.not_lt.mp hb) m hg] at e
            cases e
            exact ⟨hg, trivial, ⟨o, hg⟩, fun _ _ _ _ => trivial⟩
  · by_cases hb : b < n0
    · rw [mkH_old hb]; exact e
    · exact mkH_ownS (Nat.not_lt.mp hb) (Z.pl b u (Nat.not_lt.mp hb) p e) e p
theorem Slp.wake {X : Cx} {G : Gp} {n0 : Nat} {own : List Addr} {ip pins : List (Addr × Obj)} {σg σ' : L2.St} {Hg H H' : Hp} {h : Heap} {s : Shared} (Z : Slp G n0 own ip σg Hg H h) (F : Fit X G n0 pins) (I : Inv X (pins ++ plst own H h) σ' H' s) (kt : KeepU H H') : Rdy G n0 own ip σg Hg H' s := Z.wake0 F.toFit0 I kt
/-! ### what is freed stays freed -/
structure NoRes (h h' : Heap) : Prop where
  sz : h.objs.size ≤ h'.objs.size
  no : ∀ b, b < h.objs.size → h.get? b = none → h'.get? b = none
theorem NoRes.refl (h : Heap) : NoRes h h := ⟨Nat.le_refl _, fun _ _ e => e⟩
theorem NoRes.trans {h h1 h2 : Heap} (a : NoRes h h1) (b : NoRes h1 h2) : NoRes h h2 := ⟨Nat.le_trans a.sz b.sz, fun c hc e => b.no c (Nat.lt_of_lt_of_le hc a.sz) (a.no c hc e)⟩
theorem noRes_push (h : Heap) (o : Obj) : NoRes h (h.push o) := by
  refine ⟨by rw [Heap.size_push]; exact Nat.le_succ _, fun b hb e => ?_⟩
  have q : (h.objs.push o)[b]? = h.objs[b]? := by
    rw [Array.getElem?_push]
    rw [if_neg (Nat.ne_of_lt hb)]
  unfold Heap.get? at e ⊢
  show (match (h.objs.push o)[b]? with | some ⟨_, _, .freed, _⟩ => none | o => o) = none
  rw [q]
  exact e
theorem noRes_update (h : Heap) (a : Addr) (f : Obj → Obj) (ha : (h.get? a).isSome = true) : NoRes h (h.update a f) := by
  refine ⟨?_, fun b hb e => ?_⟩
  · show h.objs.size ≤ (h.objs.modify a f).size
    rw [Array.size_modify]
    exact Nat.le_refl _
  · by_cases hba : b = a
    · subst hba
      rw [e] at ha
      cases ha
    · rw [Heap.get?_update_other _ _ (fun z => hba z.symm)]
      exact e
theorem runs_noRes {M : Model} {Γ : PySem.Ctx} {p : Pos} {t : Sem PySem.Fin} {fs : List Frame} {s s' : Shared} {e : End} (h : Runs M Γ p t fs s e s') : NoRes s.heap s'.heap := by
  induction h with
  | done => exact .refl _
  | raise => exact .refl _
  | yield => exact .refl _
  | update ha _ ih => exact (noRes_update _ _ _ ha).trans ih
  | alloc _ ih => exact (noRes_push _ _).trans ih
  | call _ _ a b => exact a.trans b
  | resumeFresh _ _ _ _ a b => exact a.trans b
  | resumeSuspended _ _ _ _ a b => exact a.trans b
  | segRet _ _ a b => exact a.trans b
  | segGen _ _ a b => exact a.trans b
  | segSuspGen _ _ _ _ a b => exact a.trans b
  | _ => assumption
/-! ### behind a run -/
def ownOf (n0 : Nat) (own : List Addr) (h h2 : Heap) : List Addr :=
  (List.range h2.objs.size).filter fun b => decide (n0 ≤ b) && ((decide (b ∈ own) || decide (h.objs.size ≤ b)) && (match h2.get? b with | some o => !cellB o | none => false))
theorem mem_ownOf {n0 : Nat} {own : List Addr} {h h2 : Heap} {b : Addr} : b ∈ ownOf n0 own h h2 ↔ n0 ≤ b ∧ (b ∈ own ∨ h.objs.size ≤ b) ∧ ∃ o, h2.get? b = some o ∧ cellB o = false := by
  unfold ownOf
  rw [List.mem_filter, Bool.and_eq_true, Bool.and_eq_true, Bool.or_eq_true, decide_eq_true_eq, decide_eq_true_eq, decide_eq_true_eq, List.mem_range]
  constructor
  · rintro ⟨_, h1, h2', h3⟩
    refine ⟨h1, h2', ?_⟩
    cases q : h2.get? b with
    | none => rw [q] at h3; cases h3
    | some o =>
      rw [q] at h3
      exact ⟨o, rfl, by simpa using h3⟩
  · rintro ⟨h1, h2', o, q, c⟩
    exact ⟨Heap.lt_size q, h1, h2', by rw [q]; show (!cellB o) = true; rw [c]; rfl⟩
def chOf (n0 : Nat) (own : List Addr) (h h2 : Heap) : List Addr := (List.range (max h.objs.size h2.objs.size)).filter fun b => decide (n0 ≤ b) && (decide (b ∈ own) || decide (h.objs.size ≤ b))
theorem mem_chOf {n0 : Nat} {own : List Addr} {h h2 : Heap} {b : Addr} : b ∈ chOf n0 own h h2 ↔ b < max h.objs.size h2.objs.size ∧ n0 ≤ b ∧ (b ∈ own ∨ h.objs.size ≤ b) := by
  unfold chOf
  rw [List.mem_filter, Bool.and_eq_true, Bool.or_eq_true, decide_eq_true_eq, decide_eq_true_eq, decide_eq_true_eq, List.mem_range]
def mrg (n0 : Nat) (H Hg : Hp) : Hp := fun b => match H b with
  | some u => some u
  | none => if b < n0 then none else (match Hg b with | some (.tup xs) => some (.tup xs) | _ => none)
theorem mrg_some {n0 : Nat} {H Hg : Hp} {b : Addr} {u : HO} (e : H b = some u) : mrg n0 H Hg b = some u := by
  unfold mrg
  rw [e]
theorem mrg_tup {n0 : Nat} {H Hg : Hp} {b : Addr} {xs : List V} (e : H b = none) (hb : n0 ≤ b) (t : Hg b = some (.tup xs)) : mrg n0 H Hg b = some (.tup xs) := by
  unfold mrg
  rw [e]
  show (if b < n0 then none else _) = _
  rw [if_neg (Nat.not_lt.mpr hb), t]
theorem mrg_no {n0 : Nat} {H Hg : Hp} {b : Addr} (e : H b = none) (h : b < n0 ∨ ∀ xs, Hg b ≠ some (.tup xs)) : mrg n0 H Hg b = none := by
  unfold mrg
  rw [e]
  show (if b < n0 then none else _) = _
  by_cases hb : b < n0
  · rw [if_pos hb]
  · rw [if_neg hb]
    rcases h with h | h
    · exact absurd h hb
    · cases q : Hg b with
      | none => rfl
      | some u =>
        cases u with
        | tup xs => exact absurd q (h xs)
        | _ => rfl
theorem mrg_of {n0 : Nat} {H Hg : Hp} {b : Addr} {u : HO} (e : H b = none) (m : mrg n0 H Hg b = some u) : n0 ≤ b ∧ ∃ xs, u = .tup xs ∧ Hg b = some (.tup xs) := by
  by_cases hb : b < n0
  · rw [mrg_no e (.inl hb)] at m; cases m
  · by_cases ht : ∃ xs, Hg b = some (.tup xs)
    · obtain ⟨xs, ht⟩ := ht
      rw [mrg_tup e (Nat.not_lt.mp hb) ht] at m
      cases m
      exact ⟨Nat.not_lt.mp hb, xs, rfl, ht⟩
    · rw [mrg_no e (.inr fun xs z => ht ⟨xs, z⟩)] at m; cases m
theorem Rdy.slept0 {X : Cx} {G : Gp} {n0 : Nat} {own : List Addr} {ip ip' pins : List (Addr × Obj)} {σ σg σg' : L2.St} {Hg Hg' H : Hp} {s s2 : Shared} (R : Rdy G n0 own ip σg Hg H s) (F : Fit0 X G n0) (hch : ∀ b, n0 ≤ b → (b ∈ own ∨ s.heap.objs.size ≤ b) → ChOk X pins b) (I : Inv X pins σ H s)
    (J : Inv (G.X (ixOf n0 own Hg s)) ip' σg' Hg' s2) (hip : ∀ p ∈ ip', n0 ≤ p.1) (nr : NoRes s.heap s2.heap) :
    Inv X pins σ (mrg n0 H Hg') s2 ∧ Slp G n0 (ownOf n0 own s.heap s2.heap) ip' σg' Hg' (mrg n0 H Hg') s2.heap ∧ KeepU Hg' (mrg n0 H Hg') ∧ (∀ b, n0 ≤ b → b ∉ own → ∀ o, s.heap.get? b = some o → s2.heap.get? b = some o) := by
  have U := J.base
  have sz := R.sz
  have exi : ∀ {b : Addr} {u : HO}, Hg' b = some u → ∃ o, s2.heap.get? b = some o := fun {b u} e => by
    cases q : s2.heap.get? b with
    | some o => exact ⟨o, rfl⟩
    | none =>
      have := J.hok b u e
      have no : False := by
        cases u with
        | lst xs => obtain ⟨_, _, _, _, z⟩ := this; rw [q] at z; cases z
        | tup xs => obtain ⟨_, _, _, _, z, _⟩ := this; rw [q] at z; cases z
        | dK kvs => obtain ⟨_, _, _, _, _, _, _, z, _⟩ := this; rw [q] at z; cases z
        | dT kvs => obtain ⟨_, _, _, _, _, _, _, z, _⟩ := this; rw [q] at z; cases z
        | set S n => obtain ⟨_, _, _, _, z, _⟩ := this; rw [q] at z; cases z
        | ins C dx fs => obtain ⟨_, _, _, z, _⟩ := this; rw [q] at z; cases z
        | own y => obtain ⟨_, z⟩ := this; rw [q] at z; cases z
        | xd fs => obtain ⟨_, ⟨_, _, _, z, _⟩, _⟩ := this; rw [q] at z; cases z
        | rng lo hi => obtain ⟨_, _, _, z⟩ := this; rw [q] at z; cases z
        | frz ob v => obtain ⟨z, _⟩ := this; rw [q] at z; cases z
        | tbl ps =>
          have z : s2.heap.get? b = some _ := this
          rw [q] at z; cases z
        | met f y =>
          have z : s2.heap.get? b = some _ := this
          rw [q] at z; cases z
        | ext φ => obtain ⟨_, ⟨_, z⟩, _⟩ := this; rw [q] at z; cases z
      exact no.elim
  have gone : ∀ {b : Addr}, b < s.heap.objs.size → s.heap.get? b = none → Hg' b = none := fun {b} hb e => by
    cases q : Hg' b with
    | none => rfl
    | some u =>
      obtain ⟨o, ho⟩ := exi q
      rw [nr.no b hb e] at ho; cases ho
  have old : ∀ b, b < n0 → Hg' b = Hg b := fun b hb => by
    cases q : Hg b with
    | some u =>
      obtain ⟨xs, rfl, _⟩ := R.old b hb u q
      exact U.tups b xs (by show mkH n0 own Hg s.heap b = _; rw [mkH_old hb]; exact q)
    | none =>
      cases e : s.heap.get? b with
      | none => exact gone (Nat.lt_of_lt_of_le hb sz) e
      | some o => exact U.free b o (by show (cutH s.heap n0).get? b = some o; rw [cut_get hb]; exact e) (by show mkH n0 own Hg s.heap b = none; rw [mkH_old hb]; exact q) (by show b ∉ ([] : List Addr); simp)
  have frn : ∀ b, n0 ≤ b → b ∉ own → ∀ o, s.heap.get? b = some o → Hg' b = some (frzO o) ∧ s2.heap.get? b = some o := fun b hb m o e => by
    have z := U.frzs b o _ (show mkH n0 own Hg s.heap b = some (.frz o (.ext fun _ => True)) from mkH_for hb m e)
    exact ⟨z, (J.hok b _ z).1⟩
  have low : ∀ b, b < n0 → Hg b = none → b ∉ L2.frs X.stack → ∀ o, s.heap.get? b = some o → s2.heap.get? b = some o := fun b hb n hf o e =>
    U.keep b o (by show (cutH s.heap n0).get? b = some o; rw [cut_get hb]; exact e) (by show mkH n0 own Hg s.heap b = none; rw [mkH_old hb]; exact n) (by show b ∉ L2.frs G.outer; rw [F.outer]; exact hf) (by show b ∉ ([] : List Addr); simp)
  have trk : ∀ c u, H c = some u → (∀ xs, u ≠ .tup xs) → ∀ v, s.heap.get? c = some v → s2.heap.get? c = some v := fun c u e nt v ev => by
    by_cases hc : c < n0
    · refine low c hc ?_ (fun m => by rw [I.stkFree c m] at e; cases e) v ev
      cases q : Hg c with
      | none => rfl
      | some u' =>
        obtain ⟨xs, rfl, e2⟩ := R.old c hc u' q
        rw [e] at e2
        exact absurd (Option.some.inj e2) (nt xs)
    · refine (frn c (Nat.not_lt.mp hc) (fun m => ?_) v ev).2
      rcases (R.ow c m).2.2 with n | ⟨xs, e2, _⟩
      · rw [e] at n; cases n
      · rw [e] at e2
        exact absurd (Option.some.inj e2) (nt xs)
  have ownT : ∀ b xs, b ∈ own → Hg b = some (.tup xs) → Hg' b = some (.tup xs) := fun b xs m e => U.tups b xs (mkH_ownS (R.ow b m).1 m e rfl)
  have notF : ∀ b, n0 ≤ b → ∀ u, Hg' b = some u → plainK u = true → b ∈ own ∨ s.heap.objs.size ≤ b := fun b hb u e p => by
    by_cases m : b ∈ own
    · exact .inl m
    · by_cases hs : b < s.heap.objs.size
      · exfalso
        cases q : s.heap.get? b with
        | none => rw [gone hs q] at e; cases e
        | some o =>
          rw [(frn b hb m o q).1] at e
          cases e
          cases p
      · exact .inr (Nat.not_lt.mp hs)
  have tupM : ∀ b xs, n0 ≤ b → Hg' b = some (.tup xs) → mrg n0 H Hg' b = some (.tup xs) := fun b xs hb e => by
    cases q : H b with
    | none => exact mrg_tup q hb e
    | some u =>
      rcases notF b hb _ e rfl with m | hs
      · rcases (R.ow b m).2.2 with n | ⟨ys, e1, e2⟩
        · rw [q] at n; cases n
        · rw [ownT b ys m e2] at e
          cases e
          exact mrg_some e1
      · rw [I.hok.fresh hs] at q; cases q
  have loc := R.loc
  refine ⟨?_, ?_, ?_, fun b hb m o e => (frn b hb m o e).2⟩
  · refine I.call' (ch := chOf n0 own s.heap s2.heap) J.os ⟨fun b o e n hf hc => ?_, fun b o e n hf hc => ?_, fun b o e n hc => ?_, fun b o e hc => ?_, fun b xs e => mrg_some e, fun b o u e => mrg_some e, fun b ps e => ⟨#[], by rw [mrg_some e]; first | rfl | simp⟩⟩ (fun b u e => ?_) J.bare fun b hb => ?_
    · by_cases hb : b < n0
      · refine low b hb ?_ hf o e
        cases q : Hg b with
        | none => rfl
        | some u =>
          obtain ⟨xs, rfl, e2⟩ := R.old b hb u q
          rw [n] at e2; cases e2
      · have hs := Heap.lt_size e
        exact (frn b (Nat.not_lt.mp hb) (fun m => hc (mem_chOf.mpr ⟨Nat.lt_of_lt_of_le hs (Nat.le_max_left _ _), Nat.not_lt.mp hb, .inl m⟩)) o e).2
    · have hb := F.frs b hf
      refine U.slot b o (by show (cutH s.heap n0).get? b = some o; rw [cut_get hb]; exact e) ?_ (by show b ∈ L2.frs G.outer; rw [F.outer]; exact hf) (by show b ∉ ([] : List Addr); simp)
      show mkH n0 own Hg s.heap b = none
      rw [mkH_old hb]
      cases q : Hg b with
      | none => rfl
      | some u =>
        obtain ⟨xs, rfl, e2⟩ := R.old b hb u q
        rw [n] at e2; cases e2
    · by_cases hb : b < n0
      · exact mrg_no n (.inl hb)
      · have hs := Heap.lt_size e
        have := (frn b (Nat.not_lt.mp hb) (fun m => hc (mem_chOf.mpr ⟨Nat.lt_of_lt_of_le hs (Nat.le_max_left _ _), Nat.not_lt.mp hb, .inl m⟩)) o e).1
        exact mrg_no n (.inr fun xs z => by rw [this] at z; cases z)
    · by_cases hb : b < n0
      · exact U.there b o (by show (cutH s.heap n0).get? b = some o; rw [cut_get hb]; exact e) (by show b ∉ ([] : List Addr); simp)
      · have hs := Heap.lt_size e
        exact ⟨o, (frn b (Nat.not_lt.mp hb) (fun m => hc (mem_chOf.mpr ⟨Nat.lt_of_lt_of_le hs (Nat.le_max_left _ _), Nat.not_lt.mp hb, .inl m⟩)) o e).2⟩
    · have gen : ∀ xs, Hg' b = some (.tup xs) → ObjOk X.prog X.w (mrg n0 H Hg') s2.heap b (.tup xs) := fun xs z => by
        have := J.hok b _ z
        have this : ObjOk G.P G.w Hg' s2.heap b (.tup xs) := this
        rw [F.P, F.w] at this
        exact plain_stay rfl this fun _ z => z
      cases q : H b with
      | none =>
        obtain ⟨_, xs, rfl, z⟩ := mrg_of q e
        exact gen xs z
      | some u' =>
        rw [mrg_some q] at e
        have e := Option.some.inj e
        subst e
        have hx := I.hok b u' q
        by_cases ht : ∃ xs, u' = .tup xs
        · obtain ⟨xs, rfl⟩ := ht
          by_cases hb : b < n0
          · cases g : Hg b with
            | none => exact plain_stay rfl hx fun o z => low b hb g (fun m => by rw [I.stkFree b m] at q; cases q) o z
            | some u =>
              obtain ⟨ys, rfl, e2⟩ := R.old b hb u g
              rw [q] at e2
              cases e2
              exact gen xs (by rw [old b hb]; exact g)
          · by_cases m : b ∈ own
            · rcases (R.ow b m).2.2 with n | ⟨ys, e1, e2⟩
              · rw [q] at n; cases n
              · rw [q] at e1
                cases e1
                exact gen xs (ownT b xs m e2)
            · exact plain_stay rfl hx fun o z => (frn b (Nat.not_lt.mp hb) m o z).2
        · refine hx.stay (fun c v hc z => ?_) (fun c z => mrg_some z) fun c xs z => mrg_some z
          rcases hc with rfl | hc
          · exact trk c u' q (fun xs z => ht ⟨xs, z⟩) v z
          · exact trk c _ hc (fun xs z => by cases z) v z
    · obtain ⟨_, h1, h2⟩ := mem_chOf.mp hb
      exact hch b h1 h2
  · refine ⟨⟨_, s2, cut_size sz, J, fun _ _ _ => rfl⟩, fun b hb u e => ?_, fun b hb => ?_, fun b u hb p e => ?_, tupM, ?_, fun p hp => ?_, R.cells⟩
    · rw [old b hb] at e
      obtain ⟨xs, rfl, e2⟩ := R.old b hb u e
      exact ⟨xs, rfl, mrg_some e2⟩
    · obtain ⟨h1, h2, h3⟩ := mem_ownOf.mp hb
      refine ⟨h1, h3, ?_⟩
      by_cases ht : ∃ xs, Hg' b = some (.tup xs)
      · obtain ⟨xs, ht⟩ := ht
        exact .inr ⟨xs, tupM b xs h1 ht, ht⟩
      · refine .inl (mrg_no ?_ (.inr fun xs z => ht ⟨xs, z⟩))
        rcases h2 with m | hs
        · rcases (R.ow b m).2.2 with n | ⟨xs, _, e2⟩
          · exact n
          · exact absurd ⟨xs, ownT b xs m e2⟩ ht
        · exact I.hok.fresh hs
    · exact mem_ownOf.mpr ⟨hb, notF b hb u e p, plain_cell p (J.hok b u e)⟩
    · obtain ⟨m, ⟨o, es, ep, ho, hd, _⟩, _⟩ := J.loc
      exact mem_ownOf.mpr ⟨(R.ow _ R.loc).1, .inl R.loc, o, ho, cellB_yes fun v z => by rw [hd] at z; cases z⟩
    · obtain ⟨p1, p2, _, _, p5⟩ := J.pin p (List.mem_append_right _ hp)
      refine mem_ownOf.mpr ⟨hip p hp, ?_, _, p1, cellB_yes p5⟩
      by_cases m : p.1 ∈ own
      · exact .inl m
      · by_cases hs : p.1 < s.heap.objs.size
        · exfalso
          cases q : s.heap.get? p.1 with
          | none => rw [nr.no _ hs q] at p1; cases p1
          | some o => rw [(frn _ (hip p hp) m o q).1] at p2; cases p2
        · exact .inr (Nat.not_lt.mp hs)
  · intro b xs e
    by_cases hb : b < n0
    · rw [old b hb] at e
      obtain ⟨_, _, e2⟩ := R.old b hb _ e
      exact mrg_some e2
    · exact tupM b xs (Nat.not_lt.mp hb) e
theorem Rdy.slept {X : Cx} {G : Gp} {n0 : Nat} {own : List Addr} {ip ip' pins : List (Addr × Obj)} {σ σg σg' : L2.St} {Hg Hg' H : Hp} {s s2 : Shared} (R : Rdy G n0 own ip σg Hg H s) (F : Fit X G n0 pins) (I : Inv X pins σ H s)
    (J : Inv (G.X (ixOf n0 own Hg s)) ip' σg' Hg' s2) (hip : ∀ p ∈ ip', n0 ≤ p.1) (nr : NoRes s.heap s2.heap) :
    Inv X pins σ (mrg n0 H Hg') s2 ∧ Slp G n0 (ownOf n0 own s.heap s2.heap) ip' σg' Hg' (mrg n0 H Hg') s2.heap ∧ KeepU Hg' (mrg n0 H Hg') ∧ (∀ b, n0 ≤ b → b ∉ own → ∀ o, s.heap.get? b = some o → s2.heap.get? b = some o) :=
  R.slept0 F.toFit0 (fun _ h _ => F.ch h) I J hip nr
/-! ### it is woken -/
def Goes3 (G : Gp) (It : List V → V → Hp → Prop) (Fn : List V → Hp → Prop) (n : Nat) (ip : List (Addr × Obj)) (σg : L2.St) (Hg : Hp) : GenState → Prop
  | .fresh c => ∀ ix' H' s', KeepP Hg H' → Inv (G.X ix') ip σg H' s' → Go (model G.P G.w) G.A (Fi G It Fn n ix') c ((model G.P G.w).den c) [] s'
  | .suspended k _ c _ fs _ => ∀ ix' H' s', KeepP Hg H' → Inv (G.X ix') ip σg H' s' → Go (model G.P G.w) G.A (Fi G It Fn n ix') c (k (.send .none)) fs s'
  | _ => False
/-- it ended -/
def FEnd (G : Gp) (Fn : List V → Hp → Prop) (n : Nat) (ix : Ix) (h : Heap) (s₁ : Shared) : Prop := ∃ ys ip σ H, n + ys.length = sizeLine ∧ Inv (G.X ix) ip σ H s₁ ∧ Fn ys H ∧ NoRes h s₁.heap
/-- it handed v out -/
def FOut (G : Gp) (It : List V → V → Hp → Prop) (Fn : List V → Hp → Prop) (n : Nat) (ix : Ix) (s : Shared) (v : Value) (s₁ : Shared) (gs : GenState) : Prop :=
  gs.bare = true ∧ gSlp gs = true ∧ s.gens.size ≤ s₁.gens.size ∧ ∃ m ys x ip σ H, n = m + 1 ∧ n + ys.length = sizeLine ∧ RelV x v ∧ Inv (G.X ix) ip σ H s₁ ∧ (∀ p ∈ ip, G.env.locals ≤ p.1) ∧ It ys x H ∧ NoRes s.heap s₁.heap ∧ Goes3 G It Fn m ip σ H gs
theorem resume3 {G : Gp} {It : List V → V → Hp → Prop} {Fn : List V → Hp → Prop} {n : Nat} {ip : List (Addr × Obj)} {σg : L2.St} {Hg H' : Hp} {ix : Ix} {E : Value → Shared → Prop} {s : Shared} {gi : Nat} {gs : GenState} {l : List Value} {α : Type} {k : GenResult → Sem α} {Q : α → Shared → Prop}
    (hg : s.gens[gi]? = some gs) (hgo : Goes3 G It Fn n ip σg Hg gs) (kp : KeepP Hg H') (I : Inv (G.X ix) ip σg H' (s.setGen gi .running))
    (hR : ∀ s₁, FEnd G Fn n ix s.heap s₁ → wpAny (model G.P G.w) G.A (k (.returned .none)) Q E (s₁.setGen gi .finished))
    (hY : ∀ v s₁ gs', FOut G It Fn n ix s v s₁ gs' → wpAny (model G.P G.w) G.A (k (.yielded v)) Q E (s₁.setGen gi gs')) :
    wpAny (model G.P G.w) G.A (.resume gi (.send .none) l k) Q E s := by
  intro Γ p hΓ
  rw [Sem.wp_resume]
  have hB : ∀ c, (Γ.wake c p).Woken G.A := fun c => hΓ.wake c p
  have fin : ∀ (e₁ : End) (s₁ : Shared), NoRes s.heap s₁.heap → s.gens.size ≤ s₁.gens.size → Fi G It Fn n ix e₁ s₁ → e₁.quiet = true ∧ Sem.wp (model G.P G.w) Γ (k e₁.result) (fun a _ s' => Q a s') (fun e _ s' => E e s') p (s₁.setGen gi e₁.genState) := by
    intro e₁ s₁ nr gz he
    cases e₁ with
    | ret x =>
      refine ⟨rfl, ?_⟩
      have he' : (x = .ok (.ret .none) ∨ x = .ok .next) ∧ ∃ ys ip σ H, n + ys.length = sizeLine ∧ Inv (G.X ix) ip σ H s₁ ∧ Fn ys H := by
        cases n with
        | zero => exact he
        | succ m => exact he
      obtain ⟨hx, ys, ip', σ', H2, h1, h2, h3⟩ := he'
      have e : (End.ret x).result = .returned .none := by rcases hx with rfl | rfl <;> rfl
      rw [e]
      exact hR s₁ ⟨ys, ip', σ', H2, h1, h2, h3, nr⟩ Γ p hΓ
    | susp v g l k' c' p' fs' =>
      cases n with
      | zero => exact he.elim
      | succ m =>
        obtain ⟨q, ys, x, ip', σ', H2, h1, h2, h3, h4, h5, h6⟩ := he
        exact ⟨q, hY v s₁ _ ⟨End.bare_of_quiet q, rfl, gz, m, ys, x, ip', σ', H2, rfl, h1, h2, h3, h4, h5, nr, h6⟩ Γ p hΓ⟩
  cases gs with
  | fresh c =>
    obtain ⟨e₁, s₁, hr, he⟩ := hgo ix H' (s.setGen gi .running) kp I (Γ.wake c p) p rfl (hB c)
    obtain ⟨q1, q2⟩ := fin e₁ s₁ (show NoRes s.heap s₁.heap from runs_noRes (s := s.setGen gi .running) hr) (by have := GenW.runs_gsz hr; rw [GenW.setGen_size] at this; exact this) he
    exact ⟨_, _, by unfold Wakes; rw [hg]; exact ⟨e₁, s₁, hr, q1, rfl, rfl⟩, q2⟩
  | suspended k₀ l₀ c₀ p₀ fs₀ cl =>
    obtain ⟨e₁, s₁, hr, he⟩ := hgo ix H' (s.setGen gi .running) kp I (Γ.wake c₀ p) p₀ rfl (hB c₀)
    obtain ⟨q1, q2⟩ := fin e₁ s₁ (show NoRes s.heap s₁.heap from runs_noRes (s := s.setGen gi .running) hr) (by have := GenW.runs_gsz hr; rw [GenW.setGen_size] at this; exact this) he
    exact ⟨_, _, by unfold Wakes; rw [hg]; exact ⟨e₁, s₁, hr, q1, rfl, rfl⟩, q2⟩
  | running => exact hgo.elim
  | finished => exact hgo.elim
theorem next3 {G : Gp} {A : Around} {It : List V → V → Hp → Prop} {Fn : List V → Hp → Prop} {n : Nat} {ip : List (Addr × Obj)} {σg : L2.St} {Hg H' : Hp} {ix : Ix} {E : Value → Shared → Prop} {s : Shared} {a : Addr} {gi : Nat} {gs : GenState} {Q : Option Value → Shared → Prop}
    (hA : G.A = A.in1) (hh : A.handled = none) (hl : s.heap.NoLimit) (hroom : A.depth < recursionLimit) (ha : s.heap.IsGen a gi) (hg : s.gens[gi]? = some gs) (hgo : Goes3 G It Fn n ip σg Hg gs) (kp : KeepP Hg H') (I : Inv (G.X ix) ip σg H' (s.setGen gi .running))
    (hR : ∀ s₁, FEnd G Fn n ix s.heap s₁ → ∀ h', (∀ b o, s₁.heap.get? b = some o → h'.get? b = some o) → Q none { s₁.setGen gi .finished with heap := h' })
    (hY : ∀ v s₁ gs', FOut G It Fn n ix s v s₁ gs' → Q (some v) (s₁.setGen gi gs')) :
    wpAny (model G.P G.w) A (pyNext (.ref a)) Q E s := by
  unfold pyNext
  refine wpAny_bind (wpAny_attempt ?_)
  refine wpAny_callSpecial?_slot (name := Str.ofString "__next__") ha.typeIs slot_gen_next ?_
  refine wpAny_call_entry slot_gen_next ha.typeIs entry_gen_next ?_ (args_gen_next _)
  show wpAny _ A.in1 (Builtin.Generator.genWake (.ref a) (.send .none)) _ _ s
  unfold Builtin.Generator.genWake
  refine wpAny_bind (wpAny_holding (wpAny_genNumber ha (wpAny_bind (wpAny_genState hg ?_))))
  cases gs with
  | running => exact hgo.elim
  | finished => exact hgo.elim
  | _ =>
    refine wpAny_bind (wpAny_roomToWake hl hroom ?_)
    show wpAny _ A.in1 (.resume gi (.send .none) [] _) _ _ s
    rw [← hA]
    refine resume3 hg hgo kp I (fun s₁ hx => ?_) fun v s₁ gs' hv => ?_
    · show wpAny _ G.A (newExc (.type "StopIteration") [] >>= _) _ _ _
      refine wpAny_bind ?_
      simp only [newExc, newTuple]
      refine wpAny_bind (wpAny_newObj_type ?_ (by size_fits))
      refine wpAny_bind (m := firstArgMember _ _) (wpAny_of_eq (a := Value.none) (by first | rfl | (simp only [firstArgMember]; rfl)) ?_)
      refine wpAny_newObj_type ?_ (by size_fits)
      simp only [raiseNew]
      refine wpAny_bind (wpAny_bind (wpAny_handled ?_))
      rw [hA, show A.in1.handled = none from hh]
      refine wpAny_throw ?_
      refine wpAny_bind (wpAny_isInstance (T := "StopIteration") (b := true) ⟨_, Heap.get?_push_size _ rfl, rfl⟩ isSubtype_stop ?_)
      exact wpAny_pure (hR s₁ hx _ fun b o hb => Heap.get?_push_of_some _ (Heap.get?_push_of_some _ hb))
    · exact wpAny_pure ⟨v, rfl, wpAny_pure (hY v s₁ gs' hv)⟩
/-! ### a generator def, by its body -/
def shr (H : Hp) : Hp := fun b => match H b with
  | some (.tup xs) => some (.tup xs)
  | _ => none
theorem shr_tup {H : Hp} {b : Addr} {xs : List V} (e : H b = some (.tup xs)) : shr H b = some (.tup xs) := by
  unfold shr
  rw [e]
theorem shr_none {H : Hp} {b : Addr} (e : H b = none) : shr H b = none := by
  unfold shr
  rw [e]
theorem shr_of {H : Hp} {b : Addr} {u : HO} (e : shr H b = some u) : ∃ xs, u = .tup xs ∧ H b = some (.tup xs) := by
  unfold shr at e
  cases q : H b with
  | none => rw [q] at e; cases e
  | some v =>
    rw [q] at e
    cases v with
    | tup xs => cases e; exact ⟨xs, rfl, rfl⟩
    | _ => cases e
theorem go_func {M : Program × World} {A : Around} {F : End → Shared → Prop} {fs : List Frame} {s : Shared} {env : Env} {body : List Stmt}
    (h : Go (model M.1 M.2) A F (.func body env) ((execs body env).wrap (fun f => .pure (.done (.ret (match f with | .ret v => v | _ => .none)))) (fun e => (leaving env e).wrap (fun _ => .raise e) .raise id id) id id) fs s) :
    Go (model M.1 M.2) A F (.func body env) ((model M.1 M.2).den (.func body env)) fs s := by
  show Go _ A F _ (.point [] fun _ => ((execs body env).onRaise (leaving env)) >>= _) fs s
  refine go_point ?_
  rw [Sem.onRaise_eq_wrap]
  rw [Sem.bind_eq_wrap']
  rw [Sem.wrap_wrap]
  rw [Sem.wrap_congr (execs body env) _ _ (K' := fun f => .pure (.done (.ret (match f with | .ret v => v | _ => .none)))) (H' := fun e => (leaving env e).wrap (fun _ => .raise e) .raise id id)
    (fun f => by cases f <;> rfl) fun e => by rw [Sem.bind_eq_wrap, Sem.wrap_wrap]; rfl]
  exact h
abbrev SpG3 := List V → Hp → (List V → V → Hp → Prop) → (List V → Hp → Prop) → Prop
/-- what a call of a generator def gives -/
def Made3 (P : Program) (w : World) (K : PySem.W.Frag) (mg : Str → Option Value) (base : Heap) (k : Nat) (outer : List Env) (H : Hp) (s : Shared) (It : List V → V → Hp → Prop) (Fn : List V → Hp → Prop) (u : Value) (s' : Shared) : Prop :=
  ∃ (a : Addr) (g : Nat) (c : Code) (go : Obj) (N : List Str) (env : Env) (σg : L2.St), u = .ref a ∧ s'.heap.get? a = some go ∧ (∀ h : Heap, h.get? a = some go → h.IsGen a g) ∧ cellB go = false ∧ s'.gens[g]? = some (.fresh c) ∧ s'.os = s.os ∧ AllBare s'.gens ∧
    (∀ b o, s.heap.get? b = some o → s'.heap.get? b = some o) ∧ env.locals = s.heap.objs.size ∧ env.cells = [] ∧ env.locals < a ∧
    ∀ Aw : Around, Room k Aw → Aw.frames = some outer → (∃ ix : Ix, ix.s0.heap.objs.size = s.heap.objs.size ∧ Inv (Gp.X ⟨P, w, K, mg, base, N, env, Aw, outer⟩ ix) [] σg (shr H) s') ∧
      Goes3 ⟨P, w, K, mg, base, N, env, Aw, outer⟩ It Fn sizeLine [] σg (shr H) (.fresh c)
structure GFn3 (P : Program) (w : World) (K : PySem.W.Frag) (mg : Str → Option Value) (base : Heap) (k : Nat) (f : Addr) (fd : FuncData) (ps : List Str) (sp : SpG3) : Prop where
  len : ∀ vs H It Fn, sp vs H It Fn → vs.length = ps.length
  run : ∀ (A : Around) (outer : List Env) (s : Shared) (H : Hp) (args : Args) (us : List Value) (vs : List V) (It : List V → V → Hp → Prop) (Fn : List V → Hp → Prop), Room k A → Env0 P w K mg base A outer s H → BindsTo s fd args (ps.zip us) → Vals vs us → sp vs (shr H) It Fn →
    codeAny (model P w) A (.call (.ref f) args) (fun r s' => match r with | .ok (.ret u) => Made3 P w K mg base k outer H s It Fn u s' | _ => False) s
theorem gfn3_of {P : Program} {w : World} {K : PySem.W.Frag} {mg : Str → Option Value} {base : Heap} {k : Nat} {f : Addr} {name qual : Str} {params : Arguments} {body : List Stmt} {scope : Scope} {dV kV doc pm cdv ct oc : Value} {an od : Option Addr}
    {osl : Array (Option Value)} {N ps : List Str} {sp : SpG3} (lk : K.lookup f = some ⟨oc, od, .func (PySem.W.fnOf name qual params body scope dV kV doc pm an cdv ct), osl⟩) (hcd : PySem.W.codeIn K cdv qual = true) (S : GScope N ps scope) (nc : ∀ n, cellsFrom n scope.names [] = [])
    (len : ∀ vs H It Fn, sp vs H It Fn → vs.length = ps.length)
    (hbody : ∀ (Aw : Around) (outer : List Env) (L : Addr) (vs : List V) (Hs : Hp) (It : List V → V → Hp → Prop) (Fn : List V → Hp → Prop), Room k (Aw.deeper (envOfC qual scope L f cdv)) → sp vs Hs It Fn →
      ∃ t, GSs3 ⟨P, w, K, mg, base, N, envOfC qual scope L f cdv, Aw, outer⟩ It body t ∧ ∀ H', KeepP Hs H' → t { nx := fun ys _ H' => Fn ys H', rt := fun ys v H' => v = .non ∧ Fn ys H' } [] (start N vs) H') :
    GFn3 P w K mg base (k + 1) f (PySem.W.fnOf name qual params body scope dV kV doc pm an cdv ct) ps sp := by
  refine ⟨len, fun A outer s H args us vs It Fn hr e0 hb r hsp => ?_⟩
  have hl := len _ _ _ _ hsp
  have KX : K.In s.heap := e0.mod.kin.keeps fun b o e => (e0.bs b o e).1
  have lim : s.heap.NoLimit := e0.mod.nolimit.keeps fun b o e => (e0.bs b o e).1
  have hkind : ∀ y ∈ ps.zip us, scope.names.lookup y.1 = some .local ∨ (scope.names.lookup y.1 = some .cell ∧ ((cellsFrom (s.heap.objs.size + 1) scope.names []).lookup y.1).isSome = true) := fun y hy => by
    obtain ⟨n, v⟩ := y
    rcases S.par n (List.of_mem_zip hy).1 with q | q
    · exact .inl q
    · exact .inr ⟨q, PySem.W.cellsFrom_some _ _ _ (.inl q)⟩
  refine codeAny_call_generator hr.depth (KX _ _ lk) rfl S.co S.gen rfl (PySem.W.codeRec_of KX hcd) (hb _ _ _ _ ?_)
  refine wpAny_newFunctionEnv_cells S.kind hkind fun env he s1 x => ?_
  subst he
  refine ⟨lim.keeps x.toInCall.keep, ?_⟩
  obtain ⟨h1, tk, es1, hk1⟩ := x.done
  have gen1 : s1.gens = s.gens := by rw [es1]
  have lt1 : s.heap.objs.size < s1.heap.objs.size := x.toInCall.ns.lt
  have main : ∀ (go : Obj) (nm qn : Value) (tk2 : Nat), go.cls = .type "generator" → go.data = .fields #[.int s1.gens.size 0, nm, qn] → go.slots = #[] → (∀ h : Heap, (h.push go).get? h.objs.size = some go) →
      Made3 P w K mg base (k + 1) outer H s It Fn (.ref s1.heap.objs.size) { s1 with gens := s1.gens.push (.fresh (.func body (envOfC qual scope s.heap.objs.size f cdv))), toks := tk2, heap := s1.heap.push go } := by
    intro go nm qn tk2 g1 g2 g3 g4
    have kp : ∀ b o, s1.heap.get? b = some o → (s1.heap.push go).get? b = some o := fun b o e => Heap.get?_push_of_some _ e
    refine ⟨s1.heap.objs.size, s1.gens.size, _, go, N, envOfC qual scope s.heap.objs.size f cdv, start N vs, rfl, g4 _, fun h e => ⟨go, nm, qn, e, g1, g2, g3⟩, ?_, Array.getElem?_push_size .., by rw [es1], ?_, fun b o e => kp b o (x.toInCall.keep b o e), rfl, nc _, lt1, fun Aw hrw hfr => ?_⟩
    · exact cellB_yes fun v z => by rw [g2] at z; cases z
    · exact AllBare.push (by rw [gen1]; exact e0.bare) rfl
    have e0w : Env0 P w K mg base Aw outer s H := ⟨hfr, e0.mod, e0.bs, e0.bsz, e0.funs, e0.frf, e0.hok, e0.bare⟩
    have I1 : Inv (gcxOf P w K mg base N qual scope f cdv Aw outer s H (fun _ _ _ => False) []) [] (start N vs) H s1 := inv_startG S hrw.hd e0w hl r x
    refine ⟨⟨⟨s, shr H⟩, rfl, ?_⟩, fun ix' H' s' kP I => ?_⟩
    · have cl : (envOfC qual scope s.heap.objs.size f cdv).cells = [] := nc _
      refine ⟨⟨I1.ok.mod, I1.ok.kind, I1.ok.glob, I1.ok.blt, I1.ok.above, I1.ok.inj, I1.ok.has, fun y c _ h => I1.ok.cab y c rfl h, I1.ok.hd, I1.ok.frames, I1.ok.stk, I1.ok.exf, fun b o e => ?_, I1.ok.bsz, I1.ok.noex, I1.ok.exfs, I1.ok.funs, fun b hb => shr_none (I1.ok.frf b hb)⟩,
        (by show s1.os = s.os; rw [es1]), AllBare.push (by rw [gen1]; exact e0.bare) rfl, Un.kept fun b u e => kp b u (x.toInCall.keep b u e), ?_, fun y c e => ?_, shr_none I1.free, fun y c e => ?_, fun p hp => ?_, fun b u e => ?_, I1.len⟩
      · obtain ⟨q1, q2⟩ := I1.ok.bs b o e
        exact ⟨q1, shr_none q2⟩
      · obtain ⟨m, ⟨o, es, ep, ho, rr⟩, hl'⟩ := I1.loc
        refine ⟨m, ⟨o, es, ep, kp _ _ ho, rr⟩, fun i y v a b c => ?_⟩
        obtain ⟨u, ru, lk'⟩ := hl' i y v a b c
        refine ⟨u, ru, ?_⟩
        rcases lk' with q | ⟨_, c', q, _⟩
        · exact .inl q
        · have q : (envOfC qual scope s.heap.objs.size f cdv).cells.lookup y = some c' := q
          rw [cl] at q; cases q
      · have e : (envOfC qual scope s.heap.objs.size f cdv).cells.lookup y = some c := e
        rw [cl] at e; cases e
      · have e : (envOfC qual scope s.heap.objs.size f cdv).cells.lookup y = some c := e
        rw [cl] at e; cases e
      · exact absurd (show p ∈ ([] : List (Addr × Obj)) from hp) (by simp)
      · obtain ⟨xs, rfl, e2⟩ := shr_of e
        exact plain_stay (u := .tup xs) rfl (I1.hok b _ e2) fun o z => kp b o z
    · obtain ⟨t, ht, hq⟩ := hbody Aw outer s.heap.objs.size vs (shr H) It Fn (hrw.deeper _) hsp
      refine go_func (M := (P, w)) ?_
      refine ht.run Fn sizeLine [] ix' [] _ [] _ _ id id s' (start N vs) H' _ ⟨fun p hp => by simp at hp, GenW.over_func, rfl, rfl, rfl⟩ (Nat.add_zero _) (fun n ys ix2 s2 fl hn q => ?_) I (hq H' kP)
      cases fl with
      | next =>
        obtain ⟨σ2, H2, I2, q2⟩ := q
        exact go_end (.ok (.ret .none)) (fi_end (.inl rfl) hn I2 q2)
      | brk => obtain ⟨_, _, _, q2⟩ := q; exact q2.elim
      | cont => obtain ⟨_, _, _, q2⟩ := q; exact q2.elim
      | ret u =>
        obtain ⟨v, σ2, H2, I2, rv, ev, q2⟩ := q
        subst ev
        have eu : u = Value.none := rv
        subst eu
        exact go_end (.ok (.ret .none)) (fi_end (.inl rfl) hn I2 q2)
  exact main _ _ _ _ rfl rfl rfl fun h => Heap.get?_push_size _ rfl
/-! ### who walks a generator -/
def gpOf (X : Cx) (Aw : Around) (N : List Str) (env : Env) : Gp := ⟨X.prog, X.w, X.K, X.mg, X.base, N, env, Aw, X.stack⟩
/-- the generator at a sleeps; n more may come -/
structure Snz (X : Cx) (Aw : Around) (N : List Str) (env : Env) (It : List V → V → Hp → Prop) (Fn : List V → Hp → Prop) (a : Addr) (gi : Nat) (go : Obj) (n : Nat) (own : List Addr) (ip : List (Addr × Obj)) (σg : L2.St) (Hg H : Hp) (gs : GenState) (h : Heap) : Prop where
  slp : Slp (gpOf X Aw N env) env.locals own ip σg Hg H h
  goes : Goes3 (gpOf X Aw N env) It Fn n ip σg Hg gs
  at_ : h.get? a = some go
  no : a ∉ own
/-- what stays through a walk -/
structure Gst (X : Cx) (pins : List (Addr × Obj)) (N : List Str) (env : Env) (a : Addr) (gi : Nat) (go : Obj) : Prop where
  fit : ∀ Aw, Fit X (gpOf X Aw N env) env.locals pins
  gen : ∀ h : Heap, h.get? a = some go → h.IsGen a gi
  cell : cellB go = false
  up : env.locals < a
abbrev TGen3 := L2.St → Hp → ((List V → V → Hp → Prop) → (List V → Hp → Prop) → Hp → Prop) → Prop
/-- behind the making of a generator -/
def PMade (X : Cx) (k : Nat) (pins : List (Addr × Obj)) (σ : L2.St) (cont : (List V → V → Hp → Prop) → (List V → Hp → Prop) → Hp → Prop) (u : Value) (s' : Shared) : Prop :=
  ∃ (It : List V → V → Hp → Prop) (Fn : List V → Hp → Prop) (N : List Str) (env : Env) (a : Addr) (gi : Nat) (go : Obj) (own : List Addr) (ip : List (Addr × Obj)) (σg : L2.St) (Hg H1 : Hp) (gs : GenState),
    u = .ref a ∧ Inv X pins σ H1 s' ∧ Gst X pins N env a gi go ∧ (∀ Aw, Room k Aw → Aw.frames = some X.stack → Snz X Aw N env It Fn a gi go sizeLine own ip σg Hg H1 gs s'.heap) ∧ s'.heap.get? a = some go ∧ H1 a = none ∧ s'.gens[gi]? = some gs ∧ cont It Fn H1
/-- the same, nothing made by it but its frame -/
def PMadeC (X : Cx) (k : Nat) (pins : List (Addr × Obj)) (σ : L2.St) (cont : (List V → V → Hp → Prop) → (List V → Hp → Prop) → Hp → Prop) (u : Value) (s' : Shared) : Prop :=
  ∃ (It : List V → V → Hp → Prop) (Fn : List V → Hp → Prop) (N : List Str) (env : Env) (a : Addr) (gi : Nat) (go : Obj) (ip : List (Addr × Obj)) (σg : L2.St) (Hg H1 : Hp) (gs : GenState),
    u = .ref a ∧ Inv X pins σ H1 s' ∧ Gst X pins N env a gi go ∧ (∀ Aw, Room k Aw → Aw.frames = some X.stack → Snz X Aw N env It Fn a gi go sizeLine [env.locals] ip σg Hg H1 gs s'.heap) ∧ s'.heap.get? a = some go ∧ H1 a = none ∧ s'.gens[gi]? = some gs ∧ cont It Fn H1
theorem PMadeC.weak {X : Cx} {k : Nat} {pins : List (Addr × Obj)} {σ : L2.St} {cont : (List V → V → Hp → Prop) → (List V → Hp → Prop) → Hp → Prop} {u : Value} {s' : Shared} (h : PMadeC X k pins σ cont u s') : PMade X k pins σ cont u s' := by
  obtain ⟨It, Fn, N, env, a, gi, go, ip, σg, Hg, H1, gs, q⟩ := h
  exact ⟨It, Fn, N, env, a, gi, go, _, ip, σg, Hg, H1, gs, q⟩
structure PGenC (X : Cx) (k : Nat) (e : Expr) (tg : TGen3) : Prop where
  run : ∀ (pins : List (Addr × Obj)) (s : Shared) (σ : L2.St) (H : Hp) (cont : (List V → V → Hp → Prop) → (List V → Hp → Prop) → Hp → Prop), Inv X pins σ H s → tg σ H cont → wpAny (model X.prog X.w) X.A (eval e X.env) (PMadeC X k pins σ cont) X.xe s
structure PGen3 (X : Cx) (k : Nat) (e : Expr) (tg : TGen3) : Prop where
  run : ∀ (pins : List (Addr × Obj)) (s : Shared) (σ : L2.St) (H : Hp) (cont : (List V → V → Hp → Prop) → (List V → Hp → Prop) → Hp → Prop), Inv X pins σ H s → tg σ H cont → wpAny (model X.prog X.w) X.A (eval e X.env) (PMade X k pins σ cont) X.xe s
def spins (a : Addr) (go : Obj) (own : List Addr) (H : Hp) (h : Heap) : List (Addr × Obj) := plst own H h ++ [(a, go)]
section
variable {X : Cx} {pins : List (Addr × Obj)} {σ : L2.St} {H : Hp} {s : Shared}
/-- the sleeper's things are pinned -/
theorem Inv.spin {Aw : Around} {N : List Str} {env : Env} {It : List V → V → Hp → Prop} {Fn : List V → Hp → Prop} {a : Addr} {gi n : Nat} {go : Obj} {own : List Addr} {ip : List (Addr × Obj)} {σg : L2.St} {Hg : Hp} {gs : GenState} (I : Inv X pins σ H s) (T : Gst X pins N env a gi go)
    (Z : Snz X Aw N env It Fn a gi go n own ip σg Hg H gs s.heap) (ha : H a = none) : Inv X (pins ++ spins a go own H s.heap) σ H s := by
  have up : ∀ b, env.locals ≤ b → b ≠ X.env.locals ∧ b ∉ X.fs := fun b hb => by
    refine ⟨fun z => absurd (Nat.lt_of_lt_of_le (z ▸ (T.fit Aw).loc) hb) (Nat.lt_irrefl _), fun m => ?_⟩
    have : b ∈ L2.frs X.stack := by
      rcases I.ok.stk with e | ⟨e, hf⟩
      · rw [e]; exact m
      · rw [e]
        unfold L2.frs
        rw [List.filterMap_cons, hf]
        exact List.mem_cons_of_mem _ m
    exact absurd (Nat.lt_of_lt_of_le ((T.fit Aw).frs b this) hb) (Nat.lt_irrefl _)
  refine I.pins_of fun p hp => ?_
  rcases List.mem_append.mp hp with hp | hp
  · exact I.pin p (List.mem_append_right _ hp)
  · rcases List.mem_append.mp hp with hp | hp
    · obtain ⟨m, n1, e⟩ := of_plst hp
      obtain ⟨h1, ⟨o, ho, hc⟩, _⟩ := Z.slp.ow p.1 m
      rw [e] at ho
      cases ho
      exact ⟨e, n1, (up _ h1).1, (up _ h1).2, cellB_no hc⟩
    · rw [List.mem_singleton.mp hp]
      exact ⟨Z.at_, ha, (up _ (Nat.le_of_lt T.up)).1, (up _ (Nat.le_of_lt T.up)).2, cellB_no T.cell⟩
/-- f(..) of a generator def -/
theorem made_pmC {k : Nat} {It : List V → V → Hp → Prop} {Fn : List V → Hp → Prop} {u : Value} {s' : Shared} {cont : (List V → V → Hp → Prop) → (List V → Hp → Prop) → Hp → Prop} (I : Inv X pins σ H s) (h : Made3 X.prog X.w X.K X.mg X.base k X.stack H s It Fn u s') (hc : cont It Fn H) : PMadeC X k pins σ cont u s' := by
  obtain ⟨a, gi, c, go, N, env, σg, rfl, ha, hgen, hcell, hg, hos, hba, kp, hL, hcl, hLa, h⟩ := h
  have I' : Inv X pins σ H s' := I.call' (ch := []) hos (Un.kept kp) (I.hok.kept kp) hba fun b z => by simp at z
  have lt : ∀ b o, s.heap.get? b = some o → b < env.locals := fun b o e => by rw [hL]; exact Heap.lt_size e
  have fr : ∀ b, env.locals ≤ b → H b = none := fun b hb => I.hok.fresh (by rw [← hL]; exact hb)
  have F : ∀ Aw, Fit X (gpOf X Aw N env) env.locals pins := fun Aw => by
    refine ⟨⟨rfl, rfl, rfl, rfl, fun b hb => ?_⟩, by rw [hL]; exact I.sz, by rw [hL]; exact I.lt, fun x c e => ?_, fun p hp => lt _ _ (I.pin p hp).1⟩
    · obtain ⟨_, o, ho, _⟩ := I.stack.mem hb
      exact lt _ _ ho
    · obtain ⟨v, o, ho, _⟩ := I.cell x c e
      exact lt _ _ ho
  refine ⟨It, Fn, N, env, a, gi, go, [], σg, shr H, H, _, rfl, I', ⟨F, hgen, hcell, hLa⟩, fun Aw hr hf => ?_, ha, fr a (Nat.le_of_lt hLa), hg, hc⟩
  obtain ⟨⟨ix, hix, J⟩, goes⟩ := h Aw hr hf
  obtain ⟨m, ⟨oL, es, ep, hoL, hdL, _⟩, _⟩ := id J.loc
  have hoL : s'.heap.get? env.locals = some oL := hoL
  refine ⟨⟨⟨ix, s', by rw [hL]; exact hix, J, fun _ _ _ => rfl⟩, fun b hb u e => ?_, fun b hb => ?_, fun b u hb p e => ?_, fun b xs hb e => ?_, List.mem_singleton.mpr rfl, fun p hp => by simp at hp, hcl⟩, goes, ha, fun z => ?_⟩
  · obtain ⟨xs, rfl, e2⟩ := shr_of e
    exact ⟨xs, rfl, e2⟩
  · rw [List.mem_singleton.mp hb]
    exact ⟨Nat.le_refl _, ⟨oL, hoL, cellB_yes fun v z => by rw [hdL] at z; cases z⟩, .inl (fr _ (Nat.le_refl _))⟩
  · obtain ⟨xs, rfl, e2⟩ := shr_of e
    rw [fr b hb] at e2; cases e2
  · obtain ⟨ys, e1, e2⟩ := shr_of e
    rw [fr b hb] at e2; cases e2
  · rw [List.mem_singleton.mp z] at hLa
    exact absurd hLa (Nat.lt_irrefl _)
theorem pgenC {k : Nat} {sp : SpG3} {f : Addr} {fd : FuncData} {ps : List Str} {ds : List Value} {dvs : List V} {x : Str} {p pos' : Pos} {e : Expr} {es : List Expr} {t : TA} (F : GFn3 X.prog X.w X.K X.mg X.base k f fd ps sp) (hr : Room k X.A) (hg : Gl X x) (hm : X.mg x = some (.ref f))
    (hk : PySem.W.keepIn X.K (.ref f) = true) (hb : Binds X.K fd ps ds) (hd : Vals dvs ds) (ha : PA X (e :: es) t) (hdb : (x == ("__debug__" : Str)) = false := by decide) (he : starEach (e :: es) X.env = (false, eval e X.env) :: starEach es X.env := by rfl) (hpl : (backTo pos' (starEach es X.env)).any (·.1) = false := by rfl) :
    PGenC X k (.Call (.Name x p) (e :: es) [] pos') (fun σ H cont => t σ H fun vs H1 => ∃ It Fn, sp (vs ++ dvs) (shr H1) It Fn ∧ cont It Fn H1) := by
  refine ⟨fun pins s σ H cont I h => ?_⟩
  refine wpAny_Call_Name_kw (ld_glob I hg hm ?_ hdb)
  refine PySem.W.callWith_K (h₀ := X.base) I.ok.mod.kin hk (thn (ha.run pos' pins s σ H _ I h) fun us s1 ⟨vs, H1, I1, r, q⟩ => ⟨I1.kIn, ?_⟩) he hpl
  obtain ⟨It, Fn, q1, q2⟩ := q
  have r2 : Vals (vs ++ dvs) (us ++ ds) := r.append hd
  have hl2 : (us ++ ds).length = ps.length := by rw [← r2.length]; exact F.len _ _ _ _ q1
  refine wpAny_call (codeAny_mono (F.run X.A X.stack s1 H1 ⟨us, []⟩ (us ++ ds) (vs ++ dvs) It Fn hr I1.env0 (hb s1 us I1.kIn hl2) r2 q1) fun r s' hq => ?_)
  cases r with
  | error e => exact False.elim hq
  | ok fl =>
    cases fl with
    | ret u => exact made_pmC I1 hq q2
    | next => exact False.elim hq
    | brk => exact False.elim hq
    | cont => exact False.elim hq
theorem pgen3 {k : Nat} {sp : SpG3} {f : Addr} {fd : FuncData} {ps : List Str} {ds : List Value} {dvs : List V} {x : Str} {p pos' : Pos} {e : Expr} {es : List Expr} {t : TA} (F : GFn3 X.prog X.w X.K X.mg X.base k f fd ps sp) (hr : Room k X.A) (hg : Gl X x) (hm : X.mg x = some (.ref f))
    (hk : PySem.W.keepIn X.K (.ref f) = true) (hb : Binds X.K fd ps ds) (hd : Vals dvs ds) (ha : PA X (e :: es) t) (hdb : (x == ("__debug__" : Str)) = false := by decide) (he : starEach (e :: es) X.env = (false, eval e X.env) :: starEach es X.env := by rfl) (hpl : (backTo pos' (starEach es X.env)).any (·.1) = false := by rfl) :
    PGen3 X k (.Call (.Name x p) (e :: es) [] pos') (fun σ H cont => t σ H fun vs H1 => ∃ It Fn, sp (vs ++ dvs) (shr H1) It Fn ∧ cont It Fn H1) := ⟨fun pins s σ H cont I h => thn ((pgenC F hr hg hm hk hb hd ha hdb he hpl).run pins s σ H cont I h) fun _ _ q => q.weak⟩
/-! for x in generator -/
def tFor3 (tg : TGen3) (g : TG) (tb : TS) : TS := fun D σ H => tg σ H fun It Fn H1 => ∃ W : Nat → L2.St → Hp → Prop, W 0 σ H1 ∧ ∀ j σ H2, W j σ H2 →
  (∀ ys Hg H3, ys.length = j → Fn ys Hg → KeepU Hg H3 → Same H2 H3 → D.nx σ H3) ∧
  ∀ ys x Hg H3, ys.length = j → j < sizeLine → It ys x Hg → KeepU Hg H3 → Same H2 H3 → g x σ H3 fun σ4 H4 => tb { D with nx := fun σ' H' => KeepU H3 H' ∧ W (j + 1) σ' H', ct := fun σ' H' => KeepU H3 H' ∧ W (j + 1) σ' H', bk := D.nx } σ4 H4
theorem mrg_same (n0 : Nat) (H Hg : Hp) : Same H (mrg n0 H Hg) := fun _ _ e => mrg_some e
theorem setGen_eq (s : Shared) (g : Nat) (x : GenState) : s.setGen g x = wg s (s.gens.setIfInBounds g x) := rfl
theorem ps_for3 {tg iter : Expr} {body : List Stmt} {wi : TGen3} {g : TG} {tb : TS} {pos : Pos} {k : Nat} (hp : PassesOwn (model X.prog X.w) X.A X.env X.xe) (hx : XeOk X) (hr : Room (k + 1) X.A) (hi : PGen3 X k iter wi) (hg : PG X tg g) (hb : PSs X body tb)
    (hs : ∀ x, foldedSetIterable iter X.env x = pure x := by intro _; rfl) : PS X (.For tg iter body [] pos) (tFor3 wi g tb) := by
  refine ⟨fun pins s σ H D I h => ?_⟩
  refine wpAny_For (thn (hi.run pins s σ H _ I h) fun v s1 h1 => ?_) hs
  obtain ⟨It, Fn, N, env, a, gi, go, own, ip, σg, Hg, H1, gs, rfl, I1, T, Z0, hat, ha, hgi, W, w0, turn⟩ := h1
  have Z := Z0 X.A.in1 hr.in1 (by show X.A.frames = _; exact I1.ok.frames)
  refine wpAny_pyIter_gen (T.gen _ Z.at_) ?_
  refine codeAny_forLoop_any (fun n s' => ∃ (j : Nat) (σ' : L2.St) (H' : Hp) (own : List Addr) (ip : List (Addr × Obj)) (σg : L2.St) (Hg Hs : Hp) (hs : Heap) (gs : GenState), n + j = sizeLine ∧ Snz X X.A.in1 N env It Fn a gi go n own ip σg Hg Hs gs hs ∧ Inv X (pins ++ spins a go own Hs hs) σ' H' s' ∧ KeepU Hs H' ∧
      s'.gens[gi]? = some gs ∧ W j σ' H') ?_ sizeLine ⟨0, σ, H1, own, ip, σg, Hg, H1, s1.heap, gs, rfl, Z, Inv.spin I1 T Z ha, fun _ _ e => e, hgi, w0⟩
  rintro n s3 ⟨j, σ3, H3, own, ip, σg, Hg, Hs, hs', gs, hn, Z, I3, kt, hg3, w3⟩
  have I3' : Inv X (pins ++ plst own Hs hs') σ3 H3 s3 := I3.pins_of fun p hp => I3.pin p (List.mem_append_right _ (by
    rcases List.mem_append.mp hp with hp | hp
    · exact List.mem_append_left _ hp
    · exact List.mem_append_right _ (List.mem_append_left _ hp)))
  have Ip : Inv X pins σ3 H3 s3 := I3.unpinned
  have hgo3 := I3.pin (a, go) (List.mem_append_right _ (List.mem_append_right _ (List.mem_append_right _ (List.mem_singleton.mpr rfl))))
  have R := Z.slp.wake (T.fit X.A.in1) I3' kt
  have bare3 := Ip.bare
  obtain ⟨t1, t2⟩ := turn j σ3 H3 w3
  refine next3 (G := gpOf X X.A.in1 N env) (ix := ixOf env.locals own Hg s3) rfl hr.hd Ip.nolimit (by have := hr.dp; omega) (T.gen _ hgo3.1) hg3 Z.goes R.keep (inv_wg R.inv (allBare_setGen bare3 rfl)) (fun s₁ hx1 h' hk => ?_) fun v s₁ gs' hv => ?_
  · obtain ⟨ys, ip', σ', H', hl, J, q, nr⟩ := hx1
    have J0 : Inv ((gpOf X X.A.in1 N env).X (ixOf env.locals own Hg s3)) [] σ' H' s₁ := J.pins_of fun p hp => by simp at hp
    obtain ⟨K1, _, K3, _⟩ := R.slept (T.fit X.A.in1) Ip J0 (fun p hp => by simp at hp) nr
    have K2 : Inv X pins σ3 (mrg env.locals H3 H') { s₁.setGen gi .finished with heap := h' } := (inv_wg K1 (allBare_setGen K1.bare rfl)).kept (t' := s₁.toks) hk
    exact wpAny_execs_nil ⟨σ3, _, K2, t1 ys H' _ (by omega) q K3 (mrg_same _ _ _)⟩
  · obtain ⟨hb1, hsl, gz, m, ys, x, ip', σ', H', rfl, hl, rv, J, hip, q, nr, goes⟩ := hv
    obtain ⟨K1, Z', K3, K4⟩ := R.slept (T.fit X.A.in1) Ip J hip nr
    have hgo4 : s₁.heap.get? a = some go := K4 a (Nat.le_of_lt T.up) Z.no go hgo3.1
    have hno : a ∉ ownOf env.locals own s3.heap s₁.heap := fun mm => by
      obtain ⟨_, h2, _⟩ := mem_ownOf.mp mm
      rcases h2 with h2 | h2
      · exact Z.no h2
      · exact absurd (Nat.lt_of_lt_of_le (Heap.lt_size hgo3.1) h2) (Nat.lt_irrefl _)
    have ha4 : mrg env.locals H3 H' a = none := by
      refine mrg_no hgo3.2.1 (.inr fun xs z => hno ?_)
      obtain ⟨o, ho, hc⟩ := plain_cell (u := .tup xs) rfl (J.hok a _ z)
      exact Z'.pl a _ (Nat.le_of_lt T.up) rfl z
    have Zn : Snz X X.A.in1 N env It Fn a gi go m (ownOf env.locals own s3.heap s₁.heap) ip' σ' H' (mrg env.locals H3 H') gs' s₁.heap := ⟨Z', goes, hgo4, hno⟩
    have bare4 : AllBare (s₁.setGen gi gs').gens := allBare_setGen K1.bare hb1
    have K5 : Inv X (pins ++ spins a go (ownOf env.locals own s3.heap s₁.heap) (mrg env.locals H3 H') s₁.heap) σ3 (mrg env.locals H3 H') (s₁.setGen gi gs') := inv_wg (Inv.spin K1 T Zn ha4) bare4
    obtain ⟨og, nm, qn, hog, hcl, hdt, _⟩ := T.gen _ hgo4
    rw [hgo4] at hog
    cases hog
    have hgg : (s₁.setGen gi gs').gens[gi]? = some gs' := setGen_at (Nat.lt_of_lt_of_le (Array.getElem?_eq_some_iff.mp hg3).1 gz)
    refine go_of (s := s₁.setGen gi gs') (n := "generator") hgo4 hcl hdt (by decide) ?_
    refine wpAny_passesOwn hp (thn (pg_sleep hx hg K5 rv (t2 ys x H' _ (by omega) (by omega) q K3 (mrg_same _ _ _))) fun _ s6 q6 => ?_)
    obtain ⟨σ6, H6, I6, q6, sl6⟩ := q6
    refine wpAny_passesOwn hp (thn (pss_sleep hx hb I6 q6) fun f s7 q7 => ?_)
    obtain ⟨q7, sl7⟩ := q7
    have asleep := sl7 gi gs' (sl6 gi gs' hgg hsl) hsl
    cases f with
    | next =>
      obtain ⟨σ7, H7, I7, n1, n2⟩ := q7
      exact ⟨m, Nat.lt_succ_self _, j + 1, σ7, H7, _, ip', σ', H', _, s₁.heap, gs', by omega, Zn, I7, n1, asleep, n2⟩
    | cont =>
      obtain ⟨σ7, H7, I7, n1, n2⟩ := q7
      exact ⟨m, Nat.lt_succ_self _, j + 1, σ7, H7, _, ip', σ', H', _, s₁.heap, gs', by omega, Zn, I7, n1, asleep, n2⟩
    | brk => obtain ⟨σ7, H7, I7, q8⟩ := q7; exact ⟨σ7, H7, I7.unpinned, q8⟩
    | ret v => obtain ⟨x7, σ7, H7, I7, r7, q8⟩ := q7; exact ⟨x7, σ7, H7, I7.unpinned, r7, q8⟩
end
/-! ### list(generator) -/
def Got (It : List V → V → Hp → Prop) (H : Hp) (xs : List V) : Prop := ∀ j x, xs[j]? = some x → ∃ ys Hj, ys.length = j ∧ It ys x Hj ∧ KeepU Hj H
theorem Got.keep {It : List V → V → Hp → Prop} {H H' : Hp} {xs : List V} (g : Got It H xs) (k : KeepU H H') : Got It H' xs := fun j x e => by
  obtain ⟨ys, Hj, h1, h2, h3⟩ := g j x e
  exact ⟨ys, Hj, h1, h2, fun b zs q => k b zs (h3 b zs q)⟩
section
variable {X : Cx} {pins : List (Addr × Obj)} {σ : L2.St}
theorem keepU_of {H H' : Hp} (s : Same H H') : KeepU H H' := fun b xs e => s b _ e
/-- the list under way, tracked at its end -/
theorem Inv.closed {H : Hp} {s : Shared} {S : Addr} {acc : Array Value} {c : Nat} {out : List V} (I : Inv X pins σ H s) (hS : X.s_0.heap.objs.size ≤ S) (hL : S ≠ X.env.locals) (hc : ∀ x c, X.env.cells.lookup x = some c → c ≠ S) (hp : ∀ p ∈ X.pn ++ pins, p.1 ≠ S) (n : H S = none) (e : s.heap.get? S = some (lstObj acc c))
    (r : Vals out acc.toList) (len : out.length ≤ sizeLine) : Inv X pins σ (upd H S (.lst out)) s := by
  have lt : ∀ b o, X.s_0.heap.get? b = some o → b ≠ S := fun b o q => Nat.ne_of_lt (Nat.lt_of_lt_of_le (Heap.lt_size q) hS)
  refine ⟨I.ok, I.os, I.bare, ⟨I.base.keep, I.base.slot, fun b o q m x => ?_, I.base.there, fun b xs q => ?_, fun b o u q => ?_, fun b ps q => ?_⟩, I.loc, I.cell, ?_, fun x c q => ?_, fun p q => ?_, fun b u q => ?_, I.len⟩
  · rw [upd_ne (lt b o q)]; exact I.base.free b o q m x
  · have := I.base.tups b xs q
    rw [upd_ne (ne_of_none this n)]; exact this
  · have := I.base.frzs b o u q
    rw [upd_ne (ne_of_none this n)]; exact this
  · obtain ⟨more, this⟩ := I.base.tbls b ps q
    exact ⟨more, by rw [upd_ne (ne_of_none this n)]; exact this⟩
  · rw [upd_ne (Ne.symm hL)]; exact I.free
  · rw [upd_ne (hc x c q)]; exact I.freeC x c q
  · obtain ⟨h1, h2, h3⟩ := I.pin p q
    exact ⟨h1, by rw [upd_ne (hp p q)]; exact h2, h3⟩
  · by_cases hb : b = S
    · subst hb
      rw [upd_same] at q
      cases q
      exact ⟨len, acc.toList, c, r, by rw [e]⟩
    · rw [upd_ne hb] at q
      exact (I.hok b u q).stay (fun _ _ _ z => z) (fun d z => by rw [upd_ne (ne_of_none z n)]; exact z) fun d xs z => by rw [upd_ne (ne_of_none z n)]; exact z
theorem fill3 {k : Nat} {A : Around} {N : List Str} {env : Env} {It : List V → V → Hp → Prop} {Fn : List V → Hp → Prop} {a S : Addr} {gi : Nat} {go : Obj} {R : Result → Shared → Prop} {H0 : Hp} (hr : Room (k + 2) A) (T : Gst X pins N env a gi go) (hSL : env.locals ≤ S) (hSa : S ≠ a)
    (hend : ∀ s' H' acc c xs, Inv X pins σ H' s' → Same H0 H' → s'.heap.get? S = some (lstObj acc c) → Vals xs acc.toList → xs.length ≤ sizeLine → Got It H' xs → (∃ ys Hg, ys.length = xs.length ∧ Fn ys Hg ∧ KeepU Hg H') → H' S = none → R (.ok (.ret .none)) s') :
    ∀ (n : Nat) (s : Shared) (H : Hp) (own : List Addr) (ip : List (Addr × Obj)) (σg : L2.St) (Hg : Hp) (hs : Heap) (gs : GenState) (acc : Array Value) (c : Nat) (xs : List V), n + xs.length = sizeLine → Snz X A.in1.in1 N env It Fn a gi go n own ip σg Hg H gs hs → Inv X (pins ++ spins a go own H hs) σ H s →
      Same H0 H → s.gens[gi]? = some gs → s.heap.get? S = some (lstObj acc c) → Vals xs acc.toList → H S = none → S ∉ own → Got It H xs →
      codeAny (model X.prog X.w) A (.builtin "list.extend.loop" ⟨[.ref S, .ref a, .none], []⟩) R s := by
  intro n
  induction n using Nat.strongRecOn with
  | ind n ih =>
  intro s H own ip σg Hg hs gs acc c xs hn Z I sm hgi hS hv hSn hSo got
  have hl := hv.length
  have hl2 : acc.toList.length = acc.size := by simp
  have Ip : Inv X pins σ H s := I.unpinned
  have I3 : Inv X (pins ++ plst own H hs) σ H s := I.pins_of fun p hp => I.pin p (List.mem_append_right _ (by
    rcases List.mem_append.mp hp with hp | hp
    · exact List.mem_append_left _ hp
    · exact List.mem_append_right _ (List.mem_append_left _ hp)))
  have hgo3 := I.pin (a, go) (List.mem_append_right _ (List.mem_append_right _ (List.mem_append_right _ (List.mem_singleton.mpr rfl))))
  have R0 := Z.slp.wake (T.fit A.in1.in1) I3 fun _ _ e => e
  have r0 := hr.hd
  have r1 := hr.dp
  refine codeAny_builtin F.entry_extend_loop ?_
  rw [Around.under_plainId F.plain_extend_loop _]
  show wpAny _ A.in1 (pyNext (.ref a) >>= _) _ _ s
  refine wpAny_bind (next3 (G := gpOf X A.in1.in1 N env) (A := A.in1) (ix := ixOf env.locals own Hg s) rfl r0 Ip.nolimit (by show A.depth < _; omega) (T.gen _ hgo3.1) hgi Z.goes R0.keep (inv_wg R0.inv (allBare_setGen Ip.bare rfl)) (fun s₁ hx1 h' hk => ?_) fun v s₁ gs' hvv => ?_)
  · obtain ⟨ys, ip', σ', H', hll, J, q, nr⟩ := hx1
    have J0 : Inv ((gpOf X A.in1.in1 N env).X (ixOf env.locals own Hg s)) [] σ' H' s₁ := J.pins_of fun p hp => by simp at hp
    obtain ⟨K1, K2, K3, K4⟩ := R0.slept (T.fit A.in1.in1) Ip J0 (fun p hp => by simp at hp) nr
    have K5 : Inv X pins σ (mrg env.locals H H') { s₁.setGen gi .finished with heap := h' } := (inv_wg K1 (allBare_setGen K1.bare rfl)).kept (t' := s₁.toks) hk
    have hS2 := hk _ _ (K4 S hSL hSo _ hS)
    refine wpAny_pure (hend _ _ acc c xs K5 (fun b u e => mrg_same _ _ _ b u (sm b u e)) hS2 hv (by omega) (got.keep (keepU_of (mrg_same _ _ _))) ⟨ys, H', by omega, q, K3⟩ ?_)
    refine mrg_no hSn (.inr fun zs z => ?_)
    obtain ⟨_, h2, _⟩ := mem_ownOf.mp (K2.pl S _ hSL rfl z)
    rcases h2 with h2 | h2
    · exact hSo h2
    · exact absurd (Nat.lt_of_lt_of_le (Heap.lt_size hS) h2) (Nat.lt_irrefl _)
  · obtain ⟨hb1, hsl, gz, m, ys, x, ip', σ', H', rfl, hll, rv, J, hip, q, nr, goes⟩ := hvv
    obtain ⟨K1, Z', K3, K4⟩ := R0.slept (T.fit A.in1.in1) Ip J hip nr
    have hgo4 : s₁.heap.get? a = some go := K4 a (Nat.le_of_lt T.up) Z.no go hgo3.1
    have hS4 : s₁.heap.get? S = some (lstObj acc c) := K4 S hSL hSo _ hS
    have notOwn : ∀ b, b ∉ own → b < s.heap.objs.size → b ∉ ownOf env.locals own s.heap s₁.heap := fun b h1 h2 mm => by
      obtain ⟨_, h3, _⟩ := mem_ownOf.mp mm
      rcases h3 with h3 | h3
      · exact h1 h3
      · exact absurd (Nat.lt_of_lt_of_le h2 h3) (Nat.lt_irrefl _)
    have hno := notOwn a Z.no (Heap.lt_size hgo3.1)
    have hSo4 := notOwn S hSo (Heap.lt_size hS)
    have ha4 : mrg env.locals H H' a = none := mrg_no hgo3.2.1 (.inr fun zs z => hno (Z'.pl a _ (Nat.le_of_lt T.up) rfl z))
    have hSn4 : mrg env.locals H H' S = none := mrg_no hSn (.inr fun zs z => hSo4 (Z'.pl S _ hSL rfl z))
    have Zn : Snz X A.in1.in1 N env It Fn a gi go m (ownOf env.locals own s.heap s₁.heap) ip' σ' H' (mrg env.locals H H') gs' s₁.heap := ⟨Z', goes, hgo4, hno⟩
    have K5 : Inv X (pins ++ spins a go (ownOf env.locals own s.heap s₁.heap) (mrg env.locals H H') s₁.heap) σ (mrg env.locals H H') (s₁.setGen gi gs') := inv_wg (Inv.spin K1 T Zn ha4) (allBare_setGen K1.bare hb1)
    have hgg : (s₁.setGen gi gs').gens[gi]? = some gs' := setGen_at (Nat.lt_of_lt_of_le (Array.getElem?_eq_some_iff.mp hgi).1 gz)
    have hsz : acc.size < sizeLine := by omega
    show wpAny _ A.in1 (updateSeq S (·.push v) >>= _) _ _ _
    refine wpAny_bind ?_
    refine wpAny_updateSeq (s := s₁.setGen gi gs') hS4 rfl (wpAny_pure ⟨plainId_quiet F.plain_extend_loop _, ?_⟩) (Nat.le_of_lt hsz) (by
      show (acc.push v).size ≤ sizeLine + 1
      rw [Array.size_push]
      omega)
    have other : ∀ b o, b ≠ S → s₁.heap.get? b = some o → (s₁.heap.update S (Obj.mapSeq (·.push v))).get? b = some o := fun b o hb e => by
      rw [Heap.get?_update_other _ _ (Ne.symm hb)]
      exact e
    have hS5 : ∃ c', (s₁.heap.update S (Obj.mapSeq (·.push v))).get? S = some (lstObj (acc.push v) c') := ⟨_, Heap.get?_update_self (Obj.mapSeq (·.push v)) hS4 rfl⟩
    obtain ⟨c', hS5⟩ := hS5
    have F := T.fit A.in1.in1
    have neS : ∀ b u, mrg env.locals H H' b = some u → b ≠ S := fun b u e z => by rw [z, hSn4] at e; cases e
    have K6 : Inv X (pins ++ spins a go (ownOf env.locals own s.heap s₁.heap) (mrg env.locals H H') s₁.heap) σ (mrg env.locals H H') { s₁.setGen gi gs' with heap := s₁.heap.update S (Obj.mapSeq (·.push v)) } := by
      refine K5.call' (ch := [S]) rfl ⟨fun b o e _ _ hc => other b o (fun z => hc (List.mem_singleton.mpr z)) e, fun b o e _ _ hc => ⟨o.slots, other b o (fun z => hc (List.mem_singleton.mpr z)) e⟩, fun _ _ _ n _ => n, fun b o e hc => ⟨o, other b o (fun z => hc (List.mem_singleton.mpr z)) e⟩, fun _ _ e => e, fun _ _ _ e => e, fun b ps e => ⟨#[], by rw [e]; first | rfl | simp⟩⟩ (fun b u e => ?_) K5.bare fun b hb => ?_
      · refine (K5.hok b u e).stay (fun d o hd z => other d o ?_ z) (fun _ z => z) fun _ _ z => z
        rcases hd with rfl | hd
        · exact neS _ _ e
        · exact neS _ _ hd
      · rw [List.mem_singleton.mp hb]
        refine ⟨.inr (Nat.le_trans F.s0 hSL), fun z => absurd (Nat.lt_of_lt_of_le (z ▸ F.loc) hSL) (Nat.lt_irrefl _), fun y d e z => absurd (Nat.lt_of_lt_of_le (F.cell y d e) (z ▸ hSL)) (Nat.lt_irrefl _), fun p hp z => ?_⟩
        rcases List.mem_append.mp hp with hp | hp
        · exact absurd (Nat.lt_of_lt_of_le (F.pin p (List.mem_append_left _ hp)) (z ▸ hSL)) (Nat.lt_irrefl _)
        · rcases List.mem_append.mp hp with hp | hp
          · exact absurd (Nat.lt_of_lt_of_le (F.pin p (List.mem_append_right _ hp)) (z ▸ hSL)) (Nat.lt_irrefl _)
          · rcases List.mem_append.mp hp with hp | hp
            · exact hSo4 (z ▸ (of_plst hp).1)
            · rw [List.mem_singleton.mp hp] at z
              exact hSa z.symm
    refine ih m (Nat.lt_succ_self m) _ (mrg env.locals H H') _ ip' σ' H' s₁.heap gs' (acc.push v) c' (xs ++ [x]) ?_ Zn K6 (fun b u e => mrg_same _ _ _ b u (sm b u e)) hgg hS5 ?_ hSn4 hSo4 (fun j y hy => ?_)
    · rw [List.length_append]
      show m + (xs.length + 1) = _
      omega
    · rw [Array.toList_push]
      exact hv.append (.cons rv .nil)
    · by_cases hj : j < xs.length
      · rw [List.getElem?_append_left hj] at hy
        exact got.keep (keepU_of (mrg_same _ _ _)) j y hy
      · have e : j = xs.length := by
          have := (List.getElem?_eq_some_iff.mp hy).1
          rw [List.length_append] at this
          have : j < xs.length + 1 := this
          omega
        subst e
        rw [List.getElem?_append_right (Nat.le_refl _), Nat.sub_self] at hy
        cases hy
        exact ⟨ys, H', by omega, q, K3⟩
end
/-! ### the expression list(generator) -/
def tList3 (tg : TGen3) : TE := fun σ H Q => tg σ H fun It Fn H1 => ∀ (p : Addr) (H2 : Hp) (xs : List V), Same H1 H2 → H2 p = none → xs.length ≤ sizeLine → Got It H2 xs → (∃ ys Hg, ys.length = xs.length ∧ Fn ys Hg ∧ KeepU Hg H2) → Q (.ref p) (upd H2 p (.lst xs))
section
variable {X : Cx} {pins : List (Addr × Obj)} {σ : L2.St}
theorem call_list3 {k : Nat} {s : Shared} {u : Value} {cont : (List V → V → Hp → Prop) → (List V → Hp → Prop) → Hp → Prop} {Q : VK} {E : Value → Shared → Prop} (hr : Room (k + 4) X.A) (h : PMade X k pins σ cont u s)
    (hc : ∀ It Fn H1, cont It Fn H1 → ∀ (p : Addr) (H2 : Hp) (xs : List V), Same H1 H2 → H2 p = none → xs.length ≤ sizeLine → Got It H2 xs → (∃ ys Hg, ys.length = xs.length ∧ Fn ys Hg ∧ KeepU Hg H2) → Q (.ref p) (upd H2 p (.lst xs))) :
    wpAny (model X.prog X.w) X.A (call (.type "list") [u]) (fun v s' => ∃ x H', Inv X pins σ H' s' ∧ RelV x v ∧ Q x H') E s := by
  obtain ⟨It, Fn, N, env, a, gi, go, own, ip, σg, Hg, H1, gs, rfl, I1, T, Z0, hat, ha, hgi, hcont⟩ := h
  have aLt : a < s.heap.objs.size := Heap.lt_size hat
  have nLt : env.locals < s.heap.objs.size := Nat.lt_trans T.up aLt
  have neA : s.heap.objs.size ≠ a := Nat.ne_of_gt aLt
  have Z := Z0 X.A.in1.in1.in1 (by exact (((hr.mono (show k + 3 ≤ k + 4 by omega)).in1 (k := k + 2)).in1 (k := k + 1)).in1 (k := k)) (by show X.A.frames = _; exact I1.ok.frames)
  have Is := Inv.spin I1 T Z ha
  have gen := T.gen _ hat
  refine callType_codes (Q₁ := fun obj s₁ => obj = .ref s.heap.objs.size ∧ s₁ = { s with heap := s.heap.push { cls := .type "list", data := .seq #[] } }) F.called_list (F.typeCall_list_1 _) F.entry_list_init (code_list_new _ ⟨rfl, rfl⟩) fun obj s₁ h₁ => ?_
  obtain ⟨rfl, rfl⟩ := h₁
  have q1 : (s.heap.push { cls := .type "list", data := .seq #[] }).get? s.heap.objs.size = some { cls := .type "list", data := .seq #[] } := Heap.get?_push_size _ rfl
  refine ⟨⟨_, q1, rfl⟩, F.args_list_init_2 _ _, ?_⟩
  show wpAny _ X.A.in1.in1 (Builtin.List.listItems (.ref s.heap.objs.size) >>= fun old => Builtin.List.listUpdate (.ref s.heap.objs.size) (fun _ => #[]) >>= fun _ => letGo old.toList.reverse >>= fun _ =>
    Builtin.List.listExtendWith (.ref s.heap.objs.size) (.ref a) .none) _ _ _
  refine wpAny_bind ?_
  unfold Builtin.List.listItems
  refine wpAny_bind (wpAny_seqItems q1 rfl (wpAny_pure ?_))
  show wpAny _ X.A.in1.in1 (updateSeq s.heap.objs.size (fun _ => #[]) >>= fun _ => letGo (#[] : Array Value).toList.reverse >>= fun _ =>
    Builtin.List.listExtendWith (.ref s.heap.objs.size) (.ref a) .none) _ _ _
  refine wpAny_bind (wpAny_updateSeq q1 rfl ?_)
  have q2 := Heap.get?_update_self (Obj.mapSeq (fun _ => (#[] : Array Value))) q1 rfl
  refine wpAny_bind (wpAny_letGo ?_)
  unfold Builtin.List.listExtendWith
  have up : ∀ (h : Heap) (f : Obj → Obj), (∀ b o, s.heap.get? b = some o → h.get? b = some o) → ∀ b o, s.heap.get? b = some o → (h.update s.heap.objs.size f).get? b = some o := fun h f q b o e => by
    have ne : s.heap.objs.size ≠ b := fun z => by
      have := Heap.lt_size e
      rw [← z] at this
      exact absurd this (Nat.lt_irrefl _)
    rw [Heap.get?_update_other _ _ ne]
    exact q b o e
  have k1 : ∀ b o, s.heap.get? b = some o → (s.heap.push { cls := .type "list", data := .seq #[] }).get? b = some o := fun b o e => Heap.get?_push_of_some _ e
  have k2 := up _ (Obj.mapSeq (fun _ => (#[] : Array Value))) k1
  have gk : ∀ {h : Heap}, (∀ b o, s.heap.get? b = some o → h.get? b = some o) → h.IsGen a gi := fun {h} q => T.gen _ (q a go hat)
  refine wpAny_bind (wpAny_typeOf (Heap.IsGen.typeIs (s := { s with heap := _ }) (gk k2)) ?_)
  have c1 : Builtin.List.listSameRef (.ref s.heap.objs.size) (.ref a) = false := by simp [Builtin.List.listSameRef, neA]
  have c2 : (Value.type "generator" == Value.type "list") = false := by decide
  have c3 : (Value.type "generator" == Value.type "tuple") = false := by decide
  simp only [c1, c2, c3, Bool.or_false, Bool.false_eq_true, if_false]
  refine wpAny_bind (wpAny_pyIter_gen (s := { s with heap := _ }) (gk k2) ?_)
  refine wpAny_bind (wpAny_holding ?_)
  unfold Builtin.List.listLengthHint
  refine wpAny_bind (wpAny_specialOf (Heap.IsGen.typeIs (s := { s with heap := _ }) (gk k2)) F.gen_no_len ?_)
  show wpAny _ X.A.in1.in1 (specialOf (Value.ref a) (Str.ofString "__length_hint__") >>= _) _ _ _
  refine wpAny_bind (wpAny_specialOf (Heap.IsGen.typeIs (s := { s with heap := _ }) (gk k2)) F.gen_no_hint ?_)
  refine wpAny_pure ?_
  show wpAny _ X.A.in1.in1 (rule "list.extend.makes-room" >>= fun _ => Builtin.List.listTouch (.ref s.heap.objs.size) >>= fun _ =>
    again (.builtin "list.extend.loop" ⟨[.ref s.heap.objs.size, .ref a, .none], []⟩)) _ _ _
  refine wpAny_bind (wpAny_rule ?_)
  refine wpAny_bind ?_
  show wpAny _ X.A.in1.in1 (updateSeq s.heap.objs.size (·.push .none) >>= fun _ => updateSeq s.heap.objs.size (·.pop)) _ _ _
  refine wpAny_bind (wpAny_updateSeq q2 rfl ?_)
  have q3 := Heap.get?_update_self (Obj.mapSeq (·.push Value.none)) q2 rfl
  refine wpAny_updateSeq (hz := by seq_fits) q3 rfl ?_
  have q4 := Heap.get?_update_self (Obj.mapSeq (·.pop)) q3 rfl
  have k4 := up _ (Obj.mapSeq (·.pop)) (up _ (Obj.mapSeq (·.push Value.none)) k2)
  refine wpAny_pure ⟨plainId_quiet F.plain_extend_loop _, ?_⟩
  have I4 := Is.kept (t' := s.toks) k4
  have Fa := T.fit X.A.in1
  refine fill3 (k := k + 1) (A := X.A.in1) (H0 := H1) (N := N) (env := env) (It := It) (Fn := Fn) (a := a) (gi := gi) (go := go) (pins := pins) (σ := σ) (hr.mono (show k + 4 ≤ k + 4 by omega)).in1 T (Nat.le_of_lt nLt) neA (fun s' H' acc c xs I' sm hS hv hlen got hfin hSn => ?_) sizeLine _ H1 own ip σg Hg s.heap gs #[] _ [] rfl Z I4 (Same.refl _) hgi q4 .nil (I1.hok.fresh (Nat.le_refl _)) (fun m => ?_) (fun j x e => by simp at e)
  · refine ⟨rfl, .ref s.heap.objs.size, _, Inv.closed I' (Nat.le_trans Fa.s0 (Nat.le_of_lt nLt)) (fun z => ?_) (fun y d e z => ?_) (fun p hp z => ?_) hSn hS hv hlen, rfl, hc It Fn H1 hcont _ H' xs sm hSn hlen got hfin⟩
    · exact absurd (Nat.lt_trans Fa.loc nLt) (z ▸ Nat.lt_irrefl _)
    · exact absurd (Nat.lt_trans (Fa.cell y d e) nLt) (z ▸ Nat.lt_irrefl _)
    · exact absurd (Nat.lt_trans (Fa.pin p hp) nLt) (z ▸ Nat.lt_irrefl _)
  · obtain ⟨_, ⟨o, ho, _⟩, _⟩ := Z.slp.ow _ m
    exact absurd (Heap.lt_size ho) (Nat.lt_irrefl _)
theorem pe_list3 {k : Nat} {e : Expr} {tg : TGen3} {nm : Str} {p pos : Pos} (h : PGen3 X k e tg) (hr : Room (k + 4) X.A) (hg : Gl X nm) (hmg : X.mg nm = none) (hv : bootBuiltins nm = some (.type "list")) (hnm : nm ≠ "__name__" := by decide) (hdb : (nm == ("__debug__" : Str)) = false := by decide)
    (he : starEach [e] X.env = (false, eval e X.env) :: starEach [] X.env := by rfl) : PE X (.Call (.Name nm p) [e] [] pos) (tList3 tg) := by
  refine ⟨fun pins s σ H Q I hq => ?_⟩
  refine wpAny_Call_Name_kw (ld_blt I hg hmg hv ?_ hnm hdb)
  refine PyProof.Rows.callWith_type1 ?_ he rfl
  rw [he]
  show wpAny _ _ (spliced ((false, eval e X.env) :: backTo pos (starEach [] X.env))) _ _ s
  refine Calls.spliced_cons (thn (h.run pins s σ H _ I hq) fun u s1 hm => ?_)
  refine Calls.spliced_nil ?_
  exact call_list3 hr hm fun It Fn H1 c => c
end
/-! ### the readings may speak of the waking's context -/
def ix0 : Ix := ⟨{}, fun _ => none⟩
section
variable {G : Gp} {It : List V → V → Hp → Prop} {st : Stmt} {rest : List Stmt}
theorem h3_plain {t : Ix → TS} (h : ∀ ix, PS (G.X ix) st (t ix)) (e : ∀ ix, t ix = t ix0 := by intro _; rfl) : GS3 G It st (tPlain (t ix0)) := g3_plain fun ix => by rw [← e ix]; exact h ix
theorem h3_if {test : Expr} {body orelse : List Stmt} {pos : Pos} {tc : Ix → TT} {t u : TGn} (hc : ∀ ix, PT (G.X ix) test (tc ix)) (ha : GSs3 G It body t) (hb : GSs3 G It orelse u) (e : ∀ ix, tc ix = tc ix0 := by intro _; rfl) : GS3 G It (.If test body orelse pos) (tGIf (tc ix0) t u) :=
  g3_if (fun ix => by rw [← e ix]; exact hc ix) ha hb
theorem h3_while {test : Expr} {body : List Stmt} {pos : Pos} {tc : Ix → TT} {tb : TGn} (hc : ∀ ix, PT (G.X ix) test (tc ix)) (hb : GSs3 G It body tb) (e : ∀ ix, tc ix = tc ix0 := by intro _; rfl) : GS3 G It (.While test body [] pos) (tGWhile (tc ix0) tb) :=
  g3_while (fun ix => by rw [← e ix]; exact hc ix) hb
theorem h3_yield {x : Expr} {yp pos : Pos} {te : Ix → TE} (he : ∀ ix, PE (G.X ix) x (te ix)) (hco : G.env.scope.isCoroutine = false) (hi : interactive G.env = false) (e : ∀ ix, te ix = te ix0 := by intro _; rfl) : GS3 G It (.Expr (.Yield (some x) yp) pos) (tGY3 It (te ix0)) :=
  g3_yield (fun ix => by rw [← e ix]; exact he ix) hco hi
end
/-! ### a list comprehension over a generator -/
def tLc3 (tg : TGen3) (g : TG) (tt : TT) (te : TE) (vs : List Nat) : TE := fun σ H Q => tg σ H fun It Fn H1 => ∀ D, H1 D = none → ∃ W : Nat → Hp → Prop, W 0 (upd H1 D (.lst [])) ∧ ∀ j H2, W j H2 →
  (∀ (ys : List V) (Hg H3 : Hp), ys.length = j → Fn ys Hg → KeepU Hg H3 → Same H2 H3 → Q (.ref D) H3) ∧
  ∀ (ys : List V) (x : V) (Hg H3 : Hp), ys.length = j → j < sizeLine → It ys x Hg → KeepU Hg H3 → Same H2 H3 → g x (wipe σ vs) H3 fun σ2 H4 => wipe σ2 vs = wipe σ vs ∧ tt σ2 H4 fun b H5 =>
    if b = true then te σ2 H5 fun y H6 => ∃ acc, H6 D = some (.lst acc) ∧ acc.length < sizeLine ∧ KeepU H3 (upd H6 D (.lst (acc ++ [y]))) ∧ W (j + 1) (upd H6 D (.lst (acc ++ [y]))) else KeepU H3 H5 ∧ W (j + 1) H5
section
variable {X : Cx} {pins : List (Addr × Obj)} {σ : L2.St} {H : Hp} {s : Shared}
/-- what sleeps ahead sleeps behind, of anything that speaks of the heap -/
theorem inv_sleep {α : Type} {t : Sem α} {A : Around} {P : α → L2.St → Hp → Prop} (h : ∀ s, Inv X pins σ H s → wpAny (model X.prog X.w) A t (fun x s' => ∃ σ' H', Inv X pins σ' H' s' ∧ P x σ' H') (fun _ _ => False) s) (I : Inv X pins σ H s) :
    wpAny (model X.prog X.w) A t (fun x s' => ∃ σ' H', Inv X pins σ' H' s' ∧ P x σ' H' ∧ Slept2 s.gens s'.gens) (fun _ _ => False) s := by
  refine wpAny_mono (wpAny_awake (h _ (inv_wg I (cut_bare I.bare)))) (fun f s' q => ?_) fun e s' q => ?_
  · obtain ⟨g₀, a, σ', H', I', q⟩ := q
    obtain ⟨b1, b2⟩ := awake_bare a I.bare I'.bare
    exact ⟨σ', H', inv_wg (s := wg s' g₀) I' b1, q, b2⟩
  · obtain ⟨g₀, a, q⟩ := q
    exact q.elim
/-- what a comprehension's block asks of its parts -/
structure BlkP (X : Cx) (scope : Scope) (tg : Expr) (ifs : List Expr) (elt : Expr) (g : TG) (tt : TT) (te : TE) : Prop where
  tgt : ∀ (t : Shared) (h : Hp) (C : Addr) (cl : List (Str × Addr)) (fp : List Addr), PG (X.blk t h scope (compEnvC scope cl C X.env) fp) tg g
  tst : ∀ (t : Shared) (h : Hp) (C : Addr) (cl : List (Str × Addr)) (fp : List Addr), PTs (X.blk t h scope (compEnvC scope cl C X.env) fp) ifs tt
  elt : ∀ (t : Shared) (h : Hp) (C : Addr) (cl : List (Str × Addr)) (fp : List Addr), PE (X.blk t h scope (compEnvC scope cl C X.env) fp) elt te
theorem lc3_core {k : Nat} {Q : VK} {elt tg iter : Expr} {ifs : List Expr} {bsc : Scope} {own0 : List (Str × Nat)} {pos posA : Pos} {wi : TGen3} {g : TG} {tt : TT} {te : TE} {use : Option (Value → Sem Unit)} {Qf : Value → Shared → Prop}
    (hN : X.N.Nodup) (hr : Room (k + 1) X.A) (I : Inv X pins σ H s) (hi : PGenC X k iter wi) (ok : BlkOk X.N X.env.scope bsc own0)
    (B : BlkP X bsc tg ifs elt g tt te) (hs : ∀ x, foldedSetIterable iter X.env x = pure x)
    (h : tLc3 wi g tt te (own0.map (·.2)) σ H Q)
    (fin0 : ∀ dl C s' m H', Inv X pins σ H' s' → Q (.ref dl) H' → s'.heap.Ns C m → FpOk X pins H' C → compPost (model X.prog X.w) X.A X.xe use Qf (.ref dl) C (.ok .next) s') :
    wpAny (model X.prog X.w) X.A (comprehension (.ListComp elt [⟨tg, iter, ifs, 0⟩] bsc pos) bsc X.env posA (newList []) false (eval iter X.env) use) Qf X.xe s := by
  have frees : ∀ y ∈ bsc.names, y.2 = .free → ∃ c, X.env.cells.lookup y.1 = some c := fun y hy e => by
    exact (ok.free y hy e).elim (fun k => I.ok.has _ (.inl k)) fun k => I.ok.has _ (.inr k)
  refine wpAny_comprehension_free (use := use) rfl hs (closure_ok frees) ok.kind (fun y hy e => by rw [ok.uniq y hy, e])
    (thn (hi.run pins s σ H _ I h) fun xv t0 h2 => ?_)
  obtain ⟨It, Fn, N, env, a, gi, go, ip0, σg0, Hg0, h0, gs0, rfl, J0, T, Z00, hat, ha, hgi, q⟩ := h2
  have Z0 := Z00 X.A.in1 hr.in1 (by show X.A.frames = _; exact J0.ok.frames)
  refine wpAny_pyIter_gen (T.gen _ Z0.at_) ?_
  refine wpAny_newObj_type (newEnv_comp ?_) (by show 0 ≤ sizeLine; decide)
  have Is := Inv.spin J0 T Z0 ha
  have F := T.fit X.A.in1
  generalize eD : t0.heap.objs.size = dl
  have nD : h0 dl = none := J0.hok.fresh (Nat.le_of_eq eD)
  obtain ⟨Wt, w0, turn⟩ := q dl nD
  -- the frame and the generator
  obtain ⟨oL, hoL, hcL⟩ := (Z0.slp.ow _ Z0.slp.loc).2.1
  have nL : h0 env.locals = none := by
    rcases (Z0.slp.ow _ Z0.slp.loc).2.2 with n | ⟨xs, _, e2⟩
    · exact n
    · obtain ⟨ix, sy, _, J, _⟩ := Z0.slp.inv
      have z : Hg0 env.locals = none := J.free
      have e2 : Hg0 env.locals = some (.tup xs) := e2
      rw [z] at e2; cases e2
  have fB : ∀ b ∈ [env.locals, a], FpOk X pins h0 b ∧ ∃ o, t0.heap.get? b = some o ∧ ∀ v, o.data ≠ .cell v := fun b hb => by
    simp only [List.mem_cons, List.mem_nil_iff, or_false] at hb
    rcases hb with rfl | rfl
    · obtain ⟨p1, p2, p3, p4, p5⟩ := Is.pin (env.locals, oL) (List.mem_append_right _ (List.mem_append_right _ (List.mem_append_left _ (mem_plst Z0.slp.loc nL hoL))))
      obtain ⟨c1, c2, c3, c4⟩ := F.ch (Nat.le_refl env.locals)
      exact ⟨⟨p2, p3, p4, c1, c3, c4⟩, oL, p1, p5⟩
    · obtain ⟨p1, p2, p3, p4, p5⟩ := Is.pin (b, go) (List.mem_append_right _ (List.mem_append_right _ (List.mem_append_right _ (List.mem_singleton.mpr rfl))))
      obtain ⟨c1, c2, c3, c4⟩ := F.ch (Nat.le_of_lt T.up)
      exact ⟨⟨p2, p3, p4, c1, c3, c4⟩, go, p1, p5⟩
  generalize hfp : [env.locals, a] = fp at fB
  -- the new list
  generalize etA : ({ t0 with heap := t0.heap.push { cls := .type "list", data := .seq ([] : List Value).toArray } } : Shared) = tA
  have JA : Inv X pins σ (upd h0 dl (.lst [])) tA := by
    rw [← etA]
    refine J0.laid (t' := t0.toks) (fun b o e => Heap.get?_push_of_some _ e) (Nat.le_of_eq eD) ⟨Nat.zero_le _, [], 0, .nil, ?_⟩
    rw [← eD]
    exact Heap.get?_push_size _ rfl
  have eA : tA.heap = t0.heap.push { cls := .type "list", data := .seq ([] : List Value).toArray } := by rw [← etA]
  have g3 : tA.gens = t0.gens := by rw [← etA]
  have k3 : ∀ b o, t0.heap.get? b = some o → tA.heap.get? b = some o := fun b o e => by rw [eA]; exact Heap.get?_push_of_some _ e
  have fA : ∀ b ∈ fp, FpOk X pins (upd h0 dl (.lst [])) b ∧ b < tA.heap.objs.size := fun b hb => by
    obtain ⟨f, o, ho, _⟩ := fB b hb
    have blt := Heap.lt_size ho
    refine ⟨⟨?_, f.2⟩, by rw [eA, Heap.size_push]; exact Nat.lt_succ_of_lt blt⟩
    rw [upd_ne (by rw [← eD]; exact Nat.ne_of_lt blt)]
    exact f.1
  have JB := block_start JA ok hN fA
  have pg := B.tgt tA (upd h0 dl (.lst [])) tA.heap.objs.size (cellsFrom (tA.heap.objs.size + 1) bsc.names (cloFrom X.env.cells bsc.names [])) fp
  have pt := B.tst tA (upd h0 dl (.lst [])) tA.heap.objs.size (cellsFrom (tA.heap.objs.size + 1) bsc.names (cloFrom X.env.cells bsc.names [])) fp
  have pe := B.elt tA (upd h0 dl (.lst [])) tA.heap.objs.size (cellsFrom (tA.heap.objs.size + 1) bsc.names (cloFrom X.env.cells bsc.names [])) fp
  show codeAny _ _ (.compStart (.ListComp elt [⟨tg, iter, ifs, 0⟩] bsc pos) 0 (.ref a) (.ref dl) (compEnvC bsc (cellsFrom (tA.heap.objs.size + 1) bsc.names (cloFrom X.env.cells bsc.names [])) tA.heap.objs.size X.env)) (compPost (model X.prog X.w) X.A X.xe use Qf (.ref dl) tA.heap.objs.size) { tA with heap := pushCells (tA.heap.push { cls := .type "dict", data := .dict #[] }) bsc.names }
  have nones : ∀ b ∈ fp, (upd h0 dl (.lst [])) b = none := fun b hb => (fA b hb).1.1
  generalize ece : compEnvC bsc (cellsFrom (tA.heap.objs.size + 1) bsc.names (cloFrom X.env.cells bsc.names [])) tA.heap.objs.size X.env = ce at JB pg pt pe ⊢
  have lce : ce.locals = tA.heap.objs.size := by subst ece; rfl
  have ku0 : KeepU h0 (upd h0 dl (.lst [])) := fun b xs e => by rw [upd_ne (ne_of_none e nD)]; exact e
  generalize ehA : upd h0 dl (.lst []) = hA at JA JB pg pt pe w0 nones fA ku0
  have kp4 : ∀ b o, t0.heap.get? b = some o → (pushCells (tA.heap.push { cls := .type "dict", data := .dict #[] }) bsc.names).get? b = some o := fun b o e => pushCells_keeps _ _ _ _ (Heap.get?_push_of_some _ (k3 b o e))
  generalize etB : ({ tA with heap := pushCells (tA.heap.push { cls := .type "dict", data := .dict #[] }) bsc.names } : Shared) = tB at JB ⊢
  have k4 : ∀ b o, t0.heap.get? b = some o → tB.heap.get? b = some o := by rw [← etB]; exact kp4
  have g4 : tB.gens = t0.gens := by rw [← etB]; exact g3
  have still : ∀ {σ' : L2.St} {H' : Hp} {s' : Shared}, Inv (X.blk tA hA bsc ce fp) [] σ' H' s' → (∀ b ∈ fp, H' b = none) → ∀ b ∈ fp, FpOk (X.blk tA hA bsc ce fp) [] H' b := fun {σ' H' s'} I' hn b hb =>
    have e := I'.ok.exf b hb
    ⟨hn b hb, e.1, I'.ok.exfs b hb, .inl hb, e.2, fun p hp => absurd (show p ∈ ([] : List (Addr × Obj)) ++ [] from hp) (by simp)⟩
  have st4 := still JB nones
  have ch4 : ∀ b ∈ [env.locals], ChOk (X.blk tA hA bsc ce fp) [] b := fun b hb => by
    obtain ⟨_, c2, _, c4, c5, c6⟩ := st4 b (by rw [← hfp, List.mem_singleton.mp hb]; exact List.mem_cons_self)
    exact ⟨c4, c2, c5, c6⟩
  have I5 : Inv (X.blk tA hA bsc ce fp) ([] ++ spins a go [env.locals] h0 t0.heap) (wipe σ (own0.map (·.2))) hA tB := JB.pins_of fun p hp => by
    have hp' : p.1 ∈ fp ∧ t0.heap.get? p.1 = some p.2 := by
      rw [List.nil_append] at hp
      rcases List.mem_append.mp hp with hp | hp
      · obtain ⟨m, _, e⟩ := of_plst hp
        exact ⟨by rw [← hfp, List.mem_singleton.mp m]; exact List.mem_cons_self, e⟩
      · rw [List.mem_singleton.mp hp]
        exact ⟨by rw [← hfp]; exact List.mem_cons_of_mem _ List.mem_cons_self, hat⟩
    obtain ⟨c1, c2, c3, _⟩ := st4 p.1 hp'.1
    obtain ⟨_, o, ho, hc⟩ := fB p.1 hp'.1
    rw [hp'.2] at ho
    cases ho
    exact ⟨k4 _ _ hp'.2, c1, c2, c3, hc⟩
  have F0 : Fit0 (X.blk tA hA bsc ce fp) (gpOf X X.A.in1 N env) env.locals := ⟨rfl, rfl, rfl, rfl, F.frs⟩
  have loop : codeAny (model X.prog X.w) X.A (.compLoop (.ListComp elt [⟨tg, iter, ifs, 0⟩] bsc pos) 0 (.ref a) (.ref dl) ce) (compPost (model X.prog X.w) X.A X.xe use Qf (.ref dl) tA.heap.objs.size) tB := by
    refine compLoop_any (fun n s' => ∃ (j : Nat) (H' : Hp) (own : List Addr) (ip : List (Addr × Obj)) (σg : L2.St) (Hg Hs : Hp) (hs : Heap) (gs : GenState), n + j = sizeLine ∧ Snz X X.A.in1 N env It Fn a gi go n own ip σg Hg Hs gs hs ∧ Inv (X.blk tA hA bsc ce fp) ([] ++ spins a go own Hs hs) (wipe σ (own0.map (·.2))) H' s' ∧ KeepU Hs H' ∧
      s'.gens[gi]? = some gs ∧ Wt j H' ∧ ∀ b ∈ own, ChOk (X.blk tA hA bsc ce fp) [] b) ?_ sizeLine ⟨0, hA, [env.locals], ip0, σg0, Hg0, h0, t0.heap, gs0, rfl, Z0, I5, ku0, by rw [g4]; exact hgi, w0, ch4⟩
    clear Z00 Z0 I5 ch4 st4 Is JB hgi w0
    rintro n s5 ⟨j, H5, own, ip, σg, Hg, Hs, hs', gs, hn, Z, I5, kt, hg5, w5, hch⟩
    have I5' : Inv (X.blk tA hA bsc ce fp) ([] ++ plst own Hs hs') (wipe σ (own0.map (·.2))) H5 s5 := I5.pins_of fun p hp => I5.pin p (List.mem_append_right _ (List.mem_append_right _ (List.mem_append_left _ (by rw [List.nil_append] at hp; exact hp))))
    have Ip : Inv (X.blk tA hA bsc ce fp) [] (wipe σ (own0.map (·.2))) H5 s5 := I5.unpinned
    have hgo5 := I5.pin (a, go) (List.mem_append_right _ (List.mem_append_right _ (List.mem_append_right _ (List.mem_singleton.mpr rfl))))
    have R := Z.slp.wake0 F0 I5' kt
    have bare5 := Ip.bare
    have chn : ∀ b, env.locals ≤ b → (b ∈ own ∨ s5.heap.objs.size ≤ b) → ChOk (X.blk tA hA bsc ce fp) [] b := fun b _ h => by
      rcases h with m | hb
      · exact hch b m
      · obtain ⟨_, c2, _, c4, c5, c6⟩ := Ip.fpOk (H' := fun _ => none) hb rfl
        exact ⟨c4, c2, c5, c6⟩
    obtain ⟨t1, t2⟩ := turn j H5 w5
    refine next3 (G := gpOf X X.A.in1 N env) (ix := ixOf env.locals own Hg s5) rfl hr.hd Ip.nolimit (by have := hr.dp; omega) (T.gen _ hgo5.1) hg5 Z.goes R.keep (inv_wg R.inv (allBare_setGen bare5 rfl)) (fun s₁ hx1 h' hk => ?_) fun v s₁ gs' hv => ?_
    · obtain ⟨ys, ip', σ', H', hl, J, q, nr⟩ := hx1
      have J0 : Inv ((gpOf X X.A.in1 N env).X (ixOf env.locals own Hg s5)) [] σ' H' s₁ := J.pins_of fun p hp => by simp at hp
      obtain ⟨K1, _, K3, _⟩ := R.slept0 F0 chn Ip J0 (fun p hp => by simp at hp) nr
      have K2 : Inv (X.blk tA hA bsc ce fp) [] (wipe σ (own0.map (·.2))) (mrg env.locals H5 H') { s₁.setGen gi .finished with heap := h' } := (inv_wg K1 (allBare_setGen K1.bare rfl)).kept (t' := s₁.toks) hk
      have qq := t1 ys H' _ (by omega) q K3 (mrg_same _ _ _)
      have I7 : Inv X pins σ (mrg env.locals H5 H') { s₁.setGen gi .finished with heap := h' } := JA.call' (ch := fp) K2.os K2.base K2.hok K2.bare fun b hb => ⟨(fA b hb).1.2.2.2.1, (fA b hb).1.2.1, (fA b hb).1.2.2.2.2.1, (fA b hb).1.2.2.2.2.2⟩
      have nC : (mrg env.locals H5 H') tA.heap.objs.size = none := by
        have z : (mrg env.locals H5 H') ce.locals = none := K2.free
        rw [lce] at z
        exact z
      obtain ⟨m, hn', _⟩ := K2.loc
      have hn' : ({ s₁.setGen gi .finished with heap := h' } : Shared).heap.Ns ce.locals m := hn'
      rw [lce] at hn'
      exact fin0 dl tA.heap.objs.size _ m _ I7 qq hn' (JA.fpOk (Nat.le_refl _) nC)
    · obtain ⟨hb1, hsl, gz, m, ys, x, ip', σ', H', rfl, hl, rv, J, hip, q, nr, goes⟩ := hv
      obtain ⟨K1, Z', K3, K4⟩ := R.slept0 F0 chn Ip J hip nr
      have hgo4 : s₁.heap.get? a = some go := K4 a (Nat.le_of_lt T.up) Z.no go hgo5.1
      have hno : a ∉ ownOf env.locals own s5.heap s₁.heap := fun mm => by
        obtain ⟨_, h2, _⟩ := mem_ownOf.mp mm
        rcases h2 with h2 | h2
        · exact Z.no h2
        · exact absurd (Nat.lt_of_lt_of_le (Heap.lt_size hgo5.1) h2) (Nat.lt_irrefl _)
      have ha4 : mrg env.locals H5 H' a = none := by
        refine mrg_no hgo5.2.1 (.inr fun xs z => hno ?_)
        obtain ⟨o, ho, hc⟩ := plain_cell (u := .tup xs) rfl (J.hok a _ z)
        exact Z'.pl a _ (Nat.le_of_lt T.up) rfl z
      have Zn : Snz X X.A.in1 N env It Fn a gi go m (ownOf env.locals own s5.heap s₁.heap) ip' σ' H' (mrg env.locals H5 H') gs' s₁.heap := ⟨Z', goes, hgo4, hno⟩
      have hch' : ∀ b ∈ ownOf env.locals own s5.heap s₁.heap, ChOk (X.blk tA hA bsc ce fp) [] b := fun b hb => by
        obtain ⟨h1, h2, _⟩ := mem_ownOf.mp hb
        exact chn b h1 h2
      have bare4 : AllBare (s₁.setGen gi gs').gens := allBare_setGen K1.bare hb1
      have K5 : Inv (X.blk tA hA bsc ce fp) ([] ++ spins a go (ownOf env.locals own s5.heap s₁.heap) (mrg env.locals H5 H') s₁.heap) (wipe σ (own0.map (·.2))) (mrg env.locals H5 H') (s₁.setGen gi gs') := by
        refine inv_wg (K1.pins_of fun p hp => ?_) bare4
        rw [List.nil_append] at hp
        rcases List.mem_append.mp hp with hp | hp
        · obtain ⟨mm, n1, e⟩ := of_plst hp
          obtain ⟨h1, ⟨o, ho, hc⟩, _⟩ := Z'.ow p.1 mm
          rw [e] at ho
          cases ho
          exact ⟨e, n1, (hch' _ mm).2.1, fun z => absurd (Nat.lt_of_lt_of_le (F.frs _ z) h1) (Nat.lt_irrefl _), cellB_no hc⟩
        · rw [List.mem_singleton.mp hp]
          exact ⟨hgo4, ha4, hgo5.2.2.1, hgo5.2.2.2.1, hgo5.2.2.2.2⟩
      have hgg : (s₁.setGen gi gs').gens[gi]? = some gs' := setGen_at (Nat.lt_of_lt_of_le (Array.getElem?_eq_some_iff.mp hg5).1 gz)
      obtain ⟨og, nm, qn, hog, hcl, hdt, _⟩ := T.gen _ hgo4
      rw [hgo4] at hog
      cases hog
      refine go_of (s := s₁.setGen gi gs') (n := "generator") hgo4 hcl hdt (by decide) ?_
      refine thnF (pg_sleep (xeOk_never fun _ _ x => x) pg K5 rv (t2 ys x H' _ (by omega) (by omega) q K3 (mrg_same _ _ _))) fun _ s6 ⟨σ6, H6, I6, ⟨hw6, q6⟩, sl6⟩ => ?_
      have fin : ∀ {s' : Shared} {Hx : Hp} {σ7 : L2.St}, wipe σ7 (own0.map (·.2)) = wipe σ (own0.map (·.2)) → Inv (X.blk tA hA bsc ce fp) ([] ++ spins a go (ownOf env.locals own s5.heap s₁.heap) (mrg env.locals H5 H') s₁.heap) σ7 Hx s' → KeepU (mrg env.locals H5 H') Hx → Wt (j + 1) Hx → Slept2 (s₁.setGen gi gs').gens s'.gens →
          ∃ m', m' < m + 1 ∧ ∃ (j : Nat) (H' : Hp) (own : List Addr) (ip : List (Addr × Obj)) (σg : L2.St) (Hg Hs : Hp) (hs : Heap) (gs : GenState), m' + j = sizeLine ∧ Snz X X.A.in1 N env It Fn a gi go m' own ip σg Hg Hs gs hs ∧ Inv (X.blk tA hA bsc ce fp) ([] ++ spins a go own Hs hs) (wipe σ (own0.map (·.2))) H' s' ∧ KeepU Hs H' ∧
      s'.gens[gi]? = some gs ∧ Wt j H' ∧ ∀ b ∈ own, ChOk (X.blk tA hA bsc ce fp) [] b := fun {s' Hx σ7} hw I' ku w' sl => by
        have hl' : (wipe σ (own0.map (·.2))).length = σ7.length := by rw [← hw, wipe_length]
        exact ⟨m, Nat.lt_succ_self _, j + 1, Hx, _, ip', σ', H', _, s₁.heap, gs', by omega, Zn, I'.weak hl' (fun i v e => by rw [← hw] at e; exact (wipe_some e).1), ku, sl gi gs' hgg hsl, w', hch'⟩
      have pt6 := inv_sleep (A := X.A) (t := forIn ifs true fun c r => if r = true then do let ok ← isTrue c ce (eval c ce); pure (ForInStep.yield ok) else pure (ForInStep.yield r)) (P := fun b σ' Hx => σ' = σ6 ∧ (if b = true then te σ6 Hx fun y Hy => ∃ acc, Hy dl = some (.lst acc) ∧ acc.length < sizeLine ∧ KeepU (mrg env.locals H5 H') (upd Hy dl (.lst (acc ++ [y]))) ∧ Wt (j + 1) (upd Hy dl (.lst (acc ++ [y]))) else KeepU (mrg env.locals H5 H') Hx ∧ Wt (j + 1) Hx)) (fun s I => wpAny_mono (pt.run _ s σ6 H6 _ I q6) (fun b s' ⟨H', I', q'⟩ => ⟨σ6, H', I', rfl, q'⟩) fun _ _ z => z) I6
      refine thnF pt6 fun b s7 ⟨σ7, H7, I7, ⟨e7, q7⟩, sl7⟩ => ?_
      subst e7
      have sl67 : Slept2 (s₁.setGen gi gs').gens s7.gens := fun i x h1 h2 => sl7 i x (sl6 i x h1 h2) h2
      cases b with
      | false =>
        simp only [Bool.false_eq_true, if_false] at q7 ⊢
        exact fin hw6 I7 q7.1 q7.2 sl67
      | true =>
        simp only [if_true] at q7 ⊢
        have pe7 := inv_sleep (A := X.A) (t := eval elt ce) (P := fun z σ' Hx => σ' = σ7 ∧ ∃ yv, RelV yv z ∧ ∃ acc, Hx dl = some (.lst acc) ∧ acc.length < sizeLine ∧ KeepU (mrg env.locals H5 H') (upd Hx dl (.lst (acc ++ [yv]))) ∧ Wt (j + 1) (upd Hx dl (.lst (acc ++ [yv])))) (fun s I => wpAny_mono (pe.run _ s σ7 H7 _ I q7) (fun b s' ⟨yv, H', I', r', q'⟩ => ⟨σ7, H', I', rfl, yv, r', q'⟩) fun _ _ z => z) I7
        refine thnF pe7 fun z s8 ⟨σ8, H8, I8, ⟨e8, yv, r8, acc, hD8, hz8, ku8, w8⟩, sl8⟩ => ?_
        subst e8
        have ap := inv_sleep (A := X.A) (t := call (.builtin "list.append") [.ref dl, z]) (P := fun _ σ' Hx => σ' = σ8 ∧ Hx = upd H8 dl (.lst (acc ++ [yv]))) (fun s I => app_ok (X := X.blk tA hA bsc ce fp) I hD8 hz8 r8 fun s' I' => ⟨σ8, _, I', rfl, rfl⟩) I8
        refine thnF ap fun _ s9 ⟨σ9, H9, I9, ⟨e9, e9'⟩, sl9⟩ => ?_
        subst e9
        subst e9'
        exact fin hw6 I9 ku8 w8 fun i x h1 h2 => sl9 i x (sl8 i x (sl67 i x h1 h2) h2) h2
  exact codeAny_compStart_list loop (wpAny_pyIter_gen (T.gen _ (k4 _ _ hat)) loop)
/-- as a value -/
theorem pe_lc3 {k : Nat} {elt tg iter : Expr} {ifs : List Expr} {bsc : Scope} {own0 : List (Str × Nat)} {pos : Pos} {wi : TGen3} {g : TG} {tt : TT} {te : TE} (hN : X.N.Nodup) (hr : Room (k + 1) X.A) (hi : PGenC X k iter wi) (ok : BlkOk X.N X.env.scope bsc own0) (B : BlkP X bsc tg ifs elt g tt te) (hs : ∀ x, foldedSetIterable iter X.env x = pure x := by intro _; rfl) :
    PE X (.ListComp elt [⟨tg, iter, ifs, 0⟩] bsc pos) (tLc3 wi g tt te (own0.map (·.2))) := by
  constructor
  intro pins s σ H Q I h
  rw [eval_ListComp]
  refine lc3_core hN hr I hi ok B hs h fun dl C s' m H' J q hn f => ?_
  refine ⟨m, hn, fun h2 sb => ⟨.ref dl, H', ?_, rfl, q⟩⟩
  exact J.turned (t' := s'.toks) (fun b o hb e => (sb.2 b hb).trans e) f.1 f.2.1 f.2.2.2.1 f.2.2.2.2.1 f.2.2.2.2.2
/-- name = [..] over a generator -/
theorem ps_setLc3 {k i : Nat} {y : Str} {py : Pos} {elt tg iter : Expr} {ifs : List Expr} {bsc : Scope} {own0 : List (Str × Nat)} {pos spos : Pos} {wi : TGen3} {g : TG} {tt : TT} {te : TE} (hN : X.N.Nodup) (hr : Room (k + 1) X.A) (hy : X.N[i]? = some y) (hyl : X.env.scope.names.lookup y = some .local)
    (hsw : swapsWith (.ListComp elt [⟨tg, iter, ifs, 0⟩] bsc pos) (some (.Name y py)) spos.line X.env = pure true) (hi : PGenC X k iter wi) (ok : BlkOk X.N X.env.scope bsc own0) (B : BlkP X bsc tg ifs elt g tt te) (hs : ∀ x, foldedSetIterable iter X.env x = pure x := by intro _; rfl) :
    PS X (.Assign [.Name y py] (.ListComp elt [⟨tg, iter, ifs, 0⟩] bsc pos) spos) (tAsg (tLc3 wi g tt te (own0.map (·.2))) (gName i)) := by
  constructor
  intro pins s σ H D I h
  rw [exec_Assign_Name_used _ _ _ _ hsw]
  have h : tLc3 wi g tt te (own0.map (·.2)) σ H (fun x H1 => gName i x σ H1 D.nx) := h
  refine wpAny_bind (wpAny_standAt (wpAny_bind (wpAny_bind (thn (lc3_core (Qf := fun _ s' => SP X pins D .next s') hN hr I hi ok B hs h fun dl C s' m H' J q hn f => ?_) fun _ s' hq => wpAny_pure (wpAny_pure hq)))))
  show wpAny _ _ (assign (.Name y py) X.env (.ref dl)) _ _ _
  refine wpAny_assign_Name (store_ok2 (v := V.ref dl) J hN hy (.inl hyl) rfl (fun s2 J2 ⟨a, sb, ha⟩ => ?_) (.inr hyl))
  have hC : C ≠ a := ha.elim (fun z => by rw [z]; exact f.2.1) fun z e => f.2.2.2.2.1 y a z e.symm
  exact ⟨m, hn.sameBut sb hC, fun h3 sb3 => ⟨_, H', J2.turned (t' := s2.toks) (fun b o hb e => (sb3.2 b hb).trans e) f.1 f.2.1 f.2.2.2.1 f.2.2.2.2.1 f.2.2.2.2.2, q⟩⟩
end
/-! ### each_node -/
def B.nd : B → List Nat → List (List Nat × Nat)
  | .nil, _ => []
  | .node l x r, q => (q, x) :: (l.nd (q ++ [108]) ++ r.nd (q ++ [114]))
theorem B.nd_len : ∀ (t : B) (q : List Nat), (t.nd q).length = t.size
  | .nil, _ => rfl
  | .node l x r, q => by
    show (l.nd _ ++ r.nd _).length + 1 = l.size + 1 + r.size
    rw [List.length_append, l.nd_len, r.nd_len]
    omega
theorem B.nd_path : ∀ (t : B) (q : List Nat), ∀ e ∈ t.nd q, e.1.length ≤ q.length + t.size
  | .nil, _, e, h => by cases h
  | .node l x r, q, e, h => by
    show e.1.length ≤ q.length + (l.size + 1 + r.size)
    rcases List.mem_cons.mp h with rfl | h
    · show q.length ≤ _
      omega
    · rcases List.mem_append.mp h with h | h
      · have := l.nd_path _ e h
        rw [List.length_append] at this
        have : e.1.length ≤ q.length + 1 + l.size := this
        omega
      · have := r.nd_path _ e h
        rw [List.length_append] at this
        have : e.1.length ≤ q.length + 1 + r.size := this
        omega
/-- what waits: paths and parts -/
inductive Stk (H : Hp) : List V → List (List Nat × B) → Prop
  | nil : Stk H [] []
  | snoc {vs : List V} {st : List (List Nat × B)} {a : Addr} {v : V} {q : List Nat} {t : B} : Stk H vs st → H a = some (.tup [.str (tx q), v]) → BAt H v t → Stk H (vs ++ [.ref a]) (st ++ [(q, t)])
theorem Stk.keep {H H' : Hp} (k : KeepT H H') {vs : List V} {st : List (List Nat × B)} (h : Stk H vs st) : Stk H' vs st := by
  induction h with
  | nil => exact .nil
  | snoc _ e b ih => exact .snoc ih (k _ _ e) (b.keep k)
theorem Stk.len {H : Hp} {vs : List V} {st : List (List Nat × B)} (h : Stk H vs st) : vs.length = st.length := by
  induction h with
  | nil => rfl
  | snoc _ _ _ ih => rw [List.length_append, List.length_append, ih]; rfl
def rem (st : List (List Nat × B)) : List (List Nat × Nat) := st.reverse.flatMap fun p => p.2.nd p.1
theorem rem_snoc (st : List (List Nat × B)) (q : List Nat) (t : B) : rem (st ++ [(q, t)]) = t.nd q ++ rem st := by
  unfold rem
  rw [List.reverse_append, List.reverse_singleton]
  rfl
def mea (st : List (List Nat × B)) : Nat := (st.map fun p => 2 * p.2.size + 1).sum
theorem mea_snoc (st : List (List Nat × B)) (q : List Nat) (t : B) : mea (st ++ [(q, t)]) = mea st + (2 * t.size + 1) := by
  unfold mea
  rw [List.map_append, List.sum_append]
  show _ + (2 * t.size + 1 + 0) = _
  omega
theorem mea_len (st : List (List Nat × B)) : st.length ≤ mea st := by
  induction st with
  | nil => exact Nat.le_refl _
  | cons p st ih =>
    unfold mea at ih ⊢
    rw [List.map_cons, List.sum_cons, List.length_cons]
    omega
/-- the nodes, one by one -/
def itN (t : B) : List V → V → Hp → Prop := fun ys x H => ∃ (q : Addr) (w : List Nat × Nat), x = .ref q ∧ (t.nd [])[ys.length]? = some w ∧ H q = some (.tup [.str (tx w.1), .str (ch w.2)])
def fnN (t : B) : List V → Hp → Prop := fun ys _ => ys.length = t.size
def spEach : SpG3 := fun vs H It Fn => ∃ (v : V) (t : B), vs = [v] ∧ BAt H v t ∧ t.size ≤ 60 ∧ It = itN t ∧ Fn = fnN t
theorem sc_each_node : GScope ["tree", "waiting", "path", "part", "left", "label", "right"] ["tree"] (defScope s_each_node) := ⟨rfl, rfl, rfl, by decide +kernel, rfl, by decide +kernel, by decide +kernel⟩
theorem keepP_T {H H' : Hp} (k : KeepP H H') : KeepT H H' := fun b xs e => k b _ rfl e
section
variable {P : Program} {w : World} {K : PySem.W.Frag} {mg : Str → Option Value} {base : Heap} {f : Addr} {fd : FuncData}
theorem ok_each (F : Fun K "each_node" "each_node" s_each_node f fd) : GFn3 P w K mg base 2 f fd ["tree"] spEach := by
  obtain ⟨oc, od, kV, doc, pm, an, cdv, ct, osl, rfl, lk, hcd⟩ := F.ex
  refine gfn3_of (k := 1) lk hcd sc_each_node (fun _ => rfl) (fun vs H It Fn h => ?_) fun Aw outer L vs Hs It Fn hr h => ?_
  · obtain ⟨v, t, rfl, _⟩ := h
    rfl
  obtain ⟨v, t, rfl, bt, hz, rfl, rfl⟩ := h
  refine ⟨_, (g3s_cons (h3_plain fun ix => (ps_set (i := 1) sc_each_node.nd rfl (.inl rfl) (pe_lst (pa_cons (pe_tup (pa_cons pe_str (pa_cons (pv 0) pa_nil))) pa_nil))))
    (g3s_cons (h3_while (fun ix => (pt_truth (pv 1) (by intro _; rfl)))
      (g3s_cons (h3_plain fun ix => (ps_asg (pe_bm0 PySem.F.plainAttrs_list PySem.F.slot_list_pop PySem.F.type_list_pop mt_pop (pv 1)) (pg_tup rfl (pgs_cons (pg_name (i := 2) sc_each_node.nd rfl (.inl rfl)) (pgs_cons (pg_name (i := 3) sc_each_node.nd rfl (.inl rfl)) pgs_nil)))))
    (g3s_cons (h3_if (fun ix => (pt_cmpR op_notN (pv 3) pe_non (nomark _)))
      (g3s_cons (h3_plain fun ix => (ps_asg (pv 3) (pg_tup rfl (pgs_cons (pg_name (i := 4) sc_each_node.nd rfl (.inl rfl)) (pgs_cons (pg_name (i := 5) sc_each_node.nd rfl (.inl rfl)) (pgs_cons (pg_name (i := 6) sc_each_node.nd rfl (.inl rfl)) pgs_nil))))))
    (g3s_cons (h3_yield (fun ix => (pe_tup (pa_cons (pv 2) (pa_cons (pv 5) pa_nil)))) rfl rfl)
    (g3s_cons (h3_plain fun ix => (ps_expr (pe_bm PySem.F.plainAttrs_list PySem.F.slot_list_append PySem.F.type_list_append mt_append (pv 1) (pa_cons (pe_tup (pa_cons (pe_op op_add_str (pv 2) pe_str) (pa_cons (pv 6) pa_nil))) pa_nil))))
    (g3s_cons (h3_plain fun ix => (ps_expr (pe_bm PySem.F.plainAttrs_list PySem.F.slot_list_append PySem.F.type_list_append mt_append (pv 1) (pa_cons (pe_tup (pa_cons (pe_op op_add_str (pv 2) pe_str) (pa_cons (pv 4) pa_nil))) pa_nil)))) g3s_nil)))) g3s_nil) g3s_nil))) g3s_nil)), fun H' kp => ?_⟩
  refine ⟨_, rfl, (by show 2 ≤ sizeLine; decide), fun b nb => ⟨(by show 1 ≤ sizeLine; decide), fun Wd nW => ?_⟩⟩
  have k1 := same_new nb (.tup [.str "", v])
  have k2 := same_new nW (.lst [.ref b])
  have bt' := (bt.keep (keepP_T kp)).same (k1.trans k2)
  have eb := k2 _ _ (upd_same (H := H') (a := b) (o := .tup [.str "", v]))
  have eW := upd_same (H := upd H' b (.tup [.str "", v])) (a := Wd) (o := .lst [.ref b])
  generalize upd (upd H' b (.tup [.str "", v])) Wd (.lst [.ref b]) = H0 at bt' eb eW ⊢
  have WI : ∃ W : Nat → List V → L2.St → Hp → Prop, W = fun m ys σ H2 => ∃ (items : List V) (st : List (List Nat × B)) (o2 o3 o4 o5 o6 : Option V), σ = [some v, some (.ref Wd), o2, o3, o4, o5, o6] ∧ H2 Wd = some (.lst items) ∧ Stk H2 items st ∧ (t.nd []).drop ys.length = rem st ∧ ys.length ≤ t.size ∧ m = mea st ∧ mea st ≤ 121 ∧ ∀ p ∈ st, p.1.length + p.2.size ≤ 60 := ⟨_, rfl⟩
  obtain ⟨W, hW⟩ := WI
  refine ⟨W, ⟨mea [([], t)], ?_⟩, fun m ys σ H2 hp => ?_⟩
  · rw [hW]
    refine ⟨[.ref b], [([], t)], none, none, none, none, none, rfl, eW, .snoc (vs := []) (st := []) .nil eb bt', ?_, Nat.zero_le _, rfl, ?_, fun p hp => ?_⟩
    · show (t.nd []).drop 0 = rem ([] ++ [([], t)])
      rw [rem_snoc]
      show t.nd [] = t.nd [] ++ []
      rw [List.append_nil]
    · show 2 * t.size + 1 + 0 ≤ 121
      omega
    · rw [List.mem_singleton.mp hp]
      show 0 + t.size ≤ 60
      omega
  · rw [hW] at hp
    obtain ⟨items, st, o2, o3, o4, o5, o6, rfl, eW2, sk, hd, hy, rfl, hm, hq⟩ := hp
    clear eW eb bt' nb nW k1 k2
    refine ⟨_, rfl, !items.isEmpty, .inl ⟨items, SqL.of eW2, rfl⟩, ?_⟩
    cases sk with
    | nil =>
      refine iteF ?_
      have hd : (t.nd []).drop ys.length = [] := hd
      have := List.drop_eq_nil_iff.mp hd
      rw [t.nd_len] at this
      show ys.length = t.size
      omega
    | @snoc vs st' a pv q t' sk' ea bp =>
      have ne : (!(vs ++ [V.ref a]).isEmpty) = true := by cases vs <;> rfl
      rw [ne]
      refine iteT ⟨fun ys' σ' H' => ∃ m', m' < mea (st' ++ [(q, t')]) ∧ W m' ys' σ' H', fun ys' σ' H' h => h, ?_⟩
      have sl := sk'.len
      have ml := mea_len st'
      rw [mea_snoc] at hm ⊢
      have hq' : ∀ p ∈ st', p.1.length + p.2.size ≤ 60 := fun p hp => hq p (List.mem_append_left _ hp)
      have hq2 : q.length + t'.size ≤ 60 := hq (q, t') (List.mem_append_right _ (List.mem_singleton.mpr rfl))
      rw [rem_snoc] at hd
      refine ⟨.ref Wd, rfl, .inl ⟨rfl, _, SqL.of eW2⟩, Wd, _, .ref a, rfl, rfl, eW2, by rw [List.length_append]; simp, ?_⟩
      have ka : KeepT H2 (upd H2 Wd (.lst (vs ++ [V.ref a]).dropLast)) := fun b xs e => by rw [upd_ne (ne_of e eW2 (by intro z; cases z))]; exact e
      have eW3 : (upd H2 Wd (.lst (vs ++ [V.ref a]).dropLast)) Wd = some (.lst vs) := by rw [upd_same, List.dropLast_concat]
      have sk3 := sk'.keep ka
      have ea3 := ka _ _ ea
      have bp3 := bp.keep ka
      generalize upd H2 Wd (.lst (vs ++ [V.ref a]).dropLast) = H3 at eW3 sk3 ea3 bp3 ⊢
      refine ⟨a, _, rfl, SqT.of ea3, rfl, _, _, rfl, _, _, rfl, rfl, ?_⟩
      clear eW2 ka ne sk' ea bp
      rcases bp3.inv with ⟨rfl, rfl⟩ | ⟨c, lv, rv, x, tl, tr, rfl, rfl, ec, bl, br⟩
      · refine ⟨_, rfl, rfl, _, rfl, ?_⟩
        rw [show (!decide ((V.non : V) = V.non)) = false from rfl]
        refine iteF ⟨mea st', ?_, ?_⟩
        · show mea st' < mea st' + (2 * 0 + 1)
          omega
        · rw [hW]
          exact ⟨vs, st', _, _, _, _, _, rfl, eW3, sk3, hd, hy, rfl, by omega, hq'⟩
      · refine ⟨_, rfl, rfl, _, rfl, ?_⟩
        rw [show (!decide (V.ref c = V.non)) = true from rfl]
        refine iteT ⟨_, rfl, c, _, rfl, SqT.of ec, rfl, _, _, rfl, _, _, rfl, _, _, rfl, rfl, ?_⟩
        have sz : (B.node tl x tr).size = tl.size + 1 + tr.size := rfl
        have nl := congrArg List.length hd
        rw [List.length_drop, t.nd_len, List.length_append, B.nd_len] at nl
        have hy2 : ys.length < t.size := by omega
        have hix : (t.nd [])[ys.length]? = some (q, x) := by
          have : ((t.nd []).drop ys.length)[0]? = some (q, x) := by rw [hd]; rfl
          rw [List.getElem?_drop] at this
          exact this
        refine ⟨Nat.lt_of_lt_of_le hy2 (Nat.le_trans hz (small (by omega))), _, rfl, _, rfl, (by show 2 ≤ sizeLine; decide), fun y ny => ⟨⟨y, (q, x), rfl, hix, upd_same⟩, fun H5 k5 => ?_⟩⟩
        have k4 := same_new ny (.tup [.str (tx q), .str (ch x)])
        have kt := KeepT.trans (Tw.Same.keepT k4) (keepP_T k5)
        have eW5 := k5 Wd _ rfl (k4 _ _ eW3)
        have sk5 := sk3.keep kt
        have bl5 := bl.keep kt
        have br5 := br.keep kt
        clear eW3 sk3 ea3 bp3 ec bl br k4 k5 kt ny
        have ql : (tx q).length = q.length := rfl
        have le1 : vs.length ≤ 200 := by omega
        have er : (tx q ++ "r" : Str) = tx (q ++ [114]) := by rw [show ("r" : Str) = tx [114] by decide +kernel, tx_app]
        have el : (tx q ++ "l" : Str) = tx (q ++ [108]) := by rw [show ("l" : Str) = tx [108] by decide +kernel, tx_app]
        refine ⟨.ref Wd, rfl, .inl ⟨rfl, _, SqL.of eW5⟩, _, rfl, _, _, rfl, rfl, small (by rw [ql]; show q.length + 1 ≤ 1000; omega), _, rfl, (by show 2 ≤ sizeLine; decide), fun r1 n1 => ?_⟩
        rw [er]
        have k6 := same_new n1 (.tup [.str (tx (q ++ [114])), rv])
        have e6 := upd_same (H := H5) (a := r1) (o := .tup [.str (tx (q ++ [114])), rv])
        refine ⟨Wd, vs, _, rfl, rfl, k6 _ _ eW5, Nat.lt_of_le_of_lt le1 (by decide), ?_⟩
        have sk6 := (sk5.keep (Tw.Same.keepT k6))
        have bl6 := bl5.same k6
        have br6 := br5.same k6
        have eW6 := k6 _ _ eW5
        generalize upd H5 r1 (.tup [.str (tx (q ++ [114])), rv]) = H6 at k6 e6 sk6 bl6 br6 eW6 ⊢
        have k7 : KeepT H6 (upd H6 Wd (.lst (vs ++ [.ref r1]))) := fun b xs e => by rw [upd_ne (ne_of e eW6 (by intro z; cases z))]; exact e
        have sk7 : Stk (upd H6 Wd (.lst (vs ++ [.ref r1]))) (vs ++ [.ref r1]) (st' ++ [(q ++ [114], tr)]) := .snoc (sk6.keep k7) (k7 _ _ e6) (br6.keep k7)
        have bl7 := bl6.keep k7
        have eW7 := upd_same (H := H6) (a := Wd) (o := .lst (vs ++ [.ref r1]))
        generalize upd H6 Wd (.lst (vs ++ [.ref r1])) = H7 at sk7 bl7 eW7 ⊢
        clear k6 e6 sk6 bl6 br6 eW6 k7 sk5 bl5 br5 eW5 n1
        refine ⟨.ref Wd, rfl, .inl ⟨rfl, _, SqL.of eW7⟩, _, rfl, _, _, rfl, rfl, small (by rw [ql]; show q.length + 1 ≤ 1000; omega), _, rfl, (by show 2 ≤ sizeLine; decide), fun r2 n2 => ?_⟩
        rw [el]
        have k8 := same_new n2 (.tup [.str (tx (q ++ [108])), lv])
        have e8 := upd_same (H := H7) (a := r2) (o := .tup [.str (tx (q ++ [108])), lv])
        refine ⟨Wd, vs ++ [.ref r1], _, rfl, rfl, k8 _ _ eW7, Nat.lt_of_le_of_lt (show (vs ++ [V.ref r1]).length ≤ 201 by rw [List.length_append]; show vs.length + 1 ≤ 201; omega) (by decide), ?_⟩
        have sk8 := (sk7.keep (Tw.Same.keepT k8))
        have bl8 := bl7.same k8
        have eW8 := k8 _ _ eW7
        generalize upd H7 r2 (.tup [.str (tx (q ++ [108])), lv]) = H8 at k8 e8 sk8 bl8 eW8 ⊢
        have k9 : KeepT H8 (upd H8 Wd (.lst (vs ++ [.ref r1] ++ [.ref r2]))) := fun b xs e => by rw [upd_ne (ne_of e eW8 (by intro z; cases z))]; exact e
        have mm : mea (st' ++ [(q ++ [114], tr)] ++ [(q ++ [108], tl)]) = mea st' + (2 * tr.size + 1) + (2 * tl.size + 1) := by rw [mea_snoc, mea_snoc]
        refine ⟨mea (st' ++ [(q ++ [114], tr)] ++ [(q ++ [108], tl)]), ?_, ?_⟩
        · rw [mm]
          show _ < mea st' + (2 * (tl.size + 1 + tr.size) + 1)
          omega
        · rw [hW]
          refine ⟨_, _, _, _, _, _, _, rfl, upd_same, .snoc (sk8.keep k9) (k9 _ _ e8) (bl8.keep k9), ?_, ?_, rfl, by omega, fun p hp => ?_⟩
          · rw [rem_snoc, rem_snoc, List.length_append, ← List.drop_drop, hd]
            show (List.drop 1 ((q, x) :: (tl.nd (q ++ [108]) ++ tr.nd (q ++ [114])) ++ rem st')) = _
            show (tl.nd (q ++ [108]) ++ tr.nd (q ++ [114])) ++ rem st' = _
            rw [List.append_assoc]
          · rw [List.length_append]
            exact hy2
          · rcases List.mem_append.mp hp with hp | hp
            · rcases List.mem_append.mp hp with hp | hp
              · exact hq' p hp
              · rw [List.mem_singleton.mp hp]
                show (q ++ [114]).length + tr.size ≤ 60
                rw [List.length_append]
                show q.length + 1 + _ ≤ 60
                omega
            · rw [List.mem_singleton.mp hp]
              show (q ++ [108]).length + tl.size ≤ 60
              rw [List.length_append]
              show q.length + 1 + _ ≤ 60
              omega
end
/-! ### _law_equal of any data; _law_tree_right -/
def rReprV (K : PySem.W.Frag) : List V → Hp → VK → Prop := fun xs H Q => ∃ (v : V) (d : PyData), xs = [v] ∧ Dp K H v d ∧ okR d = true ∧ wtR d ≤ 1000000 ∧ d.depth ≤ 60 ∧ Q (.str d.shown) H
theorem call_reprV {X : Cx} (hg : X.A.guards = some []) (hu : X.A.units + 64 < cLine) : CallR X (.builtin "repr") (rReprV X.K) := by
  intro pins s σ H xs us Q I r h
  obtain ⟨v, d, rfl, hd, hs, hw, hz, q⟩ := h
  obtain ⟨u, rfl, rx⟩ := vals1 r
  obtain ⟨h1, h2, h3⟩ := shownR d hs
  have fits : d.shown.length ≤ sizeLine := by show _ ≤ 16777216; omega
  have rds := Dp.reads I d v u hd rx
  have fin : ∀ (h' : Heap) (t : Tok) (tk : Tok), (∀ b o, s.heap.get? b = some o → h'.get? b = some o) → EP X pins σ Q (.str d.shown t) { s with heap := h', toks := tk } := fun h' t tk hk => ⟨.str d.shown, H, I.kept (t' := tk) hk, ⟨t, rfl⟩, q⟩
  cases hd with
  | non =>
    cases rx
    simp only [PyData.shown] at fin
    exact PySem.P.repr_of_none (fin s.heap _ _ fun _ _ e => e)
  | bl b =>
    cases rx
    simp only [PyData.shown] at fin
    exact PySem.P.repr_of_bool (fin s.heap _ _ fun _ _ e => e)
  | int i =>
    obtain ⟨t, rfl⟩ := rx
    simp only [PyData.shown] at fin
    simp only [PyData.showable, decide_eq_true_eq] at h2
    exact PySem.P.repr_of_int h2 (fin s.heap _ _ fun _ _ e => e)
  | str x =>
    obtain ⟨t, rfl⟩ := rx
    simp only [PyData.shown] at fin fits
    exact PySem.P.repr_of_str (fin s.heap _ _ fun _ _ e => e) fits
  | lst _ _ =>
    cases rx
    obtain ⟨as, rd⟩ := rds
    exact repr_of_reads' rd h2 (PyData.noDict_hsm h3) hg (by omega) (fun _ _ e => e) (fun h' u tk hk => fin h' u tk hk) fits
  | tup _ _ =>
    cases rx
    obtain ⟨as, rd⟩ := rds
    exact repr_of_reads' rd h2 (PyData.noDict_hsm h3) hg (by omega) (fun _ _ e => e) (fun h' u tk hk => fin h' u tk hk) fits
theorem pe_callP {X : Cx} {CX : CXT} {k : Nat} {f : Addr} {sp : Sp} {E : XK} {x : Str} {e : Expr} {es : List Expr} {t : TA} {p pos : Pos} (F : FnR X.prog X.w X.K X.mg X.base CX k f sp) (hr : Room k X.A) (hk : PySem.W.keepIn X.K (.ref f) = true) (hg : Gl X x) (hm : X.mg x = some (.ref f)) (hx : Passes CX X E)
    (ha : PA X (e :: es) t) (hd : (x == ("__debug__" : Str)) = false := by decide) (he : starEach (e :: es) X.env = (false, eval e X.env) :: starEach es X.env := by rfl) (hpl : (backTo pos (starEach es X.env)).any (·.1) = false := by rfl) :
    PE X (.Call (.Name x p) (e :: es) [] pos) (fun σ H Q => t σ H fun vs H1 => sp vs H1 Q E) :=
  ⟨fun pins s σ H Q I h => wpAny_Call_Name_kw (ld_glob I hg hm (PySem.W.callWith_K (h₀ := X.base) I.ok.mod.kin hk (thn (ha.run pos pins s σ H _ I h) fun us s1 ⟨vs, H1, I1, r, q⟩ => ⟨I1.kIn, wpAny_call (run_fnR F hr hx I1 r q)⟩) he hpl) hd)⟩
def spEqualV (K : PySem.W.Frag) : Sp := fun vs H Q _ => ∃ (a b : V) (d : PyData), vs = [a, b] ∧ Dp K H a d ∧ Dp K H b d ∧ okR d = true ∧ wtR d ≤ 1000000 ∧ d.depth ≤ 60 ∧ Q (.bl true) H
structure DfE (P : Program) (w : World) (K : PySem.W.Frag) (mg : Str → Option Value) (base : Heap) (k : Nat) (nm : Str) (ps : List Str) (sp : SpG3) where
  f : Addr
  fd : FuncData
  ok : GFn3 P w K mg base k f fd ps sp
  b : Binds K fd ps []
  kp : PySem.W.keepIn K (.ref f) = true
  g : mg nm = some (.ref f)
def ksF : List (List Kd) := [[.last, .first, .between]]
structure DfF (P : Program) (w : World) (K : PySem.W.Frag) (mg : Str → Option Value) (base : Heap) (k : Nat) where
  f : Addr
  ok : ∀ ks : List Kd, ks ∈ ksF → FnKw P w K mg base k f 1 (ks.map Kd.str) (spFits ks)
  kp : PySem.W.keepIn K (.ref f) = true
  g : mg "fits" = some (.ref f)
theorem nd_pre : ∀ (t : B) (q : List Nat), (t.nd q).map (·.2) = t.pre
  | .nil, _ => rfl
  | .node l x r, q => by
    show x :: ((l.nd _ ++ r.nd _).map (·.2)) = x :: (l.pre ++ r.pre)
    rw [List.map_append, nd_pre l, nd_pre r]
theorem fit_self : ∀ r : List Nat, fit r r = true
  | [] => rfl
  | c :: r => by
    have ih := fit_self r
    unfold fit tst at ih ⊢
    rw [List.zip_cons_cons, List.map_cons, List.all_cons, ih]
    simp
theorem low_iff {c : Nat} : isLow c = true ↔ 97 ≤ c ∧ c ≤ 122 := by
  unfold isLow
  rw [Bool.and_eq_true, decide_eq_true_eq, decide_eq_true_eq]
theorem row_wk {t : B} (h : t.lts) (z1 : t ≠ .nil) (z : t.size ≤ 12) (k : Kd) : RowOk (t.wk k) := by
  have l := t.wk_len k
  have p := B.size_pos z1
  refine ⟨fun e => ?_, by omega, fun c hc => .inr (low_iff.mp (wk_low h k c hc))⟩
  rw [e] at l
  have l : 0 = t.size := l
  omega
def spTR (C : Addr) : Sp := fun vs H Q _ => ∃ (a : Addr) (ts : List B) (t : B) (es : List Ed), vs = [.ref a] ∧ Dk C H a ts t es false ∧ t.size ≤ 12 ∧ t ≠ .nil ∧ t.lts ∧ ∀ H' : Hp, Same H H' → Q (.bl true) H'
section
variable {P : Program} {w : World} {K : PySem.W.Frag} {mg : Str → Option Value} {base : Heap} {f : Addr} {fd : FuncData} {C : Addr}
theorem ok_equalV {k : Nat} (F : Fun K "_law_equal" "_law_equal" s__law_equal f fd) (M : Mgs mg) : FnOkG P w K mg base (k + 1) f fd ["_law_one", "_law_other"] (spEqualV K) := by
  refine fnG F sc__law_equal (fun vs H Q E h => ?_) (fun cdv A outer s H vs Q E gs hr h => ?_)
  · obtain ⟨a, b, d, rfl, _⟩ := h
    rfl
  obtain ⟨a, b, d, rfl, h1, h2, h3, h4, h5, q⟩ := h
  refine ⟨_, (pss_one (ps_ret (pe_cmpR op_eq (pe_callB (call_reprV gs hr.units) rfl M.repr (by decide +kernel) (pa_cons (pv 0) pa_nil)) (pe_callB (call_reprV gs hr.units) rfl M.repr (by decide +kernel) (pa_cons (pv 1) pa_nil)) (nomark _)))), ?_⟩
  refine ⟨_, rfl, a, d, rfl, h1, h3, h4, h5, _, rfl, b, d, rfl, h2, h3, h4, h5, rfl, ?_⟩
  rw [decide_eq_true (rfl : V.str d.shown = V.str d.shown)]
  exact q
theorem ok_treeRight {ft : Addr} {fdt : FuncData} {dn : List Value} (F : Fun K "_law_tree_right" "_law_tree_right" s__law_tree_right f fd) (TD : DeskC K mg C) (M : Mgs mg) (mset : mg "set" = none)
    (Psize : PDf P w K mg base C 21 "size" (spSizeP C)) (Pfirst : PDf P w K mg base C 63 "first" (spWalkP C .first)) (Pbetw : PDf P w K mg base C 63 "between" (spWalkP C .between)) (Plast : PDf P w K mg base C 63 "last" (spWalkP C .last))
    (MT : Meth K C "tree" ft) (Ft : FnOk P w K mg base CX0 1 ft fdt ["self", "version"] (spTreeM C)) (bt : Binds K fdt ["self", "version"] dn) (vt : Vals [.non] dn) (Dis_tree : Df P w K mg base 3 "is_tree" ["value"] spTreeT) (D_law_equal : DfG P w K mg base 1 "_law_equal" ["_law_one", "_law_other"] (spEqualV K))
    (Dwalks : DfR P w K mg base 63 "walks" spWalks) (Deach : DfE P w K mg base 2 "each_node" ["tree"] spEach) (Dsize_of : Df P w K mg base 20 "size_of" ["tree"] (spSz 20)) (Dfits : DfF P w K mg base 65) (Dis_search_tree : Df P w K mg base 63 "is_search_tree" ["tree"] spSearch) :
    FnOkG P w K mg base 67 f fd ["_law_desk"] (spTR C) := by
  refine fnG (k := 66) F sc__law_tree_right (fun vs H Q E h => ?_) (fun cdv A outer s H vs Q E gs hr h => ?_)
  · obtain ⟨a, ts, t, es, rfl, _⟩ := h
    rfl
  obtain ⟨a, ts, t, es, rfl, dk, hz, hne, hlo, q⟩ := h
  have hu := hr.units
  obtain ⟨dx, ta, td, vs, u, ds, h1, h2, h3, h4, h5, h6⟩ := id dk
  refine ⟨_, (pss_cons (ps_par (i := 1) (j := 2) (by rfl) sc__law_tree_right.nd rfl rfl (by decide) rfl rfl (pa_cons (pe_meth0 (pv 0) TD.cl MT Ft (hr.mono (by omega)) bt vt pass0) (pa_cons (pe_tup (pa_cons (pe_prop (pv 0) TD.cl Pfirst.pr Pfirst.ok (hr.mono (by omega)) Pfirst.b .nil (E := E0) (fun _ _ _ _ _ _ _ h => h.elim) rfl) (pa_cons (pe_prop (pv 0) TD.cl Pbetw.pr Pbetw.ok (hr.mono (by omega)) Pbetw.b .nil (E := E0) (fun _ _ _ _ _ _ _ h => h.elim) rfl) (pa_cons (pe_prop (pv 0) TD.cl Plast.pr Plast.ok (hr.mono (by omega)) Plast.b .nil (E := E0) (fun _ _ _ _ _ _ _ h => h.elim) rfl) pa_nil)))) pa_nil)) (by rfl))
    (pss_cons (ps_if (PW.pt (pw_or (pt_cmpR op_notBl (pe_call Dis_tree.ok (hr.mono (by omega)) rfl Dis_tree.g Dis_tree.kp Dis_tree.b .nil pass0 (pa_cons (pv 1) pa_nil)) pe_bl (nomark _)) (pw_or1 (pt_not (pt_val (pe_callG D_law_equal.ok gs (hr.mono (by omega)) rfl D_law_equal.g D_law_equal.kp D_law_equal.b (pa_cons (pe_callP (E := E0) Dwalks.ok (hr.mono (by omega)) Dwalks.kp rfl Dwalks.g pass0 (pa_cons (pv 1) (pa_cons pe_str (pa_cons pe_str (pa_cons pe_str pa_nil))))) (pa_cons (pv 2) pa_nil))))))))
      (pss_one (ps_ret pe_bl)) pss_nil)
    (pss_cons (ps_set (i := 5) sc__law_tree_right.nd rfl (.inl rfl) (pe_bm PySem.F.plainAttrs_str PySem.F.slot_str_join PySem.F.type_str_join mt_join pe_str (pa_cons (pe_lc3 (k := 2) (own0 := [("_law_path", 3), ("_law_letter_here", 4)]) (g := gTup K 2 (gCons (gName 3) (gCons (gName 4) gNil))) (tt := tYes) sc__law_tree_right.nd (hr.mono (by omega)) (pgenC (k := 2) Deach.ok (hr.mono (by omega)) rfl Deach.g Deach.kp Deach.b .nil (pa_cons (pv 1) pa_nil)) (blkOk_by (N := ["_law_desk", "_law_tree_here", "_law_told", "_law_path", "_law_letter_here", "_law_labels"]) (sc := defScope s__law_tree_right) (by decide +kernel)) ⟨fun _ _ _ _ _ => (pg_tup rfl (pgs_cons (pg_name (i := 3) sc__law_tree_right.nd rfl (.inl rfl)) (pgs_cons (pg_name (i := 4) sc__law_tree_right.nd rfl (.inl rfl)) pgs_nil))), fun _ _ _ _ _ => pts_nil, fun _ _ _ _ _ => (pv 4)⟩) pa_nil)))
    (pss_cons (ps_if (PW.pt (pw_or (pt_cmpR op_ne (pe_call Dsize_of.ok (hr.mono (by omega)) rfl Dsize_of.g Dsize_of.kp Dsize_of.b .nil pass0 (pa_cons (pv 1) pa_nil)) (pe_prop (pv 0) TD.cl Psize.pr Psize.ok (hr.mono (by omega)) Psize.b .nil (E := E0) (fun _ _ _ _ _ _ _ h => h.elim) rfl) (nomark _)) (pw_or1 (pt_cmpR op_ne (pv 5) (pe_ix ix_tup (pv 2) pe_int (fun _ _ => rfl)) (nomark _)))))
      (pss_one (ps_ret pe_bl)) pss_nil)
    (pss_cons (ps_if (pt_cmpR op_notBl (pe_callKw (Dfits.ok [.last, .first, .between] (by decide)) (hr.mono (by omega)) rfl Dfits.g Dfits.kp (pa_cons (pv 1) pa_nil) (pk_cons (pe_ix ix_tup (pv 2) pe_int (fun _ _ => rfl)) (pk_cons (pe_ix ix_tup (pv 2) pe_int (fun _ _ => rfl)) (pk_cons (pe_ix ix_tup (pv 2) pe_int (fun _ _ => rfl)) pk_nil)))) pe_bl (nomark _))
      (pss_one (ps_ret pe_bl)) pss_nil)
    (pss_one (ps_ret (pe_callG D_law_equal.ok gs (hr.mono (by omega)) rfl D_law_equal.g D_law_equal.kp D_law_equal.b (pa_cons (pe_call Dis_search_tree.ok (hr.mono (by omega)) rfl Dis_search_tree.g Dis_search_tree.kp Dis_search_tree.b .nil pass0 (pa_cons (pv 1) pa_nil)) (pa_cons (pe_cmpR (op_eqD hr.units) (pe_callTy (call_signs rfl) rfl M.list (by decide +kernel) (pa_cons (pe_ix ix_tup (pv 2) pe_int (fun _ _ => rfl)) pa_nil)) (pe_callB (show CallR _ (.builtin "sorted") (rSortX P w) from cr_sortX rfl) rfl M.sorted (by decide +kernel) (pa_cons (pe_callTy (show CallR _ (.type "set") (rSetX P w) from cr_setX rfl) rfl mset (by decide +kernel) (pa_cons (pe_ix ix_tup (pv 2) pe_int (fun _ _ => rfl)) pa_nil)) pa_nil)) (nomark _)) pa_nil)))))))))), ?_⟩
  have nl : ∀ {m : Str} (vt vd vb : V), (m == ("trees" : Str)) = false → (m == ("done" : Str)) = false → (m == ("busy" : Str)) = false → (deskF vt vd vb).lookup m = none := no_look
  refine ⟨_, rfl, a, dx, _, rfl, h1, nl _ _ _ (by decide +kernel) (by decide +kernel) (by decide +kernel), a, ts, t, es, false, rfl, dk, fun v hv => ?_⟩
  refine ⟨_, rfl, a, dx, _, rfl, h1, a, ts, t, es, false, rfl, dk, hz, fun H1 s1 => ?_⟩
  refine ⟨_, rfl, a, dx, _, rfl, s1 _ _ h1, a, ts, t, es, false, rfl, dk.same s1, hz, fun H2 s2 => ?_⟩
  have s12 := s1.trans s2
  refine ⟨_, rfl, a, dx, _, rfl, s12 _ _ h1, a, ts, t, es, false, rfl, dk.same s12, hz, fun H3 s3 => ⟨(by show 3 ≤ sizeLine; decide), fun tp ntp => ⟨_, _, rfl, ?_⟩⟩⟩
  have k4 := same_new ntp (.tup [.str (tx (t.wk .first)), .str (tx (t.wk .between)), .str (tx (t.wk .last))])
  have etp := upd_same (H := H3) (a := tp) (o := .tup [.str (tx (t.wk .first)), .str (tx (t.wk .between)), .str (tx (t.wk .last))])
  have s4 := s12.trans (s3.trans k4)
  generalize upd H3 tp (.tup [.str (tx (t.wk .first)), .str (tx (t.wk .between)), .str (tx (t.wk .last))]) = H4 at etp s4 ⊢
  have hv4 := hv.same s4
  have low := fun k => wk_low hlo k
  have zk : ∀ k, (t.wk k).length ≤ 12 := fun k => by rw [t.wk_len k]; exact hz
  have ok1 := fun k => tx_ok (zk k) (low k)
  have okW : okR (.tuple [.str (tx (t.wk .first)), .str (tx (t.wk .between)), .str (tx (t.wk .last))]) = true ∧ wtR (.tuple [.str (tx (t.wk .first)), .str (tx (t.wk .between)), .str (tx (t.wk .last))]) ≤ 1000000 ∧ (PyData.tuple [.str (tx (t.wk .first)), .str (tx (t.wk .between)), .str (tx (t.wk .last))]).depth ≤ 60 := by
    obtain ⟨a1, a2⟩ := ok1 .first
    obtain ⟨b1, b2⟩ := ok1 .between
    obtain ⟨c1, c2⟩ := ok1 .last
    simp only [ok_t, ok_c, ok_e, wt_t, wt_c, wt_e, dp_t, dp_c, dp_e, dp_s]
    rw [a1, b1, c1]
    exact ⟨rfl, by omega, by omega⟩
  have dpW : ∀ {H' : Hp} {p : Addr}, H' p = some (.tup [.str (tx (t.wk .first)), .str (tx (t.wk .between)), .str (tx (t.wk .last))]) → Dp K H' (.ref p) (.tuple [.str (tx (t.wk .first)), .str (tx (t.wk .between)), .str (tx (t.wk .last))]) := fun e => .tup (SqT.of e) (.cons (.str _) (.cons (.str _) (.cons (.str _) .nil)))
  refine ⟨_, rfl, v, t, rfl, hv4, hne, hlo, hz, fun H5 s5 => ?_⟩
  refine ⟨_, _, rfl, rfl, _, rfl, iteF ?_⟩
  have hv5 := hv4.same s5
  refine ⟨_, rfl, [v], _, rfl, rfl, (by show 3 ≤ sizeLine; decide), fun kp nkp => ?_⟩
  have k6 := same_new nkp (.tup [.str "first", .str "between", .str "last"])
  refine ⟨v, t, kp, rfl, hv5.same k6, by omega, upd_same, fun wp H6 s6 ewp => ?_⟩
  have s46 := s5.trans (k6.trans s6)
  have etp6 := s46 _ _ etp
  have hv6 := hv4.same s46
  refine ⟨_, rfl, .ref wp, .ref tp, _, rfl, dpW ewp, dpW etp6, okW.1, okW.2.1, okW.2.2, _, rfl, iteF ?_⟩
  -- the labels, one by one
  refine ⟨rfl, _, rfl, itN t, fnN t, ⟨v, t, rfl, hv6.keep fun b xs e => shr_tup e, by omega, rfl, rfl⟩, fun D nD => ?_⟩
  have kD := same_new nD (.lst [])
  refine ⟨fun j H' => Same H6 H' ∧ H' D = some (.lst (((t.nd []).take j).map fun w => vc w.2)), ⟨kD, upd_same⟩, fun j H7 hw => ⟨fun ys Hg H8 ly fy ku s8 => ?_, fun ys y Hg H8 ly jl iy ku s8 => ?_⟩⟩
  · obtain ⟨sw, eD⟩ := hw
    have fy : ys.length = t.size := fy
    have s68 := sw.trans s8
    have eD8 := s8 _ _ eD
    have eDs : H8 D = some (.lst ((t.pre.map ch).map V.str)) := by
      rw [eD8, List.take_of_length_le (by rw [B.nd_len]; omega), ← nd_pre t [], List.map_map, List.map_map]
      rfl
    have pl := t.pre_len
    refine ⟨_, D, t.pre.map ch, rfl, rfl, .inl (SqL.of eDs), tx_joinOk _ (by omega), ?_⟩
    rw [tx_join]
    have s08 := s4.trans (s46.trans s68)
    have hv8 := hv6.same s68
    have etp8 := s68 _ _ etp6
    have dk8 := dk.same s08
    have g8 := s08 _ _ h1
    refine ⟨_, rfl, v, t, rfl, hv8, by omega, _, rfl, a, dx, _, rfl, g8, a, ts, t, es, false, rfl, dk8, hz, ?_⟩
    refine ⟨rfl, _, rfl, iteNS rfl ?_⟩
    refine ⟨_, rfl, _, rfl, tp, _, _, _, rfl, rfl, SqT.of etp8, atI_nat (j := 0) rfl, rfl, _, rfl, iteNS rfl ?_⟩
    -- fits
    refine ⟨_, rfl, _, rfl, tp, _, _, _, rfl, rfl, SqT.of etp8, atI_nat (j := 2) rfl, _, rfl, tp, _, _, _, rfl, rfl, SqT.of etp8, atI_nat (j := 0) rfl, _, rfl, tp, _, _, _, rfl, rfl, SqT.of etp8, atI_nat (j := 1) rfl, rfl, rfl, ?_⟩
    have rk := row_wk hlo hne hz
    refine ⟨v, t, [(.last, t.wk .last), (.first, t.wk .first), (.between, t.wk .between)], t.size, rfl, rfl, rfl, hv8, by omega, by simp, (by show ([Kd.last, .first, .between] : List Kd).Nodup; decide), (by show 3 ≤ 3; decide), fun x hx => ?_, fun H9 s9 => ?_⟩
    · rcases List.mem_cons.mp hx with rfl | hx
      · exact ⟨rk .last, t.wk_len .last⟩
      rcases List.mem_cons.mp hx with rfl | hx
      · exact ⟨rk .first, t.wk_len .first⟩
      · rw [List.mem_singleton.mp hx]; exact ⟨rk .between, t.wk_len .between⟩
    have ft : fit3 (rowOf [(.last, t.wk .last), (.first, t.wk .first), (.between, t.wk .between)] t.size .first) (rowOf [(.last, t.wk .last), (.first, t.wk .first), (.between, t.wk .between)] t.size .between) (rowOf [(.last, t.wk .last), (.first, t.wk .first), (.between, t.wk .between)] t.size .last) t = true := by
      show (fit t.pre t.pre && (fit t.mid t.mid && fit t.post t.post)) = true
      rw [fit_self, fit_self, fit_self]
      rfl
    rw [ft, decide_eq_true rfl]
    refine ⟨_, _, rfl, rfl, _, rfl, iteF ?_⟩
    have hv9 := hv8.same s9
    have etp9 := s9 _ _ etp8
    refine ⟨_, rfl, v, t, rfl, hv9, hne, by omega, fun HA sA => ?_⟩
    have etpA := sA _ _ etp9
    refine ⟨_, rfl, tp, _, _, _, rfl, rfl, SqT.of etpA, atI_nat (j := 1) rfl, tx (t.wk .between), rfl, (by rw [tx_size, t.wk_len]; omega), fun l1 nl1 => ?_⟩
    have kB := same_new nl1 (.lst ((tx (t.wk .between)).cps.toList.map fun c => V.str ⟨#[c]⟩))
    have el1 : (upd HA l1 (.lst ((tx (t.wk .between)).cps.toList.map fun c => V.str ⟨#[c]⟩))) l1 = some (.lst ((t.wk .between).map vc)) := upd_same
    have etpB := kB _ _ etpA
    generalize upd HA l1 (.lst ((tx (t.wk .between)).cps.toList.map fun c => V.str ⟨#[c]⟩)) = HB at kB el1 etpB ⊢
    refine ⟨_, rfl, tp, _, _, _, rfl, rfl, SqT.of etpB, atI_nat (j := 1) rfl, t.wk .between, rfl, by rw [t.wk_len]; omega, fun sa l nsa nd mem h64 => ?_⟩
    have kC := same_new nsa (SetXO P w sa l)
    refine ⟨sa, l, rfl, upd_same, nd, h64, fun ys pz pm so npz => ?_⟩
    obtain ⟨zs, rfl, hdec, hzs⟩ := set_told nd mem pm so
    have kD2 := same_new npz (.lst ((zs.map ch).map V.str))
    have e1 := kD2 _ _ (kC _ _ el1)
    have e2 : (upd (upd HB sa (SetXO P w sa l)) pz (.lst ((zs.map ch).map V.str))) pz = some (.lst (zs.map vc)) := by rw [upd_same, map_vc]
    have sZ := kB.trans (kC.trans kD2)
    generalize upd (upd HB sa (SetXO P w sa l)) pz (.lst ((zs.map ch).map V.str)) = HC at e1 e2 sZ ⊢
    have lowm : ∀ c ∈ t.wk .between, 97 ≤ c ∧ c ≤ 122 := fun c hc => low_iff.mp (low .between c hc)
    refine ⟨_, _, dp_dS e1, dp_dS e2, shaped_dS lowm, shaped_dS (fun c hc => lowm c (hzs c hc)), ?_⟩
    have ev : PyData.eqv (dS (t.wk .between)) (dS zs) = asc t.mid := by
      show PyData.eqvAll _ _ = _
      rw [eqv_dS]
      exact hdec
    rw [ev]
    refine ⟨.bl (asc t.mid), .bl (asc t.mid), .bool (asc t.mid), rfl, .bl _, .bl _, by simp only [okR], by show 5 ≤ 1000000; decide, by show 0 ≤ 60; decide, ?_⟩
    exact q _ (s08.trans (s9.trans (sA.trans sZ)))
  · obtain ⟨sw, eD⟩ := hw
    obtain ⟨q1, w1, rfl, hw1, eq1⟩ := iy
    rw [ly] at hw1
    have eq8 := ku _ _ eq1
    refine ⟨q1, _, rfl, SqT.of eq8, rfl, _, _, rfl, _, _, rfl, rfl, rfl, kept ?_⟩
    have eD8 := s8 _ _ eD
    have jn : j < (t.nd []).length := (List.getElem?_eq_some_iff.mp hw1).1
    rw [B.nd_len] at jn
    refine ⟨_, rfl, _, eD8, ?_, fun b xs e => ?_, fun b o e => ?_, ?_⟩
    · rw [List.length_map, List.length_take]; exact small1000 (by omega)
    · rw [upd_ne (fun z => by rw [z, eD8] at e; cases e)]; exact e
    · rw [upd_ne (ne_of_none e nD)]; exact s8 _ _ (sw _ _ e)
    · rw [upd_same, take_next hw1, List.map_append]; rfl
end
/-! ### _law_edit_right -/
theorem B.at_put : ∀ (t : B) (p : List Bool) (u : B) {o : B}, t.at p = some o → (t.put p u).at p = some u
  | t, [], u, _, _ => by cases t <;> (cases u <;> rfl)
  | .nil, _ :: _, _, _, h => by cases h
  | .node l x r, false :: p, u, o, h => l.at_put p u (show l.at p = some o from h)
  | .node l x r, true :: p, u, o, h => r.at_put p u (show r.at p = some o from h)
theorem B.put_put : ∀ (t : B) (p : List Bool) (u w : B) {o : B}, t.at p = some o → (t.put p u).put p w = t.put p w
  | t, [], u, w, _, _ => by cases t <;> (cases u <;> rfl)
  | .nil, _ :: _, _, _, _, h => by cases h
  | .node l x r, false :: p, u, w, o, h => congrArg (fun z => B.node z x r) (l.put_put p u w (show l.at p = some o from h))
  | .node l x r, true :: p, u, w, o, h => congrArg (fun z => B.node l x z) (r.put_put p u w (show r.at p = some o from h))
theorem B.put_self : ∀ (t : B) (p : List Bool) {o : B}, t.at p = some o → t.put p o = t
  | t, [], o, h => by cases t <;> (cases h; rfl)
  | .nil, _ :: _, _, h => by cases h
  | .node l x r, false :: p, o, h => congrArg (fun z => B.node z x r) (l.put_self p (show l.at p = some o from h))
  | .node l x r, true :: p, o, h => congrArg (fun z => B.node l x z) (r.put_self p (show r.at p = some o from h))
theorem B.mir_mir : ∀ t : B, t.mir.mir = t
  | .nil => rfl
  | .node l x r => by
    show B.node l.mir.mir x r.mir.mir = _
    rw [l.mir_mir, r.mir_mir]
def spER : Sp := fun vs H Q _ => ∃ (v v' : V) (q : Addr) (t t' : B) (e : Ed), vs = [v, v', .ref q] ∧ BAt H v t ∧ BAt H v' t' ∧ H q = some (.tup e.vals) ∧ Does t e t' ∧ t.lts ∧ t.size ≤ 12 ∧ t ≠ .nil ∧ ∀ H' : Hp, Same H H' → Q (.bl true) H'
theorem two_fine {d e : PyData} (h : okR d = true ∧ wtR d ≤ 400 ∧ d.depth ≤ 20) (g : okR e = true ∧ wtR e ≤ 400 ∧ e.depth ≤ 20) : okR (.tuple [d, e]) = true ∧ wtR (.tuple [d, e]) ≤ 1000000 ∧ (PyData.tuple [d, e]).depth ≤ 60 := by
  obtain ⟨h1, h2, h3⟩ := h
  obtain ⟨g1, g2, g3⟩ := g
  simp only [ok_t, ok_c, ok_e, wt_t, wt_c, wt_e, dp_t, dp_c, dp_e]
  rw [h1, g1]
  exact ⟨rfl, by omega, by omega⟩
theorem one_fine {t : B} (h : t.lts) (z : t.size ≤ 12) : okR t.data = true ∧ wtR t.data ≤ 400 ∧ t.data.depth ≤ 20 := by
  obtain ⟨a, b, c⟩ := tree_fine t h
  exact ⟨a, by omega, by omega⟩
theorem dp_two {K : PySem.W.Frag} {H : Hp} {p : Addr} {v w : V} {d e : PyData} (h : H p = some (.tup [v, w])) (a : Dp K H v d) (b : Dp K H w e) : Dp K H (.ref p) (.tuple [d, e]) := .tup (SqT.of h) (.cons a (.cons b .nil))
section
variable {P : Program} {w : World} {K : PySem.W.Frag} {mg : Str → Option Value} {base : Heap} {f : Addr} {fd : FuncData} {C : Addr}
theorem ok_editRight {ft fi : Addr} {fdt fdi : FuncData} {dn : List Value} (F : Fun K "_law_edit_right" "_law_edit_right" s__law_edit_right f fd) (TD : DeskC K mg C) (M : Mgs mg) (MK : Mk K C fi) (Fi : FnOk P w K mg base CX0 4 fi fdi ["self", "tree"] (spInitD C)) (bi : Binds K fdi ["self", "tree"] [])
    (MT : Meth K C "tree" ft) (Ft : FnOk P w K mg base CX0 1 ft fdt ["self", "version"] (spTreeM C)) (bt : Binds K fdt ["self", "version"] dn) (vt : Vals [.non] dn) (D_law_equal : DfG P w K mg base 1 "_law_equal" ["_law_one", "_law_other"] (spEqualV K))
    (Dreplaced : Df P w K mg base 21 "replaced" ["tree", "path", "part"] spRepl) (Dpart_at : Df P w K mg base 1 "part_at" ["tree", "path"] spPart) (Dmirrored : Df P w K mg base 20 "mirrored" ["tree"] (spMir 20)) (D_law_do : Df P w K mg base 27 "_law_do" ["_law_desk", "_law_edit"] (spCalled C)) :
    FnOkG P w K mg base 28 f fd ["_law_old", "_law_new", "_law_edit"] spER := by
  refine fnG (k := 27) F sc__law_edit_right (fun vs H Q E h => ?_) (fun cdv A outer s H vs Q E gs hr h => ?_)
  · obtain ⟨v, v', q, t, t', e, rfl, _⟩ := h
    rfl
  obtain ⟨v, v', qa, t, t', e, rfl, hv, hv', eq, does, lo, hz, hne, q⟩ := h
  obtain ⟨lo', hz', hne'⟩ := does.good lo hz hne
  have okt := one_fine lo hz
  have okt' := one_fine lo' hz'
  refine ⟨_, (pss_cons (ps_if (pt_cmpR op_eq (pe_ix ix_tup (pv 2) pe_int (fun _ _ => rfl)) pe_str (nomark _))
      (pss_cons (ps_set (i := 3) sc__law_edit_right.nd rfl (.inl rfl) (pe_tup (pa_cons (pe_call Dreplaced.ok (hr.mono (by omega)) rfl Dreplaced.g Dreplaced.kp Dreplaced.b .nil pass0 (pa_cons (pv 0) (pa_cons (pe_ix ix_tup (pv 2) pe_int (fun _ _ => rfl)) (pa_cons (pe_tup (pa_cons pe_non (pa_cons (pe_ix ix_tup (pv 2) pe_int (fun _ _ => rfl)) (pa_cons pe_non pa_nil)))) pa_nil)))) (pa_cons (pe_call Dreplaced.ok (hr.mono (by omega)) rfl Dreplaced.g Dreplaced.kp Dreplaced.b .nil pass0 (pa_cons (pv 1) (pa_cons (pe_ix ix_tup (pv 2) pe_int (fun _ _ => rfl)) (pa_cons pe_non pa_nil)))) pa_nil))))
    (pss_one (ps_ret (pe_callG D_law_equal.ok gs (hr.mono (by omega)) rfl D_law_equal.g D_law_equal.kp D_law_equal.b (pa_cons (pv 3) (pa_cons (pe_tup (pa_cons (pv 1) (pa_cons (pv 0) pa_nil))) pa_nil)))))) pss_nil)
    (pss_cons (ps_if (pt_cmpR op_eq (pe_ix ix_tup (pv 2) pe_int (fun _ _ => rfl)) pe_str (nomark _))
      (pss_one (ps_ret (pe_callG D_law_equal.ok gs (hr.mono (by omega)) rfl D_law_equal.g D_law_equal.kp D_law_equal.b (pa_cons (pe_tup (pa_cons (pe_call Dreplaced.ok (hr.mono (by omega)) rfl Dreplaced.g Dreplaced.kp Dreplaced.b .nil pass0 (pa_cons (pv 0) (pa_cons (pe_ix ix_tup (pv 2) pe_int (fun _ _ => rfl)) (pa_cons pe_non pa_nil)))) (pa_cons (pe_call Dpart_at.ok (hr.mono (by omega)) rfl Dpart_at.g Dpart_at.kp Dpart_at.b .nil pass0 (pa_cons (pv 1) (pa_cons (pe_ix ix_tup (pv 2) pe_int (fun _ _ => rfl)) pa_nil))) pa_nil))) (pa_cons (pe_tup (pa_cons (pv 1) (pa_cons pe_non pa_nil))) pa_nil))))) pss_nil)
    (pss_cons (ps_par (i := 4) (j := 5) (by rfl) sc__law_edit_right.nd rfl rfl (by decide) rfl rfl (pa_cons (pe_call Dpart_at.ok (hr.mono (by omega)) rfl Dpart_at.g Dpart_at.kp Dpart_at.b .nil pass0 (pa_cons (pv 0) (pa_cons (pe_ix ix_tup (pv 2) pe_int (fun _ _ => rfl)) pa_nil))) (pa_cons (pe_call Dpart_at.ok (hr.mono (by omega)) rfl Dpart_at.g Dpart_at.kp Dpart_at.b .nil pass0 (pa_cons (pv 1) (pa_cons (pe_ix ix_tup (pv 2) pe_int (fun _ _ => rfl)) pa_nil))) pa_nil)) (by rfl))
    (pss_cons (ps_if (pt_not (pt_val (pe_callG D_law_equal.ok gs (hr.mono (by omega)) rfl D_law_equal.g D_law_equal.kp D_law_equal.b (pa_cons (pe_call Dreplaced.ok (hr.mono (by omega)) rfl Dreplaced.g Dreplaced.kp Dreplaced.b .nil pass0 (pa_cons (pv 1) (pa_cons (pe_ix ix_tup (pv 2) pe_int (fun _ _ => rfl)) (pa_cons (pv 4) pa_nil)))) (pa_cons (pv 0) pa_nil)))))
      (pss_one (ps_ret pe_bl)) pss_nil)
    (pss_cons (ps_if (pt_cmpR op_eq (pe_ix ix_tup (pv 2) pe_int (fun _ _ => rfl)) pe_str (nomark _))
      (pss_one (ps_ret (pe_callG D_law_equal.ok gs (hr.mono (by omega)) rfl D_law_equal.g D_law_equal.kp D_law_equal.b (pa_cons (pv 5) (pa_cons (pe_tup (pa_cons (pe_ix ix_tup (pv 4) pe_int (fun _ _ => rfl)) (pa_cons (pe_ix ix_tup (pv 2) pe_int (fun _ _ => rfl)) (pa_cons (pe_ix ix_tup (pv 4) pe_int (fun _ _ => rfl)) pa_nil)))) pa_nil))))) pss_nil)
    (pss_cons (ps_set (i := 6) sc__law_edit_right.nd rfl (.inl rfl) (pe_make MK Fi (hr.mono (by omega)) rfl TD.g bi .nil pass0 (pa_cons (pv 1) pa_nil)))
    (pss_one (ps_ret (pe_callG D_law_equal.ok gs (hr.mono (by omega)) rfl D_law_equal.g D_law_equal.kp D_law_equal.b (pa_cons (pe_tup (pa_cons (pe_call Dmirrored.ok (hr.mono (by omega)) rfl Dmirrored.g Dmirrored.kp Dmirrored.b .nil pass0 (pa_cons (pv 4) pa_nil)) (pa_cons (pe_call D_law_do.ok (hr.mono (by omega)) rfl D_law_do.g D_law_do.kp D_law_do.b .nil pass0 (pa_cons (pv 6) (pa_cons (pv 2) pa_nil))) (pa_cons (pe_meth0 (pv 6) TD.cl MT Ft (hr.mono (by omega)) bt vt pass0) pa_nil)))) (pa_cons (pe_tup (pa_cons (pv 5) (pa_cons pe_int (pa_cons (pv 0) pa_nil)))) pa_nil))))))))))), ?_⟩
  cases does with
  | @put p c hp hc hs =>
    have eq : H qa = some (.tup [.str "put", .str (px p), .str (ch c)]) := eq
    have pl := t.at_size p hp
    have pl : 0 + p.length ≤ t.size := pl
    have leafz := t.put_size p (.node .nil c .nil) hp
    have leafz : (t.put p (.node .nil c .nil)).size + 0 = t.size + 1 := leafz
    refine ⟨_, rfl, qa, _, _, _, rfl, rfl, SqT.of eq, atI_nat (j := 0) rfl, rfl, _, rfl, iteS rfl ?_⟩
    refine ⟨_, rfl, _, rfl, qa, _, _, _, rfl, rfl, SqT.of eq, atI_nat (j := 1) rfl, _, rfl, qa, _, _, _, rfl, rfl, SqT.of eq, atI_nat (j := 2) rfl, (by show 3 ≤ sizeLine; decide), fun z nz => ?_⟩
    have k1 := same_new nz (.tup [.non, vc c, .non])
    refine ⟨v, .ref z, t, .node .nil c .nil, .nil, p, rfl, hv.same k1, .node upd_same .nil .nil, hp, hz, by omega, fun v1 H1 s1 b1 => ?_⟩
    have s01 := k1.trans s1
    have eq1 := s01 _ _ eq
    refine ⟨_, rfl, _, rfl, qa, _, _, _, rfl, rfl, SqT.of eq1, atI_nat (j := 1) rfl, ?_⟩
    have e2 : (t.put p (.node .nil c .nil)).put p .nil = t := by rw [t.put_put p _ _ hp, t.put_self p hp]
    refine ⟨v', .non, t.put p (.node .nil c .nil), .nil, .node .nil c .nil, p, rfl, hv'.same s01, .nil, t.at_put p _ hp, hz', by rw [e2]; exact hz, fun v2 H2 s2 b2 => ⟨(by show 2 ≤ sizeLine; decide), fun fp nfp => ?_⟩⟩
    rw [e2] at b2
    have k3 := same_new nfp (.tup [v1, v2])
    have efp := upd_same (H := H2) (a := fp) (o := .tup [v1, v2])
    have b13 := (b1.same s2).same k3
    have b23 := b2.same k3
    have s03 := s01.trans (s2.trans k3)
    generalize upd H2 fp (.tup [v1, v2]) = H3 at k3 efp b13 b23 s03 ⊢
    refine ⟨_, rfl, _, rfl, _, rfl, (by show 2 ≤ sizeLine; decide), fun gp ngp => ?_⟩
    have k4 := same_new ngp (.tup [v', v])
    have tf := two_fine okt' okt
    exact ⟨.ref fp, .ref gp, _, rfl, dp_two (k4 _ _ efp) (b13.same k4).dp (b23.same k4).dp, dp_two upd_same ((hv'.same s03).same k4).dp ((hv.same s03).same k4).dp, tf.1, tf.2.1, tf.2.2, q _ (s03.trans k4)⟩
  | @cut u p hp hu hpn =>
    have eq : H qa = some (.tup [.str "cut", .str (px p)]) := eq
    have pl := t.at_size p hp
    refine ⟨_, rfl, qa, _, _, _, rfl, rfl, SqT.of eq, atI_nat (j := 0) rfl, rfl, _, rfl, iteR w1 ?_⟩
    refine ⟨_, rfl, qa, _, _, _, rfl, rfl, SqT.of eq, atI_nat (j := 0) rfl, rfl, _, rfl, iteS rfl ?_⟩
    refine ⟨_, rfl, _, rfl, qa, _, _, _, rfl, rfl, SqT.of eq, atI_nat (j := 1) rfl, ?_⟩
    refine ⟨v, .non, t, .nil, u, p, rfl, hv, .nil, hp, hz, hz', fun v1 H1 s1 b1 => ?_⟩
    have eq1 := s1 _ _ eq
    refine ⟨_, rfl, _, rfl, qa, _, _, _, rfl, rfl, SqT.of eq1, atI_nat (j := 1) rfl, ?_⟩
    refine ⟨v', t.put p .nil, .nil, p, rfl, hv'.same s1, t.at_put p _ hp, by omega, fun v2 H2 s2 b2 => ⟨(by show 2 ≤ sizeLine; decide), fun fp nfp => ?_⟩⟩
    have ev2 : v2 = .non := by
      rcases b2.inv with ⟨z, _⟩ | ⟨_, _, _, _, _, _, _, z, _⟩
      · exact z
      · cases z
    subst ev2
    have k3 := same_new nfp (.tup [v1, .non])
    have efp := upd_same (H := H2) (a := fp) (o := .tup [v1, .non])
    have b13 := (b1.same s2).same k3
    have s03 := s1.trans (s2.trans k3)
    generalize upd H2 fp (.tup [v1, .non]) = H3 at k3 efp b13 s03 ⊢
    refine ⟨_, rfl, (by show 2 ≤ sizeLine; decide), fun gp ngp => ?_⟩
    have k4 := same_new ngp (.tup [v', .non])
    have tf := two_fine okt' (e := .none) ⟨by simp only [okR], by show 4 ≤ 400; decide, by show 0 ≤ 20; decide⟩
    exact ⟨.ref fp, .ref gp, _, rfl, dp_two (k4 _ _ efp) (b13.same k4).dp .non, dp_two upd_same ((hv'.same s03).same k4).dp .non, tf.1, tf.2.1, tf.2.2, q _ (s03.trans k4)⟩
  | @label l r p y c hp hc =>
    have eq : H qa = some (.tup [.str "label", .str (px p), .str (ch c)]) := eq
    have pl := t.at_size p hp
    refine ⟨_, rfl, qa, _, _, _, rfl, rfl, SqT.of eq, atI_nat (j := 0) rfl, rfl, _, rfl, iteR w2 ?_⟩
    refine ⟨_, rfl, qa, _, _, _, rfl, rfl, SqT.of eq, atI_nat (j := 0) rfl, rfl, _, rfl, iteR w4 ?_⟩
    refine ⟨_, rfl, _, rfl, qa, _, _, _, rfl, rfl, SqT.of eq, atI_nat (j := 1) rfl, ?_⟩
    refine ⟨v, t, .node l y r, p, rfl, hv, hp, by omega, fun v1 H1 s1 b1 => ?_⟩
    refine ⟨_, rfl, _, rfl, qa, _, _, _, rfl, rfl, SqT.of (s1 _ _ eq), atI_nat (j := 1) rfl, ?_⟩
    refine ⟨v', _, .node l c r, p, rfl, hv'.same s1, t.at_put p _ hp, by omega, fun v2 H2 s2 b2 => ⟨_, _, rfl, ?_⟩⟩
    have s02 := s1.trans s2
    have e2 : (t.put p (.node l c r)).put p (.node l y r) = t := by rw [t.put_put p _ _ hp, t.put_self p hp]
    refine ⟨_, rfl, _, rfl, qa, _, _, _, rfl, rfl, SqT.of (s02 _ _ eq), atI_nat (j := 1) rfl, _, rfl, ?_⟩
    refine ⟨v', v1, _, .node l y r, .node l c r, p, rfl, hv'.same s02, b1.same s2, t.at_put p _ hp, hz', by rw [e2]; exact hz, fun v3 H3 s3 b3 => ?_⟩
    rw [e2] at b3
    have s03 := s02.trans s3
    refine ⟨_, rfl, v3, v, t.data, rfl, b3.dp, (hv.same s03).dp, okt.1, by omega, by omega, _, rfl, iteF ?_⟩
    refine ⟨_, rfl, qa, _, _, _, rfl, rfl, SqT.of (s03 _ _ eq), atI_nat (j := 0) rfl, rfl, _, rfl, iteS rfl ?_⟩
    have b13 := (b1.same s2).same s3
    have b23 := b2.same s3
    rcases b13.inv with ⟨_, z⟩ | ⟨a1, l1, r1, x1, tl1, tr1, rfl, z, ea1, bl1, br1⟩
    · cases z
    cases z
    refine ⟨_, rfl, _, rfl, a1, _, _, _, rfl, rfl, SqT.of ea1, atI_nat (j := 0) rfl, _, rfl, qa, _, _, _, rfl, rfl, SqT.of (s03 _ _ eq), atI_nat (j := 2) rfl, _, rfl, a1, _, _, _, rfl, rfl, SqT.of ea1, atI_nat (j := 2) rfl, (by show 3 ≤ sizeLine; decide), fun gp ngp => ?_⟩
    have k4 := same_new ngp (.tup [l1, vc c, r1])
    have lop := t.put p (.node l c r) |>.at_lts p (t.at_put p _ hp) lo'
    have lz := (t.put p (.node l c r)).at_size p (t.at_put p _ hp)
    have of_ := one_fine lop (by omega)
    exact ⟨v2, .ref gp, (B.node l c r).data, rfl, (b23.same k4).dp, BAt.dp (.node upd_same (bl1.same k4) (br1.same k4)), of_.1, by omega, by omega, q _ (s03.trans k4)⟩
  | @turn u p hp hu =>
    have eq : H qa = some (.tup [.str "turn", .str (px p)]) := eq
    have pl := t.at_size p hp
    refine ⟨_, rfl, qa, _, _, _, rfl, rfl, SqT.of eq, atI_nat (j := 0) rfl, rfl, _, rfl, iteR w3 ?_⟩
    refine ⟨_, rfl, qa, _, _, _, rfl, rfl, SqT.of eq, atI_nat (j := 0) rfl, rfl, _, rfl, iteR w5 ?_⟩
    refine ⟨_, rfl, _, rfl, qa, _, _, _, rfl, rfl, SqT.of eq, atI_nat (j := 1) rfl, ?_⟩
    refine ⟨v, t, u, p, rfl, hv, hp, by omega, fun v1 H1 s1 b1 => ?_⟩
    refine ⟨_, rfl, _, rfl, qa, _, _, _, rfl, rfl, SqT.of (s1 _ _ eq), atI_nat (j := 1) rfl, ?_⟩
    have hp' := t.at_put p u.mir hp
    refine ⟨v', _, u.mir, p, rfl, hv'.same s1, hp', by omega, fun v2 H2 s2 b2 => ⟨_, _, rfl, ?_⟩⟩
    have s02 := s1.trans s2
    have e2 : (t.put p u.mir).put p u = t := by rw [t.put_put p _ _ hp, t.put_self p hp]
    refine ⟨_, rfl, _, rfl, qa, _, _, _, rfl, rfl, SqT.of (s02 _ _ eq), atI_nat (j := 1) rfl, _, rfl, ?_⟩
    refine ⟨v', v1, _, u, u.mir, p, rfl, hv'.same s02, b1.same s2, hp', hz', by rw [e2]; exact hz, fun v3 H3 s3 b3 => ?_⟩
    rw [e2] at b3
    have s03 := s02.trans s3
    refine ⟨_, rfl, v3, v, t.data, rfl, b3.dp, (hv.same s03).dp, okt.1, by omega, by omega, _, rfl, iteF ?_⟩
    refine ⟨_, rfl, qa, _, _, _, rfl, rfl, SqT.of (s03 _ _ eq), atI_nat (j := 0) rfl, rfl, _, rfl, iteR w9 ?_⟩
    have b13 := (b1.same s2).same s3
    have b23 := b2.same s3
    have hv3 := hv.same s03
    have hv'3 := hv'.same s03
    have eq3 := s03 _ _ eq
    refine ⟨_, rfl, fun ad dx nad ndx ndd => ?_⟩
    have kA := same_new ndx (.own ad)
    have nad' : (upd H3 dx (.own ad)) ad = none := by rw [upd_ne ndd.symm]; exact nad
    have kB := same_new nad' (.ins C dx [])
    have k4 := kA.trans kB
    refine ⟨ad, dx, v', _, rfl, upd_same, hv'3.same k4, hne', lo', hz', fun H5 b5 dk5 => ⟨rfl, ?_⟩⟩
    have s35 : Same H3 H5 := fun b o e => b5 b o (fun z => by rw [z, nad] at e; cases e) (k4 b o e)
    have hu1 : u.size ≤ t.size := by omega
    refine ⟨_, rfl, v1, u, rfl, b13.same s35, by omega, fun v4 H6 s6 b4 => ?_⟩
    have s36 := s35.trans s6
    have dk6 := dk5.same s6
    have does' : Does (t.put p u.mir) (.turn p) t := by
      have hm : u.mir ≠ .nil := nd_nil.mpr (by rw [u.mir_size]; exact nd_nil.mp hu)
      have := Does.turn hp' hm
      rw [u.mir_mir, e2] at this
      exact this
    refine ⟨_, rfl, _, rfl, ad, qa, [], _, t, [], .turn p, rfl, dk6, s36 _ _ eq3, does', by decide, by decide, lo', hz', hne', fun H7 b7 dk7 => ?_⟩
    obtain ⟨dx7, ta7, td7, vs7, v7, ds7, g7, _⟩ := id dk7
    have nl : ∀ {m : Str} (vt vd vb : V), (m == ("trees" : Str)) = false → (m == ("done" : Str)) = false → (m == ("busy" : Str)) = false → (deskF vt vd vb).lookup m = none := no_look
    refine ⟨_, rfl, ad, dx7, _, rfl, g7, nl _ _ _ (by decide +kernel) (by decide +kernel) (by decide +kernel), ad, [t.put p u.mir], t, [.turn p], false, rfl, dk7, fun v5 hv5 => ⟨(by show 3 ≤ sizeLine; decide), fun fp nfp => ?_⟩⟩
    have kt7 := b7.keepT dk6
    have nadH : H ad = none := by
      cases e : H ad with
      | none => rfl
      | some o => rw [s03 _ _ e] at nad; cases nad
    have sH7 : Same H H7 := fun b o e => b7 _ _ (fun z => by rw [z, nadH] at e; cases e) (s36 _ _ (s03 _ _ e))
    have b47 := b4.keep kt7
    have b27 := (b23.same s36).keep kt7
    have hv7 := hv.same sH7
    have k8 := same_new nfp (.tup [v4, .int ((([] : List Ed).length + 1 : Nat) : Int), v5])
    have e8 := upd_same (H := H7) (a := fp) (o := .tup [v4, .int ((([] : List Ed).length + 1 : Nat) : Int), v5])
    have b48 := b47.same k8
    have b58 := hv5.same k8
    have b28 := b27.same k8
    have hv8 := hv7.same k8
    generalize upd H7 fp (.tup [v4, .int ((([] : List Ed).length + 1 : Nat) : Int), v5]) = H8 at k8 e8 b48 b58 b28 hv8 ⊢
    refine ⟨_, rfl, _, rfl, (by show 3 ≤ sizeLine; decide), fun gp ngp => ?_⟩
    have k9 := same_new ngp (.tup [v2, .int 1, v])
    have lop := (t.put p u.mir).at_lts p hp' lo'
    have lz := (t.put p u.mir).at_size p hp'
    have of_ := one_fine lop (by omega)
    have th : okR (.tuple [u.mir.data, .int 1, t.data]) = true ∧ wtR (.tuple [u.mir.data, .int 1, t.data]) ≤ 1000000 ∧ (PyData.tuple [u.mir.data, .int 1, t.data]).depth ≤ 60 := by
      obtain ⟨h1, h2, h3⟩ := of_
      obtain ⟨g1, g2, g3⟩ := okt
      simp only [ok_t, ok_c, ok_e, wt_t, wt_c, wt_e, dp_t, dp_c, dp_e, dp_i, wt_i]
      rw [h1, g1, show okR (.int 1) = true from ok_i (n := 1) (by decide)]
      exact ⟨rfl, by omega, by omega⟩
    exact ⟨.ref fp, .ref gp, _, rfl, .tup (SqT.of (k9 _ _ e8)) (.cons (b48.same k9).dp (.cons (.int 1) (.cons (b58.same k9).dp .nil))), .tup (SqT.of upd_same) (.cons (b28.same k9).dp (.cons (.int 1) (.cons (hv8.same k9).dp .nil))), th.1, th.2.1, th.2.2, q _ (sH7.trans (k8.trans k9))⟩
end
/-! ### law -/
section
variable {P : Program} {w : World} {K : PySem.W.Frag} {mg : Str → Option Value} {base : Heap} {f : Addr} {fd : FuncData} {C : Addr}
theorem run_law {s : Shared} {H : Hp} {a fi fv ft : Addr} {ns : List Int} {fdi fdv fdt : FuncData} {dv dn : List Value} (F : Fun K "law" "law" s_law f fd) (bd : BindsTo s fd ⟨[.ref a], []⟩ [("_law_script", .ref a)]) (en : Env0 P w K mg base callerA [] s H) (hS : SqL K H a (ns.map V.int))
    (M : Mgs mg) (TD : DeskC K mg C) (D_law_stream : Df P w K mg base 1 "_law_stream" ["_law_script", "_law_turn"] (spStream K)) (D_law_tree : Df P w K mg base 22 "_law_tree" ["_law_stream_here", "_law_top"] spTreeL) (MK : Mk K C fi) (Fi : FnOk P w K mg base CX0 4 fi fdi ["self", "tree"] (spInitD C)) (bi : Binds K fdi ["self", "tree"] [])
    (D_law_equal : DfG P w K mg base 1 "_law_equal" ["_law_one", "_law_other"] (spEqualV K)) (D_law_seen : Df P w K mg base 66 "_law_seen" ["_law_desk"] (spSeenL C)) (D_law_take : Df P w K mg base 1 "_law_take" ["_law_stream_here", "_law_many"] spTake1)
    (Fv : FnOk P w K mg base CX0 23 fv fdv ["_law_stream_here", "_law_tree_here", "_law_top"] spValid) (gv : mg "_law_valid_edit" = some (.ref fv)) (kv : PySem.W.keepIn K (.ref fv) = true) (bv : Binds K fdv ["_law_stream_here", "_law_tree_here", "_law_top"] dv) (vv : Vals [.int 13] dv)
    (D_law_do : Df P w K mg base 27 "_law_do" ["_law_desk", "_law_edit"] (spCalled C)) (MT : Meth K C "tree" ft) (Ft : FnOk P w K mg base CX0 1 ft fdt ["self", "version"] (spTreeM C)) (bt : Binds K fdt ["self", "version"] dn) (vt : Vals [.non] dn)
    (D_law_tree_right : DfG P w K mg base 67 "_law_tree_right" ["_law_desk"] (spTR C)) (D_law_edit_right : DfG P w K mg base 28 "_law_edit_right" ["_law_old", "_law_new", "_law_edit"] spER) :
    codeAny (model P w) callerA (.call (.ref f) ⟨[.ref a], []⟩) (CR CX0 [] P w H s (fun v _ => v = .bl true) fun _ _ _ => False) s := by
  refine enter_def (k := 68) (vs := [.ref a]) (us := [.ref a]) F sc_law ⟨rfl, by decide, by decide⟩ en bd (.cons rfl .nil) rfl fun cdv hr => ?_
  refine ⟨_, (pss_cons (ps_for PassesOwn.never rfl (pi_range1 rfl M.range (pa_cons pe_int pa_nil)) (pg_name (i := 1) sc_law.nd rfl (.inl rfl))
      (pss_cons (ps_set (i := 2) sc_law.nd rfl (.inl rfl) (pe_call D_law_stream.ok (hr.mono (by omega)) rfl D_law_stream.g D_law_stream.kp D_law_stream.b .nil pass0 (pa_cons (pv 0) (pa_cons (pv 1) pa_nil))))
    (pss_cons (ps_set (i := 3) sc_law.nd rfl (.inl rfl) (pe_make MK Fi (hr.mono (by omega)) rfl TD.g bi .nil pass0 (pa_cons (pe_call D_law_tree.ok (hr.mono (by omega)) rfl D_law_tree.g D_law_tree.kp D_law_tree.b .nil pass0 (pa_cons (pv 2) (pa_cons pe_int pa_nil))) pa_nil)))
    (pss_cons (ps_if (pt_not (pt_val (pe_callG D_law_tree_right.ok rfl (hr.mono (by omega)) rfl D_law_tree_right.g D_law_tree_right.kp D_law_tree_right.b (pa_cons (pv 3) pa_nil))))
      (pss_one (ps_ret pe_bl)) pss_nil)
    (pss_one (ps_for PassesOwn.never rfl (pi_range1 rfl M.range (pa_cons (pe_op op_add pe_int (pe_call D_law_take.ok (hr.mono (by omega)) rfl D_law_take.g D_law_take.kp D_law_take.b .nil pass0 (pa_cons (pv 2) (pa_cons pe_int pa_nil)))) pa_nil)) (pg_name (i := 4) sc_law.nd rfl (.inl rfl))
      (pss_cons (ps_par (i := 5) (j := 6) (by rfl) sc_law.nd rfl rfl (by decide) rfl rfl (pa_cons (pe_meth0 (pv 3) TD.cl MT Ft (hr.mono (by omega)) bt vt pass0) (pa_cons (pe_call Fv (hr.mono (by omega)) rfl gv kv bv vv pass0 (pa_cons (pv 2) (pa_cons (pe_meth0 (pv 3) TD.cl MT Ft (hr.mono (by omega)) bt vt pass0) pa_nil))) pa_nil)) (by rfl))
    (pss_cons (ps_par (i := 7) (j := 8) (by rfl) sc_law.nd rfl rfl (by decide) rfl rfl (pa_cons (pe_call D_law_do.ok (hr.mono (by omega)) rfl D_law_do.g D_law_do.kp D_law_do.b .nil pass0 (pa_cons (pv 3) (pa_cons (pv 6) pa_nil))) (pa_cons (pe_call D_law_seen.ok (hr.mono (by omega)) rfl D_law_seen.g D_law_seen.kp D_law_seen.b .nil pass0 (pa_cons (pv 3) pa_nil)) pa_nil)) (by rfl))
    (pss_cons (ps_if (PW.pt (pw_or (pt_cmpR op_ne (pv 7) (pe_op op_add (pv 4) pe_int) (nomark _)) (pw_or1 (pt_not (pt_val (pe_callG D_law_edit_right.ok rfl (hr.mono (by omega)) rfl D_law_edit_right.g D_law_edit_right.kp D_law_edit_right.b (pa_cons (pv 5) (pa_cons (pe_meth0 (pv 3) TD.cl MT Ft (hr.mono (by omega)) bt vt pass0) (pa_cons (pv 6) pa_nil)))))))))
      (pss_one (ps_ret pe_bl)) pss_nil)
    (pss_cons (ps_if (pt_not (pt_val (pe_callG D_law_tree_right.ok rfl (hr.mono (by omega)) rfl D_law_tree_right.g D_law_tree_right.kp D_law_tree_right.b (pa_cons (pv 3) pa_nil))))
      (pss_one (ps_ret pe_bl)) pss_nil)
    (pss_one (ps_if (pt_not (pt_val (pe_callG D_law_equal.ok rfl (hr.mono (by omega)) rfl D_law_equal.g D_law_equal.kp D_law_equal.b (pa_cons (pe_call D_law_seen.ok (hr.mono (by omega)) rfl D_law_seen.g D_law_seen.kp D_law_seen.b .nil pass0 (pa_cons (pv 3) pa_nil)) (pa_cons (pv 8) pa_nil)))))
      (pss_one (ps_ret pe_bl)) pss_nil))))))))))))
    (pss_one (ps_ret pe_bl))), ?_⟩
  have nl : ∀ {m : Str} (vt vd vb : V), (m == ("trees" : Str)) = false → (m == ("done" : Str)) = false → (m == ("busy" : Str)) = false → (deskF vt vd vb).lookup m = none := no_look
  refine ⟨2, rfl, by decide, by decide, ?_⟩
  refine for_range (lo := 0) (n := 2) (fun i σ H' => ∃ y1 y2 y3 y4 y5 y6 y7 y8 : Option V, σ = [some (.ref a), y1, y2, y3, y4, y5, y6, y7, y8] ∧ Same H H') ⟨none, none, none, none, none, none, none, none, rfl, Same.refl _⟩ (fun i σ H1 hi hp => ?_) (fun σ H1 hp => ?_)
  · obtain ⟨y1, y2, y3, y4, y5, y6, y7, y8, rfl, s1⟩ := hp
    refine ⟨_, rfl, _, rfl, a, ns, i, (by rw [Int.zero_add]; rfl), sqL_same s1 hS, by omega, fun sa H2 nsa s2 st2 => ?_⟩
    refine ⟨_, rfl, sa, 0, 12, rfl, st2, by decide, by decide, by decide, fun v t n3 H3 b3 z0 z1 l3 st3 hn3 bu3 => ?_⟩
    refine fun ad dx nad ndx ndd => ?_
    have kA := same_new ndx (.own ad)
    have nad' : (upd H3 dx (.own ad)) ad = none := by rw [upd_ne ndd.symm]; exact nad
    have kB := same_new nad' (.ins C dx [])
    have k4 := kA.trans kB
    have hn0 : t ≠ .nil := nd_nil.mpr z0
    refine ⟨ad, dx, v, t, rfl, upd_same, b3.same k4, hn0, l3, by omega, fun H5 b5 dk5 => ⟨rfl, ?_⟩⟩
    have bu35 : Same H3 H5 := fun b o e => b5 b o (fun z => by rw [z, nad] at e; cases e) (k4 b o e)
    have st5 := st3.same bu35
    have nsH : H sa = none := by
      cases e : H sa with
      | none => rfl
      | some o => rw [s1 _ _ e] at nsa; cases nsa
    have s15 : Same H H5 := fun b o e => bu35 _ _ (bu3 _ _ (fun z => by rw [z, nsH] at e; cases e) (s2 _ _ (s1 _ _ e)))
    have nadH : H ad = none := by
      cases e : H ad with
      | none => rfl
      | some o => rw [bu3 _ _ (fun z => by rw [z, nsH] at e; cases e) (s2 _ _ (s1 _ _ e))] at nad; cases nad
    refine ⟨_, rfl, ad, [], t, [], rfl, dk5, by omega, hn0, l3, fun H6 s6 => ⟨_, rfl, iteF ?_⟩⟩
    have dk6 := dk5.same s6
    have st6 := st5.same s6
    have s16 := s15.trans s6
    refine ⟨_, rfl, sa, n3, 10, rfl, st6, by omega, by decide, by decide, fun nj n9 H9 l9 st9 hn9 bu9 => ?_⟩
    obtain ⟨xs6, es6⟩ := st6.lst
    have dk9 := dk6.apart bu9 es6
    have s19 : Same H H9 := fun b o e => bu9 _ _ (fun z => by rw [z, nsH] at e; cases e) (s16 _ _ e)
    refine ⟨_, _, rfl, rfl, (1 + (nj : Int)), rfl, by omega, by omega, ?_⟩
    have es : (1 + (nj : Int)) = ((1 + nj : Nat) : Int) := by omega
    rw [es]
    refine for_range (lo := 0) (n := 1 + nj) (fun j σ H' => ∃ (t : B) (ts : List B) (es : List Ed) (n' : Nat) (y4 y5 y6 y7 y8 : Option V), σ = [some (.ref a), some (.int (0 + (i : Int))), some (.ref sa), some (.ref ad), y4, y5, y6, y7, y8] ∧
      Dk C H' ad ts t es false ∧ t.lts ∧ 1 ≤ t.size ∧ t.size ≤ 12 ∧ es.length = j ∧ ts.length = j ∧ (∀ e ∈ es, e.fine) ∧ Strm H' sa n' ∧ n' ≤ 1000 + 100 * j ∧ Same H H')
      ⟨t, [], [], n9, _, _, _, _, _, rfl, dk9, l3, z0, z1, rfl, rfl, (fun e h => nomatch h), st9, by omega, s19⟩ (fun j σ Ha hj hp => ?_) (fun σ Ha hp => ?_)
    · obtain ⟨t, ts, es, n', x4, x5, x6, x7, x8, rfl, dk, lt, z0, z1, le, lts, fe, st, hn, sH⟩ := hp
      obtain ⟨dxa, taa, tda, vsa, ua, dsa, g1, _⟩ := id dk
      refine ⟨_, rfl, ad, dxa, _, rfl, g1, nl _ _ _ (by decide +kernel) (by decide +kernel) (by decide +kernel), ad, ts, t, es, false, rfl, dk, fun v hv => ?_⟩
      refine ⟨_, rfl, _, rfl, ad, dxa, _, rfl, g1, nl _ _ _ (by decide +kernel) (by decide +kernel) (by decide +kernel), ad, ts, t, es, false, rfl, dk, fun v2 hv2 => ?_⟩
      refine ⟨sa, n', v2, t, rfl, st, by omega, hv2, z0, z1, fun q e t' nb Hb he hd does stb hnb bub => ⟨_, _, rfl, ?_⟩⟩
      obtain ⟨xs, esa⟩ := st.lst
      have ktb := But.keepL esa bub
      have dkb := dk.apart bub esa
      have bb := hv.keep ktb
      have sHb : Same H Hb := fun b o e => bub _ _ (fun z => by rw [z, nsH] at e; cases e) (sH _ _ e)
      have fe' := fine_of hd z1
      obtain ⟨lt', z1', hn'⟩ := does.good lt z1 (nd_nil.mpr z0)
      have len' : (es ++ [e]).length = es.length + 1 := by rw [List.length_append]; rfl
      have fe2 : ∀ x ∈ es ++ [e], x.fine := fun x hx => by
        rcases List.mem_append.mp hx with hx | hx
        · exact fe x hx
        · rw [List.mem_singleton.mp hx]; exact fe'
      obtain ⟨f1, f2, f3⟩ := seen_fine lt' z1' fe2 (show (es ++ [e]).length ≤ 20 by omega)
      refine ⟨_, rfl, _, rfl, ad, q, ts, t, t', es, e, rfl, dkb, he, does, by omega, by omega, lt, z1, nd_nil.mpr z0, fun Hd bud dkd => ?_⟩
      have ktd := bud.keepT dkb
      have bd := bb.keep ktd
      have hed := ktd _ _ he
      have sHd : Same H Hd := fun b o e => bud _ _ (fun z => by rw [z, nadH] at e; cases e) (sHb _ _ e)
      have std : Strm Hd sa nb := by
        obtain ⟨dx, ta, td, vs, u, ds', h1, _⟩ := dkb
        obtain ⟨r', c, er, cc⟩ := stb
        exact ⟨r', c, bud _ _ (fun z => by rw [z, h1] at er; cases er) er, cc⟩
      refine ⟨_, rfl, ad, ts ++ [t], t', es ++ [e], rfl, dkd, z1', by omega, fun p1 Hi si gi => ⟨_, _, rfl, ?_⟩⟩
      have dki := dkd.same si
      obtain ⟨dxi, tai, tdi, vsi, ui, dsi, g2, _⟩ := id dki
      refine ⟨_, rfl, _, rfl, _, _, rfl, rfl, rfl, _, rfl, iteNS (by congr 1; omega) ?_⟩
      refine ⟨_, rfl, _, rfl, ad, dxi, _, rfl, g2, nl _ _ _ (by decide +kernel) (by decide +kernel) (by decide +kernel), ad, ts ++ [t], t', es ++ [e], false, rfl, dki, fun v3 hv3 => ?_⟩
      refine ⟨_, rfl, v, v3, q, t, t', e, rfl, bd.same si, hv3, si _ _ hed, does, lt, z1, nd_nil.mpr z0, fun Hj sj => ⟨_, rfl, iteF ?_⟩⟩
      have dkj := dki.same sj
      refine ⟨_, rfl, ad, ts ++ [t], t', es ++ [e], rfl, dkj, z1', hn', lt', fun Hk sk => ⟨_, rfl, iteF ?_⟩⟩
      have dkk := dkj.same sk
      refine ⟨_, rfl, ad, ts ++ [t], t', es ++ [e], rfl, dkk, z1', by omega, fun p2 Hl sl gl => ?_⟩
      have sil := sj.trans (sk.trans sl)
      refine ⟨_, rfl, .ref p2, .ref p1, dSeen t' (es ++ [e]), rfl, gl K, dp_same sil _ _ (gi K), f1, by omega, by omega, _, rfl, iteF ?_⟩
      have sdl := si.trans sil
      exact ⟨t', ts ++ [t], es ++ [e], nb, _, _, _, _, _, rfl, dkd.same sdl, lt', nd_nil.mp hn', z1', by omega, by rw [List.length_append, lts]; rfl, fe2, std.same sdl, by omega, sHd.trans sdl⟩
    · obtain ⟨t, ts, es, n', x4, x5, x6, x7, x8, rfl, dk, lt, z0, z1, le, lts, fe, st, hn, sH⟩ := hp
      exact ⟨_, _, _, _, _, _, _, _, rfl, sH⟩
  · obtain ⟨y1, y2, y3, y4, y5, y6, y7, y8, rfl, s1⟩ := hp
    rfl
end
/-! ### how fits binds its keywords -/
theorem kw_f {kV dc pm cd ct : Value} {an : Option Addr} {ks : List Kd} (h : ks ∈ ksF) : KwBind (PySem.W.fnOf "fits" "fits" (defArgs s_fits) (defBody s_fits) (defScope s_fits) .none kV dc pm an cd ct) ["tree"] "rows" (ks.map Kd.str) := by
  rw [List.mem_singleton.mp h]
  refine ⟨fun us ws h1 h2 => ?_, by decide +kernel⟩
  match us, ws, h1, h2 with
  | [u], [w1, w2, w3], _, _ => rfl
theorem len_f {ks : List Kd} (h : ks ∈ ksF) : ks.length ≤ 3 := by
  have : ∀ k ∈ ksF, k.length ≤ 3 := by decide
  exact this ks h
theorem bd_of_law_some_edit {K : PySem.W.Frag} {g : Addr} {fd : FuncData} (FD : FunD K "_law_some_edit" "_law_some_edit" (defArgs s__law_some_edit) (defBody s__law_some_edit) (defScope s__law_some_edit) [.int 13] [] g fd) : ∃ ds, Vals [.int 13] ds ∧ Binds K fd ["_law_stream_here", "_law_tree_here", "_law_top"] ds := FD.binds1 (ps := ["_law_stream_here", "_law_tree_here", "_law_top"]) 2 0 (by simp) rfl (fun T kV doc pm an cdv ct us its h1 h2 => match us, its, h1, h2 with | [_, _], [_], _, _ => ⟨_, rfl, rfl⟩)
theorem b_of_law_some_edit {K : PySem.W.Frag} {g : Addr} {fd : FuncData} (FD : FunD K "_law_some_edit" "_law_some_edit" (defArgs s__law_some_edit) (defBody s__law_some_edit) (defScope s__law_some_edit) [.int 13] [] g fd) : Binds K fd ["_law_stream_here", "_law_tree_here", "_law_top"] [] := by
  obtain ⟨dz, vz, bz⟩ := FD.binds1 (ps := ["_law_stream_here", "_law_tree_here", "_law_top"]) 3 1 (by simp) rfl (fun T kV doc pm an cdv ct us its h1 h2 => match us, its, h1, h2 with | [_, _, _], [_], _, _ => ⟨_, rfl, rfl⟩)
  cases vz
  exact bz
theorem bd_of_law_valid_edit {K : PySem.W.Frag} {g : Addr} {fd : FuncData} (FD : FunD K "_law_valid_edit" "_law_valid_edit" (defArgs s__law_valid_edit) (defBody s__law_valid_edit) (defScope s__law_valid_edit) [.int 13] [] g fd) : ∃ ds, Vals [.int 13] ds ∧ Binds K fd ["_law_stream_here", "_law_tree_here", "_law_top"] ds := FD.binds1 (ps := ["_law_stream_here", "_law_tree_here", "_law_top"]) 2 0 (by simp) rfl (fun T kV doc pm an cdv ct us its h1 h2 => match us, its, h1, h2 with | [_, _], [_], _, _ => ⟨_, rfl, rfl⟩)
theorem b_of_law_valid_edit {K : PySem.W.Frag} {g : Addr} {fd : FuncData} (FD : FunD K "_law_valid_edit" "_law_valid_edit" (defArgs s__law_valid_edit) (defBody s__law_valid_edit) (defScope s__law_valid_edit) [.int 13] [] g fd) : Binds K fd ["_law_stream_here", "_law_tree_here", "_law_top"] [] := by
  obtain ⟨dz, vz, bz⟩ := FD.binds1 (ps := ["_law_stream_here", "_law_tree_here", "_law_top"]) 3 1 (by simp) rfl (fun T kV doc pm an cdv ct us its h1 h2 => match us, its, h1, h2 with | [_, _, _], [_], _, _ => ⟨_, rfl, rfl⟩)
  cases vz
  exact bz
/-! ### what the top has left -/
theorem all_mk {l : PySem.W.OpenLaw} {w : World} {K : PySem.W.Frag} {h : Heap} {mg : Str → Option Value} {fa f1 f2 f3 f4 f5 f6 f7 f8 f9 f10 f11 f12 f13 f14 f15 f16 f17 f18 f19 f20 f21 f22 f23 f24 f25 f26 f27 f28 f29 f30 f31 f32 f33 f34 f35 f36 f37 f38 f39 f40 f41 f42 f43 f44 f45 f46  : Addr} (X : K.In h) (G : h.Ns mainGlobals mg) (hfa : mg "law" = some (.ref fa))
    {od1 an1 od2 an2 od3 an3 od4 an4 od5 an5 od6 an6 od7 an7 od8 an8 od9 an9 od10 an10 od11 an11 od12 an12 od13 an13 od14 an14 od15 an15 od16 an16 od17 an17 od18 an18 od19 an19 od20 an20 od21 an21 od22 an22 od23 an23 od24 an24 od25 an25 od26 an26 od27 an27 od28 an28 od29 an29 od30 an30 od31 an31 od32 an32 od33 an33 od34 an34 od35 an35 od36 an36 od37 an37 od38 an38 od39 an39 od40 an40 od41 an41 od42 an42 od43 an43 od44 an44 od45 an45 od46 an46 : Option Addr} {sl1 sl2 sl3 sl4 sl5 sl6 sl7 sl8 sl9 sl10 sl11 sl12 sl13 sl14 sl15 sl16 sl17 sl18 sl19 sl20 sl21 sl22 sl23 sl24 sl25 sl26 sl27 sl28 sl29 sl30 sl31 sl32 sl33 sl34 sl35 sl36 sl37 sl38 sl39 sl40 sl41 sl42 sl43 sl44 sl45 sl46 : Array (Option Value)}
    {oc1 kV1 dc1 pm1 cd1 ct1 oc2 kV2 dc2 pm2 cd2 ct2 oc3 kV3 dc3 pm3 cd3 ct3 oc4 kV4 dc4 pm4 cd4 ct4 oc5 kV5 dc5 pm5 cd5 ct5 oc6 kV6 dc6 pm6 cd6 ct6 oc7 kV7 dc7 pm7 cd7 ct7 oc8 kV8 dc8 pm8 cd8 ct8 oc9 kV9 dc9 pm9 cd9 ct9 oc10 kV10 dc10 pm10 cd10 ct10 oc11 kV11 dc11 pm11 cd11 ct11 oc12 kV12 dc12 pm12 cd12 ct12 oc13 kV13 dc13 pm13 cd13 ct13 oc14 kV14 dc14 pm14 cd14 ct14 oc15 kV15 dc15 pm15 cd15 ct15 oc16 kV16 dc16 pm16 cd16 ct16 oc17 kV17 dc17 pm17 cd17 ct17 oc18 kV18 dc18 pm18 cd18 ct18 oc19 kV19 dc19 pm19 cd19 ct19 oc20 kV20 dc20 pm20 cd20 ct20 oc21 kV21 dc21 pm21 cd21 ct21 oc22 kV22 dc22 pm22 cd22 ct22 oc23 kV23 dc23 pm23 cd23 ct23 oc24 kV24 dc24 pm24 cd24 ct24 oc25 kV25 dc25 pm25 cd25 ct25 oc26 kV26 dc26 pm26 cd26 ct26 oc27 kV27 dc27 pm27 cd27 ct27 oc28 kV28 dc28 pm28 cd28 ct28 oc29 kV29 dc29 pm29 cd29 ct29 oc30 kV30 dc30 pm30 cd30 ct30 oc31 kV31 dc31 pm31 cd31 ct31 oc32 kV32 dc32 pm32 cd32 ct32 oc33 kV33 dc33 pm33 cd33 ct33 oc34 kV34 dc34 pm34 cd34 ct34 oc35 kV35 dc35 pm35 cd35 ct35 oc36 kV36 dc36 pm36 cd36 ct36 oc37 kV37 dc37 pm37 cd37 ct37 oc38 kV38 dc38 pm38 cd38 ct38 oc39 kV39 dc39 pm39 cd39 ct39 oc40 kV40 dc40 pm40 cd40 ct40 oc41 kV41 dc41 pm41 cd41 ct41 oc42 kV42 dc42 pm42 cd42 ct42 oc43 kV43 dc43 pm43 cd43 ct43 oc44 kV44 dc44 pm44 cd44 ct44 oc45 kV45 dc45 pm45 cd45 ct45 oc46 kV46 dc46 pm46 cd46 ct46 : Value} {t1 : Tok}
     {CD : Addr} {tME : Tok} {aA : Addr} {esA : Array DictEntry} {nA : Nat} {aK : Addr} {oK : Option Addr} {tK1 tK2 tK3 tK4 : Tok} {nK : Nat} {sK : Array (Option Value)} {g_init : Addr} {oc_init kw_init dc_init pm_init cd_init ct_init : Value} {od_init an_init : Option Addr} {sl_init : Array (Option Value)} {g_check_free : Addr} {oc_check_free kw_check_free dc_check_free pm_check_free cd_check_free ct_check_free : Value} {od_check_free an_check_free : Option Addr} {sl_check_free : Array (Option Value)} {g_check_tree : Addr} {oc_check_tree kw_check_tree dc_check_tree pm_check_tree cd_check_tree ct_check_tree : Value} {od_check_tree an_check_tree : Option Addr} {sl_check_tree : Array (Option Value)} {g_told : Addr} {oc_told kw_told dc_told pm_told cd_told ct_told : Value} {od_told an_told : Option Addr} {sl_told : Array (Option Value)} {g_take : Addr} {oc_take kw_take dc_take pm_take cd_take ct_take : Value} {od_take an_take : Option Addr} {sl_take : Array (Option Value)} {g_called : Addr} {oc_called kw_called dc_called pm_called cd_called ct_called : Value} {od_called an_called : Option Addr} {sl_called : Array (Option Value)} {g_put : Addr} {oc_put kw_put dc_put pm_put cd_put ct_put : Value} {od_put an_put : Option Addr} {sl_put : Array (Option Value)} {g_cut : Addr} {oc_cut kw_cut dc_cut pm_cut cd_cut ct_cut : Value} {od_cut an_cut : Option Addr} {sl_cut : Array (Option Value)} {g_label : Addr} {oc_label kw_label dc_label pm_label cd_label ct_label : Value} {od_label an_label : Option Addr} {sl_label : Array (Option Value)} {g_turn : Addr} {oc_turn kw_turn dc_turn pm_turn cd_turn ct_turn : Value} {od_turn an_turn : Option Addr} {sl_turn : Array (Option Value)} {g_edits : Addr} {oc_edits kw_edits dc_edits pm_edits cd_edits ct_edits : Value} {od_edits an_edits : Option Addr} {sl_edits : Array (Option Value)} {g_len : Addr} {oc_len kw_len dc_len pm_len cd_len ct_len : Value} {od_len an_len : Option Addr} {sl_len : Array (Option Value)} {g_str : Addr} {oc_str kw_str dc_str pm_str cd_str ct_str : Value} {od_str an_str : Option Addr} {sl_str : Array (Option Value)} {g_tree : Addr} {oc_tree  dc_tree pm_tree cd_tree ct_tree : Value} {od_tree an_tree : Option Addr} {sl_tree : Array (Option Value)} {DK_tree : Addr} {g_version : Addr} {oc_version kw_version dc_version pm_version cd_version ct_version : Value} {od_version an_version : Option Addr} {sl_version : Array (Option Value)} {p_version : Addr} {rs_version : List Value} {g_size : Addr} {oc_size kw_size dc_size pm_size cd_size ct_size : Value} {od_size an_size : Option Addr} {sl_size : Array (Option Value)} {p_size : Addr} {rs_size : List Value} {g_first : Addr} {oc_first kw_first dc_first pm_first cd_first ct_first : Value} {od_first an_first : Option Addr} {sl_first : Array (Option Value)} {p_first : Addr} {rs_first : List Value} {g_between : Addr} {oc_between kw_between dc_between pm_between cd_between ct_between : Value} {od_between an_between : Option Addr} {sl_between : Array (Option Value)} {p_between : Addr} {rs_between : List Value} {g_last : Addr} {oc_last kw_last dc_last pm_last cd_last ct_last : Value} {od_last an_last : Option Addr} {sl_last : Array (Option Value)} {p_last : Addr} {rs_last : List Value} {g_law_some_edit T_law_some_edit : Addr} {oc_law_some_edit kw_law_some_edit dc_law_some_edit pm_law_some_edit cd_law_some_edit ct_law_some_edit : Value} {od_law_some_edit an_law_some_edit : Option Addr} {sl_law_some_edit : Array (Option Value)} {to_law_some_edit : Option Addr} {tn_law_some_edit : Nat} {ts_law_some_edit : Array (Option Value)} {tt_law_some_edit : Tok} {g_law_valid_edit T_law_valid_edit : Addr} {oc_law_valid_edit kw_law_valid_edit dc_law_valid_edit pm_law_valid_edit cd_law_valid_edit ct_law_valid_edit : Value} {od_law_valid_edit an_law_valid_edit : Option Addr} {sl_law_valid_edit : Array (Option Value)} {to_law_valid_edit : Option Addr} {tn_law_valid_edit : Nat} {ts_law_valid_edit : Array (Option Value)} {tt_law_valid_edit : Tok} {aR : Addr} {oR : Option Addr} {tR1 tR2 tR3 : Tok} {nR : Nat} {sR : Array (Option Value)}
    (aDK : PySem.W.nsIn K mainGlobals "Desk" = some (some (.ref CD)))
    (pg : PySem.W.plainGet K CD Str.empty = true)
    (hd : PySem.W.hasDictIn K CD = true)
    (po : PySem.W.plainOver K CD = true)
    (sa : PySem.W.findIn K (.ref CD) "__setattr__" = some (some (.builtin "object.__setattr__")))
    (mk : PySem.W.makesIn K CD = true)
    (kc : PySem.W.keepIn K (.ref CD) = true)
    (nT : PySem.W.findIn K (.ref CD) "trees" = some none)
    (nD : PySem.W.findIn K (.ref CD) "done" = some none)
    (nB : PySem.W.findIn K (.ref CD) "busy" = some none)
    (moA : PySem.W.findIn K (.ref CD) "MOST_EDITS" = some (some (.int 60 tME)))
    (moG : PySem.W.specialIn K (.int 60 tME) "__get__" = some none)
    (aAn : PySem.W.nsIn K mainGlobals "ACTIONS" = some (some (.ref aA)))
    (aAl : K.lookup aA = some ⟨.type "dict", none, .dict esA nA, #[]⟩)
    (aAk : PySem.W.KeysLit w.params esA.toList)
    (aA_put : PySem.W.nsIn K aA "put" = some (some (.ref f11)))
    (aA_cut : PySem.W.nsIn K aA "cut" = some (some (.ref f12)))
    (aA_label : PySem.W.nsIn K aA "label" = some (some (.ref f13)))
    (aA_turn : PySem.W.nsIn K aA "turn" = some (some (.ref f14)))
    (aKn : PySem.W.nsIn K mainGlobals "KINDS" = some (some (.ref aK)))
    (aKl : K.lookup aK = some ⟨.type "tuple", oK, .seq #[.str "first" tK1, .str "between" tK2, .str "last" tK3, .str "level" tK4] nK, sK⟩)
    (at_init : PySem.W.findIn K (.ref CD) "__init__" = some (some (.ref g_init)))
    (fn_init : PySem.W.isFn K (.ref g_init) = true)
    (kp_init : PySem.W.keepIn K (.ref g_init) = true)
    (lk_init : K.lookup g_init = some ⟨oc_init, od_init, .func (PySem.W.fnOf "__init__" "Desk.__init__" (defArgs s_Desk___init__) (defBody s_Desk___init__) (defScope s_Desk___init__) .none kw_init dc_init pm_init an_init cd_init ct_init), sl_init⟩)
    (cd_f_init : PySem.W.codeIn K cd_init "Desk.__init__" = true)
    (at_check_free : PySem.W.findIn K (.ref CD) "check_free" = some (some (.ref g_check_free)))
    (fn_check_free : PySem.W.isFn K (.ref g_check_free) = true)
    (kp_check_free : PySem.W.keepIn K (.ref g_check_free) = true)
    (lk_check_free : K.lookup g_check_free = some ⟨oc_check_free, od_check_free, .func (PySem.W.fnOf "check_free" "Desk.check_free" (defArgs s_Desk_check_free) (defBody s_Desk_check_free) (defScope s_Desk_check_free) .none kw_check_free dc_check_free pm_check_free an_check_free cd_check_free ct_check_free), sl_check_free⟩)
    (cd_f_check_free : PySem.W.codeIn K cd_check_free "Desk.check_free" = true)
    (at_check_tree : PySem.W.findIn K (.ref CD) "check_tree" = some (some (.ref g_check_tree)))
    (fn_check_tree : PySem.W.isFn K (.ref g_check_tree) = true)
    (kp_check_tree : PySem.W.keepIn K (.ref g_check_tree) = true)
    (lk_check_tree : K.lookup g_check_tree = some ⟨oc_check_tree, od_check_tree, .func (PySem.W.fnOf "check_tree" "Desk.check_tree" (defArgs s_Desk_check_tree) (defBody s_Desk_check_tree) (defScope s_Desk_check_tree) .none kw_check_tree dc_check_tree pm_check_tree an_check_tree cd_check_tree ct_check_tree), sl_check_tree⟩)
    (cd_f_check_tree : PySem.W.codeIn K cd_check_tree "Desk.check_tree" = true)
    (at_told : PySem.W.findIn K (.ref CD) "told" = some (some (.ref g_told)))
    (fn_told : PySem.W.isFn K (.ref g_told) = true)
    (kp_told : PySem.W.keepIn K (.ref g_told) = true)
    (lk_told : K.lookup g_told = some ⟨oc_told, od_told, .func (PySem.W.fnOf "told" "Desk.told" (defArgs s_Desk_told) (defBody s_Desk_told) (defScope s_Desk_told) .none kw_told dc_told pm_told an_told cd_told ct_told), sl_told⟩)
    (cd_f_told : PySem.W.codeIn K cd_told "Desk.told" = true)
    (at_take : PySem.W.findIn K (.ref CD) "take" = some (some (.ref g_take)))
    (fn_take : PySem.W.isFn K (.ref g_take) = true)
    (kp_take : PySem.W.keepIn K (.ref g_take) = true)
    (lk_take : K.lookup g_take = some ⟨oc_take, od_take, .func (PySem.W.fnOf "take" "Desk.take" (defArgs s_Desk_take) (defBody s_Desk_take) (defScope s_Desk_take) .none kw_take dc_take pm_take an_take cd_take ct_take), sl_take⟩)
    (cd_f_take : PySem.W.codeIn K cd_take "Desk.take" = true)
    (at_called : PySem.W.findIn K (.ref CD) "called" = some (some (.ref g_called)))
    (fn_called : PySem.W.isFn K (.ref g_called) = true)
    (kp_called : PySem.W.keepIn K (.ref g_called) = true)
    (lk_called : K.lookup g_called = some ⟨oc_called, od_called, .func (PySem.W.fnOf "called" "Desk.called" (defArgs s_Desk_called) (defBody s_Desk_called) (defScope s_Desk_called) .none kw_called dc_called pm_called an_called cd_called ct_called), sl_called⟩)
    (cd_f_called : PySem.W.codeIn K cd_called "Desk.called" = true)
    (at_put : PySem.W.findIn K (.ref CD) "put" = some (some (.ref g_put)))
    (fn_put : PySem.W.isFn K (.ref g_put) = true)
    (kp_put : PySem.W.keepIn K (.ref g_put) = true)
    (lk_put : K.lookup g_put = some ⟨oc_put, od_put, .func (PySem.W.fnOf "put" "Desk.put" (defArgs s_Desk_put) (defBody s_Desk_put) (defScope s_Desk_put) .none kw_put dc_put pm_put an_put cd_put ct_put), sl_put⟩)
    (cd_f_put : PySem.W.codeIn K cd_put "Desk.put" = true)
    (at_cut : PySem.W.findIn K (.ref CD) "cut" = some (some (.ref g_cut)))
    (fn_cut : PySem.W.isFn K (.ref g_cut) = true)
    (kp_cut : PySem.W.keepIn K (.ref g_cut) = true)
    (lk_cut : K.lookup g_cut = some ⟨oc_cut, od_cut, .func (PySem.W.fnOf "cut" "Desk.cut" (defArgs s_Desk_cut) (defBody s_Desk_cut) (defScope s_Desk_cut) .none kw_cut dc_cut pm_cut an_cut cd_cut ct_cut), sl_cut⟩)
    (cd_f_cut : PySem.W.codeIn K cd_cut "Desk.cut" = true)
    (at_label : PySem.W.findIn K (.ref CD) "label" = some (some (.ref g_label)))
    (fn_label : PySem.W.isFn K (.ref g_label) = true)
    (kp_label : PySem.W.keepIn K (.ref g_label) = true)
    (lk_label : K.lookup g_label = some ⟨oc_label, od_label, .func (PySem.W.fnOf "label" "Desk.label" (defArgs s_Desk_label) (defBody s_Desk_label) (defScope s_Desk_label) .none kw_label dc_label pm_label an_label cd_label ct_label), sl_label⟩)
    (cd_f_label : PySem.W.codeIn K cd_label "Desk.label" = true)
    (at_turn : PySem.W.findIn K (.ref CD) "turn" = some (some (.ref g_turn)))
    (fn_turn : PySem.W.isFn K (.ref g_turn) = true)
    (kp_turn : PySem.W.keepIn K (.ref g_turn) = true)
    (lk_turn : K.lookup g_turn = some ⟨oc_turn, od_turn, .func (PySem.W.fnOf "turn" "Desk.turn" (defArgs s_Desk_turn) (defBody s_Desk_turn) (defScope s_Desk_turn) .none kw_turn dc_turn pm_turn an_turn cd_turn ct_turn), sl_turn⟩)
    (cd_f_turn : PySem.W.codeIn K cd_turn "Desk.turn" = true)
    (at_edits : PySem.W.findIn K (.ref CD) "edits" = some (some (.ref g_edits)))
    (fn_edits : PySem.W.isFn K (.ref g_edits) = true)
    (kp_edits : PySem.W.keepIn K (.ref g_edits) = true)
    (lk_edits : K.lookup g_edits = some ⟨oc_edits, od_edits, .func (PySem.W.fnOf "edits" "Desk.edits" (defArgs s_Desk_edits) (defBody s_Desk_edits) (defScope s_Desk_edits) .none kw_edits dc_edits pm_edits an_edits cd_edits ct_edits), sl_edits⟩)
    (cd_f_edits : PySem.W.codeIn K cd_edits "Desk.edits" = true)
    (at_len : PySem.W.findIn K (.ref CD) "__len__" = some (some (.ref g_len)))
    (fn_len : PySem.W.isFn K (.ref g_len) = true)
    (kp_len : PySem.W.keepIn K (.ref g_len) = true)
    (lk_len : K.lookup g_len = some ⟨oc_len, od_len, .func (PySem.W.fnOf "__len__" "Desk.__len__" (defArgs s_Desk___len__) (defBody s_Desk___len__) (defScope s_Desk___len__) .none kw_len dc_len pm_len an_len cd_len ct_len), sl_len⟩)
    (cd_f_len : PySem.W.codeIn K cd_len "Desk.__len__" = true)
    (at_str : PySem.W.findIn K (.ref CD) "__str__" = some (some (.ref g_str)))
    (fn_str : PySem.W.isFn K (.ref g_str) = true)
    (kp_str : PySem.W.keepIn K (.ref g_str) = true)
    (lk_str : K.lookup g_str = some ⟨oc_str, od_str, .func (PySem.W.fnOf "__str__" "Desk.__str__" (defArgs s_Desk___str__) (defBody s_Desk___str__) (defScope s_Desk___str__) .none kw_str dc_str pm_str an_str cd_str ct_str), sl_str⟩)
    (cd_f_str : PySem.W.codeIn K cd_str "Desk.__str__" = true)
    (at_tree : PySem.W.findIn K (.ref CD) "tree" = some (some (.ref g_tree)))
    (fn_tree : PySem.W.isFn K (.ref g_tree) = true)
    (kp_tree : PySem.W.keepIn K (.ref g_tree) = true)
    (lk_tree : K.lookup g_tree = some ⟨oc_tree, od_tree, .func (PySem.W.fnOf "tree" "Desk.tree" (defArgs s_Desk_tree) (defBody s_Desk_tree) (defScope s_Desk_tree) .none (.ref DK_tree) dc_tree pm_tree an_tree cd_tree ct_tree), sl_tree⟩)
    (cd_f_tree : PySem.W.codeIn K cd_tree "Desk.tree" = true)
    (ns_tree_version : PySem.W.nsIn K DK_tree "version" = some (some .none))
    (at_version : PySem.W.findIn K (.ref CD) "version" = some (some (.ref p_version)))
    (gt_version : PySem.W.specialIn K (.ref p_version) "__get__" = some (some (.builtin "property.__get__")))
    (tk_version : PySem.W.takesIn K (.ref p_version) = some true)
    (rc_version : PySem.W.recIn K p_version "property" = some (.ref g_version :: rs_version))
    (kp_version : PySem.W.keepIn K (.ref g_version) = true)
    (lk_version : K.lookup g_version = some ⟨oc_version, od_version, .func (PySem.W.fnOf "version" "Desk.version" (defArgs s_Desk_version) (defBody s_Desk_version) (defScope s_Desk_version) .none kw_version dc_version pm_version an_version cd_version ct_version), sl_version⟩)
    (cd_f_version : PySem.W.codeIn K cd_version "Desk.version" = true)
    (at_size : PySem.W.findIn K (.ref CD) "size" = some (some (.ref p_size)))
    (gt_size : PySem.W.specialIn K (.ref p_size) "__get__" = some (some (.builtin "property.__get__")))
    (tk_size : PySem.W.takesIn K (.ref p_size) = some true)
    (rc_size : PySem.W.recIn K p_size "property" = some (.ref g_size :: rs_size))
    (kp_size : PySem.W.keepIn K (.ref g_size) = true)
    (lk_size : K.lookup g_size = some ⟨oc_size, od_size, .func (PySem.W.fnOf "size" "Desk.size" (defArgs s_Desk_size) (defBody s_Desk_size) (defScope s_Desk_size) .none kw_size dc_size pm_size an_size cd_size ct_size), sl_size⟩)
    (cd_f_size : PySem.W.codeIn K cd_size "Desk.size" = true)
    (at_first : PySem.W.findIn K (.ref CD) "first" = some (some (.ref p_first)))
    (gt_first : PySem.W.specialIn K (.ref p_first) "__get__" = some (some (.builtin "property.__get__")))
    (tk_first : PySem.W.takesIn K (.ref p_first) = some true)
    (rc_first : PySem.W.recIn K p_first "property" = some (.ref g_first :: rs_first))
    (kp_first : PySem.W.keepIn K (.ref g_first) = true)
    (lk_first : K.lookup g_first = some ⟨oc_first, od_first, .func (PySem.W.fnOf "first" "Desk.first" (defArgs s_Desk_first) (defBody s_Desk_first) (defScope s_Desk_first) .none kw_first dc_first pm_first an_first cd_first ct_first), sl_first⟩)
    (cd_f_first : PySem.W.codeIn K cd_first "Desk.first" = true)
    (at_between : PySem.W.findIn K (.ref CD) "between" = some (some (.ref p_between)))
    (gt_between : PySem.W.specialIn K (.ref p_between) "__get__" = some (some (.builtin "property.__get__")))
    (tk_between : PySem.W.takesIn K (.ref p_between) = some true)
    (rc_between : PySem.W.recIn K p_between "property" = some (.ref g_between :: rs_between))
    (kp_between : PySem.W.keepIn K (.ref g_between) = true)
    (lk_between : K.lookup g_between = some ⟨oc_between, od_between, .func (PySem.W.fnOf "between" "Desk.between" (defArgs s_Desk_between) (defBody s_Desk_between) (defScope s_Desk_between) .none kw_between dc_between pm_between an_between cd_between ct_between), sl_between⟩)
    (cd_f_between : PySem.W.codeIn K cd_between "Desk.between" = true)
    (at_last : PySem.W.findIn K (.ref CD) "last" = some (some (.ref p_last)))
    (gt_last : PySem.W.specialIn K (.ref p_last) "__get__" = some (some (.builtin "property.__get__")))
    (tk_last : PySem.W.takesIn K (.ref p_last) = some true)
    (rc_last : PySem.W.recIn K p_last "property" = some (.ref g_last :: rs_last))
    (kp_last : PySem.W.keepIn K (.ref g_last) = true)
    (lk_last : K.lookup g_last = some ⟨oc_last, od_last, .func (PySem.W.fnOf "last" "Desk.last" (defArgs s_Desk_last) (defBody s_Desk_last) (defScope s_Desk_last) .none kw_last dc_last pm_last an_last cd_last ct_last), sl_last⟩)
    (cd_f_last : PySem.W.codeIn K cd_last "Desk.last" = true)
    (a_law_some_edit : PySem.W.nsIn K mainGlobals "_law_some_edit" = some (some (.ref g_law_some_edit)))
    (kp_law_some_edit : PySem.W.keepIn K (.ref g_law_some_edit) = true)
    (lk_law_some_edit : K.lookup g_law_some_edit = some ⟨oc_law_some_edit, od_law_some_edit, .func (PySem.W.fnOf "_law_some_edit" "_law_some_edit" (defArgs s__law_some_edit) (defBody s__law_some_edit) (defScope s__law_some_edit) (.ref T_law_some_edit) kw_law_some_edit dc_law_some_edit pm_law_some_edit an_law_some_edit cd_law_some_edit ct_law_some_edit), sl_law_some_edit⟩)
    (cd_f_law_some_edit : PySem.W.codeIn K cd_law_some_edit "_law_some_edit" = true)
    (tl_law_some_edit : K.lookup T_law_some_edit = some ⟨.type "tuple", to_law_some_edit, .seq #[.int 13 tt_law_some_edit] tn_law_some_edit, ts_law_some_edit⟩)
    (a_law_valid_edit : PySem.W.nsIn K mainGlobals "_law_valid_edit" = some (some (.ref g_law_valid_edit)))
    (kp_law_valid_edit : PySem.W.keepIn K (.ref g_law_valid_edit) = true)
    (lk_law_valid_edit : K.lookup g_law_valid_edit = some ⟨oc_law_valid_edit, od_law_valid_edit, .func (PySem.W.fnOf "_law_valid_edit" "_law_valid_edit" (defArgs s__law_valid_edit) (defBody s__law_valid_edit) (defScope s__law_valid_edit) (.ref T_law_valid_edit) kw_law_valid_edit dc_law_valid_edit pm_law_valid_edit an_law_valid_edit cd_law_valid_edit ct_law_valid_edit), sl_law_valid_edit⟩)
    (cd_f_law_valid_edit : PySem.W.codeIn K cd_law_valid_edit "_law_valid_edit" = true)
    (tl_law_valid_edit : K.lookup T_law_valid_edit = some ⟨.type "tuple", to_law_valid_edit, .seq #[.int 13 tt_law_valid_edit] tn_law_valid_edit, ts_law_valid_edit⟩)
    (aRn : PySem.W.nsIn K mainGlobals "ROW_KINDS" = some (some (.ref aR)))
    (aRl : K.lookup aR = some ⟨.type "tuple", oR, .seq #[.str "first" tR1, .str "between" tR2, .str "last" tR3] nR, sR⟩)
    (a1 : PySem.W.nsIn K mainGlobals "is_letter" = some (some (.ref f1)))
    (l1 : K.lookup f1 = some ⟨oc1, od1, .func (PySem.W.fnOf "is_letter" "is_letter" (defArgs s_is_letter) (defBody s_is_letter) (defScope s_is_letter) .none kV1 dc1 pm1 an1 cd1 ct1), sl1⟩)
    (c1 : PySem.W.codeIn K cd1 "is_letter" = true)
    (k1 : PySem.W.keepIn K (.ref f1) = true)
    (a2 : PySem.W.nsIn K mainGlobals "is_node" = some (some (.ref f2)))
    (l2 : K.lookup f2 = some ⟨oc2, od2, .func (PySem.W.fnOf "is_node" "is_node" (defArgs s_is_node) (defBody s_is_node) (defScope s_is_node) .none kV2 dc2 pm2 an2 cd2 ct2), sl2⟩)
    (c2 : PySem.W.codeIn K cd2 "is_node" = true)
    (k2 : PySem.W.keepIn K (.ref f2) = true)
    (a3 : PySem.W.nsIn K mainGlobals "is_tree" = some (some (.ref f3)))
    (l3 : K.lookup f3 = some ⟨oc3, od3, .func (PySem.W.fnOf "is_tree" "is_tree" (defArgs s_is_tree) (defBody s_is_tree) (defScope s_is_tree) .none kV3 dc3 pm3 an3 cd3 ct3), sl3⟩)
    (c3 : PySem.W.codeIn K cd3 "is_tree" = true)
    (k3 : PySem.W.keepIn K (.ref f3) = true)
    (a4 : PySem.W.nsIn K mainGlobals "size_of" = some (some (.ref f4)))
    (l4 : K.lookup f4 = some ⟨oc4, od4, .func (PySem.W.fnOf "size_of" "size_of" (defArgs s_size_of) (defBody s_size_of) (defScope s_size_of) .none kV4 dc4 pm4 an4 cd4 ct4), sl4⟩)
    (c4 : PySem.W.codeIn K cd4 "size_of" = true)
    (k4 : PySem.W.keepIn K (.ref f4) = true)
    (a5 : PySem.W.nsIn K mainGlobals "part_at" = some (some (.ref f5)))
    (l5 : K.lookup f5 = some ⟨oc5, od5, .func (PySem.W.fnOf "part_at" "part_at" (defArgs s_part_at) (defBody s_part_at) (defScope s_part_at) .none kV5 dc5 pm5 an5 cd5 ct5), sl5⟩)
    (c5 : PySem.W.codeIn K cd5 "part_at" = true)
    (k5 : PySem.W.keepIn K (.ref f5) = true)
    (a6 : PySem.W.nsIn K mainGlobals "is_open" = some (some (.ref f6)))
    (l6 : K.lookup f6 = some ⟨oc6, od6, .func (PySem.W.fnOf "is_open" "is_open" (defArgs s_is_open) (defBody s_is_open) (defScope s_is_open) .none kV6 dc6 pm6 an6 cd6 ct6), sl6⟩)
    (c6 : PySem.W.codeIn K cd6 "is_open" = true)
    (k6 : PySem.W.keepIn K (.ref f6) = true)
    (a7 : PySem.W.nsIn K mainGlobals "replaced" = some (some (.ref f7)))
    (l7 : K.lookup f7 = some ⟨oc7, od7, .func (PySem.W.fnOf "replaced" "replaced" (defArgs s_replaced) (defBody s_replaced) (defScope s_replaced) .none kV7 dc7 pm7 an7 cd7 ct7), sl7⟩)
    (c7 : PySem.W.codeIn K cd7 "replaced" = true)
    (k7 : PySem.W.keepIn K (.ref f7) = true)
    (a8 : PySem.W.nsIn K mainGlobals "with_part" = some (some (.ref f8)))
    (l8 : K.lookup f8 = some ⟨oc8, od8, .func (PySem.W.fnOf "with_part" "with_part" (defArgs s_with_part) (defBody s_with_part) (defScope s_with_part) .none kV8 dc8 pm8 an8 cd8 ct8), sl8⟩)
    (c8 : PySem.W.codeIn K cd8 "with_part" = true)
    (k8 : PySem.W.keepIn K (.ref f8) = true)
    (a9 : PySem.W.nsIn K mainGlobals "mirrored" = some (some (.ref f9)))
    (l9 : K.lookup f9 = some ⟨oc9, od9, .func (PySem.W.fnOf "mirrored" "mirrored" (defArgs s_mirrored) (defBody s_mirrored) (defScope s_mirrored) .none kV9 dc9 pm9 an9 cd9 ct9), sl9⟩)
    (c9 : PySem.W.codeIn K cd9 "mirrored" = true)
    (k9 : PySem.W.keepIn K (.ref f9) = true)
    (a10 : PySem.W.nsIn K mainGlobals "node_at" = some (some (.ref f10)))
    (l10 : K.lookup f10 = some ⟨oc10, od10, .func (PySem.W.fnOf "node_at" "node_at" (defArgs s_node_at) (defBody s_node_at) (defScope s_node_at) .none kV10 dc10 pm10 an10 cd10 ct10), sl10⟩)
    (c10 : PySem.W.codeIn K cd10 "node_at" = true)
    (k10 : PySem.W.keepIn K (.ref f10) = true)
    (a11 : PySem.W.nsIn K mainGlobals "with_node" = some (some (.ref f11)))
    (l11 : K.lookup f11 = some ⟨oc11, od11, .func (PySem.W.fnOf "with_node" "with_node" (defArgs s_with_node) (defBody s_with_node) (defScope s_with_node) .none kV11 dc11 pm11 an11 cd11 ct11), sl11⟩)
    (c11 : PySem.W.codeIn K cd11 "with_node" = true)
    (k11 : PySem.W.keepIn K (.ref f11) = true)
    (a12 : PySem.W.nsIn K mainGlobals "without_node" = some (some (.ref f12)))
    (l12 : K.lookup f12 = some ⟨oc12, od12, .func (PySem.W.fnOf "without_node" "without_node" (defArgs s_without_node) (defBody s_without_node) (defScope s_without_node) .none kV12 dc12 pm12 an12 cd12 ct12), sl12⟩)
    (c12 : PySem.W.codeIn K cd12 "without_node" = true)
    (k12 : PySem.W.keepIn K (.ref f12) = true)
    (a13 : PySem.W.nsIn K mainGlobals "with_label" = some (some (.ref f13)))
    (l13 : K.lookup f13 = some ⟨oc13, od13, .func (PySem.W.fnOf "with_label" "with_label" (defArgs s_with_label) (defBody s_with_label) (defScope s_with_label) .none kV13 dc13 pm13 an13 cd13 ct13), sl13⟩)
    (c13 : PySem.W.codeIn K cd13 "with_label" = true)
    (k13 : PySem.W.keepIn K (.ref f13) = true)
    (a14 : PySem.W.nsIn K mainGlobals "turned" = some (some (.ref f14)))
    (l14 : K.lookup f14 = some ⟨oc14, od14, .func (PySem.W.fnOf "turned" "turned" (defArgs s_turned) (defBody s_turned) (defScope s_turned) .none kV14 dc14 pm14 an14 cd14 ct14), sl14⟩)
    (c14 : PySem.W.codeIn K cd14 "turned" = true)
    (k14 : PySem.W.keepIn K (.ref f14) = true)
    (a15 : PySem.W.nsIn K mainGlobals "edited" = some (some (.ref f15)))
    (l15 : K.lookup f15 = some ⟨oc15, od15, .func (PySem.W.fnOf "edited" "edited" (defArgs s_edited) (defBody s_edited) (defScope s_edited) .none kV15 dc15 pm15 an15 cd15 ct15), sl15⟩)
    (c15 : PySem.W.codeIn K cd15 "edited" = true)
    (k15 : PySem.W.keepIn K (.ref f15) = true)
    (a16 : PySem.W.nsIn K mainGlobals "is_kind" = some (some (.ref f16)))
    (l16 : K.lookup f16 = some ⟨oc16, od16, .func (PySem.W.fnOf "is_kind" "is_kind" (defArgs s_is_kind) (defBody s_is_kind) (defScope s_is_kind) .none kV16 dc16 pm16 an16 cd16 ct16), sl16⟩)
    (c16 : PySem.W.codeIn K cd16 "is_kind" = true)
    (k16 : PySem.W.keepIn K (.ref f16) = true)
    (a17 : PySem.W.nsIn K mainGlobals "ordered_steps" = some (some (.ref f17)))
    (l17 : K.lookup f17 = some ⟨oc17, od17, .func (PySem.W.fnOf "ordered_steps" "ordered_steps" (defArgs s_ordered_steps) (defBody s_ordered_steps) (defScope s_ordered_steps) .none kV17 dc17 pm17 an17 cd17 ct17), sl17⟩)
    (c17 : PySem.W.codeIn K cd17 "ordered_steps" = true)
    (k17 : PySem.W.keepIn K (.ref f17) = true)
    (a18 : PySem.W.nsIn K mainGlobals "deep_steps" = some (some (.ref f18)))
    (l18 : K.lookup f18 = some ⟨oc18, od18, .func (PySem.W.fnOf "deep_steps" "deep_steps" (defArgs s_deep_steps) (defBody s_deep_steps) (defScope s_deep_steps) .none kV18 dc18 pm18 an18 cd18 ct18), sl18⟩)
    (c18 : PySem.W.codeIn K cd18 "deep_steps" = true)
    (k18 : PySem.W.keepIn K (.ref f18) = true)
    (a19 : PySem.W.nsIn K mainGlobals "walk" = some (some (.ref f19)))
    (l19 : K.lookup f19 = some ⟨oc19, od19, .func (PySem.W.fnOf "walk" "walk" (defArgs s_walk) (defBody s_walk) (defScope s_walk) .none kV19 dc19 pm19 an19 cd19 ct19), sl19⟩)
    (c19 : PySem.W.codeIn K cd19 "walk" = true)
    (k19 : PySem.W.keepIn K (.ref f19) = true)
    (a20 : PySem.W.nsIn K mainGlobals "_law_stream" = some (some (.ref f20)))
    (l20 : K.lookup f20 = some ⟨oc20, od20, .func (PySem.W.fnOf "_law_stream" "_law_stream" (defArgs s__law_stream) (defBody s__law_stream) (defScope s__law_stream) .none kV20 dc20 pm20 an20 cd20 ct20), sl20⟩)
    (c20 : PySem.W.codeIn K cd20 "_law_stream" = true)
    (k20 : PySem.W.keepIn K (.ref f20) = true)
    (a21 : PySem.W.nsIn K mainGlobals "_law_take" = some (some (.ref f21)))
    (l21 : K.lookup f21 = some ⟨oc21, od21, .func (PySem.W.fnOf "_law_take" "_law_take" (defArgs s__law_take) (defBody s__law_take) (defScope s__law_take) .none kV21 dc21 pm21 an21 cd21 ct21), sl21⟩)
    (c21 : PySem.W.codeIn K cd21 "_law_take" = true)
    (k21 : PySem.W.keepIn K (.ref f21) = true)
    (a22 : PySem.W.nsIn K mainGlobals "_law_equal" = some (some (.ref f22)))
    (l22 : K.lookup f22 = some ⟨oc22, od22, .func (PySem.W.fnOf "_law_equal" "_law_equal" (defArgs s__law_equal) (defBody s__law_equal) (defScope s__law_equal) .none kV22 dc22 pm22 an22 cd22 ct22), sl22⟩)
    (c22 : PySem.W.codeIn K cd22 "_law_equal" = true)
    (k22 : PySem.W.keepIn K (.ref f22) = true)
    (a23 : PySem.W.nsIn K mainGlobals "_law_letter" = some (some (.ref f23)))
    (l23 : K.lookup f23 = some ⟨oc23, od23, .func (PySem.W.fnOf "_law_letter" "_law_letter" (defArgs s__law_letter) (defBody s__law_letter) (defScope s__law_letter) .none kV23 dc23 pm23 an23 cd23 ct23), sl23⟩)
    (c23 : PySem.W.codeIn K cd23 "_law_letter" = true)
    (k23 : PySem.W.keepIn K (.ref f23) = true)
    (a24 : PySem.W.nsIn K mainGlobals "_law_paths" = some (some (.ref f24)))
    (l24 : K.lookup f24 = some ⟨oc24, od24, .func (PySem.W.fnOf "_law_paths" "_law_paths" (defArgs s__law_paths) (defBody s__law_paths) (defScope s__law_paths) .none kV24 dc24 pm24 an24 cd24 ct24), sl24⟩)
    (c24 : PySem.W.codeIn K cd24 "_law_paths" = true)
    (k24 : PySem.W.keepIn K (.ref f24) = true)
    (a25 : PySem.W.nsIn K mainGlobals "_law_part" = some (some (.ref f25)))
    (l25 : K.lookup f25 = some ⟨oc25, od25, .func (PySem.W.fnOf "_law_part" "_law_part" (defArgs s__law_part) (defBody s__law_part) (defScope s__law_part) .none kV25 dc25 pm25 an25 cd25 ct25), sl25⟩)
    (c25 : PySem.W.codeIn K cd25 "_law_part" = true)
    (k25 : PySem.W.keepIn K (.ref f25) = true)
    (a26 : PySem.W.nsIn K mainGlobals "_law_grafted" = some (some (.ref f26)))
    (l26 : K.lookup f26 = some ⟨oc26, od26, .func (PySem.W.fnOf "_law_grafted" "_law_grafted" (defArgs s__law_grafted) (defBody s__law_grafted) (defScope s__law_grafted) .none kV26 dc26 pm26 an26 cd26 ct26), sl26⟩)
    (c26 : PySem.W.codeIn K cd26 "_law_grafted" = true)
    (k26 : PySem.W.keepIn K (.ref f26) = true)
    (a27 : PySem.W.nsIn K mainGlobals "_law_swapped" = some (some (.ref f27)))
    (l27 : K.lookup f27 = some ⟨oc27, od27, .func (PySem.W.fnOf "_law_swapped" "_law_swapped" (defArgs s__law_swapped) (defBody s__law_swapped) (defScope s__law_swapped) .none kV27 dc27 pm27 an27 cd27 ct27), sl27⟩)
    (c27 : PySem.W.codeIn K cd27 "_law_swapped" = true)
    (k27 : PySem.W.keepIn K (.ref f27) = true)
    (a28 : PySem.W.nsIn K mainGlobals "_law_spot" = some (some (.ref f28)))
    (l28 : K.lookup f28 = some ⟨oc28, od28, .func (PySem.W.fnOf "_law_spot" "_law_spot" (defArgs s__law_spot) (defBody s__law_spot) (defScope s__law_spot) .none kV28 dc28 pm28 an28 cd28 ct28), sl28⟩)
    (c28 : PySem.W.codeIn K cd28 "_law_spot" = true)
    (k28 : PySem.W.keepIn K (.ref f28) = true)
    (a29 : PySem.W.nsIn K mainGlobals "_law_sorted_tree" = some (some (.ref f29)))
    (l29 : K.lookup f29 = some ⟨oc29, od29, .func (PySem.W.fnOf "_law_sorted_tree" "_law_sorted_tree" (defArgs s__law_sorted_tree) (defBody s__law_sorted_tree) (defScope s__law_sorted_tree) .none kV29 dc29 pm29 an29 cd29 ct29), sl29⟩)
    (c29 : PySem.W.codeIn K cd29 "_law_sorted_tree" = true)
    (k29 : PySem.W.keepIn K (.ref f29) = true)
    (a30 : PySem.W.nsIn K mainGlobals "_law_tree" = some (some (.ref f30)))
    (l30 : K.lookup f30 = some ⟨oc30, od30, .func (PySem.W.fnOf "_law_tree" "_law_tree" (defArgs s__law_tree) (defBody s__law_tree) (defScope s__law_tree) .none kV30 dc30 pm30 an30 cd30 ct30), sl30⟩)
    (c30 : PySem.W.codeIn K cd30 "_law_tree" = true)
    (k30 : PySem.W.keepIn K (.ref f30) = true)
    (a31 : PySem.W.nsIn K mainGlobals "_law_is_letter" = some (some (.ref f31)))
    (l31 : K.lookup f31 = some ⟨oc31, od31, .func (PySem.W.fnOf "_law_is_letter" "_law_is_letter" (defArgs s__law_is_letter) (defBody s__law_is_letter) (defScope s__law_is_letter) .none kV31 dc31 pm31 an31 cd31 ct31), sl31⟩)
    (c31 : PySem.W.codeIn K cd31 "_law_is_letter" = true)
    (k31 : PySem.W.keepIn K (.ref f31) = true)
    (a32 : PySem.W.nsIn K mainGlobals "_law_due_put" = some (some (.ref f32)))
    (l32 : K.lookup f32 = some ⟨oc32, od32, .func (PySem.W.fnOf "_law_due_put" "_law_due_put" (defArgs s__law_due_put) (defBody s__law_due_put) (defScope s__law_due_put) .none kV32 dc32 pm32 an32 cd32 ct32), sl32⟩)
    (c32 : PySem.W.codeIn K cd32 "_law_due_put" = true)
    (k32 : PySem.W.keepIn K (.ref f32) = true)
    (a33 : PySem.W.nsIn K mainGlobals "_law_due" = some (some (.ref f33)))
    (l33 : K.lookup f33 = some ⟨oc33, od33, .func (PySem.W.fnOf "_law_due" "_law_due" (defArgs s__law_due) (defBody s__law_due) (defScope s__law_due) .none kV33 dc33 pm33 an33 cd33 ct33), sl33⟩)
    (c33 : PySem.W.codeIn K cd33 "_law_due" = true)
    (k33 : PySem.W.keepIn K (.ref f33) = true)
    (a34 : PySem.W.nsIn K mainGlobals "_law_do" = some (some (.ref f34)))
    (l34 : K.lookup f34 = some ⟨oc34, od34, .func (PySem.W.fnOf "_law_do" "_law_do" (defArgs s__law_do) (defBody s__law_do) (defScope s__law_do) .none kV34 dc34 pm34 an34 cd34 ct34), sl34⟩)
    (c34 : PySem.W.codeIn K cd34 "_law_do" = true)
    (k34 : PySem.W.keepIn K (.ref f34) = true)
    (a35 : PySem.W.nsIn K mainGlobals "_law_seen" = some (some (.ref f35)))
    (l35 : K.lookup f35 = some ⟨oc35, od35, .func (PySem.W.fnOf "_law_seen" "_law_seen" (defArgs s__law_seen) (defBody s__law_seen) (defScope s__law_seen) .none kV35 dc35 pm35 an35 cd35 ct35), sl35⟩)
    (c35 : PySem.W.codeIn K cd35 "_law_seen" = true)
    (k35 : PySem.W.keepIn K (.ref f35) = true)
    (a36 : PySem.W.nsIn K mainGlobals "walks" = some (some (.ref f36)))
    (l36 : K.lookup f36 = some ⟨oc36, od36, .func (PySem.W.fnOf "walks" "walks" (defArgs s_walks) (defBody s_walks) (defScope s_walks) .none kV36 dc36 pm36 an36 cd36 ct36), sl36⟩)
    (c36 : PySem.W.codeIn K cd36 "walks" = true)
    (k36 : PySem.W.keepIn K (.ref f36) = true)
    (a37 : PySem.W.nsIn K mainGlobals "is_row" = some (some (.ref f37)))
    (l37 : K.lookup f37 = some ⟨oc37, od37, .func (PySem.W.fnOf "is_row" "is_row" (defArgs s_is_row) (defBody s_is_row) (defScope s_is_row) .none kV37 dc37 pm37 an37 cd37 ct37), sl37⟩)
    (c37 : PySem.W.codeIn K cd37 "is_row" = true)
    (k37 : PySem.W.keepIn K (.ref f37) = true)
    (a38 : PySem.W.nsIn K mainGlobals "three_rows" = some (some (.ref f38)))
    (l38 : K.lookup f38 = some ⟨oc38, od38, .func (PySem.W.fnOf "three_rows" "three_rows" (defArgs s_three_rows) (defBody s_three_rows) (defScope s_three_rows) .none kV38 dc38 pm38 an38 cd38 ct38), sl38⟩)
    (c38 : PySem.W.codeIn K cd38 "three_rows" = true)
    (k38 : PySem.W.keepIn K (.ref f38) = true)
    (a39 : PySem.W.nsIn K mainGlobals "tree_fits" = some (some (.ref f39)))
    (l39 : K.lookup f39 = some ⟨oc39, od39, .func (PySem.W.fnOf "tree_fits" "tree_fits" (defArgs s_tree_fits) (defBody s_tree_fits) (defScope s_tree_fits) .none kV39 dc39 pm39 an39 cd39 ct39), sl39⟩)
    (c39 : PySem.W.codeIn K cd39 "tree_fits" = true)
    (k39 : PySem.W.keepIn K (.ref f39) = true)
    (a40 : PySem.W.nsIn K mainGlobals "fits" = some (some (.ref f40)))
    (l40 : K.lookup f40 = some ⟨oc40, od40, .func (PySem.W.fnOf "fits" "fits" (defArgs s_fits) (defBody s_fits) (defScope s_fits) .none kV40 dc40 pm40 an40 cd40 ct40), sl40⟩)
    (c40 : PySem.W.codeIn K cd40 "fits" = true)
    (k40 : PySem.W.keepIn K (.ref f40) = true)
    (a41 : PySem.W.nsIn K mainGlobals "is_ascending" = some (some (.ref f41)))
    (l41 : K.lookup f41 = some ⟨oc41, od41, .func (PySem.W.fnOf "is_ascending" "is_ascending" (defArgs s_is_ascending) (defBody s_is_ascending) (defScope s_is_ascending) .none kV41 dc41 pm41 an41 cd41 ct41), sl41⟩)
    (c41 : PySem.W.codeIn K cd41 "is_ascending" = true)
    (k41 : PySem.W.keepIn K (.ref f41) = true)
    (a42 : PySem.W.nsIn K mainGlobals "is_search_tree" = some (some (.ref f42)))
    (l42 : K.lookup f42 = some ⟨oc42, od42, .func (PySem.W.fnOf "is_search_tree" "is_search_tree" (defArgs s_is_search_tree) (defBody s_is_search_tree) (defScope s_is_search_tree) .none kV42 dc42 pm42 an42 cd42 ct42), sl42⟩)
    (c42 : PySem.W.codeIn K cd42 "is_search_tree" = true)
    (k42 : PySem.W.keepIn K (.ref f42) = true)
    (a43 : PySem.W.nsIn K mainGlobals "each_node" = some (some (.ref f43)))
    (l43 : K.lookup f43 = some ⟨oc43, od43, .func (PySem.W.fnOf "each_node" "each_node" (defArgs s_each_node) (defBody s_each_node) (defScope s_each_node) .none kV43 dc43 pm43 an43 cd43 ct43), sl43⟩)
    (c43 : PySem.W.codeIn K cd43 "each_node" = true)
    (k43 : PySem.W.keepIn K (.ref f43) = true)
    (a44 : PySem.W.nsIn K mainGlobals "_law_tree_right" = some (some (.ref f44)))
    (l44 : K.lookup f44 = some ⟨oc44, od44, .func (PySem.W.fnOf "_law_tree_right" "_law_tree_right" (defArgs s__law_tree_right) (defBody s__law_tree_right) (defScope s__law_tree_right) .none kV44 dc44 pm44 an44 cd44 ct44), sl44⟩)
    (c44 : PySem.W.codeIn K cd44 "_law_tree_right" = true)
    (k44 : PySem.W.keepIn K (.ref f44) = true)
    (a45 : PySem.W.nsIn K mainGlobals "_law_edit_right" = some (some (.ref f45)))
    (l45 : K.lookup f45 = some ⟨oc45, od45, .func (PySem.W.fnOf "_law_edit_right" "_law_edit_right" (defArgs s__law_edit_right) (defBody s__law_edit_right) (defScope s__law_edit_right) .none kV45 dc45 pm45 an45 cd45 ct45), sl45⟩)
    (c45 : PySem.W.codeIn K cd45 "_law_edit_right" = true)
    (k45 : PySem.W.keepIn K (.ref f45) = true)
    (a46 : PySem.W.nsIn K mainGlobals "law" = some (some (.ref f46)))
    (l46 : K.lookup f46 = some ⟨oc46, od46, .func (PySem.W.fnOf "law" "law" (defArgs s_law) (defBody s_law) (defScope s_law) .none kV46 dc46 pm46 an46 cd46 ct46), sl46⟩)
    (c46 : PySem.W.codeIn K cd46 "law" = true)
    (k46 : PySem.W.keepIn K (.ref f46) = true)
    (z1 : PySem.W.nsIn K mainGlobals "zip" = some none)
    (z2 : PySem.W.nsIn K mainGlobals "all" = some none)
    (z3 : PySem.W.nsIn K mainGlobals "repr" = some none)
    (z4 : PySem.W.nsIn K mainGlobals "len" = some none)
    (z5 : PySem.W.nsIn K mainGlobals "isinstance" = some none)
    (z6 : PySem.W.nsIn K mainGlobals "list" = some none)
    (z7 : PySem.W.nsIn K mainGlobals "tuple" = some none)
    (z8 : PySem.W.nsIn K mainGlobals "str" = some none)
    (z9 : PySem.W.nsIn K mainGlobals "int" = some none)
    (z10 : PySem.W.nsIn K mainGlobals "bool" = some none)
    (z11 : PySem.W.nsIn K mainGlobals "dict" = some none)
    (z12 : PySem.W.nsIn K mainGlobals "range" = some none)
    (z13 : PySem.W.nsIn K mainGlobals "sorted" = some none)
    (z14 : PySem.W.nsIn K mainGlobals "abs" = some none)
    (z15 : PySem.W.nsIn K mainGlobals "min" = some none)
    (z16 : PySem.W.nsIn K mainGlobals "max" = some none)
    (z17 : PySem.W.nsIn K mainGlobals "set" = some none)
    (v1 : PySem.W.nsIn K mainGlobals "MAX_NODES" = some (some (.int 12 t1)))
    : ∀ (base : Heap) (H : Hp) (s : Shared) (a : Addr) (ns : List Int), K.In base → base.Ns mainGlobals mg → Env0 l.prog w K mg base callerA [] s H → SqL K H a (ns.map V.int) → ns.length ≤ 63 →
      codeAny (model l.prog w) callerA (.call (.ref fa) ⟨[.ref a], []⟩) (CR CX0 [] l.prog w H s (fun v _ => v = .bl true) fun _ _ _ => False) s := by
  intro base H s a ns _ _ en hS hn
  have e := hfa.symm.trans (PySem.W.mg_of X G a46)
  cases e
  have F1 := fun_mk (st := s_is_letter) l1 c1 k1
  have g1 := PySem.W.mg_of X G a1
  have F2 := fun_mk (st := s_is_node) l2 c2 k2
  have g2 := PySem.W.mg_of X G a2
  have F3 := fun_mk (st := s_is_tree) l3 c3 k3
  have g3 := PySem.W.mg_of X G a3
  have F4 := fun_mk (st := s_size_of) l4 c4 k4
  have g4 := PySem.W.mg_of X G a4
  have F5 := fun_mk (st := s_part_at) l5 c5 k5
  have g5 := PySem.W.mg_of X G a5
  have F6 := fun_mk (st := s_is_open) l6 c6 k6
  have g6 := PySem.W.mg_of X G a6
  have F7 := fun_mk (st := s_replaced) l7 c7 k7
  have g7 := PySem.W.mg_of X G a7
  have F8 := fun_mk (st := s_with_part) l8 c8 k8
  have g8 := PySem.W.mg_of X G a8
  have F9 := fun_mk (st := s_mirrored) l9 c9 k9
  have g9 := PySem.W.mg_of X G a9
  have F10 := fun_mk (st := s_node_at) l10 c10 k10
  have g10 := PySem.W.mg_of X G a10
  have F11 := fun_mk (st := s_with_node) l11 c11 k11
  have g11 := PySem.W.mg_of X G a11
  have F12 := fun_mk (st := s_without_node) l12 c12 k12
  have g12 := PySem.W.mg_of X G a12
  have F13 := fun_mk (st := s_with_label) l13 c13 k13
  have g13 := PySem.W.mg_of X G a13
  have F14 := fun_mk (st := s_turned) l14 c14 k14
  have g14 := PySem.W.mg_of X G a14
  have F15 := fun_mk (st := s_edited) l15 c15 k15
  have g15 := PySem.W.mg_of X G a15
  have F16 := fun_mk (st := s_is_kind) l16 c16 k16
  have g16 := PySem.W.mg_of X G a16
  have F17 := fun_mk (st := s_ordered_steps) l17 c17 k17
  have g17 := PySem.W.mg_of X G a17
  have F18 := fun_mk (st := s_deep_steps) l18 c18 k18
  have g18 := PySem.W.mg_of X G a18
  have F19 := fun_mk (st := s_walk) l19 c19 k19
  have g19 := PySem.W.mg_of X G a19
  have F20 := fun_mk (st := s__law_stream) l20 c20 k20
  have g20 := PySem.W.mg_of X G a20
  have F21 := fun_mk (st := s__law_take) l21 c21 k21
  have g21 := PySem.W.mg_of X G a21
  have F22 := fun_mk (st := s__law_equal) l22 c22 k22
  have g22 := PySem.W.mg_of X G a22
  have F23 := fun_mk (st := s__law_letter) l23 c23 k23
  have g23 := PySem.W.mg_of X G a23
  have F24 := fun_mk (st := s__law_paths) l24 c24 k24
  have g24 := PySem.W.mg_of X G a24
  have F25 := fun_mk (st := s__law_part) l25 c25 k25
  have g25 := PySem.W.mg_of X G a25
  have F26 := fun_mk (st := s__law_grafted) l26 c26 k26
  have g26 := PySem.W.mg_of X G a26
  have F27 := fun_mk (st := s__law_swapped) l27 c27 k27
  have g27 := PySem.W.mg_of X G a27
  have F28 := fun_mk (st := s__law_spot) l28 c28 k28
  have g28 := PySem.W.mg_of X G a28
  have F29 := fun_mk (st := s__law_sorted_tree) l29 c29 k29
  have g29 := PySem.W.mg_of X G a29
  have F30 := fun_mk (st := s__law_tree) l30 c30 k30
  have g30 := PySem.W.mg_of X G a30
  have F31 := fun_mk (st := s__law_is_letter) l31 c31 k31
  have g31 := PySem.W.mg_of X G a31
  have F32 := fun_mk (st := s__law_due_put) l32 c32 k32
  have g32 := PySem.W.mg_of X G a32
  have F33 := fun_mk (st := s__law_due) l33 c33 k33
  have g33 := PySem.W.mg_of X G a33
  have F34 := fun_mk (st := s__law_do) l34 c34 k34
  have g34 := PySem.W.mg_of X G a34
  have F35 := fun_mk (st := s__law_seen) l35 c35 k35
  have g35 := PySem.W.mg_of X G a35
  have F36 := fun_mk (st := s_walks) l36 c36 k36
  have g36 := PySem.W.mg_of X G a36
  have F37 := fun_mk (st := s_is_row) l37 c37 k37
  have g37 := PySem.W.mg_of X G a37
  have F38 := fun_mk (st := s_three_rows) l38 c38 k38
  have g38 := PySem.W.mg_of X G a38
  have F39 := fun_mk (st := s_tree_fits) l39 c39 k39
  have g39 := PySem.W.mg_of X G a39
  have F40 := fun_mk (st := s_fits) l40 c40 k40
  have g40 := PySem.W.mg_of X G a40
  have F41 := fun_mk (st := s_is_ascending) l41 c41 k41
  have g41 := PySem.W.mg_of X G a41
  have F42 := fun_mk (st := s_is_search_tree) l42 c42 k42
  have g42 := PySem.W.mg_of X G a42
  have F43 := fun_mk (st := s_each_node) l43 c43 k43
  have g43 := PySem.W.mg_of X G a43
  have F44 := fun_mk (st := s__law_tree_right) l44 c44 k44
  have g44 := PySem.W.mg_of X G a44
  have F45 := fun_mk (st := s__law_edit_right) l45 c45 k45
  have g45 := PySem.W.mg_of X G a45
  have F46 := fun_mk (st := s_law) l46 c46 k46
  have m_zip := PySem.W.mg_none_of X G z1
  have m_all := PySem.W.mg_none_of X G z2
  have m_repr := PySem.W.mg_none_of X G z3
  have m_len := PySem.W.mg_none_of X G z4
  have m_isinstance := PySem.W.mg_none_of X G z5
  have m_list := PySem.W.mg_none_of X G z6
  have m_tuple := PySem.W.mg_none_of X G z7
  have m_str := PySem.W.mg_none_of X G z8
  have m_int := PySem.W.mg_none_of X G z9
  have m_bool := PySem.W.mg_none_of X G z10
  have m_dict := PySem.W.mg_none_of X G z11
  have m_range := PySem.W.mg_none_of X G z12
  have m_sorted := PySem.W.mg_none_of X G z13
  have m_abs := PySem.W.mg_none_of X G z14
  have m_min := PySem.W.mg_none_of X G z15
  have m_max := PySem.W.mg_none_of X G z16
  have m_set := PySem.W.mg_none_of X G z17
  have m1 := PySem.W.mg_of X G v1
  have b1 := F1.binds (ps := ["value"]) fun _ _ _ _ _ _ us hl => match us, hl with | [_], _ => rfl
  have b2 := F2.binds (ps := ["value"]) fun _ _ _ _ _ _ us hl => match us, hl with | [_], _ => rfl
  have b3 := F3.binds (ps := ["value"]) fun _ _ _ _ _ _ us hl => match us, hl with | [_], _ => rfl
  have b4 := F4.binds (ps := ["tree"]) fun _ _ _ _ _ _ us hl => match us, hl with | [_], _ => rfl
  have b5 := F5.binds (ps := ["tree", "path"]) fun _ _ _ _ _ _ us hl => match us, hl with | [_, _], _ => rfl
  have b6 := F6.binds (ps := ["tree", "path"]) fun _ _ _ _ _ _ us hl => match us, hl with | [_, _], _ => rfl
  have b7 := F7.binds (ps := ["tree", "path", "part"]) fun _ _ _ _ _ _ us hl => match us, hl with | [_, _, _], _ => rfl
  have b8 := F8.binds (ps := ["tree", "path", "part"]) fun _ _ _ _ _ _ us hl => match us, hl with | [_, _, _], _ => rfl
  have b9 := F9.binds (ps := ["tree"]) fun _ _ _ _ _ _ us hl => match us, hl with | [_], _ => rfl
  have b10 := F10.binds (ps := ["tree", "path"]) fun _ _ _ _ _ _ us hl => match us, hl with | [_, _], _ => rfl
  have b11 := F11.binds (ps := ["tree", "path", "label"]) fun _ _ _ _ _ _ us hl => match us, hl with | [_, _, _], _ => rfl
  have b12 := F12.binds (ps := ["tree", "path"]) fun _ _ _ _ _ _ us hl => match us, hl with | [_, _], _ => rfl
  have b13 := F13.binds (ps := ["tree", "path", "label"]) fun _ _ _ _ _ _ us hl => match us, hl with | [_, _, _], _ => rfl
  have b14 := F14.binds (ps := ["tree", "path"]) fun _ _ _ _ _ _ us hl => match us, hl with | [_, _], _ => rfl
  have b15 := F15.binds (ps := ["tree", "edit"]) fun _ _ _ _ _ _ us hl => match us, hl with | [_, _], _ => rfl
  have b16 := F16.binds (ps := ["value"]) fun _ _ _ _ _ _ us hl => match us, hl with | [_], _ => rfl
  have b17 := F17.binds (ps := ["tree", "kind"]) fun _ _ _ _ _ _ us hl => match us, hl with | [_, _], _ => rfl
  have b18 := F18.binds (ps := ["tree", "kind", "path"]) fun _ _ _ _ _ _ us hl => match us, hl with | [_, _, _], _ => rfl
  have b19 := F19.binds (ps := ["tree", "kind"]) fun _ _ _ _ _ _ us hl => match us, hl with | [_, _], _ => rfl
  have b20 := F20.binds (ps := ["_law_script", "_law_turn"]) fun _ _ _ _ _ _ us hl => match us, hl with | [_, _], _ => rfl
  have b21 := F21.binds (ps := ["_law_stream_here", "_law_many"]) fun _ _ _ _ _ _ us hl => match us, hl with | [_, _], _ => rfl
  have b22 := F22.binds (ps := ["_law_one", "_law_other"]) fun _ _ _ _ _ _ us hl => match us, hl with | [_, _], _ => rfl
  have b23 := F23.binds (ps := ["_law_stream_here"]) fun _ _ _ _ _ _ us hl => match us, hl with | [_], _ => rfl
  have b24 := F24.binds (ps := ["_law_tree_here"]) fun _ _ _ _ _ _ us hl => match us, hl with | [_], _ => rfl
  have b25 := F25.binds (ps := ["_law_tree_here", "_law_path"]) fun _ _ _ _ _ _ us hl => match us, hl with | [_, _], _ => rfl
  have b26 := F26.binds (ps := ["_law_tree_here", "_law_path", "_law_part_here"]) fun _ _ _ _ _ _ us hl => match us, hl with | [_, _, _], _ => rfl
  have b27 := F27.binds (ps := ["_law_tree_here"]) fun _ _ _ _ _ _ us hl => match us, hl with | [_], _ => rfl
  have b28 := F28.binds (ps := ["_law_tree_here", "_law_letter_here"]) fun _ _ _ _ _ _ us hl => match us, hl with | [_, _], _ => rfl
  have b29 := F29.binds (ps := ["_law_stream_here", "_law_size"]) fun _ _ _ _ _ _ us hl => match us, hl with | [_, _], _ => rfl
  have b30 := F30.binds (ps := ["_law_stream_here", "_law_top"]) fun _ _ _ _ _ _ us hl => match us, hl with | [_, _], _ => rfl
  have b31 := F31.binds (ps := ["_law_value"]) fun _ _ _ _ _ _ us hl => match us, hl with | [_], _ => rfl
  have b32 := F32.binds (ps := ["_law_tree_here", "_law_edit", "_law_nodes", "_law_opens"]) fun _ _ _ _ _ _ us hl => match us, hl with | [_, _, _, _], _ => rfl
  have b33 := F33.binds (ps := ["_law_tree_here", "_law_edit"]) fun _ _ _ _ _ _ us hl => match us, hl with | [_, _], _ => rfl
  have b34 := F34.binds (ps := ["_law_desk", "_law_edit"]) fun _ _ _ _ _ _ us hl => match us, hl with | [_, _], _ => rfl
  have b35 := F35.binds (ps := ["_law_desk"]) fun _ _ _ _ _ _ us hl => match us, hl with | [_], _ => rfl
  have b37 := F37.binds (ps := ["value"]) fun _ _ _ _ _ _ us hl => match us, hl with | [_], _ => rfl
  have b38 := F38.binds (ps := ["rows"]) fun _ _ _ _ _ _ us hl => match us, hl with | [_], _ => rfl
  have b39 := F39.binds (ps := ["tree", "given"]) fun _ _ _ _ _ _ us hl => match us, hl with | [_, _], _ => rfl
  have b41 := F41.binds (ps := ["items"]) fun _ _ _ _ _ _ us hl => match us, hl with | [_], _ => rfl
  have b42 := F42.binds (ps := ["tree"]) fun _ _ _ _ _ _ us hl => match us, hl with | [_], _ => rfl
  have b43 := F43.binds (ps := ["tree"]) fun _ _ _ _ _ _ us hl => match us, hl with | [_], _ => rfl
  have b44 := F44.binds (ps := ["_law_desk"]) fun _ _ _ _ _ _ us hl => match us, hl with | [_], _ => rfl
  have b45 := F45.binds (ps := ["_law_old", "_law_new", "_law_edit"]) fun _ _ _ _ _ _ us hl => match us, hl with | [_, _, _], _ => rfl
  have M : Mgs mg := ⟨m_zip, m_all, m_repr, m_len, m_isinstance, m_list, m_tuple, m_str, m_int, m_bool, m_dict, m_range, m_sorted, m_abs, m_min, m_max⟩
  have TD : DeskC K mg CD := ⟨⟨pg, hd, po, sa⟩, nT, nD, nB, PySem.W.mg_of X G aDK, ⟨_, moA, moG, ⟨_, rfl⟩, by decide +kernel⟩⟩
  have Dis_letter : Df l.prog w K mg base 1 "is_letter" ["value"] spLow := ⟨f1, _, ok_low (k := 0) F1 M, b1, k1, g1⟩
  have Dis_node : Df l.prog w K mg base 2 "is_node" ["value"] spNodeT := ⟨f2, _, ok_node (k := 0) F2 M Dis_letter, b2, k2, g2⟩
  have Dis_tree : Df l.prog w K mg base 3 "is_tree" ["value"] spTreeT := ⟨f3, _, ok_isTree F3 m1 Dis_node, b3, k3, g3⟩
  have Dsize_of : Df l.prog w K mg base 20 "size_of" ["tree"] (spSz 20) := ⟨f4, _, ok_size F4 b4 g4 20, b4, k4, g4⟩
  have Dpart_at : Df l.prog w K mg base 1 "part_at" ["tree", "path"] spPart := ⟨f5, _, ok_part (k := 0) F5 M, b5, k5, g5⟩
  have Dis_open : Df l.prog w K mg base 2 "is_open" ["tree", "path"] spOpen := ⟨f6, _, ok_open (k := 0) F6 Dpart_at, b6, k6, g6⟩
  have Dwith_part : Df l.prog w K mg base 20 "with_part" ["tree", "path", "part"] (spWith 20) := ⟨f8, _, ok_with F8 b8 g8 20, b8, k8, g8⟩
  have Dreplaced : Df l.prog w K mg base 21 "replaced" ["tree", "path", "part"] spRepl := ⟨f7, _, ok_repl F7 m1 Dpart_at Dsize_of Dwith_part, b7, k7, g7⟩
  have Dmirrored : Df l.prog w K mg base 20 "mirrored" ["tree"] (spMir 20) := ⟨f9, _, ok_mir F9 b9 g9 20, b9, k9, g9⟩
  have Dnode_at : Df l.prog w K mg base 2 "node_at" ["tree", "path"] spNodeAt := ⟨f10, _, ok_nodeAt (k := 0) F10 Dpart_at, b10, k10, g10⟩
  have AC : Acts K w mg aA f11 f12 f13 f14 := ⟨PySem.W.mg_of X G aAn, ⟨_, _, _, aAl, aAk, aA_put, rfl⟩, ⟨_, _, _, aAl, aAk, aA_cut, rfl⟩, ⟨_, _, _, aAl, aAk, aA_label, rfl⟩, ⟨_, _, _, aAl, aAk, aA_turn, rfl⟩⟩
  have R1 : FnR l.prog w K mg base CX0 22 f11 (spAct isPut) := (FnOk.raw (ok_withNode F11 Dis_open Dis_letter Dreplaced) b11 .nil).imp fun vs H Q E h => by rw [List.append_nil]; exact h
  have R2 : FnR l.prog w K mg base CX0 22 f12 (spAct isCut) := (FnOk.raw (ok_without F12 Dnode_at Dreplaced) b12 .nil).imp fun vs H Q E h => by rw [List.append_nil]; exact h
  have R3 : FnR l.prog w K mg base CX0 22 f13 (spAct isLab) := (FnOk.raw (ok_withLabel F13 Dnode_at Dis_letter Dreplaced) b13 .nil).imp fun vs H Q E h => by rw [List.append_nil]; exact h
  have R4 : FnR l.prog w K mg base CX0 22 f14 (spAct isTur) := (FnOk.raw (ok_turned F14 Dnode_at Dmirrored Dreplaced) b14 .nil).imp fun vs H Q E h => by rw [List.append_nil]; exact h
  have Dedited : Df l.prog w K mg base 23 "edited" ["tree", "edit"] spEdited := ⟨f15, _, ok_edited F15 AC ⟨R1, k11⟩ ⟨R2, k12⟩ ⟨R3, k13⟩ ⟨R4, k14⟩, b15, k15, g15⟩
  have Kk : KindsT K mg aK := ⟨PySem.W.mg_of X G aKn, fun H => .inr ⟨_, _, _, aKl, rfl, rfl, (by show 4 ≤ sizeLine; decide), .cons ⟨_, rfl⟩ (.cons ⟨_, rfl⟩ (.cons ⟨_, rfl⟩ (.cons ⟨_, rfl⟩ .nil)))⟩⟩
  have Dis_kind : Df l.prog w K mg base 1 "is_kind" ["value"] spKind := ⟨f16, _, ok_kind (k := 0) F16 M Kk, b16, k16, g16⟩
  have Ddeep_steps : Df l.prog w K mg base 60 "deep_steps" ["tree", "kind", "path"] (spDeep 60) := ⟨f18, _, ok_deep F18 b18 g18 60, b18, k18, g18⟩
  have Dordered_steps : Df l.prog w K mg base 61 "ordered_steps" ["tree", "kind"] spSteps := ⟨f17, _, ok_steps F17 Dis_kind Ddeep_steps, b17, k17, g17⟩
  have Dwalk : Df l.prog w K mg base 62 "walk" ["tree", "kind"] spWalk := ⟨f19, _, ok_walk F19 Dordered_steps, b19, k19, g19⟩
  have D_law_stream : Df l.prog w K mg base 1 "_law_stream" ["_law_script", "_law_turn"] (spStream K) := ⟨f20, _, ok_stream (k := 0) F20 M, b20, k20, g20⟩
  have D_law_take : Df l.prog w K mg base 1 "_law_take" ["_law_stream_here", "_law_many"] spTake1 := ⟨f21, _, ok_take1 (k := 0) F21, b21, k21, g21⟩
  have D_law_letter : Df l.prog w K mg base 2 "_law_letter" ["_law_stream_here"] spLetter1 := ⟨f23, _, ok_letter1 F23 D_law_take, b23, k23, g23⟩
  have D_law_paths : Df l.prog w K mg base 1 "_law_paths" ["_law_tree_here"] spPaths := ⟨f24, _, ok_lpaths (k := 0) F24, b24, k24, g24⟩
  have D_law_part : Df l.prog w K mg base 1 "_law_part" ["_law_tree_here", "_law_path"] spPart := ⟨f25, _, ok_lpart (k := 0) F25, b25, k25, g25⟩
  have D_law_grafted : Df l.prog w K mg base 20 "_law_grafted" ["_law_tree_here", "_law_path", "_law_part_here"] (spWith 20) := ⟨f26, _, ok_lgraft F26 b26 g26 20, b26, k26, g26⟩
  have D_law_swapped : Df l.prog w K mg base 20 "_law_swapped" ["_law_tree_here"] (spMir 20) := ⟨f27, _, ok_lswap F27 b27 g27 20, b27, k27, g27⟩
  have D_law_spot : Df l.prog w K mg base 1 "_law_spot" ["_law_tree_here", "_law_letter_here"] spSpot := ⟨f28, _, ok_spot1 (k := 0) F28, b28, k28, g28⟩
  have D_law_sorted_tree : Df l.prog w K mg base 21 "_law_sorted_tree" ["_law_stream_here", "_law_size"] spSTree := ⟨f29, _, ok_sortedTree F29 M D_law_take D_law_spot D_law_grafted, b29, k29, g29⟩
  have D_law_tree : Df l.prog w K mg base 22 "_law_tree" ["_law_stream_here", "_law_top"] spTreeL := ⟨f30, _, ok_treeL F30 M D_law_take D_law_letter D_law_sorted_tree D_law_paths D_law_grafted, b30, k30, g30⟩
  have F_init := fun_mk (st := s_Desk___init__) lk_init cd_f_init kp_init
  have b_init := F_init.binds (ps := ["self", "tree"]) fun _ _ _ _ _ _ us hl => match us, hl with | [_, _], _ => rfl
  have F_check_free := fun_mk (st := s_Desk_check_free) lk_check_free cd_f_check_free kp_check_free
  have b_check_free := F_check_free.binds (ps := ["self"]) fun _ _ _ _ _ _ us hl => match us, hl with | [_], _ => rfl
  have F_check_tree := fun_mk (st := s_Desk_check_tree) lk_check_tree cd_f_check_tree kp_check_tree
  have b_check_tree := F_check_tree.binds (ps := ["self", "tree"]) fun _ _ _ _ _ _ us hl => match us, hl with | [_, _], _ => rfl
  have F_told := fun_mk (st := s_Desk_told) lk_told cd_f_told kp_told
  have b_told := F_told.binds (ps := ["self", "name"]) fun _ _ _ _ _ _ us hl => match us, hl with | [_, _], _ => rfl
  have F_take := fun_mk (st := s_Desk_take) lk_take cd_f_take kp_take
  have b_take := F_take.binds (ps := ["self", "edit"]) fun _ _ _ _ _ _ us hl => match us, hl with | [_, _], _ => rfl
  have F_called := fun_mk (st := s_Desk_called) lk_called cd_f_called kp_called
  have b_called := F_called.binds (ps := ["self", "edit"]) fun _ _ _ _ _ _ us hl => match us, hl with | [_, _], _ => rfl
  have F_put := fun_mk (st := s_Desk_put) lk_put cd_f_put kp_put
  have b_put := F_put.binds (ps := ["self", "path", "label"]) fun _ _ _ _ _ _ us hl => match us, hl with | [_, _, _], _ => rfl
  have F_cut := fun_mk (st := s_Desk_cut) lk_cut cd_f_cut kp_cut
  have b_cut := F_cut.binds (ps := ["self", "path"]) fun _ _ _ _ _ _ us hl => match us, hl with | [_, _], _ => rfl
  have F_label := fun_mk (st := s_Desk_label) lk_label cd_f_label kp_label
  have b_label := F_label.binds (ps := ["self", "path", "label"]) fun _ _ _ _ _ _ us hl => match us, hl with | [_, _, _], _ => rfl
  have F_turn := fun_mk (st := s_Desk_turn) lk_turn cd_f_turn kp_turn
  have b_turn := F_turn.binds (ps := ["self", "path"]) fun _ _ _ _ _ _ us hl => match us, hl with | [_, _], _ => rfl
  have F_edits := fun_mk (st := s_Desk_edits) lk_edits cd_f_edits kp_edits
  have b_edits := F_edits.binds (ps := ["self"]) fun _ _ _ _ _ _ us hl => match us, hl with | [_], _ => rfl
  have F_len := fun_mk (st := s_Desk___len__) lk_len cd_f_len kp_len
  have b_len := F_len.binds (ps := ["self"]) fun _ _ _ _ _ _ us hl => match us, hl with | [_], _ => rfl
  have F_str := fun_mk (st := s_Desk___str__) lk_str cd_f_str kp_str
  have b_str := F_str.binds (ps := ["self"]) fun _ _ _ _ _ _ us hl => match us, hl with | [_], _ => rfl
  have F_tree := fun_mk (st := s_Desk_tree) lk_tree cd_f_tree kp_tree
  have FD_tree : FunD K "tree" "Desk.tree" (defArgs s_Desk_tree) (defBody s_Desk_tree) (defScope s_Desk_tree) [] [("version", .non)] g_tree _ := ⟨⟨_, _, _, _, _, _, _, _, _, _, rfl, lk_tree, cd_f_tree, .inl ⟨rfl, rfl⟩, .inr ⟨DK_tree, rfl, fun q hq => by rw [List.mem_singleton.mp hq]; exact ⟨_, ns_tree_version, rfl⟩⟩⟩, kp_tree⟩
  obtain ⟨dn_tree, vd_tree, b_tree⟩ := FD_tree.binds0 (ps := ["self", "version"]) 1 (by simp) rfl (fun D doc pm an cdv ct us ks h1 h2 => match us, ks, h1, h2 with | [_], [_], _, _ => ⟨_, _, _, _, _, _, rfl, rfl, rfl⟩)
  have F_version := fun_mk (st := s_Desk_version) lk_version cd_f_version kp_version
  have b_version := F_version.binds (ps := ["self"]) fun _ _ _ _ _ _ us hl => match us, hl with | [_], _ => rfl
  have F_size := fun_mk (st := s_Desk_size) lk_size cd_f_size kp_size
  have b_size := F_size.binds (ps := ["self"]) fun _ _ _ _ _ _ us hl => match us, hl with | [_], _ => rfl
  have F_first := fun_mk (st := s_Desk_first) lk_first cd_f_first kp_first
  have b_first := F_first.binds (ps := ["self"]) fun _ _ _ _ _ _ us hl => match us, hl with | [_], _ => rfl
  have F_between := fun_mk (st := s_Desk_between) lk_between cd_f_between kp_between
  have b_between := F_between.binds (ps := ["self"]) fun _ _ _ _ _ _ us hl => match us, hl with | [_], _ => rfl
  have F_last := fun_mk (st := s_Desk_last) lk_last cd_f_last kp_last
  have b_last := F_last.binds (ps := ["self"]) fun _ _ _ _ _ _ us hl => match us, hl with | [_], _ => rfl
  have Dcf : MDf l.prog w K mg base CD 1 "check_free" ["self"] (spFree CD) := ⟨g_check_free, _, ok_free (k := 0) F_check_free TD, b_check_free, ⟨at_check_free, fn_check_free, kp_check_free⟩⟩
  have Dct : MDf l.prog w K mg base CD 1 "check_tree" ["self", "tree"] spCT := ⟨g_check_tree, _, ok_ct (k := 0) F_check_tree, b_check_tree, ⟨at_check_tree, fn_check_tree, kp_check_tree⟩⟩
  have Dtold : MDf l.prog w K mg base CD 1 "told" ["self", "name"] (spTold CD) := ⟨g_told, _, ok_told (k := 0) F_told TD M, b_told, ⟨at_told, fn_told, kp_told⟩⟩
  have Dtake : MDf l.prog w K mg base CD 24 "take" ["self", "edit"] (spTake CD) := ⟨g_take, _, ok_take F_take TD M Dedited Dct, b_take, ⟨at_take, fn_take, kp_take⟩⟩
  have Dcalled : MDf l.prog w K mg base CD 25 "called" ["self", "edit"] (spCalled CD) := ⟨g_called, _, ok_called F_called TD Dcf Dtake Dtold, b_called, ⟨at_called, fn_called, kp_called⟩⟩
  have Dput : MDf l.prog w K mg base CD 26 "put" ["self", "path", "label"] (spDo CD isPut) := ⟨g_put, _, ok_put F_put TD Dcalled, b_put, ⟨at_put, fn_put, kp_put⟩⟩
  have Dcut : MDf l.prog w K mg base CD 26 "cut" ["self", "path"] (spDo CD isCut) := ⟨g_cut, _, ok_cut F_cut TD Dcalled, b_cut, ⟨at_cut, fn_cut, kp_cut⟩⟩
  have Dlabel : MDf l.prog w K mg base CD 26 "label" ["self", "path", "label"] (spDo CD isLab) := ⟨g_label, _, ok_label F_label TD Dcalled, b_label, ⟨at_label, fn_label, kp_label⟩⟩
  have Dturn : MDf l.prog w K mg base CD 26 "turn" ["self", "path"] (spDo CD isTur) := ⟨g_turn, _, ok_turn F_turn TD Dcalled, b_turn, ⟨at_turn, fn_turn, kp_turn⟩⟩
  have Dedits : MDf l.prog w K mg base CD 1 "edits" ["self"] (spEditsM CD) := ⟨g_edits, _, ok_editsM (k := 0) F_edits TD, b_edits, ⟨at_edits, fn_edits, kp_edits⟩⟩
  have Pver : PDf l.prog w K mg base CD 1 "version" (spVer CD) := ⟨g_version, _, p_version, ok_ver (k := 0) F_version TD M, b_version, ⟨at_version, gt_version, tk_version, ⟨_, rc_version⟩⟩⟩
  have Psize : PDf l.prog w K mg base CD 21 "size" (spSizeP CD) := ⟨g_size, _, p_size, ok_sizeP F_size TD Dsize_of, b_size, ⟨at_size, gt_size, tk_size, ⟨_, rc_size⟩⟩⟩
  have Pfirst : PDf l.prog w K mg base CD 63 "first" (spWalkP CD .first) := ⟨g_first, _, p_first, ok_first F_first TD Dwalk, b_first, ⟨at_first, gt_first, tk_first, ⟨_, rc_first⟩⟩⟩
  have Pbetw : PDf l.prog w K mg base CD 63 "between" (spWalkP CD .between) := ⟨g_between, _, p_between, ok_betw F_between TD Dwalk, b_between, ⟨at_between, gt_between, tk_between, ⟨_, rc_between⟩⟩⟩
  have Plast : PDf l.prog w K mg base CD 63 "last" (spWalkP CD .last) := ⟨g_last, _, p_last, ok_last F_last TD Dwalk, b_last, ⟨at_last, gt_last, tk_last, ⟨_, rc_last⟩⟩⟩
  have FL : FnR l.prog w K mg base CX0 1 g_len (spVer CD) := (FnOk.raw (ok_len (k := 0) F_len TD M) b_len .nil).imp fun vs H Q E h => by rw [List.append_nil]; exact h
  have FS : FnR l.prog w K mg base CX0 21 g_str (spStrD CD) := (FnOk.raw (ok_str F_str TD M Dsize_of) b_str .nil).imp fun vs H Q E h => by rw [List.append_nil]; exact h
  have D_law_is_letter : Df l.prog w K mg base 1 "_law_is_letter" ["_law_value"] spLow := ⟨f31, _, ok_lowL (k := 0) F31 M, b31, k31, g31⟩
  have D_law_due_put : Df l.prog w K mg base 21 "_law_due_put" ["_law_tree_here", "_law_edit", "_law_nodes", "_law_opens"] spDueP := ⟨f32, _, ok_dueP F32 M D_law_is_letter D_law_grafted, b32, k32, g32⟩
  have D_law_due : Df l.prog w K mg base 22 "_law_due" ["_law_tree_here", "_law_edit"] spDueL := ⟨f33, _, ok_dueL F33 M D_law_paths D_law_due_put D_law_part D_law_is_letter D_law_swapped D_law_grafted, b33, k33, g33⟩
  have D_law_do : Df l.prog w K mg base 27 "_law_do" ["_law_desk", "_law_edit"] (spCalled CD) := ⟨f34, _, ok_doL F34 TD Dput Dcut Dlabel Dturn, b34, k34, g34⟩
  have gm_law_some_edit := PySem.W.mg_of X G a_law_some_edit
  have FD_law_some_edit : FunD K "_law_some_edit" "_law_some_edit" (defArgs s__law_some_edit) (defBody s__law_some_edit) (defScope s__law_some_edit) [.int 13] [] g_law_some_edit _ := ⟨⟨_, _, _, _, _, _, _, _, _, _, rfl, lk_law_some_edit, cd_f_law_some_edit, .inr ⟨by simp, T_law_some_edit, _, [.int 13 tt_law_some_edit], _, rfl, tl_law_some_edit, rfl, .cons ⟨_, rfl⟩ .nil⟩, .inl rfl⟩, kp_law_some_edit⟩
  obtain ⟨dn_law_some_edit, vd_law_some_edit, bd_law_some_edit⟩ := bd_of_law_some_edit FD_law_some_edit
  have b_law_some_edit := b_of_law_some_edit FD_law_some_edit
  have gm_law_valid_edit := PySem.W.mg_of X G a_law_valid_edit
  have FD_law_valid_edit : FunD K "_law_valid_edit" "_law_valid_edit" (defArgs s__law_valid_edit) (defBody s__law_valid_edit) (defScope s__law_valid_edit) [.int 13] [] g_law_valid_edit _ := ⟨⟨_, _, _, _, _, _, _, _, _, _, rfl, lk_law_valid_edit, cd_f_law_valid_edit, .inr ⟨by simp, T_law_valid_edit, _, [.int 13 tt_law_valid_edit], _, rfl, tl_law_valid_edit, rfl, .cons ⟨_, rfl⟩ .nil⟩, .inl rfl⟩, kp_law_valid_edit⟩
  obtain ⟨dn_law_valid_edit, vd_law_valid_edit, bd_law_valid_edit⟩ := bd_of_law_valid_edit FD_law_valid_edit
  have b_law_valid_edit := b_of_law_valid_edit FD_law_valid_edit
  have D_law_some_edit : Df l.prog w K mg base 3 "_law_some_edit" ["_law_stream_here", "_law_tree_here", "_law_top"] spSome := ⟨g_law_some_edit, _, ok_some FD_law_some_edit M D_law_take D_law_letter D_law_paths, b_law_some_edit, kp_law_some_edit, gm_law_some_edit⟩
  have Fv := ok_valid (P := l.prog) (w := w) (mg := mg) (base := base) FD_law_valid_edit M D_law_some_edit D_law_due
  have D_law_seen : Df l.prog w K mg base 66 "_law_seen" ["_law_desk"] (spSeenL CD) := ⟨f35, _, ok_seen F35 TD M Pver Psize Pfirst Pbetw Plast ⟨at_tree, fn_tree, kp_tree⟩ (ok_treeM (k := 0) F_tree TD) b_tree vd_tree Dedits at_len fn_len FL at_str fn_str FS, b35, k35, g35⟩
  have Rk : RowT K mg aR := ⟨PySem.W.mg_of X G aRn, fun H => .inr ⟨_, _, _, aRl, rfl, rfl, (by show 3 ≤ sizeLine; decide), .cons ⟨_, rfl⟩ (.cons ⟨_, rfl⟩ (.cons ⟨_, rfl⟩ .nil))⟩⟩
  have Dis_one : Df l.prog w K mg base 1 "is_letter" ["value"] spOne := ⟨f1, _, ok_one (k := 0) F1 M, b1, k1, g1⟩
  have Dsize60 : Df l.prog w K mg base 60 "size_of" ["tree"] (fun vs H Q _ => ∃ (v : V) (t : B), vs = [v] ∧ BAt H v t ∧ t.size < 60 ∧ Q (.int (t.size : Int)) H) := ⟨f4, _, ok_size F4 b4 g4 60, b4, k4, g4⟩
  have Dwalks : DfR l.prog w K mg base 63 "walks" spWalks := ⟨f36, ok_walks F36 M Dwalk, k36, g36⟩
  have Dis_row : Df l.prog w K mg base 2 "is_row" ["value"] spRow := ⟨f37, _, ok_row F37 M m1 Dis_one, b37, k37, g37⟩
  have Dthree_rows : Df l.prog w K mg base 3 "three_rows" ["rows"] spThree := ⟨f38, _, ok_three F38 M Rk Dis_row, b38, k38, g38⟩
  have Dtree_fits : Df l.prog w K mg base 64 "tree_fits" ["tree", "given"] spTreeFits := ⟨f39, _, ok_treeFits F39 M Rk Dsize60 Dwalks, b39, k39, g39⟩
  have Dfits : DfF l.prog w K mg base 65 := ⟨f40, fun ks hk => ok_fits (len_f hk) F40 (kw_f hk) Dthree_rows Dtree_fits, k40, g40⟩
  have Dis_ascending : Df l.prog w K mg base 1 "is_ascending" ["items"] (spAsc K) := ⟨f41, _, ok_asc (k := 0) F41 M, b41, k41, g41⟩
  have Dis_search_tree : Df l.prog w K mg base 63 "is_search_tree" ["tree"] spSearch := ⟨f42, _, ok_search F42 Dwalk Dis_ascending, b42, k42, g42⟩
  have Deach : DfE l.prog w K mg base 2 "each_node" ["tree"] spEach := ⟨f43, _, ok_each F43, b43, k43, g43⟩
  have D_law_equal : DfG l.prog w K mg base 1 "_law_equal" ["_law_one", "_law_other"] (spEqualV K) := ⟨f22, _, ok_equalV (k := 0) F22 M, b22, k22, g22⟩
  have D_law_tree_right : DfG l.prog w K mg base 67 "_law_tree_right" ["_law_desk"] (spTR CD) := ⟨f44, _, ok_treeRight F44 TD M m_set Psize Pfirst Pbetw Plast ⟨at_tree, fn_tree, kp_tree⟩ (ok_treeM (k := 0) F_tree TD) b_tree vd_tree Dis_tree D_law_equal Dwalks Deach Dsize_of Dfits Dis_search_tree, b44, k44, g44⟩
  have D_law_edit_right : DfG l.prog w K mg base 28 "_law_edit_right" ["_law_old", "_law_new", "_law_edit"] spER := ⟨f45, _, ok_editRight F45 TD M ⟨mk, at_init, fn_init, kc⟩ (ok_init F_init TD Dis_tree) b_init ⟨at_tree, fn_tree, kp_tree⟩ (ok_treeM (k := 0) F_tree TD) b_tree vd_tree D_law_equal Dreplaced Dpart_at Dmirrored D_law_do, b45, k45, g45⟩
  exact run_law F46 (.of_eq rfl) en hS M TD D_law_stream D_law_tree ⟨mk, at_init, fn_init, kc⟩ (ok_init F_init TD Dis_tree) b_init D_law_equal D_law_seen D_law_take Fv gm_law_valid_edit kp_law_valid_edit bd_law_valid_edit vd_law_valid_edit D_law_do ⟨at_tree, fn_tree, kp_tree⟩ (ok_treeM (k := 0) F_tree TD) b_tree vd_tree D_law_tree_right D_law_edit_right
theorem walk_at2 {l : PySem.W.OpenLaw} {q : Program} {loose : List Str} {XP : (Str → Option Value) → Heap → Prop} {YP : World → Heap → Prop} {Z : World → PySem.W.Frag → Prop} {d : DefRec} (most : l.most = some 63) (noDf : d.params.defaults = []) (nm : d.name = "law")
    (inK : ∀ (w : World) (h : Heap), YP w h → ∃ K : PySem.W.Frag, K.In h ∧ Z w K)
    (F : ∀ (w : World) (mg : Str → Option Value) (fa : Addr) (h : Heap) (K : PySem.W.Frag), K.In h → Z w K → h.Ns mainGlobals mg → mg "law" = some (.ref fa) →
      ∀ (base : Heap) (H : Hp) (s : Shared) (a : Addr) (ns : List Int), K.In base → base.Ns mainGlobals mg → Env0 l.prog w K mg base callerA [] s H → SqL K H a (ns.map V.int) → ns.length ≤ 63 →
        codeAny (model l.prog w) callerA (.call (.ref fa) ⟨[.ref a], []⟩) (CR CX0 [] l.prog w H s (fun v _ => v = .bl true) fun _ _ _ => False) s) :
    PySem.W.WalkO q loose XP YP l.row.toRowW d [] (fun f vs => PySem.call f vs) := by
  refine Att.attach_call most noDf ?_
  intro w s₀ s₁ mg mb fa o pm cd doc a vs ns G Y ho hd hcd hmg hobj hints hlen hg
  obtain ⟨K, kin, z⟩ := inK w _ Y
  rw [nm] at hmg
  exact law_at kin G.T.g G.T.b G.T.builtins G.T.nolimit hg hobj hints (Nat.le_trans hlen (by decide)) fun base H h1 h2 en hS => F w mg fa _ K kin z G.T.g hmg base H s₁ a ns h1 h2 en hS hlen
theorem ends (w : World) (mg : Str → Option Value) (fa : Addr) (h : Heap) (K : PySem.W.Frag) (X : K.In h) (c : Hx.look Hx.cs Hx.fs Hx.dc K = (true, Hx.fs.map Hx.Fd.val, Hx.keysV w.params Hx.ks)) (G : h.Ns mainGlobals mg) (hfa : mg "law" = some (.ref fa)) (base : Heap) (H : Hp) (s : Shared) (a : Addr) (ns : List Int) (h1 : K.In base) (h2 : base.Ns mainGlobals mg) (en : Env0 PySem.Challenge.rw_treewalks_k68_whole_desks_and_functions.prog w K mg base callerA [] s H) (hS : SqL K H a (ns.map V.int)) (few : ns.length ≤ 63) :
    codeAny (model PySem.Challenge.rw_treewalks_k68_whole_desks_and_functions.prog w) callerA (.call (.ref fa) ⟨[.ref a], []⟩) (CR CX0 [] PySem.Challenge.rw_treewalks_k68_whole_desks_and_functions.prog w H s (fun v _ => v = .bl true) fun _ _ _ => False) s := by
  obtain ⟨tMost, e_mo, e_mg⟩ := (Hx.mostB_ok (Hx.fact c 9))
  obtain ⟨e_aAles, e_aAln, e_aAl, e_aAlk⟩ := Hx.dictB_ok (Hx.fact c 11) (Hx.fkeys c)
  obtain ⟨ts_aKl, o_aKl, n_aKl, s_aKl, l_aKl, e_aKl⟩ := (Hx.tupsB_ok (Hx.fact c 17))
  obtain ⟨uaKl0, uaKl1, uaKl2, uaKl3, rfl⟩ : ∃ uaKl0 uaKl1 uaKl2 uaKl3, ts_aKl = [uaKl0, uaKl1, uaKl2, uaKl3] := by match ts_aKl, l_aKl with | [uaKl0, uaKl1, uaKl2, uaKl3], _ => exact ⟨uaKl0, uaKl1, uaKl2, uaKl3, rfl⟩
  obtain ⟨oc0, od0, dV0, kV0, dc0, pm0, an0, cd0, ct0, sl0, l0, c0, k0, d0⟩ := Hx.fdef c 0; have hd0 := Hx.dNone_ok (K := K) (kV := kV0) d0; subst hd0
  obtain ⟨oc1, od1, dV1, kV1, dc1, pm1, an1, cd1, ct1, sl1, l1, c1, k1, d1⟩ := Hx.fdef c 1; have hd1 := Hx.dNone_ok (K := K) (kV := kV1) d1; subst hd1
  obtain ⟨oc2, od2, dV2, kV2, dc2, pm2, an2, cd2, ct2, sl2, l2, c2, k2, d2⟩ := Hx.fdef c 2; have hd2 := Hx.dNone_ok (K := K) (kV := kV2) d2; subst hd2
  obtain ⟨oc3, od3, dV3, kV3, dc3, pm3, an3, cd3, ct3, sl3, l3, c3, k3, d3⟩ := Hx.fdef c 3; have hd3 := Hx.dNone_ok (K := K) (kV := kV3) d3; subst hd3
  obtain ⟨oc4, od4, dV4, kV4, dc4, pm4, an4, cd4, ct4, sl4, l4, c4, k4, d4⟩ := Hx.fdef c 4; have hd4 := Hx.dNone_ok (K := K) (kV := kV4) d4; subst hd4
  obtain ⟨oc5, od5, dV5, kV5, dc5, pm5, an5, cd5, ct5, sl5, l5, c5, k5, d5⟩ := Hx.fdef c 5; have hd5 := Hx.dNone_ok (K := K) (kV := kV5) d5; subst hd5
  obtain ⟨oc6, od6, dV6, kV6, dc6, pm6, an6, cd6, ct6, sl6, l6, c6, k6, d6⟩ := Hx.fdef c 6; have hd6 := Hx.dNone_ok (K := K) (kV := kV6) d6; subst hd6
  obtain ⟨oc7, od7, dV7, kV7, dc7, pm7, an7, cd7, ct7, sl7, l7, c7, k7, d7⟩ := Hx.fdef c 7; have hd7 := Hx.dNone_ok (K := K) (kV := kV7) d7; subst hd7
  obtain ⟨oc8, od8, dV8, kV8, dc8, pm8, an8, cd8, ct8, sl8, l8, c8, k8, d8⟩ := Hx.fdef c 8; have hd8 := Hx.dNone_ok (K := K) (kV := kV8) d8; subst hd8
  obtain ⟨oc9, od9, dV9, kV9, dc9, pm9, an9, cd9, ct9, sl9, l9, c9, k9, d9⟩ := Hx.fdef c 9; have hd9 := Hx.dNone_ok (K := K) (kV := kV9) d9; subst hd9
  obtain ⟨oc10, od10, dV10, kV10, dc10, pm10, an10, cd10, ct10, sl10, l10, c10, k10, d10⟩ := Hx.fdef c 10; have hd10 := Hx.dNone_ok (K := K) (kV := kV10) d10; subst hd10
  obtain ⟨oc11, od11, dV11, kV11, dc11, pm11, an11, cd11, ct11, sl11, l11, c11, k11, d11⟩ := Hx.fdef c 11; have hd11 := Hx.dNone_ok (K := K) (kV := kV11) d11; subst hd11
  obtain ⟨oc12, od12, dV12, kV12, dc12, pm12, an12, cd12, ct12, sl12, l12, c12, k12, d12⟩ := Hx.fdef c 12; have hd12 := Hx.dNone_ok (K := K) (kV := kV12) d12; subst hd12
  obtain ⟨oc13, od13, dV13, kV13, dc13, pm13, an13, cd13, ct13, sl13, l13, c13, k13, d13⟩ := Hx.fdef c 13; obtain ⟨hd13, D13, hk13, e_D13⟩ := Hx.dKw_ok (K := K) d13; subst hd13 hk13
  obtain ⟨r_rc_version, e_rc_version⟩ := (Hx.gpB_ok (Hx.fact c 49))
  obtain ⟨oc14, od14, dV14, kV14, dc14, pm14, an14, cd14, ct14, sl14, l14, c14, k14, d14⟩ := Hx.fdef c 14; have hd14 := Hx.dNone_ok (K := K) (kV := kV14) d14; subst hd14
  obtain ⟨r_rc_size, e_rc_size⟩ := (Hx.gpB_ok (Hx.fact c 53))
  obtain ⟨oc15, od15, dV15, kV15, dc15, pm15, an15, cd15, ct15, sl15, l15, c15, k15, d15⟩ := Hx.fdef c 15; have hd15 := Hx.dNone_ok (K := K) (kV := kV15) d15; subst hd15
  obtain ⟨r_rc_first, e_rc_first⟩ := (Hx.gpB_ok (Hx.fact c 57))
  obtain ⟨oc16, od16, dV16, kV16, dc16, pm16, an16, cd16, ct16, sl16, l16, c16, k16, d16⟩ := Hx.fdef c 16; have hd16 := Hx.dNone_ok (K := K) (kV := kV16) d16; subst hd16
  obtain ⟨r_rc_between, e_rc_between⟩ := (Hx.gpB_ok (Hx.fact c 61))
  obtain ⟨oc17, od17, dV17, kV17, dc17, pm17, an17, cd17, ct17, sl17, l17, c17, k17, d17⟩ := Hx.fdef c 17; have hd17 := Hx.dNone_ok (K := K) (kV := kV17) d17; subst hd17
  obtain ⟨r_rc_last, e_rc_last⟩ := (Hx.gpB_ok (Hx.fact c 65))
  obtain ⟨oc18, od18, dV18, kV18, dc18, pm18, an18, cd18, ct18, sl18, l18, c18, k18, d18⟩ := Hx.fdef c 18; have hd18 := Hx.dNone_ok (K := K) (kV := kV18) d18; subst hd18
  obtain ⟨oc19, od19, dV19, kV19, dc19, pm19, an19, cd19, ct19, sl19, l19, c19, k19, d19⟩ := Hx.fdef c 19; obtain ⟨T19, oo19, tt19, nn19, ss19, hd19, e_T19⟩ := Hx.dInt_ok (K := K) (kV := kV19) d19; subst hd19
  obtain ⟨oc20, od20, dV20, kV20, dc20, pm20, an20, cd20, ct20, sl20, l20, c20, k20, d20⟩ := Hx.fdef c 20; obtain ⟨T20, oo20, tt20, nn20, ss20, hd20, e_T20⟩ := Hx.dInt_ok (K := K) (kV := kV20) d20; subst hd20
  obtain ⟨ts_aRl, o_aRl, n_aRl, s_aRl, l_aRl, e_aRl⟩ := (Hx.tupsB_ok (Hx.fact c 69))
  obtain ⟨uaRl0, uaRl1, uaRl2, rfl⟩ : ∃ uaRl0 uaRl1 uaRl2, ts_aRl = [uaRl0, uaRl1, uaRl2] := by match ts_aRl, l_aRl with | [uaRl0, uaRl1, uaRl2], _ => exact ⟨uaRl0, uaRl1, uaRl2, rfl⟩
  obtain ⟨oc21, od21, dV21, kV21, dc21, pm21, an21, cd21, ct21, sl21, l21, c21, k21, d21⟩ := Hx.fdef c 21; have hd21 := Hx.dNone_ok (K := K) (kV := kV21) d21; subst hd21
  obtain ⟨oc22, od22, dV22, kV22, dc22, pm22, an22, cd22, ct22, sl22, l22, c22, k22, d22⟩ := Hx.fdef c 22; have hd22 := Hx.dNone_ok (K := K) (kV := kV22) d22; subst hd22
  obtain ⟨oc23, od23, dV23, kV23, dc23, pm23, an23, cd23, ct23, sl23, l23, c23, k23, d23⟩ := Hx.fdef c 23; have hd23 := Hx.dNone_ok (K := K) (kV := kV23) d23; subst hd23
  obtain ⟨oc24, od24, dV24, kV24, dc24, pm24, an24, cd24, ct24, sl24, l24, c24, k24, d24⟩ := Hx.fdef c 24; have hd24 := Hx.dNone_ok (K := K) (kV := kV24) d24; subst hd24
  obtain ⟨oc25, od25, dV25, kV25, dc25, pm25, an25, cd25, ct25, sl25, l25, c25, k25, d25⟩ := Hx.fdef c 25; have hd25 := Hx.dNone_ok (K := K) (kV := kV25) d25; subst hd25
  obtain ⟨oc26, od26, dV26, kV26, dc26, pm26, an26, cd26, ct26, sl26, l26, c26, k26, d26⟩ := Hx.fdef c 26; have hd26 := Hx.dNone_ok (K := K) (kV := kV26) d26; subst hd26
  obtain ⟨oc27, od27, dV27, kV27, dc27, pm27, an27, cd27, ct27, sl27, l27, c27, k27, d27⟩ := Hx.fdef c 27; have hd27 := Hx.dNone_ok (K := K) (kV := kV27) d27; subst hd27
  obtain ⟨oc28, od28, dV28, kV28, dc28, pm28, an28, cd28, ct28, sl28, l28, c28, k28, d28⟩ := Hx.fdef c 28; have hd28 := Hx.dNone_ok (K := K) (kV := kV28) d28; subst hd28
  obtain ⟨oc29, od29, dV29, kV29, dc29, pm29, an29, cd29, ct29, sl29, l29, c29, k29, d29⟩ := Hx.fdef c 29; have hd29 := Hx.dNone_ok (K := K) (kV := kV29) d29; subst hd29
  obtain ⟨oc30, od30, dV30, kV30, dc30, pm30, an30, cd30, ct30, sl30, l30, c30, k30, d30⟩ := Hx.fdef c 30; have hd30 := Hx.dNone_ok (K := K) (kV := kV30) d30; subst hd30
  obtain ⟨oc31, od31, dV31, kV31, dc31, pm31, an31, cd31, ct31, sl31, l31, c31, k31, d31⟩ := Hx.fdef c 31; have hd31 := Hx.dNone_ok (K := K) (kV := kV31) d31; subst hd31
  obtain ⟨oc32, od32, dV32, kV32, dc32, pm32, an32, cd32, ct32, sl32, l32, c32, k32, d32⟩ := Hx.fdef c 32; have hd32 := Hx.dNone_ok (K := K) (kV := kV32) d32; subst hd32
  obtain ⟨oc33, od33, dV33, kV33, dc33, pm33, an33, cd33, ct33, sl33, l33, c33, k33, d33⟩ := Hx.fdef c 33; have hd33 := Hx.dNone_ok (K := K) (kV := kV33) d33; subst hd33
  obtain ⟨oc34, od34, dV34, kV34, dc34, pm34, an34, cd34, ct34, sl34, l34, c34, k34, d34⟩ := Hx.fdef c 34; have hd34 := Hx.dNone_ok (K := K) (kV := kV34) d34; subst hd34
  obtain ⟨oc35, od35, dV35, kV35, dc35, pm35, an35, cd35, ct35, sl35, l35, c35, k35, d35⟩ := Hx.fdef c 35; have hd35 := Hx.dNone_ok (K := K) (kV := kV35) d35; subst hd35
  obtain ⟨oc36, od36, dV36, kV36, dc36, pm36, an36, cd36, ct36, sl36, l36, c36, k36, d36⟩ := Hx.fdef c 36; have hd36 := Hx.dNone_ok (K := K) (kV := kV36) d36; subst hd36
  obtain ⟨oc37, od37, dV37, kV37, dc37, pm37, an37, cd37, ct37, sl37, l37, c37, k37, d37⟩ := Hx.fdef c 37; have hd37 := Hx.dNone_ok (K := K) (kV := kV37) d37; subst hd37
  obtain ⟨oc38, od38, dV38, kV38, dc38, pm38, an38, cd38, ct38, sl38, l38, c38, k38, d38⟩ := Hx.fdef c 38; have hd38 := Hx.dNone_ok (K := K) (kV := kV38) d38; subst hd38
  obtain ⟨oc39, od39, dV39, kV39, dc39, pm39, an39, cd39, ct39, sl39, l39, c39, k39, d39⟩ := Hx.fdef c 39; have hd39 := Hx.dNone_ok (K := K) (kV := kV39) d39; subst hd39
  obtain ⟨oc40, od40, dV40, kV40, dc40, pm40, an40, cd40, ct40, sl40, l40, c40, k40, d40⟩ := Hx.fdef c 40; have hd40 := Hx.dNone_ok (K := K) (kV := kV40) d40; subst hd40
  obtain ⟨oc41, od41, dV41, kV41, dc41, pm41, an41, cd41, ct41, sl41, l41, c41, k41, d41⟩ := Hx.fdef c 41; have hd41 := Hx.dNone_ok (K := K) (kV := kV41) d41; subst hd41
  obtain ⟨oc42, od42, dV42, kV42, dc42, pm42, an42, cd42, ct42, sl42, l42, c42, k42, d42⟩ := Hx.fdef c 42; have hd42 := Hx.dNone_ok (K := K) (kV := kV42) d42; subst hd42
  obtain ⟨oc43, od43, dV43, kV43, dc43, pm43, an43, cd43, ct43, sl43, l43, c43, k43, d43⟩ := Hx.fdef c 43; have hd43 := Hx.dNone_ok (K := K) (kV := kV43) d43; subst hd43
  obtain ⟨oc44, od44, dV44, kV44, dc44, pm44, an44, cd44, ct44, sl44, l44, c44, k44, d44⟩ := Hx.fdef c 44; have hd44 := Hx.dNone_ok (K := K) (kV := kV44) d44; subst hd44
  obtain ⟨oc45, od45, dV45, kV45, dc45, pm45, an45, cd45, ct45, sl45, l45, c45, k45, d45⟩ := Hx.fdef c 45; have hd45 := Hx.dNone_ok (K := K) (kV := kV45) d45; subst hd45
  obtain ⟨oc46, od46, dV46, kV46, dc46, pm46, an46, cd46, ct46, sl46, l46, c46, k46, d46⟩ := Hx.fdef c 46; have hd46 := Hx.dNone_ok (K := K) (kV := kV46) d46; subst hd46
  obtain ⟨oc47, od47, dV47, kV47, dc47, pm47, an47, cd47, ct47, sl47, l47, c47, k47, d47⟩ := Hx.fdef c 47; have hd47 := Hx.dNone_ok (K := K) (kV := kV47) d47; subst hd47
  obtain ⟨oc48, od48, dV48, kV48, dc48, pm48, an48, cd48, ct48, sl48, l48, c48, k48, d48⟩ := Hx.fdef c 48; have hd48 := Hx.dNone_ok (K := K) (kV := kV48) d48; subst hd48
  obtain ⟨oc49, od49, dV49, kV49, dc49, pm49, an49, cd49, ct49, sl49, l49, c49, k49, d49⟩ := Hx.fdef c 49; have hd49 := Hx.dNone_ok (K := K) (kV := kV49) d49; subst hd49
  obtain ⟨oc50, od50, dV50, kV50, dc50, pm50, an50, cd50, ct50, sl50, l50, c50, k50, d50⟩ := Hx.fdef c 50; have hd50 := Hx.dNone_ok (K := K) (kV := kV50) d50; subst hd50
  obtain ⟨oc51, od51, dV51, kV51, dc51, pm51, an51, cd51, ct51, sl51, l51, c51, k51, d51⟩ := Hx.fdef c 51; have hd51 := Hx.dNone_ok (K := K) (kV := kV51) d51; subst hd51
  obtain ⟨oc52, od52, dV52, kV52, dc52, pm52, an52, cd52, ct52, sl52, l52, c52, k52, d52⟩ := Hx.fdef c 52; have hd52 := Hx.dNone_ok (K := K) (kV := kV52) d52; subst hd52
  obtain ⟨oc53, od53, dV53, kV53, dc53, pm53, an53, cd53, ct53, sl53, l53, c53, k53, d53⟩ := Hx.fdef c 53; have hd53 := Hx.dNone_ok (K := K) (kV := kV53) d53; subst hd53
  obtain ⟨oc54, od54, dV54, kV54, dc54, pm54, an54, cd54, ct54, sl54, l54, c54, k54, d54⟩ := Hx.fdef c 54; have hd54 := Hx.dNone_ok (K := K) (kV := kV54) d54; subst hd54
  obtain ⟨oc55, od55, dV55, kV55, dc55, pm55, an55, cd55, ct55, sl55, l55, c55, k55, d55⟩ := Hx.fdef c 55; have hd55 := Hx.dNone_ok (K := K) (kV := kV55) d55; subst hd55
  obtain ⟨oc56, od56, dV56, kV56, dc56, pm56, an56, cd56, ct56, sl56, l56, c56, k56, d56⟩ := Hx.fdef c 56; have hd56 := Hx.dNone_ok (K := K) (kV := kV56) d56; subst hd56
  obtain ⟨oc57, od57, dV57, kV57, dc57, pm57, an57, cd57, ct57, sl57, l57, c57, k57, d57⟩ := Hx.fdef c 57; have hd57 := Hx.dNone_ok (K := K) (kV := kV57) d57; subst hd57
  obtain ⟨oc58, od58, dV58, kV58, dc58, pm58, an58, cd58, ct58, sl58, l58, c58, k58, d58⟩ := Hx.fdef c 58; have hd58 := Hx.dNone_ok (K := K) (kV := kV58) d58; subst hd58
  obtain ⟨oc59, od59, dV59, kV59, dc59, pm59, an59, cd59, ct59, sl59, l59, c59, k59, d59⟩ := Hx.fdef c 59; have hd59 := Hx.dNone_ok (K := K) (kV := kV59) d59; subst hd59
  obtain ⟨oc60, od60, dV60, kV60, dc60, pm60, an60, cd60, ct60, sl60, l60, c60, k60, d60⟩ := Hx.fdef c 60; have hd60 := Hx.dNone_ok (K := K) (kV := kV60) d60; subst hd60
  obtain ⟨oc61, od61, dV61, kV61, dc61, pm61, an61, cd61, ct61, sl61, l61, c61, k61, d61⟩ := Hx.fdef c 61; have hd61 := Hx.dNone_ok (K := K) (kV := kV61) d61; subst hd61
  obtain ⟨oc62, od62, dV62, kV62, dc62, pm62, an62, cd62, ct62, sl62, l62, c62, k62, d62⟩ := Hx.fdef c 62; have hd62 := Hx.dNone_ok (K := K) (kV := kV62) d62; subst hd62
  obtain ⟨oc63, od63, dV63, kV63, dc63, pm63, an63, cd63, ct63, sl63, l63, c63, k63, d63⟩ := Hx.fdef c 63; have hd63 := Hx.dNone_ok (K := K) (kV := kV63) d63; subst hd63
  obtain ⟨oc64, od64, dV64, kV64, dc64, pm64, an64, cd64, ct64, sl64, l64, c64, k64, d64⟩ := Hx.fdef c 64; have hd64 := Hx.dNone_ok (K := K) (kV := kV64) d64; subst hd64
  obtain ⟨oc65, od65, dV65, kV65, dc65, pm65, an65, cd65, ct65, sl65, l65, c65, k65, d65⟩ := Hx.fdef c 65; have hd65 := Hx.dNone_ok (K := K) (kV := kV65) d65; subst hd65
  obtain ⟨oc66, od66, dV66, kV66, dc66, pm66, an66, cd66, ct66, sl66, l66, c66, k66, d66⟩ := Hx.fdef c 66; have hd66 := Hx.dNone_ok (K := K) (kV := kV66) d66; subst hd66
  obtain ⟨t_v1, e_v1⟩ := (Hx.intB_ok (Hx.fact c 133))
  exact all_mk (l := PySem.Challenge.rw_treewalks_k68_whole_desks_and_functions) X G hfa
    (of_decide_eq_true (Hx.fact c 0))
    (Hx.fact c 1)
    (Hx.fact c 2)
    (Hx.fact c 3)
    (of_decide_eq_true (Hx.fact c 4))
    (Hx.fact c 5)
    (Hx.fact c 134)
    (of_decide_eq_true (Hx.fact c 6))
    (of_decide_eq_true (Hx.fact c 7))
    (of_decide_eq_true (Hx.fact c 8))
    e_mo
    e_mg
    (of_decide_eq_true (Hx.fact c 10))
    e_aAl
    e_aAlk
    (of_decide_eq_true (Hx.fact c 12))
    (of_decide_eq_true (Hx.fact c 13))
    (of_decide_eq_true (Hx.fact c 14))
    (of_decide_eq_true (Hx.fact c 15))
    (of_decide_eq_true (Hx.fact c 16))
    e_aKl
    (of_decide_eq_true (Hx.fact c 18))
    (Hx.fact c 19)
    k0
    l0
    c0
    (of_decide_eq_true (Hx.fact c 20))
    (Hx.fact c 21)
    k1
    l1
    c1
    (of_decide_eq_true (Hx.fact c 22))
    (Hx.fact c 23)
    k2
    l2
    c2
    (of_decide_eq_true (Hx.fact c 24))
    (Hx.fact c 25)
    k3
    l3
    c3
    (of_decide_eq_true (Hx.fact c 26))
    (Hx.fact c 27)
    k4
    l4
    c4
    (of_decide_eq_true (Hx.fact c 28))
    (Hx.fact c 29)
    k5
    l5
    c5
    (of_decide_eq_true (Hx.fact c 30))
    (Hx.fact c 31)
    k6
    l6
    c6
    (of_decide_eq_true (Hx.fact c 32))
    (Hx.fact c 33)
    k7
    l7
    c7
    (of_decide_eq_true (Hx.fact c 34))
    (Hx.fact c 35)
    k8
    l8
    c8
    (of_decide_eq_true (Hx.fact c 36))
    (Hx.fact c 37)
    k9
    l9
    c9
    (of_decide_eq_true (Hx.fact c 38))
    (Hx.fact c 39)
    k10
    l10
    c10
    (of_decide_eq_true (Hx.fact c 40))
    (Hx.fact c 41)
    k11
    l11
    c11
    (of_decide_eq_true (Hx.fact c 42))
    (Hx.fact c 43)
    k12
    l12
    c12
    (of_decide_eq_true (Hx.fact c 44))
    (Hx.fact c 45)
    k13
    l13
    c13
    e_D13
    (of_decide_eq_true (Hx.fact c 46))
    (of_decide_eq_true (Hx.fact c 47))
    (of_decide_eq_true (Hx.fact c 48))
    e_rc_version
    k14
    l14
    c14
    (of_decide_eq_true (Hx.fact c 50))
    (of_decide_eq_true (Hx.fact c 51))
    (of_decide_eq_true (Hx.fact c 52))
    e_rc_size
    k15
    l15
    c15
    (of_decide_eq_true (Hx.fact c 54))
    (of_decide_eq_true (Hx.fact c 55))
    (of_decide_eq_true (Hx.fact c 56))
    e_rc_first
    k16
    l16
    c16
    (of_decide_eq_true (Hx.fact c 58))
    (of_decide_eq_true (Hx.fact c 59))
    (of_decide_eq_true (Hx.fact c 60))
    e_rc_between
    k17
    l17
    c17
    (of_decide_eq_true (Hx.fact c 62))
    (of_decide_eq_true (Hx.fact c 63))
    (of_decide_eq_true (Hx.fact c 64))
    e_rc_last
    k18
    l18
    c18
    (of_decide_eq_true (Hx.fact c 66))
    k19
    l19
    c19
    e_T19
    (of_decide_eq_true (Hx.fact c 67))
    k20
    l20
    c20
    e_T20
    (of_decide_eq_true (Hx.fact c 68))
    e_aRl
    (of_decide_eq_true (Hx.fact c 70))
    l21
    c21
    k21
    (of_decide_eq_true (Hx.fact c 71))
    l22
    c22
    k22
    (of_decide_eq_true (Hx.fact c 72))
    l23
    c23
    k23
    (of_decide_eq_true (Hx.fact c 73))
    l24
    c24
    k24
    (of_decide_eq_true (Hx.fact c 74))
    l25
    c25
    k25
    (of_decide_eq_true (Hx.fact c 75))
    l26
    c26
    k26
    (of_decide_eq_true (Hx.fact c 76))
    l27
    c27
    k27
    (of_decide_eq_true (Hx.fact c 77))
    l28
    c28
    k28
    (of_decide_eq_true (Hx.fact c 78))
    l29
    c29
    k29
    (of_decide_eq_true (Hx.fact c 79))
    l30
    c30
    k30
    (of_decide_eq_true (Hx.fact c 80))
    l31
    c31
    k31
    (of_decide_eq_true (Hx.fact c 81))
    l32
    c32
    k32
    (of_decide_eq_true (Hx.fact c 82))
    l33
    c33
    k33
    (of_decide_eq_true (Hx.fact c 83))
    l34
    c34
    k34
    (of_decide_eq_true (Hx.fact c 84))
    l35
    c35
    k35
    (of_decide_eq_true (Hx.fact c 85))
    l36
    c36
    k36
    (of_decide_eq_true (Hx.fact c 86))
    l37
    c37
    k37
    (of_decide_eq_true (Hx.fact c 87))
    l38
    c38
    k38
    (of_decide_eq_true (Hx.fact c 88))
    l39
    c39
    k39
    (of_decide_eq_true (Hx.fact c 89))
    l40
    c40
    k40
    (of_decide_eq_true (Hx.fact c 90))
    l41
    c41
    k41
    (of_decide_eq_true (Hx.fact c 91))
    l42
    c42
    k42
    (of_decide_eq_true (Hx.fact c 92))
    l43
    c43
    k43
    (of_decide_eq_true (Hx.fact c 93))
    l44
    c44
    k44
    (of_decide_eq_true (Hx.fact c 94))
    l45
    c45
    k45
    (of_decide_eq_true (Hx.fact c 95))
    l46
    c46
    k46
    (of_decide_eq_true (Hx.fact c 96))
    l47
    c47
    k47
    (of_decide_eq_true (Hx.fact c 97))
    l48
    c48
    k48
    (of_decide_eq_true (Hx.fact c 98))
    l49
    c49
    k49
    (of_decide_eq_true (Hx.fact c 99))
    l50
    c50
    k50
    (of_decide_eq_true (Hx.fact c 100))
    l51
    c51
    k51
    (of_decide_eq_true (Hx.fact c 101))
    l52
    c52
    k52
    (of_decide_eq_true (Hx.fact c 102))
    l53
    c53
    k53
    (of_decide_eq_true (Hx.fact c 103))
    l54
    c54
    k54
    (of_decide_eq_true (Hx.fact c 104))
    l55
    c55
    k55
    (of_decide_eq_true (Hx.fact c 105))
    l56
    c56
    k56
    (of_decide_eq_true (Hx.fact c 106))
    l57
    c57
    k57
    (of_decide_eq_true (Hx.fact c 107))
    l58
    c58
    k58
    (of_decide_eq_true (Hx.fact c 108))
    l59
    c59
    k59
    (of_decide_eq_true (Hx.fact c 109))
    l60
    c60
    k60
    (of_decide_eq_true (Hx.fact c 110))
    l61
    c61
    k61
    (of_decide_eq_true (Hx.fact c 111))
    l62
    c62
    k62
    (of_decide_eq_true (Hx.fact c 112))
    l63
    c63
    k63
    (of_decide_eq_true (Hx.fact c 113))
    l64
    c64
    k64
    (of_decide_eq_true (Hx.fact c 114))
    l65
    c65
    k65
    (of_decide_eq_true (Hx.fact c 115))
    l66
    c66
    k66
    (of_decide_eq_true (Hx.fact c 116))
    (of_decide_eq_true (Hx.fact c 117))
    (of_decide_eq_true (Hx.fact c 118))
    (of_decide_eq_true (Hx.fact c 119))
    (of_decide_eq_true (Hx.fact c 120))
    (of_decide_eq_true (Hx.fact c 121))
    (of_decide_eq_true (Hx.fact c 122))
    (of_decide_eq_true (Hx.fact c 123))
    (of_decide_eq_true (Hx.fact c 124))
    (of_decide_eq_true (Hx.fact c 125))
    (of_decide_eq_true (Hx.fact c 126))
    (of_decide_eq_true (Hx.fact c 127))
    (of_decide_eq_true (Hx.fact c 128))
    (of_decide_eq_true (Hx.fact c 129))
    (of_decide_eq_true (Hx.fact c 130))
    (of_decide_eq_true (Hx.fact c 131))
    (of_decide_eq_true (Hx.fact c 132))
    e_v1
    base H s a ns h1 h2 en hS few
end Tw
open PySem PySem.W PyProof.Rows
set_option maxRecDepth 100000 in
set_option maxHeartbeats 0 in
theorem PySem.Challenge.cw_treewalks_k68_whole_desks_and_functions_holds : PySem.Challenge.rw_treewalks_k68_whole_desks_and_functions.Holds := by
  w_on; o_law
  refine HandSHeadRun.head_any (r := OpenLaw.row PySem.Challenge.rw_treewalks_k68_whole_desks_and_functions) (q := Tw.Hx.qv) (H := Tw.Hx.hk) (ob := Tw.Hx.ob) (M := 9000) (loose := Tw.Hx.loose) (d := HandSHeadRun.topDef (OpenLaw.row PySem.Challenge.rw_treewalks_k68_whole_desks_and_functions).prog 92) (kwd := []) Tw.Hx.ob_ok
    (by kernel_rfl) (fun s => by kernel_rfl) Tw.Hx.run (by kernel_rfl) (by kernel_rfl) (by kernel_rfl) (by rfl) (by first | assumption | decide +kernel) (by decide +kernel) ⟨rfl, rfl, rfl, rfl, rfl, by decide +kernel⟩ ?hw ?hc
  case hw => w_witness2
  case hc =>
    exact Tw.walk_at2 (l := PySem.Challenge.rw_treewalks_k68_whole_desks_and_functions) rfl (by kernel_rfl) (by kernel_rfl) (fun w h Y => Y) (fun w mg fa h K X c G hmg => Tw.ends w mg fa h K X c G hmg)
