import PyProof.Rows.All
import Wide.All
import OpenK.AllK
import Wide.FinOn
import HandS.ForMost
import HandS.ForExc
import HandS.Wide
import HandS.IsInst
import HandS.Flow
import HandS.FStrTup
import HandS.NoneIn
import HandS.TupAny
import HandS.Style
import HandS.TryMany
import HandS.ExcIs
import HandS.ExcField
import HandS.ExcOwn
import KE.KExcInit
import KE.KExcIs
import HandS.Walk
import HandS.Zip
import HandS.Star
import HandS.Style
import PyProof.Rows.SortShellAny
import KE.GoesZip
import KE.GoesMore
import KE.SortKeyHeap
import HandS.Lambda
import HandS.EndTab
import PyProof.CollectStr
import PyProof.P3Eq
import HandS.Sort
import HandS.Set
import HandS.SetFor
import HandS.Strs
import HandS.SetTxt0
import HandS.TupSets
import HandS.DictComp
import KE.KSortTupG
import KE.KSortTupUse
import HandS.More
import HandS.Replace
import HandS.ClsMeth
import HandS.Defaults
import HandS.CallSlots
import HandS.Property
import HandS.CallLocal
import HandS.FStr
import HandS.SlotsOwn
import KE.KCallOwn
import PySem.Challenge.RW_treewalks_k60_desks_and_edits
set_option Elab.async false
set_option maxRecDepth 100000
set_option maxHeartbeats 4000000
namespace Tw
open PySem PySem.Spec PyProof.Rows L2
/-! ### trees over signs -/
abbrev ch (c : Nat) : Str := ⟨#[c]⟩
def tx (l : List Nat) : Str := ⟨l.toArray⟩
theorem tx_cps (l : List Nat) : (tx l).cps.toList = l := rfl
theorem tx_size (l : List Nat) : (tx l).cps.size = l.length := rfl
theorem tx_len (l : List Nat) : (tx l).length = l.length := rfl
theorem tx_one (c : Nat) : tx [c] = ch c := rfl
theorem tx_app (a b : List Nat) : tx a ++ tx b = tx (a ++ b) := by
  show (⟨(tx a).cps ++ (tx b).cps⟩ : Str) = _
  simp [tx]
theorem ch_app (c : Nat) (b : List Nat) : ch c ++ tx b = tx (c :: b) := tx_app [c] b
theorem tx_inj {a b : List Nat} (h : tx a = tx b) : a = b := congrArg (fun z : Str => z.cps.toList) h
theorem ch_inj {a b : Nat} (h : ch a = ch b) : a = b := by have := tx_inj (a := [a]) (b := [b]) h; simpa using this
theorem ch_lt (a b : Nat) : decide ((ch a).cps.toList < (ch b).cps.toList) = decide (a < b) := by
  have : ((ch a).cps.toList < (ch b).cps.toList) ↔ a < b := by
    show [a] < [b] ↔ _
    simp [List.cons_lt_cons_iff]
  simp only [this]
theorem tx_to (l : List Nat) (k : Nat) : cutS (tx l) none (some (k : Int)) = tx (l.take k) := by
  unfold cutS tx
  show (⟨_⟩ : Str) = ⟨_⟩
  rw [HT.sIx_nat, HT.sIx_none]
  show (⟨((l.drop 0).take (min k l.length - 0)).toArray⟩ : Str) = ⟨(l.take k).toArray⟩
  rw [List.drop_zero, Nat.sub_zero, Nat.min_def]
  split
  · rfl
  · rw [List.take_of_length_le (Nat.le_refl _), List.take_of_length_le (by omega)]
theorem tx_from (l : List Nat) (k : Nat) : cutS (tx l) (some (k : Int)) none = tx (l.drop k) := by
  unfold cutS tx
  show (⟨_⟩ : Str) = ⟨_⟩
  rw [HT.sIx_nat, HT.sIx_none]
  show (⟨((l.drop (min k l.length)).take (l.length - min k l.length)).toArray⟩ : Str) = ⟨(l.drop k).toArray⟩
  by_cases h : k ≤ l.length
  · rw [Nat.min_eq_left h, List.take_of_length_le (by rw [List.length_drop]; omega)]
  · rw [Nat.min_eq_right (by omega), List.drop_eq_nil_of_le (Nat.le_refl _), List.drop_eq_nil_of_le (by omega), List.take_nil]
theorem joinL_ones : ∀ l : List Nat, TL.joinL [] (l.map fun c => [c]) = l
  | [] => rfl
  | [c] => rfl
  | c :: d :: r => by
    have := joinL_ones (d :: r)
    show [c] ++ ([] ++ TL.joinL [] ((d :: r).map fun c => [c])) = _
    rw [this]; rfl
theorem tx_join (l : List Nat) : Txt.join (Str.ofString "") (l.map ch) = tx l := by
  rw [TL.join_eq]
  have e := TL.tl_join (Str.ofString "") (l.map ch)
  refine TL.ext_tl (e.trans ?_)
  rw [List.map_map]
  exact joinL_ones l
theorem tx_joinOk (l : List Nat) (h : l.length ≤ 1000) : ((l.map ch).map (·.length)).sum + (l.map ch).length * (Str.ofString "").length ≤ 16777216 := by
  have e0 : (Str.ofString "").length = 0 := by decide +kernel
  have e1 : ∀ l : List Nat, ((l.map ch).map (·.length)).sum = l.length := by
    intro l
    induction l with
    | nil => rfl
    | cons c r ih =>
      rw [List.map_cons, List.map_cons, List.sum_cons, ih, List.length_cons]
      show 1 + r.length = _
      omega
  rw [e0, e1]
  omega
inductive B where
  | nil
  | node (l : B) (x : Nat) (r : B)
  deriving DecidableEq
def B.size : B → Nat
  | .nil => 0
  | .node l _ r => l.size + 1 + r.size
def B.deep : B → Nat
  | .nil => 0
  | .node l _ r => 1 + max l.deep r.deep
def B.data : B → PyData
  | .nil => .none
  | .node l x r => .tuple [l.data, .str (ch x), r.data]
def B.pre : B → List Nat
  | .nil => []
  | .node l x r => x :: (l.pre ++ r.pre)
def B.mid : B → List Nat
  | .nil => []
  | .node l x r => l.mid ++ x :: r.mid
theorem B.deep_le : ∀ t : B, t.deep ≤ t.size
  | .nil => Nat.le_refl _
  | .node l _ r => by
    have h1 := l.deep_le
    have h2 := r.deep_le
    show 1 + max l.deep r.deep ≤ l.size + 1 + r.size
    omega
theorem B.pre_len : ∀ t : B, t.pre.length = t.size
  | .nil => rfl
  | .node l x r => by
    have h1 := l.pre_len
    have h2 := r.pre_len
    show (x :: (l.pre ++ r.pre)).length = l.size + 1 + r.size
    rw [List.length_cons, List.length_append]
    omega
theorem B.mid_len : ∀ t : B, t.mid.length = t.size
  | .nil => rfl
  | .node l x r => by
    have h1 := l.mid_len
    have h2 := r.mid_len
    show (l.mid ++ x :: r.mid).length = l.size + 1 + r.size
    rw [List.length_append, List.length_cons]
    omega
theorem B.mid_mem (t : B) (c : Nat) : c ∈ t.mid ↔ c ∈ t.pre := by
  induction t with
  | nil => exact Iff.rfl
  | node l x r h1 h2 =>
    show c ∈ l.mid ++ x :: r.mid ↔ c ∈ x :: (l.pre ++ r.pre)
    rw [List.mem_append, List.mem_cons, List.mem_cons, List.mem_append, h1, h2]
    constructor
    · rintro (h | h | h)
      · exact .inr (.inl h)
      · exact .inl h
      · exact .inr (.inr h)
    · rintro (h | h | h)
      · exact .inr (.inl h)
      · exact .inl h
      · exact .inr (.inr h)
/-- the tree t lies at v -/
inductive BAt (H : Hp) : V → B → Prop
  | nil : BAt H .non .nil
  | node {a : Addr} {l r : V} {x : Nat} {tl tr : B} : H a = some (.tup [l, .str (ch x), r]) → BAt H l tl → BAt H r tr → BAt H (.ref a) (.node tl x tr)
/-- tuples stand still -/
def KeepT (H H' : Hp) : Prop := ∀ b xs, H b = some (.tup xs) → H' b = some (.tup xs)
theorem KeepT.refl (H : Hp) : KeepT H H := fun _ _ h => h
theorem KeepT.trans {H H1 H2 : Hp} (a : KeepT H H1) (b : KeepT H1 H2) : KeepT H H2 := fun c xs h => b c xs (a c xs h)
theorem Same.keepT {H H' : Hp} (h : Same H H') : KeepT H H' := fun b xs e => h b _ e
theorem BAt.keep {H H' : Hp} (k : KeepT H H') {v : V} {t : B} (h : BAt H v t) : BAt H' v t := by
  induction h with
  | nil => exact .nil
  | node e _ _ h1 h2 => exact .node (k _ _ e) h1 h2
theorem BAt.same {H H' : Hp} (k : Same H H') {v : V} {t : B} (h : BAt H v t) : BAt H' v t := h.keep (Tw.Same.keepT k)
theorem BAt.dp {K : PySem.W.Frag} {H : Hp} {v : V} {t : B} (h : BAt H v t) : Dp K H v t.data := by
  induction h with
  | nil => exact .non
  | node e _ _ h1 h2 => exact .tup (SqT.of e) (.cons h1 (.cons (.str _) (.cons h2 .nil)))
theorem BAt.inv {H : Hp} {v : V} {t : B} (h : BAt H v t) : (v = .non ∧ t = .nil) ∨ ∃ a l r x tl tr, v = .ref a ∧ t = .node tl x tr ∧ H a = some (.tup [l, .str (ch x), r]) ∧ BAt H l tl ∧ BAt H r tr := by
  cases h with
  | nil => exact .inl ⟨rfl, rfl⟩
  | node e h1 h2 => exact .inr ⟨_, _, _, _, _, _, rfl, rfl, e, h1, h2⟩
theorem same_new {H : Hp} {p : Addr} (h : H p = none) (o : HO) : Same H (upd H p o) := fun b u q => by rw [upd_ne (ne_of_none q h)]; exact q
theorem small {n : Nat} (h : n ≤ 1000) : n ≤ sizeLine := Nat.le_of_lt (small1000 h)
theorem at_map {α : Type} {f : α → V} {ns : List α} {i : Int} {v : α} (h0 : 0 ≤ i) (h : ns[i.toNat]? = some v) : atI (ns.map f) i = some (f v) := by
  have e : i = ((i.toNat : Nat) : Int) := by omega
  rw [e]
  exact atI_nat (by rw [List.getElem?_map, h]; rfl)
theorem ixN_nat {n : Nat} {i : Int} (h0 : 0 ≤ i) (h : i < n) : ixN n i = some i.toNat := by
  unfold ixN
  first
    | rw [if_pos h0, if_pos h]
    | (rw [if_pos h0]; rw [if_pos (by omega)])
    | simp [h0, h]
theorem cut_to (xs : List V) (k : Nat) : cutV xs none (some (k : Int)) = xs.take k := by
  unfold cutV
  rw [HT.sIx_nat, HT.sIx_none, List.drop_zero, Nat.sub_zero]
  rw [Nat.min_def]
  split
  · rfl
  · rw [List.take_of_length_le (Nat.le_refl _), List.take_of_length_le (by omega)]
theorem cut_from (xs : List V) (k : Nat) : cutV xs (some (k : Int)) none = xs.drop k := by
  unfold cutV
  rw [HT.sIx_nat, HT.sIx_none]
  by_cases h : k ≤ xs.length
  · rw [Nat.min_eq_left h, List.take_of_length_le (by rw [List.length_drop]; omega)]
  · rw [Nat.min_eq_right (by omega), List.drop_eq_nil_of_le (Nat.le_refl _), List.drop_eq_nil_of_le (by omega), List.take_nil]
theorem kept {σ : L2.St} {H : Hp} {A B : Hp → Prop} (h : A H) : tYes σ H (fun b H3 => if b = true then A H3 else B H3) := by
  show if true = true then A H else B H
  exact iteT h
theorem erase_map {α β : Type} (f : α → β) : ∀ (l : List α) (i : Nat), (l.map f).eraseIdx i = (l.eraseIdx i).map f
  | [], _ => rfl
  | _ :: _, 0 => rfl
  | x :: l, i + 1 => congrArg (f x :: ·) (erase_map f l i)
/-- a def that stands at a name, with its promise -/
structure Df (P : Program) (w : World) (K : PySem.W.Frag) (mg : Str → Option Value) (base : Heap) (k : Nat) (nm : Str) (ps : List Str) (sp : Sp) where
  f : Addr
  fd : FuncData
  ok : FnOk P w K mg base CX0 k f fd ps sp
  b : Binds K fd ps []
  kp : PySem.W.keepIn K (.ref f) = true
  g : mg nm = some (.ref f)
structure Mgs (mg : Str → Option Value) : Prop where
  zip : mg "zip" = none
  all : mg "all" = none
  repr : mg "repr" = none
  len : mg "len" = none
  isinstance : mg "isinstance" = none
  list : mg "list" = none
  tuple : mg "tuple" = none
  str : mg "str" = none
  int : mg "int" = none
  bool : mg "bool" = none
  dict : mg "dict" = none
  range : mg "range" = none
  sorted : mg "sorted" = none
  abs : mg "abs" = none
  min : mg "min" = none
  max : mg "max" = none
theorem vals_signs : ∀ (l : List Nat) (vs : List Value), vs.length = l.length → (∀ (j : Nat) (v : Value), vs[j]? = some v → ∃ c u, l[j]? = some c ∧ v = .str ⟨#[c]⟩ u) → Vals (l.map fun c => V.str ⟨#[c]⟩) vs
  | [], [], _, _ => .nil
  | [], _ :: _, h, _ => by simp at h
  | _ :: _, [], h, _ => by simp at h
  | c :: l, v :: vs, h, k => by
    obtain ⟨c', u, e, rfl⟩ := k 0 v rfl
    cases e
    exact .cons ⟨u, rfl⟩ (vals_signs l vs (by simpa using h) fun j v e => k (j + 1) v e)
theorem call_signs {X : Cx} (hc : X.calm = true) : CallR X (.type "list") (fun xs H Q => ∃ x : Str, xs = [.str x] ∧ x.cps.size ≤ 1000 ∧ ∀ p, H p = none → Q (.ref p) (upd H p (.lst (x.cps.toList.map fun c => V.str ⟨#[c]⟩)))) := by
  intro pins s σ H xs us Q I r h
  obtain ⟨x, rfl, hz, q⟩ := h
  obtain ⟨u, rfl, t, rfl⟩ := vals1 r
  have hz' : x.cps.size ≤ sizeLine := small hz
  refine call_list_str (I.ok.hd hc) x t (fun h' tk acc' c' hk hS hacc => ?_) hz'
  have hv : Vals (x.cps.toList.map fun c => V.str ⟨#[c]⟩) acc'.toList := vals_signs _ _ (by rw [Array.length_toList, Array.length_toList]; exact hacc.1) fun j v e => by
    obtain ⟨c, u, h1, h2⟩ := hacc.2 j v (by rw [← Array.getElem?_toList]; exact e)
    exact ⟨c, u, by rw [Array.getElem?_toList]; exact h1, h2⟩
  exact ⟨.ref s.heap.objs.size, _, I.laid (t' := tk) hk (Nat.le_refl _) (show ObjOk X.prog X.w _ h' _ (.lst _) from ⟨by rw [List.length_map, Array.length_toList]; exact hz', acc'.toList, c', hv, by rw [Array.toArray_toList]; exact hS⟩), rfl, q _ (I.hok.fresh (Nat.le_refl _))⟩
/-- for c in text -/
theorem for_text {x : Str} {g : TG} {tb : TS} {D : Ends} {σ : L2.St} {H : Hp} (Pv : Nat → L2.St → Hp → Prop) (h0 : Pv 0 σ H)
    (hs : ∀ i c σ H, x.cps.toList[i]? = some c → Pv i σ H → g (.str ⟨#[c]⟩) σ H fun σ2 H2 => tb { D with nx := Pv (i + 1), ct := Pv (i + 1), bk := D.nx } σ2 H2)
    (hd : ∀ σ H, Pv x.cps.toList.length σ H → D.nx σ H) :
    ∃ W : Nat → Nat → L2.St → Hp → Prop, (∃ m, W 0 m σ H) ∧ ∀ i m σ H, W i m σ H →
      ((Its x).stop i H ∧ D.nx σ H) ∨ ((Its x).go i H ∧ ∃ N : L2.St → Hp → Prop, (∀ σ' H', N σ' H' → ∃ m', m' < m ∧ W (i + 1) m' σ' H') ∧ ∀ v H', (Its x).yld i H v H' → g v σ H' fun σ2 H2 => tb { D with nx := N, ct := N, bk := D.nx } σ2 H2) := by
  refine for_it walk_str Pv h0 (fun _ _ _ _ _ => trivial) (fun i v σ H H' hi hp hy => ?_) (fun σ H hp => hd σ H (by rw [Array.length_toList]; exact hp))
  obtain ⟨rfl, c, hc, rfl⟩ := hy
  exact hs i c σ H' (by rw [Array.getElem?_toList]; exact hc) hp
theorem lc_text {x : Str} {g : TG} {tt : TT} {te : TE} {vs : List Nat} {σ : L2.St} {H1 : Hp} {D : Addr} {Qd : Hp → Prop} (Pv : Nat → Hp → Prop) (h0 : Pv 0 (upd H1 D (.lst [])))
    (hs : ∀ i c H, x.cps.toList[i]? = some c → Pv i H → g (.str ⟨#[c]⟩) (wipe σ vs) H fun σ2 H2 => wipe σ2 vs = wipe σ vs ∧ tt σ2 H2 fun b H3 =>
      if b = true then te σ2 H3 fun y H4 => ∃ acc, H4 D = some (.lst acc) ∧ acc.length < sizeLine ∧ Pv (i + 1) (upd H4 D (.lst (acc ++ [y]))) else Pv (i + 1) H3) (hd : ∀ H, Pv x.cps.toList.length H → Qd H) :
    ∃ W : Nat → Nat → Hp → Prop, (∃ m, W 0 m (upd H1 D (.lst []))) ∧ ∀ i m H, W i m H →
      ((Its x).stop i H ∧ Qd H) ∨ ((Its x).go i H ∧ ∃ Nx : Hp → Prop, (∀ H', Nx H' → ∃ m', m' < m ∧ W (i + 1) m' H') ∧ ∀ v H', (Its x).yld i H v H' → g v (wipe σ vs) H' fun σ2 H2 => wipe σ2 vs = wipe σ vs ∧ tt σ2 H2 fun b H3 =>
        if b = true then te σ2 H3 fun y H4 => ∃ acc, H4 D = some (.lst acc) ∧ acc.length < sizeLine ∧ Nx (upd H4 D (.lst (acc ++ [y]))) else Nx H3) := by
  refine lc_it walk_str Pv h0 (fun _ _ _ _ => trivial) (fun i v H H' hi hp hy => ?_) (fun H hp => hd H (by rw [Array.length_toList]; exact hp))
  obtain ⟨rfl, c, hc, rfl⟩ := hy
  exact hs i c H' (by rw [Array.getElem?_toList]; exact hc) hp
/-! ### the text by places -/
def top (i : Nat) : Stmt := PySem.Challenge.pw_treewalks_k60_desks_and_edits.main.body.getD i (.Pass ⟨0, 0, 0, 0⟩)
abbrev s__wall : Stmt := top 0
abbrev s_is_letter : Stmt := top 20
abbrev s_is_whole_number : Stmt := top 21
abbrev s_is_index : Stmt := top 22
abbrev s_is_node : Stmt := top 24
abbrev s_is_tree : Stmt := top 25
abbrev s_size_of : Stmt := top 26
abbrev s_part_at : Stmt := top 27
abbrev s_is_open : Stmt := top 28
abbrev s_replaced : Stmt := top 29
abbrev s_with_part : Stmt := top 30
abbrev s_mirrored : Stmt := top 31
abbrev s_node_at : Stmt := top 33
abbrev s_with_node : Stmt := top 34
abbrev s_without_node : Stmt := top 35
abbrev s_with_label : Stmt := top 36
abbrev s_turned : Stmt := top 37
abbrev s_has_form_of_edit : Stmt := top 40
abbrev s_edited : Stmt := top 41
abbrev s_is_kind : Stmt := top 44
abbrev s_ordered_steps : Stmt := top 45
abbrev s_deep_steps : Stmt := top 46
abbrev s_level_steps : Stmt := top 47
abbrev s_walk : Stmt := top 48
abbrev s_parse_tree : Stmt := top 50
abbrev s_sign_at : Stmt := top 51
abbrev s_read_tree : Stmt := top 52
abbrev s_read_left : Stmt := top 53
abbrev s_read_side : Stmt := top 54
abbrev s__law_stream : Stmt := top 58
abbrev s__law_take : Stmt := top 59
abbrev s__law_equal : Stmt := top 60
abbrev s__law_letter : Stmt := top 61
abbrev s__law_paths : Stmt := top 62
abbrev s__law_part : Stmt := top 63
abbrev s__law_grafted : Stmt := top 64
abbrev s__law_swapped : Stmt := top 65
abbrev s__law_labels : Stmt := top 66
abbrev s__law_spot : Stmt := top 67
abbrev s__law_sorted_tree : Stmt := top 68
abbrev s__law_tree : Stmt := top 69
abbrev s__law_is_letter : Stmt := top 70
abbrev s__law_due_put : Stmt := top 71
abbrev s__law_due : Stmt := top 72
abbrev s__law_do : Stmt := top 73
abbrev s__law_some_edit : Stmt := top 74
abbrev s__law_valid_edit : Stmt := top 75
abbrev s__law_text : Stmt := top 76
abbrev s__law_seen : Stmt := top 77
abbrev s__law_due_seen : Stmt := top 78
abbrev s_law : Stmt := top 79
abbrev s_TooLarge___init__ : Stmt := inClass (top 5) 0
abbrev s_NotOpen___init__ : Stmt := inClass (top 7) 0
abbrev s_NoLabel___init__ : Stmt := inClass (top 8) 0
abbrev s_BadEdit___init__ : Stmt := inClass (top 12) 0
abbrev s_Rejected___init__ : Stmt := inClass (top 13) 0
abbrev s_BadText___init__ : Stmt := inClass (top 15) 0
abbrev s_NoPath___init__ : Stmt := inClass (top 16) 0
abbrev s_NoKind___init__ : Stmt := inClass (top 17) 0
abbrev s_NoVersion___init__ : Stmt := inClass (top 18) 0
abbrev s_Desk___init__ : Stmt := inClass (top 56) 2
abbrev s_Desk_read : Stmt := inClass (top 56) 3
abbrev s_Desk_is_edit : Stmt := inClass (top 56) 4
abbrev s_Desk_put : Stmt := inClass (top 56) 5
abbrev s_Desk_cut : Stmt := inClass (top 56) 6
abbrev s_Desk_label : Stmt := inClass (top 56) 7
abbrev s_Desk_turn : Stmt := inClass (top 56) 8
abbrev s_Desk_undo : Stmt := inClass (top 56) 9
abbrev s_Desk_run : Stmt := inClass (top 56) 10
abbrev s_Desk_version : Stmt := inClass (top 56) 11
abbrev s_Desk_size : Stmt := inClass (top 56) 12
abbrev s_Desk_first : Stmt := inClass (top 56) 13
abbrev s_Desk_between : Stmt := inClass (top 56) 14
abbrev s_Desk_last : Stmt := inClass (top 56) 15
abbrev s_Desk_tree : Stmt := inClass (top 56) 16
abbrev s_Desk_edits : Stmt := inClass (top 56) 17
abbrev s_Desk_history : Stmt := inClass (top 56) 18
abbrev s_Desk___len__ : Stmt := inClass (top 56) 19
abbrev s_Desk___str__ : Stmt := inClass (top 56) 20
abbrev s_Desk___eq__ : Stmt := inClass (top 56) 21
abbrev s_Desk_check_free : Stmt := inClass (top 56) 22
abbrev s_Desk_check_tree : Stmt := inClass (top 56) 23
abbrev s_Desk_checked_batch : Stmt := inClass (top 56) 24
abbrev s_Desk_take : Stmt := inClass (top 56) 25
abbrev s_Desk_could_take : Stmt := inClass (top 56) 26
abbrev s_Desk_called : Stmt := inClass (top 56) 27
abbrev s_Desk_told : Stmt := inClass (top 56) 28
theorem sc__wall : FnScope ["k"] ["k"] (defScope s__wall) := ⟨rfl, rfl, rfl, by decide +kernel, rfl, by decide +kernel, by decide +kernel⟩
theorem sc_is_letter : FnScope ["value"] ["value"] (defScope s_is_letter) := ⟨rfl, rfl, rfl, by decide +kernel, rfl, by decide +kernel, by decide +kernel⟩
theorem sc_is_whole_number : FnScope ["value"] ["value"] (defScope s_is_whole_number) := ⟨rfl, rfl, rfl, by decide +kernel, rfl, by decide +kernel, by decide +kernel⟩
theorem sc_is_index : FnScope ["value", "many"] ["value", "many"] (defScope s_is_index) := ⟨rfl, rfl, rfl, by decide +kernel, rfl, by decide +kernel, by decide +kernel⟩
theorem sc_is_node : FnScope ["value"] ["value"] (defScope s_is_node) := ⟨rfl, rfl, rfl, by decide +kernel, rfl, by decide +kernel, by decide +kernel⟩
theorem sc_is_tree : FnScope ["value", "count", "waiting", "part", "side"] ["value"] (defScope s_is_tree) := ⟨rfl, rfl, rfl, by decide +kernel, rfl, by decide +kernel, by decide +kernel⟩
theorem sc_size_of : FnScope ["tree"] ["tree"] (defScope s_size_of) := ⟨rfl, rfl, rfl, by decide +kernel, rfl, by decide +kernel, by decide +kernel⟩
theorem sc_part_at : FnScope ["tree", "path", "part", "step"] ["tree", "path"] (defScope s_part_at) := ⟨rfl, rfl, rfl, by decide +kernel, rfl, by decide +kernel, by decide +kernel⟩
theorem sc_is_open : FnScope ["tree", "path"] ["tree", "path"] (defScope s_is_open) := ⟨rfl, rfl, rfl, by decide +kernel, rfl, by decide +kernel, by decide +kernel⟩
theorem sc_replaced : FnScope ["tree", "path", "part", "old"] ["tree", "path", "part"] (defScope s_replaced) := ⟨rfl, rfl, rfl, by decide +kernel, rfl, by decide +kernel, by decide +kernel⟩
theorem sc_with_part : FnScope ["tree", "path", "part", "left", "label", "right"] ["tree", "path", "part"] (defScope s_with_part) := ⟨rfl, rfl, rfl, by decide +kernel, rfl, by decide +kernel, by decide +kernel⟩
theorem sc_mirrored : FnScope ["tree", "left", "label", "right"] ["tree"] (defScope s_mirrored) := ⟨rfl, rfl, rfl, by decide +kernel, rfl, by decide +kernel, by decide +kernel⟩
theorem sc_node_at : FnScope ["tree", "path", "part"] ["tree", "path"] (defScope s_node_at) := ⟨rfl, rfl, rfl, by decide +kernel, rfl, by decide +kernel, by decide +kernel⟩
theorem sc_with_node : FnScope ["tree", "path", "label"] ["tree", "path", "label"] (defScope s_with_node) := ⟨rfl, rfl, rfl, by decide +kernel, rfl, by decide +kernel, by decide +kernel⟩
theorem sc_without_node : FnScope ["tree", "path"] ["tree", "path"] (defScope s_without_node) := ⟨rfl, rfl, rfl, by decide +kernel, rfl, by decide +kernel, by decide +kernel⟩
theorem sc_with_label : FnScope ["tree", "path", "label", "left", "old", "right"] ["tree", "path", "label"] (defScope s_with_label) := ⟨rfl, rfl, rfl, by decide +kernel, rfl, by decide +kernel, by decide +kernel⟩
theorem sc_turned : FnScope ["tree", "path"] ["tree", "path"] (defScope s_turned) := ⟨rfl, rfl, rfl, by decide +kernel, rfl, by decide +kernel, by decide +kernel⟩
theorem sc_has_form_of_edit : FnScope ["value"] ["value"] (defScope s_has_form_of_edit) := ⟨rfl, rfl, rfl, by decide +kernel, rfl, by decide +kernel, by decide +kernel⟩
theorem sc_edited : FnScope ["tree", "edit", "word", "rest", "action"] ["tree", "edit"] (defScope s_edited) := ⟨rfl, rfl, rfl, by decide +kernel, rfl, by decide +kernel, by decide +kernel⟩
theorem sc_is_kind : FnScope ["value"] ["value"] (defScope s_is_kind) := ⟨rfl, rfl, rfl, by decide +kernel, rfl, by decide +kernel, by decide +kernel⟩
theorem sc_ordered_steps : FnScope ["tree", "kind"] ["tree", "kind"] (defScope s_ordered_steps) := ⟨rfl, rfl, rfl, by decide +kernel, rfl, by decide +kernel, by decide +kernel⟩
theorem sc_deep_steps : FnScope ["tree", "kind", "path", "left", "label", "right", "root", "lefts", "rights"] ["tree", "kind", "path"] (defScope s_deep_steps) := ⟨rfl, rfl, rfl, by decide +kernel, rfl, by decide +kernel, by decide +kernel⟩
theorem sc_level_steps : FnScope ["tree"] ["tree"] (defScope s_level_steps) := ⟨rfl, rfl, rfl, by decide +kernel, rfl, by decide +kernel, by decide +kernel⟩
theorem sc_walk : FnScope ["tree", "kind", "path", "label"] ["tree", "kind"] (defScope s_walk) := ⟨rfl, rfl, rfl, by decide +kernel, rfl, by decide +kernel, by decide +kernel⟩
theorem sc_parse_tree : FnScope ["text", "tree", "behind"] ["text"] (defScope s_parse_tree) := ⟨rfl, rfl, rfl, by decide +kernel, rfl, by decide +kernel, by decide +kernel⟩
theorem sc_sign_at : FnScope ["text", "at"] ["text", "at"] (defScope s_sign_at) := ⟨rfl, rfl, rfl, by decide +kernel, rfl, by decide +kernel, by decide +kernel⟩
theorem sc_read_tree : FnScope ["text", "at", "room", "label", "left", "comma", "rest", "right", "end"] ["text", "at", "room"] (defScope s_read_tree) := ⟨rfl, rfl, rfl, by decide +kernel, rfl, by decide +kernel, by decide +kernel⟩
theorem sc_read_left : FnScope ["text", "at", "room", "left", "comma"] ["text", "at", "room"] (defScope s_read_left) := ⟨rfl, rfl, rfl, by decide +kernel, rfl, by decide +kernel, by decide +kernel⟩
theorem sc_read_side : FnScope ["text", "at", "room"] ["text", "at", "room"] (defScope s_read_side) := ⟨rfl, rfl, rfl, by decide +kernel, rfl, by decide +kernel, by decide +kernel⟩
theorem sc__law_stream : FnScope ["_law_script", "_law_turn", "_law_cell", "_law_rest"] ["_law_script", "_law_turn"] (defScope s__law_stream) := ⟨rfl, rfl, rfl, by decide +kernel, rfl, by decide +kernel, by decide +kernel⟩
theorem sc__law_take : FnScope ["_law_stream_here", "_law_many", "_law_found", "_law_low", "_law_high", "_law_turn", "_law_mixed"] ["_law_stream_here", "_law_many"] (defScope s__law_take) := ⟨rfl, rfl, rfl, by decide +kernel, rfl, by decide +kernel, by decide +kernel⟩
theorem sc__law_equal : FnScope ["_law_one", "_law_other"] ["_law_one", "_law_other"] (defScope s__law_equal) := ⟨rfl, rfl, rfl, by decide +kernel, rfl, by decide +kernel, by decide +kernel⟩
theorem sc__law_letter : FnScope ["_law_stream_here"] ["_law_stream_here"] (defScope s__law_letter) := ⟨rfl, rfl, rfl, by decide +kernel, rfl, by decide +kernel, by decide +kernel⟩
theorem sc__law_paths : FnScope ["_law_tree_here", "_law_nodes", "_law_opens", "_law_waiting", "_law_path", "_law_part_here"] ["_law_tree_here"] (defScope s__law_paths) := ⟨rfl, rfl, rfl, by decide +kernel, rfl, by decide +kernel, by decide +kernel⟩
theorem sc__law_part : FnScope ["_law_tree_here", "_law_path", "_law_step"] ["_law_tree_here", "_law_path"] (defScope s__law_part) := ⟨rfl, rfl, rfl, by decide +kernel, rfl, by decide +kernel, by decide +kernel⟩
theorem sc__law_grafted : FnScope ["_law_tree_here", "_law_path", "_law_part_here"] ["_law_tree_here", "_law_path", "_law_part_here"] (defScope s__law_grafted) := ⟨rfl, rfl, rfl, by decide +kernel, rfl, by decide +kernel, by decide +kernel⟩
theorem sc__law_swapped : FnScope ["_law_tree_here"] ["_law_tree_here"] (defScope s__law_swapped) := ⟨rfl, rfl, rfl, by decide +kernel, rfl, by decide +kernel, by decide +kernel⟩
theorem sc__law_labels : FnScope ["_law_tree_here", "_law_kind", "_law_one", "_law_other"] ["_law_tree_here", "_law_kind"] (defScope s__law_labels) := ⟨rfl, rfl, rfl, by decide +kernel, rfl, by decide +kernel, by decide +kernel⟩
theorem sc__law_spot : FnScope ["_law_tree_here", "_law_letter_here", "_law_path"] ["_law_tree_here", "_law_letter_here"] (defScope s__law_spot) := ⟨rfl, rfl, rfl, by decide +kernel, rfl, by decide +kernel, by decide +kernel⟩
theorem sc__law_sorted_tree : FnScope ["_law_stream_here", "_law_size", "_law_tree_here", "_law_left", "_law_k", "_law_letter_here"] ["_law_stream_here", "_law_size"] (defScope s__law_sorted_tree) := ⟨rfl, rfl, rfl, by decide +kernel, rfl, by decide +kernel, by decide +kernel⟩
theorem sc__law_tree : FnScope ["_law_stream_here", "_law_top", "_law_size", "_law_way", "_law_tree_here", "_law_k", "_law_path", "_law_opens", "_law_spot_here"] ["_law_stream_here", "_law_top"] (defScope s__law_tree) := ⟨rfl, rfl, rfl, by decide +kernel, rfl, by decide +kernel, by decide +kernel⟩
theorem sc__law_is_letter : FnScope ["_law_value"] ["_law_value"] (defScope s__law_is_letter) := ⟨rfl, rfl, rfl, by decide +kernel, rfl, by decide +kernel, by decide +kernel⟩
theorem sc__law_due_put : FnScope ["_law_tree_here", "_law_edit", "_law_nodes", "_law_opens"] ["_law_tree_here", "_law_edit", "_law_nodes", "_law_opens"] (defScope s__law_due_put) := ⟨rfl, rfl, rfl, by decide +kernel, rfl, by decide +kernel, by decide +kernel⟩
theorem sc__law_due : FnScope ["_law_tree_here", "_law_edit", "_law_path", "_law_nodes", "_law_opens", "_law_part_here"] ["_law_tree_here", "_law_edit"] (defScope s__law_due) := ⟨rfl, rfl, rfl, by decide +kernel, rfl, by decide +kernel, by decide +kernel⟩
theorem sc__law_do : FnScope ["_law_desk", "_law_edit"] ["_law_desk", "_law_edit"] (defScope s__law_do) := ⟨rfl, rfl, rfl, by decide +kernel, rfl, by decide +kernel, by decide +kernel⟩
theorem sc__law_some_edit : FnScope ["_law_stream_here", "_law_tree_here", "_law_top", "_law_nodes", "_law_opens", "_law_way", "_law_path", "_law_letter_here"] ["_law_stream_here", "_law_tree_here", "_law_top"] (defScope s__law_some_edit) := ⟨rfl, rfl, rfl, by decide +kernel, rfl, by decide +kernel, by decide +kernel⟩
theorem sc__law_valid_edit : FnScope ["_law_stream_here", "_law_tree_here", "_law_top", "_law_again", "_law_edit"] ["_law_stream_here", "_law_tree_here", "_law_top"] (defScope s__law_valid_edit) := ⟨rfl, rfl, rfl, by decide +kernel, rfl, by decide +kernel, by decide +kernel⟩
theorem sc__law_text : FnScope ["_law_tree_here", "_law_many"] ["_law_tree_here", "_law_many"] (defScope s__law_text) := ⟨rfl, rfl, rfl, by decide +kernel, rfl, by decide +kernel, by decide +kernel⟩
theorem sc__law_seen : FnScope ["_law_desk", "_law_views"] ["_law_desk"] (defScope s__law_seen) := ⟨rfl, rfl, rfl, by decide +kernel, rfl, by decide +kernel, by decide +kernel⟩
theorem sc__law_due_seen : FnScope ["_law_tree_here", "_law_done", "_law_kind", "_law_views"] ["_law_tree_here", "_law_done"] (defScope s__law_due_seen) := ⟨rfl, rfl, rfl, by decide +kernel, rfl, by decide +kernel, by decide +kernel⟩
theorem sc_law : FnScope ["_law_script", "_law_turn", "_law_stream_here", "_law_tree_here", "_law_desk", "_law_done", "_law_k", "_law_edit", "_law_before", "_law_found"] ["_law_script"] (defScope s_law) := ⟨rfl, rfl, rfl, by decide +kernel, rfl, by decide +kernel, by decide +kernel⟩
theorem sc_TooLarge___init__ : FnScope ["self", "limit"] ["self", "limit"] (defScope s_TooLarge___init__) := ⟨rfl, rfl, rfl, by decide +kernel, rfl, by decide +kernel, by decide +kernel⟩
theorem sc_NotOpen___init__ : FnScope ["self", "path"] ["self", "path"] (defScope s_NotOpen___init__) := ⟨rfl, rfl, rfl, by decide +kernel, rfl, by decide +kernel, by decide +kernel⟩
theorem sc_NoLabel___init__ : FnScope ["self", "letter"] ["self", "letter"] (defScope s_NoLabel___init__) := ⟨rfl, rfl, rfl, by decide +kernel, rfl, by decide +kernel, by decide +kernel⟩
theorem sc_BadEdit___init__ : FnScope ["self", "index"] ["self", "index"] (defScope s_BadEdit___init__) := ⟨rfl, rfl, rfl, by decide +kernel, rfl, by decide +kernel, by decide +kernel⟩
theorem sc_Rejected___init__ : FnScope ["self", "index"] ["self", "index"] (defScope s_Rejected___init__) := ⟨rfl, rfl, rfl, by decide +kernel, rfl, by decide +kernel, by decide +kernel⟩
theorem sc_BadText___init__ : FnScope ["self", "index"] ["self", "index"] (defScope s_BadText___init__) := ⟨rfl, rfl, rfl, by decide +kernel, rfl, by decide +kernel, by decide +kernel⟩
theorem sc_NoPath___init__ : FnScope ["self", "value"] ["self", "value"] (defScope s_NoPath___init__) := ⟨rfl, rfl, rfl, by decide +kernel, rfl, by decide +kernel, by decide +kernel⟩
theorem sc_NoKind___init__ : FnScope ["self", "value"] ["self", "value"] (defScope s_NoKind___init__) := ⟨rfl, rfl, rfl, by decide +kernel, rfl, by decide +kernel, by decide +kernel⟩
theorem sc_NoVersion___init__ : FnScope ["self", "value"] ["self", "value"] (defScope s_NoVersion___init__) := ⟨rfl, rfl, rfl, by decide +kernel, rfl, by decide +kernel, by decide +kernel⟩
theorem sc_Desk___init__ : FnScope ["self", "tree"] ["self", "tree"] (defScope s_Desk___init__) := ⟨rfl, rfl, rfl, by decide +kernel, rfl, by decide +kernel, by decide +kernel⟩
theorem sc_Desk_read : FnScope ["cls", "text"] ["cls", "text"] (defScope s_Desk_read) := ⟨rfl, rfl, rfl, by decide +kernel, rfl, by decide +kernel, by decide +kernel⟩
theorem sc_Desk_is_edit : FnScope ["value"] ["value"] (defScope s_Desk_is_edit) := ⟨rfl, rfl, rfl, by decide +kernel, rfl, by decide +kernel, by decide +kernel⟩
theorem sc_Desk_put : FnScope ["self", "path", "label"] ["self", "path", "label"] (defScope s_Desk_put) := ⟨rfl, rfl, rfl, by decide +kernel, rfl, by decide +kernel, by decide +kernel⟩
theorem sc_Desk_cut : FnScope ["self", "path"] ["self", "path"] (defScope s_Desk_cut) := ⟨rfl, rfl, rfl, by decide +kernel, rfl, by decide +kernel, by decide +kernel⟩
theorem sc_Desk_label : FnScope ["self", "path", "label"] ["self", "path", "label"] (defScope s_Desk_label) := ⟨rfl, rfl, rfl, by decide +kernel, rfl, by decide +kernel, by decide +kernel⟩
theorem sc_Desk_turn : FnScope ["self", "path"] ["self", "path"] (defScope s_Desk_turn) := ⟨rfl, rfl, rfl, by decide +kernel, rfl, by decide +kernel, by decide +kernel⟩
theorem sc_Desk_undo : FnScope ["self"] ["self"] (defScope s_Desk_undo) := ⟨rfl, rfl, rfl, by decide +kernel, rfl, by decide +kernel, by decide +kernel⟩
theorem sc_Desk_version : FnScope ["self"] ["self"] (defScope s_Desk_version) := ⟨rfl, rfl, rfl, by decide +kernel, rfl, by decide +kernel, by decide +kernel⟩
theorem sc_Desk_size : FnScope ["self"] ["self"] (defScope s_Desk_size) := ⟨rfl, rfl, rfl, by decide +kernel, rfl, by decide +kernel, by decide +kernel⟩
theorem sc_Desk_first : FnScope ["self"] ["self"] (defScope s_Desk_first) := ⟨rfl, rfl, rfl, by decide +kernel, rfl, by decide +kernel, by decide +kernel⟩
theorem sc_Desk_between : FnScope ["self"] ["self"] (defScope s_Desk_between) := ⟨rfl, rfl, rfl, by decide +kernel, rfl, by decide +kernel, by decide +kernel⟩
theorem sc_Desk_last : FnScope ["self"] ["self"] (defScope s_Desk_last) := ⟨rfl, rfl, rfl, by decide +kernel, rfl, by decide +kernel, by decide +kernel⟩
theorem sc_Desk_edits : FnScope ["self"] ["self"] (defScope s_Desk_edits) := ⟨rfl, rfl, rfl, by decide +kernel, rfl, by decide +kernel, by decide +kernel⟩
theorem sc_Desk_history : FnScope ["self"] ["self"] (defScope s_Desk_history) := ⟨rfl, rfl, rfl, by decide +kernel, rfl, by decide +kernel, by decide +kernel⟩
theorem sc_Desk___len__ : FnScope ["self"] ["self"] (defScope s_Desk___len__) := ⟨rfl, rfl, rfl, by decide +kernel, rfl, by decide +kernel, by decide +kernel⟩
theorem sc_Desk___str__ : FnScope ["self"] ["self"] (defScope s_Desk___str__) := ⟨rfl, rfl, rfl, by decide +kernel, rfl, by decide +kernel, by decide +kernel⟩
theorem sc_Desk___eq__ : FnScope ["self", "other"] ["self", "other"] (defScope s_Desk___eq__) := ⟨rfl, rfl, rfl, by decide +kernel, rfl, by decide +kernel, by decide +kernel⟩
theorem sc_Desk_check_free : FnScope ["self"] ["self"] (defScope s_Desk_check_free) := ⟨rfl, rfl, rfl, by decide +kernel, rfl, by decide +kernel, by decide +kernel⟩
theorem sc_Desk_check_tree : FnScope ["self", "tree"] ["self", "tree"] (defScope s_Desk_check_tree) := ⟨rfl, rfl, rfl, by decide +kernel, rfl, by decide +kernel, by decide +kernel⟩
theorem sc_Desk_checked_batch : FnScope ["self", "edits", "index", "edit"] ["self", "edits"] (defScope s_Desk_checked_batch) := ⟨rfl, rfl, rfl, by decide +kernel, rfl, by decide +kernel, by decide +kernel⟩
theorem sc_Desk_take : FnScope ["self", "edit", "tree"] ["self", "edit"] (defScope s_Desk_take) := ⟨rfl, rfl, rfl, by decide +kernel, rfl, by decide +kernel, by decide +kernel⟩
theorem sc_Desk_could_take : FnScope ["self", "edit"] ["self", "edit"] (defScope s_Desk_could_take) := ⟨rfl, rfl, rfl, by decide +kernel, rfl, by decide +kernel, by decide +kernel⟩
theorem sc_Desk_called : FnScope ["self", "edit"] ["self", "edit"] (defScope s_Desk_called) := ⟨rfl, rfl, rfl, by decide +kernel, rfl, by decide +kernel, by decide +kernel⟩
theorem sc_Desk_told : FnScope ["self", "name"] ["self", "name"] (defScope s_Desk_told) := ⟨rfl, rfl, rfl, by decide +kernel, rfl, by decide +kernel, by decide +kernel⟩
/-! ### xs != [], xs == [] -/
abbrev vc (c : Nat) : V := .str (ch c)
theorem map_vc (l : List Nat) : l.map vc = (l.map ch).map V.str := by rw [List.map_map]; rfl
section
variable {X : Cx}
theorem op_neL (hu : X.A.units < cLine) : OpR X (compareOp .NotEq) (fun x y H Q => ∃ a b xs, x = .ref a ∧ y = .ref b ∧ SqL X.K H a xs ∧ SqL X.K H b [] ∧ Q (.bl (!xs.isEmpty)) H) := by
  intro pins s σ H x y v u Q I rx ry h
  obtain ⟨a, b, xs, rfl, rfl, hx, hy, q⟩ := h
  cases rx
  cases ry
  obtain ⟨its, r1, t1, _⟩ := I.list hx
  obtain ⟨its2, r2, t2, _⟩ := I.list hy
  cases r2
  cases r1 with
  | nil =>
    have rc := SeqAt.RcNeAt.lists (A := X.A) (s := s) (items := ([] : List Value).toArray) (items2 := ([] : List Value).toArray) (e := fun _ => true) t1.isList t2.isList rfl hu (fun j h1 _ => absurd h1 (by simp))
    exact rc X.prog X.w X.xe _ ⟨.bl _, H, I, rfl, q⟩
  | cons _ _ =>
    have rc := SeqAt.RcNeAt.lists_lengths (A := X.A) (s := s) t1.isList t2.isList (by simp) hu
    exact rc X.prog X.w X.xe _ ⟨.bl _, H, I, rfl, q⟩
end
theorem op_eqL {X : Cx} (hu : X.A.units < cLine) : OpR X (compareOp .Eq) (fun x y H Q => ∃ a b xs, x = .ref a ∧ y = .ref b ∧ SqL X.K H a xs ∧ SqL X.K H b [] ∧ Q (.bl xs.isEmpty) H) := by
  intro pins s σ H x y v u Q I rx ry h
  obtain ⟨a, b, xs, rfl, rfl, hx, hy, q⟩ := h
  cases rx
  cases ry
  obtain ⟨its, r1, t1, _⟩ := I.list hx
  obtain ⟨its2, r2, t2, _⟩ := I.list hy
  cases r2
  cases r1 with
  | nil =>
    have rc := SeqAt.RcAt.lists (A := X.A) (s := s) (items := ([] : List Value).toArray) (items2 := ([] : List Value).toArray) (e := fun _ => true) t1.isList t2.isList rfl hu (fun j h1 _ => absurd h1 (by simp))
    exact rc X.prog X.w X.xe _ ⟨.bl _, H, I, rfl, q⟩
  | cons _ _ =>
    have rc := SeqAt.RcAt.lists_lengths (A := X.A) (s := s) t1.isList t2.isList (by simp) hu
    exact rc X.prog X.w X.xe _ ⟨.bl _, H, I, rfl, q⟩
/-! ### a def entered at one caller -/
theorem enter_def {P : Program} {w : World} {K : PySem.W.Frag} {mg : Str → Option Value} {base : Heap} {f : Addr} {fd : FuncData} {N ps : List Str} {k : Nat} {x qual : Str} {st : Stmt} (F : Fun K x qual st f fd) (S : FnScope N ps (defScope st))
    {A : Around} {outer : List Env} {s : Shared} {H : Hp} {args : Args} {us : List Value} {vs : List V} {Q : VK} {E : XK}
    (room : Room (k + 1) A) (en : Env0 P w K mg base A outer s H) (bd : BindsTo s fd args (ps.zip us)) (rel : Vals vs us) (hln : vs.length = ps.length)
    (body : ∀ cdv : Value, Room k (A.deeper (envOfC qual (defScope st) s.heap.objs.size f cdv)) →
      ∃ t, PSs (cxOf CX0 P w K mg base N qual (defScope st) f cdv A outer s H E).nox (defBody st) t ∧ t { nx := fun _ H' => Q .non H', rt := Q } (start N vs) H) :
    codeAny (model P w) A (.call (.ref f) args) (CR CX0 outer P w H s Q E) s := by
  obtain ⟨oc, od, kV, doc, pm, an, cdv, ct, osl, rfl, look, code⟩ := F.ex
  have still : ∀ b o, base.get? b = some o → s.heap.get? b = some o := fun b o e => (en.bs b o e).1
  have inK : K.In s.heap := en.mod.kin.keeps still
  have noL : s.heap.NoLimit := en.mod.nolimit.keeps still
  have kinds : ∀ y ∈ ps.zip us, (defScope st).names.lookup y.1 = some .local ∨
      ((defScope st).names.lookup y.1 = some .cell ∧ ((cellsFrom (s.heap.objs.size + 1) (defScope st).names []).lookup y.1).isSome = true) := by
    rintro ⟨nm, u⟩ hy
    cases S.par nm (List.of_mem_zip hy).1 with
    | inl z => exact .inl z
    | inr z => exact .inr ⟨z, PySem.W.cellsFrom_some _ _ _ (.inl z)⟩
  have step := codeAny_call_function (prog := P) (w := w) (A := A) (s := s) room.depth (inK _ _ look) rfl S.co S.gen rfl (PySem.W.codeRec_of inK code)
    (R := CR CX0 outer P w H s Q E) (args := args)
  refine step (bd _ _ _ _ ?_)
  refine wpAny_newFunctionEnv_cells S.kind kinds ?_
  intro env isEnv s1 inC
  subst isEnv
  refine ⟨noL.keeps inC.toInCall.keep, codeAny_func ?_⟩
  obtain ⟨t, ht, hq⟩ := body cdv (room.deeper _)
  have J : Inv (cxOf CX0 P w K mg base N qual (defScope st) f cdv A outer s H E) [] (start N vs) H s1 := inv_start S room.hd en hln rel inC
  refine wpAny_mono (ht.nox.run [] s1 (start N vs) H _ J hq) ?_ ?_
  · intro fl s' done
    cases fl with
    | ret u =>
      obtain ⟨v, σ', H', I', rv, qv⟩ := done
      exact ⟨v, H', I'.os, I'.bare, I'.base, I'.hok, rv, qv⟩
    | next =>
      obtain ⟨σ', H', I', qv⟩ := done
      exact ⟨V.non, H', I'.os, I'.bare, I'.base, I'.hok, rfl, qv⟩
    | brk => exact done.elim fun _ z => z.elim fun _ z => z.2.elim
    | cont => exact done.elim fun _ z => z.elim fun _ z => z.2.elim
  · intro e s' z
    exact z
/-! ### the law's own call -/
theorem law_at {P : Program} {w : World} {K : PySem.W.Frag} {mg mb : Str → Option Value} {fa a : Addr} {s₁ : Shared} {vs : List Value} {ns : List Int}
    (inK : K.In s₁.heap) (gl : s₁.heap.Ns mainGlobals mg) (bl : s₁.heap.Ns builtinsNs mb) (isB : ∀ x : Str, x ≠ "__name__" → mb x = bootBuiltins x) (lim : s₁.heap.NoLimit) (gens : s₁.gens = #[])
    (obj : s₁.heap.get? a = some { cls := .type "list", data := .seq vs.toArray }) (hints : IntsAre vs ns) (few : ns.length ≤ sizeLine)
    (run : ∀ (base : Heap) (H : Hp), K.In base → base.Ns mainGlobals mg → Env0 P w K mg base callerA [] s₁ H → SqL K H a (ns.map V.int) →
      codeAny (model P w) callerA (.call (.ref fa) ⟨[.ref a], []⟩) (CR CX0 [] P w H s₁ (fun v _ => v = .bl true) fun _ _ _ => False) s₁) :
    codeAny (model P w) callerA (.call (.ref fa) ⟨[.ref a], []⟩) (fun r s' => r = .ok (.ret (.bool true)) ∧ OldK s₁.heap s'.heap ∧ s'.os = s₁.os ∧ AllBare s'.gens) s₁ := by
  have rel := vals_ints hints
  have lens := hints.length
  have found : ∃ H : Hp, Only H ∧ SqL K H a (ns.map V.int) ∧ HOk P w H s₁.heap ∧ (∀ b u, H b = some u → b = a ∧ K.lookup a = none) := by
    cases inText : K.lookup a with
    | some o =>
      have same := inK a o inText
      rw [obj] at same
      cases same
      have never : ∀ (u : HO), (none : Option HO) ≠ some u := fun u z => by cases z
      refine ⟨fun _ => none, fun _ => .inl rfl, ?_, (fun b u z => (never u z).elim), (fun b u z => (never u z).elim)⟩
      refine .inr ⟨_, vs.toArray, _, inText, rfl, rfl, rfl, ?_, ?_⟩
      · rw [List.size_toArray, lens]
        exact few
      · rw [List.toList_toArray]
        exact rel
    | none =>
      let here : HO := .frz { cls := .type "list", data := .seq vs.toArray } (.lst (ns.map V.int))
      have only : ∀ b u, (if b = a then some here else none) = some u → b = a ∧ u = here := fun b u z => by
        by_cases hb : b = a
        · rw [if_pos hb] at z
          exact ⟨hb, (Option.some.inj z).symm⟩
        · rw [if_neg hb] at z
          cases z
      refine ⟨fun b => if b = a then some here else none, fun b => ?_, .inl (.inr ⟨{ cls := .type "list", data := .seq vs.toArray }, if_pos rfl⟩), fun b u z => ?_, fun b u z => ⟨(only b u z).1, rfl⟩⟩
      · by_cases hb : b = a
        · exact .inr ⟨_, _, if_pos hb⟩
        · exact .inl (if_neg hb)
      · obtain ⟨rfl, rfl⟩ := only b u z
        exact ⟨obj, by rw [List.length_map]; exact few, vs, _, rel, obj⟩
  obtain ⟨H, hO, hS, hok, hA⟩ := found
  have under : ∀ {b : Addr} {o : Obj}, s₁.heap.get? b = some o → H b = none → (hidT s₁.heap H).get? b = some o := fun e z => hidT_get e z
  have notDict : ∀ {b : Addr} {o : Obj} {es : Array DictEntry} {ep : Nat}, s₁.heap.get? b = some o → o.data = .dict es ep → H b = none := by
    intro b o es ep e isD
    cases z : H b with
    | none => rfl
    | some u =>
      obtain ⟨rfl, _⟩ := hA b u z
      rw [obj] at e
      cases e
      cases isD
  have ns' : ∀ {b : Addr} {m : Str → Option Value}, s₁.heap.Ns b m → (hidT s₁.heap H).Ns b m := by
    rintro b m ⟨o, es, ep, e, isD, r⟩
    exact ⟨o, es, ep, under e (notDict e isD), isD, r⟩
  have inK' : K.In (hidT s₁.heap H) := by
    intro b o e
    refine under (inK b o e) ?_
    cases z : H b with
    | none => rfl
    | some u =>
      obtain ⟨rfl, no⟩ := hA b u z
      rw [no] at e
      cases e
  obtain ⟨mc, l1, l2⟩ := lim
  have env : Env0 P w K mg (hidT s₁.heap H) callerA [] s₁ H :=
    ⟨rfl, ⟨inK', ns' gl, ⟨mb, ns' bl, isB⟩, ⟨mc, ns' l1, l2⟩⟩, fun _ _ e => of_hidT e, Nat.le_of_eq (hidT_size _ _), trivial, (fun _ hb => nomatch hb), hok, .of_eq gens⟩
  refine codeAny_mono (run _ H inK' (ns' gl) env hS) ?_
  intro r s' h
  cases r with
  | error e => exact h.elim
  | ok fl =>
    cases fl with
    | next => exact h.elim
    | brk => exact h.elim
    | cont => exact h.elim
    | ret u =>
      obtain ⟨v, H', os, bare, un, hok', rv, isT⟩ := h
      subst isT
      cases rv
      refine ⟨rfl, OldK.of_keep ?_, os, bare⟩
      intro b o e
      cases z : H b with
      | none => exact un.keep b o e z (fun y => nomatch y) (fun y => nomatch y)
      | some u =>
        rcases hO b with y | ⟨ob, xs, y⟩
        · rw [z] at y
          cases y
        · have y2 := un.frzs b ob _ y
          obtain ⟨e1, _⟩ := hok b _ y
          obtain ⟨e2, _⟩ := hok' b _ y2
          rw [e] at e1
          cases e1
          exact e2
/-! ### defs that ask for repr: the guards are carried -/
structure FnOkG (P : Program) (w : World) (K : PySem.W.Frag) (mg : Str → Option Value) (base : Heap) (k : Nat) (f : Addr) (fd : FuncData) (ps : List Str) (sp : Sp) : Prop where
  len : ∀ vs H Q E, sp vs H Q E → vs.length = ps.length
  run : ∀ (A : Around) (outer : List Env) (s : Shared) (H : Hp) (args : Args) (us : List Value) (vs : List V) (Q : VK) (E : XK), A.guards = some [] → Room k A → Env0 P w K mg base A outer s H →
    BindsTo s fd args (ps.zip us) → Vals vs us → sp vs H Q E → codeAny (model P w) A (.call (.ref f) args) (CR CX0 outer P w H s Q E) s
theorem fnG {P : Program} {w : World} {K : PySem.W.Frag} {mg : Str → Option Value} {base : Heap} {f : Addr} {fd : FuncData} {N ps : List Str} {k : Nat} {x qual : Str} {st : Stmt} {sp : Sp} (F : Fun K x qual st f fd) (S : FnScope N ps (defScope st))
    (len : ∀ vs H Q E, sp vs H Q E → vs.length = ps.length)
    (body : ∀ (cdv : Value) (A : Around) (outer : List Env) (s : Shared) (H : Hp) (vs : List V) (Q : VK) (E : XK), A.guards = some [] → Room k (A.deeper (envOfC qual (defScope st) s.heap.objs.size f cdv)) → sp vs H Q E →
      ∃ t, PSs (cxOf CX0 P w K mg base N qual (defScope st) f cdv A outer s H E).nox (defBody st) t ∧ t { nx := fun _ H' => Q .non H', rt := Q } (start N vs) H) :
    FnOkG P w K mg base (k + 1) f fd ps sp := by
  refine ⟨len, ?_⟩
  intro A outer s H args us vs Q E gs room en bd rel hsp
  exact enter_def F S room en bd rel (len _ _ _ _ hsp) fun cdv hr => body cdv A outer s H vs Q E gs hr hsp
theorem pe_callG {X : Cx} {k : Nat} {f : Addr} {fd : FuncData} {ps : List Str} {sp : Sp} {x : Str} {p pos : Pos} {e : Expr} {es : List Expr} {t : TA}
    (G : FnOkG X.prog X.w X.K X.mg X.base k f fd ps sp) (gs : X.A.guards = some []) (room : Room k X.A) (isG : Gl X x) (at0 : X.mg x = some (.ref f)) (kp : PySem.W.keepIn X.K (.ref f) = true) (bd : Binds X.K fd ps []) (args : PA X (e :: es) t)
    (nd : (x == ("__debug__" : Str)) = false := by decide) (he : starEach (e :: es) X.env = (false, eval e X.env) :: starEach es X.env := by rfl) (hp : (backTo pos (starEach es X.env)).any (·.1) = false := by rfl) :
    PE X (.Call (.Name x p) (e :: es) [] pos) (tCall sp [] E0 t) := by
  constructor
  intro pins s σ H Q I h
  refine wpAny_Call_Name_kw (ld_glob I isG at0 ?_ nd)
  refine PySem.W.callWith_K (h₀ := X.base) I.ok.mod.kin kp (thn (args.run pos pins s σ H _ I h) ?_) he hp
  rintro us s1 ⟨vs, H1, I1, rel, q⟩
  refine ⟨I1.kIn, ?_⟩
  have q' : sp vs H1 Q E0 := by
    rw [List.append_nil] at q
    exact q
  have hl : (us ++ []).length = ps.length := by
    rw [List.append_nil, ← rel.length]
    exact G.len _ _ _ _ q'
  have bd' := bd s1 us I1.kIn hl
  rw [List.append_nil] at bd'
  refine wpAny_call (codeAny_mono (G.run X.A X.stack s1 H1 ⟨us, []⟩ us vs Q E0 gs room I1.env0 bd' rel q') ?_)
  intro r s' done
  cases r with
  | error e => exact done.elim
  | ok fl =>
    cases fl with
    | ret u => exact I1.after done
    | next => exact done.elim
    | brk => exact done.elim
    | cont => exact done.elim
/-- a def that asks for repr, with its promise -/
structure DfG (P : Program) (w : World) (K : PySem.W.Frag) (mg : Str → Option Value) (base : Heap) (k : Nat) (nm : Str) (ps : List Str) (sp : Sp) where
  f : Addr
  fd : FuncData
  ok : FnOkG P w K mg base k f fd ps sp
  b : Binds K fd ps []
  kp : PySem.W.keepIn K (.ref f) = true
  g : mg nm = some (.ref f)
/-! ### repr of data without dicts -/
mutual
def okR : PyData → Bool
  | .none => true
  | .bool _ => true
  | .int i => decide (0 ≤ i) && decide (i < 64)
  | .str x => decide (x.length ≤ 64) && x.cps.toList.all (· < 128)
  | .list xs => okRs xs
  | .tuple xs => okRs xs
  | .dict _ => false
def okRs : List PyData → Bool
  | [] => true
  | x :: xs => okR x && okRs xs
end
mutual
def wtR : PyData → Nat
  | .none => 4
  | .bool _ => 5
  | .int _ => 31
  | .str x => 10 * x.length + 2
  | .list xs => 3 + wtRs xs
  | .tuple xs => 3 + wtRs xs
  | .dict _ => 0
def wtRs : List PyData → Nat
  | [] => 0
  | x :: xs => wtR x + 2 + wtRs xs
end
theorem small_shown : ∀ n : Nat, n < 64 → (Str.ofString (toString (n : Int))).length ≤ 31 ∧ (n : Int).natAbs.log2 < 1920 := by decide +kernel
theorem listText_leR (ts : List Str) : (listText ts).length ≤ piled ts + 3 := by
  have h := textFrom_len_le ts 0 "["
  have e : (listText ts).length = (textFrom 0 "[" ts).length + 1 := by
    show (textFrom 0 "[" ts ++ "]").length = _
    rw [strLen_append]
    rfl
  have z : ∀ l : List Str, (l.map (·.length)).sum + 2 * l.length = piled l := by
    intro l
    induction l with
    | nil => rfl
    | cons t l ih =>
      rw [piled_cons, List.map_cons, List.sum_cons, List.length_cons]
      omega
  have z2 := z ts
  have z3 : (("[" : String) : Str).length = 1 := rfl
  omega
mutual
theorem shownR : ∀ d : PyData, okR d = true → d.shown.length ≤ wtR d ∧ d.showable = true ∧ d.hasDict = false
  | .none, _ => by
    simp only [PyData.shown, wtR, PyData.showable, PyData.hasDict, and_true]
    decide +kernel
  | .bool b, _ => by
    simp only [PyData.shown, wtR, PyData.showable, PyData.hasDict, and_true]
    cases b <;> decide +kernel
  | .int i, h => by
    simp only [okR, Bool.and_eq_true, decide_eq_true_eq] at h
    obtain ⟨h1, h2⟩ := small_shown i.toNat (by omega)
    rw [show ((i.toNat : Nat) : Int) = i by omega] at h1 h2
    simp only [PyData.shown, wtR, PyData.showable, PyData.hasDict, decide_eq_true_eq, and_true]
    exact ⟨h1, h2⟩
  | .str x, h => by
    simp only [okR, Bool.and_eq_true, decide_eq_true_eq, List.all_eq_true] at h
    have h1 := StrLaws.reprText_len x (fun c hc => Nat.lt_of_lt_of_le (h.2 c hc) (by decide))
    simp only [PyData.shown, wtR, PyData.showable, PyData.hasDict, and_true]
    omega
  | .list xs, h => by
    simp only [okR] at h
    obtain ⟨h1, h2, h3⟩ := shownRs xs h
    simp only [PyData.shown, wtR, PyData.showable, PyData.hasDict]
    exact ⟨Nat.le_trans (listText_leR _) (by omega), h2, h3⟩
  | .tuple xs, h => by
    simp only [okR] at h
    obtain ⟨h1, h2, h3⟩ := shownRs xs h
    simp only [PyData.shown, wtR, PyData.showable, PyData.hasDict]
    exact ⟨Nat.le_trans (fmt_text _) (by omega), h2, h3⟩
  | .dict _, h => by
    simp only [okR] at h
    exact absurd h Bool.false_ne_true
theorem shownRs : ∀ ds : List PyData, okRs ds = true → piled (PyData.shownAll ds) ≤ wtRs ds ∧ PyData.showableAll ds = true ∧ PyData.hasDictAll ds = false
  | [], _ => by
    simp only [PyData.shownAll, wtRs, PyData.showableAll, PyData.hasDictAll, and_true]
    exact Nat.le_refl _
  | d :: ds, h => by
    simp only [okRs, Bool.and_eq_true] at h
    obtain ⟨h1, h2, h5⟩ := shownR d h.1
    obtain ⟨h3, h4, h6⟩ := shownRs ds h.2
    simp only [PyData.shownAll, wtRs, PyData.showableAll, PyData.hasDictAll, h2, h4, h5, h6, Bool.and_self, Bool.or_self, and_true]
    rw [piled_cons]
    omega
end
def rReprR (K : PySem.W.Frag) : List V → Hp → VK → Prop := fun xs H Q => ∃ (a : Addr) (d : PyData), xs = [.ref a] ∧ Dp K H (.ref a) d ∧ okR d = true ∧ wtR d ≤ 1000000 ∧ d.depth ≤ 60 ∧ Q (.str d.shown) H
theorem call_reprR {X : Cx} (hg : X.A.guards = some []) (hu : X.A.units + 64 < cLine) : CallR X (.builtin "repr") (rReprR X.K) := by
  intro pins s σ H xs us Q I r h
  obtain ⟨a, d, rfl, hd, hs, hw, hz, q⟩ := h
  obtain ⟨u, rfl, rx⟩ := vals1 r
  cases rx
  obtain ⟨h1, h2, h3⟩ := shownR d hs
  obtain ⟨as, rd⟩ := Dp.reads I d _ _ hd rfl
  exact repr_of_reads' rd h2 (PyData.noDict_hsm h3) hg (by omega) (fun _ _ e => e) (fun h' u tk hk => ⟨.str d.shown, H, I.kept (t' := tk) hk, ⟨u, rfl⟩, q⟩) (by show _ ≤ 16777216; omega)
/-! ### walks -/
inductive Kd where
  | first
  | between
  | last
def Kd.str : Kd → Str
  | .first => "first"
  | .between => "between"
  | .last => "last"
def B.post : B → List Nat
  | .nil => []
  | .node l x r => l.post ++ r.post ++ [x]
def B.wk (k : Kd) (t : B) : List Nat := match k with
  | .first => t.pre
  | .between => t.mid
  | .last => t.post
def B.steps (k : Kd) : B → List Nat → List (List Nat × Nat)
  | .nil, _ => []
  | .node l x r, q => match k with
    | .first => [(q, x)] ++ l.steps k (q ++ [108]) ++ r.steps k (q ++ [114])
    | .between => l.steps k (q ++ [108]) ++ [(q, x)] ++ r.steps k (q ++ [114])
    | .last => l.steps k (q ++ [108]) ++ r.steps k (q ++ [114]) ++ [(q, x)]
theorem B.steps_wk (k : Kd) (t : B) : ∀ q : List Nat, (t.steps k q).map (·.2) = t.wk k := by
  induction t with
  | nil => intro q; cases k <;> rfl
  | node l x r h1 h2 =>
    intro q
    have a := h1 (q ++ [108])
    have b := h2 (q ++ [114])
    cases k
    · show ([(q, x)] ++ l.steps .first (q ++ [108]) ++ r.steps .first (q ++ [114])).map (·.2) = x :: (l.pre ++ r.pre)
      rw [List.map_append, List.map_append, a, b]; rfl
    · show (l.steps .between (q ++ [108]) ++ [(q, x)] ++ r.steps .between (q ++ [114])).map (·.2) = l.mid ++ x :: r.mid
      rw [List.map_append, List.map_append, a, b]
      show l.mid ++ [x] ++ r.mid = _
      rw [List.append_assoc]; rfl
    · show (l.steps .last (q ++ [108]) ++ r.steps .last (q ++ [114]) ++ [(q, x)]).map (·.2) = l.post ++ r.post ++ [x]
      rw [List.map_append, List.map_append, a, b]; rfl
theorem B.wk_len (k : Kd) (t : B) : (t.wk k).length = t.size := by
  cases k
  · exact t.pre_len
  · exact t.mid_len
  · show t.post.length = t.size
    induction t with
    | nil => rfl
    | node l x r h1 h2 =>
      show (l.post ++ r.post ++ [x]).length = l.size + 1 + r.size
      rw [List.length_append, List.length_append, h1, h2, List.length_cons, List.length_nil]
      omega
theorem B.steps_len (k : Kd) (t : B) (q : List Nat) : (t.steps k q).length = t.size := by
  rw [← t.wk_len k, ← t.steps_wk k q, List.length_map]
inductive StAt (H : Hp) : List V → List (List Nat × Nat) → Prop
  | nil : StAt H [] []
  | cons {a : Addr} {q : List Nat} {x : Nat} {vs : List V} {ss : List (List Nat × Nat)} : H a = some (.tup [.str (tx q), .str (ch x)]) → StAt H vs ss → StAt H (.ref a :: vs) ((q, x) :: ss)
theorem StAt.keep {H H' : Hp} (k : KeepT H H') {vs : List V} {ss : List (List Nat × Nat)} (h : StAt H vs ss) : StAt H' vs ss := by
  induction h with
  | nil => exact .nil
  | cons e _ ih => exact .cons (k _ _ e) ih
theorem StAt.same {H H' : Hp} (k : Same H H') {vs : List V} {ss : List (List Nat × Nat)} (h : StAt H vs ss) : StAt H' vs ss := h.keep (Tw.Same.keepT k)
theorem StAt.app {H : Hp} {vs us : List V} {ss ts : List (List Nat × Nat)} (h : StAt H vs ss) (g : StAt H us ts) : StAt H (vs ++ us) (ss ++ ts) := by
  induction h with
  | nil => exact g
  | cons e _ ih => exact .cons e ih
theorem StAt.len {H : Hp} {vs : List V} {ss : List (List Nat × Nat)} (h : StAt H vs ss) : vs.length = ss.length := by
  induction h with
  | nil => rfl
  | cons _ _ ih => rw [List.length_cons, List.length_cons, ih]
theorem StAt.get {H : Hp} {vs : List V} {ss : List (List Nat × Nat)} (h : StAt H vs ss) : ∀ {i : Nat} {v : V}, vs[i]? = some v → ∃ a q x, v = .ref a ∧ ss[i]? = some (q, x) ∧ H a = some (.tup [.str (tx q), .str (ch x)]) := by
  induction h with
  | nil => intro i v e; simp at e
  | cons e _ ih =>
    intro i v he
    cases i with
    | zero => cases he; exact ⟨_, _, _, rfl, rfl, e⟩
    | succ i => exact ih he
theorem str_l : Str.ofString "l" = tx [108] := by decide +kernel
theorem str_r : Str.ofString "r" = tx [114] := by decide +kernel
theorem str_0 : Str.ofString "" = tx [] := by decide +kernel
def spDeep (n : Nat) : Sp := fun vs H Q _ => ∃ (v : V) (t : B) (k : Kd) (q : List Nat), vs = [v, .str k.str, .str (tx q)] ∧ BAt H v t ∧ t.size < n ∧ t.size + q.length ≤ 200 ∧
  ∀ (p : Addr) (us : List V) (H' : Hp), Same H H' → H' p = some (.lst us) → StAt H' us (t.steps k q) → Q (.ref p) H'
theorem iteS {x y : Str} {A B : Prop} (h : x = y) (a : A) : if decide (V.str x = V.str y) = true then A else B := by
  rw [if_pos (decide_eq_true (congrArg V.str h))]; exact a
theorem iteR {x y : Str} {A B : Prop} (h : x ≠ y) (b : B) : if decide (V.str x = V.str y) = true then A else B := by
  rw [if_neg (fun z => h (V.str.inj (of_decide_eq_true z)))]; exact b
section
variable {P : Program} {w : World} {K : PySem.W.Frag} {mg : Str → Option Value} {base : Heap} {f : Addr} {fd : FuncData}
theorem ok_deep (F : Fun K "deep_steps" "deep_steps" s_deep_steps f fd) (b : Binds K fd ["tree", "kind", "path"] []) (g : mg "deep_steps" = some (.ref f)) : ∀ n : Nat, FnOk P w K mg base CX0 n f fd ["tree", "kind", "path"] (spDeep n)
  | 0 => by
    have no : ∀ vs H Q E, ¬ spDeep 0 vs H Q E := fun vs H Q E h => by
      obtain ⟨v, t, k, q, _, _, h1, _⟩ := h
      omega
    exact ⟨fun vs H Q E h => absurd h (no vs H Q E), fun A outer s H args us vs Q E _ _ _ _ h => absurd h (no vs H Q E)⟩
  | n + 1 => by
    have Dself : Df P w K mg base n "deep_steps" ["tree", "kind", "path"] (spDeep n) := ⟨f, fd, ok_deep F b g n, b, F.kp, g⟩
    refine F.ok sc_deep_steps (fun vs H Q E h => ?_) (fun cdv A outer s H vs Q E hr h => ?_)
    · obtain ⟨v, t, k, q, rfl, _⟩ := h
      rfl
    obtain ⟨v, t, k, pth, rfl, hv, hn, hz, q⟩ := h
    refine ⟨_, (pss_cons (ps_if (pt_cmpR op_isN (pv 0) pe_non (nomark _))
      (pss_one (ps_ret (pe_lst pa_nil))) pss_nil)
    (pss_cons (ps_asg (pv 0) (pg_tup rfl (pgs_cons (pg_name (i := 3) sc_deep_steps.nd rfl (.inl rfl)) (pgs_cons (pg_name (i := 4) sc_deep_steps.nd rfl (.inl rfl)) (pgs_cons (pg_name (i := 5) sc_deep_steps.nd rfl (.inl rfl)) pgs_nil)))))
    (pss_cons (ps_set (i := 6) sc_deep_steps.nd rfl (.inl rfl) (pe_lst (pa_cons (pe_tup (pa_cons (pv 2) (pa_cons (pv 4) pa_nil))) pa_nil)))
    (pss_cons (ps_set (i := 7) sc_deep_steps.nd rfl (.inl rfl) (pe_call Dself.ok (hr.mono (by omega)) rfl Dself.g Dself.kp Dself.b .nil pass0 (pa_cons (pv 3) (pa_cons (pv 1) (pa_cons (pe_op op_add_str (pv 2) pe_str) pa_nil)))))
    (pss_cons (ps_set (i := 8) sc_deep_steps.nd rfl (.inl rfl) (pe_call Dself.ok (hr.mono (by omega)) rfl Dself.g Dself.kp Dself.b .nil pass0 (pa_cons (pv 5) (pa_cons (pv 1) (pa_cons (pe_op op_add_str (pv 2) pe_str) pa_nil)))))
    (pss_cons (ps_if (pt_cmpR op_eq (pv 1) pe_str (nomark _))
      (pss_one (ps_ret (pe_op op_cat (pe_op op_cat (pv 6) (pv 7)) (pv 8)))) pss_nil)
    (pss_cons (ps_if (pt_cmpR op_eq (pv 1) pe_str (nomark _))
      (pss_one (ps_ret (pe_op op_cat (pe_op op_cat (pv 7) (pv 6)) (pv 8)))) pss_nil)
    (pss_one (ps_ret (pe_op op_cat (pe_op op_cat (pv 7) (pv 8)) (pv 6))))))))))), ?_⟩
    rcases hv.inv with ⟨rfl, rfl⟩ | ⟨a, l, r, x, tl, tr, rfl, rfl, ea, hl, hr'⟩
    · refine ⟨_, rfl, rfl, _, rfl, iteT ⟨(by show 0 ≤ sizeLine; decide), fun p np => ?_⟩⟩
      exact q p [] _ (same_new np _) upd_same .nil
    · refine ⟨_, rfl, rfl, _, rfl, iteF ?_⟩
      refine ⟨_, rfl, a, _, rfl, SqT.of ea, rfl, _, _, rfl, _, _, rfl, _, _, rfl, rfl, ?_⟩
      have sz : tl.size + 1 + tr.size < n + 1 := hn
      have sz2 : tl.size + 1 + tr.size + pth.length ≤ 200 := hz
      -- root
      refine ⟨_, rfl, _, rfl, (by show 2 ≤ sizeLine; decide), fun tp ntp => ⟨(by show 1 ≤ sizeLine; decide), fun ro nro => ?_⟩⟩
      have q1 := same_new ntp (.tup [.str (tx pth), .str (ch x)])
      have q2 := same_new nro (.lst [.ref tp])
      have etp := q2 _ _ (upd_same (H := H) (a := tp) (o := .tup [.str (tx pth), .str (ch x)]))
      have ero := upd_same (H := upd H tp (.tup [.str (tx pth), .str (ch x)])) (a := ro) (o := .lst [.ref tp])
      have s1 := q1.trans q2
      generalize upd (upd H tp (.tup [.str (tx pth), .str (ch x)])) ro (.lst [.ref tp]) = H1 at etp ero s1
      -- lefts
      refine ⟨_, rfl, _, rfl, _, rfl, _, _, rfl, rfl, ?_, ?_⟩
      · rw [str_l, tx_len, tx_len]; exact small (by show _ + 1 ≤ 1000; omega)
      rw [str_l, tx_app]
      refine ⟨l, tl, k, pth ++ [108], rfl, hl.same s1, by omega, by rw [List.length_append]; show _ + (_ + 1) ≤ 200; omega, fun lp ul H2 s2 elp stl => ?_⟩
      -- rights
      refine ⟨_, rfl, _, rfl, _, rfl, _, _, rfl, rfl, ?_, ?_⟩
      · rw [str_r, tx_len, tx_len]; exact small (by show _ + 1 ≤ 1000; omega)
      rw [str_r, tx_app]
      refine ⟨r, tr, k, pth ++ [114], rfl, (hr'.same s1).same s2, by omega, by rw [List.length_append]; show _ + (_ + 1) ≤ 200; omega, fun rp ur H3 s3 erp str => ?_⟩
      have ero3 := s3 _ _ (s2 _ _ ero)
      have elp3 := s3 _ _ elp
      have strt : StAt H3 [.ref tp] [(pth, x)] := .cons (s3 _ _ (s2 _ _ etp)) .nil
      have stl3 := stl.same s3
      have sA := (s1.trans s2).trans s3
      have ll := stl.len
      have lr := str.len
      rw [B.steps_len] at ll lr
      cases k
      · refine ⟨_, rfl, rfl, _, rfl, iteS rfl ?_⟩
        refine ⟨_, rfl, _, rfl, ro, lp, _, _, rfl, rfl, ero3, elp3, small (by show 1 + _ ≤ 1000; omega), fun c1 n1 => ?_⟩
        have k1 := same_new n1 (.lst ([.ref tp] ++ ul))
        refine ⟨_, rfl, c1, rp, _, _, rfl, rfl, upd_same, k1 _ _ erp, small (by rw [List.length_append]; show 1 + _ + _ ≤ 1000; omega), fun c2 n2 => ?_⟩
        have k2 := same_new n2 (.lst ([.ref tp] ++ ul ++ ur))
        exact q c2 _ _ (sA.trans (k1.trans k2)) upd_same (((strt.app stl3).app str).same (k1.trans k2))
      · refine ⟨_, rfl, rfl, _, rfl, iteR (by decide +kernel) ?_⟩
        refine ⟨_, rfl, rfl, _, rfl, iteS rfl ?_⟩
        refine ⟨_, rfl, _, rfl, lp, ro, _, _, rfl, rfl, elp3, ero3, small (by show _ + 1 ≤ 1000; omega), fun c1 n1 => ?_⟩
        have k1 := same_new n1 (.lst (ul ++ [.ref tp]))
        refine ⟨_, rfl, c1, rp, _, _, rfl, rfl, upd_same, k1 _ _ erp, small (by rw [List.length_append]; show _ + 1 + _ ≤ 1000; omega), fun c2 n2 => ?_⟩
        have k2 := same_new n2 (.lst (ul ++ [.ref tp] ++ ur))
        exact q c2 _ _ (sA.trans (k1.trans k2)) upd_same (((stl3.app strt).app str).same (k1.trans k2))
      · refine ⟨_, rfl, rfl, _, rfl, iteR (by decide +kernel) ?_⟩
        refine ⟨_, rfl, rfl, _, rfl, iteR (by decide +kernel) ?_⟩
        refine ⟨_, rfl, _, rfl, lp, rp, _, _, rfl, rfl, elp3, erp, small (by omega), fun c1 n1 => ?_⟩
        have k1 := same_new n1 (.lst (ul ++ ur))
        refine ⟨_, rfl, c1, ro, _, _, rfl, rfl, upd_same, k1 _ _ ero3, small (by rw [List.length_append]; show _ + _ + 1 ≤ 1000; omega), fun c2 n2 => ?_⟩
        have k2 := same_new n2 (.lst (ul ++ ur ++ [.ref tp]))
        exact q c2 _ _ (sA.trans (k1.trans k2)) upd_same (((stl3.app str).app strt).same (k1.trans k2))
/-- the tuple KINDS of the text -/
structure KindsT (K : PySem.W.Frag) (mg : Str → Option Value) (a : Addr) : Prop where
  mg : mg "KINDS" = some (.ref a)
  sq : ∀ H : Hp, SqT K H a [.str "first", .str "between", .str "last", .str "level"]
def spKind : Sp := fun vs H Q _ => ∃ k : Kd, vs = [.str k.str] ∧ Q (.bl true) H
theorem ok_kind {k : Nat} {aK : Addr} (F : Fun K "is_kind" "is_kind" s_is_kind f fd) (M : Mgs mg) (Kk : KindsT K mg aK) : FnOk P w K mg base CX0 (k + 1) f fd ["value"] spKind := by
  refine F.ok sc_is_kind (fun vs H Q E h => ?_) (fun cdv A outer s H vs Q E hr h => ?_)
  · obtain ⟨k, rfl, _⟩ := h
    rfl
  obtain ⟨k, rfl, q⟩ := h
  refine ⟨_, (pss_one (ps_ret (pe_and (pe_callB call_isi rfl M.isinstance (by decide +kernel) (pa_cons (pv 0) (pa_cons (pe_bltn (v := .ty "str") rfl M.str (by decide +kernel) rfl) pa_nil))) (pe_one (pe_cmpR op_in_seq (pv 0) (pe_glob (v := .ref _) rfl Kk.mg rfl) (by rfl)))))), ?_⟩
  refine ⟨_, rfl, _, _, _, _, true, rfl, .ty _, .base (.str _), kit_ty (by decide +kernel), _, rfl, iteT ?_⟩
  refine ⟨_, rfl, aK, _, rfl, .inr (Kk.sq H), rfl, ?_, ?_⟩
  · rfl
  · have e : (if false = true then !inV (.str k.str) [.str "first", .str "between", .str "last", .str "level"] else inV (.str k.str) [.str "first", .str "between", .str "last", .str "level"]) = true := by
      cases k <;> decide +kernel
    rw [e]
    exact q
def spSteps : Sp := fun vs H Q _ => ∃ (v : V) (t : B) (k : Kd), vs = [v, .str k.str] ∧ BAt H v t ∧ t.size ≤ 50 ∧
  ∀ (p : Addr) (us : List V) (H' : Hp), Same H H' → H' p = some (.lst us) → StAt H' us (t.steps k []) → Q (.ref p) H'
theorem ok_steps (F : Fun K "ordered_steps" "ordered_steps" s_ordered_steps f fd) (Dis_kind : Df P w K mg base 1 "is_kind" ["value"] spKind) (Ddeep_steps : Df P w K mg base 60 "deep_steps" ["tree", "kind", "path"] (spDeep 60)) :
    FnOk P w K mg base CX0 61 f fd ["tree", "kind"] spSteps := by
  refine F.ok sc_ordered_steps (fun vs H Q E h => ?_) (fun cdv A outer s H vs Q E hr h => ?_)
  · obtain ⟨v, t, k, rfl, _⟩ := h
    rfl
  obtain ⟨v, t, k, rfl, hv, hz, q⟩ := h
  refine ⟨_, (pss_cons (ps_if (pt_not (pt_val (pe_call Dis_kind.ok (hr.mono (by omega)) rfl Dis_kind.g Dis_kind.kp Dis_kind.b .nil pass0 (pa_cons (pv 1) pa_nil))))
      (pss_one ps_never) pss_nil)
    (pss_cons (ps_if (pt_cmpR op_eq (pv 1) pe_str (nomark _))
      (pss_one ps_never) pss_nil)
    (pss_one (ps_ret (pe_call Ddeep_steps.ok (hr.mono (by omega)) rfl Ddeep_steps.g Ddeep_steps.kp Ddeep_steps.b .nil pass0 (pa_cons (pv 0) (pa_cons (pv 1) (pa_cons pe_str pa_nil)))))))), ?_⟩
  refine ⟨_, rfl, k, rfl, _, rfl, iteF ?_⟩
  refine ⟨_, rfl, rfl, _, rfl, iteR (by cases k <;> decide +kernel) ?_⟩
  refine ⟨_, rfl, _, rfl, v, t, k, [], ?_, hv, by omega, by show t.size + 0 ≤ 200; omega, q⟩
  rw [← str_0]
  rfl
def spWalk : Sp := fun vs H Q _ => ∃ (v : V) (t : B) (k : Kd), vs = [v, .str k.str] ∧ BAt H v t ∧ t.size ≤ 50 ∧ ∀ H', Same H H' → Q (.str (tx (t.wk k))) H'
theorem ok_walk (F : Fun K "walk" "walk" s_walk f fd) (Dordered_steps : Df P w K mg base 61 "ordered_steps" ["tree", "kind"] spSteps) : FnOk P w K mg base CX0 62 f fd ["tree", "kind"] spWalk := by
  refine F.ok sc_walk (fun vs H Q E h => ?_) (fun cdv A outer s H vs Q E hr h => ?_)
  · obtain ⟨v, t, k, rfl, _⟩ := h
    rfl
  obtain ⟨v, t, k, rfl, hv, hz, q⟩ := h
  refine ⟨_, (pss_one (ps_ret (pe_bm PySem.F.plainAttrs_str PySem.F.slot_str_join PySem.F.type_str_join mt_join pe_str (pa_cons (pe_lc (own := [("path", 2), ("label", 3)]) (g := gTup K 2 (gCons (gName 2) (gCons (gName 3) gNil))) (tt := tYes) rfl sc_walk.nd (pi_list (pe_call Dordered_steps.ok (hr.mono (by omega)) rfl Dordered_steps.g Dordered_steps.kp Dordered_steps.b .nil pass0 (pa_cons (pv 0) (pa_cons (pv 1) pa_nil)))) (blkOk_by (N := ["tree", "kind", "path", "label"]) (sc := defScope s_walk) (by decide +kernel)) (fun _ _ _ _ _ => (pg_tup rfl (pgs_cons (pg_name (i := 2) sc_walk.nd rfl (.inl rfl)) (pgs_cons (pg_name (i := 3) sc_walk.nd rfl (.inl rfl)) pgs_nil)))) (fun _ _ _ _ _ => pts_nil) (fun _ _ _ _ _ => (pv 3))) pa_nil)))), ?_⟩
  refine ⟨rfl, _, rfl, _, rfl, v, t, k, rfl, hv, hz, fun p us H1 s1 ep st => ?_⟩
  refine ⟨p, rfl, ⟨_, SqL.of ep⟩, fun D nD => ?_⟩
  have q1 := same_new nD (.lst [])
  have hl := st.len
  rw [B.steps_len] at hl
  have ez := t.steps_wk k []
  refine lc_list (K := K) (a := p) (xs := us) (fun i H' => Same H1 H' ∧ H' D = some (.lst (((t.wk k).take i).map vc))) ⟨q1, upd_same⟩ (fun i H' _ hp => SqL.of (hp.1 _ _ ep)) (fun i x H' hx hp => ?_) (fun H' hp => ?_)
  · obtain ⟨sm, ed⟩ := hp
    obtain ⟨a, pq, c, rfl, es, ea⟩ := st.get hx
    have hc : (t.wk k)[i]? = some c := by rw [← ez, List.getElem?_map, es]; rfl
    have hi := (List.getElem?_eq_some_iff.mp hx).1
    refine ⟨a, _, rfl, SqT.of (sm _ _ ea), rfl, _, _, rfl, _, _, rfl, rfl, rfl, kept ?_⟩
    refine ⟨_, rfl, _, ed, ?_, fun b o e => ?_, ?_⟩
    · rw [List.length_map, List.length_take]; exact small1000 (by omega)
    · rw [upd_ne (ne_of_none e nD)]; exact sm _ _ e
    · rw [upd_same, take_next hc, List.map_append]; rfl
  · obtain ⟨sm, ed⟩ := hp
    have tk : (t.wk k).take us.length = t.wk k := List.take_of_length_le (by rw [t.wk_len k]; omega)
    rw [tk, map_vc] at ed
    refine ⟨_, D, (t.wk k).map ch, rfl, rfl, .inl (SqL.of ed), tx_joinOk _ (by rw [t.wk_len k]; omega), ?_⟩
    rw [tx_join]
    exact q H' (s1.trans sm)
end
/-! ### is_letter, is_node, is_tree of a tree -/
def isLow (c : Nat) : Bool := decide (97 ≤ c) && decide (c ≤ 122)
def isLt : List Nat → Bool
  | [c] => isLow c
  | _ => false
def spLow : Sp := fun vs H Q _ => ∃ l : List Nat, vs = [.str (tx l)] ∧ l.length ≤ 1 ∧ Q (.bl (isLt l)) H
/-- all labels are letters -/
def B.lts (t : B) : Prop := ∀ c ∈ t.pre, isLow c = true
theorem B.lts_node {l r : B} {x : Nat} : (B.node l x r).lts ↔ isLow x = true ∧ l.lts ∧ r.lts := by
  unfold B.lts
  constructor
  · intro h
    exact ⟨h x List.mem_cons_self, fun c hc => h c (List.mem_cons_of_mem _ (List.mem_append_left _ hc)), fun c hc => h c (List.mem_cons_of_mem _ (List.mem_append_right _ hc))⟩
  · rintro ⟨h1, h2, h3⟩ c hc
    rcases List.mem_cons.mp hc with rfl | hc
    · exact h1
    · rcases List.mem_append.mp hc with hc | hc
      · exact h2 c hc
      · exact h3 c hc
theorem B.lts_nil : B.nil.lts := fun _ h => nomatch h
inductive FsAt (H : Hp) : List V → Nat → Prop
  | nil : FsAt H [] 0
  | cons {v : V} {t : B} {vs : List V} {n : Nat} : BAt H v t → t ≠ .nil → t.lts → FsAt H vs n → FsAt H (v :: vs) (t.size + n)
theorem B.size_pos {t : B} (h : t ≠ .nil) : 1 ≤ t.size := by
  cases t with
  | nil => exact absurd rfl h
  | node l x r => show 1 ≤ l.size + 1 + r.size; omega
theorem FsAt.same {H H' : Hp} (s : Same H H') {vs : List V} {n : Nat} (h : FsAt H vs n) : FsAt H' vs n := by
  induction h with
  | nil => exact .nil
  | cons a b c _ ih => exact .cons (a.same s) b c ih
theorem FsAt.keepT {H H' : Hp} (s : KeepT H H') {vs : List V} {n : Nat} (h : FsAt H vs n) : FsAt H' vs n := by
  induction h with
  | nil => exact .nil
  | cons a b c _ ih => exact .cons (a.keep s) b c ih
theorem FsAt.app {H : Hp} {vs ws : List V} {n m : Nat} (h : FsAt H vs n) (g : FsAt H ws m) : FsAt H (vs ++ ws) (n + m) := by
  induction h with
  | nil => rw [Nat.zero_add]; exact g
  | cons a b c _ ih => rw [Nat.add_assoc]; exact .cons a b c ih
theorem FsAt.len {H : Hp} {vs : List V} {n : Nat} (h : FsAt H vs n) : vs.length ≤ n := by
  induction h with
  | nil => exact Nat.le_refl _
  | cons _ b _ _ ih => have := B.size_pos b; rw [List.length_cons]; omega
theorem FsAt.last {H : Hp} {vs : List V} {n : Nat} (h : FsAt H vs n) : vs ≠ [] → ∃ v t m, vs[vs.length - 1]? = some v ∧ n = m + t.size ∧ BAt H v t ∧ t ≠ .nil ∧ t.lts ∧ FsAt H vs.dropLast m := by
  induction h with
  | nil => intro z; exact absurd rfl z
  | @cons v t vs n a b c hh ih =>
    intro _
    cases vs with
    | nil => cases hh; exact ⟨v, t, 0, rfl, by omega, a, b, c, .nil⟩
    | cons w ws =>
      obtain ⟨u, t', m, e1, e2, e3, e4, e5, e6⟩ := ih (by simp)
      refine ⟨u, t', t.size + m, ?_, by omega, e3, e4, e5, .cons a b c e6⟩
      show (w :: ws)[(w :: ws).length - 1]? = some u
      exact e1
def keepV : V → List V
  | .non => []
  | v => [v]
theorem keep_step {xs : List V} {j : Nat} {x : V} (h : xs[j]? = some x) : (xs.take (j + 1)).flatMap keepV = (xs.take j).flatMap keepV ++ keepV x := by
  rw [List.take_add_one, h, List.flatMap_append]
  congr 1
  show keepV x ++ [] = keepV x
  rw [List.append_nil]
theorem keep_len : ∀ xs : List V, (xs.flatMap keepV).length ≤ xs.length
  | [] => Nat.le_refl _
  | x :: xs => by
    have h := keep_len xs
    have h1 : (keepV x).length ≤ 1 := by cases x <;> first | exact Nat.zero_le _ | exact Nat.le_refl _
    rw [List.flatMap_cons, List.length_append, List.length_cons]
    omega
theorem FsAt.keep {H : Hp} {v : V} {t : B} (h : BAt H v t) (l : t.lts) : FsAt H (keepV v) t.size := by
  rcases h.inv with ⟨rfl, rfl⟩ | ⟨a, vl, vr, x, tl, tr, rfl, rfl, _⟩
  · exact .nil
  · exact .cons h (fun z => nomatch z) l .nil
def spNodeT : Sp := fun vs H Q _ => ∃ (v : V) (t : B), vs = [v] ∧ BAt H v t ∧ t ≠ .nil ∧ t.lts ∧ Q (.bl true) H
def spTreeT : Sp := fun vs H Q _ => ∃ (v : V) (t : B), vs = [v] ∧ BAt H v t ∧ t ≠ .nil ∧ t.lts ∧ t.size ≤ 12 ∧ ∀ H', Same H H' → Q (.bl true) H'
def toGo (σ : L2.St) : Nat := match σ[1]? with
  | some (some (V.int c)) => (13 - c).toNat
  | _ => 0
def spSz (n : Nat) : Sp := fun vs H Q _ => ∃ (v : V) (t : B), vs = [v] ∧ BAt H v t ∧ t.size < n ∧ Q (.int (t.size : Int)) H
section
variable {P : Program} {w : World} {K : PySem.W.Frag} {mg : Str → Option Value} {base : Heap} {f : Addr} {fd : FuncData}
theorem ok_low {k : Nat} (F : Fun K "is_letter" "is_letter" s_is_letter f fd) (M : Mgs mg) : FnOk P w K mg base CX0 (k + 1) f fd ["value"] spLow := by
  refine F.ok sc_is_letter (fun vs H Q E h => ?_) (fun cdv A outer s H vs Q E hr h => ?_)
  · obtain ⟨l, rfl, _⟩ := h
    rfl
  obtain ⟨l, rfl, hl, q⟩ := h
  refine ⟨_, (pss_one (ps_ret (pe_and (pe_callB call_isi rfl M.isinstance (by decide +kernel) (pa_cons (pv 0) (pa_cons (pe_bltn (v := .ty "str") rfl M.str (by decide +kernel) rfl) pa_nil))) (pe_and (pe_cmpR op_eq (pe_callB call_len_str rfl M.len PySem.boot_len (pa_cons (pv 0) pa_nil)) pe_int (nomark _)) (pe_one (pe_chain op_le_str op_le_str pe_str (pv 0) pe_str)))))), ?_⟩
  refine ⟨_, rfl, _, _, _, _, true, rfl, .ty _, .base (.str (tx l)), kit_ty (by decide +kernel), _, rfl, iteT ?_⟩
  refine ⟨_, rfl, tx l, rfl, small (by rw [tx_len]; omega), rfl, _, rfl, ?_⟩
  match l, hl, q with
  | [], _, q => exact iteF q
  | [c], _, q =>
    rw [show decide (V.int ((tx [c]).length : Nat) = V.int 1) = true from rfl]
    refine iteT ⟨_, rfl, _, _, rfl, rfl, _, rfl, ?_⟩
    have e1 : (!decide ((tx [c]).cps.toList < (Str.ofString "a").cps.toList)) = decide (97 ≤ c) := by
      rw [show (Str.ofString "a").cps.toList = [97] by decide +kernel, show (tx [c]).cps.toList = [c] from rfl]
      by_cases h : c < 97
      · rw [decide_eq_true (by simp [List.cons_lt_cons_iff, h]), decide_eq_false (by omega)]; rfl
      · rw [decide_eq_false (by simp [List.cons_lt_cons_iff, h]), decide_eq_true (by omega)]; rfl
    have e2 : (!decide ((Str.ofString "z").cps.toList < (tx [c]).cps.toList)) = decide (c ≤ 122) := by
      rw [show (Str.ofString "z").cps.toList = [122] by decide +kernel, show (tx [c]).cps.toList = [c] from rfl]
      by_cases h : 122 < c
      · rw [decide_eq_true (by simp [List.cons_lt_cons_iff, h]), decide_eq_false (by omega)]; rfl
      · rw [decide_eq_false (by simp [List.cons_lt_cons_iff, h]), decide_eq_true (by omega)]; rfl
    rw [e1]
    have q : Q (.bl (decide (97 ≤ c) && decide (c ≤ 122))) H := q
    by_cases h : 97 ≤ c
    · rw [decide_eq_true h] at q ⊢
      refine iteT ⟨_, _, rfl, rfl, ?_⟩
      rw [e2]
      exact q
    · rw [decide_eq_false h] at q ⊢
      exact iteF q
theorem ok_node {k : Nat} (F : Fun K "is_node" "is_node" s_is_node f fd) (M : Mgs mg) (Dis_letter : Df P w K mg base (k + 1) "is_letter" ["value"] spLow) : FnOk P w K mg base CX0 (k + 2) f fd ["value"] spNodeT := by
  refine F.ok sc_is_node (fun vs H Q E h => ?_) (fun cdv A outer s H vs Q E hr h => ?_)
  · obtain ⟨v, t, rfl, _⟩ := h
    rfl
  obtain ⟨v, t, rfl, ht, hn, hl, q⟩ := h
  refine ⟨_, (pss_one (ps_ret (pe_and (pe_callB call_isi rfl M.isinstance (by decide +kernel) (pa_cons (pv 0) (pa_cons (pe_bltn (v := .ty "tuple") rfl M.tuple (by decide +kernel) rfl) pa_nil))) (pe_and (pe_cmpR op_eq (pe_callB call_len_seq rfl M.len PySem.boot_len (pa_cons (pv 0) pa_nil)) pe_int (nomark _)) (pe_one (pe_call Dis_letter.ok (hr.mono (by omega)) rfl Dis_letter.g Dis_letter.kp Dis_letter.b .nil pass0 (pa_cons (pe_ix ix_tup (pv 0) pe_int (fun _ _ => rfl)) pa_nil))))))), ?_⟩
  rcases ht.inv with ⟨_, rfl⟩ | ⟨a, vl, vr, x, tl, tr, rfl, rfl, e, _⟩
  · exact absurd rfl hn
  have hx := (B.lts_node.mp hl).1
  refine ⟨_, rfl, _, _, _, _, true, rfl, .ty _, .base (.tup e), kit_ty (by decide +kernel), _, rfl, iteT ?_⟩
  refine ⟨_, rfl, a, _, rfl, .inr (SqT.of e), rfl, _, rfl, iteT ?_⟩
  refine ⟨_, rfl, a, _, 1, _, rfl, rfl, SqT.of e, atI_nat (j := 1) rfl, [x], rfl, Nat.le_refl _, ?_⟩
  have : isLt [x] = true := hx
  rw [this]
  exact q
theorem ok_isTree {tM : Tok} (F : Fun K "is_tree" "is_tree" s_is_tree f fd) (mMAX : mg "MAX_NODES" = some (.int 12 tM)) (Dis_node : Df P w K mg base 2 "is_node" ["value"] spNodeT) : FnOk P w K mg base CX0 3 f fd ["value"] spTreeT := by
  refine F.ok sc_is_tree (fun vs H Q E h => ?_) (fun cdv A outer s H vs Q E hr h => ?_)
  · obtain ⟨v, t, rfl, _⟩ := h
    rfl
  obtain ⟨v, t, rfl, ht, hn, hlt, hsz, q⟩ := h
  refine ⟨_, (pss_cons (ps_set (i := 1) sc_is_tree.nd rfl (.inl rfl) pe_int)
    (pss_cons (ps_set (i := 2) sc_is_tree.nd rfl (.inl rfl) (pe_lst (pa_cons (pv 0) pa_nil)))
    (pss_cons (ps_while PassesOwn.never (pt_truth (pv 2) (by intro _; rfl))
      (pss_cons (ps_set (i := 3) sc_is_tree.nd rfl (.inl rfl) (pe_bm0 PySem.F.plainAttrs_list PySem.F.slot_list_pop PySem.F.type_list_pop mt_pop (pv 2)))
    (pss_cons (ps_aug (i := 1) sc_is_tree.nd rfl (.inl rfl) pe_int ip_add)
    (pss_cons (ps_if (PW.pt (pw_or (pt_cmpR op_gt (pv 1) (pe_glob (v := .int _) rfl mMAX ⟨_, rfl⟩) (nomark _)) (pw_or1 (pt_not (pt_val (pe_call Dis_node.ok (hr.mono (by omega)) rfl Dis_node.g Dis_node.kp Dis_node.b .nil pass0 (pa_cons (pv 3) pa_nil)))))))
      (pss_one (ps_ret pe_bl)) pss_nil)
    (pss_one (ps_expr (pe_bm PySem.F.plainAttrs_list PySem.F.slot_list_extend PySem.F.type_list_extend mt_extend (pv 2) (pa_cons (pe_lc (own := [("side", 4)]) (g := gName 4) rfl sc_is_tree.nd (pi_tup (pe_tup (pa_cons (pe_ix ix_tup (pv 3) pe_int (fun _ _ => rfl)) (pa_cons (pe_ix ix_tup (pv 3) pe_int (fun _ _ => rfl)) pa_nil)))) (blkOk_by (N := ["value", "count", "waiting", "part", "side"]) (sc := defScope s_is_tree) (by decide +kernel)) (fun _ _ _ _ _ => (pg_name (i := 4) sc_is_tree.nd rfl (.inl rfl))) (fun _ _ _ _ _ => pts_one (pt_cmpR op_notN (pv 4) pe_non (nomark _))) (fun _ _ _ _ _ => (pv 4))) pa_nil))))))))
    (pss_one (ps_ret pe_bl))))), ?_⟩
  refine ⟨_, rfl, (by show 1 ≤ sizeLine; decide), fun wa nw => ?_⟩
  have q0 := same_new nw (.lst [v])
  refine while_by (c := fun σ H' Q' => tVar 2 σ H' fun x H2 => ∃ k, TruV K x H2 k ∧ Q' k H2) (fun σ H' => ∃ (c n : Nat) (y3 : Option V) (ws : List V), σ = [some v, some (.int (c : Int)), some (.ref wa), y3, none] ∧ Same H H' ∧ H' wa = some (.lst ws) ∧ FsAt H' ws n ∧ c + n ≤ 12)
    (fun σ _ => toGo σ)
    ?_ (fun σ H' hp => ?_) ?_
  · exact ⟨0, _, none, [v], rfl, q0, upd_same, .cons (ht.same q0) hn hlt .nil, by omega⟩
  · obtain ⟨c, n, y3, ws, rfl, sm, ew, fs, hc⟩ := hp
    refine ⟨_, rfl, !ws.isEmpty, .inl ⟨ws, SqL.of ew, rfl⟩, ?_⟩
    cases ws with
    | nil => exact iteF (q H' sm)
    | cons w0 ws0 =>
      refine iteT ?_
      obtain ⟨p, tp, n', ep, rfl, hp, hpn, hpl, fs'⟩ := fs.last (by simp)
      have hp1 := B.size_pos hpn
      refine ⟨.ref wa, rfl, .inl ⟨rfl, _, SqL.of ew⟩, wa, _, p, rfl, rfl, ew, ep, ?_⟩
      refine ⟨_, rfl, _, _, rfl, rfl, ?_⟩
      have sm2 : Same H (upd H' wa (.lst (w0 :: ws0).dropLast)) := fun b o z => by
        rw [upd_ne (ne_of_none z nw)]
        exact sm _ _ z
      have kt : KeepT H' (upd H' wa (.lst (w0 :: ws0).dropLast)) := fun b xs z => by
        rw [upd_ne (ne_of z ew (by intro z; cases z))]
        exact z
      have ew2 : (upd H' wa (.lst (w0 :: ws0).dropLast)) wa = some (.lst (w0 :: ws0).dropLast) := upd_same
      have hp2 := hp.keep kt
      have fs2 : FsAt (upd H' wa (.lst (w0 :: ws0).dropLast)) (w0 :: ws0).dropLast n' := fs'.keepT kt
      generalize upd H' wa (.lst (w0 :: ws0).dropLast) = H2 at sm2 ew2 hp2 fs2 ⊢
      have lw := fs2.len
      generalize (w0 :: ws0).dropLast = W at ew2 fs2 lw ⊢
      refine ⟨_, rfl, _, _, rfl, rfl, _, rfl, ?_⟩
      rw [decide_eq_false (show ¬ ((c : Int) + 1 > 12) by omega)]
      refine iteF ?_
      refine ⟨_, rfl, p, tp, rfl, hp2, hpn, hpl, _, rfl, iteF ?_⟩
      rcases hp2.inv with ⟨_, rfl⟩ | ⟨a, vl, vr, x, tl, tr, rfl, rfl, e3, aL, aR⟩
      · exact absurd rfl hpn
      obtain ⟨_, l1, l3⟩ := B.lts_node.mp hpl
      have hsp : (B.node tl x tr).size = tl.size + 1 + tr.size := rfl
      refine ⟨.ref wa, rfl, .inl ⟨rfl, _, SqL.of ew2⟩, _, rfl, a, _, 0, vl, rfl, rfl, SqT.of e3, atI_nat (j := 0) rfl, _, rfl, a, _, 2, vr, rfl, rfl, SqT.of e3, atI_nat (j := 2) rfl, (by show 2 ≤ sizeLine; decide), fun tp ntp => ?_⟩
      have q6 := same_new ntp (.tup [vl, vr])
      refine ⟨tp, rfl, ⟨_, SqT.of upd_same⟩, fun L nL => ?_⟩
      have q7 := same_new nL (.lst [])
      refine lc_tup (K := K) (a := tp) (xs := [vl, vr]) (fun j H'' => Same (upd H2 tp (.tup [vl, vr])) H'' ∧ H'' L = some (.lst ((([vl, vr] : List V).take j).flatMap keepV))) ⟨q7, upd_same⟩ (fun j H'' _ hp => SqT.of (hp.1 _ _ upd_same)) (fun j x H'' hx hp => ?_) (fun H'' hp => ?_)
      · obtain ⟨s7, eL⟩ := hp
        refine ⟨rfl, _, rfl, rfl, _, rfl, ?_⟩
        by_cases hxn : x = .non
        · refine iteNS hxn ⟨s7, ?_⟩
          rw [keep_step hx, hxn]
          show _ = some (HO.lst (_ ++ []))
          rw [List.append_nil]
          exact eL
        · rw [decide_eq_false hxn]
          refine iteT ⟨x, rfl, _, eL, ?_, fun b o z => ?_, ?_⟩
          · have := keep_len (([vl, vr] : List V).take j)
            have h2 : (([vl, vr] : List V).take j).length ≤ 2 := by rw [List.length_take]; exact Nat.min_le_right _ _
            exact small1000 (by omega)
          · rw [upd_ne (ne_of_none z nL)]
            exact s7 _ _ z
          · rw [upd_same, keep_step hx]
            cases x <;> first | rfl | exact absurd rfl hxn
      · obtain ⟨s7, eL⟩ := hp
        have s8 : Same H2 H'' := q6.trans s7
        have eL' : H'' L = some (.lst (keepV vl ++ keepV vr)) := by
          rw [eL]
          show some (HO.lst (keepV vl ++ (keepV vr ++ []))) = _
          rw [List.append_nil]
        have k1 : (keepV vl).length ≤ 1 := by cases vl <;> first | exact Nat.zero_le _ | exact Nat.le_refl _
        have k2 : (keepV vr).length ≤ 1 := by cases vr <;> first | exact Nat.zero_le _ | exact Nat.le_refl _
        refine ⟨wa, L, _, _, rfl, rfl, s8 _ _ ew2, eL', small (by rw [List.length_append]; omega), ?_⟩
        have kt2 : KeepT H'' (upd H'' wa (.lst (W ++ (keepV vl ++ keepV vr)))) := fun b xs z => by
          rw [upd_ne (ne_of z (s8 _ _ ew2) (by intro z; cases z))]
          exact z
        refine ⟨⟨c + 1, _, some (.ref a), _, rfl, fun b o z => ?_, upd_same, ((fs2.same s8).app ((FsAt.keep (aL.same s8) l1).app (FsAt.keep (aR.same s8) l3))).keepT kt2, by omega⟩, ?_⟩
        · rw [upd_ne (ne_of_none z nw)]
          exact s8 _ _ (sm2 _ _ z)
        · show (13 - ((c : Int) + 1)).toNat < (13 - (c : Int)).toNat
          omega
  · intro σ H' Q1 Q2 hQ h
    obtain ⟨v', e, k', t, q'⟩ := h
    exact ⟨v', e, k', t, hQ _ _ q'⟩
theorem ok_size (F : Fun K "size_of" "size_of" s_size_of f fd) (b : Binds K fd ["tree"] []) (g : mg "size_of" = some (.ref f)) : ∀ n : Nat, FnOk P w K mg base CX0 n f fd ["tree"] (spSz n)
  | 0 => by
    have no : ∀ vs H Q E, ¬ spSz 0 vs H Q E := fun vs H Q E h => by
      obtain ⟨v, t, _, _, h1, _⟩ := h
      omega
    exact ⟨fun vs H Q E h => absurd h (no vs H Q E), fun A outer s H args us vs Q E _ _ _ _ h => absurd h (no vs H Q E)⟩
  | n + 1 => by
    have Dself : Df P w K mg base n "size_of" ["tree"] (spSz n) := ⟨f, fd, ok_size F b g n, b, F.kp, g⟩
    refine F.ok sc_size_of (fun vs H Q E h => ?_) (fun cdv A outer s H vs Q E hr h => ?_)
    · obtain ⟨v, t, rfl, _⟩ := h
      rfl
    obtain ⟨v, t, rfl, hv, hn, q⟩ := h
    refine ⟨_, (pss_cons (ps_if (pt_cmpR op_isN (pv 0) pe_non (nomark _))
      (pss_one (ps_ret pe_int)) pss_nil)
    (pss_one (ps_ret (pe_op op_add (pe_op op_add (pe_call Dself.ok (hr.mono (by omega)) rfl Dself.g Dself.kp Dself.b .nil pass0 (pa_cons (pe_ix ix_tup (pv 0) pe_int (fun _ _ => rfl)) pa_nil)) pe_int) (pe_call Dself.ok (hr.mono (by omega)) rfl Dself.g Dself.kp Dself.b .nil pass0 (pa_cons (pe_ix ix_tup (pv 0) pe_int (fun _ _ => rfl)) pa_nil)))))), ?_⟩
    rcases hv.inv with ⟨rfl, rfl⟩ | ⟨a, l, r, x, tl, tr, rfl, rfl, ea, hl, hr'⟩
    · exact ⟨_, rfl, rfl, _, rfl, iteT q⟩
    · refine ⟨_, rfl, rfl, _, rfl, iteF ?_⟩
      have hz : tl.size + 1 + tr.size < n + 1 := hn
      refine ⟨_, rfl, a, _, 0, l, rfl, rfl, SqT.of ea, atI_nat (j := 0) rfl, l, tl, rfl, hl, by omega, _, _, rfl, rfl, _, rfl, a, _, 2, r, rfl, rfl, SqT.of ea, atI_nat (j := 2) rfl, r, tr, rfl, hr', by omega, _, _, rfl, rfl, ?_⟩
      have e : (tl.size : Int) + 1 + (tr.size : Int) = ((tl.size + 1 + tr.size : Nat) : Int) := by omega
      show Q (.int ((tl.size : Int) + 1 + (tr.size : Int))) H
      rw [e]
      exact q
end
/-! ### paths and parts -/
def dir : Bool → Nat
  | false => 108
  | true => 114
def px (p : List Bool) : Str := tx (p.map dir)
theorem dir_inj {a b : Bool} (h : dir a = dir b) : a = b := by cases a <;> cases b <;> first | rfl | cases h
theorem dirs_inj {p q : List Bool} (h : p.map dir = q.map dir) : p = q := by
  induction p generalizing q with
  | nil => cases q with
    | nil => rfl
    | cons b q => cases h
  | cons a p ih => cases q with
    | nil => cases h
    | cons b q =>
      rw [List.map_cons, List.map_cons] at h
      injection h with h1 h2
      rw [dir_inj h1, ih h2]
theorem px_inj {p q : List Bool} (h : px p = px q) : p = q := dirs_inj (tx_inj h)
theorem px_nil : px [] = Str.ofString "" := str_0.symm
theorem px_len (p : List Bool) : (px p).length = p.length := by
  show (p.map dir).length = _
  rw [List.length_map]
theorem px_drop (p : List Bool) : cutS (px p) (some 1) none = px (p.drop 1) := by
  have h := tx_from (p.map dir) 1
  rw [← List.map_drop] at h
  exact h
def B.at : B → List Bool → Option B
  | t, [] => some t
  | .nil, _ :: _ => none
  | .node l _ _, false :: p => l.at p
  | .node _ _ r, true :: p => r.at p
def B.put : B → List Bool → B → B
  | _, [], u => u
  | .nil, _ :: _, _ => .nil
  | .node l x r, false :: p, u => .node (l.put p u) x r
  | .node l x r, true :: p, u => .node l x (r.put p u)
def B.mir : B → B
  | .nil => .nil
  | .node l x r => .node r.mir x l.mir
theorem B.mir_size : ∀ t : B, t.mir.size = t.size
  | .nil => rfl
  | .node l x r => by
    have h1 := l.mir_size
    have h2 := r.mir_size
    show r.mir.size + 1 + l.mir.size = l.size + 1 + r.size
    omega
theorem B.at_size : ∀ (t : B) (p : List Bool) {o : B}, t.at p = some o → o.size + p.length ≤ t.size
  | t, [], o, h => by cases t <;> (cases h; exact Nat.le_refl _)
  | .nil, _ :: _, _, h => by cases h
  | .node l x r, false :: p, o, h => by
    have := l.at_size p (show l.at p = some o from h)
    show o.size + (p.length + 1) ≤ l.size + 1 + r.size
    omega
  | .node l x r, true :: p, o, h => by
    have := r.at_size p (show r.at p = some o from h)
    show o.size + (p.length + 1) ≤ l.size + 1 + r.size
    omega
theorem B.put_size : ∀ (t : B) (p : List Bool) (u : B) {o : B}, t.at p = some o → (t.put p u).size + o.size = t.size + u.size
  | t, [], u, o, h => by cases t <;> (cases h; exact Nat.add_comm _ _)
  | .nil, _ :: _, _, _, h => by cases h
  | .node l x r, false :: p, u, o, h => by
    have := l.put_size p u (show l.at p = some o from h)
    show (l.put p u).size + 1 + r.size + o.size = l.size + 1 + r.size + u.size
    omega
  | .node l x r, true :: p, u, o, h => by
    have := r.put_size p u (show r.at p = some o from h)
    show l.size + 1 + (r.put p u).size + o.size = l.size + 1 + r.size + u.size
    omega
theorem B.mir_lts : ∀ t : B, t.lts → t.mir.lts
  | .nil, h => h
  | .node l x r, h => by
    obtain ⟨h1, h2, h3⟩ := B.lts_node.mp h
    exact B.lts_node.mpr ⟨h1, r.mir_lts h3, l.mir_lts h2⟩
theorem B.at_lts : ∀ (t : B) (p : List Bool) {o : B}, t.at p = some o → t.lts → o.lts
  | t, [], o, h, k => by cases t <;> (cases h; exact k)
  | .nil, _ :: _, _, h, _ => by cases h
  | .node l x r, false :: p, o, h, k => l.at_lts p (show l.at p = some o from h) (B.lts_node.mp k).2.1
  | .node l x r, true :: p, o, h, k => r.at_lts p (show r.at p = some o from h) (B.lts_node.mp k).2.2
theorem B.put_lts : ∀ (t : B) (p : List Bool) {u : B}, t.lts → u.lts → (t.put p u).lts
  | t, [], u, _, k => by cases t <;> exact k
  | .nil, _ :: _, _, _, _ => B.lts_nil
  | .node l x r, false :: p, u, h, k => by
    obtain ⟨h1, h2, h3⟩ := B.lts_node.mp h
    exact B.lts_node.mpr ⟨h1, l.put_lts p h2 k, h3⟩
  | .node l x r, true :: p, u, h, k => by
    obtain ⟨h1, h2, h3⟩ := B.lts_node.mp h
    exact B.lts_node.mpr ⟨h1, h2, r.put_lts p h3 k⟩
def spPart : Sp := fun vs H Q _ => ∃ (v : V) (t u : B) (p : List Bool), vs = [v, .str (px p)] ∧ BAt H v t ∧ t.at p = some u ∧ p.length ≤ 100 ∧ ∀ (v' : V) (H' : Hp), Same H H' → BAt H' v' u → Q v' H'
def spWith (n : Nat) : Sp := fun vs H Q _ => ∃ (v vp : V) (t u : B) (p : List Bool), vs = [v, .str (px p), vp] ∧ BAt H v t ∧ BAt H vp u ∧ p.length < n ∧ p.length ≤ 100 ∧ (t.at p).isSome = true ∧ ∀ (v' : V) (H' : Hp), Same H H' → BAt H' v' (t.put p u) → Q v' H'
def spRepl : Sp := fun vs H Q _ => ∃ (v vp : V) (t u o : B) (p : List Bool), vs = [v, .str (px p), vp] ∧ BAt H v t ∧ BAt H vp u ∧ t.at p = some o ∧ t.size ≤ 12 ∧ (t.put p u).size ≤ 12 ∧ ∀ (v' : V) (H' : Hp), Same H H' → BAt H' v' (t.put p u) → Q v' H'
def spMir (n : Nat) : Sp := fun vs H Q _ => ∃ (v : V) (t : B), vs = [v] ∧ BAt H v t ∧ t.size < n ∧ ∀ (v' : V) (H' : Hp), Same H H' → BAt H' v' t.mir → Q v' H'
theorem dir_str (b : Bool) : decide (V.str (ch (dir b)) = V.str (Str.ofString "l")) = !b := by
  rw [str_l]
  cases b
  · exact decide_eq_true rfl
  · exact decide_eq_false fun z => absurd (tx_inj (V.str.inj z)) (by simp [dir])
theorem dir_in (b : Bool) : inV (.str (ch (dir b))) [.str (Str.ofString "l"), .str (Str.ofString "r")] = true := by
  rw [str_l, str_r]
  cases b <;> rfl
section
variable {P : Program} {w : World} {K : PySem.W.Frag} {mg : Str → Option Value} {base : Heap} {f : Addr} {fd : FuncData}
theorem ok_part {k : Nat} (F : Fun K "part_at" "part_at" s_part_at f fd) (M : Mgs mg) : FnOk P w K mg base CX0 (k + 1) f fd ["tree", "path"] spPart := by
  refine F.ok sc_part_at (fun vs H Q E h => ?_) (fun cdv A outer s H vs Q E hr h => ?_)
  · obtain ⟨v, t, u, p, rfl, _⟩ := h
    rfl
  obtain ⟨v, t, u, p, rfl, ht, hu, hp, q⟩ := h
  refine ⟨_, (pss_cons (ps_if (pt_not (pt_val (pe_callB call_isi rfl M.isinstance (by decide +kernel) (pa_cons (pv 1) (pa_cons (pe_bltn (v := .ty "str") rfl M.str (by decide +kernel) rfl) pa_nil)))))
      (pss_one ps_never) pss_nil)
    (pss_cons (ps_set (i := 2) sc_part_at.nd rfl (.inl rfl) (pv 0))
    (pss_cons (ps_for PassesOwn.never rfl (pi_str (pv 1)) (pg_name (i := 3) sc_part_at.nd rfl (.inl rfl))
      (pss_cons (ps_if (PW.pt (pw_or (pt_cmpR op_isN (pv 2) pe_non (nomark _)) (pw_or1 (pt_cmpR op_notIn_seq (pv 3) (pe_tup (pa_cons pe_str (pa_cons pe_str pa_nil))) (by rfl)))))
      (pss_one ps_never) pss_nil)
    (pss_one (ps_set (i := 2) sc_part_at.nd rfl (.inl rfl) (pe_ifExp (pt_cmpR op_eq (pv 3) pe_str (nomark _)) (pe_ix ix_tup (pv 2) pe_int (fun _ _ => rfl)) (pe_ix ix_tup (pv 2) pe_int (fun _ _ => rfl)))))))
    (pss_one (ps_ret (pv 2)))))), ?_⟩
  refine ⟨_, rfl, _, _, _, _, true, rfl, .ty _, .base (.str (px p)), kit_ty (by decide +kernel), _, rfl, iteF ?_⟩
  refine ⟨_, rfl, ?_⟩
  refine ⟨_, rfl, px p, rfl, ?_⟩
  refine for_text (x := px p) (fun i σ H' => ∃ (vi : V) (ti : B) (y3 : Option V), σ = [some v, some (.str (px p)), some vi, y3] ∧ Same H H' ∧ BAt H' vi ti ∧ ti.at (p.drop i) = some u) ⟨v, t, none, rfl, Same.refl _, ht, hu⟩ (fun i c σ H1 hc hq => ?_) (fun σ H1 hq => ?_)
  · obtain ⟨vi, ti, y3, rfl, s1, hi, ei⟩ := hq
    have hc' : (p.map dir)[i]? = some c := hc
    obtain ⟨b, hb, rfl⟩ : ∃ b, p[i]? = some b ∧ dir b = c := by
      rw [List.getElem?_map] at hc'
      cases e : p[i]? with
      | none => rw [e] at hc'; cases hc'
      | some b => rw [e] at hc'; exact ⟨b, rfl, Option.some.inj hc'⟩
    have hdr : p.drop i = b :: p.drop (i + 1) := by
      obtain ⟨h1, h2⟩ := List.getElem?_eq_some_iff.mp hb
      rw [List.drop_eq_getElem_cons h1, h2]
    rw [hdr] at ei
    rcases hi.inv with ⟨rfl, rfl⟩ | ⟨a, vl, vr, x, tl, tr, rfl, rfl, ea, hl, hr'⟩
    · cases ei
    refine ⟨_, rfl, rfl, _, rfl, iteF ?_⟩
    refine ⟨_, rfl, (by show 2 ≤ sizeLine; decide), fun tp ntp => ?_⟩
    have k2 := same_new ntp (.tup [.str "l", .str "r"])
    refine ⟨tp, _, rfl, .inr (SqT.of upd_same), rfl, (by decide +kernel), _, rfl, ?_⟩
    have hin : (!inV (V.str (ch (dir b))) [V.str "l", V.str "r"]) = false := by rw [dir_in]; rfl
    rw [hin]
    refine iteF ?_
    have s12 := s1.trans k2
    refine ⟨_, rfl, rfl, _, rfl, ?_⟩
    rw [dir_str]
    cases b with
    | false =>
      refine iteT ⟨_, rfl, a, _, 0, vl, rfl, rfl, SqT.of (k2 _ _ ea), atI_nat (j := 0) rfl, ?_⟩
      exact ⟨vl, tl, _, rfl, s12, hl.same k2, ei⟩
    | true =>
      refine iteF ⟨_, rfl, a, _, 2, vr, rfl, rfl, SqT.of (k2 _ _ ea), atI_nat (j := 2) rfl, ?_⟩
      exact ⟨vr, tr, _, rfl, s12, hr'.same k2, ei⟩
  · obtain ⟨vi, ti, y3, rfl, s1, hi, ei⟩ := hq
    rw [List.drop_eq_nil_of_le (by rw [show (px p).cps.toList = p.map dir from rfl, List.length_map]; exact Nat.le_refl _)] at ei
    have : ti = u := by cases ti <;> (cases ei; rfl)
    subst this
    exact ⟨_, rfl, q vi H1 s1 hi⟩
theorem ok_with (F : Fun K "with_part" "with_part" s_with_part f fd) (b : Binds K fd ["tree", "path", "part"] []) (g : mg "with_part" = some (.ref f)) : ∀ n : Nat, FnOk P w K mg base CX0 n f fd ["tree", "path", "part"] (spWith n)
  | 0 => by
    have no : ∀ vs H Q E, ¬ spWith 0 vs H Q E := fun vs H Q E h => by
      obtain ⟨v, vp, t, u, p, _, _, _, h1, _⟩ := h
      exact absurd h1 (Nat.not_lt_zero _)
    exact ⟨fun vs H Q E h => absurd h (no vs H Q E), fun A outer s H args us vs Q E _ _ _ _ h => absurd h (no vs H Q E)⟩
  | n + 1 => by
    have Dself : Df P w K mg base n "with_part" ["tree", "path", "part"] (spWith n) := ⟨f, fd, ok_with F b g n, b, F.kp, g⟩
    refine F.ok sc_with_part (fun vs H Q E h => ?_) (fun cdv A outer s H vs Q E hr h => ?_)
    · obtain ⟨v, vp, t, u, p, rfl, _⟩ := h
      rfl
    obtain ⟨v, vp, t, u, p, rfl, ht, hu, hn, hp, hs, q⟩ := h
    refine ⟨_, (pss_cons (ps_if (pt_cmpR op_eq (pv 1) pe_str (nomark _))
      (pss_one (ps_ret (pv 2))) pss_nil)
    (pss_cons (ps_asg (pv 0) (pg_tup rfl (pgs_cons (pg_name (i := 3) sc_with_part.nd rfl (.inl rfl)) (pgs_cons (pg_name (i := 4) sc_with_part.nd rfl (.inl rfl)) (pgs_cons (pg_name (i := 5) sc_with_part.nd rfl (.inl rfl)) pgs_nil)))))
    (pss_cons (ps_if (pt_cmpR op_eq (pe_ix ix_str (pv 1) pe_int (fun _ _ => rfl)) pe_str (nomark _))
      (pss_one (ps_ret (pe_tup (pa_cons (pe_call Dself.ok (hr.mono (by omega)) rfl Dself.g Dself.kp Dself.b .nil pass0 (pa_cons (pv 3) (pa_cons (pe_slice sl_str (pv 1) (po_some pe_int) po_none) (pa_cons (pv 2) pa_nil)))) (pa_cons (pv 4) (pa_cons (pv 5) pa_nil)))))) pss_nil)
    (pss_one (ps_ret (pe_tup (pa_cons (pv 3) (pa_cons (pv 4) (pa_cons (pe_call Dself.ok (hr.mono (by omega)) rfl Dself.g Dself.kp Dself.b .nil pass0 (pa_cons (pv 5) (pa_cons (pe_slice sl_str (pv 1) (po_some pe_int) po_none) (pa_cons (pv 2) pa_nil)))) pa_nil))))))))), ?_⟩
    have lp : (px p).length ≤ sizeLine := small (by rw [px_len]; omega)
    refine ⟨_, rfl, rfl, _, rfl, ?_⟩
    cases p with
    | nil =>
      refine iteS px_nil ⟨_, rfl, ?_⟩
      have e : t.put [] u = u := by cases t <;> rfl
      rw [e] at q
      exact q vp H (Same.refl H) hu
    | cons d p =>
      refine iteR (fun z => by rw [← px_nil] at z; cases px_inj z) ?_
      rcases ht.inv with ⟨rfl, rfl⟩ | ⟨a, vl, vr, x, tl, tr, rfl, rfl, ea, hl, hr'⟩
      · cases hs
      refine ⟨_, rfl, a, _, rfl, SqT.of ea, rfl, vl, _, rfl, .str (ch x), _, rfl, vr, _, rfl, rfl, ?_⟩
      have hp' : p.length + 1 < n + 1 := hn
      have hp2 : p.length + 1 ≤ 100 := hp
      refine ⟨_, rfl, _, _, _, rfl, rfl, lp, atI_nat (j := 0) rfl, rfl, _, rfl, ?_⟩
      have e0 : decide (V.str (ch (dir d)) = V.str (Str.ofString "l")) = !d := dir_str d
      have ed : cutS (px (d :: p)) (some 1) none = px p := px_drop _
      cases d with
      | false =>
        refine iteS str_l.symm ⟨_, rfl, _, rfl, _, rfl, _, rfl, lp, _, rfl, vl, vp, tl, u, p, by rw [ed]; rfl, hl, hu, by omega, by omega, hs, fun v' H1 s1 h1 => ?_⟩
        refine ⟨_, rfl, _, rfl, (by show 3 ≤ sizeLine; decide), fun r nr => ?_⟩
        have k2 := same_new nr (.tup [v', .str (ch x), vr])
        exact q _ _ (s1.trans k2) (.node upd_same (h1.same k2) (hr'.same (s1.trans k2)))
      | true =>
        refine iteR (fun z => by rw [str_l] at z; have := tx_inj z; cases this) ⟨_, rfl, _, rfl, _, rfl, _, rfl, _, rfl, _, rfl, lp, _, rfl, vr, vp, tr, u, p, by rw [ed]; rfl, hr', hu, by omega, by omega, hs, fun v' H1 s1 h1 => ?_⟩
        refine ⟨(by show 3 ≤ sizeLine; decide), fun r nr => ?_⟩
        have k2 := same_new nr (.tup [vl, .str (ch x), v'])
        exact q _ _ (s1.trans k2) (.node upd_same (hl.same (s1.trans k2)) (h1.same k2))
theorem ok_repl {tM : Tok} (F : Fun K "replaced" "replaced" s_replaced f fd) (mMAX : mg "MAX_NODES" = some (.int 12 tM)) (Dpart_at : Df P w K mg base 1 "part_at" ["tree", "path"] spPart) (Dsize_of : Df P w K mg base 20 "size_of" ["tree"] (spSz 20)) (Dwith_part : Df P w K mg base 20 "with_part" ["tree", "path", "part"] (spWith 20)) :
    FnOk P w K mg base CX0 21 f fd ["tree", "path", "part"] spRepl := by
  refine F.ok sc_replaced (fun vs H Q E h => ?_) (fun cdv A outer s H vs Q E hr h => ?_)
  · obtain ⟨v, vp, t, u, o, p, rfl, _⟩ := h
    rfl
  obtain ⟨v, vp, t, u, o, p, rfl, ht, hu, ho, h12, h12', q⟩ := h
  refine ⟨_, (pss_cons (ps_set (i := 3) sc_replaced.nd rfl (.inl rfl) (pe_call Dpart_at.ok (hr.mono (by omega)) rfl Dpart_at.g Dpart_at.kp Dpart_at.b .nil pass0 (pa_cons (pv 0) (pa_cons (pv 1) pa_nil))))
    (pss_cons (ps_if (pt_cmpR op_gt (pe_op op_add (pe_op op_sub (pe_call Dsize_of.ok (hr.mono (by omega)) rfl Dsize_of.g Dsize_of.kp Dsize_of.b .nil pass0 (pa_cons (pv 0) pa_nil)) (pe_call Dsize_of.ok (hr.mono (by omega)) rfl Dsize_of.g Dsize_of.kp Dsize_of.b .nil pass0 (pa_cons (pv 3) pa_nil))) (pe_call Dsize_of.ok (hr.mono (by omega)) rfl Dsize_of.g Dsize_of.kp Dsize_of.b .nil pass0 (pa_cons (pv 2) pa_nil))) (pe_glob (v := .int _) rfl mMAX ⟨_, rfl⟩) (nomark _))
      (pss_one ps_never) pss_nil)
    (pss_one (ps_ret (pe_call Dwith_part.ok (hr.mono (by omega)) rfl Dwith_part.g Dwith_part.kp Dwith_part.b .nil pass0 (pa_cons (pv 0) (pa_cons (pv 1) (pa_cons (pv 2) pa_nil)))))))), ?_⟩
  have z1 := t.at_size p ho
  have z2 := t.put_size p u ho
  refine ⟨_, rfl, _, rfl, v, t, o, p, rfl, ht, ho, by omega, fun vo H1 s1 ho1 => ?_⟩
  have ht1 := ht.same s1
  have hu1 := hu.same s1
  refine ⟨_, rfl, v, t, rfl, ht1, by omega, _, rfl, vo, o, rfl, ho1, by omega, _, _, rfl, rfl, _, rfl, vp, u, rfl, hu1, by omega, _, _, rfl, rfl, _, _, rfl, rfl, _, rfl, ?_⟩
  rw [decide_eq_false (show ¬ ((t.size : Int) - (o.size : Int) + (u.size : Int) > 12) by omega)]
  refine iteF ?_
  refine ⟨_, rfl, _, rfl, _, rfl, v, vp, t, u, p, rfl, ht1, hu1, by omega, by omega, by rw [ho]; rfl, fun v' H2 s2 h2 => q v' H2 (s1.trans s2) h2⟩
theorem ok_mir (F : Fun K "mirrored" "mirrored" s_mirrored f fd) (b : Binds K fd ["tree"] []) (g : mg "mirrored" = some (.ref f)) : ∀ n : Nat, FnOk P w K mg base CX0 n f fd ["tree"] (spMir n)
  | 0 => by
    have no : ∀ vs H Q E, ¬ spMir 0 vs H Q E := fun vs H Q E h => by
      obtain ⟨v, t, _, _, h1, _⟩ := h
      exact absurd h1 (Nat.not_lt_zero _)
    exact ⟨fun vs H Q E h => absurd h (no vs H Q E), fun A outer s H args us vs Q E _ _ _ _ h => absurd h (no vs H Q E)⟩
  | n + 1 => by
    have Dself : Df P w K mg base n "mirrored" ["tree"] (spMir n) := ⟨f, fd, ok_mir F b g n, b, F.kp, g⟩
    refine F.ok sc_mirrored (fun vs H Q E h => ?_) (fun cdv A outer s H vs Q E hr h => ?_)
    · obtain ⟨v, t, rfl, _⟩ := h
      rfl
    obtain ⟨v, t, rfl, ht, hn, q⟩ := h
    refine ⟨_, (pss_cons (ps_if (pt_cmpR op_isN (pv 0) pe_non (nomark _))
      (pss_one (ps_ret pe_non)) pss_nil)
    (pss_cons (ps_asg (pv 0) (pg_tup rfl (pgs_cons (pg_name (i := 1) sc_mirrored.nd rfl (.inl rfl)) (pgs_cons (pg_name (i := 2) sc_mirrored.nd rfl (.inl rfl)) (pgs_cons (pg_name (i := 3) sc_mirrored.nd rfl (.inl rfl)) pgs_nil)))))
    (pss_one (ps_ret (pe_tup (pa_cons (pe_call Dself.ok (hr.mono (by omega)) rfl Dself.g Dself.kp Dself.b .nil pass0 (pa_cons (pv 3) pa_nil)) (pa_cons (pv 2) (pa_cons (pe_call Dself.ok (hr.mono (by omega)) rfl Dself.g Dself.kp Dself.b .nil pass0 (pa_cons (pv 1) pa_nil)) pa_nil)))))))), ?_⟩
    rcases ht.inv with ⟨rfl, rfl⟩ | ⟨a, vl, vr, x, tl, tr, rfl, rfl, ea, hl, hr'⟩
    · exact ⟨_, rfl, rfl, _, rfl, iteT (q _ _ (Same.refl H) .nil)⟩
    have hz : tl.size + 1 + tr.size < n + 1 := hn
    refine ⟨_, rfl, rfl, _, rfl, iteF ?_⟩
    refine ⟨_, rfl, a, _, rfl, SqT.of ea, rfl, vl, _, rfl, .str (ch x), _, rfl, vr, _, rfl, rfl, ?_⟩
    refine ⟨_, rfl, vr, tr, rfl, hr', by omega, fun v1 H1 s1 h1 => ?_⟩
    refine ⟨_, rfl, _, rfl, vl, tl, rfl, hl.same s1, by omega, fun v2 H2 s2 h2 => ?_⟩
    refine ⟨(by show 3 ≤ sizeLine; decide), fun r nr => ?_⟩
    have k2 := same_new nr (.tup [v1, .str (ch x), v2])
    exact q _ _ (s1.trans (s2.trans k2)) (.node upd_same (h1.same (s2.trans k2)) (h2.same k2))
end
/-! ### first, *rest = a tuple -/
section
open PySem.W
theorem unpack_head {prog : Program} {w : World} {A : Around} {E : Value → Shared → Prop} {s : Shared} {l : Addr} {u : Value} {us : List Value} {Q : List Value → Shared → Prop} (hl : IsTup s.heap l (u :: us).toArray) (hh : A.handled = none) (hz : us.length ≤ 1000)
    (h : ∀ (h' : Heap) (tk : Tok), (∀ b o, s.heap.get? b = some o → h'.get? b = some o) → Q [u, .ref h'.objs.size] { s with heap := h'.push { cls := .type "list", data := .seq us.toArray }, toks := tk }) : wpAny (model prog w) A (unpackItems (.ref l) 2 (some 1)) Q E s := by
  have hlt : l ≠ s.heap.objs.size := by obtain ⟨o, ho, _⟩ := hl; exact Nat.ne_of_lt (Heap.lt_size ho)
  have sz : (u :: us).toArray.size = us.length + 1 := by simp
  unfold unpackItems
  refine wpAny_bind ?_
  unfold notIterableAtAll
  refine wpAny_bind (wpAny_specialOf hl.typeIs slot_tuple_iter.lookup ?_)
  refine wpAny_pure ?_
  simp only [Bool.false_eq_true, if_false]
  refine wpAny_bind (wpAny_holding (iter_tuple hl ?_))
  refine wpAny_bind (wpAny_holding (draw_tuple hlt 1 0 _ _ ⟨_, Heap.get?_push_size _ rfl, rfl, rfl⟩ (hl.push _) (by omega) fun h₁ it₁ b₁ => ?_))
  have hl₁ : IsTup h₁ l (u :: us).toArray := (hl.push _).extBut b₁.extBut hlt
  have it₁' := it₁
  obtain ⟨oi, hoi, _⟩ := it₁'
  have hl₁' := hl₁
  obtain ⟨ol, hol, _⟩ := hl₁'
  show wpAny _ _ (if ([u] : List Value).length < 1 then _ else _) _ _ _
  rw [if_neg (by show ¬ 1 < 1; omega)]
  refine wpAny_bind (wpAny_holding (kun_collect (s := { s with heap := h₁ }) (T := "tuple_iterator") (.inr (.inr (.inr rfl))) (Walks.tuple (A := A.in1) hh s.heap.objs.size l hlt (u :: us).toArray) (fun j u st => st.1.typeIs) (k := 1) (by omega) ⟨it₁, hl₁⟩ (Heap.lt_size hoi) (Heap.lt_size hol) (fun h₂ tk hk => ?_) (by rw [sz, sizeLine_eq]; omega)))
  show wpAny _ _ (if (us : List Value).length < 2 - 1 - 1 then _ else _) _ _ _
  rw [if_neg (by omega)]
  show wpAny _ _ (newList (us.take (us.length - 0)) >>= fun d => pure ([u] ++ [d] ++ us.drop (us.length - 0))) _ _ _
  rw [Nat.sub_zero, List.take_length, List.drop_length]
  refine wpAny_bind (wpAny_newList ?_ (by rw [sizeLine_eq]; omega))
  refine wpAny_pure ?_
  exact h h₂ tk fun b o e => hk b o (Nat.ne_of_lt (Heap.lt_size e)) (b₁.extBut b o (Nat.ne_of_lt (Heap.lt_size e)) (Heap.get?_push_of_some _ e))
end
def gHead (K : PySem.W.Frag) (t1 t2 : TG) : TG := fun v σ H Q => ∃ a x xs, v = .ref a ∧ SqT K H a (x :: xs) ∧ xs.length ≤ 1000 ∧ ∀ D, H D = none → t1 x σ (upd H D (.lst xs)) fun σ1 H1 => t2 (.ref D) σ1 H1 Q
theorem pg_head {X : Cx} {pos sp_ : Pos} {e1 e2 : Expr} {k : Nat} {t1 t2 : TG} (hc : X.calm = true) (h1 : PG X e1 t1) (h2 : PG X e2 t2)
    (hn : (assignEach [e1, .Starred e2 sp_] X.env).length = 2 := by rfl) (hst : (assignEach [e1, .Starred e2 sp_] X.env).findIdx? (·.1) = some 1 := by rfl)
    (hm : (assignEach [e1, .Starred e2 sp_] X.env).map (·.2) = [assign e1 X.env, assign e2 X.env] := by rfl) : PG X (.Tuple [e1, .Starred e2 sp_] k pos) (gHead X.K t1 t2) := by
  refine ⟨fun pins s σ H v u Q I r hw => ?_⟩
  obtain ⟨a, x, xs, e, hq, hz, hw⟩ := hw
  subst e
  cases r
  obtain ⟨its, rv, ht, _⟩ := I.tuple hq
  cases rv with
  | cons r1 rr =>
    rename_i y ys
    rw [PyProof.Rows.assign_Tuple]
    refine wpAny_bind (wpAny_standAt ?_)
    unfold unpack
    rw [hn, hst]
    refine wpAny_bind (wpAny_holding (unpack_head ht (I.ok.hd hc) (by rw [← rr.length]; exact hz) fun h' tk hk => ?_))
    have I1 : Inv X pins σ H { s with heap := h', toks := tk } := I.kept hk
    have I2 : Inv X pins σ (upd H h'.objs.size (.lst xs)) { s with heap := h'.push { cls := .type "list", data := .seq ys.toArray }, toks := tk } :=
      I1.laid (fun b o e => Heap.get?_push_of_some _ e) (Nat.le_refl _) ⟨small hz, ys, 0, rr, Heap.get?_push_size _ rfl⟩
    rw [hm]
    refine assignInOrder_cons (thn (h1.run pins _ σ _ x y _ I2 r1 (hw _ (I1.hok.fresh (Nat.le_refl _)))) fun _ s1 ⟨σ1, H1, I3, q1⟩ => ?_)
    refine assignInOrder_cons (thn (h2.run pins s1 σ1 H1 (.ref h'.objs.size) _ _ I3 rfl q1) fun _ s2 ⟨σ2, H2, I4, q2⟩ => ?_)
    exact assignInOrder_nil ⟨σ2, H2, I4, q2⟩
/-! ### a call with a star of a def that a name holds -/
structure HeldR (P : Program) (w : World) (K : PySem.W.Frag) (mg : Str → Option Value) (base : Heap) (k : Nat) (f : Addr) (sp : Sp) : Prop where
  ok : FnR P w K mg base CX0 k f sp
  kp : PySem.W.keepIn K (.ref f) = true
def tCallAS (i : Nat) (S : Addr → Sp → Prop) (t : TA) : TE := fun σ H Q => ∃ f sp, σ[i]? = some (some (.ref f)) ∧ S f sp ∧ t σ H fun vs H1 => sp vs H1 Q E0
theorem pe_callAS {X : Cx} {k i : Nat} {S : Addr → Sp → Prop} {x : Str} {p pos : Pos} {e : Expr} {es : List Expr} {t : TA} (A : ∀ f sp, S f sp → HeldR X.prog X.w X.K X.mg X.base k f sp) (hr : Room k X.A) (hN : X.N[i]? = some x) (hv : Vis X.env.scope x) (ha : PA X (e :: es) t)
    (hdb : (x == ("__debug__" : Str)) = false := by decide) (hcd : (x == ("__classdict__" : Str)) = false := by decide)
    (he : starEach (e :: es) X.env = (false, eval e X.env) :: starEach es X.env := by rfl) (hst : (backTo pos (starEach es X.env)).any (·.1) = true := by rfl) : PE X (.Call (.Name x p) (e :: es) [] pos) (tCallAS i S t) := by
  refine ⟨fun pins s σ H Q I h => ?_⟩
  obtain ⟨f, sp, hs, hS, ht⟩ := h
  obtain ⟨F, hk⟩ := A f sp hS
  refine wpAny_Call_Name_kw (thn ((pe_var (pos := p) hN hv hdb hcd).run pins s σ H (fun v H1 => v = .ref f ∧ H1 = H) I ⟨.ref f, hs, rfl, rfl⟩) fun u s1 ⟨v, H1, I1, r1, q1⟩ => ?_)
  obtain ⟨rfl, rfl⟩ := q1
  cases r1
  refine PySem.W.callWith_S2 (h₀ := X.base) I.ok.mod.kin hk (thn (ha.run pos pins s1 σ _ _ I1 ht) fun us s2 ⟨vs, H2, I2, r, q⟩ => ⟨I2.kIn, ?_⟩) he hst
  exact wpAny_call (run_fnR F hr pass0 I2 r q)
/-! ### the edits of a tree -/
/-- an edit that can be done -/
inductive Ed where
  | put (p : List Bool) (c : Nat)
  | cut (p : List Bool)
  | label (p : List Bool) (c : Nat)
  | turn (p : List Bool)
def Ed.word : Ed → Str
  | .put _ _ => "put"
  | .cut _ => "cut"
  | .label _ _ => "label"
  | .turn _ => "turn"
def Ed.args : Ed → List V
  | .put p c => [.str (px p), .str (ch c)]
  | .cut p => [.str (px p)]
  | .label p c => [.str (px p), .str (ch c)]
  | .turn p => [.str (px p)]
def Ed.vals (e : Ed) : List V := .str e.word :: e.args
/-- it can be done, and this becomes of the tree -/
inductive Does : B → Ed → B → Prop
  | put {t : B} {p : List Bool} {c : Nat} : t.at p = some .nil → isLow c = true → t.size ≤ 11 → Does t (.put p c) (t.put p (.node .nil c .nil))
  | cut {t u : B} {p : List Bool} : t.at p = some u → u ≠ .nil → p ≠ [] → Does t (.cut p) (t.put p .nil)
  | label {t l r : B} {p : List Bool} {y c : Nat} : t.at p = some (.node l y r) → isLow c = true → Does t (.label p c) (t.put p (.node l c r))
  | turn {t u : B} {p : List Bool} : t.at p = some u → u ≠ .nil → Does t (.turn p) (t.put p u.mir)
theorem nd_nil {t : B} : t ≠ .nil ↔ 1 ≤ t.size := by
  cases t with
  | nil => exact ⟨fun h => absurd rfl h, fun h => absurd h (by decide)⟩
  | node l x r => exact ⟨fun _ => by show 1 ≤ l.size + 1 + r.size; omega, fun _ z => nomatch z⟩
theorem put_ne {t : B} {p : List Bool} {u : B} (h : p ≠ []) (ht : (t.at p).isSome = true) : t.put p u ≠ .nil := by
  cases p with
  | nil => exact absurd rfl h
  | cons b p => cases t with
    | nil => cases ht
    | node l x r => cases b <;> exact fun z => nomatch z
theorem Does.good {t t' : B} {e : Ed} (d : Does t e t') (h1 : t.lts) (h2 : t.size ≤ 12) (h3 : t ≠ .nil) : t'.lts ∧ t'.size ≤ 12 ∧ t' ≠ .nil := by
  cases d with
  | @put p c ho hc hz =>
    have := t.put_size p (.node .nil c .nil) ho
    have e1 : (B.node .nil c .nil).size = 1 := rfl
    have e2 : B.nil.size = 0 := rfl
    exact ⟨B.put_lts _ _ h1 (B.lts_node.mpr ⟨hc, B.lts_nil, B.lts_nil⟩), by omega, nd_nil.mpr (by omega)⟩
  | @cut u p ho hu hp =>
    have := t.put_size p .nil ho
    have e2 : B.nil.size = 0 := rfl
    exact ⟨B.put_lts _ _ h1 B.lts_nil, by omega, put_ne hp (by rw [ho]; rfl)⟩
  | @label l r p y c ho hc =>
    have := t.put_size p (.node l c r) ho
    have e1 : (B.node l c r).size = (B.node l y r).size := rfl
    have hl := B.at_lts t p ho h1
    have hn := nd_nil.mp h3
    exact ⟨B.put_lts _ _ h1 (B.lts_node.mpr ⟨hc, (B.lts_node.mp hl).2⟩), by omega, nd_nil.mpr (by omega)⟩
  | @turn u p ho hu =>
    have := t.put_size p u.mir ho
    have e1 := u.mir_size
    have hl := B.at_lts t p ho h1
    have hn := nd_nil.mp h3
    exact ⟨B.put_lts _ _ h1 (u.mir_lts hl), by omega, nd_nil.mpr (by omega)⟩
def spOpen : Sp := fun vs H Q _ => ∃ (v : V) (t : B) (p : List Bool), vs = [v, .str (px p)] ∧ BAt H v t ∧ t.at p = some .nil ∧ p.length ≤ 100 ∧ ∀ H', Same H H' → Q (.bl true) H'
def spNodeAt : Sp := fun vs H Q _ => ∃ (v : V) (t u : B) (p : List Bool), vs = [v, .str (px p)] ∧ BAt H v t ∧ t.at p = some u ∧ u ≠ .nil ∧ p.length ≤ 100 ∧ ∀ (v' : V) (H' : Hp), Same H H' → BAt H' v' u → Q v' H'
/-- one of the four: the tree, then the edit's arguments -/
def spAct (mk : Ed → Prop) : Sp := fun vs H Q _ => ∃ (v : V) (t t' : B) (e : Ed), vs = v :: e.args ∧ mk e ∧ BAt H v t ∧ Does t e t' ∧ t.size ≤ 12 ∧ t.lts ∧ t ≠ .nil ∧ ∀ (v' : V) (H' : Hp), Same H H' → BAt H' v' t' → Q v' H'
def isPut : Ed → Prop | .put _ _ => True | _ => False
def isCut : Ed → Prop | .cut _ => True | _ => False
def isLab : Ed → Prop | .label _ _ => True | _ => False
def isTur : Ed → Prop | .turn _ => True | _ => False
def spEdited : Sp := fun vs H Q _ => ∃ (v : V) (t t' : B) (e : Ed) (a : Addr), vs = [v, .ref a] ∧ H a = some (.tup e.vals) ∧ BAt H v t ∧ Does t e t' ∧ t.size ≤ 12 ∧ t.lts ∧ t ≠ .nil ∧ ∀ (v' : V) (H' : Hp), Same H H' → BAt H' v' t' → Q v' H'
/-- the table of the actions -/
structure Acts (K : PySem.W.Frag) (w : World) (mg : Str → Option Value) (aA f1 f2 f3 f4 : Addr) : Prop where
  g : mg "ACTIONS" = some (.ref aA)
  put : L2.KDct K w aA "put" (.ref f1)
  cut : L2.KDct K w aA "cut" (.ref f2)
  label : L2.KDct K w aA "label" (.ref f3)
  turn : L2.KDct K w aA "turn" (.ref f4)
section
variable {P : Program} {w : World} {K : PySem.W.Frag} {mg : Str → Option Value} {base : Heap} {f : Addr} {fd : FuncData}
theorem ok_open {k : Nat} (F : Fun K "is_open" "is_open" s_is_open f fd) (Dpart_at : Df P w K mg base (k + 1) "part_at" ["tree", "path"] spPart) : FnOk P w K mg base CX0 (k + 2) f fd ["tree", "path"] spOpen := by
  refine F.ok sc_is_open (fun vs H Q E h => ?_) (fun cdv A outer s H vs Q E hr h => ?_)
  · obtain ⟨v, t, p, rfl, _⟩ := h
    rfl
  obtain ⟨v, t, p, rfl, ht, ho, hp, q⟩ := h
  refine ⟨_, (pss_one (ps_try_thru0 (pss_one (ps_ret (pe_cmpR op_isN (pe_call Dpart_at.ok (hr.mono (by omega)) rfl Dpart_at.g Dpart_at.kp Dpart_at.b .nil pass0 (pa_cons (pv 0) (pa_cons (pv 1) pa_nil))) pe_non (nomark _)))))), ?_⟩
  refine ⟨_, rfl, _, rfl, v, t, .nil, p, rfl, ht, ho, hp, fun v' H1 s1 h1 => ?_⟩
  cases h1
  exact ⟨rfl, q H1 s1⟩
theorem ok_nodeAt {k : Nat} (F : Fun K "node_at" "node_at" s_node_at f fd) (Dpart_at : Df P w K mg base (k + 1) "part_at" ["tree", "path"] spPart) : FnOk P w K mg base CX0 (k + 2) f fd ["tree", "path"] spNodeAt := by
  refine F.ok sc_node_at (fun vs H Q E h => ?_) (fun cdv A outer s H vs Q E hr h => ?_)
  · obtain ⟨v, t, u, p, rfl, _⟩ := h
    rfl
  obtain ⟨v, t, u, p, rfl, ht, ho, hu, hp, q⟩ := h
  refine ⟨_, (pss_cons (ps_set (i := 2) sc_node_at.nd rfl (.inl rfl) (pe_call Dpart_at.ok (hr.mono (by omega)) rfl Dpart_at.g Dpart_at.kp Dpart_at.b .nil pass0 (pa_cons (pv 0) (pa_cons (pv 1) pa_nil))))
    (pss_cons (ps_if (pt_cmpR op_isN (pv 2) pe_non (nomark _))
      (pss_one ps_never) pss_nil)
    (pss_one (ps_ret (pv 2))))), ?_⟩
  refine ⟨_, rfl, _, rfl, v, t, u, p, rfl, ht, ho, hp, fun v' H1 s1 h1 => ?_⟩
  rcases h1.inv with ⟨_, rfl⟩ | ⟨a, vl, vr, x, tl, tr, rfl, rfl, _⟩
  · exact absurd rfl hu
  · exact ⟨_, rfl, rfl, _, rfl, iteF ⟨_, rfl, q _ H1 s1 h1⟩⟩
end
/-! ### the four actions, edited -/
theorem Does.plen {t t' : B} {e : Ed} (d : Does t e t') : ∃ p o, t.at p = some o ∧ p.length ≤ t.size := by
  cases d with
  | put ho _ _ => exact ⟨_, _, ho, by have := B.at_size _ _ ho; omega⟩
  | cut ho _ _ => exact ⟨_, _, ho, by have := B.at_size _ _ ho; omega⟩
  | label ho _ => exact ⟨_, _, ho, by have := B.at_size _ _ ho; omega⟩
  | turn ho _ => exact ⟨_, _, ho, by have := B.at_size _ _ ho; omega⟩
section
variable {P : Program} {w : World} {K : PySem.W.Frag} {mg : Str → Option Value} {base : Heap} {f f1 f2 f3 f4 aA : Addr} {fd : FuncData}
theorem ok_withNode (F : Fun K "with_node" "with_node" s_with_node f fd) (Dis_open : Df P w K mg base 2 "is_open" ["tree", "path"] spOpen) (Dis_letter : Df P w K mg base 1 "is_letter" ["value"] spLow) (Dreplaced : Df P w K mg base 21 "replaced" ["tree", "path", "part"] spRepl) :
    FnOk P w K mg base CX0 22 f fd ["tree", "path", "label"] (spAct isPut) := by
  refine F.ok (k := 21) sc_with_node (fun vs H Q E h => ?_) (fun cdv A outer s H vs Q E hr h => ?_)
  · obtain ⟨v, t, t', e, rfl, he, _⟩ := h
    cases e <;> first | rfl | exact he.elim
  obtain ⟨v, t, t', e, rfl, he, ht, d, h12, hl, hn, q⟩ := h
  have gd := d.good hl h12 hn
  cases d with
  | cut _ _ _ => exact he.elim
  | label _ _ => exact he.elim
  | turn _ _ => exact he.elim
  | @put p c ho hc hz =>
    refine ⟨_, (pss_cons (ps_if (pt_not (pt_val (pe_call Dis_open.ok (hr.mono (by omega)) rfl Dis_open.g Dis_open.kp Dis_open.b .nil pass0 (pa_cons (pv 0) (pa_cons (pv 1) pa_nil)))))
      (pss_one ps_never) pss_nil)
    (pss_cons (ps_if (pt_not (pt_val (pe_call Dis_letter.ok (hr.mono (by omega)) rfl Dis_letter.g Dis_letter.kp Dis_letter.b .nil pass0 (pa_cons (pv 2) pa_nil))))
      (pss_one ps_never) pss_nil)
    (pss_one (ps_ret (pe_call Dreplaced.ok (hr.mono (by omega)) rfl Dreplaced.g Dreplaced.kp Dreplaced.b .nil pass0 (pa_cons (pv 0) (pa_cons (pv 1) (pa_cons (pe_tup (pa_cons pe_non (pa_cons (pv 2) (pa_cons pe_non pa_nil)))) pa_nil)))))))), ?_⟩
    have hp := t.at_size p ho
    refine ⟨_, rfl, _, rfl, v, t, p, rfl, ht, ho, by omega, fun H1 s1 => ⟨_, rfl, iteF ?_⟩⟩
    refine ⟨_, rfl, [c], rfl, Nat.le_refl _, _, rfl, ?_⟩
    have e1 : isLt [c] = true := hc
    rw [e1]
    refine iteF ⟨_, rfl, _, rfl, _, rfl, (by show 3 ≤ sizeLine; decide), fun r nr => ?_⟩
    have k2 := same_new nr (.tup [.non, .str (ch c), .non])
    exact ⟨v, .ref r, t, .node .nil c .nil, .nil, p, rfl, ht.same (s1.trans k2), .node upd_same .nil .nil, ho, h12, gd.2.1, fun v' H2 s2 h2 => q v' H2 (s1.trans (k2.trans s2)) h2⟩
theorem ok_without (F : Fun K "without_node" "without_node" s_without_node f fd) (Dnode_at : Df P w K mg base 2 "node_at" ["tree", "path"] spNodeAt) (Dreplaced : Df P w K mg base 21 "replaced" ["tree", "path", "part"] spRepl) :
    FnOk P w K mg base CX0 22 f fd ["tree", "path"] (spAct isCut) := by
  refine F.ok (k := 21) sc_without_node (fun vs H Q E h => ?_) (fun cdv A outer s H vs Q E hr h => ?_)
  · obtain ⟨v, t, t', e, rfl, he, _⟩ := h
    cases e <;> first | rfl | exact he.elim
  obtain ⟨v, t, t', e, rfl, he, ht, d, h12, hl, hn, q⟩ := h
  have gd := d.good hl h12 hn
  cases d with
  | put _ _ _ => exact he.elim
  | label _ _ => exact he.elim
  | turn _ _ => exact he.elim
  | @cut u p ho hu hpn =>
    refine ⟨_, (pss_cons (ps_expr (pe_call Dnode_at.ok (hr.mono (by omega)) rfl Dnode_at.g Dnode_at.kp Dnode_at.b .nil pass0 (pa_cons (pv 0) (pa_cons (pv 1) pa_nil))))
    (pss_cons (ps_if (pt_cmpR op_eq (pv 1) pe_str (nomark _))
      (pss_one ps_never) pss_nil)
    (pss_one (ps_ret (pe_call Dreplaced.ok (hr.mono (by omega)) rfl Dreplaced.g Dreplaced.kp Dreplaced.b .nil pass0 (pa_cons (pv 0) (pa_cons (pv 1) (pa_cons pe_non pa_nil)))))))), ?_⟩
    have hp := t.at_size p ho
    refine ⟨_, rfl, _, rfl, v, t, u, p, rfl, ht, ho, hu, by omega, fun v1 H1 s1 h1 => ?_⟩
    refine ⟨_, rfl, rfl, _, rfl, iteR (fun z => hpn (by rw [← px_nil] at z; exact px_inj z)) ?_⟩
    exact ⟨_, rfl, _, rfl, v, .non, t, .nil, u, p, rfl, ht.same s1, .nil, ho, h12, gd.2.1, fun v' H2 s2 h2 => q v' H2 (s1.trans s2) h2⟩
theorem ok_withLabel (F : Fun K "with_label" "with_label" s_with_label f fd) (Dnode_at : Df P w K mg base 2 "node_at" ["tree", "path"] spNodeAt) (Dis_letter : Df P w K mg base 1 "is_letter" ["value"] spLow) (Dreplaced : Df P w K mg base 21 "replaced" ["tree", "path", "part"] spRepl) :
    FnOk P w K mg base CX0 22 f fd ["tree", "path", "label"] (spAct isLab) := by
  refine F.ok (k := 21) sc_with_label (fun vs H Q E h => ?_) (fun cdv A outer s H vs Q E hr h => ?_)
  · obtain ⟨v, t, t', e, rfl, he, _⟩ := h
    cases e <;> first | rfl | exact he.elim
  obtain ⟨v, t, t', e, rfl, he, ht, d, h12, hl, hn, q⟩ := h
  have gd := d.good hl h12 hn
  cases d with
  | put _ _ _ => exact he.elim
  | cut _ _ _ => exact he.elim
  | turn _ _ => exact he.elim
  | @label l r p y c ho hc =>
    refine ⟨_, (pss_cons (ps_asg (pe_call Dnode_at.ok (hr.mono (by omega)) rfl Dnode_at.g Dnode_at.kp Dnode_at.b .nil pass0 (pa_cons (pv 0) (pa_cons (pv 1) pa_nil))) (pg_tup rfl (pgs_cons (pg_name (i := 3) sc_with_label.nd rfl (.inl rfl)) (pgs_cons (pg_name (i := 4) sc_with_label.nd rfl (.inl rfl)) (pgs_cons (pg_name (i := 5) sc_with_label.nd rfl (.inl rfl)) pgs_nil)))))
    (pss_cons (ps_if (pt_not (pt_val (pe_call Dis_letter.ok (hr.mono (by omega)) rfl Dis_letter.g Dis_letter.kp Dis_letter.b .nil pass0 (pa_cons (pv 2) pa_nil))))
      (pss_one ps_never) pss_nil)
    (pss_one (ps_ret (pe_call Dreplaced.ok (hr.mono (by omega)) rfl Dreplaced.g Dreplaced.kp Dreplaced.b .nil pass0 (pa_cons (pv 0) (pa_cons (pv 1) (pa_cons (pe_tup (pa_cons (pv 3) (pa_cons (pv 2) (pa_cons (pv 5) pa_nil)))) pa_nil)))))))), ?_⟩
    have hp := t.at_size p ho
    refine ⟨_, rfl, _, rfl, v, t, _, p, rfl, ht, ho, (fun z => nomatch z), by omega, fun v1 H1 s1 h1 => ?_⟩
    rcases h1.inv with ⟨_, z⟩ | ⟨a, vl, vr, x, tl, tr, rfl, e, ea, aL, aR⟩
    · cases z
    cases e
    refine ⟨a, _, rfl, SqT.of ea, rfl, vl, _, rfl, .str (ch y), _, rfl, vr, _, rfl, rfl, ?_⟩
    refine ⟨_, rfl, [c], rfl, Nat.le_refl _, _, rfl, ?_⟩
    have e1 : isLt [c] = true := hc
    rw [e1]
    refine iteF ⟨_, rfl, _, rfl, _, rfl, _, rfl, _, rfl, (by show 3 ≤ sizeLine; decide), fun r' nr => ?_⟩
    have k2 := same_new nr (.tup [vl, .str (ch c), vr])
    exact ⟨v, .ref r', t, .node l c r, _, p, rfl, ht.same (s1.trans k2), .node upd_same (aL.same k2) (aR.same k2), ho, h12, gd.2.1, fun v' H2 s2 h2 => q v' H2 (s1.trans (k2.trans s2)) h2⟩
theorem ok_turned (F : Fun K "turned" "turned" s_turned f fd) (Dnode_at : Df P w K mg base 2 "node_at" ["tree", "path"] spNodeAt) (Dmirrored : Df P w K mg base 20 "mirrored" ["tree"] (spMir 20)) (Dreplaced : Df P w K mg base 21 "replaced" ["tree", "path", "part"] spRepl) :
    FnOk P w K mg base CX0 22 f fd ["tree", "path"] (spAct isTur) := by
  refine F.ok (k := 21) sc_turned (fun vs H Q E h => ?_) (fun cdv A outer s H vs Q E hr h => ?_)
  · obtain ⟨v, t, t', e, rfl, he, _⟩ := h
    cases e <;> first | rfl | exact he.elim
  obtain ⟨v, t, t', e, rfl, he, ht, d, h12, hl, hn, q⟩ := h
  have gd := d.good hl h12 hn
  cases d with
  | put _ _ _ => exact he.elim
  | cut _ _ _ => exact he.elim
  | label _ _ => exact he.elim
  | @turn u p ho hu =>
    refine ⟨_, (pss_one (ps_ret (pe_call Dreplaced.ok (hr.mono (by omega)) rfl Dreplaced.g Dreplaced.kp Dreplaced.b .nil pass0 (pa_cons (pv 0) (pa_cons (pv 1) (pa_cons (pe_call Dmirrored.ok (hr.mono (by omega)) rfl Dmirrored.g Dmirrored.kp Dmirrored.b .nil pass0 (pa_cons (pe_call Dnode_at.ok (hr.mono (by omega)) rfl Dnode_at.g Dnode_at.kp Dnode_at.b .nil pass0 (pa_cons (pv 0) (pa_cons (pv 1) pa_nil))) pa_nil)) pa_nil)))))), ?_⟩
    have hp := t.at_size p ho
    refine ⟨_, rfl, _, rfl, _, rfl, _, rfl, v, t, u, p, rfl, ht, ho, hu, by omega, fun v1 H1 s1 h1 => ?_⟩
    refine ⟨v1, u, rfl, h1, by omega, fun v2 H2 s2 h2 => ?_⟩
    exact ⟨v, v2, t, u.mir, u, p, rfl, ht.same (s1.trans s2), h2, ho, h12, gd.2.1, fun v' H3 s3 h3 => q v' H3 (s1.trans (s2.trans s3)) h3⟩
theorem ok_edited (F : Fun K "edited" "edited" s_edited f fd) (AC : Acts K w mg aA f1 f2 f3 f4) (A1 : HeldR P w K mg base 22 f1 (spAct isPut)) (A2 : HeldR P w K mg base 22 f2 (spAct isCut)) (A3 : HeldR P w K mg base 22 f3 (spAct isLab)) (A4 : HeldR P w K mg base 22 f4 (spAct isTur)) :
    FnOk P w K mg base CX0 23 f fd ["tree", "edit"] spEdited := by
  refine F.ok (k := 22) sc_edited (fun vs H Q E h => ?_) (fun cdv A outer s H vs Q E hr h => ?_)
  · obtain ⟨v, t, t', e, a, rfl, _⟩ := h
    rfl
  obtain ⟨v, t, t', e, a, rfl, ea, ht, d, h12, hl, hn, q⟩ := h
  have AH : ∀ f sp, (fun (g : Addr) (sp : Sp) => (g = f1 ∧ sp = spAct isPut) ∨ (g = f2 ∧ sp = spAct isCut) ∨ (g = f3 ∧ sp = spAct isLab) ∨ (g = f4 ∧ sp = spAct isTur)) f sp → HeldR P w K mg base 22 f sp := by
    rintro f sp (⟨rfl, rfl⟩ | ⟨rfl, rfl⟩ | ⟨rfl, rfl⟩ | ⟨rfl, rfl⟩)
    · exact A1
    · exact A2
    · exact A3
    · exact A4
  refine ⟨_, (pss_cons (ps_asg (pv 1) (pg_head rfl (pg_name (i := 2) sc_edited.nd rfl (.inl rfl)) (pg_name (i := 3) sc_edited.nd rfl (.inl rfl))))
    (pss_cons (ps_set (i := 4) sc_edited.nd rfl (.inl rfl) (pe_ix ix_kdict (pe_glob (v := .ref _) rfl AC.g rfl) (pv 2) (fun _ _ => rfl)))
    (pss_one (ps_ret (pe_callAS (i := 4) AH (hr.mono (by omega)) rfl (.inl rfl) (pa_cons (pv 0) (StX.pa_star (pv 3) pa_nil))))))), ?_⟩
  refine ⟨_, rfl, a, .str e.word, e.args, rfl, SqT.of ea, by cases e <;> (show _ ≤ 1000; simp [Ed.args]), fun L nL => ?_⟩
  have k1 := same_new nL (.lst e.args)
  have eL := upd_same (H := H) (a := L) (o := .lst e.args)
  have ht1 := ht.same k1
  generalize upd H L (.lst e.args) = H1 at k1 eL ht1 ⊢
  cases e with
  | put p c =>
    refine ⟨_, rfl, aA, "put", .ref f1, rfl, rfl, AC.put, ?_⟩
    exact ⟨f1, _, rfl, .inl ⟨rfl, rfl⟩, _, rfl, _, rfl, L, _, rfl, .inr (SqL.of eL), v, t, t', .put p c, rfl, trivial, ht1, d, h12, hl, hn, fun v' H2 s2 h2 => q v' H2 (k1.trans s2) h2⟩
  | cut p =>
    refine ⟨_, rfl, aA, "cut", .ref f2, rfl, rfl, AC.cut, ?_⟩
    exact ⟨f2, _, rfl, .inr (.inl ⟨rfl, rfl⟩), _, rfl, _, rfl, L, _, rfl, .inr (SqL.of eL), v, t, t', .cut p, rfl, trivial, ht1, d, h12, hl, hn, fun v' H2 s2 h2 => q v' H2 (k1.trans s2) h2⟩
  | label p c =>
    refine ⟨_, rfl, aA, "label", .ref f3, rfl, rfl, AC.label, ?_⟩
    exact ⟨f3, _, rfl, .inr (.inr (.inl ⟨rfl, rfl⟩)), _, rfl, _, rfl, L, _, rfl, .inr (SqL.of eL), v, t, t', .label p c, rfl, trivial, ht1, d, h12, hl, hn, fun v' H2 s2 h2 => q v' H2 (k1.trans s2) h2⟩
  | turn p =>
    refine ⟨_, rfl, aA, "turn", .ref f4, rfl, rfl, AC.turn, ?_⟩
    exact ⟨f4, _, rfl, .inr (.inr (.inr ⟨rfl, rfl⟩)), _, rfl, _, rfl, L, _, rfl, .inr (SqL.of eL), v, t, t', .turn p, rfl, trivial, ht1, d, h12, hl, hn, fun v' H2 s2 h2 => q v' H2 (k1.trans s2) h2⟩
end
/-! ### an instance with a dict: constants of its class, len, str -/
structure ConD (K : PySem.W.Frag) (C : Addr) (f : Str) (v : V) (u : Value) : Prop where
  at_ : PySem.W.findIn K (.ref C) f = some (some u)
  get : PySem.W.specialIn K u "__get__" = some none
  rel : RelV v u
  cp : PySem.W.copiedNames.contains f = false
def tConD (K : PySem.W.Frag) (ta : TE) (f : Str) : TE := fun σ H Q => ta σ H fun x H1 => ∃ a C dx fs v u, x = .ref a ∧ H1 a = some (.ins C dx fs) ∧ Cls K C ∧ ConD K C f v u ∧ fs.lookup f = none ∧ Q v H1
theorem isCls_of {K : PySem.W.Frag} {C : Addr} (c : Cls K C) : PySem.W.isClsIn K C = true := by
  obtain ⟨cd, hc, _⟩ := PySem.W.any_some c.hd
  show (PySem.W.clsIn K C).isSome = true
  rw [hc]
  rfl
theorem pe_conD {X : Cx} {e : Expr} {f : Str} {pos : Pos} {ta : TE} (he : PE X e ta) (hb : attributeBase e f X.env (eval e X.env) = eval e X.env := by rfl) : PE X (.Attribute e f pos) (tConD X.K ta f) := by
  refine ⟨fun pins s σ H Q I h => ?_⟩
  refine attr_of hb (thn (he.run pins s σ H _ I h) fun w s1 ⟨x, H1, I1, rx, a, C, dx, fs, v, u, ex, ea, c, k, l, q⟩ => ?_)
  subst ex
  obtain rfl : w = Value.ref a := rx
  obtain ⟨mA, O, r, _, _, _⟩ := ins_get I1.hok ea
  have hn : mA f = none := RelO.none_of (by rw [← l]; exact r f)
  obtain ⟨od, J, hl⟩ := O.look
  exact PySem.W.get_value I1.kIn J (PySem.W.plainGet_of (c.get f)).1 (OwX.find_con (isCls_of c) k.at_ k.get (handed_of k.rel) k.cp (by rw [hl f, hn])) (handed_of k.rel) ⟨v, H1, I1.tok _, k.rel, q⟩
def rLenOwn (C : Addr) (sp : Sp) : List V → Hp → VK → Prop := fun xs H Q => ∃ a dx fs, xs = [.ref a] ∧ H a = some (.ins C dx fs) ∧ sp [.ref a] H (fun z H' => ∃ n : Int, z = .int n ∧ 0 ≤ n ∧ n < 2 ^ 63 ∧ Q z H') E0
theorem call_lenOwn {X : Cx} {C g : Addr} {n : Nat} {sp : Sp} (hs : PySem.W.findIn X.K (.ref C) "__len__" = some (some (.ref g))) (hf : PySem.W.isFn X.K (.ref g) = true) (F : FnR X.prog X.w X.K X.mg X.base CX0 n g sp) (hr : Room (n + 1) X.A) : CallR X (.builtin "len") (rLenOwn C sp) := by
  intro pins s σ H xs us Q I r h
  obtain ⟨a, dx, fs, rfl, ea, q⟩ := h
  obtain ⟨u, rfl, ru⟩ := r.one
  cases (show u = Value.ref a from ru)
  obtain ⟨mA, O, _, _, _, _⟩ := ins_get I.hok ea
  obtain ⟨od, J, _⟩ := O.look
  obtain ⟨m, hF⟩ := I.fr
  refine PySem.W.len_K hF I.ok.mod.kin J hs hf (wpAny_mono (wpAny_call (SlX.run_at (us := [.ref a]) (ws := [.ref a]) F hr.in1 I.env0.in1 pass0 I (.cons rfl .nil) q)) (fun v s' z => ?_) fun _ _ x => x)
  obtain ⟨z', H', I', rz, n, en, h0, h1, qz⟩ := z
  subst en
  obtain ⟨t, e⟩ := (show ∃ t, v = Value.int n t from rz)
  cases e
  exact ⟨⟨h0, h1⟩, .int n, H', I'.tok _, ⟨_, rfl⟩, qz⟩
def rStrOwn (C : Addr) (sp : Sp) : List V → Hp → VK → Prop := fun xs H Q => ∃ a dx fs, xs = [.ref a] ∧ H a = some (.ins C dx fs) ∧ sp [.ref a] H (fun z H' => ∃ x : Str, z = .str x ∧ Q z H') E0
theorem call_strOwn {X : Cx} {C g : Addr} {n : Nat} {sp : Sp} (hs : PySem.W.findIn X.K (.ref C) "__str__" = some (some (.ref g))) (hf : PySem.W.isFn X.K (.ref g) = true) (F : FnR X.prog X.w X.K X.mg X.base CX0 n g sp) (hr : Room (n + 2) X.A) : CallR X (.type "str") (rStrOwn C sp) := by
  intro pins s σ H xs us Q I r h
  obtain ⟨a, dx, fs, rfl, ea, q⟩ := h
  obtain ⟨u, rfl, ru⟩ := r.one
  cases (show u = Value.ref a from ru)
  obtain ⟨mA, O, _, _, _, _⟩ := ins_get I.hok ea
  obtain ⟨od, J, _⟩ := O.look
  have hr2 : Room n X.A.in1.in1 := (show Room (n + 1) X.A.in1 from Room.in1 hr).in1
  refine PySem.W.kso_call hr2.units0 I.kIn J hs hf (wpAny_mono (wpAny_call (SlX.run_at (us := [.ref a]) (ws := [.ref a]) F hr2 I.env0.in1.in1 pass0 I (.cons rfl .nil) q)) (fun v s' z => ?_) fun _ _ x => x)
  obtain ⟨z', H', I', rz, x, en, qz⟩ := z
  subst en
  obtain ⟨t, e⟩ := (show ∃ t, v = Value.str x t from rz)
  cases e
  exact ⟨.str x, H', I', ⟨_, rfl⟩, qz⟩
/-! ### Desk -/
structure DeskC (K : PySem.W.Frag) (mg : Str → Option Value) (C : Addr) : Prop where
  cl : Cls K C
  nT : NoAttr K C "trees"
  nD : NoAttr K C "done"
  nB : NoAttr K C "busy"
  g : mg "Desk" = some (.ref C)
  mo : ∃ u, ConD K C "MOST_EDITS" (.int 60) u
/-- a method of the class, with its promise -/
structure MDf (P : Program) (w : World) (K : PySem.W.Frag) (mg : Str → Option Value) (base : Heap) (C : Addr) (k : Nat) (m : Str) (ps : List Str) (sp : Sp) where
  f : Addr
  fd : FuncData
  ok : FnOk P w K mg base CX0 k f fd ps sp
  b : Binds K fd ps []
  at_ : Meth K C m f
/-- a property of the class -/
structure PDf (P : Program) (w : World) (K : PySem.W.Frag) (mg : Str → Option Value) (base : Heap) (C : Addr) (k : Nat) (m : Str) (sp : Sp) where
  f : Addr
  fd : FuncData
  p : Addr
  ok : FnOk P w K mg base CX0 k f fd ["self"] sp
  b : Binds K fd ["self"] []
  pr : PropOf K C m p f
def deskF (vt vd vb : V) : List (Str × V) := [("trees", vt), ("done", vd), ("busy", vb)]
abbrev deskF1 (vt : V) : List (Str × V) := [("trees", vt)]
abbrev deskF2 (vt vd : V) : List (Str × V) := [("trees", vt), ("done", vd)]
theorem dn1 : ¬ (("trees" : Str) = "done") := by decide +kernel
theorem dn2 : ¬ (("trees" : Str) = "busy") := by decide +kernel
theorem dn3 : ¬ (("done" : Str) = "busy") := by decide +kernel
theorem put_d (vt vd : V) : putF "done" vd (deskF1 vt) = deskF2 vt vd := by
  show (if ("trees" : Str) = "done" then (("trees" : Str), vd) :: [] else (("trees" : Str), vt) :: putF "done" vd []) = deskF2 vt vd
  rw [if_neg dn1]
  rfl
theorem put_b (vt vd vb : V) : putF "busy" vb (deskF2 vt vd) = deskF vt vd vb := by
  show (if ("trees" : Str) = "busy" then (("trees" : Str), vb) :: _ else (("trees" : Str), vt) :: (if ("done" : Str) = "busy" then (("done" : Str), vb) :: [] else (("done" : Str), vd) :: putF "busy" vb [])) = deskF vt vd vb
  rw [if_neg dn2, if_neg dn3]
  rfl
theorem set_t (vt vd vb vt' : V) : putF "trees" vt' (deskF vt vd vb) = deskF vt' vd vb := rfl
theorem set_d (vt vd vb vd' : V) : putF "done" vd' (deskF vt vd vb) = deskF vt vd' vb := by
  show (if ("trees" : Str) = "done" then _ else (("trees" : Str), vt) :: putF "done" vd' [("done", vd), ("busy", vb)]) = deskF vt vd' vb
  rw [if_neg dn1]
  rfl
theorem look_t (vt vd vb : V) : (deskF vt vd vb).lookup ("trees" : Str) = some vt := rfl
theorem look_d (vt vd vb : V) : (deskF vt vd vb).lookup ("done" : Str) = some vd := by
  have h : (("done" : Str) == ("trees" : Str)) = false := by decide +kernel
  unfold deskF
  simp only [List.lookup, h]
  rfl
theorem look_b (vt vd vb : V) : (deskF vt vd vb).lookup ("busy" : Str) = some vb := by
  have h : (("busy" : Str) == ("trees" : Str)) = false := by decide +kernel
  have h2 : (("busy" : Str) == ("done" : Str)) = false := by decide +kernel
  unfold deskF
  simp only [List.lookup, h, h2]
  rfl
theorem no_look {m : Str} (vt vd vb : V) (h1 : (m == ("trees" : Str)) = false) (h2 : (m == ("done" : Str)) = false) (h3 : (m == ("busy" : Str)) = false) : (deskF vt vd vb).lookup m = none := by
  unfold deskF
  simp only [List.lookup, h1, h2, h3]
/-- trees, one for each -/
inductive BsAt (H : Hp) : List V → List B → Prop
  | nil : BsAt H [] []
  | snoc {vs : List V} {ts : List B} {v : V} {t : B} : BsAt H vs ts → BAt H v t → BsAt H (vs ++ [v]) (ts ++ [t])
theorem BsAt.keep {H H' : Hp} (k : KeepT H H') {vs : List V} {ts : List B} (h : BsAt H vs ts) : BsAt H' vs ts := by
  induction h with
  | nil => exact .nil
  | snoc _ b ih => exact .snoc ih (b.keep k)
theorem BsAt.len {H : Hp} {vs : List V} {ts : List B} (h : BsAt H vs ts) : vs.length = ts.length := by
  induction h with
  | nil => rfl
  | snoc _ _ ih => rw [List.length_append, List.length_append, ih]; rfl
/-- edits, one for each -/
inductive EsAt (H : Hp) : List V → List Ed → Prop
  | nil : EsAt H [] []
  | snoc {vs : List V} {es : List Ed} {q : Addr} {e : Ed} : EsAt H vs es → H q = some (.tup e.vals) → EsAt H (vs ++ [.ref q]) (es ++ [e])
theorem EsAt.keep {H H' : Hp} (k : KeepT H H') {vs : List V} {es : List Ed} (h : EsAt H vs es) : EsAt H' vs es := by
  induction h with
  | nil => exact .nil
  | snoc _ b ih => exact .snoc ih (k _ _ b)
theorem EsAt.len {H : Hp} {vs : List V} {es : List Ed} (h : EsAt H vs es) : vs.length = es.length := by
  induction h with
  | nil => rfl
  | snoc _ _ ih => rw [List.length_append, List.length_append, ih]; rfl
/-- a desk: the trees before, the tree, the edits that stand -/
def Dk (C : Addr) (H : Hp) (a : Addr) (ts : List B) (t : B) (es : List Ed) (busy : Bool) : Prop :=
  ∃ (dx ta td : Addr) (vs : List V) (v : V) (ds : List V), H a = some (.ins C dx (deskF (.ref ta) (.ref td) (.bl busy))) ∧ H ta = some (.tup (vs ++ [v])) ∧ H td = some (.tup ds) ∧ BsAt H vs ts ∧ BAt H v t ∧ EsAt H ds es
/-- all but the object at a stands still -/
def But (a : Addr) (H H' : Hp) : Prop := ∀ b o, b ≠ a → H b = some o → H' b = some o
theorem But.refl (a : Addr) (H : Hp) : But a H H := fun _ _ _ h => h
theorem But.trans {a : Addr} {H H1 H2 : Hp} (x : But a H H1) (y : But a H1 H2) : But a H H2 := fun b o h e => y b o h (x b o h e)
theorem But.of {a : Addr} {H H' : Hp} (s : Same H H') : But a H H' := fun b o _ e => s b o e
theorem But.keepT {a C : Addr} {H H' : Hp} {ts : List B} {t : B} {es : List Ed} {bu : Bool} (x : But a H H') (d : Dk C H a ts t es bu) : KeepT H H' := fun b xs e => by
  obtain ⟨dx, ta, td, vs, v, ds, h1, _⟩ := d
  exact x b _ (ne_of e h1 (by intro z; cases z)) e
theorem Dk.same {C a : Addr} {H H' : Hp} {ts : List B} {t : B} {es : List Ed} {bu : Bool} (s : Same H H') (d : Dk C H a ts t es bu) : Dk C H' a ts t es bu := by
  obtain ⟨dx, ta, td, vs, v, ds, h1, h2, h3, h4, h5, h6⟩ := d
  exact ⟨dx, ta, td, vs, v, ds, s _ _ h1, s _ _ h2, s _ _ h3, h4.keep (Tw.Same.keepT s), h5.same s, h6.keep (Tw.Same.keepT s)⟩
theorem atI_last (xs : List V) (x : V) : atI (xs ++ [x]) (-1) = some x := by
  unfold atI ixN
  rw [List.length_append, List.length_singleton, if_neg (by omega), if_pos (by omega)]
  show (xs ++ [x])[((-1 : Int) + ((xs.length + 1 : Nat) : Int)).toNat]? = some x
  rw [show ((-1 : Int) + ((xs.length + 1 : Nat) : Int)).toNat = xs.length by omega]
  simp
/-! ### the methods of Desk -/
def spInitD (C : Addr) : Sp := fun vs H Q _ => ∃ (p dx : Addr) (v : V) (t : B), vs = [.ref p, v] ∧ H p = some (.ins C dx []) ∧ BAt H v t ∧ t ≠ .nil ∧ t.lts ∧ t.size ≤ 12 ∧ ∀ H', But p H H' → Dk C H' p [] t [] false → Q .non H'
def spFree (C : Addr) : Sp := fun vs H Q _ => ∃ (a : Addr) (ts : List B) (t : B) (es : List Ed), vs = [.ref a] ∧ Dk C H a ts t es false ∧ Q .non H
def spCT : Sp := fun vs H Q _ => ∃ a v, vs = [.ref a, v] ∧ Q .non H
def spTold (C : Addr) : Sp := fun vs H Q _ => ∃ (a : Addr) (v : V) (ts : List B) (t : B) (es : List Ed) (bu : Bool), vs = [.ref a, v] ∧ Dk C H a ts t es bu ∧ es.length ≤ 1000 ∧ Q (.int (es.length : Int)) H
def spTake (C : Addr) : Sp := fun vs H Q _ => ∃ (a q : Addr) (ts : List B) (t t' : B) (es : List Ed) (bu : Bool) (e : Ed), vs = [.ref a, .ref q] ∧ Dk C H a ts t es bu ∧ H q = some (.tup e.vals) ∧ Does t e t' ∧ es.length < 60 ∧ ts.length ≤ 100 ∧ t.lts ∧ t.size ≤ 12 ∧ t ≠ .nil ∧
  ∀ H', But a H H' → Dk C H' a (ts ++ [t]) t' (es ++ [e]) bu → Q .non H'
def spCalled (C : Addr) : Sp := fun vs H Q _ => ∃ (a q : Addr) (ts : List B) (t t' : B) (es : List Ed) (e : Ed), vs = [.ref a, .ref q] ∧ Dk C H a ts t es false ∧ H q = some (.tup e.vals) ∧ Does t e t' ∧ es.length < 60 ∧ ts.length ≤ 100 ∧ t.lts ∧ t.size ≤ 12 ∧ t ≠ .nil ∧
  ∀ H', But a H H' → Dk C H' a (ts ++ [t]) t' (es ++ [e]) false → Q (.int ((es.length + 1 : Nat) : Int)) H'
/-- one of the four methods: the desk, then the edit's arguments -/
def spDo (C : Addr) (mk : Ed → Prop) : Sp := fun vs H Q _ => ∃ (a : Addr) (ts : List B) (t t' : B) (es : List Ed) (e : Ed), vs = .ref a :: e.args ∧ mk e ∧ Dk C H a ts t es false ∧ Does t e t' ∧ es.length < 60 ∧ ts.length ≤ 100 ∧ t.lts ∧ t.size ≤ 12 ∧ t ≠ .nil ∧
  ∀ H', But a H H' → Dk C H' a (ts ++ [t]) t' (es ++ [e]) false → Q (.int ((es.length + 1 : Nat) : Int)) H'
/-- the tree of a desk -/
def spTreeM (C : Addr) : Sp := fun vs H Q _ => ∃ (a : Addr) (ts : List B) (t : B) (es : List Ed) (bu : Bool), vs = [.ref a, .non] ∧ Dk C H a ts t es bu ∧ ∀ v, BAt H v t → Q v H
def spEditsM (C : Addr) : Sp := fun vs H Q _ => ∃ (a : Addr) (ts : List B) (t : B) (es : List Ed) (bu : Bool), vs = [.ref a] ∧ Dk C H a ts t es bu ∧ ∀ (d : Addr) (ds : List V), H d = some (.tup ds) → EsAt H ds es → Q (.ref d) H
def spVer (C : Addr) : Sp := fun vs H Q _ => ∃ (a : Addr) (ts : List B) (t : B) (es : List Ed) (bu : Bool), vs = [.ref a] ∧ Dk C H a ts t es bu ∧ es.length ≤ 1000 ∧ Q (.int (es.length : Int)) H
def spSizeP (C : Addr) : Sp := fun vs H Q _ => ∃ (a : Addr) (ts : List B) (t : B) (es : List Ed) (bu : Bool), vs = [.ref a] ∧ Dk C H a ts t es bu ∧ t.size ≤ 12 ∧ Q (.int (t.size : Int)) H
def spWalkP (C : Addr) (k : Kd) : Sp := fun vs H Q _ => ∃ (a : Addr) (ts : List B) (t : B) (es : List Ed) (bu : Bool), vs = [.ref a] ∧ Dk C H a ts t es bu ∧ t.size ≤ 12 ∧ ∀ H', Same H H' → Q (.str (tx (t.wk k))) H'
/-- the text of a desk -/
def dtext (n m : Nat) : Str := Str.ofString (toString (n : Int)) ++ Str.ofString " nodes, " ++ Str.ofString (toString (m : Int)) ++ Str.ofString " edits"
def spStrD (C : Addr) : Sp := fun vs H Q _ => ∃ (a : Addr) (ts : List B) (t : B) (es : List Ed) (bu : Bool), vs = [.ref a] ∧ Dk C H a ts t es bu ∧ t.size ≤ 12 ∧ es.length ≤ 60 ∧ Q (.str (dtext t.size es.length)) H
theorem sc_Desk_tree : FnScope ["self", "version"] ["self", "version"] (defScope s_Desk_tree) := ⟨rfl, rfl, rfl, by decide +kernel, rfl, by decide +kernel, by decide +kernel⟩
section
variable {P : Program} {w : World} {K : PySem.W.Frag} {mg : Str → Option Value} {base : Heap} {f : Addr} {fd : FuncData} {C : Addr}
theorem ok_init (F : Fun K "__init__" "Desk.__init__" s_Desk___init__ f fd) (TD : DeskC K mg C) (Dis_tree : Df P w K mg base 3 "is_tree" ["value"] spTreeT) : FnOk P w K mg base CX0 4 f fd ["self", "tree"] (spInitD C) := by
  refine F.ok sc_Desk___init__ (fun vs H Q E h => ?_) (fun cdv A outer s H vs Q E hr h => ?_)
  · obtain ⟨p, dx, v, x, rfl, _⟩ := h
    rfl
  obtain ⟨p, dx, v, x, rfl, hp, ht, hn, hl, hz, q⟩ := h
  refine ⟨_, (pss_cons (ps_if (pt_not (pt_val (pe_call Dis_tree.ok (hr.mono (by omega)) rfl Dis_tree.g Dis_tree.kp Dis_tree.b .nil pass0 (pa_cons (pv 1) pa_nil))))
      (pss_one ps_never) pss_nil)
    (pss_cons (ps_fld (pv 0) (pe_tup (pa_cons (pv 1) pa_nil)) rfl)
    (pss_cons (ps_fld (pv 0) (pe_tup pa_nil) rfl)
    (pss_one (ps_fld (pv 0) pe_bl rfl))))), ?_⟩
  refine ⟨_, rfl, v, x, rfl, ht, hn, hl, hz, fun H1 s1 => ⟨_, rfl, iteF ?_⟩⟩
  refine ⟨_, rfl, (by show 1 ≤ sizeLine; decide), fun ta nta => ?_⟩
  have k2 := same_new nta (.tup [v])
  have hp2 := k2 _ _ (s1 _ _ hp)
  have npt : p ≠ ta := ne_of_none (s1 _ _ hp) nta
  refine ⟨_, rfl, p, C, dx, [], rfl, hp2, TD.cl, TD.nT, (by show 0 < 1000; decide), ?_⟩
  refine ⟨(by show 0 ≤ sizeLine; decide), fun td ntd => ?_⟩
  have npd : p ≠ td := fun z => by rw [← z, upd_same] at ntd; cases ntd
  rw [upd_ne npd.symm] at ntd
  have ntt : ta ≠ td := ne_of_none (H := upd H1 ta (.tup [v])) upd_same ntd
  refine ⟨_, rfl, p, C, dx, deskF1 (.ref ta), rfl, (by rw [upd_ne npd, upd_same]; rfl), TD.cl, TD.nD, (by show 1 < 1000; decide), ?_⟩
  refine ⟨_, rfl, p, C, dx, deskF2 (.ref ta) (.ref td), rfl, (by rw [upd_same, put_d]), TD.cl, TD.nB, (by show 2 < 1000; decide), ?_⟩
  refine q _ (fun b o hb e => ?_) ⟨dx, ta, td, [], v, [], (by rw [upd_same, put_b]), (by rw [upd_ne npt.symm, upd_ne npt.symm, upd_ne ntt, upd_ne npt.symm, upd_same]; rfl), (by rw [upd_ne npd.symm, upd_ne npd.symm, upd_same]), .nil, ?_, .nil⟩
  · have e1 := k2 _ _ (s1 _ _ e)
    have n1 : b ≠ td := ne_of_none e1 ntd
    rw [upd_ne hb, upd_ne hb, upd_ne n1, upd_ne hb]
    exact e1
  · refine (ht.same (s1.trans k2)).keep fun b xs e => ?_
    have hb : b ≠ p := ne_of e hp2 (by intro z; cases z)
    have n1 : b ≠ td := ne_of_none e ntd
    rw [upd_ne hb, upd_ne hb, upd_ne n1, upd_ne hb]
    exact e
theorem ok_free {k : Nat} (F : Fun K "check_free" "Desk.check_free" s_Desk_check_free f fd) (TD : DeskC K mg C) : FnOk P w K mg base CX0 (k + 1) f fd ["self"] (spFree C) := by
  refine F.ok sc_Desk_check_free (fun vs H Q E h => ?_) (fun cdv A outer s H vs Q E hr h => ?_)
  · obtain ⟨a, ts, t, es, rfl, _⟩ := h
    rfl
  obtain ⟨a, ts, t, es, rfl, ⟨dx, ta, td, vs, v, ds, h1, h2, h3, h4, h5, h6⟩, q⟩ := h
  refine ⟨_, (pss_one (ps_if (pt_val (pe_fld (pv 0) rfl))
      (pss_one ps_never) pss_nil)), ?_⟩
  exact ⟨_, rfl, a, C, dx, _, _, rfl, h1, TD.cl, TD.nB, look_b _ _ _, false, rfl, iteF q⟩
theorem ok_ct {k : Nat} (F : Fun K "check_tree" "Desk.check_tree" s_Desk_check_tree f fd) : FnOk P w K mg base CX0 (k + 1) f fd ["self", "tree"] spCT := by
  refine F.ok sc_Desk_check_tree (fun vs H Q E h => ?_) (fun cdv A outer s H vs Q E hr h => ?_)
  · obtain ⟨a, v, rfl, _⟩ := h
    rfl
  obtain ⟨a, v, rfl, q⟩ := h
  exact ⟨_, (pss_one ps_pass), q⟩
theorem ok_told {k : Nat} (F : Fun K "told" "Desk.told" s_Desk_told f fd) (TD : DeskC K mg C) (M : Mgs mg) : FnOk P w K mg base CX0 (k + 1) f fd ["self", "name"] (spTold C) := by
  refine F.ok sc_Desk_told (fun vs H Q E h => ?_) (fun cdv A outer s H vs Q E hr h => ?_)
  · obtain ⟨a, v, ts, t, es, bu, rfl, _⟩ := h
    rfl
  obtain ⟨a, v, ts, t, es, bu, rfl, ⟨dx, ta, td, vs, u, ds, h1, h2, h3, h4, h5, h6⟩, hz, q⟩ := h
  refine ⟨_, (pss_one (ps_ret (pe_callB call_len_seq rfl M.len PySem.boot_len (pa_cons (pe_fld (pv 0) rfl) pa_nil)))), ?_⟩
  have hl := h6.len
  refine ⟨_, rfl, a, C, dx, _, _, rfl, h1, TD.cl, TD.nD, look_d _ _ _, td, ds, rfl, .inr (SqT.of h3), ?_⟩
  rw [hl]
  exact q
theorem ok_take (F : Fun K "take" "Desk.take" s_Desk_take f fd) (TD : DeskC K mg C) (M : Mgs mg) (Dedited : Df P w K mg base 23 "edited" ["tree", "edit"] spEdited) (Dct : MDf P w K mg base C 1 "check_tree" ["self", "tree"] spCT) : FnOk P w K mg base CX0 24 f fd ["self", "edit"] (spTake C) := by
  refine F.ok (k := 23) sc_Desk_take (fun vs H Q E h => ?_) (fun cdv A outer s H vs Q E hr h => ?_)
  · obtain ⟨a, q, ts, t, t', es, bu, e, rfl, _⟩ := h
    rfl
  obtain ⟨a, qe, ts, t, t', es, bu, e, rfl, ⟨dx, ta, td, vs, u, ds, h1, h2, h3, h4, h5, h6⟩, he, hd, h60, hts, hl, hz, hn, q⟩ := h
  obtain ⟨um, mo⟩ := TD.mo
  refine ⟨_, (pss_cons (ps_if (pt_cmpR op_ge (pe_callB call_len_seq rfl M.len PySem.boot_len (pa_cons (pe_fld (pv 0) rfl) pa_nil)) (pe_conD (pv 0)) (nomark _))
      (pss_one ps_never) pss_nil)
    (pss_cons (ps_set (i := 2) sc_Desk_take.nd rfl (.inl rfl) (pe_call Dedited.ok (hr.mono (by omega)) rfl Dedited.g Dedited.kp Dedited.b .nil pass0 (pa_cons (pe_ix ix_tup (pe_fld (pv 0) rfl) (pe_un un_neg pe_int) (fun _ _ => rfl)) (pa_cons (pv 1) pa_nil))))
    (pss_cons (ps_expr (pe_meth (pv 0) TD.cl Dct.at_ Dct.ok (hr.mono (by omega)) Dct.b .nil pass0 (pa_cons (pv 2) pa_nil)))
    (pss_cons (ps_fld (pv 0) (pe_tup (StX.pa_star (pe_fld (pv 0) rfl) (pa_cons (pv 2) pa_nil))) rfl)
    (pss_one (ps_fld (pv 0) (pe_tup (StX.pa_star (pe_fld (pv 0) rfl) (pa_cons (pv 1) pa_nil))) rfl)))))), ?_⟩
  have el := h6.len
  have tl := h4.len
  refine ⟨_, rfl, a, C, dx, _, _, rfl, h1, TD.cl, TD.nD, look_d _ _ _, td, ds, rfl, .inr (SqT.of h3), ?_⟩
  refine ⟨_, rfl, a, C, dx, _, _, um, rfl, h1, TD.cl, mo, no_look _ _ _ (by decide +kernel) (by decide +kernel) (by decide +kernel), _, _, rfl, rfl, _, rfl, ?_⟩
  rw [decide_eq_false (show ¬ ((ds.length : Int) ≥ 60) by omega)]
  refine iteF ?_
  refine ⟨_, rfl, a, C, dx, _, _, rfl, h1, TD.cl, TD.nT, look_t _ _ _, _, rfl, ta, _, _, u, rfl, rfl, SqT.of h2, atI_last _ _, _, rfl, u, t, t', e, qe, rfl, he, h5, hd, hz, hl, hn, fun v' H1 s1 b1 => ?_⟩
  refine ⟨_, rfl, a, dx, _, rfl, s1 _ _ h1, no_look _ _ _ (by decide +kernel) (by decide +kernel) (by decide +kernel), _, rfl, a, v', rfl, ?_⟩
  refine ⟨_, rfl, a, C, dx, _, _, rfl, s1 _ _ h1, TD.cl, TD.nT, look_t _ _ _, ta, _, rfl, .inl (SqT.of (s1 _ _ h2)), _, rfl, small (by rw [List.length_append, List.length_append]; show vs.length + 1 + 1 ≤ 1000; omega), fun tb ntb => ?_⟩
  have k2 := same_new ntb (.tup ((vs ++ [u]) ++ [v']))
  have e2 := k2 _ _ (s1 _ _ h1)
  have et2 := upd_same (H := H1) (a := tb) (o := .tup ((vs ++ [u]) ++ [v']))
  have s12 := s1.trans k2
  have b2 := b1.same k2
  generalize upd H1 tb (.tup ((vs ++ [u]) ++ [v'])) = H2 at k2 e2 et2 s12 b2 ⊢
  refine ⟨_, rfl, a, C, dx, _, rfl, e2, TD.cl, TD.nT, (by show 3 < 1000; decide), ?_⟩
  rw [set_t]
  have bB : But a H2 (upd H2 a (.ins C dx (deskF (.ref tb) (.ref td) (.bl bu)))) := fun b o hb e => by rw [upd_ne hb]; exact e
  have e3 := upd_same (H := H2) (a := a) (o := .ins C dx (deskF (.ref tb) (.ref td) (.bl bu)))
  have k3 : KeepT H2 (upd H2 a (.ins C dx (deskF (.ref tb) (.ref td) (.bl bu)))) := fun b xs e => bB b _ (ne_of e e2 (by intro z; cases z)) e
  generalize upd H2 a (.ins C dx (deskF (.ref tb) (.ref td) (.bl bu))) = H3 at bB e3 k3 ⊢
  have kA : KeepT H H3 := (Tw.Same.keepT s12).trans k3
  refine ⟨_, rfl, a, C, dx, _, _, rfl, e3, TD.cl, TD.nD, look_d _ _ _, td, _, rfl, .inl (SqT.of (kA _ _ h3)), _, rfl, small (by rw [List.length_append]; show ds.length + 1 ≤ 1000; omega), fun tc ntc => ?_⟩
  have k4 := same_new ntc (.tup (ds ++ [.ref qe]))
  have e4 := k4 _ _ e3
  have et4 := upd_same (H := H3) (a := tc) (o := .tup (ds ++ [.ref qe]))
  generalize upd H3 tc (.tup (ds ++ [.ref qe])) = H4 at k4 e4 et4 ⊢
  refine ⟨_, rfl, a, C, dx, _, rfl, e4, TD.cl, TD.nD, (by show 3 < 1000; decide), ?_⟩
  rw [set_d]
  have bB5 : But a H4 (upd H4 a (.ins C dx (deskF (.ref tb) (.ref tc) (.bl bu)))) := fun b o hb e => by rw [upd_ne hb]; exact e
  have e5 := upd_same (H := H4) (a := a) (o := .ins C dx (deskF (.ref tb) (.ref tc) (.bl bu)))
  have k5 : KeepT H4 (upd H4 a (.ins C dx (deskF (.ref tb) (.ref tc) (.bl bu)))) := fun b xs e => bB5 b _ (ne_of e e4 (by intro z; cases z)) e
  generalize upd H4 a (.ins C dx (deskF (.ref tb) (.ref tc) (.bl bu))) = H5 at bB5 e5 k5 ⊢
  have kB : KeepT H2 H5 := k3.trans ((Tw.Same.keepT k4).trans k5)
  have kC : KeepT H H5 := (Tw.Same.keepT s12).trans kB
  refine q H5 ((But.of s12).trans (bB.trans ((But.of k4).trans bB5))) ⟨dx, tb, tc, vs ++ [u], v', ds ++ [.ref qe], e5, kB _ _ et2, k5 _ _ et4, .snoc (h4.keep kC) (h5.keep kC), b2.keep kB, .snoc (h6.keep kC) (kC _ _ he)⟩
theorem ok_called (F : Fun K "called" "Desk.called" s_Desk_called f fd) (TD : DeskC K mg C) (Dcf : MDf P w K mg base C 1 "check_free" ["self"] (spFree C)) (Dtake : MDf P w K mg base C 24 "take" ["self", "edit"] (spTake C)) (Dtold : MDf P w K mg base C 1 "told" ["self", "name"] (spTold C)) :
    FnOk P w K mg base CX0 25 f fd ["self", "edit"] (spCalled C) := by
  refine F.ok (k := 24) sc_Desk_called (fun vs H Q E h => ?_) (fun cdv A outer s H vs Q E hr h => ?_)
  · obtain ⟨a, q, ts, t, t', es, e, rfl, _⟩ := h
    rfl
  obtain ⟨a, qe, ts, t, t', es, e, rfl, dk, he, hd, h60, hts, hl, hz, hn, q⟩ := h
  refine ⟨_, (pss_cons (ps_expr (pe_meth0 (pv 0) TD.cl Dcf.at_ Dcf.ok (hr.mono (by omega)) Dcf.b .nil pass0))
    (pss_cons (ps_expr (pe_meth (pv 0) TD.cl Dtake.at_ Dtake.ok (hr.mono (by omega)) Dtake.b .nil pass0 (pa_cons (pv 1) pa_nil)))
    (pss_one (ps_ret (pe_meth (pv 0) TD.cl Dtold.at_ Dtold.ok (hr.mono (by omega)) Dtold.b .nil pass0 (pa_cons (pe_ix ix_tup (pv 1) pe_int (fun _ _ => rfl)) pa_nil)))))), ?_⟩
  obtain ⟨dx, ta, td, vs, u, ds, h1, _⟩ := id dk
  refine ⟨_, rfl, a, dx, _, rfl, h1, no_look _ _ _ (by decide +kernel) (by decide +kernel) (by decide +kernel), a, ts, t, es, rfl, dk, ?_⟩
  refine ⟨_, rfl, a, dx, _, rfl, h1, no_look _ _ _ (by decide +kernel) (by decide +kernel) (by decide +kernel), _, rfl, a, qe, ts, t, t', es, false, e, rfl, dk, he, hd, h60, hts, hl, hz, hn, fun H1 b1 d1 => ?_⟩
  have he1 : H1 qe = some (.tup e.vals) := b1.keepT dk _ _ he
  obtain ⟨dx1, ta1, td1, vs1, u1, ds1, g1, _⟩ := id d1
  refine ⟨_, rfl, a, dx1, _, rfl, g1, no_look _ _ _ (by decide +kernel) (by decide +kernel) (by decide +kernel), _, rfl, qe, _, 0, .str e.word, rfl, rfl, SqT.of he1, atI_nat (j := 0) rfl, a, _, _, t', _, false, rfl, d1, by rw [List.length_append]; show es.length + 1 ≤ 1000; omega, ?_⟩
  rw [List.length_append]
  exact q H1 b1 d1
theorem do_tail {a q : Addr} {H : Hp} {ts : List B} {t t' : B} {es : List Ed} {e : Ed} {Q : VK} (dk : Dk C H a ts t es false) (nq : H q = none) (hd : Does t e t') (h60 : es.length < 60) (hts : ts.length ≤ 100) (hl : t.lts) (hz : t.size ≤ 12) (hn : t ≠ .nil)
    (k : ∀ H', But a H H' → Dk C H' a (ts ++ [t]) t' (es ++ [e]) false → Q (.int ((es.length + 1 : Nat) : Int)) H') : spCalled C [.ref a, .ref q] (upd H q (.tup e.vals)) Q E0 := by
  have s := same_new nq (.tup e.vals)
  exact ⟨a, q, ts, t, t', es, e, rfl, dk.same s, upd_same, hd, h60, hts, hl, hz, hn, fun H' b d => k H' ((But.of s).trans b) d⟩
theorem ok_put (F : Fun K "put" "Desk.put" s_Desk_put f fd) (TD : DeskC K mg C) (Dcalled : MDf P w K mg base C 25 "called" ["self", "edit"] (spCalled C)) : FnOk P w K mg base CX0 26 f fd ["self", "path", "label"] (spDo C isPut) := by
  refine F.ok (k := 25) sc_Desk_put (fun vs H Q E h => ?_) (fun cdv A outer s H vs Q E hr h => ?_)
  · obtain ⟨a, ts, t, t', es, e, rfl, he, _⟩ := h
    cases e <;> first | rfl | exact he.elim
  obtain ⟨a, ts, t, t', es, e, rfl, he, dk, hd, h60, hts, hl, hz, hn, q⟩ := h
  obtain ⟨dx, ta, td, vs, u, ds, h1, _⟩ := id dk
  cases e with
  | put p c =>
    refine ⟨_, (pss_one (ps_ret (pe_meth (pv 0) TD.cl Dcalled.at_ Dcalled.ok (hr.mono (by omega)) Dcalled.b .nil pass0 (pa_cons (pe_tup (pa_cons pe_str (pa_cons (pv 1) (pa_cons (pv 2) pa_nil)))) pa_nil)))), ?_⟩
    exact ⟨_, rfl, a, dx, _, rfl, h1, no_look _ _ _ (by decide +kernel) (by decide +kernel) (by decide +kernel), _, rfl, _, rfl, (by show 3 ≤ sizeLine; decide), fun r nr => do_tail dk nr hd h60 hts hl hz hn q⟩
  | cut _ => exact he.elim
  | label _ _ => exact he.elim
  | turn _ => exact he.elim
theorem ok_cut (F : Fun K "cut" "Desk.cut" s_Desk_cut f fd) (TD : DeskC K mg C) (Dcalled : MDf P w K mg base C 25 "called" ["self", "edit"] (spCalled C)) : FnOk P w K mg base CX0 26 f fd ["self", "path"] (spDo C isCut) := by
  refine F.ok (k := 25) sc_Desk_cut (fun vs H Q E h => ?_) (fun cdv A outer s H vs Q E hr h => ?_)
  · obtain ⟨a, ts, t, t', es, e, rfl, he, _⟩ := h
    cases e <;> first | rfl | exact he.elim
  obtain ⟨a, ts, t, t', es, e, rfl, he, dk, hd, h60, hts, hl, hz, hn, q⟩ := h
  obtain ⟨dx, ta, td, vs, u, ds, h1, _⟩ := id dk
  cases e with
  | cut p =>
    refine ⟨_, (pss_one (ps_ret (pe_meth (pv 0) TD.cl Dcalled.at_ Dcalled.ok (hr.mono (by omega)) Dcalled.b .nil pass0 (pa_cons (pe_tup (pa_cons pe_str (pa_cons (pv 1) pa_nil))) pa_nil)))), ?_⟩
    exact ⟨_, rfl, a, dx, _, rfl, h1, no_look _ _ _ (by decide +kernel) (by decide +kernel) (by decide +kernel), _, rfl, (by show 2 ≤ sizeLine; decide), fun r nr => do_tail dk nr hd h60 hts hl hz hn q⟩
  | put _ _ => exact he.elim
  | label _ _ => exact he.elim
  | turn _ => exact he.elim
theorem ok_label (F : Fun K "label" "Desk.label" s_Desk_label f fd) (TD : DeskC K mg C) (Dcalled : MDf P w K mg base C 25 "called" ["self", "edit"] (spCalled C)) : FnOk P w K mg base CX0 26 f fd ["self", "path", "label"] (spDo C isLab) := by
  refine F.ok (k := 25) sc_Desk_label (fun vs H Q E h => ?_) (fun cdv A outer s H vs Q E hr h => ?_)
  · obtain ⟨a, ts, t, t', es, e, rfl, he, _⟩ := h
    cases e <;> first | rfl | exact he.elim
  obtain ⟨a, ts, t, t', es, e, rfl, he, dk, hd, h60, hts, hl, hz, hn, q⟩ := h
  obtain ⟨dx, ta, td, vs, u, ds, h1, _⟩ := id dk
  cases e with
  | label p c =>
    refine ⟨_, (pss_one (ps_ret (pe_meth (pv 0) TD.cl Dcalled.at_ Dcalled.ok (hr.mono (by omega)) Dcalled.b .nil pass0 (pa_cons (pe_tup (pa_cons pe_str (pa_cons (pv 1) (pa_cons (pv 2) pa_nil)))) pa_nil)))), ?_⟩
    exact ⟨_, rfl, a, dx, _, rfl, h1, no_look _ _ _ (by decide +kernel) (by decide +kernel) (by decide +kernel), _, rfl, _, rfl, (by show 3 ≤ sizeLine; decide), fun r nr => do_tail dk nr hd h60 hts hl hz hn q⟩
  | put _ _ => exact he.elim
  | cut _ => exact he.elim
  | turn _ => exact he.elim
theorem ok_turn (F : Fun K "turn" "Desk.turn" s_Desk_turn f fd) (TD : DeskC K mg C) (Dcalled : MDf P w K mg base C 25 "called" ["self", "edit"] (spCalled C)) : FnOk P w K mg base CX0 26 f fd ["self", "path"] (spDo C isTur) := by
  refine F.ok (k := 25) sc_Desk_turn (fun vs H Q E h => ?_) (fun cdv A outer s H vs Q E hr h => ?_)
  · obtain ⟨a, ts, t, t', es, e, rfl, he, _⟩ := h
    cases e <;> first | rfl | exact he.elim
  obtain ⟨a, ts, t, t', es, e, rfl, he, dk, hd, h60, hts, hl, hz, hn, q⟩ := h
  obtain ⟨dx, ta, td, vs, u, ds, h1, _⟩ := id dk
  cases e with
  | turn p =>
    refine ⟨_, (pss_one (ps_ret (pe_meth (pv 0) TD.cl Dcalled.at_ Dcalled.ok (hr.mono (by omega)) Dcalled.b .nil pass0 (pa_cons (pe_tup (pa_cons pe_str (pa_cons (pv 1) pa_nil))) pa_nil)))), ?_⟩
    exact ⟨_, rfl, a, dx, _, rfl, h1, no_look _ _ _ (by decide +kernel) (by decide +kernel) (by decide +kernel), _, rfl, (by show 2 ≤ sizeLine; decide), fun r nr => do_tail dk nr hd h60 hts hl hz hn q⟩
  | put _ _ => exact he.elim
  | cut _ => exact he.elim
  | label _ _ => exact he.elim
end
/-! ### what a desk shows -/
theorem dn12 (n : Nat) (h : n ≤ 60) : (Str.ofString (toString (n : Int))).length ≤ 31 ∧ (n : Int).natAbs.log2 < 1920 := by
  have := small_shown n (by omega)
  exact ⟨Nat.le_trans this.1 (by decide), this.2⟩
section
variable {P : Program} {w : World} {K : PySem.W.Frag} {mg : Str → Option Value} {base : Heap} {f : Addr} {fd : FuncData} {C : Addr}
theorem ok_treeM {k : Nat} (F : Fun K "tree" "Desk.tree" s_Desk_tree f fd) (TD : DeskC K mg C) : FnOk P w K mg base CX0 (k + 1) f fd ["self", "version"] (spTreeM C) := by
  refine F.ok sc_Desk_tree (fun vs H Q E h => ?_) (fun cdv A outer s H vs Q E hr h => ?_)
  · obtain ⟨a, ts, t, es, bu, rfl, _⟩ := h
    rfl
  obtain ⟨a, ts, t, es, bu, rfl, ⟨dx, ta, td, vs, v, ds, h1, h2, h3, h4, h5, h6⟩, q⟩ := h
  refine ⟨_, pss_cons (ps_if (pt_cmpR op_isN (pv 1) pe_non (nomark _)) (pss_one (ps_ret (pe_ix ix_tup (pe_fld (pv 0) rfl) (pe_un un_neg pe_int) (fun _ _ => rfl)))) pss_nil) pss_never, ?_⟩
  refine ⟨_, rfl, rfl, _, rfl, iteT ?_⟩
  refine ⟨_, rfl, a, C, dx, _, _, rfl, h1, TD.cl, TD.nT, look_t _ _ _, ?_⟩
  exact ⟨_, rfl, ta, _, _, v, rfl, rfl, SqT.of h2, atI_last _ _, q v h5⟩
theorem ok_editsM {k : Nat} (F : Fun K "edits" "Desk.edits" s_Desk_edits f fd) (TD : DeskC K mg C) : FnOk P w K mg base CX0 (k + 1) f fd ["self"] (spEditsM C) := by
  refine F.ok sc_Desk_edits (fun vs H Q E h => ?_) (fun cdv A outer s H vs Q E hr h => ?_)
  · obtain ⟨a, ts, t, es, bu, rfl, _⟩ := h
    rfl
  obtain ⟨a, ts, t, es, bu, rfl, ⟨dx, ta, td, vs, v, ds, h1, h2, h3, h4, h5, h6⟩, q⟩ := h
  refine ⟨_, (pss_one (ps_ret (pe_fld (pv 0) rfl))), ?_⟩
  exact ⟨_, rfl, a, C, dx, _, _, rfl, h1, TD.cl, TD.nD, look_d _ _ _, q td ds h3 h6⟩
theorem ok_ver {k : Nat} (F : Fun K "version" "Desk.version" s_Desk_version f fd) (TD : DeskC K mg C) (M : Mgs mg) : FnOk P w K mg base CX0 (k + 1) f fd ["self"] (spVer C) := by
  refine F.ok sc_Desk_version (fun vs H Q E h => ?_) (fun cdv A outer s H vs Q E hr h => ?_)
  · obtain ⟨a, ts, t, es, bu, rfl, _⟩ := h
    rfl
  obtain ⟨a, ts, t, es, bu, rfl, ⟨dx, ta, td, vs, u, ds, h1, h2, h3, h4, h5, h6⟩, hz, q⟩ := h
  refine ⟨_, (pss_one (ps_ret (pe_callB call_len_seq rfl M.len PySem.boot_len (pa_cons (pe_fld (pv 0) rfl) pa_nil)))), ?_⟩
  refine ⟨_, rfl, a, C, dx, _, _, rfl, h1, TD.cl, TD.nD, look_d _ _ _, td, ds, rfl, .inr (SqT.of h3), ?_⟩
  rw [h6.len]
  exact q
theorem ok_len {k : Nat} (F : Fun K "__len__" "Desk.__len__" s_Desk___len__ f fd) (TD : DeskC K mg C) (M : Mgs mg) : FnOk P w K mg base CX0 (k + 1) f fd ["self"] (spVer C) := by
  refine F.ok sc_Desk___len__ (fun vs H Q E h => ?_) (fun cdv A outer s H vs Q E hr h => ?_)
  · obtain ⟨a, ts, t, es, bu, rfl, _⟩ := h
    rfl
  obtain ⟨a, ts, t, es, bu, rfl, ⟨dx, ta, td, vs, u, ds, h1, h2, h3, h4, h5, h6⟩, hz, q⟩ := h
  refine ⟨_, (pss_one (ps_ret (pe_callB call_len_seq rfl M.len PySem.boot_len (pa_cons (pe_fld (pv 0) rfl) pa_nil)))), ?_⟩
  refine ⟨_, rfl, a, C, dx, _, _, rfl, h1, TD.cl, TD.nD, look_d _ _ _, td, ds, rfl, .inr (SqT.of h3), ?_⟩
  rw [h6.len]
  exact q
theorem ok_sizeP (F : Fun K "size" "Desk.size" s_Desk_size f fd) (TD : DeskC K mg C) (Dsize_of : Df P w K mg base 20 "size_of" ["tree"] (spSz 20)) : FnOk P w K mg base CX0 21 f fd ["self"] (spSizeP C) := by
  refine F.ok (k := 20) sc_Desk_size (fun vs H Q E h => ?_) (fun cdv A outer s H vs Q E hr h => ?_)
  · obtain ⟨a, ts, t, es, bu, rfl, _⟩ := h
    rfl
  obtain ⟨a, ts, t, es, bu, rfl, ⟨dx, ta, td, vs, u, ds, h1, h2, h3, h4, h5, h6⟩, hz, q⟩ := h
  refine ⟨_, (pss_one (ps_ret (pe_call Dsize_of.ok (hr.mono (by omega)) rfl Dsize_of.g Dsize_of.kp Dsize_of.b .nil pass0 (pa_cons (pe_ix ix_tup (pe_fld (pv 0) rfl) (pe_un un_neg pe_int) (fun _ _ => rfl)) pa_nil)))), ?_⟩
  exact ⟨_, rfl, a, C, dx, _, _, rfl, h1, TD.cl, TD.nT, look_t _ _ _, _, rfl, ta, _, _, u, rfl, rfl, SqT.of h2, atI_last _ _, u, t, rfl, h5, by omega, q⟩
theorem ok_first (F : Fun K "first" "Desk.first" s_Desk_first f fd) (TD : DeskC K mg C) (Dwalk : Df P w K mg base 62 "walk" ["tree", "kind"] spWalk) : FnOk P w K mg base CX0 63 f fd ["self"] (spWalkP C .first) := by
  refine F.ok (k := 62) sc_Desk_first (fun vs H Q E h => ?_) (fun cdv A outer s H vs Q E hr h => ?_)
  · obtain ⟨a, ts, t, es, bu, rfl, _⟩ := h
    rfl
  obtain ⟨a, ts, t, es, bu, rfl, ⟨dx, ta, td, vs, u, ds, h1, h2, h3, h4, h5, h6⟩, hz, q⟩ := h
  refine ⟨_, (pss_one (ps_ret (pe_call Dwalk.ok (hr.mono (by omega)) rfl Dwalk.g Dwalk.kp Dwalk.b .nil pass0 (pa_cons (pe_ix ix_tup (pe_fld (pv 0) rfl) (pe_un un_neg pe_int) (fun _ _ => rfl)) (pa_cons pe_str pa_nil))))), ?_⟩
  exact ⟨_, rfl, a, C, dx, _, _, rfl, h1, TD.cl, TD.nT, look_t _ _ _, _, rfl, ta, _, _, u, rfl, rfl, SqT.of h2, atI_last _ _, u, t, .first, rfl, h5, by omega, q⟩
theorem ok_betw (F : Fun K "between" "Desk.between" s_Desk_between f fd) (TD : DeskC K mg C) (Dwalk : Df P w K mg base 62 "walk" ["tree", "kind"] spWalk) : FnOk P w K mg base CX0 63 f fd ["self"] (spWalkP C .between) := by
  refine F.ok (k := 62) sc_Desk_between (fun vs H Q E h => ?_) (fun cdv A outer s H vs Q E hr h => ?_)
  · obtain ⟨a, ts, t, es, bu, rfl, _⟩ := h
    rfl
  obtain ⟨a, ts, t, es, bu, rfl, ⟨dx, ta, td, vs, u, ds, h1, h2, h3, h4, h5, h6⟩, hz, q⟩ := h
  refine ⟨_, (pss_one (ps_ret (pe_call Dwalk.ok (hr.mono (by omega)) rfl Dwalk.g Dwalk.kp Dwalk.b .nil pass0 (pa_cons (pe_ix ix_tup (pe_fld (pv 0) rfl) (pe_un un_neg pe_int) (fun _ _ => rfl)) (pa_cons pe_str pa_nil))))), ?_⟩
  exact ⟨_, rfl, a, C, dx, _, _, rfl, h1, TD.cl, TD.nT, look_t _ _ _, _, rfl, ta, _, _, u, rfl, rfl, SqT.of h2, atI_last _ _, u, t, .between, rfl, h5, by omega, q⟩
theorem ok_last (F : Fun K "last" "Desk.last" s_Desk_last f fd) (TD : DeskC K mg C) (Dwalk : Df P w K mg base 62 "walk" ["tree", "kind"] spWalk) : FnOk P w K mg base CX0 63 f fd ["self"] (spWalkP C .last) := by
  refine F.ok (k := 62) sc_Desk_last (fun vs H Q E h => ?_) (fun cdv A outer s H vs Q E hr h => ?_)
  · obtain ⟨a, ts, t, es, bu, rfl, _⟩ := h
    rfl
  obtain ⟨a, ts, t, es, bu, rfl, ⟨dx, ta, td, vs, u, ds, h1, h2, h3, h4, h5, h6⟩, hz, q⟩ := h
  refine ⟨_, (pss_one (ps_ret (pe_call Dwalk.ok (hr.mono (by omega)) rfl Dwalk.g Dwalk.kp Dwalk.b .nil pass0 (pa_cons (pe_ix ix_tup (pe_fld (pv 0) rfl) (pe_un un_neg pe_int) (fun _ _ => rfl)) (pa_cons pe_str pa_nil))))), ?_⟩
  exact ⟨_, rfl, a, C, dx, _, _, rfl, h1, TD.cl, TD.nT, look_t _ _ _, _, rfl, ta, _, _, u, rfl, rfl, SqT.of h2, atI_last _ _, u, t, .last, rfl, h5, by omega, q⟩
theorem ok_str (F : Fun K "__str__" "Desk.__str__" s_Desk___str__ f fd) (TD : DeskC K mg C) (M : Mgs mg) (Dsize_of : Df P w K mg base 20 "size_of" ["tree"] (spSz 20)) : FnOk P w K mg base CX0 21 f fd ["self"] (spStrD C) := by
  refine F.ok (k := 20) sc_Desk___str__ (fun vs H Q E h => ?_) (fun cdv A outer s H vs Q E hr h => ?_)
  · obtain ⟨a, ts, t, es, bu, rfl, _⟩ := h
    rfl
  obtain ⟨a, ts, t, es, bu, rfl, ⟨dx, ta, td, vs, u, ds, h1, h2, h3, h4, h5, h6⟩, hz, he, q⟩ := h
  refine ⟨_, (pss_one (ps_ret (pe_joined (PJ.cons (pe_fmt (pe_call Dsize_of.ok (hr.mono (by omega)) rfl Dsize_of.g Dsize_of.kp Dsize_of.b .nil pass0 (pa_cons (pe_ix ix_tup (pe_fld (pv 0) rfl) (pe_un un_neg pe_int) (fun _ _ => rfl)) pa_nil))) (PJ.cons pe_str (PJ.cons (pe_fmt (pe_callB call_len_seq rfl M.len PySem.boot_len (pa_cons (pe_fld (pv 0) rfl) pa_nil))) (PJ.cons pe_str PJ.nil))))))), ?_⟩
  obtain ⟨n1, n2⟩ := dn12 t.size (by omega)
  obtain ⟨m1, m2⟩ := dn12 es.length (by omega)
  have e0 : ∀ x : Str, Str.empty ++ x = x := fun x => by
    show (⟨#[] ++ x.cps⟩ : Str) = x
    simp
  have l1 : (Str.ofString " nodes, ").length = 8 := by decide +kernel
  have l2 : (Str.ofString " edits").length = 6 := by decide +kernel
  refine ⟨_, rfl, a, C, dx, _, _, rfl, h1, TD.cl, TD.nT, look_t _ _ _, _, rfl, ta, _, _, u, rfl, rfl, SqT.of h2, atI_last _ _, u, t, rfl, h5, by omega, .inr ⟨_, rfl, n2, _, rfl, ?_, ?_⟩⟩
  · rw [e0]
    exact small (by omega)
  rw [e0]
  refine ⟨_, rfl, by rw [strLen_append, l1]; exact small (by omega), ?_⟩
  refine ⟨_, rfl, a, C, dx, _, _, rfl, h1, TD.cl, TD.nD, look_d _ _ _, td, ds, rfl, .inr (SqT.of h3), ?_⟩
  rw [h6.len]
  refine .inr ⟨_, rfl, m2, _, rfl, by rw [strLen_append, strLen_append, l1]; exact small (by omega), ?_⟩
  refine ⟨_, rfl, by rw [strLen_append, strLen_append, strLen_append, l1, l2]; exact small (by omega), ?_⟩
  exact q
end
/-! ### the stream -/
def Strm (H : Hp) (s : Addr) (n : Nat) : Prop := ∃ r c : Int, H s = some (.lst [.int r, .int c, .int (n : Int)]) ∧ 0 ≤ c ∧ c < 2305843009213693951
theorem Strm.same {H H' : Hp} {s : Addr} {n : Nat} (k : Same H H') (h : Strm H s n) : Strm H' s n := by
  obtain ⟨r, c, e, h1⟩ := h
  exact ⟨r, c, k _ _ e, h1⟩
theorem Strm.but {H H' : Hp} {s a : Addr} {n : Nat} (k : But a H H') (ne : s ≠ a) (h : Strm H s n) : Strm H' s n := by
  obtain ⟨r, c, e, h1⟩ := h
  exact ⟨r, c, k _ _ ne e, h1⟩
theorem Strm.lst {H : Hp} {s : Addr} {n : Nat} (h : Strm H s n) : ∃ xs, H s = some (.lst xs) := by
  obtain ⟨r, c, e, _⟩ := h
  exact ⟨_, e⟩
theorem But.keepL {a : Addr} {H H' : Hp} {xs : List V} (e : H a = some (.lst xs)) (x : But a H H') : KeepT H H' := fun b ys h => x b _ (ne_of h e (by intro z; cases z)) h
theorem modP (z p : Int) (h0 : 0 < p) (h1 : p < 2 ^ 64) : -(2 ^ 64) < z % p ∧ z % p < 2 ^ 64 := by
  have a := Int.emod_nonneg z (show p ≠ 0 by omega)
  have b := Int.emod_lt_of_pos z h0
  omega
theorem seq_cut {t u : TS} {D : Ends} {σ : L2.St} {H : Hp} (I : L2.St → Hp → Prop) (h2 : ∀ σ' H', I σ' H' → u D σ' H') (h1 : (∀ σ' H', I σ' H' → u D σ' H') → t { D with nx := u D } σ H) : tSeq t u D σ H := h1 h2
theorem seq_cutN {t u : TS} {D : Ends} {r1 : VK} {r2 r3 : L2.St → Hp → Prop} {σ : L2.St} {H : Hp} (I : L2.St → Hp → Prop) (h2 : ∀ σ' H', I σ' H' → u D σ' H') (h1 : (∀ σ' H', I σ' H' → u D σ' H') → t { D with nx := u D } σ H) : (Ends.mk (tSeq t u D) r1 r2 r3).nx σ H := h1 h2
def alph : List Nat := (Str.ofString "abcdefghijklmnopqrstuvwxyz").cps.toList
theorem alph_all : ∀ k : Fin 26, (alph[k.val]?).any isLow = true := by decide +kernel
theorem alph_at {j : Nat} (h : j < 26) : ∃ c, alph[j]? = some c ∧ isLow c = true := by
  have a := alph_all ⟨j, h⟩
  cases e : alph[j]? with
  | none => rw [show (⟨j, h⟩ : Fin 26).val = j from rfl, e] at a; cases a
  | some c => rw [show (⟨j, h⟩ : Fin 26).val = j from rfl, e] at a; exact ⟨c, rfl, a⟩
def StI (a : Addr) (i : Nat) (H : Hp) (σ : L2.St) (H' : Hp) : Prop := ∃ x : Int, σ = [some (.ref a), some (.int (i : Int)), some (.int x), none] ∧ H' = H
def spStream (K : PySem.W.Frag) : Sp := fun vs H Q _ => ∃ (a : Addr) (ns : List Int) (i : Nat), vs = [.ref a, .int (i : Int)] ∧ SqL K H a (ns.map V.int) ∧ i ≤ 1000 ∧ ∀ (s : Addr) (H' : Hp), H s = none → Same H H' → Strm H' s 0 → Q (.ref s) H'
def spTake1 : Sp := fun vs H Q _ => ∃ (s : Addr) (n : Nat) (m : Int), vs = [.ref s, .int m] ∧ Strm H s n ∧ n ≤ 1000000 ∧ 0 < m ∧ m ≤ 1000 ∧ ∀ (i : Nat) (n' : Nat) (H' : Hp), (i : Int) < m → Strm H' s n' → n' ≤ n + 1 → But s H H' → Q (.int (i : Int)) H'
def spLetter1 : Sp := fun vs H Q _ => ∃ (s : Addr) (n : Nat), vs = [.ref s] ∧ Strm H s n ∧ n + 2 ≤ 1000000 ∧ ∀ (c : Nat) (n' : Nat) (H' : Hp), isLow c = true → Strm H' s n' → n' ≤ n + 2 → But s H H' → Q (.str (ch c)) H'
section
variable {P : Program} {w : World} {K : PySem.W.Frag} {mg : Str → Option Value} {base : Heap} {f : Addr} {fd : FuncData}
theorem ok_stream {k : Nat} (F : Fun K "_law_stream" "_law_stream" s__law_stream f fd) (M : Mgs mg) : FnOk P w K mg base CX0 (k + 1) f fd ["_law_script", "_law_turn"] (spStream K) := by
  refine F.ok sc__law_stream (fun vs H Q E h => ?_) (fun cdv A outer s H vs Q E hr h => ?_)
  · obtain ⟨a, ns, i, rfl, _⟩ := h
    rfl
  obtain ⟨a, ns, i, rfl, hS, hi, q⟩ := h
  refine ⟨_, (pss_cons (ps_set (i := 2) sc__law_stream.nd rfl (.inl rfl) pe_int)
    (pss_cons (ps_if (pt_cmpR op_gt (pe_callB call_len_seq rfl M.len PySem.boot_len (pa_cons (pv 0) pa_nil)) pe_int (nomark _))
      (pss_one (ps_set (i := 2) sc__law_stream.nd rfl (.inl rfl) (pe_ix ix_list (pv 0) (pe_op op_mod (pv 1) (pe_callB call_len_seq rfl M.len PySem.boot_len (pa_cons (pv 0) pa_nil))) (fun _ _ => rfl)))) pss_nil)
    (pss_cons (ps_if (pt_cmpR op_lt (pv 2) pe_int (nomark _))
      (pss_one (ps_set (i := 2) sc__law_stream.nd rfl (.inl rfl) (pe_op op_sub pe_int (pe_op op_mul pe_int (pv 2))))) pss_nil)
    (pss_cons (ps_set (i := 3) sc__law_stream.nd rfl (.inl rfl) pe_int)
    (pss_cons (ps_if (pt_cmpR op_ge (pv 2) (pe_op op_pow pe_int pe_int) (nomark _))
      (pss_one (ps_set (i := 3) sc__law_stream.nd rfl (.inl rfl) (pv 2))) pss_nil)
    (pss_one (ps_ret (pe_lst (pa_cons (pv 3) (pa_cons (pe_op op_mod (pe_op op_add (pe_op op_add (pe_op op_mod (pv 2) pe_int) (pe_op op_mul (pe_op op_mul pe_int (pv 1)) (pv 1))) pe_int) pe_int) (pa_cons pe_int pa_nil))))))))))), ?_⟩
  refine seq_cut (StI a i H) (fun σ H6 hp => ?_) (fun rest => rest _ _ ⟨_, rfl, rfl⟩)
  obtain ⟨x, rfl, rfl⟩ := hp
  refine seq_cut (StI a i H6) (fun σ H6 hp => ?_) (fun rest => ?_)
  rotate_left
  · refine ⟨_, rfl, a, _, rfl, .inl hS, _, _, rfl, rfl, _, rfl, ite2 (fun hl => ?_) (fun hl => rest _ _ ⟨_, rfl, rfl⟩)⟩
    have hl' : 0 < ns.length := by
      have hl : (0 : Int) < ((ns.map V.int).length : Int) := of_decide_eq_true hl
      rw [List.length_map] at hl
      omega
    refine ⟨_, rfl, _, rfl, _, rfl, a, _, rfl, .inl hS, _, _, rfl, rfl, (by rw [List.length_map]; omega), ?_⟩
    have h0 := Int.emod_nonneg (i : Int) (show ((ns.map V.int).length : Int) ≠ 0 by rw [List.length_map]; omega)
    have h1 := Int.emod_lt_of_pos (i : Int) (show 0 < ((ns.map V.int).length : Int) by rw [List.length_map]; omega)
    obtain ⟨j, hj⟩ := Int.eq_ofNat_of_zero_le h0
    rw [hj] at h1
    have hj1 : j < ns.length := by rw [List.length_map] at h1; omega
    refine ⟨a, _, _, V.int (ns[j]'hj1), rfl, (show V.int ((i : Int) % _) = V.int (j : Int) by rw [hj]), hS, ?_, ?_⟩
    · refine atI_nat (j := j) ?_
      rw [List.getElem?_map, List.getElem?_eq_getElem hj1]
      rfl
    · exact rest _ _ ⟨_, rfl, rfl⟩
  obtain ⟨x, rfl, rfl⟩ := hp
  refine seq_cut (StI a i H6) (fun σ H7 hp => ?_) (fun rest => ?_)
  rotate_left
  · refine ⟨_, rfl, _, _, rfl, rfl, _, rfl, ite2 (fun hl => ?_) (fun hl => rest _ _ ⟨_, rfl, rfl⟩)⟩
    refine ⟨_, rfl, _, _, rfl, rfl, .inl (by decide), _, _, rfl, rfl, rest _ _ ⟨_, rfl, rfl⟩⟩
  obtain ⟨y, rfl, rfl⟩ := hp
  have fin : ∀ r : Int, ∀ (s : Addr), H7 s = none → Q (.ref s) (upd H7 s (.lst [.int r, .int ((y % 2305843009213693951 + 7919 * (i : Int) * (i : Int) + 11) % 2305843009213693951), .int 0])) := fun r s n => q s _ n (same_new n _) ⟨_, _, upd_same, Int.emod_nonneg _ (by decide), Int.emod_lt_of_pos _ (by decide)⟩
  refine ⟨_, rfl, _, _, rfl, rfl, ⟨by decide, by decide, by decide⟩, _, _, rfl, rfl, _, rfl, ite2 (fun hl => ?_) (fun hl => ?_)⟩
  · refine ⟨_, rfl, _, rfl, _, rfl, _, _, rfl, rfl, (show (0 : Int) < 2305843009213693951 by decide), _, rfl, _, _, rfl, rfl, .inl (by decide), _, rfl, _, _, rfl, rfl, .inr (by constructor <;> omega), _, _, rfl, rfl, _, _, rfl, rfl, _, _, rfl, rfl, (show (0 : Int) < 2305843009213693951 by decide), (show (3 : Nat) ≤ sizeLine by decide), ?_⟩
    exact fun s n => fin _ s n
  · refine ⟨_, rfl, _, rfl, _, _, rfl, rfl, (show (0 : Int) < 2305843009213693951 by decide), _, rfl, _, _, rfl, rfl, .inl (by decide), _, rfl, _, _, rfl, rfl, .inr (by constructor <;> omega), _, _, rfl, rfl, _, _, rfl, rfl, _, _, rfl, rfl, (show (0 : Int) < 2305843009213693951 by decide), (show (3 : Nat) ≤ sizeLine by decide), ?_⟩
    exact fun s n => fin _ s n
theorem ok_take1 {k : Nat} (F : Fun K "_law_take" "_law_take" s__law_take f fd) : FnOk P w K mg base CX0 (k + 1) f fd ["_law_stream_here", "_law_many"] spTake1 := by
  refine F.ok sc__law_take (fun vs H Q E h => ?_) (fun cdv A outer s H vs Q E hr h => ?_)
  · obtain ⟨sa, n, m, rfl, _⟩ := h
    rfl
  obtain ⟨sa, n, m, rfl, ⟨r, c, e1, c0, c1⟩, hn, m0, m1, q⟩ := h
  refine ⟨_, (pss_cons (ps_if (pt_cmpR op_gt (pe_ix ix_list (pv 0) pe_int (fun _ _ => rfl)) pe_int (nomark _))
      (pss_cons (ps_set (i := 2) sc__law_take.nd rfl (.inl rfl) (pe_op op_mod (pe_ix ix_list (pv 0) pe_int (fun _ _ => rfl)) (pv 1)))
    (pss_cons (ps_asg (pe_op op_fdiv (pe_ix ix_list (pv 0) pe_int (fun _ _ => rfl)) (pv 1)) (pg_sub (pv 0) pe_int set_list))
    (pss_one (ps_ret (pv 2))))) pss_nil)
    (pss_cons (ps_asg (pe_op op_add (pe_ix ix_list (pv 0) pe_int (fun _ _ => rfl)) pe_int) (pg_sub (pv 0) pe_int set_list))
    (pss_cons (ps_par (i := 3) (j := 4) (by rfl) sc__law_take.nd rfl rfl (by decide) rfl rfl (pa_cons (pe_op op_mod (pe_ix ix_list (pv 0) pe_int (fun _ _ => rfl)) pe_int) (pa_cons (pe_op op_fdivW (pe_ix ix_list (pv 0) pe_int (fun _ _ => rfl)) pe_int) pa_nil)) (by rfl))
    (pss_cons (ps_set (i := 5) sc__law_take.nd rfl (.inl rfl) (pe_ix ix_list (pv 0) pe_int (fun _ _ => rfl)))
    (pss_cons (ps_set (i := 6) sc__law_take.nd rfl (.inl rfl) (pe_op op_add (pe_op op_mul (pv 3) (pe_op op_add pe_int (pe_op op_mul pe_int (pv 5)))) (pe_op op_mul (pv 4) pe_int)))
    (pss_cons (ps_set (i := 6) sc__law_take.nd rfl (.inl rfl) (pe_op op_mod (pe_op op_add (pv 6) (pe_op op_mul (pe_op op_mul (pv 5) (pv 5)) pe_int)) pe_int))
    (pss_cons (ps_set (i := 6) sc__law_take.nd rfl (.inl rfl) (pe_op op_mod (pe_op op_mul (pe_op op_mod (pe_op op_mul (pv 6) (pv 6)) pe_int) (pe_op op_add (pv 6) pe_int)) pe_int))
    (pss_one (ps_ret (pe_op op_mod (pe_op op_fdiv (pe_op op_add (pe_op op_mul (pv 6) pe_int) (pe_op op_mod (pe_op op_mul (pv 6) (pv 6)) pe_int)) pe_int) (pv 1))))))))))), ?_⟩
  refine ⟨_, rfl, sa, _, 0, _, rfl, rfl, SqL.of e1, atI_nat (j := 0) rfl, _, _, rfl, rfl, _, rfl, ite2 (fun hpos => ?_) (fun hpos => ?_)⟩
  · refine ⟨_, rfl, sa, _, 0, _, rfl, rfl, SqL.of e1, atI_nat (j := 0) rfl, _, rfl, _, _, rfl, rfl, m0, ?_⟩
    refine ⟨_, rfl, sa, _, 0, _, rfl, rfl, SqL.of e1, atI_nat (j := 0) rfl, _, rfl, _, _, rfl, rfl, ⟨m0, by omega⟩, ?_⟩
    refine ⟨_, rfl, sa, _, _, 0, rfl, rfl, e1, rfl, ?_⟩
    have h0 := Int.emod_nonneg r (show m ≠ 0 by omega)
    have h1 := Int.emod_lt_of_pos r m0
    obtain ⟨j, hj⟩ := Int.eq_ofNat_of_zero_le h0
    rw [hj] at h1
    have e : V.int (r % m) = V.int (j : Int) := by rw [hj]
    refine ⟨_, rfl, ?_⟩
    exact (congrArg (fun z => Q z (upd H sa (.lst [.int (r / m), .int c, .int (n : Int)]))) e).mpr <| q j n _ h1 ⟨r / m, c, upd_same, c0, c1⟩ (by omega) fun b o hb e => by rw [upd_ne hb]; exact e
  · refine ⟨_, rfl, sa, _, 2, _, rfl, rfl, SqL.of e1, atI_nat (j := 2) rfl, _, _, rfl, rfl, _, rfl, sa, _, _, 2, rfl, rfl, e1, rfl, ?_⟩
    have fin : ∀ z : Int, Q (.int (z % m)) (upd H sa (.lst [.int r, .int c, .int ((n : Int) + 1)])) := fun z => by
      have h0 := Int.emod_nonneg z (show m ≠ 0 by omega)
      have h1 := Int.emod_lt_of_pos z m0
      obtain ⟨j, hj⟩ := Int.eq_ofNat_of_zero_le h0
      rw [hj] at h1 ⊢
      exact q j (n + 1) _ h1 ⟨r, c, by rw [Int.natCast_add]; exact upd_same, c0, c1⟩ (by omega) fun b o hb e => by rw [upd_ne hb]; exact e
    have x1 : (upd H sa (.lst [.int r, .int c, .int ((n : Int) + 1)])) sa = some (.lst [.int r, .int c, .int ((n : Int) + 1)]) := upd_same
    have b1 : But sa H (upd H sa (.lst [.int r, .int c, .int ((n : Int) + 1)])) := fun b o hb e => by rw [upd_ne hb]; exact e
    have y1 : atI [V.int r, .int c, .int ((n : Int) + 1)] 1 = some (.int c) := atI_nat (j := 1) rfl
    have y2 : atI [V.int r, .int c, .int ((n : Int) + 1)] 2 = some (.int ((n : Int) + 1)) := atI_nat (j := 2) rfl
    refine ⟨_, rfl, sa, _, _, _, rfl, rfl, SqL.of x1, y1, _, _, rfl, rfl, (show (0 : Int) < 2147483647 by decide), _, rfl, sa, _, _, _, rfl, rfl, SqL.of x1, y1, _, _, rfl, rfl, wide_div (b := 40) (by decide) (by decide) (by decide) (by decide), _, _, rfl, ?_⟩
    refine ⟨_, rfl, sa, _, _, _, rfl, rfl, SqL.of x1, y2, ?_⟩
    refine ⟨_, rfl, _, rfl, _, _, rfl, rfl, .inl (by decide), _, _, rfl, rfl, _, _, rfl, rfl, .inl (modP _ _ (by decide) (by decide)), _, rfl, _, _, rfl, rfl, .inr (by decide), _, _, rfl, rfl, ?_⟩
    refine ⟨_, rfl, _, rfl, _, rfl, _, _, rfl, rfl, .inl (by constructor <;> omega), _, _, rfl, rfl, .inr (by decide), _, _, rfl, rfl, _, _, rfl, rfl, (show (0 : Int) < 2147483647 by decide), ?_⟩
    refine ⟨_, rfl, _, rfl, _, _, rfl, rfl, .inl (modP _ _ (by decide) (by decide)), _, _, rfl, rfl, (show (0 : Int) < 2147483647 by decide), _, rfl, _, _, rfl, rfl, _, _, rfl, rfl, .inl (modP _ _ (by decide) (by decide)), _, _, rfl, rfl, (show (0 : Int) < 2147483647 by decide), ?_⟩
    refine ⟨_, rfl, _, _, rfl, rfl, .inr (by decide), _, rfl, _, rfl, _, _, rfl, rfl, .inl (modP _ _ (by decide) (by decide)), _, _, rfl, rfl, (show (0 : Int) < 1073741789 by decide), _, _, rfl, rfl, _, _, rfl, rfl, (show (0 : Int) < 8 ∧ (8 : Int) < 1073741824 by decide), _, rfl, _, _, rfl, rfl, m0, ?_⟩
    exact fin _
theorem ok_letter1 (F : Fun K "_law_letter" "_law_letter" s__law_letter f fd) (D_law_take : Df P w K mg base 1 "_law_take" ["_law_stream_here", "_law_many"] spTake1) : FnOk P w K mg base CX0 2 f fd ["_law_stream_here"] spLetter1 := by
  refine F.ok (k := 1) sc__law_letter (fun vs H Q E h => ?_) (fun cdv A outer s H vs Q E hr h => ?_)
  · obtain ⟨sa, n, rfl, _⟩ := h
    rfl
  obtain ⟨sa, n, rfl, h, hn, q⟩ := h
  refine ⟨_, (pss_one (ps_ret (pe_ix ix_str pe_str (pe_call D_law_take.ok (hr.mono (by omega)) rfl D_law_take.g D_law_take.kp D_law_take.b .nil pass0 (pa_cons (pv 0) (pa_cons (pe_ix ix_list (pe_lst (pa_cons pe_int (pa_cons pe_int pa_nil))) (pe_call D_law_take.ok (hr.mono (by omega)) rfl D_law_take.g D_law_take.kp D_law_take.b .nil pass0 (pa_cons (pv 0) (pa_cons pe_int pa_nil))) (fun _ _ => rfl)) pa_nil))) (fun _ _ => rfl)))), ?_⟩
  refine ⟨_, rfl, (show (2 : Nat) ≤ sizeLine by decide), fun la na => ⟨_, rfl, ?_⟩⟩
  have h1 : Strm (upd H la (.lst [.int 26, .int 3])) sa n := h.same (same_new na _)
  refine ⟨sa, n, 2, rfl, h1, by omega, by decide, by decide, fun i n1 H1 l1 t1 c1 b1 => ?_⟩
  have e1 : H1 la = some (.lst [.int 26, .int 3]) := b1 _ _ (fun z => by obtain ⟨xs, e⟩ := h.lst; rw [← z, na] at e; cases e) upd_same
  have hv : ∃ m : Int, atI [V.int 26, .int 3] (i : Int) = some (.int m) ∧ 0 < m ∧ m ≤ 26 := by
    match i, l1 with
    | 0, _ => exact ⟨26, rfl, by decide, by decide⟩
    | 1, _ => exact ⟨3, rfl, by decide, by decide⟩
  obtain ⟨m, hm, m0, m1⟩ := hv
  refine ⟨la, _, _, _, rfl, rfl, SqL.of e1, hm, ?_⟩
  refine ⟨sa, n1, m, rfl, t1, by omega, m0, by omega, fun j n2 H2 l2 t2 c2 b2 => ?_⟩
  obtain ⟨c, hc, hl⟩ := alph_at (j := j) (by omega)
  refine ⟨_, _, c, rfl, rfl, (by decide +kernel), atI_nat hc, q c n2 _ hl t2 (by omega) fun b o hb e => b2 b o hb (b1 b o hb (same_new na _ b o e))⟩
end
/-! ### the law's own walks through a tree -/
def B.nds : B → List Bool → List (List Bool)
  | .nil, _ => []
  | .node l _ r, q => q :: (l.nds (q ++ [false]) ++ r.nds (q ++ [true]))
def B.ops : B → List Bool → List (List Bool)
  | .nil, q => [q]
  | .node l _ r, q => l.ops (q ++ [false]) ++ r.ops (q ++ [true])
theorem B.nds_len : ∀ (t : B) (q : List Bool), (t.nds q).length = t.size
  | .nil, _ => rfl
  | .node l x r, q => by
    have h1 := l.nds_len (q ++ [false])
    have h2 := r.nds_len (q ++ [true])
    show (q :: (l.nds (q ++ [false]) ++ r.nds (q ++ [true]))).length = l.size + 1 + r.size
    rw [List.length_cons, List.length_append]
    omega
theorem B.ops_len : ∀ (t : B) (q : List Bool), (t.ops q).length = t.size + 1
  | .nil, _ => rfl
  | .node l x r, q => by
    have h1 := l.ops_len (q ++ [false])
    have h2 := r.ops_len (q ++ [true])
    show (l.ops (q ++ [false]) ++ r.ops (q ++ [true])).length = l.size + 1 + r.size + 1
    rw [List.length_append]
    omega
theorem B.nds_mem : ∀ (t : B) (q p : List Bool), p ∈ t.nds q ↔ ∃ s u, p = q ++ s ∧ t.at s = some u ∧ u ≠ .nil
  | .nil, q, p => by
    constructor
    · intro h
      cases (show p ∈ ([] : List (List Bool)) from h)
    rintro ⟨s, u, _, h, n⟩
    cases s with
    | nil => cases h; exact absurd rfl n
    | cons _ _ => cases h
  | .node l x r, q, p => by
    show p ∈ q :: (l.nds (q ++ [false]) ++ r.nds (q ++ [true])) ↔ _
    rw [List.mem_cons, List.mem_append, l.nds_mem, r.nds_mem]
    constructor
    · rintro (rfl | ⟨s, u, rfl, h, n⟩ | ⟨s, u, rfl, h, n⟩)
      · exact ⟨[], _, (List.append_nil _).symm, rfl, fun z => nomatch z⟩
      · exact ⟨false :: s, u, by rw [List.append_assoc]; rfl, h, n⟩
      · exact ⟨true :: s, u, by rw [List.append_assoc]; rfl, h, n⟩
    · rintro ⟨s, u, rfl, h, n⟩
      cases s with
      | nil => exact .inl (List.append_nil _)
      | cons b s => cases b with
        | false => exact .inr (.inl ⟨s, u, by rw [List.append_assoc]; rfl, h, n⟩)
        | true => exact .inr (.inr ⟨s, u, by rw [List.append_assoc]; rfl, h, n⟩)
theorem B.ops_mem : ∀ (t : B) (q p : List Bool), p ∈ t.ops q ↔ ∃ s, p = q ++ s ∧ t.at s = some .nil
  | .nil, q, p => by
    show p ∈ [q] ↔ _
    rw [List.mem_singleton]
    refine ⟨fun h => ⟨[], by rw [h, List.append_nil], rfl⟩, fun ⟨s, e, h⟩ => ?_⟩
    cases s with
    | nil => rw [e, List.append_nil]
    | cons _ _ => cases h
  | .node l x r, q, p => by
    show p ∈ l.ops (q ++ [false]) ++ r.ops (q ++ [true]) ↔ _
    rw [List.mem_append, l.ops_mem, r.ops_mem]
    constructor
    · rintro (⟨s, rfl, h⟩ | ⟨s, rfl, h⟩)
      · exact ⟨false :: s, by rw [List.append_assoc]; rfl, h⟩
      · exact ⟨true :: s, by rw [List.append_assoc]; rfl, h⟩
    · rintro ⟨s, rfl, h⟩
      cases s with
      | nil => cases h
      | cons b s => cases b with
        | false => exact .inl ⟨s, by rw [List.append_assoc]; rfl, h⟩
        | true => exact .inr ⟨s, by rw [List.append_assoc]; rfl, h⟩
theorem B.nds_at {t : B} {p : List Bool} : p ∈ t.nds [] ↔ ∃ u, t.at p = some u ∧ u ≠ .nil := by
  rw [B.nds_mem]
  exact ⟨fun ⟨s, u, e, h⟩ => ⟨u, by rw [e]; exact h⟩, fun ⟨u, h⟩ => ⟨p, u, rfl, h⟩⟩
theorem B.ops_at {t : B} {p : List Bool} : p ∈ t.ops [] ↔ t.at p = some .nil := by
  rw [B.ops_mem]
  exact ⟨fun ⟨s, e, h⟩ => by rw [e]; exact h, fun h => ⟨p, rfl, h⟩⟩
def spPaths : Sp := fun vs H Q _ => ∃ (v : V) (t : B), vs = [v] ∧ BAt H v t ∧ t.size ≤ 12 ∧ ∀ (p A B' : Addr) (H' : Hp), Same H H' → H p = none → H A = none → H B' = none → H' p = some (.tup [.ref A, .ref B']) → H' A = some (.lst ((t.nds []).map fun p => V.str (px p))) → H' B' = some (.lst ((t.ops []).map fun p => V.str (px p))) → Q (.ref p) H'
inductive WtAt (H : Hp) : List V → List (List Bool × B) → Prop
  | nil : WtAt H [] []
  | cons {a : Addr} {q : List Bool} {v : V} {t : B} {vs : List V} {ss : List (List Bool × B)} : H a = some (.tup [.str (px q), v]) → BAt H v t → WtAt H vs ss → WtAt H (.ref a :: vs) ((q, t) :: ss)
theorem WtAt.keep {H H' : Hp} (k : KeepT H H') {vs : List V} {ss : List (List Bool × B)} (h : WtAt H vs ss) : WtAt H' vs ss := by
  induction h with
  | nil => exact .nil
  | cons e b _ ih => exact .cons (k _ _ e) (b.keep k) ih
theorem WtAt.app {H : Hp} {vs us : List V} {ss ts : List (List Bool × B)} (h : WtAt H vs ss) (g : WtAt H us ts) : WtAt H (vs ++ us) (ss ++ ts) := by
  induction h with
  | nil => exact g
  | cons e b _ ih => exact .cons e b ih
theorem WtAt.last {H : Hp} {vs : List V} {ss : List (List Bool × B)} (h : WtAt H vs ss) : vs ≠ [] → ∃ a q v t ts, vs[vs.length - 1]? = some (.ref a) ∧ ss = ts ++ [(q, t)] ∧ H a = some (.tup [.str (px q), v]) ∧ BAt H v t ∧ WtAt H vs.dropLast ts := by
  induction h with
  | nil => intro z; exact absurd rfl z
  | @cons a q v t vs ss e b hh ih =>
    intro _
    cases vs with
    | nil => cases hh; exact ⟨a, q, v, t, [], rfl, rfl, e, b, .nil⟩
    | cons u us =>
      obtain ⟨a', q', v', t', ts, e1, e2, e3, e4, e5⟩ := ih (by simp)
      exact ⟨a', q', v', t', (q, t) :: ts, e1, by rw [e2]; rfl, e3, e4, .cons e b e5⟩
def ndsS (ss : List (List Bool × B)) : List (List Bool) := ss.reverse.flatMap fun x => x.2.nds x.1
def opsS (ss : List (List Bool × B)) : List (List Bool) := ss.reverse.flatMap fun x => x.2.ops x.1
theorem ndsS_snoc (ss : List (List Bool × B)) (q : List Bool) (t : B) : ndsS (ss ++ [(q, t)]) = t.nds q ++ ndsS ss := by
  unfold ndsS
  rw [List.reverse_append]
  rfl
theorem opsS_snoc (ss : List (List Bool × B)) (q : List Bool) (t : B) : opsS (ss ++ [(q, t)]) = t.ops q ++ opsS ss := by
  unfold opsS
  rw [List.reverse_append]
  rfl
theorem WtAt.len {H : Hp} {vs : List V} {ss : List (List Bool × B)} (h : WtAt H vs ss) : vs.length = ss.length := by
  induction h with
  | nil => rfl
  | cons _ _ _ ih => rw [List.length_cons, List.length_cons, ih]
theorem ndsO (ss : List (List Bool × B)) : ss.length ≤ (opsS ss).length := by
  unfold opsS
  rw [← List.length_reverse]
  generalize ss.reverse = rs
  induction rs with
  | nil => exact Nat.le_refl _
  | cons x rs ih =>
    rw [List.flatMap_cons, List.length_append, B.ops_len, List.length_cons]
    omega
theorem px_snoc (q : List Bool) (b : Bool) : px q ++ tx [dir b] = px (q ++ [b]) := by
  unfold px
  rw [tx_app, List.map_append]
  rfl
def lenAt (σ : L2.St) (i : Nat) (H : Hp) : Nat := match σ[i]? with
  | some (some (V.ref a)) => (match H a with
    | some (.lst xs) => xs.length
    | _ => 0)
  | _ => 0
theorem lenAt_of {σ : L2.St} {i : Nat} {H : Hp} {a : Addr} {xs : List V} (h : σ[i]? = some (some (.ref a))) (e : H a = some (.lst xs)) : lenAt σ i H = xs.length := by
  unfold lenAt
  rw [h]
  show (match H a with
    | some (.lst xs) => xs.length
    | _ => 0) = _
  rw [e]
def PaI (H : Hp) (t : B) (v : V) (A B' W : Addr) (σ : L2.St) (H' : Hp) : Prop := ∃ (ws : List V) (ss : List (List Bool × B)) (N O : List (List Bool)) (y4 y5 : Option V), σ = [some v, some (.ref A), some (.ref B'), some (.ref W), y4, y5] ∧ Same H H' ∧ H' A = some (.lst (N.map fun p => V.str (px p))) ∧ H' B' = some (.lst (O.map fun p => V.str (px p))) ∧ H' W = some (.lst ws) ∧ WtAt H' ws ss ∧ N ++ ndsS ss = t.nds [] ∧ O ++ opsS ss = t.ops []
def Kd.num : Kd → Int
  | .first => 0
  | .between => 1
  | .last => 2
def spLabs (n : Nat) : Sp := fun vs H Q _ => ∃ (v : V) (t : B) (k : Kd), vs = [v, .int k.num] ∧ BAt H v t ∧ t.size < n ∧ t.size ≤ 100 ∧ ∀ (H' : Hp), Same H H' → Q (.str (tx (t.wk k))) H'
abbrev vp (p : List Bool) : V := .str (px p)
section
variable {P : Program} {w : World} {K : PySem.W.Frag} {mg : Str → Option Value} {base : Heap} {f : Addr} {fd : FuncData}
theorem ok_lpart {k : Nat} (F : Fun K "_law_part" "_law_part" s__law_part f fd) : FnOk P w K mg base CX0 (k + 1) f fd ["_law_tree_here", "_law_path"] spPart := by
  refine F.ok sc__law_part (fun vs H Q E h => ?_) (fun cdv A outer s H vs Q E hr h => ?_)
  · obtain ⟨v, t, u, p, rfl, _⟩ := h
    rfl
  obtain ⟨v, t, u, p, rfl, ht, hu, hp, q⟩ := h
  refine ⟨_, (pss_cons (ps_for PassesOwn.never rfl (pi_str (pv 1)) (pg_name (i := 2) sc__law_part.nd rfl (.inl rfl))
      (pss_one (ps_set (i := 0) sc__law_part.nd rfl (.inl rfl) (pe_ifExp (pt_cmpR op_eq (pv 2) pe_str (nomark _)) (pe_ix ix_tup (pv 0) pe_int (fun _ _ => rfl)) (pe_ix ix_tup (pv 0) pe_int (fun _ _ => rfl))))))
    (pss_one (ps_ret (pv 0)))), ?_⟩
  refine ⟨_, rfl, px p, rfl, ?_⟩
  refine for_text (x := px p) (fun i σ H' => ∃ (vi : V) (ti : B) (y2 : Option V), σ = [some vi, some (.str (px p)), y2] ∧ Same H H' ∧ BAt H' vi ti ∧ ti.at (p.drop i) = some u) ⟨v, t, none, rfl, Same.refl _, ht, hu⟩ (fun i c σ H1 hc hq => ?_) (fun σ H1 hq => ?_)
  · obtain ⟨vi, ti, y2, rfl, s1, hi, ei⟩ := hq
    have hc' : (p.map dir)[i]? = some c := hc
    obtain ⟨b, hb, rfl⟩ : ∃ b, p[i]? = some b ∧ dir b = c := by
      rw [List.getElem?_map] at hc'
      cases e : p[i]? with
      | none => rw [e] at hc'; cases hc'
      | some b => rw [e] at hc'; exact ⟨b, rfl, Option.some.inj hc'⟩
    have hdr : p.drop i = b :: p.drop (i + 1) := by
      obtain ⟨h1, h2⟩ := List.getElem?_eq_some_iff.mp hb
      rw [List.drop_eq_getElem_cons h1, h2]
    rw [hdr] at ei
    rcases hi.inv with ⟨rfl, rfl⟩ | ⟨a, vl, vr, x, tl, tr, rfl, rfl, ea, hl, hr'⟩
    · cases ei
    refine ⟨_, rfl, rfl, _, rfl, ?_⟩
    rw [dir_str]
    cases b with
    | false =>
      refine iteT ⟨_, rfl, a, _, 0, vl, rfl, rfl, SqT.of ea, atI_nat (j := 0) rfl, ?_⟩
      exact ⟨vl, tl, _, rfl, s1, hl, ei⟩
    | true =>
      refine iteF ⟨_, rfl, a, _, 2, vr, rfl, rfl, SqT.of ea, atI_nat (j := 2) rfl, ?_⟩
      exact ⟨vr, tr, _, rfl, s1, hr', ei⟩
  · obtain ⟨vi, ti, y2, rfl, s1, hi, ei⟩ := hq
    rw [List.drop_eq_nil_of_le (by rw [show (px p).cps.toList = p.map dir from rfl, List.length_map]; exact Nat.le_refl _)] at ei
    have : ti = u := by cases ti <;> (cases ei; rfl)
    subst this
    exact ⟨_, rfl, q vi H1 s1 hi⟩
theorem ok_lgraft (F : Fun K "_law_grafted" "_law_grafted" s__law_grafted f fd) (b : Binds K fd ["_law_tree_here", "_law_path", "_law_part_here"] []) (g : mg "_law_grafted" = some (.ref f)) : ∀ n : Nat, FnOk P w K mg base CX0 n f fd ["_law_tree_here", "_law_path", "_law_part_here"] (spWith n)
  | 0 => by
    have no : ∀ vs H Q E, ¬ spWith 0 vs H Q E := fun vs H Q E h => by
      obtain ⟨v, vp, t, u, p, _, _, _, h1, _⟩ := h
      exact absurd h1 (Nat.not_lt_zero _)
    exact ⟨fun vs H Q E h => absurd h (no vs H Q E), fun A outer s H args us vs Q E _ _ _ _ h => absurd h (no vs H Q E)⟩
  | n + 1 => by
    have Dself : Df P w K mg base n "_law_grafted" ["_law_tree_here", "_law_path", "_law_part_here"] (spWith n) := ⟨f, fd, ok_lgraft F b g n, b, F.kp, g⟩
    refine F.ok sc__law_grafted (fun vs H Q E h => ?_) (fun cdv A outer s H vs Q E hr h => ?_)
    · obtain ⟨v, vp, t, u, p, rfl, _⟩ := h
      rfl
    obtain ⟨v, vp, t, u, p, rfl, ht, hu, hn, hp, hs, q⟩ := h
    refine ⟨_, (pss_cons (ps_if (pt_cmpR op_eq (pv 1) pe_str (nomark _))
      (pss_one (ps_ret (pv 2))) pss_nil)
    (pss_cons (ps_if (pt_cmpR op_eq (pe_ix ix_str (pv 1) pe_int (fun _ _ => rfl)) pe_str (nomark _))
      (pss_one (ps_ret (pe_tup (pa_cons (pe_call Dself.ok (hr.mono (by omega)) rfl Dself.g Dself.kp Dself.b .nil pass0 (pa_cons (pe_ix ix_tup (pv 0) pe_int (fun _ _ => rfl)) (pa_cons (pe_slice sl_str (pv 1) (po_some pe_int) po_none) (pa_cons (pv 2) pa_nil)))) (pa_cons (pe_ix ix_tup (pv 0) pe_int (fun _ _ => rfl)) (pa_cons (pe_ix ix_tup (pv 0) pe_int (fun _ _ => rfl)) pa_nil)))))) pss_nil)
    (pss_one (ps_ret (pe_tup (pa_cons (pe_ix ix_tup (pv 0) pe_int (fun _ _ => rfl)) (pa_cons (pe_ix ix_tup (pv 0) pe_int (fun _ _ => rfl)) (pa_cons (pe_call Dself.ok (hr.mono (by omega)) rfl Dself.g Dself.kp Dself.b .nil pass0 (pa_cons (pe_ix ix_tup (pv 0) pe_int (fun _ _ => rfl)) (pa_cons (pe_slice sl_str (pv 1) (po_some pe_int) po_none) (pa_cons (pv 2) pa_nil)))) pa_nil)))))))), ?_⟩
    have lp : (px p).length ≤ sizeLine := small (by rw [px_len]; omega)
    refine ⟨_, rfl, rfl, _, rfl, ?_⟩
    cases p with
    | nil =>
      refine iteS px_nil ⟨_, rfl, ?_⟩
      have e : t.put [] u = u := by cases t <;> rfl
      rw [e] at q
      exact q vp H (Same.refl H) hu
    | cons d p =>
      refine iteR (fun z => by rw [← px_nil] at z; cases px_inj z) ?_
      rcases ht.inv with ⟨rfl, rfl⟩ | ⟨a, vl, vr, x, tl, tr, rfl, rfl, ea, hl, hr'⟩
      · cases hs
      have hp' : p.length + 1 < n + 1 := hn
      have hp2 : p.length + 1 ≤ 100 := hp
      refine ⟨_, rfl, _, _, _, rfl, rfl, lp, atI_nat (j := 0) rfl, rfl, _, rfl, ?_⟩
      have ed : cutS (px (d :: p)) (some 1) none = px p := px_drop _
      cases d with
      | false =>
        refine iteS str_l.symm ⟨_, rfl, a, _, 0, vl, rfl, rfl, SqT.of ea, atI_nat (j := 0) rfl, _, rfl, _, rfl, _, rfl, lp, _, rfl, vl, vp, tl, u, p, by rw [ed]; rfl, hl, hu, by omega, by omega, hs, fun v' H1 s1 h1 => ?_⟩
        refine ⟨_, rfl, a, _, 1, _, rfl, rfl, SqT.of (s1 _ _ ea), atI_nat (j := 1) rfl, _, rfl, a, _, 2, vr, rfl, rfl, SqT.of (s1 _ _ ea), atI_nat (j := 2) rfl, (by show 3 ≤ sizeLine; decide), fun r nr => ?_⟩
        have k2 := same_new nr (.tup [v', .str (ch x), vr])
        exact q _ _ (s1.trans k2) (.node upd_same (h1.same k2) (hr'.same (s1.trans k2)))
      | true =>
        refine iteR (fun z => by rw [str_l] at z; have := tx_inj z; cases this) ⟨_, rfl, a, _, 0, vl, rfl, rfl, SqT.of ea, atI_nat (j := 0) rfl, _, rfl, a, _, 1, _, rfl, rfl, SqT.of ea, atI_nat (j := 1) rfl, _, rfl, a, _, 2, vr, rfl, rfl, SqT.of ea, atI_nat (j := 2) rfl, _, rfl, _, rfl, _, rfl, lp, _, rfl, vr, vp, tr, u, p, by rw [ed]; rfl, hr', hu, by omega, by omega, hs, fun v' H1 s1 h1 => ?_⟩
        refine ⟨(by show 3 ≤ sizeLine; decide), fun r nr => ?_⟩
        have k2 := same_new nr (.tup [vl, .str (ch x), v'])
        exact q _ _ (s1.trans k2) (.node upd_same (hl.same (s1.trans k2)) (h1.same k2))
theorem ok_lswap (F : Fun K "_law_swapped" "_law_swapped" s__law_swapped f fd) (b : Binds K fd ["_law_tree_here"] []) (g : mg "_law_swapped" = some (.ref f)) : ∀ n : Nat, FnOk P w K mg base CX0 n f fd ["_law_tree_here"] (spMir n)
  | 0 => by
    have no : ∀ vs H Q E, ¬ spMir 0 vs H Q E := fun vs H Q E h => by
      obtain ⟨v, t, _, _, h1, _⟩ := h
      exact absurd h1 (Nat.not_lt_zero _)
    exact ⟨fun vs H Q E h => absurd h (no vs H Q E), fun A outer s H args us vs Q E _ _ _ _ h => absurd h (no vs H Q E)⟩
  | n + 1 => by
    have Dself : Df P w K mg base n "_law_swapped" ["_law_tree_here"] (spMir n) := ⟨f, fd, ok_lswap F b g n, b, F.kp, g⟩
    refine F.ok sc__law_swapped (fun vs H Q E h => ?_) (fun cdv A outer s H vs Q E hr h => ?_)
    · obtain ⟨v, t, rfl, _⟩ := h
      rfl
    obtain ⟨v, t, rfl, ht, hn, q⟩ := h
    refine ⟨_, (pss_cons (ps_if (pt_cmpR op_isN (pv 0) pe_non (nomark _))
      (pss_one (ps_ret pe_non)) pss_nil)
    (pss_one (ps_ret (pe_tup (pa_cons (pe_call Dself.ok (hr.mono (by omega)) rfl Dself.g Dself.kp Dself.b .nil pass0 (pa_cons (pe_ix ix_tup (pv 0) pe_int (fun _ _ => rfl)) pa_nil)) (pa_cons (pe_ix ix_tup (pv 0) pe_int (fun _ _ => rfl)) (pa_cons (pe_call Dself.ok (hr.mono (by omega)) rfl Dself.g Dself.kp Dself.b .nil pass0 (pa_cons (pe_ix ix_tup (pv 0) pe_int (fun _ _ => rfl)) pa_nil)) pa_nil))))))), ?_⟩
    rcases ht.inv with ⟨rfl, rfl⟩ | ⟨a, vl, vr, x, tl, tr, rfl, rfl, ea, hl, hr'⟩
    · exact ⟨_, rfl, rfl, _, rfl, iteT (q _ _ (Same.refl H) .nil)⟩
    have hz : tl.size + 1 + tr.size < n + 1 := hn
    refine ⟨_, rfl, rfl, _, rfl, iteF ?_⟩
    refine ⟨_, rfl, a, _, 2, vr, rfl, rfl, SqT.of ea, atI_nat (j := 2) rfl, vr, tr, rfl, hr', by omega, fun v1 H1 s1 h1 => ?_⟩
    refine ⟨_, rfl, a, _, 1, _, rfl, rfl, SqT.of (s1 _ _ ea), atI_nat (j := 1) rfl, _, rfl, a, _, 0, vl, rfl, rfl, SqT.of (s1 _ _ ea), atI_nat (j := 0) rfl, vl, tl, rfl, hl.same s1, by omega, fun v2 H2 s2 h2 => ?_⟩
    refine ⟨(by show 3 ≤ sizeLine; decide), fun r nr => ?_⟩
    have k2 := same_new nr (.tup [v1, .str (ch x), v2])
    exact q _ _ (s1.trans (s2.trans k2)) (.node upd_same (h1.same (s2.trans k2)) (h2.same k2))
theorem ok_llabels (F : Fun K "_law_labels" "_law_labels" s__law_labels f fd) (b : Binds K fd ["_law_tree_here", "_law_kind"] []) (g : mg "_law_labels" = some (.ref f)) : ∀ n : Nat, FnOk P w K mg base CX0 n f fd ["_law_tree_here", "_law_kind"] (spLabs n)
  | 0 => by
    have no : ∀ vs H Q E, ¬ spLabs 0 vs H Q E := fun vs H Q E h => by
      obtain ⟨v, t, k, _, _, h1, _⟩ := h
      exact absurd h1 (Nat.not_lt_zero _)
    exact ⟨fun vs H Q E h => absurd h (no vs H Q E), fun A outer s H args us vs Q E _ _ _ _ h => absurd h (no vs H Q E)⟩
  | n + 1 => by
    have Dself : Df P w K mg base n "_law_labels" ["_law_tree_here", "_law_kind"] (spLabs n) := ⟨f, fd, ok_llabels F b g n, b, F.kp, g⟩
    refine F.ok sc__law_labels (fun vs H Q E h => ?_) (fun cdv A outer s H vs Q E hr h => ?_)
    · obtain ⟨v, t, k, rfl, _⟩ := h
      rfl
    obtain ⟨v, t, k, rfl, ht, hn, h1, q⟩ := h
    refine ⟨_, (pss_cons (ps_if (pt_cmpR op_isN (pv 0) pe_non (nomark _))
      (pss_one (ps_ret pe_str)) pss_nil)
    (pss_cons (ps_par (i := 2) (j := 3) (by rfl) sc__law_labels.nd rfl rfl (by decide) rfl rfl (pa_cons (pe_call Dself.ok (hr.mono (by omega)) rfl Dself.g Dself.kp Dself.b .nil pass0 (pa_cons (pe_ix ix_tup (pv 0) pe_int (fun _ _ => rfl)) (pa_cons (pv 1) pa_nil))) (pa_cons (pe_call Dself.ok (hr.mono (by omega)) rfl Dself.g Dself.kp Dself.b .nil pass0 (pa_cons (pe_ix ix_tup (pv 0) pe_int (fun _ _ => rfl)) (pa_cons (pv 1) pa_nil))) pa_nil)) (by rfl))
    (pss_one (ps_ret (pe_ix ix_list (pe_lst (pa_cons (pe_op op_add_str (pe_op op_add_str (pe_ix ix_tup (pv 0) pe_int (fun _ _ => rfl)) (pv 2)) (pv 3)) (pa_cons (pe_op op_add_str (pe_op op_add_str (pv 2) (pe_ix ix_tup (pv 0) pe_int (fun _ _ => rfl))) (pv 3)) (pa_cons (pe_op op_add_str (pe_op op_add_str (pv 2) (pv 3)) (pe_ix ix_tup (pv 0) pe_int (fun _ _ => rfl))) pa_nil)))) (pv 1) (fun _ _ => rfl)))))), ?_⟩
    rcases ht.inv with ⟨rfl, rfl⟩ | ⟨a, vl, vr, x, tl, tr, rfl, rfl, ea, hl, hr'⟩
    · have e : B.nil.wk k = [] := by cases k <;> rfl
      rw [e, ← str_0] at q
      exact ⟨_, rfl, rfl, _, rfl, iteT (q _ (Same.refl H))⟩
    have hz : tl.size + 1 + tr.size < n + 1 := hn
    have hz1 : tl.size + 1 + tr.size ≤ 100 := h1
    have w1 := tl.wk_len k
    have w2 := tr.wk_len k
    refine ⟨_, rfl, rfl, _, rfl, iteF ?_⟩
    refine ⟨_, rfl, a, _, 0, vl, rfl, rfl, SqT.of ea, atI_nat (j := 0) rfl, _, rfl, vl, tl, k, rfl, hl, by omega, by omega, fun H1 s1 => ?_⟩
    refine ⟨_, rfl, a, _, 2, vr, rfl, rfl, SqT.of (s1 _ _ ea), atI_nat (j := 2) rfl, _, rfl, vr, tr, k, rfl, hr'.same s1, by omega, by omega, fun H2 s2 => ?_⟩
    have s12 := s1.trans s2
    have ea2 := s12 _ _ ea
    have L1 : (ch x).length + (tx (tl.wk k)).length ≤ sizeLine := small (by rw [tx_len]; show 1 + _ ≤ 1000; omega)
    have L2 : (ch x ++ tx (tl.wk k)).length + (tx (tr.wk k)).length ≤ sizeLine := small (by rw [strLen_append, tx_len, tx_len]; show 1 + _ + _ ≤ 1000; omega)
    have L3 : (tx (tl.wk k)).length + (ch x).length ≤ sizeLine := by rw [Nat.add_comm]; exact L1
    have L4 : (tx (tl.wk k) ++ ch x).length + (tx (tr.wk k)).length ≤ sizeLine := small (by rw [strLen_append, tx_len, tx_len]; show _ + 1 + _ ≤ 1000; omega)
    have L5 : (tx (tl.wk k)).length + (tx (tr.wk k)).length ≤ sizeLine := small (by rw [tx_len, tx_len]; omega)
    have L6 : (tx (tl.wk k) ++ tx (tr.wk k)).length + (ch x).length ≤ sizeLine := small (by rw [strLen_append, tx_len, tx_len]; show _ + _ + 1 ≤ 1000; omega)
    refine ⟨_, _, rfl, _, rfl, a, _, 1, _, rfl, rfl, SqT.of ea2, atI_nat (j := 1) rfl, _, rfl, _, _, rfl, rfl, L1, _, rfl, _, _, rfl, rfl, L2, ?_⟩
    refine ⟨_, rfl, _, rfl, a, _, 1, _, rfl, rfl, SqT.of ea2, atI_nat (j := 1) rfl, _, _, rfl, rfl, L3, _, rfl, _, _, rfl, rfl, L4, ?_⟩
    refine ⟨_, rfl, _, rfl, _, _, rfl, rfl, L5, _, rfl, a, _, 1, _, rfl, rfl, SqT.of ea2, atI_nat (j := 1) rfl, _, _, rfl, rfl, L6, (by show 3 ≤ sizeLine; decide), fun L nL => ?_⟩
    have s3 := s12.trans (same_new nL (.lst [.str (ch x ++ tx (tl.wk k) ++ tx (tr.wk k)), .str (tx (tl.wk k) ++ ch x ++ tx (tr.wk k)), .str (tx (tl.wk k) ++ tx (tr.wk k) ++ ch x)]))
    have fin := q _ s3
    have hv : atI [V.str (ch x ++ tx (tl.wk k) ++ tx (tr.wk k)), .str (tx (tl.wk k) ++ ch x ++ tx (tr.wk k)), .str (tx (tl.wk k) ++ tx (tr.wk k) ++ ch x)] k.num = some (V.str (tx ((B.node tl x tr).wk k))) := by
      cases k with
      | first =>
        refine (atI_nat (j := 0) rfl).trans (congrArg (fun z => some (V.str z)) ?_)
        show tx [x] ++ tx tl.pre ++ tx tr.pre = _
        rw [tx_app, tx_app]
        rfl
      | between =>
        refine (atI_nat (j := 1) rfl).trans (congrArg (fun z => some (V.str z)) ?_)
        show tx tl.mid ++ tx [x] ++ tx tr.mid = _
        rw [tx_app, tx_app, List.append_assoc]
        rfl
      | last =>
        refine (atI_nat (j := 2) rfl).trans (congrArg (fun z => some (V.str z)) ?_)
        show tx tl.post ++ tx tr.post ++ tx [x] = _
        rw [tx_app, tx_app]
        rfl
    exact ⟨_, rfl, L, _, _, _, rfl, rfl, SqL.of upd_same, hv, fin⟩
theorem ok_lpaths {k : Nat} (F : Fun K "_law_paths" "_law_paths" s__law_paths f fd) : FnOk P w K mg base CX0 (k + 1) f fd ["_law_tree_here"] spPaths := by
  refine F.ok sc__law_paths (fun vs H Q E h => ?_) (fun cdv A outer s H vs Q E hr h => ?_)
  · obtain ⟨v, t, rfl, _⟩ := h
    rfl
  obtain ⟨v, t, rfl, ht, hz, q⟩ := h
  refine ⟨_, (pss_cons (ps_par3 (i := 1) (j := 2) (l := 3) (by rfl) sc__law_paths.nd rfl rfl rfl (by decide) (by decide) (by decide) rfl rfl rfl (pa_cons (pe_lst pa_nil) (pa_cons (pe_lst pa_nil) (pa_cons (pe_lst (pa_cons (pe_tup (pa_cons pe_str (pa_cons (pv 0) pa_nil))) pa_nil)) pa_nil))) (by rfl))
    (pss_cons (ps_while PassesOwn.never (pt_cmpR (op_neL hr.units0) (pv 3) (pe_lst pa_nil) (nomark _))
      (pss_cons (ps_asg (pe_bm0 PySem.F.plainAttrs_list PySem.F.slot_list_pop PySem.F.type_list_pop mt_pop (pv 3)) (pg_tup rfl (pgs_cons (pg_name (i := 4) sc__law_paths.nd rfl (.inl rfl)) (pgs_cons (pg_name (i := 5) sc__law_paths.nd rfl (.inl rfl)) pgs_nil))))
    (pss_one (ps_if (pt_cmpR op_isN (pv 5) pe_non (nomark _))
      (pss_one (ps_expr (pe_bm PySem.F.plainAttrs_list PySem.F.slot_list_append PySem.F.type_list_append mt_append (pv 2) (pa_cons (pv 4) pa_nil)))) (pss_cons (ps_expr (pe_bm PySem.F.plainAttrs_list PySem.F.slot_list_append PySem.F.type_list_append mt_append (pv 1) (pa_cons (pv 4) pa_nil)))
    (pss_one (ps_expr (pe_bm PySem.F.plainAttrs_list PySem.F.slot_list_extend PySem.F.type_list_extend mt_extend (pv 3) (pa_cons (pe_lst (pa_cons (pe_tup (pa_cons (pe_op op_add_str (pv 4) pe_str) (pa_cons (pe_ix ix_tup (pv 5) pe_int (fun _ _ => rfl)) pa_nil))) (pa_cons (pe_tup (pa_cons (pe_op op_add_str (pv 4) pe_str) (pa_cons (pe_ix ix_tup (pv 5) pe_int (fun _ _ => rfl)) pa_nil))) pa_nil))) pa_nil)))))))))
    (pss_one (ps_ret (pe_tup (pa_cons (pv 1) (pa_cons (pv 2) pa_nil))))))), ?_⟩
  have z0 : 0 ≤ sizeLine := by decide
  have z1 : 1 ≤ sizeLine := by decide
  have z2 : 2 ≤ sizeLine := by decide
  refine ⟨z0, fun A nA => ⟨z0, fun B' nB => ⟨_, rfl, z2, fun tp ntp => ⟨z1, fun W nW => ⟨_, _, _, rfl, ?_⟩⟩⟩⟩⟩
  have k1 := same_new nA (.lst [])
  have k2 := same_new nB (.lst [])
  have k3 := same_new ntp (.tup [.str "", v])
  have k4 := same_new nW (.lst [.ref tp])
  have eA := k4 _ _ (k3 _ _ (k2 _ _ (upd_same (H := H) (a := A) (o := .lst []))))
  have eB := k4 _ _ (k3 _ _ (upd_same (H := upd H A (.lst [])) (a := B') (o := .lst [])))
  have et := k4 _ _ (upd_same (H := upd (upd H A (.lst [])) B' (.lst [])) (a := tp) (o := .tup [.str "", v]))
  have eW := upd_same (H := upd (upd (upd H A (.lst [])) B' (.lst [])) tp (.tup [.str "", v])) (a := W) (o := .lst [.ref tp])
  have nAB : A ≠ B' := fun z => by rw [← z, upd_same] at nB; cases nB
  have nAW : A ≠ W := fun z => by rw [← z, k3 _ _ (k2 _ _ upd_same)] at nW; cases nW
  have nBW : B' ≠ W := fun z => by rw [← z, k3 _ _ upd_same] at nW; cases nW
  have s4 := k1.trans (k2.trans (k3.trans k4))
  have fB : H B' = none := by
    cases e : H B' with
    | none => rfl
    | some o => rw [k1 _ _ e] at nB; cases nB
  have fW : H W = none := by
    cases e : H W with
    | none => rfl
    | some o => rw [k3 _ _ (k2 _ _ (k1 _ _ e))] at nW; cases nW
  have ht4 := ht.same s4
  generalize upd (upd (upd (upd H A (.lst [])) B' (.lst [])) tp (.tup [.str "", v])) W (.lst [.ref tp]) = H4 at eA eB et eW s4 ht4 ⊢
  rw [← px_nil] at et
  refine while_by (PaI H t v A B' W) (fun σ H' => 100 - lenAt σ 1 H' - lenAt σ 2 H') ?_ (fun σ H' hp => ?_) ?_
  · exact ⟨[.ref tp], [([], t)], [], [], none, none, rfl, s4, eA, eB, eW, .cons et ht4 .nil, by simp [ndsS], by simp [opsS]⟩
  · obtain ⟨ws, ss, N, O, y4, y5, rfl, sm, hA, hB, hW, hw, hN, hO⟩ := hp
    refine ⟨_, rfl, z0, fun el ne => ?_⟩
    have k5 := same_new ne (.lst [])
    refine ⟨W, el, _, rfl, rfl, SqL.of (k5 _ _ hW), SqL.of upd_same, _, rfl, ?_⟩
    have lN : N.length ≤ 12 := by
      have := congrArg List.length hN
      rw [B.nds_len, List.length_append] at this
      omega
    have lO : O.length ≤ 13 := by
      have := congrArg List.length hO
      rw [B.ops_len, List.length_append] at this
      omega
    have m0 : lenAt [some v, some (V.ref A), some (.ref B'), some (.ref W), y4, y5] 1 H' = N.length := by rw [lenAt_of rfl hA, List.length_map]
    have m1 : lenAt [some v, some (V.ref A), some (.ref B'), some (.ref W), y4, y5] 2 H' = O.length := by rw [lenAt_of rfl hB, List.length_map]
    have sm := sm.trans k5
    have hA := k5 _ _ hA
    have hB := k5 _ _ hB
    have hW := k5 _ _ hW
    have hw := hw.keep (Tw.Same.keepT k5)
    rw [m0, m1]
    generalize upd H' el (.lst []) = H5 at sm hA hB hW hw ⊢
    cases ws with
    | nil =>
      cases hw
      rw [show ndsS [] = [] from rfl, List.append_nil] at hN
      rw [show opsS [] = [] from rfl, List.append_nil] at hO
      rw [hN] at hA
      rw [hO] at hB
      refine iteF ⟨_, rfl, _, rfl, z2, fun r nr => ?_⟩
      have k6 := same_new nr (.tup [.ref A, .ref B'])
      refine q r A B' _ (sm.trans k6) ?_ nA fB upd_same (k6 _ _ hA) (k6 _ _ hB)
      cases e : H r with
      | none => rfl
      | some o => rw [sm _ _ e] at nr; cases nr
    | cons w0 ws0 =>
      refine iteT ?_
      obtain ⟨a, qq, vv, tt, ts, e1, rfl, e3, e4, e5⟩ := hw.last (by simp)
      refine ⟨.ref W, rfl, .inl ⟨rfl, _, SqL.of hW⟩, W, _, _, rfl, rfl, hW, e1, ?_⟩
      have sm6 : Same H (upd H5 W (.lst (w0 :: ws0).dropLast)) := fun b o z => by
        rw [upd_ne (ne_of_none z fW)]
        exact sm _ _ z
      have kt : KeepT H5 (upd H5 W (.lst (w0 :: ws0).dropLast)) := fun b xs z => by
        rw [upd_ne (ne_of z hW (by intro z; cases z))]
        exact z
      have hA6 : (upd H5 W (.lst (w0 :: ws0).dropLast)) A = _ := (upd_ne nAW).trans hA
      have hB6 : (upd H5 W (.lst (w0 :: ws0).dropLast)) B' = _ := (upd_ne nBW).trans hB
      have hW6 : (upd H5 W (.lst (w0 :: ws0).dropLast)) W = _ := upd_same
      have e3 := kt _ _ e3
      have e4 := e4.keep kt
      have e5 := e5.keep kt
      generalize upd H5 W (.lst (w0 :: ws0).dropLast) = H6 at sm6 hA6 hB6 hW6 e3 e4 e5 ⊢
      generalize (w0 :: ws0).dropLast = W0 at hW6 e5
      rw [ndsS_snoc] at hN
      rw [opsS_snoc] at hO
      refine ⟨a, _, rfl, SqT.of e3, rfl, _, _, rfl, _, _, rfl, rfl, ?_⟩
      rcases e4.inv with ⟨rfl, rfl⟩ | ⟨b, vl, vr, x, tl, tr, rfl, rfl, eb, hl, hr'⟩
      · refine ⟨_, rfl, rfl, _, rfl, iteT ?_⟩
        refine ⟨_, rfl, .inl ⟨rfl, _, SqL.of hB6⟩, _, rfl, B', _, _, rfl, rfl, hB6, by rw [List.length_map]; exact small1000 (by omega), ?_⟩
        have kt7 : KeepT H6 (upd H6 B' (.lst (List.map (fun p => V.str (px p)) O ++ [V.str (px qq)]))) := fun b xs z => by
          rw [upd_ne (ne_of z hB6 (by intro z; cases z))]
          exact z
        have sm7 : Same H (upd H6 B' (.lst (List.map (fun p => V.str (px p)) O ++ [V.str (px qq)]))) := fun b o z => by
          rw [upd_ne (ne_of_none z fB)]
          exact sm6 _ _ z
        have hA7 := (upd_ne (o := .lst (List.map (fun p => V.str (px p)) O ++ [V.str (px qq)])) nAB).trans hA6
        have hW7 := (upd_ne (o := .lst (List.map (fun p => V.str (px p)) O ++ [V.str (px qq)])) (Ne.symm nBW)).trans hW6
        have hB7 : (upd H6 B' (.lst (List.map (fun p => V.str (px p)) O ++ [V.str (px qq)]))) B' = some (.lst ((O ++ [qq]).map fun p => V.str (px p))) := by rw [upd_same, List.map_append]; rfl
        refine ⟨⟨W0, ts, N, O ++ [qq], _, _, rfl, sm7, hA7, hB7, hW7, e5.keep kt7, hN, ?_⟩, ?_⟩
        · rw [List.append_assoc]; exact hO
        · rw [lenAt_of rfl hA7, lenAt_of rfl hB7, List.length_map, List.length_map, List.length_append]
          show 100 - N.length - (O.length + 1) < _
          omega
      · refine ⟨_, rfl, rfl, _, rfl, iteF ?_⟩
        refine ⟨_, rfl, .inl ⟨rfl, _, SqL.of hA6⟩, _, rfl, A, _, _, rfl, rfl, hA6, by rw [List.length_map]; exact small1000 (by omega), ?_⟩
        have kt7 : KeepT H6 (upd H6 A (.lst (List.map (fun p => V.str (px p)) N ++ [V.str (px qq)]))) := fun b xs z => by
          rw [upd_ne (ne_of z hA6 (by intro z; cases z))]
          exact z
        have sm7 : Same H (upd H6 A (.lst (List.map (fun p => V.str (px p)) N ++ [V.str (px qq)]))) := fun b o z => by
          rw [upd_ne (ne_of_none z nA)]
          exact sm6 _ _ z
        have hB7 := (upd_ne (o := .lst (List.map (fun p => V.str (px p)) N ++ [V.str (px qq)])) nAB.symm).trans hB6
        have hW7 := (upd_ne (o := .lst (List.map (fun p => V.str (px p)) N ++ [V.str (px qq)])) nAW.symm).trans hW6
        have hA7 : (upd H6 A (.lst (List.map (fun p => V.str (px p)) N ++ [V.str (px qq)]))) A = some (.lst ((N ++ [qq]).map fun p => V.str (px p))) := by rw [upd_same, List.map_append]; rfl
        have eb := kt7 _ _ eb
        have hl := hl.keep kt7
        have hr' := hr'.keep kt7
        have e5 := e5.keep kt7
        generalize upd H6 A (.lst (List.map (fun p => V.str (px p)) N ++ [V.str (px qq)])) = H7 at sm7 hB7 hW7 hA7 eb hl hr' e5 ⊢
        have hq : qq.length ≤ 12 := by
          have hm : qq ∈ t.nds [] := by rw [← hN]; exact List.mem_append_right _ (List.mem_append_left _ List.mem_cons_self)
          obtain ⟨u, hu, _⟩ := B.nds_at.mp hm
          have := t.at_size qq hu
          omega
        have cr : px qq ++ Str.ofString "r" = px (qq ++ [true]) := by rw [str_r]; exact px_snoc qq true
        have cl : px qq ++ Str.ofString "l" = px (qq ++ [false]) := by rw [str_l]; exact px_snoc qq false
        have cl1 : (px qq).length + (Str.ofString "r").length ≤ sizeLine := small (by rw [px_len, str_r, tx_len]; show _ + 1 ≤ 1000; omega)
        have cl2 : (px qq).length + (Str.ofString "l").length ≤ sizeLine := small (by rw [px_len, str_l, tx_len]; show _ + 1 ≤ 1000; omega)
        refine ⟨_, rfl, .inl ⟨rfl, _, SqL.of hW7⟩, _, rfl, _, _, rfl, rfl, cl1, _, rfl, b, _, 2, vr, rfl, rfl, SqT.of eb, atI_nat (j := 2) rfl, z2, fun t1 n1 => ?_⟩
        have k8 := same_new n1 (.tup [.str (px qq ++ Str.ofString "r"), vr])
        refine ⟨_, rfl, _, _, rfl, rfl, cl2, _, rfl, b, _, 0, vl, rfl, rfl, SqT.of (k8 _ _ eb), atI_nat (j := 0) rfl, z2, fun t2 n2 => ⟨z2, fun L nL => ?_⟩⟩
        have k9 := same_new n2 (.tup [.str (px qq ++ Str.ofString "l"), vl])
        have k10 := same_new nL (.lst [.ref t1, .ref t2])
        have kk := k8.trans (k9.trans k10)
        have f1 := k10 _ _ (k9 _ _ (upd_same (H := H7) (a := t1) (o := .tup [.str (px qq ++ Str.ofString "r"), vr])))
        have f2 := k10 _ _ (upd_same (H := upd H7 t1 (.tup [.str (px qq ++ Str.ofString "r"), vr])) (a := t2) (o := .tup [.str (px qq ++ Str.ofString "l"), vl]))
        have f3 := upd_same (H := upd (upd H7 t1 (.tup [.str (px qq ++ Str.ofString "r"), vr])) t2 (.tup [.str (px qq ++ Str.ofString "l"), vl])) (a := L) (o := .lst [.ref t1, .ref t2])
        generalize upd (upd (upd H7 t1 (.tup [.str (px qq ++ Str.ofString "r"), vr])) t2 (.tup [.str (px qq ++ Str.ofString "l"), vl])) L (.lst [.ref t1, .ref t2]) = H8 at kk f1 f2 f3 ⊢
        rw [cr] at f1
        rw [cl] at f2
        have hw8 : WtAt H8 (W0 ++ [.ref t1, .ref t2]) (ts ++ [(qq ++ [true], tr), (qq ++ [false], tl)]) := (e5.keep (Tw.Same.keepT kk)).app (.cons f1 (hr'.same kk) (.cons f2 (hl.same kk) .nil))
        have lW : W0.length ≤ 900 := by
          have h1 := e5.len
          have h2 := ndsO ts
          have h3 := congrArg List.length hO
          rw [B.ops_len, List.length_append, List.length_append] at h3
          omega
        refine ⟨W, L, _, _, rfl, rfl, kk _ _ hW7, f3, small (by show W0.length + 2 ≤ 1000; omega), ?_⟩
        have kt9 : KeepT H8 (upd H8 W (.lst (W0 ++ [.ref t1, .ref t2]))) := fun b xs z => by
          rw [upd_ne (ne_of z (kk _ _ hW7) (by intro z; cases z))]
          exact z
        have sm9 : Same H (upd H8 W (.lst (W0 ++ [.ref t1, .ref t2]))) := fun b o z => by
          rw [upd_ne (ne_of_none z fW)]
          exact kk _ _ (sm7 _ _ z)
        have hA9 := (upd_ne (o := .lst (W0 ++ [.ref t1, .ref t2])) nAW).trans (kk _ _ hA7)
        have hB9 := (upd_ne (o := .lst (W0 ++ [.ref t1, .ref t2])) nBW).trans (kk _ _ hB7)
        refine ⟨⟨W0 ++ [.ref t1, .ref t2], ts ++ [(qq ++ [true], tr), (qq ++ [false], tl)], N ++ [qq], O, _, _, rfl, sm9, hA9, hB9, upd_same, hw8.keep kt9, ?_, ?_⟩, ?_⟩
        · rw [show ts ++ [(qq ++ [true], tr), (qq ++ [false], tl)] = (ts ++ [(qq ++ [true], tr)]) ++ [(qq ++ [false], tl)] by rw [List.append_assoc]; rfl, ndsS_snoc, ndsS_snoc, List.append_assoc, ← hN, ← List.append_assoc (tl.nds _)]
          rfl
        · rw [show ts ++ [(qq ++ [true], tr), (qq ++ [false], tl)] = (ts ++ [(qq ++ [true], tr)]) ++ [(qq ++ [false], tl)] by rw [List.append_assoc]; rfl, opsS_snoc, opsS_snoc, ← hO, ← List.append_assoc (tl.ops _)]
          rfl
        · rw [lenAt_of rfl hA9, lenAt_of rfl hB9, List.length_map, List.length_map, List.length_append]
          show 100 - (N.length + 1) - O.length < _
          omega
  · intro σ H' Q1 Q2 hQ h
    obtain ⟨v', e, l0, h⟩ := h
    exact ⟨v', e, l0, fun el ne => by
      obtain ⟨a, b, xs, e1, e2, h1, h2, k, e3, h⟩ := h el ne
      exact ⟨a, b, xs, e1, e2, h1, h2, k, e3, hQ _ _ h⟩⟩
end
/-! ### sorted(xs), xs a list of (int, text) -/
section
variable {X : Cx}
def shIT : Nat → Bool := fun i => i == 1
def rSortIT (K : PySem.W.Frag) : List V → Hp → VK → Prop := fun vs H Q => ∃ (a : Addr) (xs : List V), vs = [V.ref a] ∧ SqL K H a xs ∧ (∀ x ∈ xs, ∃ (t : Addr) (i : Int) (k : Str), x = .ref t ∧ H t = some (.tup [.int i, .str k])) ∧
  ∀ (ys : List V) (p : Addr), ys.Perm xs → H p = none → Q (.ref p) (upd H p (.lst ys))
theorem tups_of {h : Heap} {shape : Nat → Bool} : ∀ {vs : List Value}, (∀ v ∈ vs, ∃ f, PyProof.Rows.TupOf h shape v f) → ∃ fs, PyProof.Rows.TupsOf h shape vs fs
  | [], _ => ⟨[], .nil⟩
  | v :: vs, H => by
    obtain ⟨f, hf⟩ := H v List.mem_cons_self
    obtain ⟨fs, hfs⟩ := tups_of (vs := vs) fun u hu => H u (List.mem_cons_of_mem _ hu)
    exact ⟨f :: fs, .cons hf hfs⟩
theorem cr_sortIT : CallR X (.builtin "sorted") (rSortIT X.K) := by
  intro pins s σ H vs us Q I r h
  obtain ⟨a, xs, rfl, hs, hx, q⟩ := h
  obtain ⟨its, rv, hl, hz⟩ := I.list hs
  obtain ⟨u, rfl, ru⟩ := vals1 r
  obtain rfl : u = Value.ref a := ru
  obtain ⟨e1, e2⟩ := refs_back rv fun x m => by
    obtain ⟨t, _, _, e, _⟩ := hx x m
    exact ⟨t, e⟩
  have raw : ∀ v ∈ its, ∃ (t : Addr) (o : Obj) (i : Int) (k : Str) (t1 t2 : Tok) (n : Nat), v = .ref t ∧ s.heap.get? t = some o ∧ o.cls = .type "tuple" ∧ o.data = .seq #[.int i t1, .str k t2] n := fun v hv => by
    obtain ⟨t, rfl⟩ := e2 v hv
    have hm : V.ref t ∈ xs := by rw [e1]; exact List.mem_map.mpr ⟨_, hv, rfl⟩
    obtain ⟨t', i, k, e, ht⟩ := hx _ hm
    cases e
    obtain ⟨_, its2, r2, o, ho, hc, n, hd⟩ := I.hok _ _ ht
    obtain ⟨u1, u2, rfl, ri, rj⟩ := vals2 r2
    obtain ⟨t1, rfl⟩ := ri
    obtain ⟨t2, rfl⟩ := rj
    exact ⟨t, o, i, k, t1, t2, n, rfl, ho, hc, hd⟩
  obtain ⟨fs, hfs⟩ := tups_of (h := s.heap) (shape := shIT) (vs := its) fun v hv => by
    obtain ⟨t, o, i, k, t1, t2, n, rfl, ho, hc, hd⟩ := raw v hv
    exact ⟨.int i t1, t, o, _, n, rfl, ho, hc, hd, rfl, fun _ => ⟨i, t1, rfl⟩, (fun e => absurd e (by decide))⟩
  refine PyProof.Rows.G.sorted_tups (shape := shIT) hl.isList hfs (fun v hv => ?_) (by rw [← rv.length]; exact hz) fun st' hp _ _ => ?_
  · obtain ⟨t, o, i, k, t1, t2, n, rfl, ho, hc, hd⟩ := raw v hv
    exact ⟨[Sum.inl i, Sum.inr k.cps.toList], PyProof.Rows.G.tupKeyC_of ho hc hd rfl⟩
  · generalize hout : (arrOf st').map (·.2) = out
    have hp' : out.toList.Perm its := by
      rw [← hout, Array.toList_map]
      have e := (Array.perm_iff_toList_perm.mp hp).map Prod.snd
      rw [pairsOf_toList, List.map_snd_zip (Nat.le_refl _)] at e
      exact e
    have h3 : ∀ u ∈ out.toList, ∃ a, u = Value.ref a := fun u hu => e2 u (hp'.mem_iff.mp hu)
    obtain ⟨ep, he'⟩ := PyProof.Rows.sortedAll_at s.heap its out
    have hpp : (out.toList.map backV).Perm xs := by rw [e1]; exact hp'.map backV
    have hlen : (out.toList.map backV).length ≤ sizeLine := by rw [hpp.length_eq]; exact hz
    exact ⟨.ref _, upd H (s.heap.objs.size + 1) (.lst (out.toList.map backV)), I.laid (t' := s.toks) (fun _ _ => PyProof.Rows.sortedAll_old) (Nat.le_succ _) ⟨hlen, out.toList, ep, vals_back h3, he'⟩, rfl, q _ _ hpp (I.hok.fresh (Nat.le_succ _))⟩
end
theorem B.at_snoc : ∀ (t : B) (q : List Bool) (b : Bool) {u : B}, t.at q = some u → t.at (q ++ [b]) = u.at [b]
  | t, [], b, u, h => by cases t <;> (cases h; rfl)
  | .nil, _ :: _, _, _, h => by cases h
  | .node l x r, false :: q, b, u, h => l.at_snoc q b (show l.at q = some u from h)
  | .node l x r, true :: q, b, u, h => r.at_snoc q b (show r.at q = some u from h)
def spSpot : Sp := fun vs H Q _ => ∃ (v : V) (t : B) (c : Nat), vs = [v, .str (ch c)] ∧ BAt H v t ∧ t.size ≤ 30 ∧ ∀ (p : List Bool) (H' : Hp), Same H H' → t.at p = some .nil → Q (.str (px p)) H'
def spSTree : Sp := fun vs H Q _ => ∃ (s : Addr) (n m : Nat), vs = [.ref s, .int (m : Int)] ∧ Strm H s n ∧ n ≤ 900000 ∧ m ≤ 12 ∧ ∀ (v : V) (t : B) (n' : Nat) (H' : Hp), BAt H' v t → t.size = m → t.lts → Strm H' s n' → n' ≤ n + m → But s H H' → Q v H'
theorem lts_one {c : Nat} (h : isLow c = true) : (B.node .nil c .nil).lts := B.lts_node.mpr ⟨h, B.lts_nil, B.lts_nil⟩
theorem alph_mem : ∀ c ∈ alph, isLow c = true := by decide +kernel
theorem lts_of_mem {l : List Nat} (h : ∀ c ∈ l, isLow c = true) {i c : Nat} (e : l[i]? = some c) : isLow c = true := h c (List.mem_of_getElem? e)
def stLen (σ : L2.St) : Nat := match σ[2]? with
  | some (some (V.str x)) => 200 - x.length
  | _ => 0
section
variable {P : Program} {w : World} {K : PySem.W.Frag} {mg : Str → Option Value} {base : Heap} {f : Addr} {fd : FuncData}
theorem ok_spot1 {k : Nat} (F : Fun K "_law_spot" "_law_spot" s__law_spot f fd) : FnOk P w K mg base CX0 (k + 1) f fd ["_law_tree_here", "_law_letter_here"] spSpot := by
  refine F.ok sc__law_spot (fun vs H Q E h => ?_) (fun cdv A outer s H vs Q E hr h => ?_)
  · obtain ⟨v, t, c, rfl, _⟩ := h
    rfl
  obtain ⟨v, t, c, rfl, ht, hz, q⟩ := h
  refine ⟨_, (pss_cons (ps_set (i := 2) sc__law_spot.nd rfl (.inl rfl) pe_str)
    (pss_cons (ps_while PassesOwn.never (pt_cmpR op_notN (pv 0) pe_non (nomark _))
      (pss_one (ps_asg (pe_ifExp (pt_cmpR op_lt_str (pv 1) (pe_ix ix_tup (pv 0) pe_int (fun _ _ => rfl)) (nomark _)) (pe_tup (pa_cons (pe_op op_add_str (pv 2) pe_str) (pa_cons (pe_ix ix_tup (pv 0) pe_int (fun _ _ => rfl)) pa_nil))) (pe_tup (pa_cons (pe_op op_add_str (pv 2) pe_str) (pa_cons (pe_ix ix_tup (pv 0) pe_int (fun _ _ => rfl)) pa_nil)))) (pg_tup rfl (pgs_cons (pg_name (i := 2) sc__law_spot.nd rfl (.inl rfl)) (pgs_cons (pg_name (i := 0) sc__law_spot.nd rfl (.inl rfl)) pgs_nil))))))
    (pss_one (ps_ret (pv 2))))), ?_⟩
  refine while_by (fun σ H' => ∃ (p : List Bool) (vi : V) (ti : B), σ = [some vi, some (.str (ch c)), some (.str (px p))] ∧ Same H H' ∧ BAt H' vi ti ∧ t.at p = some ti) (fun σ _ => stLen σ) ⟨[], v, t, by rw [px_nil]; rfl, Same.refl H, ht, by cases t <;> rfl⟩ (fun σ H' hp => ?_) ?_
  · obtain ⟨p, vi, ti, rfl, sm, hi, ei⟩ := hp
    have hsz := t.at_size p ei
    rcases hi.inv with ⟨rfl, rfl⟩ | ⟨b, vl, vr, x, tl, tr, rfl, rfl, eb, hl, hr'⟩
    · exact ⟨_, rfl, rfl, _, rfl, iteF ⟨_, rfl, q p H' sm ei⟩⟩
    have cl : px p ++ Str.ofString "l" = px (p ++ [false]) := by rw [str_l]; exact px_snoc p false
    have cr : px p ++ Str.ofString "r" = px (p ++ [true]) := by rw [str_r]; exact px_snoc p true
    have cl1 : (px p).length + (Str.ofString "r").length ≤ sizeLine := small (by rw [px_len, str_r, tx_len]; show _ + 1 ≤ 1000; omega)
    have cl2 : (px p).length + (Str.ofString "l").length ≤ sizeLine := small (by rw [px_len, str_l, tx_len]; show _ + 1 ≤ 1000; omega)
    have ms : ∀ (d : Bool) (y : Option V), stLen [y, some (.str (ch c)), some (.str (px (p ++ [d])))] < stLen [some (.ref b), some (.str (ch c)), some (.str (px p))] := fun b y => by
      show 200 - (px (p ++ [_])).length < 200 - (px p).length
      rw [px_len, px_len, List.length_append]
      show 200 - (p.length + 1) < _
      omega
    refine ⟨_, rfl, rfl, _, rfl, iteT ?_⟩
    refine ⟨_, rfl, _, rfl, b, _, 1, _, rfl, rfl, SqT.of eb, atI_nat (j := 1) rfl, _, _, rfl, rfl, _, rfl, ite2 (fun _ => ?_) (fun _ => ?_)⟩
    · refine ⟨_, rfl, _, _, rfl, rfl, cl2, _, rfl, b, _, 0, vl, rfl, rfl, SqT.of eb, atI_nat (j := 0) rfl, (by show 2 ≤ sizeLine; decide), fun r nr => ?_⟩
      have k2 := same_new nr (.tup [.str (px p ++ Str.ofString "l"), vl])
      refine ⟨r, _, rfl, SqT.of upd_same, rfl, _, _, rfl, _, _, rfl, rfl, ?_⟩
      refine ⟨⟨p ++ [false], vl, tl, by rw [← cl]; rfl, sm.trans k2, hl.same k2, (t.at_snoc p false ei).trans (by cases tl <;> rfl)⟩, ?_⟩
      have := ms false (some vl)
      rw [← cl] at this
      exact this
    · refine ⟨_, rfl, _, _, rfl, rfl, cl1, _, rfl, b, _, 2, vr, rfl, rfl, SqT.of eb, atI_nat (j := 2) rfl, (by show 2 ≤ sizeLine; decide), fun r nr => ?_⟩
      have k2 := same_new nr (.tup [.str (px p ++ Str.ofString "r"), vr])
      refine ⟨r, _, rfl, SqT.of upd_same, rfl, _, _, rfl, _, _, rfl, rfl, ?_⟩
      refine ⟨⟨p ++ [true], vr, tr, by rw [← cr]; rfl, sm.trans k2, hr'.same k2, (t.at_snoc p true ei).trans (by cases tr <;> rfl)⟩, ?_⟩
      have := ms true (some vr)
      rw [← cr] at this
      exact this
  · intro σ H' Q1 Q2 hQ h
    obtain ⟨v', e, h1, k, e2, h⟩ := h
    exact ⟨v', e, h1, k, e2, hQ _ _ h⟩
theorem ok_sortedTree (F : Fun K "_law_sorted_tree" "_law_sorted_tree" s__law_sorted_tree f fd) (M : Mgs mg) (D_law_take : Df P w K mg base 1 "_law_take" ["_law_stream_here", "_law_many"] spTake1) (D_law_spot : Df P w K mg base 1 "_law_spot" ["_law_tree_here", "_law_letter_here"] spSpot) (D_law_grafted : Df P w K mg base 20 "_law_grafted" ["_law_tree_here", "_law_path", "_law_part_here"] (spWith 20)) :
    FnOk P w K mg base CX0 21 f fd ["_law_stream_here", "_law_size"] spSTree := by
  refine F.ok (k := 20) sc__law_sorted_tree (fun vs H Q E h => ?_) (fun cdv A outer s H vs Q E hr h => ?_)
  · obtain ⟨sa, n, m, rfl, _⟩ := h
    rfl
  obtain ⟨sa, n, m, rfl, h, hn, hm, q⟩ := h
  refine ⟨_, (pss_cons (ps_par (i := 2) (j := 3) (by rfl) sc__law_sorted_tree.nd rfl rfl (by decide) rfl rfl (pa_cons pe_non (pa_cons (pe_callTy (call_signs rfl) rfl M.list (by decide +kernel) (pa_cons pe_str pa_nil)) pa_nil)) (by rfl))
    (pss_cons (ps_for PassesOwn.never rfl (pi_range1 rfl M.range (pa_cons (pv 1) pa_nil)) (pg_name (i := 4) sc__law_sorted_tree.nd rfl (.inl rfl))
      (pss_cons (ps_set (i := 5) sc__law_sorted_tree.nd rfl (.inl rfl) (pe_bm PySem.F.plainAttrs_list PySem.F.slot_list_pop PySem.F.type_list_pop mt_popAt (pv 3) (pa_cons (pe_call D_law_take.ok (hr.mono (by omega)) rfl D_law_take.g D_law_take.kp D_law_take.b .nil pass0 (pa_cons (pv 0) (pa_cons (pe_callB call_len_seq rfl M.len PySem.boot_len (pa_cons (pv 3) pa_nil)) pa_nil))) pa_nil)))
    (pss_one (ps_set (i := 2) sc__law_sorted_tree.nd rfl (.inl rfl) (pe_call D_law_grafted.ok (hr.mono (by omega)) rfl D_law_grafted.g D_law_grafted.kp D_law_grafted.b .nil pass0 (pa_cons (pv 2) (pa_cons (pe_call D_law_spot.ok (hr.mono (by omega)) rfl D_law_spot.g D_law_spot.kp D_law_spot.b .nil pass0 (pa_cons (pv 2) (pa_cons (pv 5) pa_nil))) (pa_cons (pe_tup (pa_cons pe_non (pa_cons (pv 5) (pa_cons pe_non pa_nil)))) pa_nil))))))))
    (pss_one (ps_ret (pv 2))))), ?_⟩
  refine ⟨_, rfl, by decide +kernel, fun la nla => ?_⟩
  have k1 := same_new nla (.lst (alph.map vc))
  have h1 : Strm (upd H la (.lst (alph.map vc))) sa n := h.same k1
  have e1 : (upd H la (.lst (alph.map vc))) la = some (.lst (alph.map vc)) := upd_same
  have nls : la ≠ sa := fun z => by obtain ⟨xs, e⟩ := h.lst; rw [← z, nla] at e; cases e
  refine ⟨_, _, rfl, ?_⟩
  refine ⟨_, rfl, (m : Int), rfl, by omega, by omega, ?_⟩
  refine for_range (lo := 0) (n := m) (fun i σ H' => ∃ (vi : V) (ti : B) (n' : Nat) (ls : List Nat) (y4 y5 : Option V), σ = [some (.ref sa), some (.int (m : Int)), some vi, some (.ref la), y4, y5] ∧ BAt H' vi ti ∧ ti.size = i ∧ ti.lts ∧ Strm H' sa n' ∧ n' ≤ n + i ∧ H' la = some (.lst (ls.map vc)) ∧ ls.length = 26 - i ∧ (∀ c ∈ ls, isLow c = true) ∧ But sa H H')
    ⟨.non, .nil, n, alph, none, none, rfl, .nil, rfl, B.lts_nil, h1, by omega, e1, by decide +kernel, alph_mem, But.of k1⟩ (fun i σ H2 hi hp => ?_) (fun σ H2 hp => ?_)
  · obtain ⟨vi, ti, n', ls, y4, y5, rfl, b1, z1, l1, st1, hn1, e2, hl1, al, bu⟩ := hp
    refine ⟨_, rfl, .inl ⟨rfl, _, SqL.of e2⟩, _, rfl, _, rfl, la, _, rfl, .inl (SqL.of e2), sa, n', _, rfl, st1, by omega, by rw [List.length_map]; omega, by rw [List.length_map]; omega, fun j n2 H3 lj st3 hn2 bu3 => ?_⟩
    rw [List.length_map] at lj
    have lj' : j < ls.length := by omega
    have e3 := bu3 _ _ nls e2
    obtain ⟨xs0, es0⟩ := st1.lst
    have b3 := b1.keep (But.keepL es0 bu3)
    refine ⟨la, _, (j : Int), j, vc (ls[j]'lj'), rfl, rfl, e3, by omega, by omega, by rw [PyProof.Rows.seqIndex_at (by omega) (by rw [List.length_map]; omega)]; rfl, by rw [List.getElem?_map, List.getElem?_eq_getElem lj']; rfl, ?_⟩
    have hc := al _ (List.getElem_mem lj')
    generalize ls[j]'lj' = c at hc ⊢
    have e4 : (upd H3 la (.lst ((ls.map vc).eraseIdx j))) la = some (.lst ((ls.eraseIdx j).map vc)) := by rw [upd_same, erase_map]
    have bu4 : But sa H (upd H3 la (.lst ((ls.map vc).eraseIdx j))) := fun b o hb e => by
      rw [upd_ne (ne_of_none e nla)]
      exact bu3 _ _ hb (bu _ _ hb e)
    have b4 : BAt (upd H3 la (.lst ((ls.map vc).eraseIdx j))) vi ti := b3.keep fun b xs e => by
      rw [upd_ne (ne_of e e3 (by intro z; cases z))]
      exact e
    have st4 : Strm (upd H3 la (.lst ((ls.map vc).eraseIdx j))) sa n2 := by
      obtain ⟨r, c', er, cc⟩ := st3
      exact ⟨r, c', by rw [upd_ne nls.symm]; exact er, cc⟩
    generalize upd H3 la (.lst ((ls.map vc).eraseIdx j)) = H4 at e4 bu4 b4 st4 ⊢
    refine ⟨_, rfl, _, rfl, _, rfl, vi, ti, c, rfl, b4, by omega, fun p H5 s5 hp => ?_⟩
    have hpl := ti.at_size p hp
    refine ⟨_, rfl, (by show 3 ≤ sizeLine; decide), fun r nr => ?_⟩
    have k6 := same_new nr (.tup [.non, .str (ch c), .non])
    have b6 := b4.same (s5.trans k6)
    refine ⟨vi, .ref r, ti, .node .nil c .nil, p, rfl, b6, .node upd_same .nil .nil, by omega, by omega, by rw [hp]; rfl, fun v' H7 s7 b7 => ?_⟩
    have s47 := s5.trans (k6.trans s7)
    have zz := ti.put_size p (.node .nil c .nil) hp
    refine ⟨v', _, n2, ls.eraseIdx j, _, _, rfl, b7, ?_, ti.put_lts p l1 (lts_one hc), st4.same s47, by omega, s47 _ _ e4, ?_, fun d hd => al d (List.mem_of_mem_eraseIdx hd), bu4.trans (But.of s47)⟩
    · have e0 : (B.node .nil c .nil).size = 1 := rfl
      have e1 : B.nil.size = 0 := rfl
      omega
    · rw [List.length_eraseIdx_of_lt lj']
      omega
  · obtain ⟨vi, ti, n', ls, y4, y5, rfl, b1, z1, l1, st1, hn1, e2, hl1, al, bu⟩ := hp
    exact ⟨_, rfl, q vi ti n' H2 b1 z1 l1 st1 hn1 bu⟩
end
/-! ### the drawn tree -/
theorem at_any {xs : List V} {z : Int} (h1 : -(xs.length : Int) ≤ z) (h2 : z < xs.length) : ∃ x ∈ xs, atI xs z = some x := by
  unfold atI ixN
  by_cases h : 0 ≤ z
  · rw [if_pos h, if_pos (by omega)]
    refine ⟨xs[z.toNat]'(by omega), List.getElem_mem _, ?_⟩
    exact List.getElem?_eq_getElem _
  · rw [if_neg h, if_pos (by omega)]
    refine ⟨xs[(z + xs.length).toNat]'(by omega), List.getElem_mem _, ?_⟩
    exact List.getElem?_eq_getElem _
def spTreeL : Sp := fun vs H Q _ => ∃ (s : Addr) (n m : Nat), vs = [.ref s, .int (m : Int)] ∧ Strm H s n ∧ n ≤ 800000 ∧ 0 < m ∧ m ≤ 12 ∧ ∀ (v : V) (t : B) (n' : Nat) (H' : Hp), BAt H' v t → 1 ≤ t.size → t.size ≤ m → t.lts → Strm H' s n' → n' ≤ n + 200 → But s H H' → Q v H'
def OpAt (H : Hp) (t : B) (x : V) : Prop := ∃ (a : Addr) (q : List Bool), x = .ref a ∧ t.at q = some .nil ∧ H a = some (.tup [.int (q.length : Int), .str (px q)])
theorem OpAt.keep {H H' : Hp} (k : KeepT H H') {t : B} {x : V} (h : OpAt H t x) : OpAt H' t x := by
  obtain ⟨a, q, e, h1, h2⟩ := h
  exact ⟨a, q, e, h1, k _ _ h2⟩
section
variable {P : Program} {w : World} {K : PySem.W.Frag} {mg : Str → Option Value} {base : Heap} {f : Addr} {fd : FuncData}
theorem ok_treeL (F : Fun K "_law_tree" "_law_tree" s__law_tree f fd) (M : Mgs mg) (D_law_take : Df P w K mg base 1 "_law_take" ["_law_stream_here", "_law_many"] spTake1) (D_law_letter : Df P w K mg base 2 "_law_letter" ["_law_stream_here"] spLetter1) (D_law_sorted_tree : Df P w K mg base 21 "_law_sorted_tree" ["_law_stream_here", "_law_size"] spSTree) (D_law_paths : Df P w K mg base 1 "_law_paths" ["_law_tree_here"] spPaths) (D_law_grafted : Df P w K mg base 20 "_law_grafted" ["_law_tree_here", "_law_path", "_law_part_here"] (spWith 20)) :
    FnOk P w K mg base CX0 22 f fd ["_law_stream_here", "_law_top"] spTreeL := by
  refine F.ok (k := 21) sc__law_tree (fun vs H Q E h => ?_) (fun cdv A outer s H vs Q E hr h => ?_)
  · obtain ⟨sa, n, m, rfl, _⟩ := h
    rfl
  obtain ⟨sa, n, m, rfl, h, hn, m0, m1, q⟩ := h
  refine ⟨_, (pss_cons (ps_par3 (i := 2) (j := 3) (l := 4) (by rfl) sc__law_tree.nd rfl rfl rfl (by decide) (by decide) (by decide) rfl rfl rfl (pa_cons (pe_op op_add pe_int (pe_call D_law_take.ok (hr.mono (by omega)) rfl D_law_take.g D_law_take.kp D_law_take.b .nil pass0 (pa_cons (pv 0) (pa_cons (pv 1) pa_nil)))) (pa_cons (pe_call D_law_take.ok (hr.mono (by omega)) rfl D_law_take.g D_law_take.kp D_law_take.b .nil pass0 (pa_cons (pv 0) (pa_cons pe_int pa_nil))) (pa_cons pe_non pa_nil))) (by rfl))
    (pss_cons (ps_if (pt_cmpR op_eq (pv 3) pe_int (nomark _))
      (pss_one (ps_ret (pe_call D_law_sorted_tree.ok (hr.mono (by omega)) rfl D_law_sorted_tree.g D_law_sorted_tree.kp D_law_sorted_tree.b .nil pass0 (pa_cons (pv 0) (pa_cons (pv 2) pa_nil))))) pss_nil)
    (pss_cons (ps_for PassesOwn.never rfl (pi_range1 rfl M.range (pa_cons (pv 2) pa_nil)) (pg_name (i := 5) sc__law_tree.nd rfl (.inl rfl))
      (pss_cons (ps_set (i := 7) sc__law_tree.nd rfl (.inl rfl) (pe_callB cr_sortIT rfl M.sorted (by decide +kernel) (pa_cons (pe_lc (own := [("_law_path", 6)]) (g := gName 6) (tt := tYes) rfl sc__law_tree.nd (pi_list (pe_ix ix_tup (pe_call D_law_paths.ok (hr.mono (by omega)) rfl D_law_paths.g D_law_paths.kp D_law_paths.b .nil pass0 (pa_cons (pv 4) pa_nil)) pe_int (fun _ _ => rfl))) (blkOk_by (N := ["_law_stream_here", "_law_top", "_law_size", "_law_way", "_law_tree_here", "_law_k", "_law_path", "_law_opens", "_law_spot_here"]) (sc := defScope s__law_tree) (by decide +kernel)) (fun _ _ _ _ _ => (pg_name (i := 6) sc__law_tree.nd rfl (.inl rfl))) (fun _ _ _ _ _ => pts_nil) (fun _ _ _ _ _ => (pe_tup (pa_cons (pe_callB call_len_str rfl M.len PySem.boot_len (pa_cons (pv 6) pa_nil)) (pa_cons (pv 6) pa_nil))))) pa_nil)))
    (pss_cons (ps_set (i := 8) sc__law_tree.nd rfl (.inl rfl) (pe_ix ix_list (pe_lst (pa_cons (pe_call D_law_take.ok (hr.mono (by omega)) rfl D_law_take.g D_law_take.kp D_law_take.b .nil pass0 (pa_cons (pv 0) (pa_cons (pe_callB call_len_seq rfl M.len PySem.boot_len (pa_cons (pv 7) pa_nil)) pa_nil))) (pa_cons pe_int (pa_cons (pe_un un_neg pe_int) (pa_cons (pe_op op_sub (pe_un un_neg pe_int) (pe_call D_law_take.ok (hr.mono (by omega)) rfl D_law_take.g D_law_take.kp D_law_take.b .nil pass0 (pa_cons (pv 0) (pa_cons (pe_callB (call_min2 rfl) rfl M.min (by decide +kernel) (pa_cons pe_int (pa_cons (pe_callB call_len_seq rfl M.len PySem.boot_len (pa_cons (pv 7) pa_nil)) pa_nil))) pa_nil)))) pa_nil))))) (pv 3) (fun _ _ => rfl)))
    (pss_one (ps_set (i := 4) sc__law_tree.nd rfl (.inl rfl) (pe_call D_law_grafted.ok (hr.mono (by omega)) rfl D_law_grafted.g D_law_grafted.kp D_law_grafted.b .nil pass0 (pa_cons (pv 4) (pa_cons (pe_ix ix_tup (pe_ix ix_list (pv 7) (pv 8) (fun _ _ => rfl)) pe_int (fun _ _ => rfl)) (pa_cons (pe_tup (pa_cons pe_non (pa_cons (pe_call D_law_letter.ok (hr.mono (by omega)) rfl D_law_letter.g D_law_letter.kp D_law_letter.b .nil pass0 (pa_cons (pv 0) pa_nil)) (pa_cons pe_non pa_nil)))) pa_nil)))))))))
    (pss_one (ps_ret (pv 4)))))), ?_⟩
  refine ⟨_, rfl, _, rfl, sa, n, (m : Int), rfl, h, by omega, by omega, by omega, fun j n1 H1 l1 st1 hn1 bu1 => ?_⟩
  refine ⟨_, _, rfl, rfl, _, rfl, sa, n1, 5, rfl, st1, by omega, by decide, by decide, fun wy n2 H2 l2 st2 hn2 bu2 => ?_⟩
  have bu2 := bu1.trans bu2
  refine ⟨_, _, _, rfl, ?_⟩
  have hw : wy < 5 := by omega
  have hj : j < m := by omega
  refine ⟨_, rfl, rfl, _, rfl, ?_⟩
  by_cases h4 : wy = 4
  · subst h4
    refine iteT ⟨_, rfl, _, rfl, sa, n2, 1 + j, by rw [Int.natCast_add]; rfl, st2, by omega, by omega, fun v t n' H' b z l st hn' bu => ?_⟩
    exact q v t n' H' b (by omega) (by omega) l st (by omega) (bu2.trans bu)
  have e4 : decide (V.int (wy : Int) = V.int 4) = false := decide_eq_false fun z => h4 (by have := V.int.inj z; omega)
  rw [e4]
  refine iteF ?_
  refine ⟨_, rfl, (1 + (j : Int)), rfl, by omega, by omega, ?_⟩
  have es : (1 + (j : Int)) = ((1 + j : Nat) : Int) := by omega
  rw [es]
  refine for_range (lo := 0) (n := 1 + j) (fun i σ H' => ∃ (vi : V) (ti : B) (n' : Nat) (y5 y6 y7 y8 : Option V), σ = [some (.ref sa), some (.int (m : Int)), some (.int (1 + (j : Int))), some (.int (wy : Int)), some vi, y5, y6, y7, y8] ∧ BAt H' vi ti ∧ ti.size = i ∧ ti.lts ∧ Strm H' sa n' ∧ n' ≤ n2 + 4 * i ∧ But sa H2 H')
    ⟨.non, .nil, n2, none, none, none, none, rfl, .nil, rfl, B.lts_nil, st2, by omega, But.refl _ _⟩ (fun i' σ H3 hi hp => ?_) (fun σ H3 hp => ?_)
  · obtain ⟨vi, ti, n', y5, y6, y7, y8, rfl, b3, z3, l3, st3, hn3, bu3⟩ := hp
    refine ⟨_, rfl, vi, ti, rfl, b3, by omega, fun p A B' H4 s4 np nA nB ep eA eB => ?_⟩
    refine ⟨p, _, 1, _, rfl, rfl, SqT.of ep, atI_nat (j := 1) rfl, ?_⟩
    refine ⟨B', rfl, ⟨_, SqL.of eB⟩, fun D nD => ?_⟩
    have k5 := same_new nD (.lst [])
    refine lc_list (K := K) (a := B') (xs := (ti.ops []).map fun p => V.str (px p)) (fun i H' => Same H4 H' ∧ ∃ us, H' D = some (.lst us) ∧ us.length = i ∧ ∀ x ∈ us, OpAt H' ti x) ⟨k5, [], upd_same, rfl, fun x hx => nomatch hx⟩ (fun i H' _ hp => SqL.of (hp.1 _ _ eB)) (fun i x H' hx hp => ?_) (fun H' hp => ?_)
    · obtain ⟨sm, us, eu, lu, hu⟩ := hp
      obtain ⟨qq, hq, rfl⟩ : ∃ qq, (ti.ops [])[i]? = some qq ∧ V.str (px qq) = x := by
        rw [List.getElem?_map] at hx
        cases e : (ti.ops [])[i]? with
        | none => rw [e] at hx; cases hx
        | some qq => rw [e] at hx; exact ⟨qq, rfl, Option.some.inj hx⟩
      have hat := B.ops_at.mp (List.mem_of_getElem? hq)
      have hql := ti.at_size qq hat
      have hil := (List.getElem?_eq_some_iff.mp hq).1
      rw [B.ops_len] at hil
      refine ⟨rfl, kept ?_⟩
      refine ⟨_, rfl, px qq, rfl, small (by rw [px_len]; omega), _, rfl, (by show 2 ≤ sizeLine; decide), fun r nr => ?_⟩
      have k6 := same_new nr (.tup [.int ((px qq).length : Int), .str (px qq)])
      have ner : D ≠ r := fun z => by rw [← z, eu] at nr; cases nr
      have eu' := k6 _ _ eu
      have kt : KeepT H' (upd (upd H' r (.tup [.int ((px qq).length : Int), .str (px qq)])) D (.lst (us ++ [.ref r]))) := fun b xs z => by
        rw [upd_ne (ne_of (k6 _ _ z) eu' (by intro z; cases z))]
        exact k6 _ _ z
      refine ⟨us, eu', small1000 (by omega), fun b o z => ?_, us ++ [.ref r], upd_same, by rw [List.length_append, lu]; rfl, fun x hx => ?_⟩
      · rw [upd_ne (ne_of_none z nD)]
        exact k6 _ _ (sm _ _ z)
      · rcases List.mem_append.mp hx with hx | hx
        · exact (hu x hx).keep kt
        · rw [List.mem_singleton.mp hx]
          refine ⟨r, qq, rfl, hat, ?_⟩
          rw [upd_ne ner.symm, upd_same, px_len]
    · obtain ⟨sm, us, eu, lu, hu⟩ := hp
      refine ⟨D, us, rfl, SqL.of eu, fun x hx => ?_, fun ys so pm nso => ?_⟩
      · obtain ⟨a, qq, e, _, h⟩ := hu x hx
        exact ⟨a, _, _, e, h⟩
      have k7 := same_new nso (.lst ys)
      have eso := upd_same (H := H') (a := so) (o := .lst ys)
      have s37 := s4.trans (sm.trans k7)
      have hys : ∀ x ∈ ys, OpAt (upd H' so (.lst ys)) ti x := fun x hx => (hu x (pm.mem_iff.mp hx)).keep (Tw.Same.keepT k7)
      have lys : ys.length = i' + 1 := by rw [pm.length_eq, lu, List.length_map, B.ops_len, z3]
      have st7 := st3.same s37
      have b7 := b3.same s37
      have neS : so ≠ sa := fun z => by obtain ⟨xs, e⟩ := st3.lst; rw [z, (s4.trans sm) _ _ e] at nso; cases nso
      generalize upd H' so (.lst ys) = H7 at s37 eso hys st7 b7 ⊢
      refine ⟨_, rfl, _, rfl, so, _, rfl, .inl (SqL.of eso), sa, n', _, rfl, st7, by omega, by omega, by omega, fun j1 n8 H8 l8 st8 hn8 bu8 => ?_⟩
      have eso8 := bu8 _ _ neS eso
      refine ⟨_, rfl, _, rfl, _, rfl, _, rfl, so, _, rfl, .inl (SqL.of eso8), 2, _, rfl, ?_⟩
      have mn : ∃ mm : Int, (if (ys.length : Int) < 2 then (ys.length : Int) else 2) = mm ∧ 0 < mm ∧ mm ≤ 2 ∧ mm ≤ ys.length := by
        by_cases hc : (ys.length : Int) < 2
        · exact ⟨_, if_pos hc, by omega, by omega, by omega⟩
        · exact ⟨_, if_neg hc, by omega, by omega, by omega⟩
      obtain ⟨mm, emm, mm0, mm2, mml⟩ := mn
      rw [emm]
      refine ⟨sa, n8, mm, rfl, st8, by omega, mm0, by omega, fun j2 n9 H9 l9 st9 hn9 bu9 => ?_⟩
      refine ⟨_, _, rfl, rfl, (by show 4 ≤ sizeLine; decide), fun L nL => ?_⟩
      have kA := same_new nL (.lst [.int (j1 : Int), .int 0, .int (-1), .int (-1 - (j2 : Int))])
      have eL := upd_same (H := H9) (a := L) (o := .lst [.int (j1 : Int), .int 0, .int (-1), .int (-1 - (j2 : Int))])
      have esoA := kA _ _ (bu9 _ _ neS eso8)
      have buA := bu8.trans (bu9.trans (But.of kA))
      have stA := st9.same kA
      obtain ⟨xs7, es7⟩ := st7.lst
      have ktA : KeepT H7 (upd H9 L (.lst [.int (j1 : Int), .int 0, .int (-1), .int (-1 - (j2 : Int))])) := But.keepL es7 buA
      have bA := b7.keep ktA
      have hysA : ∀ x ∈ ys, OpAt (upd H9 L (.lst [.int (j1 : Int), .int 0, .int (-1), .int (-1 - (j2 : Int))])) ti x := fun x hx => (hys x hx).keep ktA
      generalize upd H9 L (.lst [.int (j1 : Int), .int 0, .int (-1), .int (-1 - (j2 : Int))]) = HA at eL esoA buA stA bA hysA ⊢
      have hv : ∃ z : Int, atI [V.int (j1 : Int), .int 0, .int (-1), .int (-1 - (j2 : Int))] (wy : Int) = some (.int z) ∧ -(ys.length : Int) ≤ z ∧ z < ys.length := by
        match wy, hw, h4 with
        | 0, _, _ => exact ⟨j1, rfl, by omega, by omega⟩
        | 1, _, _ => exact ⟨0, rfl, by omega, by omega⟩
        | 2, _, _ => exact ⟨-1, rfl, by omega, by omega⟩
        | 3, _, _ => exact ⟨-1 - (j2 : Int), rfl, by omega, by omega⟩
        | 4, _, h => exact absurd rfl h
      obtain ⟨z, hz, z1, z2⟩ := hv
      refine ⟨_, rfl, L, _, _, _, rfl, rfl, SqL.of eL, hz, ?_⟩
      obtain ⟨x, hx, ex⟩ := at_any z1 z2
      obtain ⟨ta, qq, rfl, hat, eta⟩ := hysA x hx
      have hql := ti.at_size qq hat
      refine ⟨_, rfl, _, rfl, _, rfl, so, _, z, _, rfl, rfl, SqL.of esoA, ex, ta, _, 1, _, rfl, rfl, SqT.of eta, atI_nat (j := 1) rfl, _, rfl, sa, n9, rfl, stA, by omega, fun c nB HB hlow stB hnB buB => ?_⟩
      refine ⟨(by show 3 ≤ sizeLine; decide), fun r nr => ?_⟩
      have kC := same_new nr (.tup [.non, .str (ch c), .non])
      obtain ⟨xsA, esA⟩ := stA.lst
      have bC := (bA.keep (But.keepL esA buB)).same kC
      refine ⟨vi, .ref r, ti, .node .nil c .nil, qq, rfl, bC, .node upd_same .nil .nil, by omega, by omega, by rw [hat]; rfl, fun v' HD sD bD => ?_⟩
      have zz := ti.put_size qq (.node .nil c .nil) hat
      have e0 : (B.node .nil c .nil).size = 1 := rfl
      have e1 : B.nil.size = 0 := rfl
      exact ⟨v', _, nB, _, _, _, _, rfl, bD, by omega, ti.put_lts qq l3 (lts_one hlow), (stB.same kC).same sD, by omega, bu3.trans ((But.of s37).trans (buA.trans (buB.trans ((But.of kC).trans (But.of sD)))))⟩
  · obtain ⟨vi, ti, n', y5, y6, y7, y8, rfl, b1, z1, l1, st1', hn1', bu⟩ := hp
    exact ⟨_, rfl, q vi ti n' H3 b1 (by omega) (by omega) l1 st1' (by omega) (bu2.trans bu)⟩
end
/-! ### what is due -/
theorem flat_px (L : List (List Bool)) : (L.map fun p => V.str (px p)).all flatV = true := by
  rw [List.all_eq_true]
  intro x hx
  obtain ⟨k, _, rfl⟩ := List.mem_map.mp hx
  rfl
theorem inV_px (p : List Bool) (L : List (List Bool)) : inV (V.str (px p)) (L.map fun p => V.str (px p)) = decide (p ∈ L) := by
  unfold inV
  by_cases h : p ∈ L
  · rw [decide_eq_true h, List.any_eq_true]
    exact ⟨V.str (px p), List.mem_map.mpr ⟨p, h, rfl⟩, by show eqV (.str _) (.str _) = true; simp [eqV]⟩
  · rw [decide_eq_false h, Bool.eq_false_iff]
    intro e
    obtain ⟨y, hy, e⟩ := List.any_eq_true.mp e
    obtain ⟨k, hk, rfl⟩ := List.mem_map.mp hy
    have e : eqV (.str (px k)) (.str (px p)) = true := e
    simp only [eqV, beq_iff_eq] at e
    exact h (px_inj e ▸ hk)
theorem Does.same {t t' u : B} {e : Ed} (h : Does t e t') (g : Does t e u) : u = t' := by
  cases h with
  | put h1 _ _ => cases g; rfl
  | cut h1 _ _ => cases g; rfl
  | label h1 _ =>
    cases g with
    | label g1 _ => rw [h1] at g1; cases g1; rfl
  | turn h1 _ =>
    cases g with
    | turn g1 _ => rw [h1] at g1; cases g1; rfl
/-- an edit as the law draws it -/
def Drawn (t : B) : Ed → Prop
  | .put p c => t.at p = some .nil ∧ isLow c = true
  | .cut p => ∃ u, t.at p = some u ∧ u ≠ .nil
  | .label p c => (∃ u, t.at p = some u ∧ u ≠ .nil) ∧ isLow c = true
  | .turn p => ∃ u, t.at p = some u ∧ u ≠ .nil
def DueAt (H : Hp) (t : B) (e : Ed) (p : Addr) : Prop := (∃ t' v', Does t e t' ∧ H p = some (.tup [.str "state", v']) ∧ BAt H v' t') ∨ ((∀ t', ¬ Does t e t') ∧ ∃ x xs, x ≠ Str.ofString "state" ∧ H p = some (.tup (.str x :: xs)))
def spDueP : Sp := fun vs H Q _ => ∃ (v : V) (t : B) (q A B' : Addr) (p : List Bool) (c : Nat), vs = [v, .ref q, .ref A, .ref B'] ∧ BAt H v t ∧ t.size ≤ 12 ∧ H q = some (.tup (Ed.put p c).vals) ∧ t.at p = some .nil ∧ isLow c = true ∧ H A = some (.lst ((t.nds []).map fun p => V.str (px p))) ∧ H B' = some (.lst ((t.ops []).map fun p => V.str (px p))) ∧
  ∀ (r : Addr) (H' : Hp), Same H H' → DueAt H' t (.put p c) r → Q (.ref r) H'
def spDueL : Sp := fun vs H Q _ => ∃ (v : V) (t : B) (q : Addr) (e : Ed), vs = [v, .ref q] ∧ BAt H v t ∧ t.size ≤ 12 ∧ H q = some (.tup e.vals) ∧ Drawn t e ∧ ∀ (r : Addr) (H' : Hp), Same H H' → DueAt H' t e r → Q (.ref r) H'
def Ed.path : Ed → List Bool
  | .put p _ => p
  | .cut p => p
  | .label p _ => p
  | .turn p => p
def Ed.more : Ed → List V
  | .put _ c => [.str (ch c)]
  | .cut _ => []
  | .label _ c => [.str (ch c)]
  | .turn _ => []
theorem Ed.vals_eq (e : Ed) : e.vals = .str e.word :: .str (px e.path) :: e.more := by cases e <;> rfl
theorem w1 : Str.ofString "cut" ≠ Str.ofString "put" := by decide +kernel
theorem w2 : Str.ofString "label" ≠ Str.ofString "put" := by decide +kernel
theorem w3 : Str.ofString "turn" ≠ Str.ofString "put" := by decide +kernel
theorem w4 : Str.ofString "label" ≠ Str.ofString "cut" := by decide +kernel
theorem w5 : Str.ofString "turn" ≠ Str.ofString "cut" := by decide +kernel
theorem w6 : Str.ofString "label" ≠ Str.ofString "turn" := by decide +kernel
theorem w7 : Str.ofString "TooLarge" ≠ Str.ofString "state" := by decide +kernel
theorem w8 : Str.ofString "LastNode" ≠ Str.ofString "state" := by decide +kernel
theorem w9 : Str.ofString "turn" ≠ Str.ofString "label" := by decide +kernel
section
variable {P : Program} {w : World} {K : PySem.W.Frag} {mg : Str → Option Value} {base : Heap} {f : Addr} {fd : FuncData}
theorem ok_lowL {k : Nat} (F : Fun K "_law_is_letter" "_law_is_letter" s__law_is_letter f fd) (M : Mgs mg) : FnOk P w K mg base CX0 (k + 1) f fd ["_law_value"] spLow := by
  refine F.ok sc__law_is_letter (fun vs H Q E h => ?_) (fun cdv A outer s H vs Q E hr h => ?_)
  · obtain ⟨l, rfl, _⟩ := h
    rfl
  obtain ⟨l, rfl, hl, q⟩ := h
  refine ⟨_, (pss_one (ps_ret (pe_and (pe_callB call_isi rfl M.isinstance (by decide +kernel) (pa_cons (pv 0) (pa_cons (pe_bltn (v := .ty "str") rfl M.str (by decide +kernel) rfl) pa_nil))) (pe_and (pe_cmpR op_eq (pe_callB call_len_str rfl M.len PySem.boot_len (pa_cons (pv 0) pa_nil)) pe_int (nomark _)) (pe_one (pe_chain op_le_str op_le_str pe_str (pv 0) pe_str)))))), ?_⟩
  refine ⟨_, rfl, _, _, _, _, true, rfl, .ty _, .base (.str (tx l)), kit_ty (by decide +kernel), _, rfl, iteT ?_⟩
  refine ⟨_, rfl, tx l, rfl, small (by rw [tx_len]; omega), rfl, _, rfl, ?_⟩
  match l, hl, q with
  | [], _, q => exact iteF q
  | [c], _, q =>
    rw [show decide (V.int ((tx [c]).length : Nat) = V.int 1) = true from rfl]
    refine iteT ⟨_, rfl, _, _, rfl, rfl, _, rfl, ?_⟩
    have e1 : (!decide ((tx [c]).cps.toList < (Str.ofString "a").cps.toList)) = decide (97 ≤ c) := by
      rw [show (Str.ofString "a").cps.toList = [97] by decide +kernel, show (tx [c]).cps.toList = [c] from rfl]
      by_cases h : c < 97
      · rw [decide_eq_true (by simp [List.cons_lt_cons_iff, h]), decide_eq_false (by omega)]; rfl
      · rw [decide_eq_false (by simp [List.cons_lt_cons_iff, h]), decide_eq_true (by omega)]; rfl
    have e2 : (!decide ((Str.ofString "z").cps.toList < (tx [c]).cps.toList)) = decide (c ≤ 122) := by
      rw [show (Str.ofString "z").cps.toList = [122] by decide +kernel, show (tx [c]).cps.toList = [c] from rfl]
      by_cases h : 122 < c
      · rw [decide_eq_true (by simp [List.cons_lt_cons_iff, h]), decide_eq_false (by omega)]; rfl
      · rw [decide_eq_false (by simp [List.cons_lt_cons_iff, h]), decide_eq_true (by omega)]; rfl
    rw [e1]
    have q : Q (.bl (decide (97 ≤ c) && decide (c ≤ 122))) H := q
    by_cases h : 97 ≤ c
    · rw [decide_eq_true h] at q ⊢
      refine iteT ⟨_, _, rfl, rfl, ?_⟩
      rw [e2]
      exact q
    · rw [decide_eq_false h] at q ⊢
      exact iteF q
theorem ok_dueP (F : Fun K "_law_due_put" "_law_due_put" s__law_due_put f fd) (M : Mgs mg) (D_law_is_letter : Df P w K mg base 1 "_law_is_letter" ["_law_value"] spLow) (D_law_grafted : Df P w K mg base 20 "_law_grafted" ["_law_tree_here", "_law_path", "_law_part_here"] (spWith 20)) :
    FnOk P w K mg base CX0 21 f fd ["_law_tree_here", "_law_edit", "_law_nodes", "_law_opens"] spDueP := by
  refine F.ok (k := 20) sc__law_due_put (fun vs H Q E h => ?_) (fun cdv A outer s H vs Q E hr h => ?_)
  · obtain ⟨v, t, q, A, B', p, c, rfl, _⟩ := h
    rfl
  obtain ⟨v, t, q, A, B', p, c, rfl, ht, hz, eq, hat, hc, eA, eB, k⟩ := h
  refine ⟨_, (pss_cons (ps_if (pt_cmpR op_notIn_seq (pe_ix ix_tup (pv 1) pe_int (fun _ _ => rfl)) (pv 3) (by rfl))
      (pss_one (ps_ret (pe_tup (pa_cons pe_str (pa_cons (pe_ix ix_tup (pv 1) pe_int (fun _ _ => rfl)) pa_nil))))) pss_nil)
    (pss_cons (ps_if (pt_not (pt_val (pe_call D_law_is_letter.ok (hr.mono (by omega)) rfl D_law_is_letter.g D_law_is_letter.kp D_law_is_letter.b .nil pass0 (pa_cons (pe_ix ix_tup (pv 1) pe_int (fun _ _ => rfl)) pa_nil))))
      (pss_one (ps_ret (pe_tup (pa_cons pe_str (pa_cons (pe_ix ix_tup (pv 1) pe_int (fun _ _ => rfl)) pa_nil))))) pss_nil)
    (pss_cons (ps_if (pt_cmpR op_eq (pe_callB call_len_seq rfl M.len PySem.boot_len (pa_cons (pv 2) pa_nil)) pe_int (nomark _))
      (pss_one (ps_ret (pe_tup (pa_cons pe_str (pa_cons pe_int pa_nil))))) pss_nil)
    (pss_one (ps_ret (pe_tup (pa_cons pe_str (pa_cons (pe_call D_law_grafted.ok (hr.mono (by omega)) rfl D_law_grafted.g D_law_grafted.kp D_law_grafted.b .nil pass0 (pa_cons (pv 0) (pa_cons (pe_ix ix_tup (pv 1) pe_int (fun _ _ => rfl)) (pa_cons (pe_tup (pa_cons pe_non (pa_cons (pe_ix ix_tup (pv 1) pe_int (fun _ _ => rfl)) (pa_cons pe_non pa_nil)))) pa_nil)))) pa_nil)))))))), ?_⟩
  have eq : H q = some (.tup [.str "put", .str (px p), .str (ch c)]) := eq
  have hql := t.at_size p hat
  refine ⟨_, rfl, q, _, 1, _, rfl, rfl, SqT.of eq, atI_nat (j := 1) rfl, _, rfl, B', _, rfl, .inl (SqL.of eB), rfl, flat_px _, _, rfl, ?_⟩
  rw [inV_px, decide_eq_true (B.ops_at.mpr hat)]
  refine iteF ?_
  refine ⟨_, rfl, q, _, 2, _, rfl, rfl, SqT.of eq, atI_nat (j := 2) rfl, [c], rfl, Nat.le_refl _, _, rfl, ?_⟩
  have e1 : isLt [c] = true := hc
  rw [e1]
  refine iteF ⟨_, rfl, A, _, rfl, .inl (SqL.of eA), rfl, _, rfl, ?_⟩
  rw [List.length_map, B.nds_len]
  by_cases h12 : t.size = 12
  · rw [show decide (V.int (t.size : Int) = V.int 12) = true from decide_eq_true (by rw [h12]; rfl)]
    refine iteT ⟨(by show 2 ≤ sizeLine; decide), fun r nr => k r _ (same_new nr _) (.inr ⟨fun t' d => ?_, _, _, w7, upd_same⟩)⟩
    cases d with
    | put _ _ hh => omega
  · rw [show decide (V.int (t.size : Int) = V.int 12) = false from decide_eq_false fun z => h12 (by have := V.int.inj z; omega)]
    refine iteF ⟨_, rfl, _, rfl, q, _, 1, _, rfl, rfl, SqT.of eq, atI_nat (j := 1) rfl, _, rfl, q, _, 2, _, rfl, rfl, SqT.of eq, atI_nat (j := 2) rfl, (by show 3 ≤ sizeLine; decide), fun r nr => ?_⟩
    have k2 := same_new nr (.tup [.non, .str (ch c), .non])
    refine ⟨v, .ref r, t, .node .nil c .nil, p, rfl, ht.same k2, .node upd_same .nil .nil, by omega, by omega, by rw [hat]; rfl, fun v' H2 s2 h2 => ?_⟩
    refine ⟨(by show 2 ≤ sizeLine; decide), fun r2 nr2 => ?_⟩
    have k3 := same_new nr2 (.tup [.str "state", v'])
    exact k r2 _ (k2.trans (s2.trans k3)) (.inl ⟨_, v', .put hat hc (by omega), upd_same, h2.same k3⟩)
theorem ok_dueL (F : Fun K "_law_due" "_law_due" s__law_due f fd) (M : Mgs mg) (D_law_paths : Df P w K mg base 1 "_law_paths" ["_law_tree_here"] spPaths) (D_law_due_put : Df P w K mg base 21 "_law_due_put" ["_law_tree_here", "_law_edit", "_law_nodes", "_law_opens"] spDueP) (D_law_part : Df P w K mg base 1 "_law_part" ["_law_tree_here", "_law_path"] spPart) (D_law_is_letter : Df P w K mg base 1 "_law_is_letter" ["_law_value"] spLow) (D_law_swapped : Df P w K mg base 20 "_law_swapped" ["_law_tree_here"] (spMir 20)) (D_law_grafted : Df P w K mg base 20 "_law_grafted" ["_law_tree_here", "_law_path", "_law_part_here"] (spWith 20)) :
    FnOk P w K mg base CX0 22 f fd ["_law_tree_here", "_law_edit"] spDueL := by
  refine F.ok (k := 21) sc__law_due (fun vs H Q E h => ?_) (fun cdv A outer s H vs Q E hr h => ?_)
  · obtain ⟨v, t, q, e, rfl, _⟩ := h
    rfl
  obtain ⟨v, t, q, e, rfl, ht, hz, eq, hd, k⟩ := h
  refine ⟨_, (pss_cons (ps_asg (pe_tup (pa_cons (pe_ix ix_tup (pv 1) pe_int (fun _ _ => rfl)) (pa_cons (pe_call D_law_paths.ok (hr.mono (by omega)) rfl D_law_paths.g D_law_paths.kp D_law_paths.b .nil pass0 (pa_cons (pv 0) pa_nil)) pa_nil))) (pg_tup rfl (pgs_cons (pg_name (i := 2) sc__law_due.nd rfl (.inl rfl)) (pgs_cons (pg_tup rfl (pgs_cons (pg_name (i := 3) sc__law_due.nd rfl (.inl rfl)) (pgs_cons (pg_name (i := 4) sc__law_due.nd rfl (.inl rfl)) pgs_nil))) pgs_nil))))
    (pss_cons (ps_if (pt_cmpR op_eq (pe_ix ix_tup (pv 1) pe_int (fun _ _ => rfl)) pe_str (nomark _))
      (pss_one (ps_ret (pe_call D_law_due_put.ok (hr.mono (by omega)) rfl D_law_due_put.g D_law_due_put.kp D_law_due_put.b .nil pass0 (pa_cons (pv 0) (pa_cons (pv 1) (pa_cons (pv 3) (pa_cons (pv 4) pa_nil))))))) pss_nil)
    (pss_cons (ps_if (pt_cmpR op_notIn_seq (pv 2) (pv 3) (by rfl))
      (pss_one (ps_ret (pe_tup (pa_cons pe_str (pa_cons (pv 2) pa_nil))))) pss_nil)
    (pss_cons (ps_set (i := 5) sc__law_due.nd rfl (.inl rfl) (pe_call D_law_part.ok (hr.mono (by omega)) rfl D_law_part.g D_law_part.kp D_law_part.b .nil pass0 (pa_cons (pv 0) (pa_cons (pv 2) pa_nil))))
    (pss_cons (ps_if (pt_cmpR op_eq (pe_ix ix_tup (pv 1) pe_int (fun _ _ => rfl)) pe_str (nomark _))
      (pss_one (ps_ret (pe_ifExp (pt_cmpR op_eq (pv 2) pe_str (nomark _)) (pe_tup (pa_cons pe_str pa_nil)) (pe_tup (pa_cons pe_str (pa_cons (pe_call D_law_grafted.ok (hr.mono (by omega)) rfl D_law_grafted.g D_law_grafted.kp D_law_grafted.b .nil pass0 (pa_cons (pv 0) (pa_cons (pv 2) (pa_cons pe_non pa_nil)))) pa_nil)))))) pss_nil)
    (pss_cons (ps_if (pt_cmpR op_eq (pe_ix ix_tup (pv 1) pe_int (fun _ _ => rfl)) pe_str (nomark _))
      (pss_one (ps_ret (pe_tup (pa_cons pe_str (pa_cons (pe_call D_law_grafted.ok (hr.mono (by omega)) rfl D_law_grafted.g D_law_grafted.kp D_law_grafted.b .nil pass0 (pa_cons (pv 0) (pa_cons (pv 2) (pa_cons (pe_call D_law_swapped.ok (hr.mono (by omega)) rfl D_law_swapped.g D_law_swapped.kp D_law_swapped.b .nil pass0 (pa_cons (pv 5) pa_nil)) pa_nil)))) pa_nil))))) pss_nil)
    (pss_cons (ps_if (pt_not (pt_val (pe_call D_law_is_letter.ok (hr.mono (by omega)) rfl D_law_is_letter.g D_law_is_letter.kp D_law_is_letter.b .nil pass0 (pa_cons (pe_ix ix_tup (pv 1) pe_int (fun _ _ => rfl)) pa_nil))))
      (pss_one (ps_ret (pe_tup (pa_cons pe_str (pa_cons (pe_ix ix_tup (pv 1) pe_int (fun _ _ => rfl)) pa_nil))))) pss_nil)
    (pss_one (ps_ret (pe_tup (pa_cons pe_str (pa_cons (pe_call D_law_grafted.ok (hr.mono (by omega)) rfl D_law_grafted.g D_law_grafted.kp D_law_grafted.b .nil pass0 (pa_cons (pv 0) (pa_cons (pv 2) (pa_cons (pe_tup (pa_cons (pe_ix ix_tup (pv 5) pe_int (fun _ _ => rfl)) (pa_cons (pe_ix ix_tup (pv 1) pe_int (fun _ _ => rfl)) (pa_cons (pe_ix ix_tup (pv 5) pe_int (fun _ _ => rfl)) pa_nil)))) pa_nil)))) pa_nil)))))))))))), ?_⟩
  have eq1 : H q = some (.tup (.str e.word :: .str (px e.path) :: e.more)) := by rw [eq, e.vals_eq]
  refine ⟨_, rfl, q, _, 1, _, rfl, rfl, SqT.of eq1, atI_nat (j := 1) rfl, _, rfl, v, t, rfl, ht, hz, fun pa A B' H1 s1 np nA nB ep eA eB => ⟨(by show 2 ≤ sizeLine; decide), fun tp ntp => ?_⟩⟩
  have k2 := same_new ntp (.tup [.str (px e.path), .ref pa])
  have et := upd_same (H := H1) (a := tp) (o := .tup [.str (px e.path), .ref pa])
  have s2 := s1.trans k2
  have ep2 := k2 _ _ ep
  have eA2 := k2 _ _ eA
  have eB2 := k2 _ _ eB
  have ht2 := ht.same s2
  have eq2 := s2 _ _ eq1
  generalize upd H1 tp (.tup [.str (px e.path), .ref pa]) = H2 at k2 et s2 ep2 eA2 eB2 ht2 eq2 ⊢
  refine ⟨tp, _, rfl, SqT.of et, rfl, _, _, rfl, _, _, rfl, pa, _, rfl, SqT.of ep2, rfl, _, _, rfl, _, _, rfl, rfl, rfl, ?_⟩
  refine ⟨_, rfl, q, _, 0, _, rfl, rfl, SqT.of eq2, atI_nat (j := 0) rfl, rfl, _, rfl, ?_⟩
  have st : ∀ {t' : B} {v' : V} {H3 : Hp}, Does t e t' → Same H2 H3 → BAt H3 v' t' → ∀ r, H3 r = none → Q (.ref r) (upd H3 r (.tup [.str "state", v'])) := fun d s3 b r nr => k r _ (s2.trans (s3.trans (same_new nr _))) (.inl ⟨_, _, d, upd_same, b.same (same_new nr _)⟩)
  cases e with
  | put p c =>
    obtain ⟨hat, hc⟩ := hd
    exact iteS rfl ⟨_, rfl, _, rfl, _, rfl, _, rfl, v, t, q, A, B', p, c, rfl, ht2, hz, eq2, hat, hc, eA2, eB2, fun r H3 s3 h => k r H3 (s2.trans s3) h⟩
  | cut p =>
    obtain ⟨u, hat, hu⟩ := hd
    have hql := t.at_size p hat
    refine iteR w1 ⟨_, rfl, _, rfl, A, _, rfl, .inl (SqL.of eA2), rfl, flat_px _, _, rfl, ?_⟩
    rw [show inV (V.str (px (Ed.cut p).path)) _ = true from (inV_px p _).trans (decide_eq_true (B.nds_at.mpr ⟨u, hat, hu⟩))]
    refine iteF ⟨_, rfl, _, rfl, v, t, u, p, rfl, ht2, hat, by omega, fun vu H3 s3 hu3 => ?_⟩
    refine ⟨_, rfl, q, _, 0, _, rfl, rfl, SqT.of (s3 _ _ eq2), atI_nat (j := 0) rfl, rfl, _, rfl, iteS rfl ?_⟩
    refine ⟨_, rfl, rfl, _, rfl, ?_⟩
    cases p with
    | nil =>
      refine iteS px_nil ⟨(by show 1 ≤ sizeLine; decide), fun r nr => k r _ (s2.trans (s3.trans (same_new nr _))) (.inr ⟨fun t' d => ?_, _, _, w8, upd_same⟩)⟩
      cases d with
      | cut _ _ h => exact h rfl
    | cons b p =>
      refine iteR (fun z => by rw [← px_nil] at z; cases px_inj z) ?_
      refine ⟨_, rfl, _, rfl, v, .non, t, .nil, b :: p, rfl, ht2.same s3, .nil, by omega, by omega, by rw [hat]; rfl, fun v' H4 s4 b4 => ⟨(by show 2 ≤ sizeLine; decide), fun r nr => ?_⟩⟩
      exact st (.cut hat hu (by simp)) (s3.trans s4) b4 r nr
  | turn p =>
    obtain ⟨u, hat, hu⟩ := hd
    have hql := t.at_size p hat
    refine iteR w3 ⟨_, rfl, _, rfl, A, _, rfl, .inl (SqL.of eA2), rfl, flat_px _, _, rfl, ?_⟩
    rw [show inV (V.str (px (Ed.turn p).path)) _ = true from (inV_px p _).trans (decide_eq_true (B.nds_at.mpr ⟨u, hat, hu⟩))]
    refine iteF ⟨_, rfl, _, rfl, v, t, u, p, rfl, ht2, hat, by omega, fun vu H3 s3 hu3 => ?_⟩
    refine ⟨_, rfl, q, _, 0, _, rfl, rfl, SqT.of (s3 _ _ eq2), atI_nat (j := 0) rfl, rfl, _, rfl, iteR w5 ?_⟩
    refine ⟨_, rfl, q, _, 0, _, rfl, rfl, SqT.of (s3 _ _ eq2), atI_nat (j := 0) rfl, rfl, _, rfl, iteS rfl ?_⟩
    refine ⟨_, rfl, _, rfl, _, rfl, vu, u, rfl, hu3, by omega, fun vm H4 s4 b4 => ?_⟩
    refine ⟨v, vm, t, u.mir, p, rfl, ht2.same (s3.trans s4), b4, by omega, by omega, by rw [hat]; rfl, fun v' H5 s5 b5 => ⟨(by show 2 ≤ sizeLine; decide), fun r nr => ?_⟩⟩
    exact st (.turn hat hu) (s3.trans (s4.trans s5)) b5 r nr
  | label p c =>
    obtain ⟨⟨u, hat, hu⟩, hc⟩ := hd
    have hql := t.at_size p hat
    refine iteR w2 ⟨_, rfl, _, rfl, A, _, rfl, .inl (SqL.of eA2), rfl, flat_px _, _, rfl, ?_⟩
    rw [show inV (V.str (px (Ed.label p c).path)) _ = true from (inV_px p _).trans (decide_eq_true (B.nds_at.mpr ⟨u, hat, hu⟩))]
    refine iteF ⟨_, rfl, _, rfl, v, t, u, p, rfl, ht2, hat, by omega, fun vu H3 s3 hu3 => ?_⟩
    refine ⟨_, rfl, q, _, 0, _, rfl, rfl, SqT.of (s3 _ _ eq2), atI_nat (j := 0) rfl, rfl, _, rfl, iteR w4 ?_⟩
    refine ⟨_, rfl, q, _, 0, _, rfl, rfl, SqT.of (s3 _ _ eq2), atI_nat (j := 0) rfl, rfl, _, rfl, iteR w6 ?_⟩
    refine ⟨_, rfl, q, _, 2, _, rfl, rfl, SqT.of (s3 _ _ eq2), atI_nat (j := 2) rfl, [c], rfl, Nat.le_refl _, _, rfl, ?_⟩
    have e1 : isLt [c] = true := hc
    rw [e1]
    rcases hu3.inv with ⟨_, rfl⟩ | ⟨b, vl, vr, x, tl, tr, rfl, rfl, eb, hl, hr'⟩
    · exact absurd rfl hu
    refine iteF ⟨_, rfl, _, rfl, _, rfl, b, _, 0, vl, rfl, rfl, SqT.of eb, atI_nat (j := 0) rfl, _, rfl, q, _, 2, _, rfl, rfl, SqT.of (s3 _ _ eq2), atI_nat (j := 2) rfl, _, rfl, b, _, 2, vr, rfl, rfl, SqT.of eb, atI_nat (j := 2) rfl, (by show 3 ≤ sizeLine; decide), fun r nr => ?_⟩
    have k4 := same_new nr (.tup [vl, .str (ch c), vr])
    refine ⟨v, .ref r, t, .node tl c tr, p, rfl, ht2.same (s3.trans k4), .node upd_same (hl.same k4) (hr'.same k4), by omega, by omega, by rw [hat]; rfl, fun v' H5 s5 b5 => ⟨(by show 2 ≤ sizeLine; decide), fun r nr => ?_⟩⟩
    exact st (.label hat hc) (s3.trans (k4.trans s5)) b5 r nr
end
/-! ### an edit done, an edit drawn -/
def spSome : Sp := fun vs H Q _ => ∃ (s : Addr) (n : Nat) (v : V) (t : B), vs = [.ref s, v, .int 13] ∧ Strm H s n ∧ n ≤ 900000 ∧ BAt H v t ∧ 1 ≤ t.size ∧ t.size ≤ 12 ∧ ∀ (q : Addr) (e : Ed) (n' : Nat) (H' : Hp), H' q = some (.tup e.vals) → Drawn t e → Strm H' s n' → n' ≤ n + 10 → But s H H' → Q (.ref q) H'
def spValid : Sp := fun vs H Q _ => ∃ (s : Addr) (n : Nat) (v : V) (t : B), vs = [.ref s, v, .int 13] ∧ Strm H s n ∧ n ≤ 800000 ∧ BAt H v t ∧ 1 ≤ t.size ∧ t.size ≤ 12 ∧ ∀ (q : Addr) (e : Ed) (t' : B) (n' : Nat) (H' : Hp), H' q = some (.tup e.vals) → Drawn t e → Does t e t' → Strm H' s n' → n' ≤ n + 60 → But s H H' → Q (.ref q) H'
theorem okN {P : Program} {w : World} {K : PySem.W.Frag} {mg : Str → Option Value} {base : Heap} {x qual : Str} {params : Arguments} {body : List Stmt} {scope : Scope} {dvs : List V} {kws : List (Str × V)} {f : Addr} {fd : FuncData} {N ps : List Str} {k : Nat} {sp : Sp} (F : FunD K x qual params body scope dvs kws f fd) (S : FnScope N ps scope) (len : ∀ vs H Q E, sp vs H Q E → vs.length = ps.length)
    (hbody : ∀ (cdv : Value) (A : Around) (outer : List Env) (s : Shared) (H : Hp) (vs : List V) (Q : VK) (E : XK), Room k (A.deeper (envOfC qual scope s.heap.objs.size f cdv)) → sp vs H Q E →
      ∃ t, PSs (cxOf CX0 P w K mg base N qual scope f cdv A outer s H E).nox body t ∧ t { nx := fun _ H' => Q .non H', rt := Q } (start N vs) H) : FnOk P w K mg base CX0 (k + 1) f fd ps sp :=
  F.ok (CX := CX0) S len fun cdv A outer s H vs Q E hr h => by
    obtain ⟨t, h1, h2⟩ := hbody cdv A outer s H vs Q E hr h
    exact ⟨t, h1.nox, h2⟩
theorem inl_state {H : Hp} {t : B} {e : Ed} {r : Addr} (d : DueAt H t e r) : ∃ x xs, H r = some (.tup (.str x :: xs)) ∧ (x = Str.ofString "state" → ∃ t', Does t e t') := by
  rcases d with ⟨t', v', d, h, _⟩ | ⟨_, x, xs, n, h⟩
  · exact ⟨_, _, h, fun _ => ⟨t', d⟩⟩
  · exact ⟨x, xs, h, fun z => absurd z n⟩
section
variable {P : Program} {w : World} {K : PySem.W.Frag} {mg : Str → Option Value} {base : Heap} {f : Addr} {fd : FuncData} {C : Addr}
theorem ok_doL (F : Fun K "_law_do" "_law_do" s__law_do f fd) (TD : DeskC K mg C) (Dput : MDf P w K mg base C 26 "put" ["self", "path", "label"] (spDo C isPut)) (Dcut : MDf P w K mg base C 26 "cut" ["self", "path"] (spDo C isCut)) (Dlabel : MDf P w K mg base C 26 "label" ["self", "path", "label"] (spDo C isLab)) (Dturn : MDf P w K mg base C 26 "turn" ["self", "path"] (spDo C isTur)) :
    FnOk P w K mg base CX0 27 f fd ["_law_desk", "_law_edit"] (spCalled C) := by
  refine F.ok (k := 26) sc__law_do (fun vs H Q E h => ?_) (fun cdv A outer s H vs Q E hr h => ?_)
  · obtain ⟨a, q, ts, t, t', es, e, rfl, _⟩ := h
    rfl
  obtain ⟨a, qe, ts, t, t', es, e, rfl, dk, he, hd, h60, hts, hl, hz, hn, q⟩ := h
  obtain ⟨dx, ta, td, vs, u, ds, h1, _⟩ := id dk
  refine ⟨_, (pss_cons (ps_if (pt_cmpR op_eq (pe_ix ix_tup (pv 1) pe_int (fun _ _ => rfl)) pe_str (nomark _))
      (pss_one (ps_ret (pe_meth (pv 0) TD.cl Dput.at_ Dput.ok (hr.mono (by omega)) Dput.b .nil pass0 (pa_cons (pe_ix ix_tup (pv 1) pe_int (fun _ _ => rfl)) (pa_cons (pe_ix ix_tup (pv 1) pe_int (fun _ _ => rfl)) pa_nil))))) pss_nil)
    (pss_cons (ps_if (pt_cmpR op_eq (pe_ix ix_tup (pv 1) pe_int (fun _ _ => rfl)) pe_str (nomark _))
      (pss_one (ps_ret (pe_meth (pv 0) TD.cl Dcut.at_ Dcut.ok (hr.mono (by omega)) Dcut.b .nil pass0 (pa_cons (pe_ix ix_tup (pv 1) pe_int (fun _ _ => rfl)) pa_nil)))) pss_nil)
    (pss_one (ps_ret (pe_ifExp (pt_cmpR op_eq (pe_ix ix_tup (pv 1) pe_int (fun _ _ => rfl)) pe_str (nomark _)) (pe_meth (pv 0) TD.cl Dlabel.at_ Dlabel.ok (hr.mono (by omega)) Dlabel.b .nil pass0 (pa_cons (pe_ix ix_tup (pv 1) pe_int (fun _ _ => rfl)) (pa_cons (pe_ix ix_tup (pv 1) pe_int (fun _ _ => rfl)) pa_nil))) (pe_meth (pv 0) TD.cl Dturn.at_ Dturn.ok (hr.mono (by omega)) Dturn.b .nil pass0 (pa_cons (pe_ix ix_tup (pv 1) pe_int (fun _ _ => rfl)) pa_nil))))))), ?_⟩
  have he : H qe = some (.tup (.str e.word :: .str (px e.path) :: e.more)) := by rw [he, e.vals_eq]
  have nl : ∀ {m : Str} (vt vd vb : V), (m == ("trees" : Str)) = false → (m == ("done" : Str)) = false → (m == ("busy" : Str)) = false → (deskF vt vd vb).lookup m = none := no_look
  refine ⟨_, rfl, qe, _, 0, _, rfl, rfl, SqT.of he, atI_nat (j := 0) rfl, rfl, _, rfl, ?_⟩
  cases e with
  | put p c =>
    exact iteS rfl ⟨_, rfl, a, dx, _, rfl, h1, nl _ _ _ (by decide +kernel) (by decide +kernel) (by decide +kernel), _, rfl, qe, _, 1, _, rfl, rfl, SqT.of he, atI_nat (j := 1) rfl, _, rfl, qe, _, 2, _, rfl, rfl, SqT.of he, atI_nat (j := 2) rfl, a, ts, t, t', es, .put p c, rfl, trivial, dk, hd, h60, hts, hl, hz, hn, q⟩
  | cut p =>
    refine iteR w1 ⟨_, rfl, qe, _, 0, _, rfl, rfl, SqT.of he, atI_nat (j := 0) rfl, rfl, _, rfl, ?_⟩
    exact iteS rfl ⟨_, rfl, a, dx, _, rfl, h1, nl _ _ _ (by decide +kernel) (by decide +kernel) (by decide +kernel), _, rfl, qe, _, 1, _, rfl, rfl, SqT.of he, atI_nat (j := 1) rfl, a, ts, t, t', es, .cut p, rfl, trivial, dk, hd, h60, hts, hl, hz, hn, q⟩
  | label p c =>
    refine iteR w2 ⟨_, rfl, qe, _, 0, _, rfl, rfl, SqT.of he, atI_nat (j := 0) rfl, rfl, _, rfl, ?_⟩
    refine iteR w4 ⟨_, rfl, qe, _, 0, _, rfl, rfl, SqT.of he, atI_nat (j := 0) rfl, rfl, _, rfl, ?_⟩
    exact iteS rfl ⟨_, rfl, a, dx, _, rfl, h1, nl _ _ _ (by decide +kernel) (by decide +kernel) (by decide +kernel), _, rfl, qe, _, 1, _, rfl, rfl, SqT.of he, atI_nat (j := 1) rfl, _, rfl, qe, _, 2, _, rfl, rfl, SqT.of he, atI_nat (j := 2) rfl, a, ts, t, t', es, .label p c, rfl, trivial, dk, hd, h60, hts, hl, hz, hn, q⟩
  | turn p =>
    refine iteR w3 ⟨_, rfl, qe, _, 0, _, rfl, rfl, SqT.of he, atI_nat (j := 0) rfl, rfl, _, rfl, ?_⟩
    refine iteR w5 ⟨_, rfl, qe, _, 0, _, rfl, rfl, SqT.of he, atI_nat (j := 0) rfl, rfl, _, rfl, ?_⟩
    exact iteR w9 ⟨_, rfl, a, dx, _, rfl, h1, nl _ _ _ (by decide +kernel) (by decide +kernel) (by decide +kernel), _, rfl, qe, _, 1, _, rfl, rfl, SqT.of he, atI_nat (j := 1) rfl, a, ts, t, t', es, .turn p, rfl, trivial, dk, hd, h60, hts, hl, hz, hn, q⟩
theorem ok_some (F : FunD K "_law_some_edit" "_law_some_edit" (defArgs s__law_some_edit) (defBody s__law_some_edit) (defScope s__law_some_edit) [.int 13] [] f fd) (M : Mgs mg) (D_law_take : Df P w K mg base 1 "_law_take" ["_law_stream_here", "_law_many"] spTake1) (D_law_letter : Df P w K mg base 2 "_law_letter" ["_law_stream_here"] spLetter1) (D_law_paths : Df P w K mg base 1 "_law_paths" ["_law_tree_here"] spPaths) :
    FnOk P w K mg base CX0 3 f fd ["_law_stream_here", "_law_tree_here", "_law_top"] spSome := by
  refine okN F (k := 2) sc__law_some_edit (fun vs H Q E h => ?_) (fun cdv A outer s H vs Q E hr h => ?_)
  · obtain ⟨sa, n, v, t, rfl, _⟩ := h
    rfl
  obtain ⟨sa, n, v, t, rfl, st, hn, ht, z0, z1, q⟩ := h
  refine ⟨_, (pss_cons (ps_asg (pe_tup (pa_cons (pe_call D_law_paths.ok (hr.mono (by omega)) rfl D_law_paths.g D_law_paths.kp D_law_paths.b .nil pass0 (pa_cons (pv 1) pa_nil)) (pa_cons (pe_call D_law_take.ok (hr.mono (by omega)) rfl D_law_take.g D_law_take.kp D_law_take.b .nil pass0 (pa_cons (pv 0) (pa_cons pe_int pa_nil))) pa_nil))) (pg_tup rfl (pgs_cons (pg_tup rfl (pgs_cons (pg_name (i := 3) sc__law_some_edit.nd rfl (.inl rfl)) (pgs_cons (pg_name (i := 4) sc__law_some_edit.nd rfl (.inl rfl)) pgs_nil))) (pgs_cons (pg_name (i := 5) sc__law_some_edit.nd rfl (.inl rfl)) pgs_nil))))
    (pss_cons (ps_par (i := 6) (j := 7) (by rfl) sc__law_some_edit.nd rfl rfl (by decide) rfl rfl (pa_cons (pe_ix ix_list (pv 3) (pe_call D_law_take.ok (hr.mono (by omega)) rfl D_law_take.g D_law_take.kp D_law_take.b .nil pass0 (pa_cons (pv 0) (pa_cons (pe_callB call_len_seq rfl M.len PySem.boot_len (pa_cons (pv 3) pa_nil)) pa_nil))) (fun _ _ => rfl)) (pa_cons (pe_call D_law_letter.ok (hr.mono (by omega)) rfl D_law_letter.g D_law_letter.kp D_law_letter.b .nil pass0 (pa_cons (pv 0) pa_nil)) pa_nil)) (by rfl))
    (pss_cons (ps_if (PW.pt (pw_and (pt_cmpR op_lt (pv 5) pe_int (nomark _)) (pw_and1 (pt_cmpR op_lt (pe_callB call_len_seq rfl M.len PySem.boot_len (pa_cons (pv 3) pa_nil)) (pv 2) (nomark _)))))
      (pss_one (ps_ret (pe_tup (pa_cons pe_str (pa_cons (pe_ix ix_list (pv 4) (pe_call D_law_take.ok (hr.mono (by omega)) rfl D_law_take.g D_law_take.kp D_law_take.b .nil pass0 (pa_cons (pv 0) (pa_cons (pe_callB call_len_seq rfl M.len PySem.boot_len (pa_cons (pv 4) pa_nil)) pa_nil))) (fun _ _ => rfl)) (pa_cons (pv 7) pa_nil)))))) pss_nil)
    (pss_cons (ps_if (pt_cmpR op_eq (pv 5) pe_int (nomark _))
      (pss_one (ps_ret (pe_tup (pa_cons pe_str (pa_cons (pv 6) pa_nil))))) pss_nil)
    (pss_one (ps_ret (pe_ifExp (pt_cmpR op_lt (pv 5) pe_int (nomark _)) (pe_tup (pa_cons pe_str (pa_cons (pv 6) (pa_cons (pv 7) pa_nil)))) (pe_tup (pa_cons pe_str (pa_cons (pv 6) pa_nil)))))))))), ?_⟩
  refine ⟨_, rfl, v, t, rfl, ht, z1, fun pa A B' H1 s1 np nA nB ep eA eB => ?_⟩
  have st1 := st.same s1
  refine ⟨_, rfl, sa, n, 8, rfl, st1, by omega, by decide, by decide, fun wy n2 H2 l2 st2 hn2 bu2 => ⟨(by show 2 ≤ sizeLine; decide), fun tp ntp => ?_⟩⟩
  obtain ⟨xs0, es0⟩ := st.lst
  have ne : ∀ {x : Addr}, H x = none → x ≠ sa := fun e z => by rw [z, es0] at e; cases e
  have k3 := same_new ntp (.tup [.ref pa, .int (wy : Int)])
  have et := upd_same (H := H2) (a := tp) (o := .tup [.ref pa, .int (wy : Int)])
  have ep3 := k3 _ _ (bu2 _ _ (ne np) ep)
  have eA3 := k3 _ _ (bu2 _ _ (ne nA) eA)
  have eB3 := k3 _ _ (bu2 _ _ (ne nB) eB)
  have st3 := st2.same k3
  have bu3 : But sa H _ := (But.of s1).trans (bu2.trans (But.of k3))
  generalize upd H2 tp (.tup [.ref pa, .int (wy : Int)]) = H3 at et ep3 eA3 eB3 st3 bu3 ⊢
  refine ⟨tp, _, rfl, SqT.of et, rfl, _, _, rfl, pa, _, rfl, SqT.of ep3, rfl, _, _, rfl, _, _, rfl, rfl, _, _, rfl, rfl, ?_⟩
  refine ⟨_, rfl, _, rfl, _, rfl, A, _, rfl, .inl (SqL.of eA3), sa, n2, _, rfl, st3, by omega, by rw [List.length_map, B.nds_len]; omega, by rw [List.length_map, B.nds_len]; omega, fun j n4 H4 l4 st4 hn4 bu4 => ?_⟩
  rw [List.length_map, B.nds_len] at l4
  have hj : j < (t.nds []).length := by rw [B.nds_len]; omega
  have eA4 := bu4 _ _ (ne nA) eA3
  have eB4 := bu4 _ _ (ne nB) eB3
  refine ⟨A, _, _, V.str (px ((t.nds [])[j]'hj)), rfl, rfl, SqL.of eA4, atI_nat (by rw [List.getElem?_map, List.getElem?_eq_getElem hj]; rfl), ?_⟩
  have hnode := B.nds_at.mp (List.getElem_mem hj)
  generalize (t.nds [])[j]'hj = p at hnode ⊢
  refine ⟨_, rfl, sa, n4, rfl, st4, by omega, fun c n5 H5 hc st5 hn5 bu5 => ⟨_, _, rfl, ?_⟩⟩
  have eA5 := bu5 _ _ (ne nA) eA4
  have eB5 := bu5 _ _ (ne nB) eB4
  have bu := bu3.trans (bu4.trans bu5)
  have fin : ∀ (e : Ed) (r : Addr), H5 r = none → Drawn t e → Q (.ref r) (upd H5 r (.tup e.vals)) := fun e r nr d => q r e n5 _ upd_same d (st5.same (same_new nr _)) (by omega) (bu.trans (But.of (same_new nr _)))
  refine ⟨_, rfl, _, _, rfl, rfl, _, rfl, ite2 (fun _ => ?_) (fun _ => ?_)⟩
  · refine ⟨_, rfl, A, _, rfl, .inl (SqL.of eA5), _, rfl, _, _, rfl, rfl, _, rfl, ?_⟩
    rw [List.length_map, B.nds_len, decide_eq_true (show ((t.size : Int) < 13) by omega)]
    refine iteT ⟨_, rfl, _, rfl, _, rfl, B', _, rfl, .inl (SqL.of eB5), sa, n5, _, rfl, st5, by omega, by rw [List.length_map, B.ops_len]; omega, by rw [List.length_map, B.ops_len]; omega, fun i n6 H6 l6 st6 hn6 bu6 => ?_⟩
    rw [List.length_map, B.ops_len] at l6
    have hi : i < (t.ops []).length := by rw [B.ops_len]; omega
    have eB6 := bu6 _ _ (ne nB) eB5
    refine ⟨B', _, _, V.str (px ((t.ops [])[i]'hi)), rfl, rfl, SqL.of eB6, atI_nat (by rw [List.getElem?_map, List.getElem?_eq_getElem hi]; rfl), ?_⟩
    have hop := B.ops_at.mp (List.getElem_mem hi)
    generalize (t.ops [])[i]'hi = p2 at hop ⊢
    refine ⟨_, rfl, (by show 3 ≤ sizeLine; decide), fun r nr => ?_⟩
    exact q r (.put p2 c) n6 _ upd_same ⟨hop, hc⟩ (st6.same (same_new nr _)) (by omega) (bu.trans (bu6.trans (But.of (same_new nr _))))
  · refine ⟨_, rfl, rfl, _, rfl, ite2 (fun _ => ?_) (fun _ => ?_)⟩
    · exact ⟨_, rfl, (by show 2 ≤ sizeLine; decide), fun r nr => fin (.cut p) r nr hnode⟩
    · refine ⟨_, rfl, _, _, rfl, rfl, _, rfl, ite2 (fun _ => ?_) (fun _ => ?_)⟩
      · exact ⟨_, rfl, _, rfl, (by show 3 ≤ sizeLine; decide), fun r nr => fin (.label p c) r nr ⟨hnode, hc⟩⟩
      · exact ⟨_, rfl, (by show 2 ≤ sizeLine; decide), fun r nr => fin (.turn p) r nr hnode⟩
theorem ok_valid (F : FunD K "_law_valid_edit" "_law_valid_edit" (defArgs s__law_valid_edit) (defBody s__law_valid_edit) (defScope s__law_valid_edit) [.int 13] [] f fd) (M : Mgs mg) (D_law_some_edit : Df P w K mg base 3 "_law_some_edit" ["_law_stream_here", "_law_tree_here", "_law_top"] spSome) (D_law_due : Df P w K mg base 22 "_law_due" ["_law_tree_here", "_law_edit"] spDueL) :
    FnOk P w K mg base CX0 23 f fd ["_law_stream_here", "_law_tree_here", "_law_top"] spValid := by
  refine okN F (k := 22) sc__law_valid_edit (fun vs H Q E h => ?_) (fun cdv A outer s H vs Q E hr h => ?_)
  · obtain ⟨sa, n, v, t, rfl, _⟩ := h
    rfl
  obtain ⟨sa, n, v, t, rfl, st, hn, ht, z0, z1, q⟩ := h
  obtain ⟨xs0, es0⟩ := st.lst
  refine ⟨_, (pss_cons (ps_for PassesOwn.never rfl (pi_range1 rfl M.range (pa_cons pe_int pa_nil)) (pg_name (i := 3) sc__law_valid_edit.nd rfl (.inl rfl))
      (pss_cons (ps_set (i := 4) sc__law_valid_edit.nd rfl (.inl rfl) (pe_call D_law_some_edit.ok (hr.mono (by omega)) rfl D_law_some_edit.g D_law_some_edit.kp D_law_some_edit.b .nil pass0 (pa_cons (pv 0) (pa_cons (pv 1) (pa_cons (pv 2) pa_nil)))))
    (pss_one (ps_if (pt_cmpR op_eq (pe_ix ix_tup (pe_call D_law_due.ok (hr.mono (by omega)) rfl D_law_due.g D_law_due.kp D_law_due.b .nil pass0 (pa_cons (pv 1) (pa_cons (pv 4) pa_nil))) pe_int (fun _ _ => rfl)) pe_str (nomark _))
      (pss_one (ps_ret (pv 4))) pss_nil))))
    (pss_one (ps_ret (pe_tup (pa_cons pe_str (pa_cons pe_str pa_nil)))))), ?_⟩
  refine ⟨6, rfl, by decide, by decide, ?_⟩
  refine for_range (lo := 0) (n := 6) (fun i σ H' => ∃ (y3 y4 : Option V) (n' : Nat), σ = [some (.ref sa), some v, some (.int 13), y3, y4] ∧ Strm H' sa n' ∧ n' ≤ n + 10 * i ∧ But sa H H') ⟨none, none, n, rfl, st, by omega, But.refl _ _⟩ (fun i σ H1 hi hp => ?_) (fun σ H1 hp => ?_)
  · obtain ⟨y3, y4, n', rfl, st1, hn1, bu1⟩ := hp
    have ht1 := ht.keep (But.keepL es0 bu1)
    refine ⟨_, rfl, _, rfl, _, rfl, sa, n', v, t, rfl, st1, by omega, ht1, z0, z1, fun qa e n2 H2 he hd st2 hn2 bu2 => ?_⟩
    obtain ⟨xs1, es1⟩ := st1.lst
    have ht2 := ht1.keep (But.keepL es1 bu2)
    refine ⟨_, rfl, _, rfl, v, t, qa, e, rfl, ht2, z1, he, hd, fun r H3 s3 du => ?_⟩
    obtain ⟨x, xs, hx, hst⟩ := inl_state du
    refine ⟨r, _, 0, _, rfl, rfl, SqT.of hx, atI_nat (j := 0) rfl, rfl, _, rfl, ?_⟩
    by_cases hs : x = Str.ofString "state"
    · obtain ⟨t', d⟩ := hst hs
      exact iteS hs ⟨_, rfl, q qa e t' n2 H3 (s3 _ _ he) hd d (st2.same s3) (by omega) (bu1.trans (bu2.trans (But.of s3)))⟩
    · refine iteR hs ?_
      exact ⟨_, _, n2, rfl, st2.same s3, by omega, bu1.trans (bu2.trans (But.of s3))⟩
  · obtain ⟨y3, y4, n', rfl, st1, hn1, bu1⟩ := hp
    refine ⟨(by show 2 ≤ sizeLine; decide), fun r nr => ?_⟩
    have hne : t ≠ .nil := nd_nil.mpr z0
    have hat : t.at [] = some t := by cases t <;> rfl
    exact q r (.turn []) _ n' _ (by rw [upd_same]; show _ = some (HO.tup [.str "turn", .str (px [])]); rw [px_nil]) ⟨t, hat, hne⟩ (.turn hat hne) (st1.same (same_new nr _)) (by omega) (bu1.trans (But.of (same_new nr _)))
end
/-! ### what is seen of a desk -/
def Ed.data : Ed → PyData
  | .put p c => .tuple [.str "put", .str (px p), .str (ch c)]
  | .cut p => .tuple [.str "cut", .str (px p)]
  | .label p c => .tuple [.str "label", .str (px p), .str (ch c)]
  | .turn p => .tuple [.str "turn", .str (px p)]
theorem Ed.dp {K : PySem.W.Frag} {H : Hp} {q : Addr} {e : Ed} (h : H q = some (.tup e.vals)) : Dp K H (.ref q) e.data := by
  cases e <;> first | exact .tup (SqT.of h) (.cons (.str _) (.cons (.str _) (.cons (.str _) .nil))) | exact .tup (SqT.of h) (.cons (.str _) (.cons (.str _) .nil))
theorem DpAll.snoc {K : PySem.W.Frag} {H : Hp} {v : V} {d : PyData} (hv : Dp K H v d) : ∀ {vs : List V} {ds : List PyData}, DpAll K H vs ds → DpAll K H (vs ++ [v]) (ds ++ [d])
  | _, _, .nil => .cons hv .nil
  | _, _, .cons a b => .cons a (DpAll.snoc hv b)
theorem EsAt.dp {K : PySem.W.Frag} {H : Hp} {vs : List V} {es : List Ed} (h : EsAt H vs es) : DpAll K H vs (es.map Ed.data) := by
  induction h with
  | nil => exact .nil
  | snoc _ b ih =>
    rw [List.map_append]
    exact DpAll.snoc (Ed.dp b) ih
def dSeen (t : B) (es : List Ed) : PyData := .tuple [t.data, .tuple (es.map Ed.data), .int (es.length : Int), .str (dtext t.size es.length), .int (es.length : Int), .int (t.size : Int), .str (tx (t.wk .first)), .str (tx (t.wk .between)), .str (tx (t.wk .last))]
theorem ok_t (xs : List PyData) : okR (.tuple xs) = okRs xs := by simp only [okR]
theorem ok_c (x : PyData) (xs : List PyData) : okRs (x :: xs) = (okR x && okRs xs) := by simp only [okRs]
theorem ok_e : okRs [] = true := by simp only [okRs]
theorem wt_t (xs : List PyData) : wtR (.tuple xs) = 3 + wtRs xs := by simp only [wtR]
theorem wt_c (x : PyData) (xs : List PyData) : wtRs (x :: xs) = wtR x + 2 + wtRs xs := by simp only [wtRs]
theorem wt_e : wtRs [] = 0 := by simp only [wtRs]
theorem dp_t (xs : List PyData) : (PyData.tuple xs).depth = PyData.depthAll xs + 1 := by simp only [PyData.depth]
theorem dp_c (x : PyData) (xs : List PyData) : PyData.depthAll (x :: xs) = max x.depth (PyData.depthAll xs) := by simp only [PyData.depthAll]
theorem dp_e : PyData.depthAll [] = 0 := by simp only [PyData.depthAll]
theorem dp_s (x : Str) : (PyData.str x).depth = 0 := by simp only [PyData.depth]
theorem dp_i (x : Int) : (PyData.int x).depth = 0 := by simp only [PyData.depth]
theorem wt_i (x : Int) : wtR (.int x) = 31 := by simp only [wtR]
theorem ok_i {n : Nat} (h : n < 64) : okR (.int (n : Int)) = true := by
  simp only [okR, Bool.and_eq_true, decide_eq_true_eq]
  omega
def Ed.fine (e : Ed) : Prop := okR e.data = true ∧ wtR e.data ≤ 300 ∧ e.data.depth ≤ 2
theorem low_lt {c : Nat} (h : isLow c = true) : c < 128 := by
  simp only [isLow, Bool.and_eq_true, decide_eq_true_eq] at h
  omega
theorem px_ok {p : List Bool} (h : p.length ≤ 12) : okR (.str (px p)) = true ∧ wtR (.str (px p)) ≤ 122 := by
  have e : (px p).cps.toList = p.map dir := rfl
  simp only [okR, wtR, Bool.and_eq_true, decide_eq_true_eq, List.all_eq_true, px_len]
  refine ⟨⟨by omega, fun c hc => ?_⟩, by omega⟩
  rw [e] at hc
  obtain ⟨b, _, rfl⟩ := List.mem_map.mp hc
  cases b <;> decide
theorem tx_ok {l : List Nat} (h : l.length ≤ 12) (hl : ∀ c ∈ l, isLow c = true) : okR (.str (tx l)) = true ∧ wtR (.str (tx l)) ≤ 122 := by
  have e : (tx l).cps.toList = l := rfl
  simp only [okR, wtR, Bool.and_eq_true, decide_eq_true_eq, List.all_eq_true, tx_len]
  refine ⟨⟨decide_eq_true (by omega), fun c hc => ?_⟩, by show 10 * l.length + 2 ≤ 122; omega⟩
  rw [e] at hc
  exact low_lt (hl c hc)
theorem ch_ok {c : Nat} (h : isLow c = true) : okR (.str (ch c)) = true ∧ wtR (.str (ch c)) = 12 := by
  have := (tx_ok (l := [c]) (show 1 ≤ 12 by decide) (fun d hd => by rw [List.mem_singleton.mp hd]; exact h)).1
  exact ⟨this, rfl⟩
theorem fine_of {t : B} {e : Ed} (h : Drawn t e) (z : t.size ≤ 12) : e.fine := by
  have k1 : okR (.str (Str.ofString "put")) = true ∧ wtR (.str (Str.ofString "put")) ≤ 60 := by decide +kernel
  have k2 : okR (.str (Str.ofString "cut")) = true ∧ wtR (.str (Str.ofString "cut")) ≤ 60 := by decide +kernel
  have k3 : okR (.str (Str.ofString "label")) = true ∧ wtR (.str (Str.ofString "label")) ≤ 60 := by decide +kernel
  have k4 : okR (.str (Str.ofString "turn")) = true ∧ wtR (.str (Str.ofString "turn")) ≤ 60 := by decide +kernel
  have pl : ∀ {p : List Bool} {u : B}, t.at p = some u → p.length ≤ 12 := fun h => by have := t.at_size _ h; omega
  unfold Ed.fine
  cases e with
  | put p c =>
    obtain ⟨hp, hc⟩ := h
    obtain ⟨a1, a2⟩ := px_ok (pl hp)
    obtain ⟨b1, b2⟩ := ch_ok hc
    show okR (.tuple [_, _, _]) = true ∧ wtR (.tuple [_, _, _]) ≤ 300 ∧ (PyData.tuple [_, _, _]).depth ≤ 2
    rw [ok_t, ok_c, ok_c, ok_c, ok_e, wt_t, wt_c, wt_c, wt_c, wt_e, dp_t, dp_c, dp_c, dp_c, dp_e, dp_s, dp_s, dp_s, a1, b1, k1.1]
    refine ⟨rfl, by omega, by decide⟩
  | cut p =>
    obtain ⟨u, hp, _⟩ := h
    obtain ⟨a1, a2⟩ := px_ok (pl hp)
    show okR (.tuple [_, _]) = true ∧ wtR (.tuple [_, _]) ≤ 300 ∧ (PyData.tuple [_, _]).depth ≤ 2
    rw [ok_t, ok_c, ok_c, ok_e, wt_t, wt_c, wt_c, wt_e, dp_t, dp_c, dp_c, dp_e, dp_s, dp_s, a1, k2.1]
    refine ⟨rfl, by omega, by decide⟩
  | label p c =>
    obtain ⟨⟨u, hp, _⟩, hc⟩ := h
    obtain ⟨a1, a2⟩ := px_ok (pl hp)
    obtain ⟨b1, b2⟩ := ch_ok hc
    show okR (.tuple [_, _, _]) = true ∧ wtR (.tuple [_, _, _]) ≤ 300 ∧ (PyData.tuple [_, _, _]).depth ≤ 2
    rw [ok_t, ok_c, ok_c, ok_c, ok_e, wt_t, wt_c, wt_c, wt_c, wt_e, dp_t, dp_c, dp_c, dp_c, dp_e, dp_s, dp_s, dp_s, a1, b1, k3.1]
    refine ⟨rfl, by omega, by decide⟩
  | turn p =>
    obtain ⟨u, hp, _⟩ := h
    obtain ⟨a1, a2⟩ := px_ok (pl hp)
    show okR (.tuple [_, _]) = true ∧ wtR (.tuple [_, _]) ≤ 300 ∧ (PyData.tuple [_, _]).depth ≤ 2
    rw [ok_t, ok_c, ok_c, ok_e, wt_t, wt_c, wt_c, wt_e, dp_t, dp_c, dp_c, dp_e, dp_s, dp_s, a1, k4.1]
    refine ⟨rfl, by omega, by decide⟩
theorem tree_fine : ∀ t : B, t.lts → okR t.data = true ∧ wtR t.data ≤ 25 * t.size + 4 ∧ t.data.depth ≤ t.size
  | .nil, _ => by
    refine ⟨rfl, ?_, ?_⟩
    · show wtR .none ≤ 4
      simp only [wtR]
      decide
    · show PyData.none.depth ≤ 0
      simp only [PyData.depth]
      decide
  | .node l x r, h => by
    obtain ⟨hx, hl, hr⟩ := B.lts_node.mp h
    obtain ⟨a1, a2, a3⟩ := tree_fine l hl
    obtain ⟨b1, b2, b3⟩ := tree_fine r hr
    obtain ⟨c1, c2⟩ := ch_ok hx
    show okR (.tuple [l.data, .str (ch x), r.data]) = true ∧ wtR (.tuple [l.data, .str (ch x), r.data]) ≤ 25 * (l.size + 1 + r.size) + 4 ∧ (PyData.tuple [l.data, .str (ch x), r.data]).depth ≤ l.size + 1 + r.size
    rw [ok_t, ok_c, ok_c, ok_c, ok_e, wt_t, wt_c, wt_c, wt_c, wt_e, dp_t, dp_c, dp_c, dp_c, dp_e, dp_s, a1, b1, c1]
    refine ⟨rfl, by omega, by omega⟩
theorem eds_fine : ∀ es : List Ed, (∀ e ∈ es, e.fine) → okRs (es.map Ed.data) = true ∧ wtRs (es.map Ed.data) ≤ 302 * es.length ∧ PyData.depthAll (es.map Ed.data) ≤ 2
  | [], _ => by
    show okRs [] = true ∧ wtRs [] ≤ 0 ∧ PyData.depthAll [] ≤ 2
    rw [ok_e, wt_e, dp_e]
    exact ⟨rfl, Nat.le_refl _, by decide⟩
  | e :: es, h => by
    obtain ⟨a1, a2, a3⟩ := eds_fine es fun x hx => h x (List.mem_cons_of_mem _ hx)
    obtain ⟨b1, b2, b3⟩ := h e List.mem_cons_self
    show okRs (e.data :: es.map Ed.data) = true ∧ wtRs (e.data :: es.map Ed.data) ≤ 302 * (es.length + 1) ∧ PyData.depthAll (e.data :: es.map Ed.data) ≤ 2
    rw [ok_c, wt_c, dp_c, a1, b1]
    exact ⟨rfl, by omega, by omega⟩
theorem dtext_ok : ∀ n : Fin 13, ∀ m : Fin 21, okR (.str (dtext n.val m.val)) = true ∧ wtR (.str (dtext n.val m.val)) ≤ 642 := by decide +kernel
theorem wk_low {t : B} (h : t.lts) (k : Kd) : ∀ c ∈ t.wk k, isLow c = true := by
  intro c hc
  refine h c ?_
  cases k with
  | first => exact hc
  | between => exact (t.mid_mem c).mp hc
  | last =>
    have post_mem : ∀ t : B, c ∈ t.post → c ∈ t.pre := by
      intro t
      induction t with
      | nil => exact id
      | node l x r h1 h2 =>
        intro hc
        have hc : c ∈ l.post ++ r.post ++ [x] := hc
        show c ∈ x :: (l.pre ++ r.pre)
        rcases List.mem_append.mp hc with hc | hc
        · rcases List.mem_append.mp hc with hc | hc
          · exact List.mem_cons_of_mem _ (List.mem_append_left _ (h1 hc))
          · exact List.mem_cons_of_mem _ (List.mem_append_right _ (h2 hc))
        · exact List.mem_cons.mpr (.inl (List.mem_singleton.mp hc))
    exact post_mem t hc
theorem seen_fine {t : B} {es : List Ed} (h1 : t.lts) (h2 : t.size ≤ 12) (h3 : ∀ e ∈ es, e.fine) (h4 : es.length ≤ 20) : okR (dSeen t es) = true ∧ wtR (dSeen t es) ≤ 20000 ∧ (dSeen t es).depth ≤ 20 := by
  obtain ⟨a1, a2, a3⟩ := tree_fine t h1
  obtain ⟨b1, b2, b3⟩ := eds_fine es h3
  obtain ⟨c1, c2⟩ := dtext_ok ⟨t.size, by omega⟩ ⟨es.length, by omega⟩
  have c1 : okR (.str (dtext t.size es.length)) = true := c1
  have c2 : wtR (.str (dtext t.size es.length)) ≤ 642 := c2
  have w : ∀ k : Kd, okR (.str (tx (t.wk k))) = true ∧ wtR (.str (tx (t.wk k))) ≤ 122 := fun k => tx_ok (by rw [t.wk_len]; exact h2) (wk_low h1 k)
  obtain ⟨d1, d2⟩ := w .first
  obtain ⟨e1, e2⟩ := w .between
  obtain ⟨f1, f2⟩ := w .last
  unfold dSeen
  simp only [ok_t, ok_c, ok_e, wt_t, wt_c, wt_e, dp_t, dp_c, dp_e, dp_s, dp_i, wt_i]
  rw [a1, b1, c1, d1, e1, f1, ok_i (show es.length < 64 by omega), ok_i (show t.size < 64 by omega)]
  exact ⟨rfl, by omega, by omega⟩
def spText2 : Sp := fun vs H Q _ => ∃ (v : V) (t : B) (m : Nat), vs = [v, .int (m : Int)] ∧ BAt H v t ∧ t.size ≤ 12 ∧ m ≤ 20 ∧ ∀ H', Same H H' → Q (.str (dtext t.size m)) H'
def spSeenL (C : Addr) : Sp := fun vs H Q _ => ∃ (a : Addr) (ts : List B) (t : B) (es : List Ed), vs = [.ref a] ∧ Dk C H a ts t es false ∧ t.size ≤ 12 ∧ es.length ≤ 20 ∧ ∀ (p : Addr) (H' : Hp), Same H H' → (∀ (K : PySem.W.Frag), Dp K H' (.ref p) (dSeen t es)) → Q (.ref p) H'
def spDueS : Sp := fun vs H Q _ => ∃ (v : V) (t : B) (d : Addr) (ds : List V) (es : List Ed), vs = [v, .ref d] ∧ BAt H v t ∧ H d = some (.tup ds) ∧ EsAt H ds es ∧ t.size ≤ 12 ∧ es.length ≤ 20 ∧ ∀ (p : Addr) (H' : Hp), Same H H' → (∀ (K : PySem.W.Frag), Dp K H' (.ref p) (dSeen t es)) → Q (.ref p) H'
def spEqual (K : PySem.W.Frag) : Sp := fun vs H Q _ => ∃ (a b : Addr) (d : PyData), vs = [.ref a, .ref b] ∧ Dp K H (.ref a) d ∧ Dp K H (.ref b) d ∧ okR d = true ∧ wtR d ≤ 1000000 ∧ d.depth ≤ 60 ∧ Q (.bl true) H
section
variable {P : Program} {w : World} {K : PySem.W.Frag} {mg : Str → Option Value} {base : Heap} {f : Addr} {fd : FuncData} {C : Addr}
theorem ok_text (F : Fun K "_law_text" "_law_text" s__law_text f fd) (M : Mgs mg) (D_law_paths : Df P w K mg base 1 "_law_paths" ["_law_tree_here"] spPaths) : FnOk P w K mg base CX0 2 f fd ["_law_tree_here", "_law_many"] spText2 := by
  refine F.ok (k := 1) sc__law_text (fun vs H Q E h => ?_) (fun cdv A outer s H vs Q E hr h => ?_)
  · obtain ⟨v, t, m, rfl, _⟩ := h
    rfl
  obtain ⟨v, t, m, rfl, ht, hz, hm, q⟩ := h
  refine ⟨_, (pss_one (ps_ret (pe_op op_add_str (pe_op op_add_str (pe_op op_add_str (pe_callTy call_str_int rfl M.str (by decide +kernel) (pa_cons (pe_callB call_len_seq rfl M.len PySem.boot_len (pa_cons (pe_ix ix_tup (pe_call D_law_paths.ok (hr.mono (by omega)) rfl D_law_paths.g D_law_paths.kp D_law_paths.b .nil pass0 (pa_cons (pv 0) pa_nil)) pe_int (fun _ _ => rfl)) pa_nil)) pa_nil)) pe_str) (pe_callTy call_str_int rfl M.str (by decide +kernel) (pa_cons (pv 1) pa_nil))) pe_str))), ?_⟩
  refine ⟨_, rfl, v, t, rfl, ht, hz, fun pa A B' H1 s1 np nA nB ep eA eB => ?_⟩
  refine ⟨pa, _, 0, _, rfl, rfl, SqT.of ep, atI_nat (j := 0) rfl, A, _, rfl, .inl (SqL.of eA), ?_⟩
  rw [List.length_map, B.nds_len]
  obtain ⟨n1, n2⟩ := dn12 t.size (by omega)
  obtain ⟨m1, m2⟩ := dn12 m (by omega)
  have l1 : (Str.ofString " nodes, ").length = 8 := by decide +kernel
  have l2 : (Str.ofString " edits").length = 6 := by decide +kernel
  have l3 : 31 + 8 + 31 + 6 ≤ 1000 := by decide
  refine ⟨_, rfl, n2, _, _, rfl, rfl, small (by rw [l1]; omega), _, rfl, _, rfl, m2, _, _, rfl, rfl, small (by rw [strLen_append, l1]; omega), _, _, rfl, rfl, small (by rw [strLen_append, strLen_append, l1, l2]; omega), q H1 s1⟩
theorem ok_equal {k : Nat} (F : Fun K "_law_equal" "_law_equal" s__law_equal f fd) (M : Mgs mg) : FnOkG P w K mg base (k + 1) f fd ["_law_one", "_law_other"] (spEqual K) := by
  refine fnG F sc__law_equal (fun vs H Q E h => ?_) (fun cdv A outer s H vs Q E gs hr h => ?_)
  · obtain ⟨a, b, d, rfl, _⟩ := h
    rfl
  obtain ⟨a, b, d, rfl, h1, h2, h3, h4, h5, q⟩ := h
  refine ⟨_, (pss_one (ps_ret (pe_cmpR op_eq (pe_callB (call_reprR gs hr.units) rfl M.repr (by decide +kernel) (pa_cons (pv 0) pa_nil)) (pe_callB (call_reprR gs hr.units) rfl M.repr (by decide +kernel) (pa_cons (pv 1) pa_nil)) (nomark _)))), ?_⟩
  refine ⟨_, rfl, a, d, rfl, h1, h3, h4, h5, _, rfl, b, d, rfl, h2, h3, h4, h5, rfl, ?_⟩
  rw [decide_eq_true (rfl : V.str d.shown = V.str d.shown)]
  exact q
end
/-! ### seen and due -/
def kds : List Kd := [.first, .between, .last]
section
variable {P : Program} {w : World} {K : PySem.W.Frag} {mg : Str → Option Value} {base : Heap} {f : Addr} {fd : FuncData} {C : Addr}
theorem ok_seen {ft gL gS : Addr} {fdt : FuncData} {dn : List Value} (F : Fun K "_law_seen" "_law_seen" s__law_seen f fd) (TD : DeskC K mg C) (M : Mgs mg)
    (Pver : PDf P w K mg base C 1 "version" (spVer C)) (Psize : PDf P w K mg base C 21 "size" (spSizeP C)) (Pfirst : PDf P w K mg base C 63 "first" (spWalkP C .first)) (Pbetw : PDf P w K mg base C 63 "between" (spWalkP C .between)) (Plast : PDf P w K mg base C 63 "last" (spWalkP C .last))
    (MT : Meth K C "tree" ft) (Ft : FnOk P w K mg base CX0 1 ft fdt ["self", "version"] (spTreeM C)) (bt : Binds K fdt ["self", "version"] dn) (vt : Vals [.non] dn) (Dedits : MDf P w K mg base C 1 "edits" ["self"] (spEditsM C))
    (cL : PySem.W.findIn K (.ref C) "__len__" = some (some (.ref gL))) (fL : PySem.W.isFn K (.ref gL) = true) (FL : FnR P w K mg base CX0 1 gL (spVer C)) (cS : PySem.W.findIn K (.ref C) "__str__" = some (some (.ref gS))) (fS : PySem.W.isFn K (.ref gS) = true) (FS : FnR P w K mg base CX0 21 gS (spStrD C)) :
    FnOk P w K mg base CX0 66 f fd ["_law_desk"] (spSeenL C) := by
  refine F.ok (k := 65) sc__law_seen (fun vs H Q E h => ?_) (fun cdv A outer s H vs Q E hr h => ?_)
  · obtain ⟨a, ts, t, es, rfl, _⟩ := h
    rfl
  obtain ⟨a, ts, t, es, rfl, dk, hz, he, q⟩ := h
  obtain ⟨dx, ta, td, vs, u, ds, h1, h2, h3, h4, h5, h6⟩ := id dk
  refine ⟨_, (pss_cons (ps_set (i := 1) sc__law_seen.nd rfl (.inl rfl) (pe_tup (pa_cons (pe_prop (pv 0) TD.cl Pver.pr Pver.ok (hr.mono (by omega)) Pver.b .nil (E := E0) (fun _ _ _ _ _ _ _ h => h.elim) rfl) (pa_cons (pe_prop (pv 0) TD.cl Psize.pr Psize.ok (hr.mono (by omega)) Psize.b .nil (E := E0) (fun _ _ _ _ _ _ _ h => h.elim) rfl) (pa_cons (pe_prop (pv 0) TD.cl Pfirst.pr Pfirst.ok (hr.mono (by omega)) Pfirst.b .nil (E := E0) (fun _ _ _ _ _ _ _ h => h.elim) rfl) (pa_cons (pe_prop (pv 0) TD.cl Pbetw.pr Pbetw.ok (hr.mono (by omega)) Pbetw.b .nil (E := E0) (fun _ _ _ _ _ _ _ h => h.elim) rfl) (pa_cons (pe_prop (pv 0) TD.cl Plast.pr Plast.ok (hr.mono (by omega)) Plast.b .nil (E := E0) (fun _ _ _ _ _ _ _ h => h.elim) rfl) pa_nil)))))))
    (pss_one (ps_ret (pe_op op_catA (pe_tup (pa_cons (pe_meth0 (pv 0) TD.cl MT Ft (hr.mono (by omega)) bt vt pass0) (pa_cons (pe_meth0 (pv 0) TD.cl Dedits.at_ Dedits.ok (hr.mono (by omega)) Dedits.b .nil pass0) (pa_cons (pe_callB (call_lenOwn cL fL FL (hr.mono (by omega))) rfl M.len PySem.boot_len (pa_cons (pv 0) pa_nil)) (pa_cons (pe_callTy (call_strOwn cS fS FS (hr.mono (by omega))) rfl M.str (by decide +kernel) (pa_cons (pv 0) pa_nil)) pa_nil))))) (pv 1))))), ?_⟩
  refine ⟨_, rfl, a, dx, _, rfl, h1, a, ts, t, es, false, rfl, dk, by omega, _, rfl, a, dx, _, rfl, h1, a, ts, t, es, false, rfl, dk, hz, _, rfl, a, dx, _, rfl, h1, a, ts, t, es, false, rfl, dk, hz, fun H1 s1 => ?_⟩
  refine ⟨_, rfl, a, dx, _, rfl, s1 _ _ h1, a, ts, t, es, false, rfl, dk.same s1, hz, fun H2 s2 => ?_⟩
  have s12 := s1.trans s2
  refine ⟨_, rfl, a, dx, _, rfl, s12 _ _ h1, a, ts, t, es, false, rfl, dk.same s12, hz, fun H3 s3 => ⟨(by show 5 ≤ sizeLine; decide), fun vp nvp => ?_⟩⟩
  have k4 := same_new nvp (.tup [.int (es.length : Int), .int (t.size : Int), .str (tx (t.wk .first)), .str (tx (t.wk .between)), .str (tx (t.wk .last))])
  have ev := upd_same (H := H3) (a := vp) (o := .tup [.int (es.length : Int), .int (t.size : Int), .str (tx (t.wk .first)), .str (tx (t.wk .between)), .str (tx (t.wk .last))])
  have s4 := s12.trans (s3.trans k4)
  generalize upd H3 vp (.tup [.int (es.length : Int), .int (t.size : Int), .str (tx (t.wk .first)), .str (tx (t.wk .between)), .str (tx (t.wk .last))]) = H4 at ev s4 ⊢
  have dk4 := dk.same s4
  have g1 := s4 _ _ h1
  have nl : ∀ {m : Str} (vt vd vb : V), (m == ("trees" : Str)) = false → (m == ("done" : Str)) = false → (m == ("busy" : Str)) = false → (deskF vt vd vb).lookup m = none := no_look
  refine ⟨_, rfl, a, dx, _, rfl, g1, nl _ _ _ (by decide +kernel) (by decide +kernel) (by decide +kernel), a, ts, t, es, false, rfl, dk4, fun v hv => ?_⟩
  refine ⟨_, rfl, a, dx, _, rfl, g1, nl _ _ _ (by decide +kernel) (by decide +kernel) (by decide +kernel), a, ts, t, es, false, rfl, dk4, fun d ds' ed hes => ?_⟩
  refine ⟨_, rfl, a, dx, _, rfl, g1, a, ts, t, es, false, rfl, dk4, by omega, _, rfl, by omega, by omega, ?_⟩
  refine ⟨_, rfl, a, dx, _, rfl, g1, a, ts, t, es, false, rfl, dk4, hz, by omega, _, rfl, (by show 4 ≤ sizeLine; decide), fun tp ntp => ?_⟩
  have k5 := same_new ntp (.tup [v, .ref d, .int (es.length : Int), .str (dtext t.size es.length)])
  refine ⟨_, rfl, tp, vp, _, _, rfl, rfl, SqT.of upd_same, SqT.of (k5 _ _ ev), (by show 4 + 5 ≤ sizeLine; decide), (fun z => nomatch z), (fun _ z => nomatch z), fun _ _ p np => ?_⟩
  have k6 := same_new np (.tup ([v, .ref d, .int (es.length : Int), .str (dtext t.size es.length)] ++ [.int (es.length : Int), .int (t.size : Int), .str (tx (t.wk .first)), .str (tx (t.wk .between)), .str (tx (t.wk .last))]))
  refine q p _ (s4.trans (k5.trans k6)) fun K' => ?_
  have hv6 := (hv.same (k5.trans k6)).dp (K := K')
  have he6 := (hes.keep (Tw.Same.keepT (k5.trans k6))).dp (K := K')
  exact .tup (SqT.of upd_same) (.cons hv6 (.cons (.tup (SqT.of ((k5.trans k6) _ _ ed)) he6) (.cons (.int _) (.cons (.str _) (.cons (.int _) (.cons (.int _) (.cons (.str _) (.cons (.str _) (.cons (.str _) .nil)))))))))
theorem ok_dueS (F : Fun K "_law_due_seen" "_law_due_seen" s__law_due_seen f fd) (M : Mgs mg) (D_law_labels : Df P w K mg base 20 "_law_labels" ["_law_tree_here", "_law_kind"] (spLabs 20)) (D_law_text : Df P w K mg base 2 "_law_text" ["_law_tree_here", "_law_many"] spText2) :
    FnOk P w K mg base CX0 21 f fd ["_law_tree_here", "_law_done"] spDueS := by
  refine F.ok (k := 20) sc__law_due_seen (fun vs H Q E h => ?_) (fun cdv A outer s H vs Q E hr h => ?_)
  · obtain ⟨v, t, d, ds, es, rfl, _⟩ := h
    rfl
  obtain ⟨v, t, d, ds, es, rfl, ht, ed, hes, hz, he, q⟩ := h
  refine ⟨_, (pss_cons (ps_set (i := 3) sc__law_due_seen.nd rfl (.inl rfl) (pe_callTy call_tuple_of rfl M.tuple (by decide +kernel) (pa_cons (pe_lc (own := [("_law_kind", 2)]) (g := gName 2) (tt := tYes) rfl sc__law_due_seen.nd (pi_range1 rfl M.range (pa_cons pe_int pa_nil)) (blkOk_by (N := ["_law_tree_here", "_law_done", "_law_kind", "_law_views"]) (sc := defScope s__law_due_seen) (by decide +kernel)) (fun _ _ _ _ _ => (pg_name (i := 2) sc__law_due_seen.nd rfl (.inl rfl))) (fun _ _ _ _ _ => pts_nil) (fun _ _ _ _ _ => (pe_call D_law_labels.ok (hr.mono (by omega)) rfl D_law_labels.g D_law_labels.kp D_law_labels.b .nil pass0 (pa_cons (pv 0) (pa_cons (pv 2) pa_nil))))) pa_nil)))
    (pss_one (ps_ret (pe_op op_catA (pe_tup (pa_cons (pv 0) (pa_cons (pv 1) (pa_cons (pe_callB call_len_seq rfl M.len PySem.boot_len (pa_cons (pv 1) pa_nil)) (pa_cons (pe_call D_law_text.ok (hr.mono (by omega)) rfl D_law_text.g D_law_text.kp D_law_text.b .nil pass0 (pa_cons (pv 0) (pa_cons (pe_callB call_len_seq rfl M.len PySem.boot_len (pa_cons (pv 1) pa_nil)) pa_nil))) (pa_cons (pe_callB call_len_seq rfl M.len PySem.boot_len (pa_cons (pv 1) pa_nil)) (pa_cons (pe_callB call_len_str rfl M.len PySem.boot_len (pa_cons (pe_ix ix_tup (pv 3) pe_int (fun _ _ => rfl)) pa_nil)) pa_nil))))))) (pv 3))))), ?_⟩
  refine ⟨3, rfl, by decide, by decide, fun D nD => ?_⟩
  have k1 := same_new nD (.lst [])
  refine lc_range (lo := 0) (n := 3) (fun i H' => Same H H' ∧ H' D = some (.lst ((kds.take i).map fun k => V.str (tx (t.wk k))))) ⟨k1, upd_same⟩ (fun i H' hi hp => ?_) (fun H' hp => ?_)
  · obtain ⟨sm, eD⟩ := hp
    obtain ⟨k, hk, hg⟩ : ∃ k : Kd, (0 + (i : Int)) = k.num ∧ kds[i]? = some k := by
      match i, hi with
      | 0, _ => exact ⟨.first, rfl, rfl⟩
      | 1, _ => exact ⟨.between, rfl, rfl⟩
      | 2, _ => exact ⟨.last, rfl, rfl⟩
    have hl : (kds.take i).length ≤ 3 := by rw [List.length_take]; exact Nat.min_le_right _ _
    refine ⟨rfl, kept ?_⟩
    refine ⟨_, rfl, _, rfl, v, t, k, (by rw [← hk]; rfl), ht.same sm, by omega, by omega, fun H1 s1 => ?_⟩
    refine ⟨_, s1 _ _ eD, by rw [List.length_map]; exact small1000 (by omega), fun b o e => ?_, ?_⟩
    · rw [upd_ne (ne_of_none e nD)]
      exact s1 _ _ (sm _ _ e)
    · rw [upd_same, take_next hg, List.map_append]
      rfl
  · obtain ⟨sm, eD⟩ := hp
    have eD : H' D = some (.lst [.str (tx (t.wk .first)), .str (tx (t.wk .between)), .str (tx (t.wk .last))]) := eD
    refine ⟨D, _, rfl, .inl ⟨SqL.of eD, fun vp nvp => ?_⟩⟩
    have k4 := same_new nvp (.tup [.str (tx (t.wk .first)), .str (tx (t.wk .between)), .str (tx (t.wk .last))])
    have ev := upd_same (H := H') (a := vp) (o := .tup [.str (tx (t.wk .first)), .str (tx (t.wk .between)), .str (tx (t.wk .last))])
    have s4 := sm.trans k4
    generalize upd H' vp (.tup [.str (tx (t.wk .first)), .str (tx (t.wk .between)), .str (tx (t.wk .last))]) = H4 at ev s4 ⊢
    have hl := hes.len
    refine ⟨_, rfl, _, rfl, _, rfl, d, ds, rfl, .inr (SqT.of (s4 _ _ ed)), _, rfl, _, rfl, d, ds, rfl, .inr (SqT.of (s4 _ _ ed)), v, t, es.length, (by rw [hl]; rfl), ht.same s4, hz, he, fun H5 s5 => ?_⟩
    have s45 := s4.trans s5
    refine ⟨_, rfl, d, ds, rfl, .inr (SqT.of (s45 _ _ ed)), _, rfl, vp, _, 0, _, rfl, rfl, SqT.of (s5 _ _ ev), atI_nat (j := 0) rfl, _, rfl, small (by rw [tx_len, t.wk_len]; omega), (by show 6 ≤ sizeLine; decide), fun tp ntp => ?_⟩
    rw [tx_len, t.wk_len, hl]
    have k5 := same_new ntp (.tup [v, .ref d, .int (es.length : Int), .str (dtext t.size es.length), .int (es.length : Int), .int (t.size : Int)])
    refine ⟨_, rfl, tp, vp, _, _, rfl, rfl, SqT.of upd_same, SqT.of (k5 _ _ (s5 _ _ ev)), (by show 6 + 3 ≤ sizeLine; decide), (fun z => nomatch z), (fun _ z => nomatch z), fun _ _ p np => ?_⟩
    have k6 := same_new np (.tup ([v, .ref d, .int (es.length : Int), .str (dtext t.size es.length), .int (es.length : Int), .int (t.size : Int)] ++ [.str (tx (t.wk .first)), .str (tx (t.wk .between)), .str (tx (t.wk .last))]))
    have sA := s45.trans (k5.trans k6)
    refine q p _ sA fun K' => ?_
    exact .tup (SqT.of upd_same) (.cons (ht.same sA).dp (.cons (.tup (SqT.of (sA _ _ ed)) (hes.keep (Tw.Same.keepT sA)).dp) (.cons (.int _) (.cons (.str _) (.cons (.int _) (.cons (.int _) (.cons (.str _) (.cons (.str _) (.cons (.str _) .nil)))))))))
end
/-! ### the law -/
theorem rd_same {H H' : Hp} {a : Addr} {u : HO} (k : Same H H') (h : Rd H a u) : Rd H' a u := by
  rcases h with h | ⟨o, h⟩
  · exact .inl (k _ _ h)
  · exact .inr ⟨o, k _ _ h⟩
theorem sqL_same {K : PySem.W.Frag} {H H' : Hp} {a : Addr} {xs : List V} (k : Same H H') (h : SqL K H a xs) : SqL K H' a xs := h.imp (rd_same k) id
theorem sqT_same {K : PySem.W.Frag} {H H' : Hp} {a : Addr} {xs : List V} (k : Same H H') (h : SqT K H a xs) : SqT K H' a xs := h.imp (rd_same k) id
mutual
theorem dp_same {K : PySem.W.Frag} {H H' : Hp} (k : Same H H') : ∀ (d : PyData) (v : V), Dp K H v d → Dp K H' v d
  | .none, _, h => by cases h; exact .non
  | .bool _, _, h => by cases h; exact .bl _
  | .int _, _, h => by cases h; exact .int _
  | .str _, _, h => by cases h; exact .str _
  | .list ds, _, h => by
    cases h with
    | lst q hs => exact .lst (sqL_same k q) (dpA_same k ds _ hs)
  | .tuple ds, _, h => by
    cases h with
    | tup q hs => exact .tup (sqT_same k q) (dpA_same k ds _ hs)
  | .dict _, _, h => by cases h
theorem dpA_same {K : PySem.W.Frag} {H H' : Hp} (k : Same H H') : ∀ (ds : List PyData) (vs : List V), DpAll K H vs ds → DpAll K H' vs ds
  | [], _, h => by cases h; exact .nil
  | d :: ds, _, h => by
    cases h with
    | cons a b => exact .cons (dp_same k d _ a) (dpA_same k ds _ b)
end
theorem catA_any {K : PySem.W.Frag} {H : Hp} {a b : Addr} {xs ys : List V} {Q : VK} (hx : H a = some (.tup xs)) (hy : H b = some (.tup ys)) (hz : xs.length + ys.length ≤ sizeLine)
    (q : ∀ (p : Addr) (H' : Hp), Same H H' → H' p = some (.tup (xs ++ ys)) → Q (.ref p) H') : rCatA K (.ref a) (.ref b) H Q :=
  ⟨a, b, xs, ys, rfl, rfl, SqT.of hx, SqT.of hy, hz, fun e => q b H (Same.refl H) (by rw [e]; exact hy), fun _ e => q a H (Same.refl H) (by rw [e, List.append_nil]; exact hx), fun _ _ p np => q p _ (same_new np _) upd_same⟩
theorem Dk.apart {C a b : Addr} {H H' : Hp} {ts : List B} {t : B} {es : List Ed} {bu : Bool} {xs : List V} (k : But b H H') (eb : H b = some (.lst xs)) (d : Dk C H a ts t es bu) : Dk C H' a ts t es bu := by
  obtain ⟨dx, ta, td, vs, v, ds, h1, h2, h3, h4, h5, h6⟩ := d
  have kt : KeepT H H' := But.keepL eb k
  exact ⟨dx, ta, td, vs, v, ds, k _ _ (ne_of h1 eb (by intro z; cases z)) h1, kt _ _ h2, kt _ _ h3, h4.keep kt, h5.keep kt, h6.keep kt⟩
section
variable {P : Program} {w : World} {K : PySem.W.Frag} {mg : Str → Option Value} {base : Heap} {f : Addr} {fd : FuncData} {C : Addr}
theorem run_law {s : Shared} {H : Hp} {a fi fv : Addr} {ns : List Int} {fdi fdv : FuncData} {dv : List Value} (F : Fun K "law" "law" s_law f fd) (bd : BindsTo s fd ⟨[.ref a], []⟩ [("_law_script", .ref a)]) (en : Env0 P w K mg base callerA [] s H) (hS : SqL K H a (ns.map V.int))
    (M : Mgs mg) (TD : DeskC K mg C) (D_law_stream : Df P w K mg base 1 "_law_stream" ["_law_script", "_law_turn"] (spStream K)) (D_law_tree : Df P w K mg base 22 "_law_tree" ["_law_stream_here", "_law_top"] spTreeL) (MK : Mk K C fi) (Fi : FnOk P w K mg base CX0 4 fi fdi ["self", "tree"] (spInitD C)) (bi : Binds K fdi ["self", "tree"] [])
    (D_law_equal : DfG P w K mg base 1 "_law_equal" ["_law_one", "_law_other"] (spEqual K)) (D_law_seen : Df P w K mg base 66 "_law_seen" ["_law_desk"] (spSeenL C)) (D_law_due_seen : Df P w K mg base 21 "_law_due_seen" ["_law_tree_here", "_law_done"] spDueS) (D_law_take : Df P w K mg base 1 "_law_take" ["_law_stream_here", "_law_many"] spTake1)
    (Fv : FnOk P w K mg base CX0 23 fv fdv ["_law_stream_here", "_law_tree_here", "_law_top"] spValid) (gv : mg "_law_valid_edit" = some (.ref fv)) (kv : PySem.W.keepIn K (.ref fv) = true) (bv : Binds K fdv ["_law_stream_here", "_law_tree_here", "_law_top"] dv) (vv : Vals [.int 13] dv)
    (D_law_do : Df P w K mg base 27 "_law_do" ["_law_desk", "_law_edit"] (spCalled C)) (D_law_due : Df P w K mg base 22 "_law_due" ["_law_tree_here", "_law_edit"] spDueL) :
    codeAny (model P w) callerA (.call (.ref f) ⟨[.ref a], []⟩) (CR CX0 [] P w H s (fun v _ => v = .bl true) fun _ _ _ => False) s := by
  refine enter_def (k := 67) (vs := [.ref a]) (us := [.ref a]) F sc_law ⟨rfl, by decide, by decide⟩ en bd (.cons rfl .nil) rfl fun cdv hr => ?_
  refine ⟨_, (pss_cons (ps_for PassesOwn.never rfl (pi_range1 rfl M.range (pa_cons pe_int pa_nil)) (pg_name (i := 1) sc_law.nd rfl (.inl rfl))
      (pss_cons (ps_set (i := 2) sc_law.nd rfl (.inl rfl) (pe_call D_law_stream.ok (hr.mono (by omega)) rfl D_law_stream.g D_law_stream.kp D_law_stream.b .nil pass0 (pa_cons (pv 0) (pa_cons (pv 1) pa_nil))))
    (pss_cons (ps_set (i := 3) sc_law.nd rfl (.inl rfl) (pe_call D_law_tree.ok (hr.mono (by omega)) rfl D_law_tree.g D_law_tree.kp D_law_tree.b .nil pass0 (pa_cons (pv 2) (pa_cons pe_int pa_nil))))
    (pss_cons (ps_par (i := 4) (j := 5) (by rfl) sc_law.nd rfl rfl (by decide) rfl rfl (pa_cons (pe_make MK Fi (hr.mono (by omega)) rfl TD.g bi .nil pass0 (pa_cons (pv 3) pa_nil)) (pa_cons (pe_tup pa_nil) pa_nil)) (by rfl))
    (pss_cons (ps_if (pt_not (pt_val (pe_callG D_law_equal.ok rfl (hr.mono (by omega)) rfl D_law_equal.g D_law_equal.kp D_law_equal.b (pa_cons (pe_call D_law_seen.ok (hr.mono (by omega)) rfl D_law_seen.g D_law_seen.kp D_law_seen.b .nil pass0 (pa_cons (pv 4) pa_nil)) (pa_cons (pe_call D_law_due_seen.ok (hr.mono (by omega)) rfl D_law_due_seen.g D_law_due_seen.kp D_law_due_seen.b .nil pass0 (pa_cons (pv 3) (pa_cons (pv 5) pa_nil))) pa_nil)))))
      (pss_one (ps_ret pe_bl)) pss_nil)
    (pss_one (ps_for PassesOwn.never rfl (pi_range1 rfl M.range (pa_cons (pe_op op_add pe_int (pe_call D_law_take.ok (hr.mono (by omega)) rfl D_law_take.g D_law_take.kp D_law_take.b .nil pass0 (pa_cons (pv 2) (pa_cons pe_int pa_nil)))) pa_nil)) (pg_name (i := 6) sc_law.nd rfl (.inl rfl))
      (pss_cons (ps_set (i := 7) sc_law.nd rfl (.inl rfl) (pe_call Fv (hr.mono (by omega)) rfl gv kv bv vv pass0 (pa_cons (pv 2) (pa_cons (pv 3) pa_nil))))
    (pss_cons (ps_set (i := 8) sc_law.nd rfl (.inl rfl) (pe_callB (call_reprR rfl hr.units) rfl M.repr (by decide +kernel) (pa_cons (pe_tup (pa_cons (pv 7) (pa_cons (pv 3) pa_nil))) pa_nil)))
    (pss_cons (ps_set (i := 9) sc_law.nd rfl (.inl rfl) (pe_call D_law_do.ok (hr.mono (by omega)) rfl D_law_do.g D_law_do.kp D_law_do.b .nil pass0 (pa_cons (pv 4) (pa_cons (pv 7) pa_nil))))
    (pss_cons (ps_if (pt_cmpR op_ne (pe_callB (call_reprR rfl hr.units) rfl M.repr (by decide +kernel) (pa_cons (pe_tup (pa_cons (pv 7) (pa_cons (pv 3) pa_nil))) pa_nil)) (pv 8) (nomark _))
      (pss_one (ps_ret pe_bl)) pss_nil)
    (pss_cons (ps_par (i := 3) (j := 5) (by rfl) sc_law.nd rfl rfl (by decide) rfl rfl (pa_cons (pe_ix ix_tup (pe_call D_law_due.ok (hr.mono (by omega)) rfl D_law_due.g D_law_due.kp D_law_due.b .nil pass0 (pa_cons (pv 3) (pa_cons (pv 7) pa_nil))) pe_int (fun _ _ => rfl)) (pa_cons (pe_op op_catA (pv 5) (pe_tup (pa_cons (pv 7) pa_nil))) pa_nil)) (by rfl))
    (pss_one (ps_if (pt_not (pt_val (pe_callG D_law_equal.ok rfl (hr.mono (by omega)) rfl D_law_equal.g D_law_equal.kp D_law_equal.b (pa_cons (pe_tup (pa_cons (pv 9) (pa_cons (pe_call D_law_seen.ok (hr.mono (by omega)) rfl D_law_seen.g D_law_seen.kp D_law_seen.b .nil pass0 (pa_cons (pv 4) pa_nil)) pa_nil))) (pa_cons (pe_tup (pa_cons (pe_callB call_len_seq rfl M.len PySem.boot_len (pa_cons (pv 5) pa_nil)) (pa_cons (pe_call D_law_due_seen.ok (hr.mono (by omega)) rfl D_law_due_seen.g D_law_due_seen.kp D_law_due_seen.b .nil pass0 (pa_cons (pv 3) (pa_cons (pv 5) pa_nil))) pa_nil))) pa_nil)))))
      (pss_one (ps_ret pe_bl)) pss_nil))))))))))))))
    (pss_one (ps_ret pe_bl))), ?_⟩
  refine ⟨3, rfl, by decide, by decide, ?_⟩
  refine for_range (lo := 0) (n := 3) (fun i σ H' => ∃ y1 y2 y3 y4 y5 y6 y7 y8 y9 : Option V, σ = [some (.ref a), y1, y2, y3, y4, y5, y6, y7, y8, y9] ∧ Same H H') ⟨none, none, none, none, none, none, none, none, none, rfl, Same.refl _⟩ (fun i σ H1 hi hp => ?_) (fun σ H1 hp => ?_)
  · obtain ⟨y1, y2, y3, y4, y5, y6, y7, y8, y9, rfl, s1⟩ := hp
    refine ⟨_, rfl, _, rfl, a, ns, i, (by rw [Int.zero_add]; rfl), sqL_same s1 hS, by omega, fun sa H2 nsa s2 st2 => ?_⟩
    refine ⟨_, rfl, sa, 0, 12, rfl, st2, by decide, by decide, by decide, fun v t n3 H3 b3 z0 z1 l3 st3 hn3 bu3 => ?_⟩
    refine ⟨_, rfl, fun ad dx nad ndx ndd => ?_⟩
    have kA := same_new ndx (.own ad)
    have nad' : (upd H3 dx (.own ad)) ad = none := by rw [upd_ne ndd.symm]; exact nad
    have kB := same_new nad' (.ins C dx [])
    have k4 := kA.trans kB
    have hn0 : t ≠ .nil := nd_nil.mpr z0
    refine ⟨ad, dx, v, t, rfl, upd_same, b3.same k4, hn0, l3, by omega, fun H5 b5 dk5 => ⟨rfl, ?_⟩⟩
    have bu35 : Same H3 H5 := fun b o e => b5 b o (fun z => by rw [z, nad] at e; cases e) (k4 b o e)
    have b5v := b3.same bu35
    have st5 := st3.same bu35
    have nsH : H sa = none := by
      cases e : H sa with
      | none => rfl
      | some o => rw [s1 _ _ e] at nsa; cases nsa
    have s15 : Same H H5 := fun b o e => bu35 _ _ (bu3 _ _ (fun z => by rw [z, nsH] at e; cases e) (s2 _ _ (s1 _ _ e)))
    have nadH : H ad = none := by
      cases e : H ad with
      | none => rfl
      | some o => rw [bu3 _ _ (fun z => by rw [z, nsH] at e; cases e) (s2 _ _ (s1 _ _ e))] at nad; cases nad
    refine ⟨(by show 0 ≤ sizeLine; decide), fun d0 nd0 => ⟨_, _, rfl, ?_⟩⟩
    have k6 := same_new nd0 (.tup [])
    have ed0 := upd_same (H := H5) (a := d0) (o := .tup [])
    have dk6 := dk5.same k6
    have b6 := b5v.same k6
    have st6 := st5.same k6
    have s16 := s15.trans k6
    generalize upd H5 d0 (.tup []) = H6 at ed0 dk6 b6 st6 s16 ⊢
    obtain ⟨f1, f2, f3⟩ := seen_fine (es := []) l3 (show t.size ≤ 12 by omega) (fun e h => nomatch h) (by decide)
    refine ⟨_, rfl, ad, [], t, [], rfl, dk6, by omega, by decide, fun p1 H7 s7 g7 => ?_⟩
    refine ⟨_, rfl, _, rfl, v, t, d0, [], [], rfl, b6.same s7, s7 _ _ ed0, .nil, by omega, by decide, fun p2 H8 s8 g8 => ?_⟩
    refine ⟨p1, p2, dSeen t [], rfl, dp_same s8 _ _ (g7 K), g8 K, f1, by omega, by omega, _, rfl, iteF ?_⟩
    have s68 := s7.trans s8
    have dk8 := dk6.same s68
    have b8 := b6.same s68
    have st8 := st6.same s68
    have ed8 := s68 _ _ ed0
    have s18 := s16.trans s68
    refine ⟨_, rfl, sa, n3, 14, rfl, st8, by omega, by decide, by decide, fun nj n9 H9 l9 st9 hn9 bu9 => ?_⟩
    obtain ⟨xs8, es8⟩ := st8.lst
    have dk9 := dk8.apart bu9 es8
    have b9 := b8.keep (But.keepL es8 bu9)
    have ed9 := But.keepL es8 bu9 _ _ ed8
    have s19 : Same H H9 := fun b o e => bu9 _ _ (fun z => by rw [z, nsH] at e; cases e) (s18 _ _ e)
    refine ⟨_, _, rfl, rfl, (1 + (nj : Int)), rfl, by omega, by omega, ?_⟩
    have es : (1 + (nj : Int)) = ((1 + nj : Nat) : Int) := by omega
    rw [es]
    refine for_range (lo := 0) (n := 1 + nj) (fun j σ H' => ∃ (vt : V) (t : B) (ts : List B) (es : List Ed) (d : Addr) (ds : List V) (n' : Nat) (y6 y7 y8 y9 : Option V), σ = [some (.ref a), some (.int (0 + (i : Int))), some (.ref sa), some vt, some (.ref ad), some (.ref d), y6, y7, y8, y9] ∧
      Dk C H' ad ts t es false ∧ BAt H' vt t ∧ t.lts ∧ 1 ≤ t.size ∧ t.size ≤ 12 ∧ H' d = some (.tup ds) ∧ EsAt H' ds es ∧ es.length = j ∧ ts.length = j ∧ (∀ e ∈ es, e.fine) ∧ Strm H' sa n' ∧ n' ≤ 1000 + 100 * j ∧ Same H H')
      ⟨v, t, [], [], d0, [], n9, _, _, _, _, rfl, dk9, b9, l3, z0, z1, ed9, .nil, rfl, rfl, (fun e h => nomatch h), st9, by omega, s19⟩ (fun j σ Ha hj hp => ?_) (fun σ Ha hp => ?_)
    · obtain ⟨vt, t, ts, es, d, ds, n', x6, x7, x8, x9, rfl, dk, b, lt, z0, z1, ed, hes, le, lts, fe, st, hn, sH⟩ := hp
      refine ⟨_, rfl, _, rfl, sa, n', vt, t, rfl, st, by omega, b, z0, z1, fun q e t' nb Hb he hd does stb hnb bub => ?_⟩
      obtain ⟨xs, esa⟩ := st.lst
      have ktb := But.keepL esa bub
      have dkb := dk.apart bub esa
      have bb := b.keep ktb
      have edb := ktb _ _ ed
      have hesb := hes.keep ktb
      have sHb : Same H Hb := fun b o e => bub _ _ (fun z => by rw [z, nsH] at e; cases e) (sH _ _ e)
      have fe' := fine_of hd z1
      obtain ⟨g1, g2, g3⟩ := tree_fine t lt
      have two : okR (.tuple [e.data, t.data]) = true ∧ wtR (.tuple [e.data, t.data]) ≤ 1000000 ∧ (PyData.tuple [e.data, t.data]).depth ≤ 60 := by
        obtain ⟨h1, h2, h3⟩ := fe'
        simp only [ok_t, ok_c, ok_e, wt_t, wt_c, wt_e, dp_t, dp_c, dp_e]
        rw [h1, g1]
        exact ⟨rfl, by omega, by omega⟩
      refine ⟨_, rfl, _, rfl, (by show 2 ≤ sizeLine; decide), fun r nr => ?_⟩
      have kc := same_new nr (.tup [.ref q, vt])
      refine ⟨r, .tuple [e.data, t.data], rfl, .tup (SqT.of upd_same) (.cons (Ed.dp (kc _ _ he)) (.cons (bb.same kc).dp .nil)), two.1, two.2.1, two.2.2, ?_⟩
      have dkc := dkb.same kc
      have bc := bb.same kc
      have edc := kc _ _ edb
      have hesc := hesb.keep (Tw.Same.keepT kc)
      have sHc := sHb.trans kc
      have hec := kc _ _ he
      have stc := stb.same kc
      generalize upd Hb r (.tup [.ref q, vt]) = Hc at dkc bc edc hesc sHc hec stc ⊢
      refine ⟨_, rfl, _, rfl, ad, q, ts, t, t', es, e, rfl, dkc, hec, does, by omega, by omega, lt, z1, nd_nil.mpr z0, fun Hd bud dkd => ?_⟩
      have ktd := bud.keepT dkc
      have bd := bc.keep ktd
      have edd := ktd _ _ edc
      have hesd := hesc.keep ktd
      have hedd := ktd _ _ hec
      have sHd : Same H Hd := fun b o e => bud _ _ (fun z => by rw [z, nadH] at e; cases e) (sHc _ _ e)
      have std : Strm Hd sa nb := by
        obtain ⟨dx, ta, td, vs, u, ds', h1, _⟩ := dkc
        obtain ⟨r', c, er, cc⟩ := stc
        exact ⟨r', c, bud _ _ (fun z => by rw [z, h1] at er; cases er) er, cc⟩
      refine ⟨_, rfl, _, rfl, (by show 2 ≤ sizeLine; decide), fun r nr => ?_⟩
      have ke := same_new nr (.tup [.ref q, vt])
      refine ⟨r, .tuple [e.data, t.data], rfl, .tup (SqT.of upd_same) (.cons (Ed.dp (ke _ _ hedd)) (.cons (bd.same ke).dp .nil)), two.1, two.2.1, two.2.2, _, rfl, rfl, _, rfl, ?_⟩
      have e0 : ∀ x : Str, (!decide (V.str x = V.str x)) = false := fun x => by rw [decide_eq_true rfl]; rfl
      rw [e0]
      refine iteF ?_
      have dke := dkd.same ke
      have be := bd.same ke
      have ede := ke _ _ edd
      have hese := hesd.keep (Tw.Same.keepT ke)
      have hee := ke _ _ hedd
      have sHe := sHd.trans ke
      have ste := std.same ke
      generalize upd Hd r (.tup [.ref q, vt]) = He at dke be ede hese hee sHe ste ⊢
      obtain ⟨lt', z1', hn'⟩ := does.good lt z1 (nd_nil.mpr z0)
      have z0' := nd_nil.mp hn'
      refine ⟨_, rfl, _, rfl, vt, t, q, e, rfl, be, z1, hee, hd, fun r2 Hf sf du => ?_⟩
      obtain ⟨v2, hr2, b2⟩ : ∃ v2, Hf r2 = some (.tup [.str "state", v2]) ∧ BAt Hf v2 t' := by
        rcases du with ⟨t'', v2, d2, h, b⟩ | ⟨no, _⟩
        · rw [Does.same does d2] at b
          exact ⟨v2, h, b⟩
        · exact absurd does (no _)
      have dsl := hese.len
      refine ⟨r2, _, 1, _, rfl, rfl, SqT.of hr2, atI_nat (j := 1) rfl, _, rfl, _, rfl, (by show 1 ≤ sizeLine; decide), fun r3 nr3 => ?_⟩
      have kg := same_new nr3 (.tup [.ref q])
      refine catA_any (kg _ _ (sf _ _ ede)) upd_same (small (by rw [dsl]; show es.length + 1 ≤ 1000; omega)) fun d' Hh sh edh => ?_
      have seh := sf.trans (kg.trans sh)
      have dkh := dke.same seh
      have bh := b2.same (kg.trans sh)
      have hesh : EsAt Hh (ds ++ [.ref q]) (es ++ [e]) := .snoc (hese.keep (Tw.Same.keepT seh)) (seh _ _ hee)
      have sHh := sHe.trans seh
      have sth := ste.same seh
      have len' : (es ++ [e]).length = es.length + 1 := by rw [List.length_append]; rfl
      have fe2 : ∀ x ∈ es ++ [e], x.fine := fun x hx => by
        rcases List.mem_append.mp hx with hx | hx
        · exact fe x hx
        · rw [List.mem_singleton.mp hx]; exact fe'
      obtain ⟨f1, f2, f3⟩ := seen_fine lt' z1' fe2 (show (es ++ [e]).length ≤ 20 by omega)
      have pr : okR (.tuple [.int ((es.length + 1 : Nat) : Int), dSeen t' (es ++ [e])]) = true ∧ wtR (.tuple [.int ((es.length + 1 : Nat) : Int), dSeen t' (es ++ [e])]) ≤ 1000000 ∧ (PyData.tuple [.int ((es.length + 1 : Nat) : Int), dSeen t' (es ++ [e])]).depth ≤ 60 := by
        simp only [ok_t, ok_c, ok_e, wt_t, wt_c, wt_e, dp_t, dp_c, dp_e, dp_i, wt_i]
        rw [f1, ok_i (show es.length + 1 < 64 by omega)]
        exact ⟨rfl, by omega, by omega⟩
      refine ⟨_, _, rfl, ?_⟩
      refine ⟨_, rfl, _, rfl, ad, ts ++ [t], t', es ++ [e], rfl, dkh, z1', by omega, fun p1 Hi si gi => ⟨(by show 2 ≤ sizeLine; decide), fun u1 nu1 => ?_⟩⟩
      have ki := same_new nu1 (.tup [.int ((es.length + 1 : Nat) : Int), .ref p1])
      have eu1 := upd_same (H := Hi) (a := u1) (o := .tup [.int ((es.length + 1 : Nat) : Int), .ref p1])
      have gi1 := dp_same ki _ _ (gi K)
      have shi := si.trans ki
      generalize upd Hi u1 (.tup [.int ((es.length + 1 : Nat) : Int), .ref p1]) = Hk at eu1 gi1 shi ⊢
      have dl : (ds ++ [V.ref q]).length = es.length + 1 := by rw [List.length_append, dsl]; rfl
      refine ⟨_, rfl, d', _, rfl, .inr (SqT.of (shi _ _ edh)), _, rfl, _, rfl, v2, t', d', _, es ++ [e], rfl, bh.same shi, shi _ _ edh, hesh.keep (Tw.Same.keepT shi), z1', by omega, fun p2 Hl sl gl => ⟨(by show 2 ≤ sizeLine; decide), fun u2 nu2 => ?_⟩⟩
      rw [dl]
      have km := same_new nu2 (.tup [.int ((es.length + 1 : Nat) : Int), .ref p2])
      refine ⟨u1, u2, .tuple [.int ((es.length + 1 : Nat) : Int), dSeen t' (es ++ [e])], rfl, .tup (SqT.of ((sl.trans km) _ _ eu1)) (.cons (.int _) (.cons (dp_same (sl.trans km) _ _ gi1) .nil)), .tup (SqT.of upd_same) (.cons (.int _) (.cons (dp_same km _ _ (gl K)) .nil)), pr.1, pr.2.1, pr.2.2, _, rfl, iteF ?_⟩
      have shn := shi.trans (sl.trans km)
      exact ⟨v2, t', ts ++ [t], es ++ [e], d', ds ++ [.ref q], nb, _, _, _, _, rfl, dkh.same shn, bh.same shn, lt', z0', z1', shn _ _ edh, hesh.keep (Tw.Same.keepT shn), by omega, by rw [List.length_append, lts]; rfl, fe2, sth.same shn, by omega, sHh.trans shn⟩
    · obtain ⟨vt, t, ts, es, d, ds, n', x6, x7, x8, x9, rfl, dk, b, lt, z0, z1, ed, hes, le, lts, fe, st, hn, sH⟩ := hp
      exact ⟨_, _, _, _, _, _, _, _, _, rfl, sH⟩
  · obtain ⟨y1, y2, y3, y4, y5, y6, y7, y8, y9, rfl, s1⟩ := hp
    rfl
end
theorem bd_of_law_some_edit {K : PySem.W.Frag} {g : Addr} {fd : FuncData} (FD : FunD K "_law_some_edit" "_law_some_edit" (defArgs s__law_some_edit) (defBody s__law_some_edit) (defScope s__law_some_edit) [.int 13] [] g fd) : ∃ ds, Vals [.int 13] ds ∧ Binds K fd ["_law_stream_here", "_law_tree_here", "_law_top"] ds := FD.binds1 (ps := ["_law_stream_here", "_law_tree_here", "_law_top"]) 2 0 (by simp) rfl (fun T kV doc pm an cdv ct us its h1 h2 => match us, its, h1, h2 with | [_, _], [_], _, _ => ⟨_, rfl, rfl⟩)
theorem b_of_law_some_edit {K : PySem.W.Frag} {g : Addr} {fd : FuncData} (FD : FunD K "_law_some_edit" "_law_some_edit" (defArgs s__law_some_edit) (defBody s__law_some_edit) (defScope s__law_some_edit) [.int 13] [] g fd) : Binds K fd ["_law_stream_here", "_law_tree_here", "_law_top"] [] := by
  obtain ⟨dz, vz, bz⟩ := FD.binds1 (ps := ["_law_stream_here", "_law_tree_here", "_law_top"]) 3 1 (by simp) rfl (fun T kV doc pm an cdv ct us its h1 h2 => match us, its, h1, h2 with | [_, _, _], [_], _, _ => ⟨_, rfl, rfl⟩)
  cases vz
  exact bz
theorem bd_of_law_valid_edit {K : PySem.W.Frag} {g : Addr} {fd : FuncData} (FD : FunD K "_law_valid_edit" "_law_valid_edit" (defArgs s__law_valid_edit) (defBody s__law_valid_edit) (defScope s__law_valid_edit) [.int 13] [] g fd) : ∃ ds, Vals [.int 13] ds ∧ Binds K fd ["_law_stream_here", "_law_tree_here", "_law_top"] ds := FD.binds1 (ps := ["_law_stream_here", "_law_tree_here", "_law_top"]) 2 0 (by simp) rfl (fun T kV doc pm an cdv ct us its h1 h2 => match us, its, h1, h2 with | [_, _], [_], _, _ => ⟨_, rfl, rfl⟩)
theorem b_of_law_valid_edit {K : PySem.W.Frag} {g : Addr} {fd : FuncData} (FD : FunD K "_law_valid_edit" "_law_valid_edit" (defArgs s__law_valid_edit) (defBody s__law_valid_edit) (defScope s__law_valid_edit) [.int 13] [] g fd) : Binds K fd ["_law_stream_here", "_law_tree_here", "_law_top"] [] := by
  obtain ⟨dz, vz, bz⟩ := FD.binds1 (ps := ["_law_stream_here", "_law_tree_here", "_law_top"]) 3 1 (by simp) rfl (fun T kV doc pm an cdv ct us its h1 h2 => match us, its, h1, h2 with | [_, _, _], [_], _, _ => ⟨_, rfl, rfl⟩)
  cases vz
  exact bz
/-! ### what the top has left -/
theorem all_mk {l : PySem.W.OpenLaw} {w : World} {K : PySem.W.Frag} {h : Heap} {mg : Str → Option Value} {fa f1 f2 f3 f4 f5 f6 f7 f8 f9 f10 f11 f12 f13 f14 f15 f16 f17 f18 f19 f20 f21 f22 f23 f24 f25 f26 f27 f28 f29 f30 f31 f32 f33 f34 f35 f36 f37 f38 f39  : Addr} (X : K.In h) (G : h.Ns mainGlobals mg) (hfa : mg "law" = some (.ref fa))
    {od1 an1 od2 an2 od3 an3 od4 an4 od5 an5 od6 an6 od7 an7 od8 an8 od9 an9 od10 an10 od11 an11 od12 an12 od13 an13 od14 an14 od15 an15 od16 an16 od17 an17 od18 an18 od19 an19 od20 an20 od21 an21 od22 an22 od23 an23 od24 an24 od25 an25 od26 an26 od27 an27 od28 an28 od29 an29 od30 an30 od31 an31 od32 an32 od33 an33 od34 an34 od35 an35 od36 an36 od37 an37 od38 an38 od39 an39 : Option Addr} {sl1 sl2 sl3 sl4 sl5 sl6 sl7 sl8 sl9 sl10 sl11 sl12 sl13 sl14 sl15 sl16 sl17 sl18 sl19 sl20 sl21 sl22 sl23 sl24 sl25 sl26 sl27 sl28 sl29 sl30 sl31 sl32 sl33 sl34 sl35 sl36 sl37 sl38 sl39 : Array (Option Value)}
    {oc1 kV1 dc1 pm1 cd1 ct1 oc2 kV2 dc2 pm2 cd2 ct2 oc3 kV3 dc3 pm3 cd3 ct3 oc4 kV4 dc4 pm4 cd4 ct4 oc5 kV5 dc5 pm5 cd5 ct5 oc6 kV6 dc6 pm6 cd6 ct6 oc7 kV7 dc7 pm7 cd7 ct7 oc8 kV8 dc8 pm8 cd8 ct8 oc9 kV9 dc9 pm9 cd9 ct9 oc10 kV10 dc10 pm10 cd10 ct10 oc11 kV11 dc11 pm11 cd11 ct11 oc12 kV12 dc12 pm12 cd12 ct12 oc13 kV13 dc13 pm13 cd13 ct13 oc14 kV14 dc14 pm14 cd14 ct14 oc15 kV15 dc15 pm15 cd15 ct15 oc16 kV16 dc16 pm16 cd16 ct16 oc17 kV17 dc17 pm17 cd17 ct17 oc18 kV18 dc18 pm18 cd18 ct18 oc19 kV19 dc19 pm19 cd19 ct19 oc20 kV20 dc20 pm20 cd20 ct20 oc21 kV21 dc21 pm21 cd21 ct21 oc22 kV22 dc22 pm22 cd22 ct22 oc23 kV23 dc23 pm23 cd23 ct23 oc24 kV24 dc24 pm24 cd24 ct24 oc25 kV25 dc25 pm25 cd25 ct25 oc26 kV26 dc26 pm26 cd26 ct26 oc27 kV27 dc27 pm27 cd27 ct27 oc28 kV28 dc28 pm28 cd28 ct28 oc29 kV29 dc29 pm29 cd29 ct29 oc30 kV30 dc30 pm30 cd30 ct30 oc31 kV31 dc31 pm31 cd31 ct31 oc32 kV32 dc32 pm32 cd32 ct32 oc33 kV33 dc33 pm33 cd33 ct33 oc34 kV34 dc34 pm34 cd34 ct34 oc35 kV35 dc35 pm35 cd35 ct35 oc36 kV36 dc36 pm36 cd36 ct36 oc37 kV37 dc37 pm37 cd37 ct37 oc38 kV38 dc38 pm38 cd38 ct38 oc39 kV39 dc39 pm39 cd39 ct39 : Value} {t1 : Tok}
     {CD : Addr} {tME : Tok} {aA : Addr} {esA : Array DictEntry} {nA : Nat} {aK : Addr} {oK : Option Addr} {tK1 tK2 tK3 tK4 : Tok} {nK : Nat} {sK : Array (Option Value)} {g_init : Addr} {oc_init kw_init dc_init pm_init cd_init ct_init : Value} {od_init an_init : Option Addr} {sl_init : Array (Option Value)} {g_check_free : Addr} {oc_check_free kw_check_free dc_check_free pm_check_free cd_check_free ct_check_free : Value} {od_check_free an_check_free : Option Addr} {sl_check_free : Array (Option Value)} {g_check_tree : Addr} {oc_check_tree kw_check_tree dc_check_tree pm_check_tree cd_check_tree ct_check_tree : Value} {od_check_tree an_check_tree : Option Addr} {sl_check_tree : Array (Option Value)} {g_told : Addr} {oc_told kw_told dc_told pm_told cd_told ct_told : Value} {od_told an_told : Option Addr} {sl_told : Array (Option Value)} {g_take : Addr} {oc_take kw_take dc_take pm_take cd_take ct_take : Value} {od_take an_take : Option Addr} {sl_take : Array (Option Value)} {g_called : Addr} {oc_called kw_called dc_called pm_called cd_called ct_called : Value} {od_called an_called : Option Addr} {sl_called : Array (Option Value)} {g_put : Addr} {oc_put kw_put dc_put pm_put cd_put ct_put : Value} {od_put an_put : Option Addr} {sl_put : Array (Option Value)} {g_cut : Addr} {oc_cut kw_cut dc_cut pm_cut cd_cut ct_cut : Value} {od_cut an_cut : Option Addr} {sl_cut : Array (Option Value)} {g_label : Addr} {oc_label kw_label dc_label pm_label cd_label ct_label : Value} {od_label an_label : Option Addr} {sl_label : Array (Option Value)} {g_turn : Addr} {oc_turn kw_turn dc_turn pm_turn cd_turn ct_turn : Value} {od_turn an_turn : Option Addr} {sl_turn : Array (Option Value)} {g_edits : Addr} {oc_edits kw_edits dc_edits pm_edits cd_edits ct_edits : Value} {od_edits an_edits : Option Addr} {sl_edits : Array (Option Value)} {g_len : Addr} {oc_len kw_len dc_len pm_len cd_len ct_len : Value} {od_len an_len : Option Addr} {sl_len : Array (Option Value)} {g_str : Addr} {oc_str kw_str dc_str pm_str cd_str ct_str : Value} {od_str an_str : Option Addr} {sl_str : Array (Option Value)} {g_tree : Addr} {oc_tree  dc_tree pm_tree cd_tree ct_tree : Value} {od_tree an_tree : Option Addr} {sl_tree : Array (Option Value)} {DK_tree : Addr} {g_version : Addr} {oc_version kw_version dc_version pm_version cd_version ct_version : Value} {od_version an_version : Option Addr} {sl_version : Array (Option Value)} {p_version : Addr} {rs_version : List Value} {g_size : Addr} {oc_size kw_size dc_size pm_size cd_size ct_size : Value} {od_size an_size : Option Addr} {sl_size : Array (Option Value)} {p_size : Addr} {rs_size : List Value} {g_first : Addr} {oc_first kw_first dc_first pm_first cd_first ct_first : Value} {od_first an_first : Option Addr} {sl_first : Array (Option Value)} {p_first : Addr} {rs_first : List Value} {g_between : Addr} {oc_between kw_between dc_between pm_between cd_between ct_between : Value} {od_between an_between : Option Addr} {sl_between : Array (Option Value)} {p_between : Addr} {rs_between : List Value} {g_last : Addr} {oc_last kw_last dc_last pm_last cd_last ct_last : Value} {od_last an_last : Option Addr} {sl_last : Array (Option Value)} {p_last : Addr} {rs_last : List Value} {g_law_some_edit T_law_some_edit : Addr} {oc_law_some_edit kw_law_some_edit dc_law_some_edit pm_law_some_edit cd_law_some_edit ct_law_some_edit : Value} {od_law_some_edit an_law_some_edit : Option Addr} {sl_law_some_edit : Array (Option Value)} {to_law_some_edit : Option Addr} {tn_law_some_edit : Nat} {ts_law_some_edit : Array (Option Value)} {tt_law_some_edit : Tok} {g_law_valid_edit T_law_valid_edit : Addr} {oc_law_valid_edit kw_law_valid_edit dc_law_valid_edit pm_law_valid_edit cd_law_valid_edit ct_law_valid_edit : Value} {od_law_valid_edit an_law_valid_edit : Option Addr} {sl_law_valid_edit : Array (Option Value)} {to_law_valid_edit : Option Addr} {tn_law_valid_edit : Nat} {ts_law_valid_edit : Array (Option Value)} {tt_law_valid_edit : Tok}
    (aDK : PySem.W.nsIn K mainGlobals "Desk" = some (some (.ref CD)))
    (pg : PySem.W.plainGet K CD Str.empty = true)
    (hd : PySem.W.hasDictIn K CD = true)
    (po : PySem.W.plainOver K CD = true)
    (sa : PySem.W.findIn K (.ref CD) "__setattr__" = some (some (.builtin "object.__setattr__")))
    (mk : PySem.W.makesIn K CD = true)
    (kc : PySem.W.keepIn K (.ref CD) = true)
    (nT : PySem.W.findIn K (.ref CD) "trees" = some none)
    (nD : PySem.W.findIn K (.ref CD) "done" = some none)
    (nB : PySem.W.findIn K (.ref CD) "busy" = some none)
    (moA : PySem.W.findIn K (.ref CD) "MOST_EDITS" = some (some (.int 60 tME)))
    (moG : PySem.W.specialIn K (.int 60 tME) "__get__" = some none)
    (aAn : PySem.W.nsIn K mainGlobals "ACTIONS" = some (some (.ref aA)))
    (aAl : K.lookup aA = some ⟨.type "dict", none, .dict esA nA, #[]⟩)
    (aAk : PySem.W.KeysLit w.params esA.toList)
    (aA_put : PySem.W.nsIn K aA "put" = some (some (.ref f11)))
    (aA_cut : PySem.W.nsIn K aA "cut" = some (some (.ref f12)))
    (aA_label : PySem.W.nsIn K aA "label" = some (some (.ref f13)))
    (aA_turn : PySem.W.nsIn K aA "turn" = some (some (.ref f14)))
    (aKn : PySem.W.nsIn K mainGlobals "KINDS" = some (some (.ref aK)))
    (aKl : K.lookup aK = some ⟨.type "tuple", oK, .seq #[.str "first" tK1, .str "between" tK2, .str "last" tK3, .str "level" tK4] nK, sK⟩)
    (at_init : PySem.W.findIn K (.ref CD) "__init__" = some (some (.ref g_init)))
    (fn_init : PySem.W.isFn K (.ref g_init) = true)
    (kp_init : PySem.W.keepIn K (.ref g_init) = true)
    (lk_init : K.lookup g_init = some ⟨oc_init, od_init, .func (PySem.W.fnOf "__init__" "Desk.__init__" (defArgs s_Desk___init__) (defBody s_Desk___init__) (defScope s_Desk___init__) .none kw_init dc_init pm_init an_init cd_init ct_init), sl_init⟩)
    (cd_f_init : PySem.W.codeIn K cd_init "Desk.__init__" = true)
    (at_check_free : PySem.W.findIn K (.ref CD) "check_free" = some (some (.ref g_check_free)))
    (fn_check_free : PySem.W.isFn K (.ref g_check_free) = true)
    (kp_check_free : PySem.W.keepIn K (.ref g_check_free) = true)
    (lk_check_free : K.lookup g_check_free = some ⟨oc_check_free, od_check_free, .func (PySem.W.fnOf "check_free" "Desk.check_free" (defArgs s_Desk_check_free) (defBody s_Desk_check_free) (defScope s_Desk_check_free) .none kw_check_free dc_check_free pm_check_free an_check_free cd_check_free ct_check_free), sl_check_free⟩)
    (cd_f_check_free : PySem.W.codeIn K cd_check_free "Desk.check_free" = true)
    (at_check_tree : PySem.W.findIn K (.ref CD) "check_tree" = some (some (.ref g_check_tree)))
    (fn_check_tree : PySem.W.isFn K (.ref g_check_tree) = true)
    (kp_check_tree : PySem.W.keepIn K (.ref g_check_tree) = true)
    (lk_check_tree : K.lookup g_check_tree = some ⟨oc_check_tree, od_check_tree, .func (PySem.W.fnOf "check_tree" "Desk.check_tree" (defArgs s_Desk_check_tree) (defBody s_Desk_check_tree) (defScope s_Desk_check_tree) .none kw_check_tree dc_check_tree pm_check_tree an_check_tree cd_check_tree ct_check_tree), sl_check_tree⟩)
    (cd_f_check_tree : PySem.W.codeIn K cd_check_tree "Desk.check_tree" = true)
    (at_told : PySem.W.findIn K (.ref CD) "told" = some (some (.ref g_told)))
    (fn_told : PySem.W.isFn K (.ref g_told) = true)
    (kp_told : PySem.W.keepIn K (.ref g_told) = true)
    (lk_told : K.lookup g_told = some ⟨oc_told, od_told, .func (PySem.W.fnOf "told" "Desk.told" (defArgs s_Desk_told) (defBody s_Desk_told) (defScope s_Desk_told) .none kw_told dc_told pm_told an_told cd_told ct_told), sl_told⟩)
    (cd_f_told : PySem.W.codeIn K cd_told "Desk.told" = true)
    (at_take : PySem.W.findIn K (.ref CD) "take" = some (some (.ref g_take)))
    (fn_take : PySem.W.isFn K (.ref g_take) = true)
    (kp_take : PySem.W.keepIn K (.ref g_take) = true)
    (lk_take : K.lookup g_take = some ⟨oc_take, od_take, .func (PySem.W.fnOf "take" "Desk.take" (defArgs s_Desk_take) (defBody s_Desk_take) (defScope s_Desk_take) .none kw_take dc_take pm_take an_take cd_take ct_take), sl_take⟩)
    (cd_f_take : PySem.W.codeIn K cd_take "Desk.take" = true)
    (at_called : PySem.W.findIn K (.ref CD) "called" = some (some (.ref g_called)))
    (fn_called : PySem.W.isFn K (.ref g_called) = true)
    (kp_called : PySem.W.keepIn K (.ref g_called) = true)
    (lk_called : K.lookup g_called = some ⟨oc_called, od_called, .func (PySem.W.fnOf "called" "Desk.called" (defArgs s_Desk_called) (defBody s_Desk_called) (defScope s_Desk_called) .none kw_called dc_called pm_called an_called cd_called ct_called), sl_called⟩)
    (cd_f_called : PySem.W.codeIn K cd_called "Desk.called" = true)
    (at_put : PySem.W.findIn K (.ref CD) "put" = some (some (.ref g_put)))
    (fn_put : PySem.W.isFn K (.ref g_put) = true)
    (kp_put : PySem.W.keepIn K (.ref g_put) = true)
    (lk_put : K.lookup g_put = some ⟨oc_put, od_put, .func (PySem.W.fnOf "put" "Desk.put" (defArgs s_Desk_put) (defBody s_Desk_put) (defScope s_Desk_put) .none kw_put dc_put pm_put an_put cd_put ct_put), sl_put⟩)
    (cd_f_put : PySem.W.codeIn K cd_put "Desk.put" = true)
    (at_cut : PySem.W.findIn K (.ref CD) "cut" = some (some (.ref g_cut)))
    (fn_cut : PySem.W.isFn K (.ref g_cut) = true)
    (kp_cut : PySem.W.keepIn K (.ref g_cut) = true)
    (lk_cut : K.lookup g_cut = some ⟨oc_cut, od_cut, .func (PySem.W.fnOf "cut" "Desk.cut" (defArgs s_Desk_cut) (defBody s_Desk_cut) (defScope s_Desk_cut) .none kw_cut dc_cut pm_cut an_cut cd_cut ct_cut), sl_cut⟩)
    (cd_f_cut : PySem.W.codeIn K cd_cut "Desk.cut" = true)
    (at_label : PySem.W.findIn K (.ref CD) "label" = some (some (.ref g_label)))
    (fn_label : PySem.W.isFn K (.ref g_label) = true)
    (kp_label : PySem.W.keepIn K (.ref g_label) = true)
    (lk_label : K.lookup g_label = some ⟨oc_label, od_label, .func (PySem.W.fnOf "label" "Desk.label" (defArgs s_Desk_label) (defBody s_Desk_label) (defScope s_Desk_label) .none kw_label dc_label pm_label an_label cd_label ct_label), sl_label⟩)
    (cd_f_label : PySem.W.codeIn K cd_label "Desk.label" = true)
    (at_turn : PySem.W.findIn K (.ref CD) "turn" = some (some (.ref g_turn)))
    (fn_turn : PySem.W.isFn K (.ref g_turn) = true)
    (kp_turn : PySem.W.keepIn K (.ref g_turn) = true)
    (lk_turn : K.lookup g_turn = some ⟨oc_turn, od_turn, .func (PySem.W.fnOf "turn" "Desk.turn" (defArgs s_Desk_turn) (defBody s_Desk_turn) (defScope s_Desk_turn) .none kw_turn dc_turn pm_turn an_turn cd_turn ct_turn), sl_turn⟩)
    (cd_f_turn : PySem.W.codeIn K cd_turn "Desk.turn" = true)
    (at_edits : PySem.W.findIn K (.ref CD) "edits" = some (some (.ref g_edits)))
    (fn_edits : PySem.W.isFn K (.ref g_edits) = true)
    (kp_edits : PySem.W.keepIn K (.ref g_edits) = true)
    (lk_edits : K.lookup g_edits = some ⟨oc_edits, od_edits, .func (PySem.W.fnOf "edits" "Desk.edits" (defArgs s_Desk_edits) (defBody s_Desk_edits) (defScope s_Desk_edits) .none kw_edits dc_edits pm_edits an_edits cd_edits ct_edits), sl_edits⟩)
    (cd_f_edits : PySem.W.codeIn K cd_edits "Desk.edits" = true)
    (at_len : PySem.W.findIn K (.ref CD) "__len__" = some (some (.ref g_len)))
    (fn_len : PySem.W.isFn K (.ref g_len) = true)
    (kp_len : PySem.W.keepIn K (.ref g_len) = true)
    (lk_len : K.lookup g_len = some ⟨oc_len, od_len, .func (PySem.W.fnOf "__len__" "Desk.__len__" (defArgs s_Desk___len__) (defBody s_Desk___len__) (defScope s_Desk___len__) .none kw_len dc_len pm_len an_len cd_len ct_len), sl_len⟩)
    (cd_f_len : PySem.W.codeIn K cd_len "Desk.__len__" = true)
    (at_str : PySem.W.findIn K (.ref CD) "__str__" = some (some (.ref g_str)))
    (fn_str : PySem.W.isFn K (.ref g_str) = true)
    (kp_str : PySem.W.keepIn K (.ref g_str) = true)
    (lk_str : K.lookup g_str = some ⟨oc_str, od_str, .func (PySem.W.fnOf "__str__" "Desk.__str__" (defArgs s_Desk___str__) (defBody s_Desk___str__) (defScope s_Desk___str__) .none kw_str dc_str pm_str an_str cd_str ct_str), sl_str⟩)
    (cd_f_str : PySem.W.codeIn K cd_str "Desk.__str__" = true)
    (at_tree : PySem.W.findIn K (.ref CD) "tree" = some (some (.ref g_tree)))
    (fn_tree : PySem.W.isFn K (.ref g_tree) = true)
    (kp_tree : PySem.W.keepIn K (.ref g_tree) = true)
    (lk_tree : K.lookup g_tree = some ⟨oc_tree, od_tree, .func (PySem.W.fnOf "tree" "Desk.tree" (defArgs s_Desk_tree) (defBody s_Desk_tree) (defScope s_Desk_tree) .none (.ref DK_tree) dc_tree pm_tree an_tree cd_tree ct_tree), sl_tree⟩)
    (cd_f_tree : PySem.W.codeIn K cd_tree "Desk.tree" = true)
    (ns_tree_version : PySem.W.nsIn K DK_tree "version" = some (some .none))
    (at_version : PySem.W.findIn K (.ref CD) "version" = some (some (.ref p_version)))
    (gt_version : PySem.W.specialIn K (.ref p_version) "__get__" = some (some (.builtin "property.__get__")))
    (tk_version : PySem.W.takesIn K (.ref p_version) = some true)
    (rc_version : PySem.W.recIn K p_version "property" = some (.ref g_version :: rs_version))
    (kp_version : PySem.W.keepIn K (.ref g_version) = true)
    (lk_version : K.lookup g_version = some ⟨oc_version, od_version, .func (PySem.W.fnOf "version" "Desk.version" (defArgs s_Desk_version) (defBody s_Desk_version) (defScope s_Desk_version) .none kw_version dc_version pm_version an_version cd_version ct_version), sl_version⟩)
    (cd_f_version : PySem.W.codeIn K cd_version "Desk.version" = true)
    (at_size : PySem.W.findIn K (.ref CD) "size" = some (some (.ref p_size)))
    (gt_size : PySem.W.specialIn K (.ref p_size) "__get__" = some (some (.builtin "property.__get__")))
    (tk_size : PySem.W.takesIn K (.ref p_size) = some true)
    (rc_size : PySem.W.recIn K p_size "property" = some (.ref g_size :: rs_size))
    (kp_size : PySem.W.keepIn K (.ref g_size) = true)
    (lk_size : K.lookup g_size = some ⟨oc_size, od_size, .func (PySem.W.fnOf "size" "Desk.size" (defArgs s_Desk_size) (defBody s_Desk_size) (defScope s_Desk_size) .none kw_size dc_size pm_size an_size cd_size ct_size), sl_size⟩)
    (cd_f_size : PySem.W.codeIn K cd_size "Desk.size" = true)
    (at_first : PySem.W.findIn K (.ref CD) "first" = some (some (.ref p_first)))
    (gt_first : PySem.W.specialIn K (.ref p_first) "__get__" = some (some (.builtin "property.__get__")))
    (tk_first : PySem.W.takesIn K (.ref p_first) = some true)
    (rc_first : PySem.W.recIn K p_first "property" = some (.ref g_first :: rs_first))
    (kp_first : PySem.W.keepIn K (.ref g_first) = true)
    (lk_first : K.lookup g_first = some ⟨oc_first, od_first, .func (PySem.W.fnOf "first" "Desk.first" (defArgs s_Desk_first) (defBody s_Desk_first) (defScope s_Desk_first) .none kw_first dc_first pm_first an_first cd_first ct_first), sl_first⟩)
    (cd_f_first : PySem.W.codeIn K cd_first "Desk.first" = true)
    (at_between : PySem.W.findIn K (.ref CD) "between" = some (some (.ref p_between)))
    (gt_between : PySem.W.specialIn K (.ref p_between) "__get__" = some (some (.builtin "property.__get__")))
    (tk_between : PySem.W.takesIn K (.ref p_between) = some true)
    (rc_between : PySem.W.recIn K p_between "property" = some (.ref g_between :: rs_between))
    (kp_between : PySem.W.keepIn K (.ref g_between) = true)
    (lk_between : K.lookup g_between = some ⟨oc_between, od_between, .func (PySem.W.fnOf "between" "Desk.between" (defArgs s_Desk_between) (defBody s_Desk_between) (defScope s_Desk_between) .none kw_between dc_between pm_between an_between cd_between ct_between), sl_between⟩)
    (cd_f_between : PySem.W.codeIn K cd_between "Desk.between" = true)
    (at_last : PySem.W.findIn K (.ref CD) "last" = some (some (.ref p_last)))
    (gt_last : PySem.W.specialIn K (.ref p_last) "__get__" = some (some (.builtin "property.__get__")))
    (tk_last : PySem.W.takesIn K (.ref p_last) = some true)
    (rc_last : PySem.W.recIn K p_last "property" = some (.ref g_last :: rs_last))
    (kp_last : PySem.W.keepIn K (.ref g_last) = true)
    (lk_last : K.lookup g_last = some ⟨oc_last, od_last, .func (PySem.W.fnOf "last" "Desk.last" (defArgs s_Desk_last) (defBody s_Desk_last) (defScope s_Desk_last) .none kw_last dc_last pm_last an_last cd_last ct_last), sl_last⟩)
    (cd_f_last : PySem.W.codeIn K cd_last "Desk.last" = true)
    (a_law_some_edit : PySem.W.nsIn K mainGlobals "_law_some_edit" = some (some (.ref g_law_some_edit)))
    (kp_law_some_edit : PySem.W.keepIn K (.ref g_law_some_edit) = true)
    (lk_law_some_edit : K.lookup g_law_some_edit = some ⟨oc_law_some_edit, od_law_some_edit, .func (PySem.W.fnOf "_law_some_edit" "_law_some_edit" (defArgs s__law_some_edit) (defBody s__law_some_edit) (defScope s__law_some_edit) (.ref T_law_some_edit) kw_law_some_edit dc_law_some_edit pm_law_some_edit an_law_some_edit cd_law_some_edit ct_law_some_edit), sl_law_some_edit⟩)
    (cd_f_law_some_edit : PySem.W.codeIn K cd_law_some_edit "_law_some_edit" = true)
    (tl_law_some_edit : K.lookup T_law_some_edit = some ⟨.type "tuple", to_law_some_edit, .seq #[.int 13 tt_law_some_edit] tn_law_some_edit, ts_law_some_edit⟩)
    (a_law_valid_edit : PySem.W.nsIn K mainGlobals "_law_valid_edit" = some (some (.ref g_law_valid_edit)))
    (kp_law_valid_edit : PySem.W.keepIn K (.ref g_law_valid_edit) = true)
    (lk_law_valid_edit : K.lookup g_law_valid_edit = some ⟨oc_law_valid_edit, od_law_valid_edit, .func (PySem.W.fnOf "_law_valid_edit" "_law_valid_edit" (defArgs s__law_valid_edit) (defBody s__law_valid_edit) (defScope s__law_valid_edit) (.ref T_law_valid_edit) kw_law_valid_edit dc_law_valid_edit pm_law_valid_edit an_law_valid_edit cd_law_valid_edit ct_law_valid_edit), sl_law_valid_edit⟩)
    (cd_f_law_valid_edit : PySem.W.codeIn K cd_law_valid_edit "_law_valid_edit" = true)
    (tl_law_valid_edit : K.lookup T_law_valid_edit = some ⟨.type "tuple", to_law_valid_edit, .seq #[.int 13 tt_law_valid_edit] tn_law_valid_edit, ts_law_valid_edit⟩)
    (a1 : PySem.W.nsIn K mainGlobals "is_letter" = some (some (.ref f1)))
    (l1 : K.lookup f1 = some ⟨oc1, od1, .func (PySem.W.fnOf "is_letter" "is_letter" (defArgs s_is_letter) (defBody s_is_letter) (defScope s_is_letter) .none kV1 dc1 pm1 an1 cd1 ct1), sl1⟩)
    (c1 : PySem.W.codeIn K cd1 "is_letter" = true)
    (k1 : PySem.W.keepIn K (.ref f1) = true)
    (a2 : PySem.W.nsIn K mainGlobals "is_node" = some (some (.ref f2)))
    (l2 : K.lookup f2 = some ⟨oc2, od2, .func (PySem.W.fnOf "is_node" "is_node" (defArgs s_is_node) (defBody s_is_node) (defScope s_is_node) .none kV2 dc2 pm2 an2 cd2 ct2), sl2⟩)
    (c2 : PySem.W.codeIn K cd2 "is_node" = true)
    (k2 : PySem.W.keepIn K (.ref f2) = true)
    (a3 : PySem.W.nsIn K mainGlobals "is_tree" = some (some (.ref f3)))
    (l3 : K.lookup f3 = some ⟨oc3, od3, .func (PySem.W.fnOf "is_tree" "is_tree" (defArgs s_is_tree) (defBody s_is_tree) (defScope s_is_tree) .none kV3 dc3 pm3 an3 cd3 ct3), sl3⟩)
    (c3 : PySem.W.codeIn K cd3 "is_tree" = true)
    (k3 : PySem.W.keepIn K (.ref f3) = true)
    (a4 : PySem.W.nsIn K mainGlobals "size_of" = some (some (.ref f4)))
    (l4 : K.lookup f4 = some ⟨oc4, od4, .func (PySem.W.fnOf "size_of" "size_of" (defArgs s_size_of) (defBody s_size_of) (defScope s_size_of) .none kV4 dc4 pm4 an4 cd4 ct4), sl4⟩)
    (c4 : PySem.W.codeIn K cd4 "size_of" = true)
    (k4 : PySem.W.keepIn K (.ref f4) = true)
    (a5 : PySem.W.nsIn K mainGlobals "part_at" = some (some (.ref f5)))
    (l5 : K.lookup f5 = some ⟨oc5, od5, .func (PySem.W.fnOf "part_at" "part_at" (defArgs s_part_at) (defBody s_part_at) (defScope s_part_at) .none kV5 dc5 pm5 an5 cd5 ct5), sl5⟩)
    (c5 : PySem.W.codeIn K cd5 "part_at" = true)
    (k5 : PySem.W.keepIn K (.ref f5) = true)
    (a6 : PySem.W.nsIn K mainGlobals "is_open" = some (some (.ref f6)))
    (l6 : K.lookup f6 = some ⟨oc6, od6, .func (PySem.W.fnOf "is_open" "is_open" (defArgs s_is_open) (defBody s_is_open) (defScope s_is_open) .none kV6 dc6 pm6 an6 cd6 ct6), sl6⟩)
    (c6 : PySem.W.codeIn K cd6 "is_open" = true)
    (k6 : PySem.W.keepIn K (.ref f6) = true)
    (a7 : PySem.W.nsIn K mainGlobals "replaced" = some (some (.ref f7)))
    (l7 : K.lookup f7 = some ⟨oc7, od7, .func (PySem.W.fnOf "replaced" "replaced" (defArgs s_replaced) (defBody s_replaced) (defScope s_replaced) .none kV7 dc7 pm7 an7 cd7 ct7), sl7⟩)
    (c7 : PySem.W.codeIn K cd7 "replaced" = true)
    (k7 : PySem.W.keepIn K (.ref f7) = true)
    (a8 : PySem.W.nsIn K mainGlobals "with_part" = some (some (.ref f8)))
    (l8 : K.lookup f8 = some ⟨oc8, od8, .func (PySem.W.fnOf "with_part" "with_part" (defArgs s_with_part) (defBody s_with_part) (defScope s_with_part) .none kV8 dc8 pm8 an8 cd8 ct8), sl8⟩)
    (c8 : PySem.W.codeIn K cd8 "with_part" = true)
    (k8 : PySem.W.keepIn K (.ref f8) = true)
    (a9 : PySem.W.nsIn K mainGlobals "mirrored" = some (some (.ref f9)))
    (l9 : K.lookup f9 = some ⟨oc9, od9, .func (PySem.W.fnOf "mirrored" "mirrored" (defArgs s_mirrored) (defBody s_mirrored) (defScope s_mirrored) .none kV9 dc9 pm9 an9 cd9 ct9), sl9⟩)
    (c9 : PySem.W.codeIn K cd9 "mirrored" = true)
    (k9 : PySem.W.keepIn K (.ref f9) = true)
    (a10 : PySem.W.nsIn K mainGlobals "node_at" = some (some (.ref f10)))
    (l10 : K.lookup f10 = some ⟨oc10, od10, .func (PySem.W.fnOf "node_at" "node_at" (defArgs s_node_at) (defBody s_node_at) (defScope s_node_at) .none kV10 dc10 pm10 an10 cd10 ct10), sl10⟩)
    (c10 : PySem.W.codeIn K cd10 "node_at" = true)
    (k10 : PySem.W.keepIn K (.ref f10) = true)
    (a11 : PySem.W.nsIn K mainGlobals "with_node" = some (some (.ref f11)))
    (l11 : K.lookup f11 = some ⟨oc11, od11, .func (PySem.W.fnOf "with_node" "with_node" (defArgs s_with_node) (defBody s_with_node) (defScope s_with_node) .none kV11 dc11 pm11 an11 cd11 ct11), sl11⟩)
    (c11 : PySem.W.codeIn K cd11 "with_node" = true)
    (k11 : PySem.W.keepIn K (.ref f11) = true)
    (a12 : PySem.W.nsIn K mainGlobals "without_node" = some (some (.ref f12)))
    (l12 : K.lookup f12 = some ⟨oc12, od12, .func (PySem.W.fnOf "without_node" "without_node" (defArgs s_without_node) (defBody s_without_node) (defScope s_without_node) .none kV12 dc12 pm12 an12 cd12 ct12), sl12⟩)
    (c12 : PySem.W.codeIn K cd12 "without_node" = true)
    (k12 : PySem.W.keepIn K (.ref f12) = true)
    (a13 : PySem.W.nsIn K mainGlobals "with_label" = some (some (.ref f13)))
    (l13 : K.lookup f13 = some ⟨oc13, od13, .func (PySem.W.fnOf "with_label" "with_label" (defArgs s_with_label) (defBody s_with_label) (defScope s_with_label) .none kV13 dc13 pm13 an13 cd13 ct13), sl13⟩)
    (c13 : PySem.W.codeIn K cd13 "with_label" = true)
    (k13 : PySem.W.keepIn K (.ref f13) = true)
    (a14 : PySem.W.nsIn K mainGlobals "turned" = some (some (.ref f14)))
    (l14 : K.lookup f14 = some ⟨oc14, od14, .func (PySem.W.fnOf "turned" "turned" (defArgs s_turned) (defBody s_turned) (defScope s_turned) .none kV14 dc14 pm14 an14 cd14 ct14), sl14⟩)
    (c14 : PySem.W.codeIn K cd14 "turned" = true)
    (k14 : PySem.W.keepIn K (.ref f14) = true)
    (a15 : PySem.W.nsIn K mainGlobals "edited" = some (some (.ref f15)))
    (l15 : K.lookup f15 = some ⟨oc15, od15, .func (PySem.W.fnOf "edited" "edited" (defArgs s_edited) (defBody s_edited) (defScope s_edited) .none kV15 dc15 pm15 an15 cd15 ct15), sl15⟩)
    (c15 : PySem.W.codeIn K cd15 "edited" = true)
    (k15 : PySem.W.keepIn K (.ref f15) = true)
    (a16 : PySem.W.nsIn K mainGlobals "is_kind" = some (some (.ref f16)))
    (l16 : K.lookup f16 = some ⟨oc16, od16, .func (PySem.W.fnOf "is_kind" "is_kind" (defArgs s_is_kind) (defBody s_is_kind) (defScope s_is_kind) .none kV16 dc16 pm16 an16 cd16 ct16), sl16⟩)
    (c16 : PySem.W.codeIn K cd16 "is_kind" = true)
    (k16 : PySem.W.keepIn K (.ref f16) = true)
    (a17 : PySem.W.nsIn K mainGlobals "ordered_steps" = some (some (.ref f17)))
    (l17 : K.lookup f17 = some ⟨oc17, od17, .func (PySem.W.fnOf "ordered_steps" "ordered_steps" (defArgs s_ordered_steps) (defBody s_ordered_steps) (defScope s_ordered_steps) .none kV17 dc17 pm17 an17 cd17 ct17), sl17⟩)
    (c17 : PySem.W.codeIn K cd17 "ordered_steps" = true)
    (k17 : PySem.W.keepIn K (.ref f17) = true)
    (a18 : PySem.W.nsIn K mainGlobals "deep_steps" = some (some (.ref f18)))
    (l18 : K.lookup f18 = some ⟨oc18, od18, .func (PySem.W.fnOf "deep_steps" "deep_steps" (defArgs s_deep_steps) (defBody s_deep_steps) (defScope s_deep_steps) .none kV18 dc18 pm18 an18 cd18 ct18), sl18⟩)
    (c18 : PySem.W.codeIn K cd18 "deep_steps" = true)
    (k18 : PySem.W.keepIn K (.ref f18) = true)
    (a19 : PySem.W.nsIn K mainGlobals "walk" = some (some (.ref f19)))
    (l19 : K.lookup f19 = some ⟨oc19, od19, .func (PySem.W.fnOf "walk" "walk" (defArgs s_walk) (defBody s_walk) (defScope s_walk) .none kV19 dc19 pm19 an19 cd19 ct19), sl19⟩)
    (c19 : PySem.W.codeIn K cd19 "walk" = true)
    (k19 : PySem.W.keepIn K (.ref f19) = true)
    (a20 : PySem.W.nsIn K mainGlobals "_law_stream" = some (some (.ref f20)))
    (l20 : K.lookup f20 = some ⟨oc20, od20, .func (PySem.W.fnOf "_law_stream" "_law_stream" (defArgs s__law_stream) (defBody s__law_stream) (defScope s__law_stream) .none kV20 dc20 pm20 an20 cd20 ct20), sl20⟩)
    (c20 : PySem.W.codeIn K cd20 "_law_stream" = true)
    (k20 : PySem.W.keepIn K (.ref f20) = true)
    (a21 : PySem.W.nsIn K mainGlobals "_law_take" = some (some (.ref f21)))
    (l21 : K.lookup f21 = some ⟨oc21, od21, .func (PySem.W.fnOf "_law_take" "_law_take" (defArgs s__law_take) (defBody s__law_take) (defScope s__law_take) .none kV21 dc21 pm21 an21 cd21 ct21), sl21⟩)
    (c21 : PySem.W.codeIn K cd21 "_law_take" = true)
    (k21 : PySem.W.keepIn K (.ref f21) = true)
    (a22 : PySem.W.nsIn K mainGlobals "_law_equal" = some (some (.ref f22)))
    (l22 : K.lookup f22 = some ⟨oc22, od22, .func (PySem.W.fnOf "_law_equal" "_law_equal" (defArgs s__law_equal) (defBody s__law_equal) (defScope s__law_equal) .none kV22 dc22 pm22 an22 cd22 ct22), sl22⟩)
    (c22 : PySem.W.codeIn K cd22 "_law_equal" = true)
    (k22 : PySem.W.keepIn K (.ref f22) = true)
    (a23 : PySem.W.nsIn K mainGlobals "_law_letter" = some (some (.ref f23)))
    (l23 : K.lookup f23 = some ⟨oc23, od23, .func (PySem.W.fnOf "_law_letter" "_law_letter" (defArgs s__law_letter) (defBody s__law_letter) (defScope s__law_letter) .none kV23 dc23 pm23 an23 cd23 ct23), sl23⟩)
    (c23 : PySem.W.codeIn K cd23 "_law_letter" = true)
    (k23 : PySem.W.keepIn K (.ref f23) = true)
    (a24 : PySem.W.nsIn K mainGlobals "_law_paths" = some (some (.ref f24)))
    (l24 : K.lookup f24 = some ⟨oc24, od24, .func (PySem.W.fnOf "_law_paths" "_law_paths" (defArgs s__law_paths) (defBody s__law_paths) (defScope s__law_paths) .none kV24 dc24 pm24 an24 cd24 ct24), sl24⟩)
    (c24 : PySem.W.codeIn K cd24 "_law_paths" = true)
    (k24 : PySem.W.keepIn K (.ref f24) = true)
    (a25 : PySem.W.nsIn K mainGlobals "_law_part" = some (some (.ref f25)))
    (l25 : K.lookup f25 = some ⟨oc25, od25, .func (PySem.W.fnOf "_law_part" "_law_part" (defArgs s__law_part) (defBody s__law_part) (defScope s__law_part) .none kV25 dc25 pm25 an25 cd25 ct25), sl25⟩)
    (c25 : PySem.W.codeIn K cd25 "_law_part" = true)
    (k25 : PySem.W.keepIn K (.ref f25) = true)
    (a26 : PySem.W.nsIn K mainGlobals "_law_grafted" = some (some (.ref f26)))
    (l26 : K.lookup f26 = some ⟨oc26, od26, .func (PySem.W.fnOf "_law_grafted" "_law_grafted" (defArgs s__law_grafted) (defBody s__law_grafted) (defScope s__law_grafted) .none kV26 dc26 pm26 an26 cd26 ct26), sl26⟩)
    (c26 : PySem.W.codeIn K cd26 "_law_grafted" = true)
    (k26 : PySem.W.keepIn K (.ref f26) = true)
    (a27 : PySem.W.nsIn K mainGlobals "_law_swapped" = some (some (.ref f27)))
    (l27 : K.lookup f27 = some ⟨oc27, od27, .func (PySem.W.fnOf "_law_swapped" "_law_swapped" (defArgs s__law_swapped) (defBody s__law_swapped) (defScope s__law_swapped) .none kV27 dc27 pm27 an27 cd27 ct27), sl27⟩)
    (c27 : PySem.W.codeIn K cd27 "_law_swapped" = true)
    (k27 : PySem.W.keepIn K (.ref f27) = true)
    (a28 : PySem.W.nsIn K mainGlobals "_law_labels" = some (some (.ref f28)))
    (l28 : K.lookup f28 = some ⟨oc28, od28, .func (PySem.W.fnOf "_law_labels" "_law_labels" (defArgs s__law_labels) (defBody s__law_labels) (defScope s__law_labels) .none kV28 dc28 pm28 an28 cd28 ct28), sl28⟩)
    (c28 : PySem.W.codeIn K cd28 "_law_labels" = true)
    (k28 : PySem.W.keepIn K (.ref f28) = true)
    (a29 : PySem.W.nsIn K mainGlobals "_law_spot" = some (some (.ref f29)))
    (l29 : K.lookup f29 = some ⟨oc29, od29, .func (PySem.W.fnOf "_law_spot" "_law_spot" (defArgs s__law_spot) (defBody s__law_spot) (defScope s__law_spot) .none kV29 dc29 pm29 an29 cd29 ct29), sl29⟩)
    (c29 : PySem.W.codeIn K cd29 "_law_spot" = true)
    (k29 : PySem.W.keepIn K (.ref f29) = true)
    (a30 : PySem.W.nsIn K mainGlobals "_law_sorted_tree" = some (some (.ref f30)))
    (l30 : K.lookup f30 = some ⟨oc30, od30, .func (PySem.W.fnOf "_law_sorted_tree" "_law_sorted_tree" (defArgs s__law_sorted_tree) (defBody s__law_sorted_tree) (defScope s__law_sorted_tree) .none kV30 dc30 pm30 an30 cd30 ct30), sl30⟩)
    (c30 : PySem.W.codeIn K cd30 "_law_sorted_tree" = true)
    (k30 : PySem.W.keepIn K (.ref f30) = true)
    (a31 : PySem.W.nsIn K mainGlobals "_law_tree" = some (some (.ref f31)))
    (l31 : K.lookup f31 = some ⟨oc31, od31, .func (PySem.W.fnOf "_law_tree" "_law_tree" (defArgs s__law_tree) (defBody s__law_tree) (defScope s__law_tree) .none kV31 dc31 pm31 an31 cd31 ct31), sl31⟩)
    (c31 : PySem.W.codeIn K cd31 "_law_tree" = true)
    (k31 : PySem.W.keepIn K (.ref f31) = true)
    (a32 : PySem.W.nsIn K mainGlobals "_law_is_letter" = some (some (.ref f32)))
    (l32 : K.lookup f32 = some ⟨oc32, od32, .func (PySem.W.fnOf "_law_is_letter" "_law_is_letter" (defArgs s__law_is_letter) (defBody s__law_is_letter) (defScope s__law_is_letter) .none kV32 dc32 pm32 an32 cd32 ct32), sl32⟩)
    (c32 : PySem.W.codeIn K cd32 "_law_is_letter" = true)
    (k32 : PySem.W.keepIn K (.ref f32) = true)
    (a33 : PySem.W.nsIn K mainGlobals "_law_due_put" = some (some (.ref f33)))
    (l33 : K.lookup f33 = some ⟨oc33, od33, .func (PySem.W.fnOf "_law_due_put" "_law_due_put" (defArgs s__law_due_put) (defBody s__law_due_put) (defScope s__law_due_put) .none kV33 dc33 pm33 an33 cd33 ct33), sl33⟩)
    (c33 : PySem.W.codeIn K cd33 "_law_due_put" = true)
    (k33 : PySem.W.keepIn K (.ref f33) = true)
    (a34 : PySem.W.nsIn K mainGlobals "_law_due" = some (some (.ref f34)))
    (l34 : K.lookup f34 = some ⟨oc34, od34, .func (PySem.W.fnOf "_law_due" "_law_due" (defArgs s__law_due) (defBody s__law_due) (defScope s__law_due) .none kV34 dc34 pm34 an34 cd34 ct34), sl34⟩)
    (c34 : PySem.W.codeIn K cd34 "_law_due" = true)
    (k34 : PySem.W.keepIn K (.ref f34) = true)
    (a35 : PySem.W.nsIn K mainGlobals "_law_do" = some (some (.ref f35)))
    (l35 : K.lookup f35 = some ⟨oc35, od35, .func (PySem.W.fnOf "_law_do" "_law_do" (defArgs s__law_do) (defBody s__law_do) (defScope s__law_do) .none kV35 dc35 pm35 an35 cd35 ct35), sl35⟩)
    (c35 : PySem.W.codeIn K cd35 "_law_do" = true)
    (k35 : PySem.W.keepIn K (.ref f35) = true)
    (a36 : PySem.W.nsIn K mainGlobals "_law_text" = some (some (.ref f36)))
    (l36 : K.lookup f36 = some ⟨oc36, od36, .func (PySem.W.fnOf "_law_text" "_law_text" (defArgs s__law_text) (defBody s__law_text) (defScope s__law_text) .none kV36 dc36 pm36 an36 cd36 ct36), sl36⟩)
    (c36 : PySem.W.codeIn K cd36 "_law_text" = true)
    (k36 : PySem.W.keepIn K (.ref f36) = true)
    (a37 : PySem.W.nsIn K mainGlobals "_law_seen" = some (some (.ref f37)))
    (l37 : K.lookup f37 = some ⟨oc37, od37, .func (PySem.W.fnOf "_law_seen" "_law_seen" (defArgs s__law_seen) (defBody s__law_seen) (defScope s__law_seen) .none kV37 dc37 pm37 an37 cd37 ct37), sl37⟩)
    (c37 : PySem.W.codeIn K cd37 "_law_seen" = true)
    (k37 : PySem.W.keepIn K (.ref f37) = true)
    (a38 : PySem.W.nsIn K mainGlobals "_law_due_seen" = some (some (.ref f38)))
    (l38 : K.lookup f38 = some ⟨oc38, od38, .func (PySem.W.fnOf "_law_due_seen" "_law_due_seen" (defArgs s__law_due_seen) (defBody s__law_due_seen) (defScope s__law_due_seen) .none kV38 dc38 pm38 an38 cd38 ct38), sl38⟩)
    (c38 : PySem.W.codeIn K cd38 "_law_due_seen" = true)
    (k38 : PySem.W.keepIn K (.ref f38) = true)
    (a39 : PySem.W.nsIn K mainGlobals "law" = some (some (.ref f39)))
    (l39 : K.lookup f39 = some ⟨oc39, od39, .func (PySem.W.fnOf "law" "law" (defArgs s_law) (defBody s_law) (defScope s_law) .none kV39 dc39 pm39 an39 cd39 ct39), sl39⟩)
    (c39 : PySem.W.codeIn K cd39 "law" = true)
    (k39 : PySem.W.keepIn K (.ref f39) = true)
    (z1 : PySem.W.nsIn K mainGlobals "zip" = some none)
    (z2 : PySem.W.nsIn K mainGlobals "all" = some none)
    (z3 : PySem.W.nsIn K mainGlobals "repr" = some none)
    (z4 : PySem.W.nsIn K mainGlobals "len" = some none)
    (z5 : PySem.W.nsIn K mainGlobals "isinstance" = some none)
    (z6 : PySem.W.nsIn K mainGlobals "list" = some none)
    (z7 : PySem.W.nsIn K mainGlobals "tuple" = some none)
    (z8 : PySem.W.nsIn K mainGlobals "str" = some none)
    (z9 : PySem.W.nsIn K mainGlobals "int" = some none)
    (z10 : PySem.W.nsIn K mainGlobals "bool" = some none)
    (z11 : PySem.W.nsIn K mainGlobals "dict" = some none)
    (z12 : PySem.W.nsIn K mainGlobals "range" = some none)
    (z13 : PySem.W.nsIn K mainGlobals "sorted" = some none)
    (z14 : PySem.W.nsIn K mainGlobals "abs" = some none)
    (z15 : PySem.W.nsIn K mainGlobals "min" = some none)
    (z16 : PySem.W.nsIn K mainGlobals "max" = some none)
    (v1 : PySem.W.nsIn K mainGlobals "MAX_NODES" = some (some (.int 12 t1)))
    : ∀ (base : Heap) (H : Hp) (s : Shared) (a : Addr) (ns : List Int), K.In base → base.Ns mainGlobals mg → Env0 l.prog w K mg base callerA [] s H → SqL K H a (ns.map V.int) → ns.length ≤ 63 →
      codeAny (model l.prog w) callerA (.call (.ref fa) ⟨[.ref a], []⟩) (CR CX0 [] l.prog w H s (fun v _ => v = .bl true) fun _ _ _ => False) s := by
  intro base H s a ns _ _ en hS hn
  have e := hfa.symm.trans (PySem.W.mg_of X G a39)
  cases e
  have F1 := fun_mk (st := s_is_letter) l1 c1 k1
  have g1 := PySem.W.mg_of X G a1
  have F2 := fun_mk (st := s_is_node) l2 c2 k2
  have g2 := PySem.W.mg_of X G a2
  have F3 := fun_mk (st := s_is_tree) l3 c3 k3
  have g3 := PySem.W.mg_of X G a3
  have F4 := fun_mk (st := s_size_of) l4 c4 k4
  have g4 := PySem.W.mg_of X G a4
  have F5 := fun_mk (st := s_part_at) l5 c5 k5
  have g5 := PySem.W.mg_of X G a5
  have F6 := fun_mk (st := s_is_open) l6 c6 k6
  have g6 := PySem.W.mg_of X G a6
  have F7 := fun_mk (st := s_replaced) l7 c7 k7
  have g7 := PySem.W.mg_of X G a7
  have F8 := fun_mk (st := s_with_part) l8 c8 k8
  have g8 := PySem.W.mg_of X G a8
  have F9 := fun_mk (st := s_mirrored) l9 c9 k9
  have g9 := PySem.W.mg_of X G a9
  have F10 := fun_mk (st := s_node_at) l10 c10 k10
  have g10 := PySem.W.mg_of X G a10
  have F11 := fun_mk (st := s_with_node) l11 c11 k11
  have g11 := PySem.W.mg_of X G a11
  have F12 := fun_mk (st := s_without_node) l12 c12 k12
  have g12 := PySem.W.mg_of X G a12
  have F13 := fun_mk (st := s_with_label) l13 c13 k13
  have g13 := PySem.W.mg_of X G a13
  have F14 := fun_mk (st := s_turned) l14 c14 k14
  have g14 := PySem.W.mg_of X G a14
  have F15 := fun_mk (st := s_edited) l15 c15 k15
  have g15 := PySem.W.mg_of X G a15
  have F16 := fun_mk (st := s_is_kind) l16 c16 k16
  have g16 := PySem.W.mg_of X G a16
  have F17 := fun_mk (st := s_ordered_steps) l17 c17 k17
  have g17 := PySem.W.mg_of X G a17
  have F18 := fun_mk (st := s_deep_steps) l18 c18 k18
  have g18 := PySem.W.mg_of X G a18
  have F19 := fun_mk (st := s_walk) l19 c19 k19
  have g19 := PySem.W.mg_of X G a19
  have F20 := fun_mk (st := s__law_stream) l20 c20 k20
  have g20 := PySem.W.mg_of X G a20
  have F21 := fun_mk (st := s__law_take) l21 c21 k21
  have g21 := PySem.W.mg_of X G a21
  have F22 := fun_mk (st := s__law_equal) l22 c22 k22
  have g22 := PySem.W.mg_of X G a22
  have F23 := fun_mk (st := s__law_letter) l23 c23 k23
  have g23 := PySem.W.mg_of X G a23
  have F24 := fun_mk (st := s__law_paths) l24 c24 k24
  have g24 := PySem.W.mg_of X G a24
  have F25 := fun_mk (st := s__law_part) l25 c25 k25
  have g25 := PySem.W.mg_of X G a25
  have F26 := fun_mk (st := s__law_grafted) l26 c26 k26
  have g26 := PySem.W.mg_of X G a26
  have F27 := fun_mk (st := s__law_swapped) l27 c27 k27
  have g27 := PySem.W.mg_of X G a27
  have F28 := fun_mk (st := s__law_labels) l28 c28 k28
  have g28 := PySem.W.mg_of X G a28
  have F29 := fun_mk (st := s__law_spot) l29 c29 k29
  have g29 := PySem.W.mg_of X G a29
  have F30 := fun_mk (st := s__law_sorted_tree) l30 c30 k30
  have g30 := PySem.W.mg_of X G a30
  have F31 := fun_mk (st := s__law_tree) l31 c31 k31
  have g31 := PySem.W.mg_of X G a31
  have F32 := fun_mk (st := s__law_is_letter) l32 c32 k32
  have g32 := PySem.W.mg_of X G a32
  have F33 := fun_mk (st := s__law_due_put) l33 c33 k33
  have g33 := PySem.W.mg_of X G a33
  have F34 := fun_mk (st := s__law_due) l34 c34 k34
  have g34 := PySem.W.mg_of X G a34
  have F35 := fun_mk (st := s__law_do) l35 c35 k35
  have g35 := PySem.W.mg_of X G a35
  have F36 := fun_mk (st := s__law_text) l36 c36 k36
  have g36 := PySem.W.mg_of X G a36
  have F37 := fun_mk (st := s__law_seen) l37 c37 k37
  have g37 := PySem.W.mg_of X G a37
  have F38 := fun_mk (st := s__law_due_seen) l38 c38 k38
  have g38 := PySem.W.mg_of X G a38
  have F39 := fun_mk (st := s_law) l39 c39 k39
  have m_zip := PySem.W.mg_none_of X G z1
  have m_all := PySem.W.mg_none_of X G z2
  have m_repr := PySem.W.mg_none_of X G z3
  have m_len := PySem.W.mg_none_of X G z4
  have m_isinstance := PySem.W.mg_none_of X G z5
  have m_list := PySem.W.mg_none_of X G z6
  have m_tuple := PySem.W.mg_none_of X G z7
  have m_str := PySem.W.mg_none_of X G z8
  have m_int := PySem.W.mg_none_of X G z9
  have m_bool := PySem.W.mg_none_of X G z10
  have m_dict := PySem.W.mg_none_of X G z11
  have m_range := PySem.W.mg_none_of X G z12
  have m_sorted := PySem.W.mg_none_of X G z13
  have m_abs := PySem.W.mg_none_of X G z14
  have m_min := PySem.W.mg_none_of X G z15
  have m_max := PySem.W.mg_none_of X G z16
  have m1 := PySem.W.mg_of X G v1
  have b1 := F1.binds (ps := ["value"]) fun _ _ _ _ _ _ us hl => match us, hl with | [_], _ => rfl
  have b2 := F2.binds (ps := ["value"]) fun _ _ _ _ _ _ us hl => match us, hl with | [_], _ => rfl
  have b3 := F3.binds (ps := ["value"]) fun _ _ _ _ _ _ us hl => match us, hl with | [_], _ => rfl
  have b4 := F4.binds (ps := ["tree"]) fun _ _ _ _ _ _ us hl => match us, hl with | [_], _ => rfl
  have b5 := F5.binds (ps := ["tree", "path"]) fun _ _ _ _ _ _ us hl => match us, hl with | [_, _], _ => rfl
  have b6 := F6.binds (ps := ["tree", "path"]) fun _ _ _ _ _ _ us hl => match us, hl with | [_, _], _ => rfl
  have b7 := F7.binds (ps := ["tree", "path", "part"]) fun _ _ _ _ _ _ us hl => match us, hl with | [_, _, _], _ => rfl
  have b8 := F8.binds (ps := ["tree", "path", "part"]) fun _ _ _ _ _ _ us hl => match us, hl with | [_, _, _], _ => rfl
  have b9 := F9.binds (ps := ["tree"]) fun _ _ _ _ _ _ us hl => match us, hl with | [_], _ => rfl
  have b10 := F10.binds (ps := ["tree", "path"]) fun _ _ _ _ _ _ us hl => match us, hl with | [_, _], _ => rfl
  have b11 := F11.binds (ps := ["tree", "path", "label"]) fun _ _ _ _ _ _ us hl => match us, hl with | [_, _, _], _ => rfl
  have b12 := F12.binds (ps := ["tree", "path"]) fun _ _ _ _ _ _ us hl => match us, hl with | [_, _], _ => rfl
  have b13 := F13.binds (ps := ["tree", "path", "label"]) fun _ _ _ _ _ _ us hl => match us, hl with | [_, _, _], _ => rfl
  have b14 := F14.binds (ps := ["tree", "path"]) fun _ _ _ _ _ _ us hl => match us, hl with | [_, _], _ => rfl
  have b15 := F15.binds (ps := ["tree", "edit"]) fun _ _ _ _ _ _ us hl => match us, hl with | [_, _], _ => rfl
  have b16 := F16.binds (ps := ["value"]) fun _ _ _ _ _ _ us hl => match us, hl with | [_], _ => rfl
  have b17 := F17.binds (ps := ["tree", "kind"]) fun _ _ _ _ _ _ us hl => match us, hl with | [_, _], _ => rfl
  have b18 := F18.binds (ps := ["tree", "kind", "path"]) fun _ _ _ _ _ _ us hl => match us, hl with | [_, _, _], _ => rfl
  have b19 := F19.binds (ps := ["tree", "kind"]) fun _ _ _ _ _ _ us hl => match us, hl with | [_, _], _ => rfl
  have b20 := F20.binds (ps := ["_law_script", "_law_turn"]) fun _ _ _ _ _ _ us hl => match us, hl with | [_, _], _ => rfl
  have b21 := F21.binds (ps := ["_law_stream_here", "_law_many"]) fun _ _ _ _ _ _ us hl => match us, hl with | [_, _], _ => rfl
  have b22 := F22.binds (ps := ["_law_one", "_law_other"]) fun _ _ _ _ _ _ us hl => match us, hl with | [_, _], _ => rfl
  have b23 := F23.binds (ps := ["_law_stream_here"]) fun _ _ _ _ _ _ us hl => match us, hl with | [_], _ => rfl
  have b24 := F24.binds (ps := ["_law_tree_here"]) fun _ _ _ _ _ _ us hl => match us, hl with | [_], _ => rfl
  have b25 := F25.binds (ps := ["_law_tree_here", "_law_path"]) fun _ _ _ _ _ _ us hl => match us, hl with | [_, _], _ => rfl
  have b26 := F26.binds (ps := ["_law_tree_here", "_law_path", "_law_part_here"]) fun _ _ _ _ _ _ us hl => match us, hl with | [_, _, _], _ => rfl
  have b27 := F27.binds (ps := ["_law_tree_here"]) fun _ _ _ _ _ _ us hl => match us, hl with | [_], _ => rfl
  have b28 := F28.binds (ps := ["_law_tree_here", "_law_kind"]) fun _ _ _ _ _ _ us hl => match us, hl with | [_, _], _ => rfl
  have b29 := F29.binds (ps := ["_law_tree_here", "_law_letter_here"]) fun _ _ _ _ _ _ us hl => match us, hl with | [_, _], _ => rfl
  have b30 := F30.binds (ps := ["_law_stream_here", "_law_size"]) fun _ _ _ _ _ _ us hl => match us, hl with | [_, _], _ => rfl
  have b31 := F31.binds (ps := ["_law_stream_here", "_law_top"]) fun _ _ _ _ _ _ us hl => match us, hl with | [_, _], _ => rfl
  have b32 := F32.binds (ps := ["_law_value"]) fun _ _ _ _ _ _ us hl => match us, hl with | [_], _ => rfl
  have b33 := F33.binds (ps := ["_law_tree_here", "_law_edit", "_law_nodes", "_law_opens"]) fun _ _ _ _ _ _ us hl => match us, hl with | [_, _, _, _], _ => rfl
  have b34 := F34.binds (ps := ["_law_tree_here", "_law_edit"]) fun _ _ _ _ _ _ us hl => match us, hl with | [_, _], _ => rfl
  have b35 := F35.binds (ps := ["_law_desk", "_law_edit"]) fun _ _ _ _ _ _ us hl => match us, hl with | [_, _], _ => rfl
  have b36 := F36.binds (ps := ["_law_tree_here", "_law_many"]) fun _ _ _ _ _ _ us hl => match us, hl with | [_, _], _ => rfl
  have b37 := F37.binds (ps := ["_law_desk"]) fun _ _ _ _ _ _ us hl => match us, hl with | [_], _ => rfl
  have b38 := F38.binds (ps := ["_law_tree_here", "_law_done"]) fun _ _ _ _ _ _ us hl => match us, hl with | [_, _], _ => rfl
  have M : Mgs mg := ⟨m_zip, m_all, m_repr, m_len, m_isinstance, m_list, m_tuple, m_str, m_int, m_bool, m_dict, m_range, m_sorted, m_abs, m_min, m_max⟩
  have TD : DeskC K mg CD := ⟨⟨pg, hd, po, sa⟩, nT, nD, nB, PySem.W.mg_of X G aDK, ⟨_, moA, moG, ⟨_, rfl⟩, by decide +kernel⟩⟩
  have Dis_letter : Df l.prog w K mg base 1 "is_letter" ["value"] spLow := ⟨f1, _, ok_low (k := 0) F1 M, b1, k1, g1⟩
  have Dis_node : Df l.prog w K mg base 2 "is_node" ["value"] spNodeT := ⟨f2, _, ok_node (k := 0) F2 M Dis_letter, b2, k2, g2⟩
  have Dis_tree : Df l.prog w K mg base 3 "is_tree" ["value"] spTreeT := ⟨f3, _, ok_isTree F3 m1 Dis_node, b3, k3, g3⟩
  have Dsize_of : Df l.prog w K mg base 20 "size_of" ["tree"] (spSz 20) := ⟨f4, _, ok_size F4 b4 g4 20, b4, k4, g4⟩
  have Dpart_at : Df l.prog w K mg base 1 "part_at" ["tree", "path"] spPart := ⟨f5, _, ok_part (k := 0) F5 M, b5, k5, g5⟩
  have Dis_open : Df l.prog w K mg base 2 "is_open" ["tree", "path"] spOpen := ⟨f6, _, ok_open (k := 0) F6 Dpart_at, b6, k6, g6⟩
  have Dwith_part : Df l.prog w K mg base 20 "with_part" ["tree", "path", "part"] (spWith 20) := ⟨f8, _, ok_with F8 b8 g8 20, b8, k8, g8⟩
  have Dreplaced : Df l.prog w K mg base 21 "replaced" ["tree", "path", "part"] spRepl := ⟨f7, _, ok_repl F7 m1 Dpart_at Dsize_of Dwith_part, b7, k7, g7⟩
  have Dmirrored : Df l.prog w K mg base 20 "mirrored" ["tree"] (spMir 20) := ⟨f9, _, ok_mir F9 b9 g9 20, b9, k9, g9⟩
  have Dnode_at : Df l.prog w K mg base 2 "node_at" ["tree", "path"] spNodeAt := ⟨f10, _, ok_nodeAt (k := 0) F10 Dpart_at, b10, k10, g10⟩
  have AC : Acts K w mg aA f11 f12 f13 f14 := ⟨PySem.W.mg_of X G aAn, ⟨_, _, _, aAl, aAk, aA_put, rfl⟩, ⟨_, _, _, aAl, aAk, aA_cut, rfl⟩, ⟨_, _, _, aAl, aAk, aA_label, rfl⟩, ⟨_, _, _, aAl, aAk, aA_turn, rfl⟩⟩
  have R1 : FnR l.prog w K mg base CX0 22 f11 (spAct isPut) := (FnOk.raw (ok_withNode F11 Dis_open Dis_letter Dreplaced) b11 .nil).imp fun vs H Q E h => by rw [List.append_nil]; exact h
  have R2 : FnR l.prog w K mg base CX0 22 f12 (spAct isCut) := (FnOk.raw (ok_without F12 Dnode_at Dreplaced) b12 .nil).imp fun vs H Q E h => by rw [List.append_nil]; exact h
  have R3 : FnR l.prog w K mg base CX0 22 f13 (spAct isLab) := (FnOk.raw (ok_withLabel F13 Dnode_at Dis_letter Dreplaced) b13 .nil).imp fun vs H Q E h => by rw [List.append_nil]; exact h
  have R4 : FnR l.prog w K mg base CX0 22 f14 (spAct isTur) := (FnOk.raw (ok_turned F14 Dnode_at Dmirrored Dreplaced) b14 .nil).imp fun vs H Q E h => by rw [List.append_nil]; exact h
  have Dedited : Df l.prog w K mg base 23 "edited" ["tree", "edit"] spEdited := ⟨f15, _, ok_edited F15 AC ⟨R1, k11⟩ ⟨R2, k12⟩ ⟨R3, k13⟩ ⟨R4, k14⟩, b15, k15, g15⟩
  have Kk : KindsT K mg aK := ⟨PySem.W.mg_of X G aKn, fun H => .inr ⟨_, _, _, aKl, rfl, rfl, (by show 4 ≤ sizeLine; decide), .cons ⟨_, rfl⟩ (.cons ⟨_, rfl⟩ (.cons ⟨_, rfl⟩ (.cons ⟨_, rfl⟩ .nil)))⟩⟩
  have Dis_kind : Df l.prog w K mg base 1 "is_kind" ["value"] spKind := ⟨f16, _, ok_kind (k := 0) F16 M Kk, b16, k16, g16⟩
  have Ddeep_steps : Df l.prog w K mg base 60 "deep_steps" ["tree", "kind", "path"] (spDeep 60) := ⟨f18, _, ok_deep F18 b18 g18 60, b18, k18, g18⟩
  have Dordered_steps : Df l.prog w K mg base 61 "ordered_steps" ["tree", "kind"] spSteps := ⟨f17, _, ok_steps F17 Dis_kind Ddeep_steps, b17, k17, g17⟩
  have Dwalk : Df l.prog w K mg base 62 "walk" ["tree", "kind"] spWalk := ⟨f19, _, ok_walk F19 Dordered_steps, b19, k19, g19⟩
  have D_law_stream : Df l.prog w K mg base 1 "_law_stream" ["_law_script", "_law_turn"] (spStream K) := ⟨f20, _, ok_stream (k := 0) F20 M, b20, k20, g20⟩
  have D_law_take : Df l.prog w K mg base 1 "_law_take" ["_law_stream_here", "_law_many"] spTake1 := ⟨f21, _, ok_take1 (k := 0) F21, b21, k21, g21⟩
  have D_law_letter : Df l.prog w K mg base 2 "_law_letter" ["_law_stream_here"] spLetter1 := ⟨f23, _, ok_letter1 F23 D_law_take, b23, k23, g23⟩
  have D_law_paths : Df l.prog w K mg base 1 "_law_paths" ["_law_tree_here"] spPaths := ⟨f24, _, ok_lpaths (k := 0) F24, b24, k24, g24⟩
  have D_law_part : Df l.prog w K mg base 1 "_law_part" ["_law_tree_here", "_law_path"] spPart := ⟨f25, _, ok_lpart (k := 0) F25, b25, k25, g25⟩
  have D_law_grafted : Df l.prog w K mg base 20 "_law_grafted" ["_law_tree_here", "_law_path", "_law_part_here"] (spWith 20) := ⟨f26, _, ok_lgraft F26 b26 g26 20, b26, k26, g26⟩
  have D_law_swapped : Df l.prog w K mg base 20 "_law_swapped" ["_law_tree_here"] (spMir 20) := ⟨f27, _, ok_lswap F27 b27 g27 20, b27, k27, g27⟩
  have D_law_labels : Df l.prog w K mg base 20 "_law_labels" ["_law_tree_here", "_law_kind"] (spLabs 20) := ⟨f28, _, ok_llabels F28 b28 g28 20, b28, k28, g28⟩
  have D_law_spot : Df l.prog w K mg base 1 "_law_spot" ["_law_tree_here", "_law_letter_here"] spSpot := ⟨f29, _, ok_spot1 (k := 0) F29, b29, k29, g29⟩
  have D_law_sorted_tree : Df l.prog w K mg base 21 "_law_sorted_tree" ["_law_stream_here", "_law_size"] spSTree := ⟨f30, _, ok_sortedTree F30 M D_law_take D_law_spot D_law_grafted, b30, k30, g30⟩
  have D_law_tree : Df l.prog w K mg base 22 "_law_tree" ["_law_stream_here", "_law_top"] spTreeL := ⟨f31, _, ok_treeL F31 M D_law_take D_law_letter D_law_sorted_tree D_law_paths D_law_grafted, b31, k31, g31⟩
  have F_init := fun_mk (st := s_Desk___init__) lk_init cd_f_init kp_init
  have b_init := F_init.binds (ps := ["self", "tree"]) fun _ _ _ _ _ _ us hl => match us, hl with | [_, _], _ => rfl
  have F_check_free := fun_mk (st := s_Desk_check_free) lk_check_free cd_f_check_free kp_check_free
  have b_check_free := F_check_free.binds (ps := ["self"]) fun _ _ _ _ _ _ us hl => match us, hl with | [_], _ => rfl
  have F_check_tree := fun_mk (st := s_Desk_check_tree) lk_check_tree cd_f_check_tree kp_check_tree
  have b_check_tree := F_check_tree.binds (ps := ["self", "tree"]) fun _ _ _ _ _ _ us hl => match us, hl with | [_, _], _ => rfl
  have F_told := fun_mk (st := s_Desk_told) lk_told cd_f_told kp_told
  have b_told := F_told.binds (ps := ["self", "name"]) fun _ _ _ _ _ _ us hl => match us, hl with | [_, _], _ => rfl
  have F_take := fun_mk (st := s_Desk_take) lk_take cd_f_take kp_take
  have b_take := F_take.binds (ps := ["self", "edit"]) fun _ _ _ _ _ _ us hl => match us, hl with | [_, _], _ => rfl
  have F_called := fun_mk (st := s_Desk_called) lk_called cd_f_called kp_called
  have b_called := F_called.binds (ps := ["self", "edit"]) fun _ _ _ _ _ _ us hl => match us, hl with | [_, _], _ => rfl
  have F_put := fun_mk (st := s_Desk_put) lk_put cd_f_put kp_put
  have b_put := F_put.binds (ps := ["self", "path", "label"]) fun _ _ _ _ _ _ us hl => match us, hl with | [_, _, _], _ => rfl
  have F_cut := fun_mk (st := s_Desk_cut) lk_cut cd_f_cut kp_cut
  have b_cut := F_cut.binds (ps := ["self", "path"]) fun _ _ _ _ _ _ us hl => match us, hl with | [_, _], _ => rfl
  have F_label := fun_mk (st := s_Desk_label) lk_label cd_f_label kp_label
  have b_label := F_label.binds (ps := ["self", "path", "label"]) fun _ _ _ _ _ _ us hl => match us, hl with | [_, _, _], _ => rfl
  have F_turn := fun_mk (st := s_Desk_turn) lk_turn cd_f_turn kp_turn
  have b_turn := F_turn.binds (ps := ["self", "path"]) fun _ _ _ _ _ _ us hl => match us, hl with | [_, _], _ => rfl
  have F_edits := fun_mk (st := s_Desk_edits) lk_edits cd_f_edits kp_edits
  have b_edits := F_edits.binds (ps := ["self"]) fun _ _ _ _ _ _ us hl => match us, hl with | [_], _ => rfl
  have F_len := fun_mk (st := s_Desk___len__) lk_len cd_f_len kp_len
  have b_len := F_len.binds (ps := ["self"]) fun _ _ _ _ _ _ us hl => match us, hl with | [_], _ => rfl
  have F_str := fun_mk (st := s_Desk___str__) lk_str cd_f_str kp_str
  have b_str := F_str.binds (ps := ["self"]) fun _ _ _ _ _ _ us hl => match us, hl with | [_], _ => rfl
  have F_tree := fun_mk (st := s_Desk_tree) lk_tree cd_f_tree kp_tree
  have FD_tree : FunD K "tree" "Desk.tree" (defArgs s_Desk_tree) (defBody s_Desk_tree) (defScope s_Desk_tree) [] [("version", .non)] g_tree _ := ⟨⟨_, _, _, _, _, _, _, _, _, _, rfl, lk_tree, cd_f_tree, .inl ⟨rfl, rfl⟩, .inr ⟨DK_tree, rfl, fun q hq => by rw [List.mem_singleton.mp hq]; exact ⟨_, ns_tree_version, rfl⟩⟩⟩, kp_tree⟩
  obtain ⟨dn_tree, vd_tree, b_tree⟩ := FD_tree.binds0 (ps := ["self", "version"]) 1 (by simp) rfl (fun D doc pm an cdv ct us ks h1 h2 => match us, ks, h1, h2 with | [_], [_], _, _ => ⟨_, _, _, _, _, _, rfl, rfl, rfl⟩)
  have F_version := fun_mk (st := s_Desk_version) lk_version cd_f_version kp_version
  have b_version := F_version.binds (ps := ["self"]) fun _ _ _ _ _ _ us hl => match us, hl with | [_], _ => rfl
  have F_size := fun_mk (st := s_Desk_size) lk_size cd_f_size kp_size
  have b_size := F_size.binds (ps := ["self"]) fun _ _ _ _ _ _ us hl => match us, hl with | [_], _ => rfl
  have F_first := fun_mk (st := s_Desk_first) lk_first cd_f_first kp_first
  have b_first := F_first.binds (ps := ["self"]) fun _ _ _ _ _ _ us hl => match us, hl with | [_], _ => rfl
  have F_between := fun_mk (st := s_Desk_between) lk_between cd_f_between kp_between
  have b_between := F_between.binds (ps := ["self"]) fun _ _ _ _ _ _ us hl => match us, hl with | [_], _ => rfl
  have F_last := fun_mk (st := s_Desk_last) lk_last cd_f_last kp_last
  have b_last := F_last.binds (ps := ["self"]) fun _ _ _ _ _ _ us hl => match us, hl with | [_], _ => rfl
  have Dcf : MDf l.prog w K mg base CD 1 "check_free" ["self"] (spFree CD) := ⟨g_check_free, _, ok_free (k := 0) F_check_free TD, b_check_free, ⟨at_check_free, fn_check_free, kp_check_free⟩⟩
  have Dct : MDf l.prog w K mg base CD 1 "check_tree" ["self", "tree"] spCT := ⟨g_check_tree, _, ok_ct (k := 0) F_check_tree, b_check_tree, ⟨at_check_tree, fn_check_tree, kp_check_tree⟩⟩
  have Dtold : MDf l.prog w K mg base CD 1 "told" ["self", "name"] (spTold CD) := ⟨g_told, _, ok_told (k := 0) F_told TD M, b_told, ⟨at_told, fn_told, kp_told⟩⟩
  have Dtake : MDf l.prog w K mg base CD 24 "take" ["self", "edit"] (spTake CD) := ⟨g_take, _, ok_take F_take TD M Dedited Dct, b_take, ⟨at_take, fn_take, kp_take⟩⟩
  have Dcalled : MDf l.prog w K mg base CD 25 "called" ["self", "edit"] (spCalled CD) := ⟨g_called, _, ok_called F_called TD Dcf Dtake Dtold, b_called, ⟨at_called, fn_called, kp_called⟩⟩
  have Dput : MDf l.prog w K mg base CD 26 "put" ["self", "path", "label"] (spDo CD isPut) := ⟨g_put, _, ok_put F_put TD Dcalled, b_put, ⟨at_put, fn_put, kp_put⟩⟩
  have Dcut : MDf l.prog w K mg base CD 26 "cut" ["self", "path"] (spDo CD isCut) := ⟨g_cut, _, ok_cut F_cut TD Dcalled, b_cut, ⟨at_cut, fn_cut, kp_cut⟩⟩
  have Dlabel : MDf l.prog w K mg base CD 26 "label" ["self", "path", "label"] (spDo CD isLab) := ⟨g_label, _, ok_label F_label TD Dcalled, b_label, ⟨at_label, fn_label, kp_label⟩⟩
  have Dturn : MDf l.prog w K mg base CD 26 "turn" ["self", "path"] (spDo CD isTur) := ⟨g_turn, _, ok_turn F_turn TD Dcalled, b_turn, ⟨at_turn, fn_turn, kp_turn⟩⟩
  have Dedits : MDf l.prog w K mg base CD 1 "edits" ["self"] (spEditsM CD) := ⟨g_edits, _, ok_editsM (k := 0) F_edits TD, b_edits, ⟨at_edits, fn_edits, kp_edits⟩⟩
  have Pver : PDf l.prog w K mg base CD 1 "version" (spVer CD) := ⟨g_version, _, p_version, ok_ver (k := 0) F_version TD M, b_version, ⟨at_version, gt_version, tk_version, ⟨_, rc_version⟩⟩⟩
  have Psize : PDf l.prog w K mg base CD 21 "size" (spSizeP CD) := ⟨g_size, _, p_size, ok_sizeP F_size TD Dsize_of, b_size, ⟨at_size, gt_size, tk_size, ⟨_, rc_size⟩⟩⟩
  have Pfirst : PDf l.prog w K mg base CD 63 "first" (spWalkP CD .first) := ⟨g_first, _, p_first, ok_first F_first TD Dwalk, b_first, ⟨at_first, gt_first, tk_first, ⟨_, rc_first⟩⟩⟩
  have Pbetw : PDf l.prog w K mg base CD 63 "between" (spWalkP CD .between) := ⟨g_between, _, p_between, ok_betw F_between TD Dwalk, b_between, ⟨at_between, gt_between, tk_between, ⟨_, rc_between⟩⟩⟩
  have Plast : PDf l.prog w K mg base CD 63 "last" (spWalkP CD .last) := ⟨g_last, _, p_last, ok_last F_last TD Dwalk, b_last, ⟨at_last, gt_last, tk_last, ⟨_, rc_last⟩⟩⟩
  have FL : FnR l.prog w K mg base CX0 1 g_len (spVer CD) := (FnOk.raw (ok_len (k := 0) F_len TD M) b_len .nil).imp fun vs H Q E h => by rw [List.append_nil]; exact h
  have FS : FnR l.prog w K mg base CX0 21 g_str (spStrD CD) := (FnOk.raw (ok_str F_str TD M Dsize_of) b_str .nil).imp fun vs H Q E h => by rw [List.append_nil]; exact h
  have D_law_is_letter : Df l.prog w K mg base 1 "_law_is_letter" ["_law_value"] spLow := ⟨f32, _, ok_lowL (k := 0) F32 M, b32, k32, g32⟩
  have D_law_due_put : Df l.prog w K mg base 21 "_law_due_put" ["_law_tree_here", "_law_edit", "_law_nodes", "_law_opens"] spDueP := ⟨f33, _, ok_dueP F33 M D_law_is_letter D_law_grafted, b33, k33, g33⟩
  have D_law_due : Df l.prog w K mg base 22 "_law_due" ["_law_tree_here", "_law_edit"] spDueL := ⟨f34, _, ok_dueL F34 M D_law_paths D_law_due_put D_law_part D_law_is_letter D_law_swapped D_law_grafted, b34, k34, g34⟩
  have D_law_do : Df l.prog w K mg base 27 "_law_do" ["_law_desk", "_law_edit"] (spCalled CD) := ⟨f35, _, ok_doL F35 TD Dput Dcut Dlabel Dturn, b35, k35, g35⟩
  have gm_law_some_edit := PySem.W.mg_of X G a_law_some_edit
  have FD_law_some_edit : FunD K "_law_some_edit" "_law_some_edit" (defArgs s__law_some_edit) (defBody s__law_some_edit) (defScope s__law_some_edit) [.int 13] [] g_law_some_edit _ := ⟨⟨_, _, _, _, _, _, _, _, _, _, rfl, lk_law_some_edit, cd_f_law_some_edit, .inr ⟨by simp, T_law_some_edit, _, [.int 13 tt_law_some_edit], _, rfl, tl_law_some_edit, rfl, .cons ⟨_, rfl⟩ .nil⟩, .inl rfl⟩, kp_law_some_edit⟩
  obtain ⟨dn_law_some_edit, vd_law_some_edit, bd_law_some_edit⟩ := bd_of_law_some_edit FD_law_some_edit
  have b_law_some_edit := b_of_law_some_edit FD_law_some_edit
  have gm_law_valid_edit := PySem.W.mg_of X G a_law_valid_edit
  have FD_law_valid_edit : FunD K "_law_valid_edit" "_law_valid_edit" (defArgs s__law_valid_edit) (defBody s__law_valid_edit) (defScope s__law_valid_edit) [.int 13] [] g_law_valid_edit _ := ⟨⟨_, _, _, _, _, _, _, _, _, _, rfl, lk_law_valid_edit, cd_f_law_valid_edit, .inr ⟨by simp, T_law_valid_edit, _, [.int 13 tt_law_valid_edit], _, rfl, tl_law_valid_edit, rfl, .cons ⟨_, rfl⟩ .nil⟩, .inl rfl⟩, kp_law_valid_edit⟩
  obtain ⟨dn_law_valid_edit, vd_law_valid_edit, bd_law_valid_edit⟩ := bd_of_law_valid_edit FD_law_valid_edit
  have b_law_valid_edit := b_of_law_valid_edit FD_law_valid_edit
  have D_law_some_edit : Df l.prog w K mg base 3 "_law_some_edit" ["_law_stream_here", "_law_tree_here", "_law_top"] spSome := ⟨g_law_some_edit, _, ok_some FD_law_some_edit M D_law_take D_law_letter D_law_paths, b_law_some_edit, kp_law_some_edit, gm_law_some_edit⟩
  have Fv := ok_valid (P := l.prog) (w := w) (mg := mg) (base := base) FD_law_valid_edit M D_law_some_edit D_law_due
  have D_law_text : Df l.prog w K mg base 2 "_law_text" ["_law_tree_here", "_law_many"] spText2 := ⟨f36, _, ok_text F36 M D_law_paths, b36, k36, g36⟩
  have D_law_seen : Df l.prog w K mg base 66 "_law_seen" ["_law_desk"] (spSeenL CD) := ⟨f37, _, ok_seen F37 TD M Pver Psize Pfirst Pbetw Plast ⟨at_tree, fn_tree, kp_tree⟩ (ok_treeM (k := 0) F_tree TD) b_tree vd_tree Dedits at_len fn_len FL at_str fn_str FS, b37, k37, g37⟩
  have D_law_due_seen : Df l.prog w K mg base 21 "_law_due_seen" ["_law_tree_here", "_law_done"] spDueS := ⟨f38, _, ok_dueS F38 M D_law_labels D_law_text, b38, k38, g38⟩
  have D_law_equal : DfG l.prog w K mg base 1 "_law_equal" ["_law_one", "_law_other"] (spEqual K) := ⟨f22, _, ok_equal (k := 0) F22 M, b22, k22, g22⟩
  exact run_law F39 (.of_eq rfl) en hS M TD D_law_stream D_law_tree ⟨mk, at_init, fn_init, kc⟩ (ok_init F_init TD Dis_tree) b_init D_law_equal D_law_seen D_law_due_seen D_law_take Fv gm_law_valid_edit kp_law_valid_edit bd_law_valid_edit vd_law_valid_edit D_law_do D_law_due
theorem walk_at {l : PySem.W.OpenLaw} {q : Program} {loose : List Str} {XP : (Str → Option Value) → Heap → Prop} {YP : World → Heap → Prop} {d : DefRec} {K : Params → PySem.W.Frag} (most : l.most = some 63) (noDf : d.params.defaults = [])
    (inK : ∀ (w : World) (h : Heap), YP w h → (K w.params).In h)
    (F : ∀ (w : World) (mg : Str → Option Value) (fa : Addr) (h : Heap), (K w.params).In h → h.Ns mainGlobals mg → mg d.name = some (.ref fa) →
      ∀ (base : Heap) (H : Hp) (s : Shared) (a : Addr) (ns : List Int), (K w.params).In base → base.Ns mainGlobals mg → Env0 l.prog w (K w.params) mg base callerA [] s H → SqL (K w.params) H a (ns.map V.int) → ns.length ≤ 63 →
        codeAny (model l.prog w) callerA (.call (.ref fa) ⟨[.ref a], []⟩) (CR CX0 [] l.prog w H s (fun v _ => v = .bl true) fun _ _ _ => False) s) :
    PySem.W.WalkO q loose XP YP l.row.toRowW d [] (fun f vs => PySem.call f vs) := by
  refine Att.attach_call most noDf ?_
  intro w s₀ s₁ mg mb fa o pm cd doc a vs ns G Y ho hd hcd hmg hobj hints hlen hg
  exact law_at (inK w _ Y) G.T.g G.T.b G.T.builtins G.T.nolimit hg hobj hints (Nat.le_trans hlen (by decide)) fun base H h1 h2 en hS => F w mg fa _ (inK w _ Y) G.T.g hmg base H s₁ a ns h1 h2 en hS hlen
end Tw
open PySem PySem.W PyProof.Rows
set_option maxRecDepth 100000 in
set_option maxHeartbeats 0 in
theorem PySem.Challenge.cw_treewalks_k60_desks_and_edits_holds : PySem.Challenge.rw_treewalks_k60_desks_and_edits.Holds := by
  w_on; o_law; k_head; (case hw => w_witness2)
  k_fill
  refine Tw.walk_at (l := PySem.Challenge.rw_treewalks_k60_desks_and_edits) rfl rfl (fun w h Y => by first | exact PySem.W.kIn_of Y | exact PySem.W.km_in_of Y) ?F
  case F =>
    intro w mg fa h KX G hmg
    refine' Tw.all_mk KX G hmg ?aDK ?pg ?hd ?po ?sa ?mk ?kc ?nT ?nD ?nB ?moA ?moG ?aAn ?aAl ?aAk ?aA_put ?aA_cut ?aA_label ?aA_turn ?aKn ?aKl ?at_init ?fn_init ?kp_init ?lk_init ?cd_f_init ?at_check_free ?fn_check_free ?kp_check_free ?lk_check_free ?cd_f_check_free ?at_check_tree ?fn_check_tree ?kp_check_tree ?lk_check_tree ?cd_f_check_tree ?at_told ?fn_told ?kp_told ?lk_told ?cd_f_told ?at_take ?fn_take ?kp_take ?lk_take ?cd_f_take ?at_called ?fn_called ?kp_called ?lk_called ?cd_f_called ?at_put ?fn_put ?kp_put ?lk_put ?cd_f_put ?at_cut ?fn_cut ?kp_cut ?lk_cut ?cd_f_cut ?at_label ?fn_label ?kp_label ?lk_label ?cd_f_label ?at_turn ?fn_turn ?kp_turn ?lk_turn ?cd_f_turn ?at_edits ?fn_edits ?kp_edits ?lk_edits ?cd_f_edits ?at_len ?fn_len ?kp_len ?lk_len ?cd_f_len ?at_str ?fn_str ?kp_str ?lk_str ?cd_f_str ?at_tree ?fn_tree ?kp_tree ?lk_tree ?cd_f_tree ?ns_tree_version ?at_version ?gt_version ?tk_version ?rc_version ?kp_version ?lk_version ?cd_f_version ?at_size ?gt_size ?tk_size ?rc_size ?kp_size ?lk_size ?cd_f_size ?at_first ?gt_first ?tk_first ?rc_first ?kp_first ?lk_first ?cd_f_first ?at_between ?gt_between ?tk_between ?rc_between ?kp_between ?lk_between ?cd_f_between ?at_last ?gt_last ?tk_last ?rc_last ?kp_last ?lk_last ?cd_f_last ?a_law_some_edit ?kp_law_some_edit ?lk_law_some_edit ?cd_f_law_some_edit ?tl_law_some_edit ?a_law_valid_edit ?kp_law_valid_edit ?lk_law_valid_edit ?cd_f_law_valid_edit ?tl_law_valid_edit ?a1 ?l1 ?c1 ?k1 ?a2 ?l2 ?c2 ?k2 ?a3 ?l3 ?c3 ?k3 ?a4 ?l4 ?c4 ?k4 ?a5 ?l5 ?c5 ?k5 ?a6 ?l6 ?c6 ?k6 ?a7 ?l7 ?c7 ?k7 ?a8 ?l8 ?c8 ?k8 ?a9 ?l9 ?c9 ?k9 ?a10 ?l10 ?c10 ?k10 ?a11 ?l11 ?c11 ?k11 ?a12 ?l12 ?c12 ?k12 ?a13 ?l13 ?c13 ?k13 ?a14 ?l14 ?c14 ?k14 ?a15 ?l15 ?c15 ?k15 ?a16 ?l16 ?c16 ?k16 ?a17 ?l17 ?c17 ?k17 ?a18 ?l18 ?c18 ?k18 ?a19 ?l19 ?c19 ?k19 ?a20 ?l20 ?c20 ?k20 ?a21 ?l21 ?c21 ?k21 ?a22 ?l22 ?c22 ?k22 ?a23 ?l23 ?c23 ?k23 ?a24 ?l24 ?c24 ?k24 ?a25 ?l25 ?c25 ?k25 ?a26 ?l26 ?c26 ?k26 ?a27 ?l27 ?c27 ?k27 ?a28 ?l28 ?c28 ?k28 ?a29 ?l29 ?c29 ?k29 ?a30 ?l30 ?c30 ?k30 ?a31 ?l31 ?c31 ?k31 ?a32 ?l32 ?c32 ?k32 ?a33 ?l33 ?c33 ?k33 ?a34 ?l34 ?c34 ?k34 ?a35 ?l35 ?c35 ?k35 ?a36 ?l36 ?c36 ?k36 ?a37 ?l37 ?c37 ?k37 ?a38 ?l38 ?c38 ?k38 ?a39 ?l39 ?c39 ?k39 ?z1 ?z2 ?z3 ?z4 ?z5 ?z6 ?z7 ?z8 ?z9 ?z10 ?z11 ?z12 ?z13 ?z14 ?z15 ?z16 ?v1
    (case aDK => first | k_is | rfl | decide +kernel)
    (case pg => first | k_is | rfl | decide +kernel)
    (case hd => first | k_is | rfl | decide +kernel)
    (case po => first | k_is | rfl | decide +kernel)
    (case sa => first | k_is | rfl | decide +kernel)
    (case mk => first | k_is | rfl | decide +kernel)
    (case kc => first | k_is | rfl | decide +kernel)
    (case nT => first | k_is | rfl | decide +kernel)
    (case nD => first | k_is | rfl | decide +kernel)
    (case nB => first | k_is | rfl | decide +kernel)
    (case moA => first | k_is | rfl | decide +kernel)
    (case moG => first | k_is | rfl | decide +kernel)
    (case aAn => first | k_is | rfl | decide +kernel)
    (case aAl => first | k_is | rfl | decide +kernel)
    (case aAk => exact ⟨⟨_, _, rfl, rfl⟩, ⟨_, _, rfl, rfl⟩, ⟨_, _, rfl, rfl⟩, ⟨_, _, rfl, rfl⟩, trivial⟩)
    (case aA_put => first | k_is | rfl | decide +kernel)
    (case aA_cut => first | k_is | rfl | decide +kernel)
    (case aA_label => first | k_is | rfl | decide +kernel)
    (case aA_turn => first | k_is | rfl | decide +kernel)
    (case aKn => first | k_is | rfl | decide +kernel)
    (case aKl => first | k_is | rfl | decide +kernel)
    (case at_init => first | k_is | rfl | decide +kernel)
    (case fn_init => first | k_is | rfl | decide +kernel)
    (case kp_init => first | k_is | rfl | decide +kernel)
    (case lk_init => first | k_is | rfl | decide +kernel)
    (case cd_f_init => first | k_is | rfl | decide +kernel)
    (case at_check_free => first | k_is | rfl | decide +kernel)
    (case fn_check_free => first | k_is | rfl | decide +kernel)
    (case kp_check_free => first | k_is | rfl | decide +kernel)
    (case lk_check_free => first | k_is | rfl | decide +kernel)
    (case cd_f_check_free => first | k_is | rfl | decide +kernel)
    (case at_check_tree => first | k_is | rfl | decide +kernel)
    (case fn_check_tree => first | k_is | rfl | decide +kernel)
    (case kp_check_tree => first | k_is | rfl | decide +kernel)
    (case lk_check_tree => first | k_is | rfl | decide +kernel)
    (case cd_f_check_tree => first | k_is | rfl | decide +kernel)
    (case at_told => first | k_is | rfl | decide +kernel)
    (case fn_told => first | k_is | rfl | decide +kernel)
    (case kp_told => first | k_is | rfl | decide +kernel)
    (case lk_told => first | k_is | rfl | decide +kernel)
    (case cd_f_told => first | k_is | rfl | decide +kernel)
    (case at_take => first | k_is | rfl | decide +kernel)
    (case fn_take => first | k_is | rfl | decide +kernel)
    (case kp_take => first | k_is | rfl | decide +kernel)
    (case lk_take => first | k_is | rfl | decide +kernel)
    (case cd_f_take => first | k_is | rfl | decide +kernel)
    (case at_called => first | k_is | rfl | decide +kernel)
    (case fn_called => first | k_is | rfl | decide +kernel)
    (case kp_called => first | k_is | rfl | decide +kernel)
    (case lk_called => first | k_is | rfl | decide +kernel)
    (case cd_f_called => first | k_is | rfl | decide +kernel)
    (case at_put => first | k_is | rfl | decide +kernel)
    (case fn_put => first | k_is | rfl | decide +kernel)
    (case kp_put => first | k_is | rfl | decide +kernel)
    (case lk_put => first | k_is | rfl | decide +kernel)
    (case cd_f_put => first | k_is | rfl | decide +kernel)
    (case at_cut => first | k_is | rfl | decide +kernel)
    (case fn_cut => first | k_is | rfl | decide +kernel)
    (case kp_cut => first | k_is | rfl | decide +kernel)
    (case lk_cut => first | k_is | rfl | decide +kernel)
    (case cd_f_cut => first | k_is | rfl | decide +kernel)
    (case at_label => first | k_is | rfl | decide +kernel)
    (case fn_label => first | k_is | rfl | decide +kernel)
    (case kp_label => first | k_is | rfl | decide +kernel)
    (case lk_label => first | k_is | rfl | decide +kernel)
    (case cd_f_label => first | k_is | rfl | decide +kernel)
    (case at_turn => first | k_is | rfl | decide +kernel)
    (case fn_turn => first | k_is | rfl | decide +kernel)
    (case kp_turn => first | k_is | rfl | decide +kernel)
    (case lk_turn => first | k_is | rfl | decide +kernel)
    (case cd_f_turn => first | k_is | rfl | decide +kernel)
    (case at_edits => first | k_is | rfl | decide +kernel)
    (case fn_edits => first | k_is | rfl | decide +kernel)
    (case kp_edits => first | k_is | rfl | decide +kernel)
    (case lk_edits => first | k_is | rfl | decide +kernel)
    (case cd_f_edits => first | k_is | rfl | decide +kernel)
    (case at_len => first | k_is | rfl | decide +kernel)
    (case fn_len => first | k_is | rfl | decide +kernel)
    (case kp_len => first | k_is | rfl | decide +kernel)
    (case lk_len => first | k_is | rfl | decide +kernel)
    (case cd_f_len => first | k_is | rfl | decide +kernel)
    (case at_str => first | k_is | rfl | decide +kernel)
    (case fn_str => first | k_is | rfl | decide +kernel)
    (case kp_str => first | k_is | rfl | decide +kernel)
    (case lk_str => first | k_is | rfl | decide +kernel)
    (case cd_f_str => first | k_is | rfl | decide +kernel)
    (case at_tree => first | k_is | rfl | decide +kernel)
    (case fn_tree => first | k_is | rfl | decide +kernel)
    (case kp_tree => first | k_is | rfl | decide +kernel)
    (case lk_tree => first | k_is | rfl | decide +kernel)
    (case cd_f_tree => first | k_is | rfl | decide +kernel)
    (case ns_tree_version => first | k_is | rfl | decide +kernel)
    (case at_version => first | k_is | rfl | decide +kernel)
    (case gt_version => first | k_is | rfl | decide +kernel)
    (case tk_version => first | k_is | rfl | decide +kernel)
    (case rc_version => first | k_is | rfl | decide +kernel)
    (case kp_version => first | k_is | rfl | decide +kernel)
    (case lk_version => first | k_is | rfl | decide +kernel)
    (case cd_f_version => first | k_is | rfl | decide +kernel)
    (case at_size => first | k_is | rfl | decide +kernel)
    (case gt_size => first | k_is | rfl | decide +kernel)
    (case tk_size => first | k_is | rfl | decide +kernel)
    (case rc_size => first | k_is | rfl | decide +kernel)
    (case kp_size => first | k_is | rfl | decide +kernel)
    (case lk_size => first | k_is | rfl | decide +kernel)
    (case cd_f_size => first | k_is | rfl | decide +kernel)
    (case at_first => first | k_is | rfl | decide +kernel)
    (case gt_first => first | k_is | rfl | decide +kernel)
    (case tk_first => first | k_is | rfl | decide +kernel)
    (case rc_first => first | k_is | rfl | decide +kernel)
    (case kp_first => first | k_is | rfl | decide +kernel)
    (case lk_first => first | k_is | rfl | decide +kernel)
    (case cd_f_first => first | k_is | rfl | decide +kernel)
    (case at_between => first | k_is | rfl | decide +kernel)
    (case gt_between => first | k_is | rfl | decide +kernel)
    (case tk_between => first | k_is | rfl | decide +kernel)
    (case rc_between => first | k_is | rfl | decide +kernel)
    (case kp_between => first | k_is | rfl | decide +kernel)
    (case lk_between => first | k_is | rfl | decide +kernel)
    (case cd_f_between => first | k_is | rfl | decide +kernel)
    (case at_last => first | k_is | rfl | decide +kernel)
    (case gt_last => first | k_is | rfl | decide +kernel)
    (case tk_last => first | k_is | rfl | decide +kernel)
    (case rc_last => first | k_is | rfl | decide +kernel)
    (case kp_last => first | k_is | rfl | decide +kernel)
    (case lk_last => first | k_is | rfl | decide +kernel)
    (case cd_f_last => first | k_is | rfl | decide +kernel)
    (case a_law_some_edit => first | k_is | rfl | decide +kernel)
    (case kp_law_some_edit => first | k_is | rfl | decide +kernel)
    (case lk_law_some_edit => first | k_is | rfl | decide +kernel)
    (case cd_f_law_some_edit => first | k_is | rfl | decide +kernel)
    (case tl_law_some_edit => first | k_is | rfl | decide +kernel)
    (case a_law_valid_edit => first | k_is | rfl | decide +kernel)
    (case kp_law_valid_edit => first | k_is | rfl | decide +kernel)
    (case lk_law_valid_edit => first | k_is | rfl | decide +kernel)
    (case cd_f_law_valid_edit => first | k_is | rfl | decide +kernel)
    (case tl_law_valid_edit => first | k_is | rfl | decide +kernel)
    (case a1 => k_is)
    (case l1 => k_is)
    (case c1 => k_is)
    (case k1 => k_is)
    (case a2 => k_is)
    (case l2 => k_is)
    (case c2 => k_is)
    (case k2 => k_is)
    (case a3 => k_is)
    (case l3 => k_is)
    (case c3 => k_is)
    (case k3 => k_is)
    (case a4 => k_is)
    (case l4 => k_is)
    (case c4 => k_is)
    (case k4 => k_is)
    (case a5 => k_is)
    (case l5 => k_is)
    (case c5 => k_is)
    (case k5 => k_is)
    (case a6 => k_is)
    (case l6 => k_is)
    (case c6 => k_is)
    (case k6 => k_is)
    (case a7 => k_is)
    (case l7 => k_is)
    (case c7 => k_is)
    (case k7 => k_is)
    (case a8 => k_is)
    (case l8 => k_is)
    (case c8 => k_is)
    (case k8 => k_is)
    (case a9 => k_is)
    (case l9 => k_is)
    (case c9 => k_is)
    (case k9 => k_is)
    (case a10 => k_is)
    (case l10 => k_is)
    (case c10 => k_is)
    (case k10 => k_is)
    (case a11 => k_is)
    (case l11 => k_is)
    (case c11 => k_is)
    (case k11 => k_is)
    (case a12 => k_is)
    (case l12 => k_is)
    (case c12 => k_is)
    (case k12 => k_is)
    (case a13 => k_is)
    (case l13 => k_is)
    (case c13 => k_is)
    (case k13 => k_is)
    (case a14 => k_is)
    (case l14 => k_is)
    (case c14 => k_is)
    (case k14 => k_is)
    (case a15 => k_is)
    (case l15 => k_is)
    (case c15 => k_is)
    (case k15 => k_is)
    (case a16 => k_is)
    (case l16 => k_is)
    (case c16 => k_is)
    (case k16 => k_is)
    (case a17 => k_is)
    (case l17 => k_is)
    (case c17 => k_is)
    (case k17 => k_is)
    (case a18 => k_is)
    (case l18 => k_is)
    (case c18 => k_is)
    (case k18 => k_is)
    (case a19 => k_is)
    (case l19 => k_is)
    (case c19 => k_is)
    (case k19 => k_is)
    (case a20 => k_is)
    (case l20 => k_is)
    (case c20 => k_is)
    (case k20 => k_is)
    (case a21 => k_is)
    (case l21 => k_is)
    (case c21 => k_is)
    (case k21 => k_is)
    (case a22 => k_is)
    (case l22 => k_is)
    (case c22 => k_is)
    (case k22 => k_is)
    (case a23 => k_is)
    (case l23 => k_is)
    (case c23 => k_is)
    (case k23 => k_is)
    (case a24 => k_is)
    (case l24 => k_is)
    (case c24 => k_is)
    (case k24 => k_is)
    (case a25 => k_is)
    (case l25 => k_is)
    (case c25 => k_is)
    (case k25 => k_is)
    (case a26 => k_is)
    (case l26 => k_is)
    (case c26 => k_is)
    (case k26 => k_is)
    (case a27 => k_is)
    (case l27 => k_is)
    (case c27 => k_is)
    (case k27 => k_is)
    (case a28 => k_is)
    (case l28 => k_is)
    (case c28 => k_is)
    (case k28 => k_is)
    (case a29 => k_is)
    (case l29 => k_is)
    (case c29 => k_is)
    (case k29 => k_is)
    (case a30 => k_is)
    (case l30 => k_is)
    (case c30 => k_is)
    (case k30 => k_is)
    (case a31 => k_is)
    (case l31 => k_is)
    (case c31 => k_is)
    (case k31 => k_is)
    (case a32 => k_is)
    (case l32 => k_is)
    (case c32 => k_is)
    (case k32 => k_is)
    (case a33 => k_is)
    (case l33 => k_is)
    (case c33 => k_is)
    (case k33 => k_is)
    (case a34 => k_is)
    (case l34 => k_is)
    (case c34 => k_is)
    (case k34 => k_is)
    (case a35 => k_is)
    (case l35 => k_is)
    (case c35 => k_is)
    (case k35 => k_is)
    (case a36 => k_is)
    (case l36 => k_is)
    (case c36 => k_is)
    (case k36 => k_is)
    (case a37 => k_is)
    (case l37 => k_is)
    (case c37 => k_is)
    (case k37 => k_is)
    (case a38 => k_is)
    (case l38 => k_is)
    (case c38 => k_is)
    (case k38 => k_is)
    (case a39 => k_is)
    (case l39 => k_is)
    (case c39 => k_is)
    (case k39 => k_is)
    (case z1 => k_is)
    (case z2 => k_is)
    (case z3 => k_is)
    (case z4 => k_is)
    (case z5 => k_is)
    (case z6 => k_is)
    (case z7 => k_is)
    (case z8 => k_is)
    (case z9 => k_is)
    (case z10 => k_is)
    (case z11 => k_is)
    (case z12 => k_is)
    (case z13 => k_is)
    (case z14 => k_is)
    (case z15 => k_is)
    (case z16 => k_is)
    (case v1 => k_is)
