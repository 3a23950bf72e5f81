import PyProof.Rows.All
import Wide.All
import OpenK.AllK
import Wide.FinOn
import HandS.ForMost
import HandS.ForExc
import HandS.Wide
import HandS.IsInst
import HandS.Flow
import HandS.FStrTup
import HandS.NoneIn
import HandS.TupAny
import HandS.Style
import HandS.TryMany
import HandS.ExcIs
import HandS.ExcField
import HandS.ExcOwn
import KE.KExcInit
import KE.KExcIs
import HandS.Walk
import HandS.Zip
import HandS.Star
import HandS.Style
import PyProof.Rows.SortShellAny
import KE.GoesZip
import KE.GoesMore
import KE.SortKeyHeap
import HandS.Lambda
import HandS.EndTab
import PyProof.CollectStr
import PyProof.P3Eq
import HandS.Sort
import HandS.Set
import HandS.SetFor
import HandS.Strs
import HandS.SetTxt0
import HandS.TupSets
import HandS.DictComp
import KE.KSortTupG
import KE.KSortTupUse
import HandS.More
import HandS.Replace
import HandS.ClsMeth
import HandS.Defaults
import HandS.CallSlots
import HandS.Property
import HandS.CallLocal
import HandS.FStr
import HandS.SlotsOwn
import KE.KCallOwn
import KE.KStateDown
import HandS.Head0
import HandS.Head1
import HandS.Head2
import HandS.HeadHook1
import HandS.HeadHook2
import HandS.HeadHook3
import HandS.GenYield
import HandS.GenCall
import HandS.GenList
import HandS.Iter
import HandS.Finally
import HandS.OwnEq
import PyProof.GenComp
import KE.GoesEnum
import PySem.Challenge.RW_treewalks_k96_whole_desks_by_texts
set_option Elab.async false
set_option maxRecDepth 100000
set_option maxHeartbeats 4000000
namespace Tw
open PySem PySem.Spec PyProof.Rows L2
/-! ### trees over signs -/
abbrev ch (c : Nat) : Str := ⟨#[c]⟩
def tx (l : List Nat) : Str := ⟨l.toArray⟩
theorem tx_cps (l : List Nat) : (tx l).cps.toList = l := rfl
theorem tx_size (l : List Nat) : (tx l).cps.size = l.length := rfl
theorem tx_len (l : List Nat) : (tx l).length = l.length := rfl
theorem tx_one (c : Nat) : tx [c] = ch c := rfl
theorem tx_app (a b : List Nat) : tx a ++ tx b = tx (a ++ b) := by
  show (⟨(tx a).cps ++ (tx b).cps⟩ : Str) = _
  simp [tx]
theorem ch_app (c : Nat) (b : List Nat) : ch c ++ tx b = tx (c :: b) := tx_app [c] b
theorem tx_inj {a b : List Nat} (h : tx a = tx b) : a = b := congrArg (fun z : Str => z.cps.toList) h
theorem ch_inj {a b : Nat} (h : ch a = ch b) : a = b := by have := tx_inj (a := [a]) (b := [b]) h; simpa using this
theorem ch_lt (a b : Nat) : decide ((ch a).cps.toList < (ch b).cps.toList) = decide (a < b) := by
  have : ((ch a).cps.toList < (ch b).cps.toList) ↔ a < b := by
    show [a] < [b] ↔ _
    simp [List.cons_lt_cons_iff]
  simp only [this]
theorem tx_to (l : List Nat) (k : Nat) : cutS (tx l) none (some (k : Int)) = tx (l.take k) := by
  unfold cutS tx
  show (⟨_⟩ : Str) = ⟨_⟩
  rw [HT.sIx_nat, HT.sIx_none]
  show (⟨((l.drop 0).take (min k l.length - 0)).toArray⟩ : Str) = ⟨(l.take k).toArray⟩
  rw [List.drop_zero, Nat.sub_zero, Nat.min_def]
  split
  · rfl
  · rw [List.take_of_length_le (Nat.le_refl _), List.take_of_length_le (by omega)]
theorem tx_from (l : List Nat) (k : Nat) : cutS (tx l) (some (k : Int)) none = tx (l.drop k) := by
  unfold cutS tx
  show (⟨_⟩ : Str) = ⟨_⟩
  rw [HT.sIx_nat, HT.sIx_none]
  show (⟨((l.drop (min k l.length)).take (l.length - min k l.length)).toArray⟩ : Str) = ⟨(l.drop k).toArray⟩
  by_cases h : k ≤ l.length
  · rw [Nat.min_eq_left h, List.take_of_length_le (by rw [List.length_drop]; omega)]
  · rw [Nat.min_eq_right (by omega), List.drop_eq_nil_of_le (Nat.le_refl _), List.drop_eq_nil_of_le (by omega), List.take_nil]
theorem joinL_ones : ∀ l : List Nat, TL.joinL [] (l.map fun c => [c]) = l
  | [] => rfl
  | [c] => rfl
  | c :: d :: r => by
    have := joinL_ones (d :: r)
    show [c] ++ ([] ++ TL.joinL [] ((d :: r).map fun c => [c])) = _
    rw [this]; rfl
theorem tx_join (l : List Nat) : Txt.join (Str.ofString "") (l.map ch) = tx l := by
  rw [TL.join_eq]
  have e := TL.tl_join (Str.ofString "") (l.map ch)
  refine TL.ext_tl (e.trans ?_)
  rw [List.map_map]
  exact joinL_ones l
theorem tx_joinOk (l : List Nat) (h : l.length ≤ 1000) : ((l.map ch).map (·.length)).sum + (l.map ch).length * (Str.ofString "").length ≤ 16777216 := by
  have e0 : (Str.ofString "").length = 0 := by decide +kernel
  have e1 : ∀ l : List Nat, ((l.map ch).map (·.length)).sum = l.length := by
    intro l
    induction l with
    | nil => rfl
    | cons c r ih =>
      rw [List.map_cons, List.map_cons, List.sum_cons, ih, List.length_cons]
      show 1 + r.length = _
      omega
  rw [e0, e1]
  omega
inductive B where
  | nil
  | node (l : B) (x : Nat) (r : B)
  deriving DecidableEq
def B.size : B → Nat
  | .nil => 0
  | .node l _ r => l.size + 1 + r.size
def B.deep : B → Nat
  | .nil => 0
  | .node l _ r => 1 + max l.deep r.deep
def B.data : B → PyData
  | .nil => .none
  | .node l x r => .tuple [l.data, .str (ch x), r.data]
def B.pre : B → List Nat
  | .nil => []
  | .node l x r => x :: (l.pre ++ r.pre)
def B.mid : B → List Nat
  | .nil => []
  | .node l x r => l.mid ++ x :: r.mid
theorem B.deep_le : ∀ t : B, t.deep ≤ t.size
  | .nil => Nat.le_refl _
  | .node l _ r => by
    have h1 := l.deep_le
    have h2 := r.deep_le
    show 1 + max l.deep r.deep ≤ l.size + 1 + r.size
    omega
theorem B.pre_len : ∀ t : B, t.pre.length = t.size
  | .nil => rfl
  | .node l x r => by
    have h1 := l.pre_len
    have h2 := r.pre_len
    show (x :: (l.pre ++ r.pre)).length = l.size + 1 + r.size
    rw [List.length_cons, List.length_append]
    omega
theorem B.mid_len : ∀ t : B, t.mid.length = t.size
  | .nil => rfl
  | .node l x r => by
    have h1 := l.mid_len
    have h2 := r.mid_len
    show (l.mid ++ x :: r.mid).length = l.size + 1 + r.size
    rw [List.length_append, List.length_cons]
    omega
theorem B.mid_mem (t : B) (c : Nat) : c ∈ t.mid ↔ c ∈ t.pre := by
  induction t with
  | nil => exact Iff.rfl
  | node l x r h1 h2 =>
    show c ∈ l.mid ++ x :: r.mid ↔ c ∈ x :: (l.pre ++ r.pre)
    rw [List.mem_append, List.mem_cons, List.mem_cons, List.mem_append, h1, h2]
    constructor
    · rintro (h | h | h)
      · exact .inr (.inl h)
      · exact .inl h
      · exact .inr (.inr h)
    · rintro (h | h | h)
      · exact .inr (.inl h)
      · exact .inl h
      · exact .inr (.inr h)
/-- the tree t lies at v -/
inductive BAt (H : Hp) : V → B → Prop
  | nil : BAt H .non .nil
  | node {a : Addr} {l r : V} {x : Nat} {tl tr : B} : H a = some (.tup [l, .str (ch x), r]) → BAt H l tl → BAt H r tr → BAt H (.ref a) (.node tl x tr)
/-- tuples stand still -/
def KeepT (H H' : Hp) : Prop := ∀ b xs, H b = some (.tup xs) → H' b = some (.tup xs)
theorem KeepT.refl (H : Hp) : KeepT H H := fun _ _ h => h
theorem KeepT.trans {H H1 H2 : Hp} (a : KeepT H H1) (b : KeepT H1 H2) : KeepT H H2 := fun c xs h => b c xs (a c xs h)
theorem Same.keepT {H H' : Hp} (h : Same H H') : KeepT H H' := fun b xs e => h b _ e
theorem BAt.keep {H H' : Hp} (k : KeepT H H') {v : V} {t : B} (h : BAt H v t) : BAt H' v t := by
  induction h with
  | nil => exact .nil
  | node e _ _ h1 h2 => exact .node (k _ _ e) h1 h2
theorem BAt.same {H H' : Hp} (k : Same H H') {v : V} {t : B} (h : BAt H v t) : BAt H' v t := h.keep (Tw.Same.keepT k)
theorem BAt.dp {K : PySem.W.Frag} {H : Hp} {v : V} {t : B} (h : BAt H v t) : Dp K H v t.data := by
  induction h with
  | nil => exact .non
  | node e _ _ h1 h2 => exact .tup (SqT.of e) (.cons h1 (.cons (.str _) (.cons h2 .nil)))
theorem BAt.inv {H : Hp} {v : V} {t : B} (h : BAt H v t) : (v = .non ∧ t = .nil) ∨ ∃ a l r x tl tr, v = .ref a ∧ t = .node tl x tr ∧ H a = some (.tup [l, .str (ch x), r]) ∧ BAt H l tl ∧ BAt H r tr := by
  cases h with
  | nil => exact .inl ⟨rfl, rfl⟩
  | node e h1 h2 => exact .inr ⟨_, _, _, _, _, _, rfl, rfl, e, h1, h2⟩
theorem same_new {H : Hp} {p : Addr} (h : H p = none) (o : HO) : Same H (upd H p o) := fun b u q => by rw [upd_ne (ne_of_none q h)]; exact q
theorem small {n : Nat} (h : n ≤ 1000) : n ≤ sizeLine := Nat.le_of_lt (small1000 h)
theorem at_map {α : Type} {f : α → V} {ns : List α} {i : Int} {v : α} (h0 : 0 ≤ i) (h : ns[i.toNat]? = some v) : atI (ns.map f) i = some (f v) := by
  have e : i = ((i.toNat : Nat) : Int) := by omega
  rw [e]
  exact atI_nat (by rw [List.getElem?_map, h]; rfl)
theorem ixN_nat {n : Nat} {i : Int} (h0 : 0 ≤ i) (h : i < n) : ixN n i = some i.toNat := by
  unfold ixN
  first
    | rw [if_pos h0, if_pos h]
    | (rw [if_pos h0]; rw [if_pos (by omega)])
    | simp [h0, h]
theorem cut_to (xs : List V) (k : Nat) : cutV xs none (some (k : Int)) = xs.take k := by
  unfold cutV
  rw [HT.sIx_nat, HT.sIx_none, List.drop_zero, Nat.sub_zero]
  rw [Nat.min_def]
  split
  · rfl
  · rw [List.take_of_length_le (Nat.le_refl _), List.take_of_length_le (by omega)]
theorem cut_from (xs : List V) (k : Nat) : cutV xs (some (k : Int)) none = xs.drop k := by
  unfold cutV
  rw [HT.sIx_nat, HT.sIx_none]
  by_cases h : k ≤ xs.length
  · rw [Nat.min_eq_left h, List.take_of_length_le (by rw [List.length_drop]; omega)]
  · rw [Nat.min_eq_right (by omega), List.drop_eq_nil_of_le (Nat.le_refl _), List.drop_eq_nil_of_le (by omega), List.take_nil]
theorem kept {σ : L2.St} {H : Hp} {A B : Hp → Prop} (h : A H) : tYes σ H (fun b H3 => if b = true then A H3 else B H3) := by
  show if true = true then A H else B H
  exact iteT h
theorem erase_map {α β : Type} (f : α → β) : ∀ (l : List α) (i : Nat), (l.map f).eraseIdx i = (l.eraseIdx i).map f
  | [], _ => rfl
  | _ :: _, 0 => rfl
  | x :: l, i + 1 => congrArg (f x :: ·) (erase_map f l i)
/-- a def that stands at a name, with its promise -/
structure Df (P : Program) (w : World) (K : PySem.W.Frag) (mg : Str → Option Value) (base : Heap) (k : Nat) (nm : Str) (ps : List Str) (sp : Sp) where
  f : Addr
  fd : FuncData
  ok : FnOk P w K mg base CX0 k f fd ps sp
  b : Binds K fd ps []
  kp : PySem.W.keepIn K (.ref f) = true
  g : mg nm = some (.ref f)
structure Mgs (mg : Str → Option Value) : Prop where
  zip : mg "zip" = none
  all : mg "all" = none
  repr : mg "repr" = none
  len : mg "len" = none
  isinstance : mg "isinstance" = none
  list : mg "list" = none
  tuple : mg "tuple" = none
  str : mg "str" = none
  int : mg "int" = none
  bool : mg "bool" = none
  dict : mg "dict" = none
  range : mg "range" = none
  sorted : mg "sorted" = none
  abs : mg "abs" = none
  min : mg "min" = none
  max : mg "max" = none
theorem vals_signs : ∀ (l : List Nat) (vs : List Value), vs.length = l.length → (∀ (j : Nat) (v : Value), vs[j]? = some v → ∃ c u, l[j]? = some c ∧ v = .str ⟨#[c]⟩ u) → Vals (l.map fun c => V.str ⟨#[c]⟩) vs
  | [], [], _, _ => .nil
  | [], _ :: _, h, _ => by simp at h
  | _ :: _, [], h, _ => by simp at h
  | c :: l, v :: vs, h, k => by
    obtain ⟨c', u, e, rfl⟩ := k 0 v rfl
    cases e
    exact .cons ⟨u, rfl⟩ (vals_signs l vs (by simpa using h) fun j v e => k (j + 1) v e)
theorem call_signs {X : Cx} (hc : X.calm = true) : CallR X (.type "list") (fun xs H Q => ∃ x : Str, xs = [.str x] ∧ x.cps.size ≤ 1000 ∧ ∀ p, H p = none → Q (.ref p) (upd H p (.lst (x.cps.toList.map fun c => V.str ⟨#[c]⟩)))) := by
  intro pins s σ H xs us Q I r h
  obtain ⟨x, rfl, hz, q⟩ := h
  obtain ⟨u, rfl, t, rfl⟩ := vals1 r
  have hz' : x.cps.size ≤ sizeLine := small hz
  refine call_list_str (I.ok.hd hc) x t (fun h' tk acc' c' hk hS hacc => ?_) hz'
  have hv : Vals (x.cps.toList.map fun c => V.str ⟨#[c]⟩) acc'.toList := vals_signs _ _ (by rw [Array.length_toList, Array.length_toList]; exact hacc.1) fun j v e => by
    obtain ⟨c, u, h1, h2⟩ := hacc.2 j v (by rw [← Array.getElem?_toList]; exact e)
    exact ⟨c, u, by rw [Array.getElem?_toList]; exact h1, h2⟩
  exact ⟨.ref s.heap.objs.size, _, I.laid (t' := tk) hk (Nat.le_refl _) (show ObjOk X.prog X.w _ h' _ (.lst _) from ⟨by rw [List.length_map, Array.length_toList]; exact hz', acc'.toList, c', hv, by rw [Array.toArray_toList]; exact hS⟩), rfl, q _ (I.hok.fresh (Nat.le_refl _))⟩
/-- for c in text -/
theorem for_text {x : Str} {g : TG} {tb : TS} {D : Ends} {σ : L2.St} {H : Hp} (Pv : Nat → L2.St → Hp → Prop) (h0 : Pv 0 σ H)
    (hs : ∀ i c σ H, x.cps.toList[i]? = some c → Pv i σ H → g (.str ⟨#[c]⟩) σ H fun σ2 H2 => tb { D with nx := Pv (i + 1), ct := Pv (i + 1), bk := D.nx } σ2 H2)
    (hd : ∀ σ H, Pv x.cps.toList.length σ H → D.nx σ H) :
    ∃ W : Nat → Nat → L2.St → Hp → Prop, (∃ m, W 0 m σ H) ∧ ∀ i m σ H, W i m σ H →
      ((Its x).stop i H ∧ D.nx σ H) ∨ ((Its x).go i H ∧ ∃ N : L2.St → Hp → Prop, (∀ σ' H', N σ' H' → ∃ m', m' < m ∧ W (i + 1) m' σ' H') ∧ ∀ v H', (Its x).yld i H v H' → g v σ H' fun σ2 H2 => tb { D with nx := N, ct := N, bk := D.nx } σ2 H2) := by
  refine for_it walk_str Pv h0 (fun _ _ _ _ _ => trivial) (fun i v σ H H' hi hp hy => ?_) (fun σ H hp => hd σ H (by rw [Array.length_toList]; exact hp))
  obtain ⟨rfl, c, hc, rfl⟩ := hy
  exact hs i c σ H' (by rw [Array.getElem?_toList]; exact hc) hp
theorem lc_text {x : Str} {g : TG} {tt : TT} {te : TE} {vs : List Nat} {σ : L2.St} {H1 : Hp} {D : Addr} {Qd : Hp → Prop} (Pv : Nat → Hp → Prop) (h0 : Pv 0 (upd H1 D (.lst [])))
    (hs : ∀ i c H, x.cps.toList[i]? = some c → Pv i H → g (.str ⟨#[c]⟩) (wipe σ vs) H fun σ2 H2 => wipe σ2 vs = wipe σ vs ∧ tt σ2 H2 fun b H3 =>
      if b = true then te σ2 H3 fun y H4 => ∃ acc, H4 D = some (.lst acc) ∧ acc.length < sizeLine ∧ Pv (i + 1) (upd H4 D (.lst (acc ++ [y]))) else Pv (i + 1) H3) (hd : ∀ H, Pv x.cps.toList.length H → Qd H) :
    ∃ W : Nat → Nat → Hp → Prop, (∃ m, W 0 m (upd H1 D (.lst []))) ∧ ∀ i m H, W i m H →
      ((Its x).stop i H ∧ Qd H) ∨ ((Its x).go i H ∧ ∃ Nx : Hp → Prop, (∀ H', Nx H' → ∃ m', m' < m ∧ W (i + 1) m' H') ∧ ∀ v H', (Its x).yld i H v H' → g v (wipe σ vs) H' fun σ2 H2 => wipe σ2 vs = wipe σ vs ∧ tt σ2 H2 fun b H3 =>
        if b = true then te σ2 H3 fun y H4 => ∃ acc, H4 D = some (.lst acc) ∧ acc.length < sizeLine ∧ Nx (upd H4 D (.lst (acc ++ [y]))) else Nx H3) := by
  refine lc_it walk_str Pv h0 (fun _ _ _ _ => trivial) (fun i v H H' hi hp hy => ?_) (fun H hp => hd H (by rw [Array.length_toList]; exact hp))
  obtain ⟨rfl, c, hc, rfl⟩ := hy
  exact hs i c H' (by rw [Array.getElem?_toList]; exact hc) hp
/-! ### the text by places -/
def top (i : Nat) : Stmt := PySem.Challenge.pw_treewalks_k96_whole_desks_by_texts.main.body.getD i (.Pass ⟨0, 0, 0, 0⟩)
abbrev s__wall : Stmt := top 0
abbrev s_is_letter : Stmt := top 21
abbrev s_is_whole_number : Stmt := top 22
abbrev s_is_index : Stmt := top 23
abbrev s_is_node : Stmt := top 25
abbrev s_is_tree : Stmt := top 26
abbrev s_size_of : Stmt := top 27
abbrev s_part_at : Stmt := top 28
abbrev s_is_open : Stmt := top 29
abbrev s_replaced : Stmt := top 30
abbrev s_with_part : Stmt := top 31
abbrev s_mirrored : Stmt := top 32
abbrev s_node_at : Stmt := top 34
abbrev s_with_node : Stmt := top 35
abbrev s_without_node : Stmt := top 36
abbrev s_with_label : Stmt := top 37
abbrev s_turned : Stmt := top 38
abbrev s_has_form_of_edit : Stmt := top 41
abbrev s_edited : Stmt := top 42
abbrev s_is_kind : Stmt := top 45
abbrev s_ordered_steps : Stmt := top 46
abbrev s_deep_steps : Stmt := top 47
abbrev s_level_steps : Stmt := top 48
abbrev s_walk : Stmt := top 49
abbrev s_tree_text : Stmt := top 51
abbrev s_side_text : Stmt := top 52
abbrev s_parse_tree : Stmt := top 53
abbrev s_sign_at : Stmt := top 54
abbrev s_read_tree : Stmt := top 55
abbrev s_read_left : Stmt := top 56
abbrev s_read_side : Stmt := top 57
abbrev s__law_stream : Stmt := top 62
abbrev s__law_take : Stmt := top 63
abbrev s__law_equal : Stmt := top 64
abbrev s__law_letter : Stmt := top 65
abbrev s__law_paths : Stmt := top 66
abbrev s__law_grafted : Stmt := top 67
abbrev s__law_spot : Stmt := top 68
abbrev s__law_sorted_tree : Stmt := top 69
abbrev s__law_tree : Stmt := top 70
abbrev s__law_do : Stmt := top 71
abbrev s__law_tried : Stmt := top 72
abbrev s__law_some_edit : Stmt := top 73
abbrev s__law_right : Stmt := top 74
abbrev s_law : Stmt := top 75
abbrev s_TooLarge___init__ : Stmt := inClass (top 5) 0
abbrev s_NotOpen___init__ : Stmt := inClass (top 7) 0
abbrev s_NoLabel___init__ : Stmt := inClass (top 8) 0
abbrev s_BadEdit___init__ : Stmt := inClass (top 13) 0
abbrev s_Rejected___init__ : Stmt := inClass (top 14) 0
abbrev s_BadText___init__ : Stmt := inClass (top 16) 0
abbrev s_NoPath___init__ : Stmt := inClass (top 17) 0
abbrev s_NoKind___init__ : Stmt := inClass (top 18) 0
abbrev s_NoVersion___init__ : Stmt := inClass (top 19) 0
abbrev s_Desk___init__ : Stmt := inClass (top 59) 2
abbrev s_Desk_read : Stmt := inClass (top 59) 3
abbrev s_Desk_is_edit : Stmt := inClass (top 59) 4
abbrev s_Desk_put : Stmt := inClass (top 59) 5
abbrev s_Desk_cut : Stmt := inClass (top 59) 6
abbrev s_Desk_label : Stmt := inClass (top 59) 7
abbrev s_Desk_turn : Stmt := inClass (top 59) 8
abbrev s_Desk_undo : Stmt := inClass (top 59) 9
abbrev s_Desk_run : Stmt := inClass (top 59) 10
abbrev s_Desk_version : Stmt := inClass (top 59) 11
abbrev s_Desk_size : Stmt := inClass (top 59) 12
abbrev s_Desk_first : Stmt := inClass (top 59) 13
abbrev s_Desk_between : Stmt := inClass (top 59) 14
abbrev s_Desk_last : Stmt := inClass (top 59) 15
abbrev s_Desk_tree : Stmt := inClass (top 59) 16
abbrev s_Desk_edits : Stmt := inClass (top 59) 17
abbrev s_Desk_history : Stmt := inClass (top 59) 18
abbrev s_Desk___len__ : Stmt := inClass (top 59) 19
abbrev s_Desk___str__ : Stmt := inClass (top 59) 20
abbrev s_Desk___eq__ : Stmt := inClass (top 59) 21
abbrev s_Desk_check_free : Stmt := inClass (top 59) 22
abbrev s_Desk_check_tree : Stmt := inClass (top 59) 23
abbrev s_Desk_checked_batch : Stmt := inClass (top 59) 24
abbrev s_Desk_take : Stmt := inClass (top 59) 25
abbrev s_Desk_could_take : Stmt := inClass (top 59) 26
abbrev s_Desk_called : Stmt := inClass (top 59) 27
abbrev s_Desk_told : Stmt := inClass (top 59) 28
abbrev s_LoggedDesk___init__ : Stmt := inClass (top 60) 0
abbrev s_LoggedDesk_log : Stmt := inClass (top 60) 1
abbrev s_LoggedDesk_told : Stmt := inClass (top 60) 2
theorem sc__wall : FnScope ["k"] ["k"] (defScope s__wall) := ⟨rfl, rfl, rfl, by decide +kernel, rfl, by decide +kernel, by decide +kernel⟩
theorem sc_is_letter : FnScope ["value"] ["value"] (defScope s_is_letter) := ⟨rfl, rfl, rfl, by decide +kernel, rfl, by decide +kernel, by decide +kernel⟩
theorem sc_is_whole_number : FnScope ["value"] ["value"] (defScope s_is_whole_number) := ⟨rfl, rfl, rfl, by decide +kernel, rfl, by decide +kernel, by decide +kernel⟩
theorem sc_is_index : FnScope ["value", "many"] ["value", "many"] (defScope s_is_index) := ⟨rfl, rfl, rfl, by decide +kernel, rfl, by decide +kernel, by decide +kernel⟩
theorem sc_is_node : FnScope ["value"] ["value"] (defScope s_is_node) := ⟨rfl, rfl, rfl, by decide +kernel, rfl, by decide +kernel, by decide +kernel⟩
theorem sc_is_tree : FnScope ["value", "count", "waiting", "part", "side"] ["value"] (defScope s_is_tree) := ⟨rfl, rfl, rfl, by decide +kernel, rfl, by decide +kernel, by decide +kernel⟩
theorem sc_size_of : FnScope ["tree"] ["tree"] (defScope s_size_of) := ⟨rfl, rfl, rfl, by decide +kernel, rfl, by decide +kernel, by decide +kernel⟩
theorem sc_part_at : FnScope ["tree", "path", "part", "step"] ["tree", "path"] (defScope s_part_at) := ⟨rfl, rfl, rfl, by decide +kernel, rfl, by decide +kernel, by decide +kernel⟩
theorem sc_is_open : FnScope ["tree", "path"] ["tree", "path"] (defScope s_is_open) := ⟨rfl, rfl, rfl, by decide +kernel, rfl, by decide +kernel, by decide +kernel⟩
theorem sc_replaced : FnScope ["tree", "path", "part", "old"] ["tree", "path", "part"] (defScope s_replaced) := ⟨rfl, rfl, rfl, by decide +kernel, rfl, by decide +kernel, by decide +kernel⟩
theorem sc_with_part : FnScope ["tree", "path", "part", "left", "label", "right"] ["tree", "path", "part"] (defScope s_with_part) := ⟨rfl, rfl, rfl, by decide +kernel, rfl, by decide +kernel, by decide +kernel⟩
theorem sc_mirrored : FnScope ["tree", "left", "label", "right"] ["tree"] (defScope s_mirrored) := ⟨rfl, rfl, rfl, by decide +kernel, rfl, by decide +kernel, by decide +kernel⟩
theorem sc_node_at : FnScope ["tree", "path", "part"] ["tree", "path"] (defScope s_node_at) := ⟨rfl, rfl, rfl, by decide +kernel, rfl, by decide +kernel, by decide +kernel⟩
theorem sc_with_node : FnScope ["tree", "path", "label"] ["tree", "path", "label"] (defScope s_with_node) := ⟨rfl, rfl, rfl, by decide +kernel, rfl, by decide +kernel, by decide +kernel⟩
theorem sc_without_node : FnScope ["tree", "path"] ["tree", "path"] (defScope s_without_node) := ⟨rfl, rfl, rfl, by decide +kernel, rfl, by decide +kernel, by decide +kernel⟩
theorem sc_with_label : FnScope ["tree", "path", "label", "left", "old", "right"] ["tree", "path", "label"] (defScope s_with_label) := ⟨rfl, rfl, rfl, by decide +kernel, rfl, by decide +kernel, by decide +kernel⟩
theorem sc_turned : FnScope ["tree", "path"] ["tree", "path"] (defScope s_turned) := ⟨rfl, rfl, rfl, by decide +kernel, rfl, by decide +kernel, by decide +kernel⟩
theorem sc_has_form_of_edit : FnScope ["value"] ["value"] (defScope s_has_form_of_edit) := ⟨rfl, rfl, rfl, by decide +kernel, rfl, by decide +kernel, by decide +kernel⟩
theorem sc_edited : FnScope ["tree", "edit", "word", "rest", "action"] ["tree", "edit"] (defScope s_edited) := ⟨rfl, rfl, rfl, by decide +kernel, rfl, by decide +kernel, by decide +kernel⟩
theorem sc_is_kind : FnScope ["value"] ["value"] (defScope s_is_kind) := ⟨rfl, rfl, rfl, by decide +kernel, rfl, by decide +kernel, by decide +kernel⟩
theorem sc_ordered_steps : FnScope ["tree", "kind"] ["tree", "kind"] (defScope s_ordered_steps) := ⟨rfl, rfl, rfl, by decide +kernel, rfl, by decide +kernel, by decide +kernel⟩
theorem sc_deep_steps : FnScope ["tree", "kind", "path", "left", "label", "right", "root", "lefts", "rights"] ["tree", "kind", "path"] (defScope s_deep_steps) := ⟨rfl, rfl, rfl, by decide +kernel, rfl, by decide +kernel, by decide +kernel⟩
theorem sc_level_steps : FnScope ["tree"] ["tree"] (defScope s_level_steps) := ⟨rfl, rfl, rfl, by decide +kernel, rfl, by decide +kernel, by decide +kernel⟩
theorem sc_walk : FnScope ["tree", "kind", "path", "label"] ["tree", "kind"] (defScope s_walk) := ⟨rfl, rfl, rfl, by decide +kernel, rfl, by decide +kernel, by decide +kernel⟩
theorem sc_tree_text : FnScope ["tree", "left", "label", "right"] ["tree"] (defScope s_tree_text) := ⟨rfl, rfl, rfl, by decide +kernel, rfl, by decide +kernel, by decide +kernel⟩
theorem sc_side_text : FnScope ["side"] ["side"] (defScope s_side_text) := ⟨rfl, rfl, rfl, by decide +kernel, rfl, by decide +kernel, by decide +kernel⟩
theorem sc_parse_tree : FnScope ["text", "tree", "behind"] ["text"] (defScope s_parse_tree) := ⟨rfl, rfl, rfl, by decide +kernel, rfl, by decide +kernel, by decide +kernel⟩
theorem sc_sign_at : FnScope ["text", "at"] ["text", "at"] (defScope s_sign_at) := ⟨rfl, rfl, rfl, by decide +kernel, rfl, by decide +kernel, by decide +kernel⟩
theorem sc_read_tree : FnScope ["text", "at", "room", "label", "left", "comma", "rest", "right", "end"] ["text", "at", "room"] (defScope s_read_tree) := ⟨rfl, rfl, rfl, by decide +kernel, rfl, by decide +kernel, by decide +kernel⟩
theorem sc_read_left : FnScope ["text", "at", "room", "left", "comma"] ["text", "at", "room"] (defScope s_read_left) := ⟨rfl, rfl, rfl, by decide +kernel, rfl, by decide +kernel, by decide +kernel⟩
theorem sc_read_side : FnScope ["text", "at", "room"] ["text", "at", "room"] (defScope s_read_side) := ⟨rfl, rfl, rfl, by decide +kernel, rfl, by decide +kernel, by decide +kernel⟩
theorem sc__law_stream : FnScope ["_law_script", "_law_turn", "_law_cell", "_law_rest"] ["_law_script", "_law_turn"] (defScope s__law_stream) := ⟨rfl, rfl, rfl, by decide +kernel, rfl, by decide +kernel, by decide +kernel⟩
theorem sc__law_take : FnScope ["_law_stream_here", "_law_many", "_law_found", "_law_low", "_law_high", "_law_turn", "_law_mixed"] ["_law_stream_here", "_law_many"] (defScope s__law_take) := ⟨rfl, rfl, rfl, by decide +kernel, rfl, by decide +kernel, by decide +kernel⟩
theorem sc__law_equal : FnScope ["_law_one", "_law_other"] ["_law_one", "_law_other"] (defScope s__law_equal) := ⟨rfl, rfl, rfl, by decide +kernel, rfl, by decide +kernel, by decide +kernel⟩
theorem sc__law_letter : FnScope ["_law_stream_here"] ["_law_stream_here"] (defScope s__law_letter) := ⟨rfl, rfl, rfl, by decide +kernel, rfl, by decide +kernel, by decide +kernel⟩
theorem sc__law_paths : FnScope ["_law_tree_here", "_law_nodes", "_law_opens", "_law_waiting", "_law_path", "_law_part"] ["_law_tree_here"] (defScope s__law_paths) := ⟨rfl, rfl, rfl, by decide +kernel, rfl, by decide +kernel, by decide +kernel⟩
theorem sc__law_grafted : FnScope ["_law_tree_here", "_law_path", "_law_part"] ["_law_tree_here", "_law_path", "_law_part"] (defScope s__law_grafted) := ⟨rfl, rfl, rfl, by decide +kernel, rfl, by decide +kernel, by decide +kernel⟩
theorem sc__law_spot : FnScope ["_law_tree_here", "_law_letter_here", "_law_path"] ["_law_tree_here", "_law_letter_here"] (defScope s__law_spot) := ⟨rfl, rfl, rfl, by decide +kernel, rfl, by decide +kernel, by decide +kernel⟩
theorem sc__law_sorted_tree : FnScope ["_law_stream_here", "_law_size", "_law_tree_here", "_law_left", "_law_k", "_law_letter_here"] ["_law_stream_here", "_law_size"] (defScope s__law_sorted_tree) := ⟨rfl, rfl, rfl, by decide +kernel, rfl, by decide +kernel, by decide +kernel⟩
theorem sc__law_tree : FnScope ["_law_stream_here", "_law_top", "_law_size", "_law_way", "_law_tree_here", "_law_k", "_law_path", "_law_opens", "_law_spot_here"] ["_law_stream_here", "_law_top"] (defScope s__law_tree) := ⟨rfl, rfl, rfl, by decide +kernel, rfl, by decide +kernel, by decide +kernel⟩
theorem sc__law_do : FnScope ["_law_desk", "_law_edit"] ["_law_desk", "_law_edit"] (defScope s__law_do) := ⟨rfl, rfl, rfl, by decide +kernel, rfl, by decide +kernel, by decide +kernel⟩
theorem sc__law_tried : FnScope ["_law_desk", "_law_edit"] ["_law_desk", "_law_edit"] (defScope s__law_tried) := ⟨rfl, rfl, rfl, by decide +kernel, rfl, by decide +kernel, by decide +kernel⟩
theorem sc__law_some_edit : FnScope ["_law_stream_here", "_law_tree_here", "_law_top", "_law_nodes", "_law_opens", "_law_way", "_law_path", "_law_letter_here"] ["_law_stream_here", "_law_tree_here", "_law_top"] (defScope s__law_some_edit) := ⟨rfl, rfl, rfl, by decide +kernel, rfl, by decide +kernel, by decide +kernel⟩
theorem sc__law_right : FnScope ["_law_desk", "_law_text", "_law_fresh"] ["_law_desk"] (defScope s__law_right) := ⟨rfl, rfl, rfl, by decide +kernel, rfl, by decide +kernel, by decide +kernel⟩
theorem sc_law : FnScope ["_law_script", "_law_turn", "_law_stream_here", "_law_desk", "_law_k", "_law_many", "_law_edit", "_law_fresh", "_law_found", "_law_other"] ["_law_script"] (defScope s_law) := ⟨rfl, rfl, rfl, by decide +kernel, rfl, by decide +kernel, by decide +kernel⟩
theorem sc_TooLarge___init__ : FnScope ["self", "limit"] ["self", "limit"] (defScope s_TooLarge___init__) := ⟨rfl, rfl, rfl, by decide +kernel, rfl, by decide +kernel, by decide +kernel⟩
theorem sc_NotOpen___init__ : FnScope ["self", "path"] ["self", "path"] (defScope s_NotOpen___init__) := ⟨rfl, rfl, rfl, by decide +kernel, rfl, by decide +kernel, by decide +kernel⟩
theorem sc_NoLabel___init__ : FnScope ["self", "letter"] ["self", "letter"] (defScope s_NoLabel___init__) := ⟨rfl, rfl, rfl, by decide +kernel, rfl, by decide +kernel, by decide +kernel⟩
theorem sc_BadEdit___init__ : FnScope ["self", "index"] ["self", "index"] (defScope s_BadEdit___init__) := ⟨rfl, rfl, rfl, by decide +kernel, rfl, by decide +kernel, by decide +kernel⟩
theorem sc_Rejected___init__ : FnScope ["self", "index"] ["self", "index"] (defScope s_Rejected___init__) := ⟨rfl, rfl, rfl, by decide +kernel, rfl, by decide +kernel, by decide +kernel⟩
theorem sc_BadText___init__ : FnScope ["self", "index"] ["self", "index"] (defScope s_BadText___init__) := ⟨rfl, rfl, rfl, by decide +kernel, rfl, by decide +kernel, by decide +kernel⟩
theorem sc_NoPath___init__ : FnScope ["self", "value"] ["self", "value"] (defScope s_NoPath___init__) := ⟨rfl, rfl, rfl, by decide +kernel, rfl, by decide +kernel, by decide +kernel⟩
theorem sc_NoKind___init__ : FnScope ["self", "value"] ["self", "value"] (defScope s_NoKind___init__) := ⟨rfl, rfl, rfl, by decide +kernel, rfl, by decide +kernel, by decide +kernel⟩
theorem sc_NoVersion___init__ : FnScope ["self", "value"] ["self", "value"] (defScope s_NoVersion___init__) := ⟨rfl, rfl, rfl, by decide +kernel, rfl, by decide +kernel, by decide +kernel⟩
theorem sc_Desk___init__ : FnScope ["self", "tree"] ["self", "tree"] (defScope s_Desk___init__) := ⟨rfl, rfl, rfl, by decide +kernel, rfl, by decide +kernel, by decide +kernel⟩
theorem sc_Desk_read : FnScope ["cls", "text"] ["cls", "text"] (defScope s_Desk_read) := ⟨rfl, rfl, rfl, by decide +kernel, rfl, by decide +kernel, by decide +kernel⟩
theorem sc_Desk_is_edit : FnScope ["value"] ["value"] (defScope s_Desk_is_edit) := ⟨rfl, rfl, rfl, by decide +kernel, rfl, by decide +kernel, by decide +kernel⟩
theorem sc_Desk_put : FnScope ["self", "path", "label"] ["self", "path", "label"] (defScope s_Desk_put) := ⟨rfl, rfl, rfl, by decide +kernel, rfl, by decide +kernel, by decide +kernel⟩
theorem sc_Desk_cut : FnScope ["self", "path"] ["self", "path"] (defScope s_Desk_cut) := ⟨rfl, rfl, rfl, by decide +kernel, rfl, by decide +kernel, by decide +kernel⟩
theorem sc_Desk_label : FnScope ["self", "path", "label"] ["self", "path", "label"] (defScope s_Desk_label) := ⟨rfl, rfl, rfl, by decide +kernel, rfl, by decide +kernel, by decide +kernel⟩
theorem sc_Desk_turn : FnScope ["self", "path"] ["self", "path"] (defScope s_Desk_turn) := ⟨rfl, rfl, rfl, by decide +kernel, rfl, by decide +kernel, by decide +kernel⟩
theorem sc_Desk_undo : FnScope ["self"] ["self"] (defScope s_Desk_undo) := ⟨rfl, rfl, rfl, by decide +kernel, rfl, by decide +kernel, by decide +kernel⟩
theorem sc_Desk_version : FnScope ["self"] ["self"] (defScope s_Desk_version) := ⟨rfl, rfl, rfl, by decide +kernel, rfl, by decide +kernel, by decide +kernel⟩
theorem sc_Desk_size : FnScope ["self"] ["self"] (defScope s_Desk_size) := ⟨rfl, rfl, rfl, by decide +kernel, rfl, by decide +kernel, by decide +kernel⟩
theorem sc_Desk_first : FnScope ["self"] ["self"] (defScope s_Desk_first) := ⟨rfl, rfl, rfl, by decide +kernel, rfl, by decide +kernel, by decide +kernel⟩
theorem sc_Desk_between : FnScope ["self"] ["self"] (defScope s_Desk_between) := ⟨rfl, rfl, rfl, by decide +kernel, rfl, by decide +kernel, by decide +kernel⟩
theorem sc_Desk_last : FnScope ["self"] ["self"] (defScope s_Desk_last) := ⟨rfl, rfl, rfl, by decide +kernel, rfl, by decide +kernel, by decide +kernel⟩
theorem sc_Desk_edits : FnScope ["self"] ["self"] (defScope s_Desk_edits) := ⟨rfl, rfl, rfl, by decide +kernel, rfl, by decide +kernel, by decide +kernel⟩
theorem sc_Desk_history : FnScope ["self"] ["self"] (defScope s_Desk_history) := ⟨rfl, rfl, rfl, by decide +kernel, rfl, by decide +kernel, by decide +kernel⟩
theorem sc_Desk___len__ : FnScope ["self"] ["self"] (defScope s_Desk___len__) := ⟨rfl, rfl, rfl, by decide +kernel, rfl, by decide +kernel, by decide +kernel⟩
theorem sc_Desk___str__ : FnScope ["self"] ["self"] (defScope s_Desk___str__) := ⟨rfl, rfl, rfl, by decide +kernel, rfl, by decide +kernel, by decide +kernel⟩
theorem sc_Desk___eq__ : FnScope ["self", "other"] ["self", "other"] (defScope s_Desk___eq__) := ⟨rfl, rfl, rfl, by decide +kernel, rfl, by decide +kernel, by decide +kernel⟩
theorem sc_Desk_check_free : FnScope ["self"] ["self"] (defScope s_Desk_check_free) := ⟨rfl, rfl, rfl, by decide +kernel, rfl, by decide +kernel, by decide +kernel⟩
theorem sc_Desk_check_tree : FnScope ["self", "tree"] ["self", "tree"] (defScope s_Desk_check_tree) := ⟨rfl, rfl, rfl, by decide +kernel, rfl, by decide +kernel, by decide +kernel⟩
theorem sc_Desk_checked_batch : FnScope ["self", "edits", "index", "edit"] ["self", "edits"] (defScope s_Desk_checked_batch) := ⟨rfl, rfl, rfl, by decide +kernel, rfl, by decide +kernel, by decide +kernel⟩
theorem sc_Desk_take : FnScope ["self", "edit", "tree"] ["self", "edit"] (defScope s_Desk_take) := ⟨rfl, rfl, rfl, by decide +kernel, rfl, by decide +kernel, by decide +kernel⟩
theorem sc_Desk_could_take : FnScope ["self", "edit"] ["self", "edit"] (defScope s_Desk_could_take) := ⟨rfl, rfl, rfl, by decide +kernel, rfl, by decide +kernel, by decide +kernel⟩
theorem sc_Desk_called : FnScope ["self", "edit"] ["self", "edit"] (defScope s_Desk_called) := ⟨rfl, rfl, rfl, by decide +kernel, rfl, by decide +kernel, by decide +kernel⟩
theorem sc_Desk_told : FnScope ["self", "name"] ["self", "name"] (defScope s_Desk_told) := ⟨rfl, rfl, rfl, by decide +kernel, rfl, by decide +kernel, by decide +kernel⟩
theorem sc_LoggedDesk_log : FnScope ["self"] ["self"] (defScope s_LoggedDesk_log) := ⟨rfl, rfl, rfl, by decide +kernel, rfl, by decide +kernel, by decide +kernel⟩
/-! ### xs != [], xs == [] -/
abbrev vc (c : Nat) : V := .str (ch c)
theorem map_vc (l : List Nat) : l.map vc = (l.map ch).map V.str := by rw [List.map_map]; rfl
section
variable {X : Cx}
theorem op_neL (hu : X.A.units < cLine) : OpR X (compareOp .NotEq) (fun x y H Q => ∃ a b xs, x = .ref a ∧ y = .ref b ∧ SqL X.K H a xs ∧ SqL X.K H b [] ∧ Q (.bl (!xs.isEmpty)) H) := by
  intro pins s σ H x y v u Q I rx ry h
  obtain ⟨a, b, xs, rfl, rfl, hx, hy, q⟩ := h
  cases rx
  cases ry
  obtain ⟨its, r1, t1, _⟩ := I.list hx
  obtain ⟨its2, r2, t2, _⟩ := I.list hy
  cases r2
  cases r1 with
  | nil =>
    have rc := SeqAt.RcNeAt.lists (A := X.A) (s := s) (items := ([] : List Value).toArray) (items2 := ([] : List Value).toArray) (e := fun _ => true) t1.isList t2.isList rfl hu (fun j h1 _ => absurd h1 (by simp))
    exact rc X.prog X.w X.xe _ ⟨.bl _, H, I, rfl, q⟩
  | cons _ _ =>
    have rc := SeqAt.RcNeAt.lists_lengths (A := X.A) (s := s) t1.isList t2.isList (by simp) hu
    exact rc X.prog X.w X.xe _ ⟨.bl _, H, I, rfl, q⟩
end
theorem op_eqL {X : Cx} (hu : X.A.units < cLine) : OpR X (compareOp .Eq) (fun x y H Q => ∃ a b xs, x = .ref a ∧ y = .ref b ∧ SqL X.K H a xs ∧ SqL X.K H b [] ∧ Q (.bl xs.isEmpty) H) := by
  intro pins s σ H x y v u Q I rx ry h
  obtain ⟨a, b, xs, rfl, rfl, hx, hy, q⟩ := h
  cases rx
  cases ry
  obtain ⟨its, r1, t1, _⟩ := I.list hx
  obtain ⟨its2, r2, t2, _⟩ := I.list hy
  cases r2
  cases r1 with
  | nil =>
    have rc := SeqAt.RcAt.lists (A := X.A) (s := s) (items := ([] : List Value).toArray) (items2 := ([] : List Value).toArray) (e := fun _ => true) t1.isList t2.isList rfl hu (fun j h1 _ => absurd h1 (by simp))
    exact rc X.prog X.w X.xe _ ⟨.bl _, H, I, rfl, q⟩
  | cons _ _ =>
    have rc := SeqAt.RcAt.lists_lengths (A := X.A) (s := s) t1.isList t2.isList (by simp) hu
    exact rc X.prog X.w X.xe _ ⟨.bl _, H, I, rfl, q⟩
/-! ### a def entered at one caller -/
theorem enter_def {P : Program} {w : World} {K : PySem.W.Frag} {mg : Str → Option Value} {base : Heap} {f : Addr} {fd : FuncData} {N ps : List Str} {k : Nat} {x qual : Str} {st : Stmt} (F : Fun K x qual st f fd) (S : FnScope N ps (defScope st))
    {A : Around} {outer : List Env} {s : Shared} {H : Hp} {args : Args} {us : List Value} {vs : List V} {Q : VK} {E : XK}
    (room : Room (k + 1) A) (en : Env0 P w K mg base A outer s H) (bd : BindsTo s fd args (ps.zip us)) (rel : Vals vs us) (hln : vs.length = ps.length)
    (body : ∀ cdv : Value, Room k (A.deeper (envOfC qual (defScope st) s.heap.objs.size f cdv)) →
      ∃ t, PSs (cxOf CX0 P w K mg base N qual (defScope st) f cdv A outer s H E).nox (defBody st) t ∧ t { nx := fun _ H' => Q .non H', rt := Q } (start N vs) H) :
    codeAny (model P w) A (.call (.ref f) args) (CR CX0 outer P w H s Q E) s := by
  obtain ⟨oc, od, kV, doc, pm, an, cdv, ct, osl, rfl, look, code⟩ := F.ex
  have still : ∀ b o, base.get? b = some o → s.heap.get? b = some o := fun b o e => (en.bs b o e).1
  have inK : K.In s.heap := en.mod.kin.keeps still
  have noL : s.heap.NoLimit := en.mod.nolimit.keeps still
  have kinds : ∀ y ∈ ps.zip us, (defScope st).names.lookup y.1 = some .local ∨
      ((defScope st).names.lookup y.1 = some .cell ∧ ((cellsFrom (s.heap.objs.size + 1) (defScope st).names []).lookup y.1).isSome = true) := by
    rintro ⟨nm, u⟩ hy
    cases S.par nm (List.of_mem_zip hy).1 with
    | inl z => exact .inl z
    | inr z => exact .inr ⟨z, PySem.W.cellsFrom_some _ _ _ (.inl z)⟩
  have step := codeAny_call_function (prog := P) (w := w) (A := A) (s := s) room.depth (inK _ _ look) rfl S.co S.gen rfl (PySem.W.codeRec_of inK code)
    (R := CR CX0 outer P w H s Q E) (args := args)
  refine step (bd _ _ _ _ ?_)
  refine wpAny_newFunctionEnv_cells S.kind kinds ?_
  intro env isEnv s1 inC
  subst isEnv
  refine ⟨noL.keeps inC.toInCall.keep, codeAny_func ?_⟩
  obtain ⟨t, ht, hq⟩ := body cdv (room.deeper _)
  have J : Inv (cxOf CX0 P w K mg base N qual (defScope st) f cdv A outer s H E) [] (start N vs) H s1 := inv_start S room.hd en hln rel inC
  refine wpAny_mono (ht.nox.run [] s1 (start N vs) H _ J hq) ?_ ?_
  · intro fl s' done
    cases fl with
    | ret u =>
      obtain ⟨v, σ', H', I', rv, qv⟩ := done
      exact ⟨v, H', I'.os, I'.bare, I'.base, I'.hok, rv, qv⟩
    | next =>
      obtain ⟨σ', H', I', qv⟩ := done
      exact ⟨V.non, H', I'.os, I'.bare, I'.base, I'.hok, rfl, qv⟩
    | brk => exact done.elim fun _ z => z.elim fun _ z => z.2.elim
    | cont => exact done.elim fun _ z => z.elim fun _ z => z.2.elim
  · intro e s' z
    exact z
/-! ### the law's own call -/
theorem law_at {P : Program} {w : World} {K : PySem.W.Frag} {mg mb : Str → Option Value} {fa a : Addr} {s₁ : Shared} {vs : List Value} {ns : List Int}
    (inK : K.In s₁.heap) (gl : s₁.heap.Ns mainGlobals mg) (bl : s₁.heap.Ns builtinsNs mb) (isB : ∀ x : Str, x ≠ "__name__" → mb x = bootBuiltins x) (lim : s₁.heap.NoLimit) (gens : s₁.gens = #[])
    (obj : s₁.heap.get? a = some { cls := .type "list", data := .seq vs.toArray }) (hints : IntsAre vs ns) (few : ns.length ≤ sizeLine)
    (run : ∀ (base : Heap) (H : Hp), K.In base → base.Ns mainGlobals mg → Env0 P w K mg base callerA [] s₁ H → SqL K H a (ns.map V.int) →
      codeAny (model P w) callerA (.call (.ref fa) ⟨[.ref a], []⟩) (CR CX0 [] P w H s₁ (fun v _ => v = .bl true) fun _ _ _ => False) s₁) :
    codeAny (model P w) callerA (.call (.ref fa) ⟨[.ref a], []⟩) (fun r s' => r = .ok (.ret (.bool true)) ∧ OldK s₁.heap s'.heap ∧ s'.os = s₁.os ∧ AllBare s'.gens) s₁ := by
  have rel := vals_ints hints
  have lens := hints.length
  have found : ∃ H : Hp, Only H ∧ SqL K H a (ns.map V.int) ∧ HOk P w H s₁.heap ∧ (∀ b u, H b = some u → b = a ∧ K.lookup a = none) := by
    cases inText : K.lookup a with
    | some o =>
      have same := inK a o inText
      rw [obj] at same
      cases same
      have never : ∀ (u : HO), (none : Option HO) ≠ some u := fun u z => by cases z
      refine ⟨fun _ => none, fun _ => .inl rfl, ?_, (fun b u z => (never u z).elim), (fun b u z => (never u z).elim)⟩
      refine .inr ⟨_, vs.toArray, _, inText, rfl, rfl, rfl, ?_, ?_⟩
      · rw [List.size_toArray, lens]
        exact few
      · rw [List.toList_toArray]
        exact rel
    | none =>
      let here : HO := .frz { cls := .type "list", data := .seq vs.toArray } (.lst (ns.map V.int))
      have only : ∀ b u, (if b = a then some here else none) = some u → b = a ∧ u = here := fun b u z => by
        by_cases hb : b = a
        · rw [if_pos hb] at z
          exact ⟨hb, (Option.some.inj z).symm⟩
        · rw [if_neg hb] at z
          cases z
      refine ⟨fun b => if b = a then some here else none, fun b => ?_, .inl (.inr ⟨{ cls := .type "list", data := .seq vs.toArray }, if_pos rfl⟩), fun b u z => ?_, fun b u z => ⟨(only b u z).1, rfl⟩⟩
      · by_cases hb : b = a
        · exact .inr ⟨_, _, if_pos hb⟩
        · exact .inl (if_neg hb)
      · obtain ⟨rfl, rfl⟩ := only b u z
        exact ⟨obj, by rw [List.length_map]; exact few, vs, _, rel, obj⟩
  obtain ⟨H, hO, hS, hok, hA⟩ := found
  have under : ∀ {b : Addr} {o : Obj}, s₁.heap.get? b = some o → H b = none → (hidT s₁.heap H).get? b = some o := fun e z => hidT_get e z
  have notDict : ∀ {b : Addr} {o : Obj} {es : Array DictEntry} {ep : Nat}, s₁.heap.get? b = some o → o.data = .dict es ep → H b = none := by
    intro b o es ep e isD
    cases z : H b with
    | none => rfl
    | some u =>
      obtain ⟨rfl, _⟩ := hA b u z
      rw [obj] at e
      cases e
      cases isD
  have ns' : ∀ {b : Addr} {m : Str → Option Value}, s₁.heap.Ns b m → (hidT s₁.heap H).Ns b m := by
    rintro b m ⟨o, es, ep, e, isD, r⟩
    exact ⟨o, es, ep, under e (notDict e isD), isD, r⟩
  have inK' : K.In (hidT s₁.heap H) := by
    intro b o e
    refine under (inK b o e) ?_
    cases z : H b with
    | none => rfl
    | some u =>
      obtain ⟨rfl, no⟩ := hA b u z
      rw [no] at e
      cases e
  obtain ⟨mc, l1, l2⟩ := lim
  have env : Env0 P w K mg (hidT s₁.heap H) callerA [] s₁ H :=
    ⟨rfl, ⟨inK', ns' gl, ⟨mb, ns' bl, isB⟩, ⟨mc, ns' l1, l2⟩⟩, fun _ _ e => of_hidT e, Nat.le_of_eq (hidT_size _ _), trivial, (fun _ hb => nomatch hb), hok, .of_eq gens⟩
  refine codeAny_mono (run _ H inK' (ns' gl) env hS) ?_
  intro r s' h
  cases r with
  | error e => exact h.elim
  | ok fl =>
    cases fl with
    | next => exact h.elim
    | brk => exact h.elim
    | cont => exact h.elim
    | ret u =>
      obtain ⟨v, H', os, bare, un, hok', rv, isT⟩ := h
      subst isT
      cases rv
      refine ⟨rfl, OldK.of_keep ?_, os, bare⟩
      intro b o e
      cases z : H b with
      | none => exact un.keep b o e z (fun y => nomatch y) (fun y => nomatch y)
      | some u =>
        rcases hO b with y | ⟨ob, xs, y⟩
        · rw [z] at y
          cases y
        · have y2 := un.frzs b ob _ y
          obtain ⟨e1, _⟩ := hok b _ y
          obtain ⟨e2, _⟩ := hok' b _ y2
          rw [e] at e1
          cases e1
          exact e2
/-! ### defs that ask for repr: the guards are carried -/
structure FnOkG (P : Program) (w : World) (K : PySem.W.Frag) (mg : Str → Option Value) (base : Heap) (k : Nat) (f : Addr) (fd : FuncData) (ps : List Str) (sp : Sp) : Prop where
  len : ∀ vs H Q E, sp vs H Q E → vs.length = ps.length
  run : ∀ (A : Around) (outer : List Env) (s : Shared) (H : Hp) (args : Args) (us : List Value) (vs : List V) (Q : VK) (E : XK), A.guards = some [] → Room k A → Env0 P w K mg base A outer s H →
    BindsTo s fd args (ps.zip us) → Vals vs us → sp vs H Q E → codeAny (model P w) A (.call (.ref f) args) (CR CX0 outer P w H s Q E) s
theorem fnG {P : Program} {w : World} {K : PySem.W.Frag} {mg : Str → Option Value} {base : Heap} {f : Addr} {fd : FuncData} {N ps : List Str} {k : Nat} {x qual : Str} {st : Stmt} {sp : Sp} (F : Fun K x qual st f fd) (S : FnScope N ps (defScope st))
    (len : ∀ vs H Q E, sp vs H Q E → vs.length = ps.length)
    (body : ∀ (cdv : Value) (A : Around) (outer : List Env) (s : Shared) (H : Hp) (vs : List V) (Q : VK) (E : XK), A.guards = some [] → Room k (A.deeper (envOfC qual (defScope st) s.heap.objs.size f cdv)) → sp vs H Q E →
      ∃ t, PSs (cxOf CX0 P w K mg base N qual (defScope st) f cdv A outer s H E).nox (defBody st) t ∧ t { nx := fun _ H' => Q .non H', rt := Q } (start N vs) H) :
    FnOkG P w K mg base (k + 1) f fd ps sp := by
  refine ⟨len, ?_⟩
  intro A outer s H args us vs Q E gs room en bd rel hsp
  exact enter_def F S room en bd rel (len _ _ _ _ hsp) fun cdv hr => body cdv A outer s H vs Q E gs hr hsp
theorem pe_callG {X : Cx} {k : Nat} {f : Addr} {fd : FuncData} {ps : List Str} {sp : Sp} {x : Str} {p pos : Pos} {e : Expr} {es : List Expr} {t : TA}
    (G : FnOkG X.prog X.w X.K X.mg X.base k f fd ps sp) (gs : X.A.guards = some []) (room : Room k X.A) (isG : Gl X x) (at0 : X.mg x = some (.ref f)) (kp : PySem.W.keepIn X.K (.ref f) = true) (bd : Binds X.K fd ps []) (args : PA X (e :: es) t)
    (nd : (x == ("__debug__" : Str)) = false := by decide) (he : starEach (e :: es) X.env = (false, eval e X.env) :: starEach es X.env := by rfl) (hp : (backTo pos (starEach es X.env)).any (·.1) = false := by rfl) :
    PE X (.Call (.Name x p) (e :: es) [] pos) (tCall sp [] E0 t) := by
  constructor
  intro pins s σ H Q I h
  refine wpAny_Call_Name_kw (ld_glob I isG at0 ?_ nd)
  refine PySem.W.callWith_K (h₀ := X.base) I.ok.mod.kin kp (thn (args.run pos pins s σ H _ I h) ?_) he hp
  rintro us s1 ⟨vs, H1, I1, rel, q⟩
  refine ⟨I1.kIn, ?_⟩
  have q' : sp vs H1 Q E0 := by
    rw [List.append_nil] at q
    exact q
  have hl : (us ++ []).length = ps.length := by
    rw [List.append_nil, ← rel.length]
    exact G.len _ _ _ _ q'
  have bd' := bd s1 us I1.kIn hl
  rw [List.append_nil] at bd'
  refine wpAny_call (codeAny_mono (G.run X.A X.stack s1 H1 ⟨us, []⟩ us vs Q E0 gs room I1.env0 bd' rel q') ?_)
  intro r s' done
  cases r with
  | error e => exact done.elim
  | ok fl =>
    cases fl with
    | ret u => exact I1.after done
    | next => exact done.elim
    | brk => exact done.elim
    | cont => exact done.elim
/-- a def that asks for repr, with its promise -/
structure DfG (P : Program) (w : World) (K : PySem.W.Frag) (mg : Str → Option Value) (base : Heap) (k : Nat) (nm : Str) (ps : List Str) (sp : Sp) where
  f : Addr
  fd : FuncData
  ok : FnOkG P w K mg base k f fd ps sp
  b : Binds K fd ps []
  kp : PySem.W.keepIn K (.ref f) = true
  g : mg nm = some (.ref f)
/-! ### repr of data without dicts -/
mutual
def okR : PyData → Bool
  | .none => true
  | .bool _ => true
  | .int i => decide (0 ≤ i) && decide (i < 64)
  | .str x => decide (x.length ≤ 64) && x.cps.toList.all (· < 128)
  | .list xs => okRs xs
  | .tuple xs => okRs xs
  | .dict _ => false
def okRs : List PyData → Bool
  | [] => true
  | x :: xs => okR x && okRs xs
end
mutual
def wtR : PyData → Nat
  | .none => 4
  | .bool _ => 5
  | .int _ => 31
  | .str x => 10 * x.length + 2
  | .list xs => 3 + wtRs xs
  | .tuple xs => 3 + wtRs xs
  | .dict _ => 0
def wtRs : List PyData → Nat
  | [] => 0
  | x :: xs => wtR x + 2 + wtRs xs
end
theorem small_shown : ∀ n : Nat, n < 64 → (Str.ofString (toString (n : Int))).length ≤ 31 ∧ (n : Int).natAbs.log2 < 1920 := by decide +kernel
theorem listText_leR (ts : List Str) : (listText ts).length ≤ piled ts + 3 := by
  have h := textFrom_len_le ts 0 "["
  have e : (listText ts).length = (textFrom 0 "[" ts).length + 1 := by
    show (textFrom 0 "[" ts ++ "]").length = _
    rw [strLen_append]
    rfl
  have z : ∀ l : List Str, (l.map (·.length)).sum + 2 * l.length = piled l := by
    intro l
    induction l with
    | nil => rfl
    | cons t l ih =>
      rw [piled_cons, List.map_cons, List.sum_cons, List.length_cons]
      omega
  have z2 := z ts
  have z3 : (("[" : String) : Str).length = 1 := rfl
  omega
mutual
theorem shownR : ∀ d : PyData, okR d = true → d.shown.length ≤ wtR d ∧ d.showable = true ∧ d.hasDict = false
  | .none, _ => by
    simp only [PyData.shown, wtR, PyData.showable, PyData.hasDict, and_true]
    decide +kernel
  | .bool b, _ => by
    simp only [PyData.shown, wtR, PyData.showable, PyData.hasDict, and_true]
    cases b <;> decide +kernel
  | .int i, h => by
    simp only [okR, Bool.and_eq_true, decide_eq_true_eq] at h
    obtain ⟨h1, h2⟩ := small_shown i.toNat (by omega)
    rw [show ((i.toNat : Nat) : Int) = i by omega] at h1 h2
    simp only [PyData.shown, wtR, PyData.showable, PyData.hasDict, decide_eq_true_eq, and_true]
    exact ⟨h1, h2⟩
  | .str x, h => by
    simp only [okR, Bool.and_eq_true, decide_eq_true_eq, List.all_eq_true] at h
    have h1 := StrLaws.reprText_len x (fun c hc => Nat.lt_of_lt_of_le (h.2 c hc) (by decide))
    simp only [PyData.shown, wtR, PyData.showable, PyData.hasDict, and_true]
    omega
  | .list xs, h => by
    simp only [okR] at h
    obtain ⟨h1, h2, h3⟩ := shownRs xs h
    simp only [PyData.shown, wtR, PyData.showable, PyData.hasDict]
    exact ⟨Nat.le_trans (listText_leR _) (by omega), h2, h3⟩
  | .tuple xs, h => by
    simp only [okR] at h
    obtain ⟨h1, h2, h3⟩ := shownRs xs h
    simp only [PyData.shown, wtR, PyData.showable, PyData.hasDict]
    exact ⟨Nat.le_trans (fmt_text _) (by omega), h2, h3⟩
  | .dict _, h => by
    simp only [okR] at h
    exact absurd h Bool.false_ne_true
theorem shownRs : ∀ ds : List PyData, okRs ds = true → piled (PyData.shownAll ds) ≤ wtRs ds ∧ PyData.showableAll ds = true ∧ PyData.hasDictAll ds = false
  | [], _ => by
    simp only [PyData.shownAll, wtRs, PyData.showableAll, PyData.hasDictAll, and_true]
    exact Nat.le_refl _
  | d :: ds, h => by
    simp only [okRs, Bool.and_eq_true] at h
    obtain ⟨h1, h2, h5⟩ := shownR d h.1
    obtain ⟨h3, h4, h6⟩ := shownRs ds h.2
    simp only [PyData.shownAll, wtRs, PyData.showableAll, PyData.hasDictAll, h2, h4, h5, h6, Bool.and_self, Bool.or_self, and_true]
    rw [piled_cons]
    omega
end
def rReprR (K : PySem.W.Frag) : List V → Hp → VK → Prop := fun xs H Q => ∃ (a : Addr) (d : PyData), xs = [.ref a] ∧ Dp K H (.ref a) d ∧ okR d = true ∧ wtR d ≤ 1000000 ∧ d.depth ≤ 60 ∧ Q (.str d.shown) H
theorem call_reprR {X : Cx} (hg : X.A.guards = some []) (hu : X.A.units + 64 < cLine) : CallR X (.builtin "repr") (rReprR X.K) := by
  intro pins s σ H xs us Q I r h
  obtain ⟨a, d, rfl, hd, hs, hw, hz, q⟩ := h
  obtain ⟨u, rfl, rx⟩ := vals1 r
  cases rx
  obtain ⟨h1, h2, h3⟩ := shownR d hs
  obtain ⟨as, rd⟩ := Dp.reads I d _ _ hd rfl
  exact repr_of_reads' rd h2 (PyData.noDict_hsm h3) hg (by omega) (fun _ _ e => e) (fun h' u tk hk => ⟨.str d.shown, H, I.kept (t' := tk) hk, ⟨u, rfl⟩, q⟩) (by show _ ≤ 16777216; omega)
/-! ### walks -/
inductive Kd where
  | first
  | between
  | last
def Kd.str : Kd → Str
  | .first => "first"
  | .between => "between"
  | .last => "last"
def B.post : B → List Nat
  | .nil => []
  | .node l x r => l.post ++ r.post ++ [x]
def B.wk (k : Kd) (t : B) : List Nat := match k with
  | .first => t.pre
  | .between => t.mid
  | .last => t.post
def B.steps (k : Kd) : B → List Nat → List (List Nat × Nat)
  | .nil, _ => []
  | .node l x r, q => match k with
    | .first => [(q, x)] ++ l.steps k (q ++ [108]) ++ r.steps k (q ++ [114])
    | .between => l.steps k (q ++ [108]) ++ [(q, x)] ++ r.steps k (q ++ [114])
    | .last => l.steps k (q ++ [108]) ++ r.steps k (q ++ [114]) ++ [(q, x)]
theorem B.steps_wk (k : Kd) (t : B) : ∀ q : List Nat, (t.steps k q).map (·.2) = t.wk k := by
  induction t with
  | nil => intro q; cases k <;> rfl
  | node l x r h1 h2 =>
    intro q
    have a := h1 (q ++ [108])
    have b := h2 (q ++ [114])
    cases k
    · show ([(q, x)] ++ l.steps .first (q ++ [108]) ++ r.steps .first (q ++ [114])).map (·.2) = x :: (l.pre ++ r.pre)
      rw [List.map_append, List.map_append, a, b]; rfl
    · show (l.steps .between (q ++ [108]) ++ [(q, x)] ++ r.steps .between (q ++ [114])).map (·.2) = l.mid ++ x :: r.mid
      rw [List.map_append, List.map_append, a, b]
      show l.mid ++ [x] ++ r.mid = _
      rw [List.append_assoc]; rfl
    · show (l.steps .last (q ++ [108]) ++ r.steps .last (q ++ [114]) ++ [(q, x)]).map (·.2) = l.post ++ r.post ++ [x]
      rw [List.map_append, List.map_append, a, b]; rfl
theorem B.wk_len (k : Kd) (t : B) : (t.wk k).length = t.size := by
  cases k
  · exact t.pre_len
  · exact t.mid_len
  · show t.post.length = t.size
    induction t with
    | nil => rfl
    | node l x r h1 h2 =>
      show (l.post ++ r.post ++ [x]).length = l.size + 1 + r.size
      rw [List.length_append, List.length_append, h1, h2, List.length_cons, List.length_nil]
      omega
theorem B.steps_len (k : Kd) (t : B) (q : List Nat) : (t.steps k q).length = t.size := by
  rw [← t.wk_len k, ← t.steps_wk k q, List.length_map]
inductive StAt (H : Hp) : List V → List (List Nat × Nat) → Prop
  | nil : StAt H [] []
  | cons {a : Addr} {q : List Nat} {x : Nat} {vs : List V} {ss : List (List Nat × Nat)} : H a = some (.tup [.str (tx q), .str (ch x)]) → StAt H vs ss → StAt H (.ref a :: vs) ((q, x) :: ss)
theorem StAt.keep {H H' : Hp} (k : KeepT H H') {vs : List V} {ss : List (List Nat × Nat)} (h : StAt H vs ss) : StAt H' vs ss := by
  induction h with
  | nil => exact .nil
  | cons e _ ih => exact .cons (k _ _ e) ih
theorem StAt.same {H H' : Hp} (k : Same H H') {vs : List V} {ss : List (List Nat × Nat)} (h : StAt H vs ss) : StAt H' vs ss := h.keep (Tw.Same.keepT k)
theorem StAt.app {H : Hp} {vs us : List V} {ss ts : List (List Nat × Nat)} (h : StAt H vs ss) (g : StAt H us ts) : StAt H (vs ++ us) (ss ++ ts) := by
  induction h with
  | nil => exact g
  | cons e _ ih => exact .cons e ih
theorem StAt.len {H : Hp} {vs : List V} {ss : List (List Nat × Nat)} (h : StAt H vs ss) : vs.length = ss.length := by
  induction h with
  | nil => rfl
  | cons _ _ ih => rw [List.length_cons, List.length_cons, ih]
theorem StAt.get {H : Hp} {vs : List V} {ss : List (List Nat × Nat)} (h : StAt H vs ss) : ∀ {i : Nat} {v : V}, vs[i]? = some v → ∃ a q x, v = .ref a ∧ ss[i]? = some (q, x) ∧ H a = some (.tup [.str (tx q), .str (ch x)]) := by
  induction h with
  | nil => intro i v e; simp at e
  | cons e _ ih =>
    intro i v he
    cases i with
    | zero => cases he; exact ⟨_, _, _, rfl, rfl, e⟩
    | succ i => exact ih he
theorem str_l : Str.ofString "l" = tx [108] := by decide +kernel
theorem str_r : Str.ofString "r" = tx [114] := by decide +kernel
theorem str_0 : Str.ofString "" = tx [] := by decide +kernel
def spDeep (n : Nat) : Sp := fun vs H Q _ => ∃ (v : V) (t : B) (k : Kd) (q : List Nat), vs = [v, .str k.str, .str (tx q)] ∧ BAt H v t ∧ t.size < n ∧ t.size + q.length ≤ 200 ∧
  ∀ (p : Addr) (us : List V) (H' : Hp), Same H H' → H' p = some (.lst us) → StAt H' us (t.steps k q) → Q (.ref p) H'
theorem iteS {x y : Str} {A B : Prop} (h : x = y) (a : A) : if decide (V.str x = V.str y) = true then A else B := by
  rw [if_pos (decide_eq_true (congrArg V.str h))]; exact a
theorem iteR {x y : Str} {A B : Prop} (h : x ≠ y) (b : B) : if decide (V.str x = V.str y) = true then A else B := by
  rw [if_neg (fun z => h (V.str.inj (of_decide_eq_true z)))]; exact b
section
variable {P : Program} {w : World} {K : PySem.W.Frag} {mg : Str → Option Value} {base : Heap} {f : Addr} {fd : FuncData}
theorem ok_deep (F : Fun K "deep_steps" "deep_steps" s_deep_steps f fd) (b : Binds K fd ["tree", "kind", "path"] []) (g : mg "deep_steps" = some (.ref f)) : ∀ n : Nat, FnOk P w K mg base CX0 n f fd ["tree", "kind", "path"] (spDeep n)
  | 0 => by
    have no : ∀ vs H Q E, ¬ spDeep 0 vs H Q E := fun vs H Q E h => by
      obtain ⟨v, t, k, q, _, _, h1, _⟩ := h
      omega
    exact ⟨fun vs H Q E h => absurd h (no vs H Q E), fun A outer s H args us vs Q E _ _ _ _ h => absurd h (no vs H Q E)⟩
  | n + 1 => by
    have Dself : Df P w K mg base n "deep_steps" ["tree", "kind", "path"] (spDeep n) := ⟨f, fd, ok_deep F b g n, b, F.kp, g⟩
    refine F.ok sc_deep_steps (fun vs H Q E h => ?_) (fun cdv A outer s H vs Q E hr h => ?_)
    · obtain ⟨v, t, k, q, rfl, _⟩ := h
      rfl
    obtain ⟨v, t, k, pth, rfl, hv, hn, hz, q⟩ := h
    refine ⟨_, (pss_cons (ps_if (pt_cmpR op_isN (pv 0) pe_non (nomark _))
      (pss_one (ps_ret (pe_lst pa_nil))) pss_nil)
    (pss_cons (ps_asg (pv 0) (pg_tup rfl (pgs_cons (pg_name (i := 3) sc_deep_steps.nd rfl (.inl rfl)) (pgs_cons (pg_name (i := 4) sc_deep_steps.nd rfl (.inl rfl)) (pgs_cons (pg_name (i := 5) sc_deep_steps.nd rfl (.inl rfl)) pgs_nil)))))
    (pss_cons (ps_set (i := 6) sc_deep_steps.nd rfl (.inl rfl) (pe_lst (pa_cons (pe_tup (pa_cons (pv 2) (pa_cons (pv 4) pa_nil))) pa_nil)))
    (pss_cons (ps_set (i := 7) sc_deep_steps.nd rfl (.inl rfl) (pe_call Dself.ok (hr.mono (by omega)) rfl Dself.g Dself.kp Dself.b .nil pass0 (pa_cons (pv 3) (pa_cons (pv 1) (pa_cons (pe_op op_add_str (pv 2) pe_str) pa_nil)))))
    (pss_cons (ps_set (i := 8) sc_deep_steps.nd rfl (.inl rfl) (pe_call Dself.ok (hr.mono (by omega)) rfl Dself.g Dself.kp Dself.b .nil pass0 (pa_cons (pv 5) (pa_cons (pv 1) (pa_cons (pe_op op_add_str (pv 2) pe_str) pa_nil)))))
    (pss_cons (ps_if (pt_cmpR op_eq (pv 1) pe_str (nomark _))
      (pss_one (ps_ret (pe_op op_cat (pe_op op_cat (pv 6) (pv 7)) (pv 8)))) pss_nil)
    (pss_cons (ps_if (pt_cmpR op_eq (pv 1) pe_str (nomark _))
      (pss_one (ps_ret (pe_op op_cat (pe_op op_cat (pv 7) (pv 6)) (pv 8)))) pss_nil)
    (pss_one (ps_ret (pe_op op_cat (pe_op op_cat (pv 7) (pv 8)) (pv 6))))))))))), ?_⟩
    rcases hv.inv with ⟨rfl, rfl⟩ | ⟨a, l, r, x, tl, tr, rfl, rfl, ea, hl, hr'⟩
    · refine ⟨_, rfl, rfl, _, rfl, iteT ⟨(by show 0 ≤ sizeLine; decide), fun p np => ?_⟩⟩
      exact q p [] _ (same_new np _) upd_same .nil
    · refine ⟨_, rfl, rfl, _, rfl, iteF ?_⟩
      refine ⟨_, rfl, a, _, rfl, SqT.of ea, rfl, _, _, rfl, _, _, rfl, _, _, rfl, rfl, ?_⟩
      have sz : tl.size + 1 + tr.size < n + 1 := hn
      have sz2 : tl.size + 1 + tr.size + pth.length ≤ 200 := hz
      -- root
      refine ⟨_, rfl, _, rfl, (by show 2 ≤ sizeLine; decide), fun tp ntp => ⟨(by show 1 ≤ sizeLine; decide), fun ro nro => ?_⟩⟩
      have q1 := same_new ntp (.tup [.str (tx pth), .str (ch x)])
      have q2 := same_new nro (.lst [.ref tp])
      have etp := q2 _ _ (upd_same (H := H) (a := tp) (o := .tup [.str (tx pth), .str (ch x)]))
      have ero := upd_same (H := upd H tp (.tup [.str (tx pth), .str (ch x)])) (a := ro) (o := .lst [.ref tp])
      have s1 := q1.trans q2
      generalize upd (upd H tp (.tup [.str (tx pth), .str (ch x)])) ro (.lst [.ref tp]) = H1 at etp ero s1
      -- lefts
      refine ⟨_, rfl, _, rfl, _, rfl, _, _, rfl, rfl, ?_, ?_⟩
      · rw [str_l, tx_len, tx_len]; exact small (by show _ + 1 ≤ 1000; omega)
      rw [str_l, tx_app]
      refine ⟨l, tl, k, pth ++ [108], rfl, hl.same s1, by omega, by rw [List.length_append]; show _ + (_ + 1) ≤ 200; omega, fun lp ul H2 s2 elp stl => ?_⟩
      -- rights
      refine ⟨_, rfl, _, rfl, _, rfl, _, _, rfl, rfl, ?_, ?_⟩
      · rw [str_r, tx_len, tx_len]; exact small (by show _ + 1 ≤ 1000; omega)
      rw [str_r, tx_app]
      refine ⟨r, tr, k, pth ++ [114], rfl, (hr'.same s1).same s2, by omega, by rw [List.length_append]; show _ + (_ + 1) ≤ 200; omega, fun rp ur H3 s3 erp str => ?_⟩
      have ero3 := s3 _ _ (s2 _ _ ero)
      have elp3 := s3 _ _ elp
      have strt : StAt H3 [.ref tp] [(pth, x)] := .cons (s3 _ _ (s2 _ _ etp)) .nil
      have stl3 := stl.same s3
      have sA := (s1.trans s2).trans s3
      have ll := stl.len
      have lr := str.len
      rw [B.steps_len] at ll lr
      cases k
      · refine ⟨_, rfl, rfl, _, rfl, iteS rfl ?_⟩
        refine ⟨_, rfl, _, rfl, ro, lp, _, _, rfl, rfl, ero3, elp3, small (by show 1 + _ ≤ 1000; omega), fun c1 n1 => ?_⟩
        have k1 := same_new n1 (.lst ([.ref tp] ++ ul))
        refine ⟨_, rfl, c1, rp, _, _, rfl, rfl, upd_same, k1 _ _ erp, small (by rw [List.length_append]; show 1 + _ + _ ≤ 1000; omega), fun c2 n2 => ?_⟩
        have k2 := same_new n2 (.lst ([.ref tp] ++ ul ++ ur))
        exact q c2 _ _ (sA.trans (k1.trans k2)) upd_same (((strt.app stl3).app str).same (k1.trans k2))
      · refine ⟨_, rfl, rfl, _, rfl, iteR (by decide +kernel) ?_⟩
        refine ⟨_, rfl, rfl, _, rfl, iteS rfl ?_⟩
        refine ⟨_, rfl, _, rfl, lp, ro, _, _, rfl, rfl, elp3, ero3, small (by show _ + 1 ≤ 1000; omega), fun c1 n1 => ?_⟩
        have k1 := same_new n1 (.lst (ul ++ [.ref tp]))
        refine ⟨_, rfl, c1, rp, _, _, rfl, rfl, upd_same, k1 _ _ erp, small (by rw [List.length_append]; show _ + 1 + _ ≤ 1000; omega), fun c2 n2 => ?_⟩
        have k2 := same_new n2 (.lst (ul ++ [.ref tp] ++ ur))
        exact q c2 _ _ (sA.trans (k1.trans k2)) upd_same (((stl3.app strt).app str).same (k1.trans k2))
      · refine ⟨_, rfl, rfl, _, rfl, iteR (by decide +kernel) ?_⟩
        refine ⟨_, rfl, rfl, _, rfl, iteR (by decide +kernel) ?_⟩
        refine ⟨_, rfl, _, rfl, lp, rp, _, _, rfl, rfl, elp3, erp, small (by omega), fun c1 n1 => ?_⟩
        have k1 := same_new n1 (.lst (ul ++ ur))
        refine ⟨_, rfl, c1, ro, _, _, rfl, rfl, upd_same, k1 _ _ ero3, small (by rw [List.length_append]; show _ + _ + 1 ≤ 1000; omega), fun c2 n2 => ?_⟩
        have k2 := same_new n2 (.lst (ul ++ ur ++ [.ref tp]))
        exact q c2 _ _ (sA.trans (k1.trans k2)) upd_same (((stl3.app str).app strt).same (k1.trans k2))
/-- the tuple KINDS of the text -/
structure KindsT (K : PySem.W.Frag) (mg : Str → Option Value) (a : Addr) : Prop where
  mg : mg "KINDS" = some (.ref a)
  sq : ∀ H : Hp, SqT K H a [.str "first", .str "between", .str "last", .str "level"]
def spKind : Sp := fun vs H Q _ => ∃ k : Kd, vs = [.str k.str] ∧ Q (.bl true) H
theorem ok_kind {k : Nat} {aK : Addr} (F : Fun K "is_kind" "is_kind" s_is_kind f fd) (M : Mgs mg) (Kk : KindsT K mg aK) : FnOk P w K mg base CX0 (k + 1) f fd ["value"] spKind := by
  refine F.ok sc_is_kind (fun vs H Q E h => ?_) (fun cdv A outer s H vs Q E hr h => ?_)
  · obtain ⟨k, rfl, _⟩ := h
    rfl
  obtain ⟨k, rfl, q⟩ := h
  refine ⟨_, (pss_one (ps_ret (pe_and (pe_callB call_isi rfl M.isinstance (by decide +kernel) (pa_cons (pv 0) (pa_cons (pe_bltn (v := .ty "str") rfl M.str (by decide +kernel) rfl) pa_nil))) (pe_one (pe_cmpR op_in_seq (pv 0) (pe_glob (v := .ref _) rfl Kk.mg rfl) (by rfl)))))), ?_⟩
  refine ⟨_, rfl, _, _, _, _, true, rfl, .ty _, .base (.str _), kit_ty (by decide +kernel), _, rfl, iteT ?_⟩
  refine ⟨_, rfl, aK, _, rfl, .inr (Kk.sq H), rfl, ?_, ?_⟩
  · rfl
  · have e : (if false = true then !inV (.str k.str) [.str "first", .str "between", .str "last", .str "level"] else inV (.str k.str) [.str "first", .str "between", .str "last", .str "level"]) = true := by
      cases k <;> decide +kernel
    rw [e]
    exact q
def spSteps : Sp := fun vs H Q _ => ∃ (v : V) (t : B) (k : Kd), vs = [v, .str k.str] ∧ BAt H v t ∧ t.size ≤ 50 ∧
  ∀ (p : Addr) (us : List V) (H' : Hp), Same H H' → H' p = some (.lst us) → StAt H' us (t.steps k []) → Q (.ref p) H'
theorem ok_steps (F : Fun K "ordered_steps" "ordered_steps" s_ordered_steps f fd) (Dis_kind : Df P w K mg base 1 "is_kind" ["value"] spKind) (Ddeep_steps : Df P w K mg base 60 "deep_steps" ["tree", "kind", "path"] (spDeep 60)) :
    FnOk P w K mg base CX0 61 f fd ["tree", "kind"] spSteps := by
  refine F.ok sc_ordered_steps (fun vs H Q E h => ?_) (fun cdv A outer s H vs Q E hr h => ?_)
  · obtain ⟨v, t, k, rfl, _⟩ := h
    rfl
  obtain ⟨v, t, k, rfl, hv, hz, q⟩ := h
  refine ⟨_, (pss_cons (ps_if (pt_not (pt_val (pe_call Dis_kind.ok (hr.mono (by omega)) rfl Dis_kind.g Dis_kind.kp Dis_kind.b .nil pass0 (pa_cons (pv 1) pa_nil))))
      (pss_one ps_never) pss_nil)
    (pss_cons (ps_if (pt_cmpR op_eq (pv 1) pe_str (nomark _))
      (pss_one ps_never) pss_nil)
    (pss_one (ps_ret (pe_call Ddeep_steps.ok (hr.mono (by omega)) rfl Ddeep_steps.g Ddeep_steps.kp Ddeep_steps.b .nil pass0 (pa_cons (pv 0) (pa_cons (pv 1) (pa_cons pe_str pa_nil)))))))), ?_⟩
  refine ⟨_, rfl, k, rfl, _, rfl, iteF ?_⟩
  refine ⟨_, rfl, rfl, _, rfl, iteR (by cases k <;> decide +kernel) ?_⟩
  refine ⟨_, rfl, _, rfl, v, t, k, [], ?_, hv, by omega, by show t.size + 0 ≤ 200; omega, q⟩
  rw [← str_0]
  rfl
def spWalk : Sp := fun vs H Q _ => ∃ (v : V) (t : B) (k : Kd), vs = [v, .str k.str] ∧ BAt H v t ∧ t.size ≤ 50 ∧ ∀ H', Same H H' → Q (.str (tx (t.wk k))) H'
theorem ok_walk (F : Fun K "walk" "walk" s_walk f fd) (Dordered_steps : Df P w K mg base 61 "ordered_steps" ["tree", "kind"] spSteps) : FnOk P w K mg base CX0 62 f fd ["tree", "kind"] spWalk := by
  refine F.ok sc_walk (fun vs H Q E h => ?_) (fun cdv A outer s H vs Q E hr h => ?_)
  · obtain ⟨v, t, k, rfl, _⟩ := h
    rfl
  obtain ⟨v, t, k, rfl, hv, hz, q⟩ := h
  refine ⟨_, (pss_one (ps_ret (pe_bm PySem.F.plainAttrs_str PySem.F.slot_str_join PySem.F.type_str_join mt_join pe_str (pa_cons (pe_lc (own := [("path", 2), ("label", 3)]) (g := gTup K 2 (gCons (gName 2) (gCons (gName 3) gNil))) (tt := tYes) rfl sc_walk.nd (pi_list (pe_call Dordered_steps.ok (hr.mono (by omega)) rfl Dordered_steps.g Dordered_steps.kp Dordered_steps.b .nil pass0 (pa_cons (pv 0) (pa_cons (pv 1) pa_nil)))) (blkOk_by (N := ["tree", "kind", "path", "label"]) (sc := defScope s_walk) (by decide +kernel)) (fun _ _ _ _ _ => (pg_tup rfl (pgs_cons (pg_name (i := 2) sc_walk.nd rfl (.inl rfl)) (pgs_cons (pg_name (i := 3) sc_walk.nd rfl (.inl rfl)) pgs_nil)))) (fun _ _ _ _ _ => pts_nil) (fun _ _ _ _ _ => (pv 3))) pa_nil)))), ?_⟩
  refine ⟨rfl, _, rfl, _, rfl, v, t, k, rfl, hv, hz, fun p us H1 s1 ep st => ?_⟩
  refine ⟨p, rfl, ⟨_, SqL.of ep⟩, fun D nD => ?_⟩
  have q1 := same_new nD (.lst [])
  have hl := st.len
  rw [B.steps_len] at hl
  have ez := t.steps_wk k []
  refine lc_list (K := K) (a := p) (xs := us) (fun i H' => Same H1 H' ∧ H' D = some (.lst (((t.wk k).take i).map vc))) ⟨q1, upd_same⟩ (fun i H' _ hp => SqL.of (hp.1 _ _ ep)) (fun i x H' hx hp => ?_) (fun H' hp => ?_)
  · obtain ⟨sm, ed⟩ := hp
    obtain ⟨a, pq, c, rfl, es, ea⟩ := st.get hx
    have hc : (t.wk k)[i]? = some c := by rw [← ez, List.getElem?_map, es]; rfl
    have hi := (List.getElem?_eq_some_iff.mp hx).1
    refine ⟨a, _, rfl, SqT.of (sm _ _ ea), rfl, _, _, rfl, _, _, rfl, rfl, rfl, kept ?_⟩
    refine ⟨_, rfl, _, ed, ?_, fun b o e => ?_, ?_⟩
    · rw [List.length_map, List.length_take]; exact small1000 (by omega)
    · rw [upd_ne (ne_of_none e nD)]; exact sm _ _ e
    · rw [upd_same, take_next hc, List.map_append]; rfl
  · obtain ⟨sm, ed⟩ := hp
    have tk : (t.wk k).take us.length = t.wk k := List.take_of_length_le (by rw [t.wk_len k]; omega)
    rw [tk, map_vc] at ed
    refine ⟨_, D, (t.wk k).map ch, rfl, rfl, .inl (SqL.of ed), tx_joinOk _ (by rw [t.wk_len k]; omega), ?_⟩
    rw [tx_join]
    exact q H' (s1.trans sm)
end
/-! ### is_letter, is_node, is_tree of a tree -/
def isLow (c : Nat) : Bool := decide (97 ≤ c) && decide (c ≤ 122)
def isLt : List Nat → Bool
  | [c] => isLow c
  | _ => false
def spLow : Sp := fun vs H Q _ => ∃ l : List Nat, vs = [.str (tx l)] ∧ l.length ≤ 1 ∧ Q (.bl (isLt l)) H
/-- all labels are letters -/
def B.lts (t : B) : Prop := ∀ c ∈ t.pre, isLow c = true
theorem B.lts_node {l r : B} {x : Nat} : (B.node l x r).lts ↔ isLow x = true ∧ l.lts ∧ r.lts := by
  unfold B.lts
  constructor
  · intro h
    exact ⟨h x List.mem_cons_self, fun c hc => h c (List.mem_cons_of_mem _ (List.mem_append_left _ hc)), fun c hc => h c (List.mem_cons_of_mem _ (List.mem_append_right _ hc))⟩
  · rintro ⟨h1, h2, h3⟩ c hc
    rcases List.mem_cons.mp hc with rfl | hc
    · exact h1
    · rcases List.mem_append.mp hc with hc | hc
      · exact h2 c hc
      · exact h3 c hc
theorem B.lts_nil : B.nil.lts := fun _ h => nomatch h
inductive FsAt (H : Hp) : List V → Nat → Prop
  | nil : FsAt H [] 0
  | cons {v : V} {t : B} {vs : List V} {n : Nat} : BAt H v t → t ≠ .nil → t.lts → FsAt H vs n → FsAt H (v :: vs) (t.size + n)
theorem B.size_pos {t : B} (h : t ≠ .nil) : 1 ≤ t.size := by
  cases t with
  | nil => exact absurd rfl h
  | node l x r => show 1 ≤ l.size + 1 + r.size; omega
theorem FsAt.same {H H' : Hp} (s : Same H H') {vs : List V} {n : Nat} (h : FsAt H vs n) : FsAt H' vs n := by
  induction h with
  | nil => exact .nil
  | cons a b c _ ih => exact .cons (a.same s) b c ih
theorem FsAt.keepT {H H' : Hp} (s : KeepT H H') {vs : List V} {n : Nat} (h : FsAt H vs n) : FsAt H' vs n := by
  induction h with
  | nil => exact .nil
  | cons a b c _ ih => exact .cons (a.keep s) b c ih
theorem FsAt.app {H : Hp} {vs ws : List V} {n m : Nat} (h : FsAt H vs n) (g : FsAt H ws m) : FsAt H (vs ++ ws) (n + m) := by
  induction h with
  | nil => rw [Nat.zero_add]; exact g
  | cons a b c _ ih => rw [Nat.add_assoc]; exact .cons a b c ih
theorem FsAt.len {H : Hp} {vs : List V} {n : Nat} (h : FsAt H vs n) : vs.length ≤ n := by
  induction h with
  | nil => exact Nat.le_refl _
  | cons _ b _ _ ih => have := B.size_pos b; rw [List.length_cons]; omega
theorem FsAt.last {H : Hp} {vs : List V} {n : Nat} (h : FsAt H vs n) : vs ≠ [] → ∃ v t m, vs[vs.length - 1]? = some v ∧ n = m + t.size ∧ BAt H v t ∧ t ≠ .nil ∧ t.lts ∧ FsAt H vs.dropLast m := by
  induction h with
  | nil => intro z; exact absurd rfl z
  | @cons v t vs n a b c hh ih =>
    intro _
    cases vs with
    | nil => cases hh; exact ⟨v, t, 0, rfl, by omega, a, b, c, .nil⟩
    | cons w ws =>
      obtain ⟨u, t', m, e1, e2, e3, e4, e5, e6⟩ := ih (by simp)
      refine ⟨u, t', t.size + m, ?_, by omega, e3, e4, e5, .cons a b c e6⟩
      show (w :: ws)[(w :: ws).length - 1]? = some u
      exact e1
def keepV : V → List V
  | .non => []
  | v => [v]
theorem keep_step {xs : List V} {j : Nat} {x : V} (h : xs[j]? = some x) : (xs.take (j + 1)).flatMap keepV = (xs.take j).flatMap keepV ++ keepV x := by
  rw [List.take_add_one, h, List.flatMap_append]
  congr 1
  show keepV x ++ [] = keepV x
  rw [List.append_nil]
theorem keep_len : ∀ xs : List V, (xs.flatMap keepV).length ≤ xs.length
  | [] => Nat.le_refl _
  | x :: xs => by
    have h := keep_len xs
    have h1 : (keepV x).length ≤ 1 := by cases x <;> first | exact Nat.zero_le _ | exact Nat.le_refl _
    rw [List.flatMap_cons, List.length_append, List.length_cons]
    omega
theorem FsAt.keep {H : Hp} {v : V} {t : B} (h : BAt H v t) (l : t.lts) : FsAt H (keepV v) t.size := by
  rcases h.inv with ⟨rfl, rfl⟩ | ⟨a, vl, vr, x, tl, tr, rfl, rfl, _⟩
  · exact .nil
  · exact .cons h (fun z => nomatch z) l .nil
def spNodeT : Sp := fun vs H Q _ => ∃ (v : V) (t : B), vs = [v] ∧ BAt H v t ∧ t ≠ .nil ∧ t.lts ∧ Q (.bl true) H
def spTreeT : Sp := fun vs H Q _ => ∃ (v : V) (t : B), vs = [v] ∧ BAt H v t ∧ t ≠ .nil ∧ t.lts ∧ t.size ≤ 12 ∧ ∀ H', Same H H' → Q (.bl true) H'
def toGo (σ : L2.St) : Nat := match σ[1]? with
  | some (some (V.int c)) => (13 - c).toNat
  | _ => 0
def spSz (n : Nat) : Sp := fun vs H Q _ => ∃ (v : V) (t : B), vs = [v] ∧ BAt H v t ∧ t.size < n ∧ Q (.int (t.size : Int)) H
section
variable {P : Program} {w : World} {K : PySem.W.Frag} {mg : Str → Option Value} {base : Heap} {f : Addr} {fd : FuncData}
theorem ok_low {k : Nat} (F : Fun K "is_letter" "is_letter" s_is_letter f fd) (M : Mgs mg) : FnOk P w K mg base CX0 (k + 1) f fd ["value"] spLow := by
  refine F.ok sc_is_letter (fun vs H Q E h => ?_) (fun cdv A outer s H vs Q E hr h => ?_)
  · obtain ⟨l, rfl, _⟩ := h
    rfl
  obtain ⟨l, rfl, hl, q⟩ := h
  refine ⟨_, (pss_one (ps_ret (pe_and (pe_callB call_isi rfl M.isinstance (by decide +kernel) (pa_cons (pv 0) (pa_cons (pe_bltn (v := .ty "str") rfl M.str (by decide +kernel) rfl) pa_nil))) (pe_and (pe_cmpR op_eq (pe_callB call_len_str rfl M.len PySem.boot_len (pa_cons (pv 0) pa_nil)) pe_int (nomark _)) (pe_one (pe_chain op_le_str op_le_str pe_str (pv 0) pe_str)))))), ?_⟩
  refine ⟨_, rfl, _, _, _, _, true, rfl, .ty _, .base (.str (tx l)), kit_ty (by decide +kernel), _, rfl, iteT ?_⟩
  refine ⟨_, rfl, tx l, rfl, small (by rw [tx_len]; omega), rfl, _, rfl, ?_⟩
  match l, hl, q with
  | [], _, q => exact iteF q
  | [c], _, q =>
    rw [show decide (V.int ((tx [c]).length : Nat) = V.int 1) = true from rfl]
    refine iteT ⟨_, rfl, _, _, rfl, rfl, _, rfl, ?_⟩
    have e1 : (!decide ((tx [c]).cps.toList < (Str.ofString "a").cps.toList)) = decide (97 ≤ c) := by
      rw [show (Str.ofString "a").cps.toList = [97] by decide +kernel, show (tx [c]).cps.toList = [c] from rfl]
      by_cases h : c < 97
      · rw [decide_eq_true (by simp [List.cons_lt_cons_iff, h]), decide_eq_false (by omega)]; rfl
      · rw [decide_eq_false (by simp [List.cons_lt_cons_iff, h]), decide_eq_true (by omega)]; rfl
    have e2 : (!decide ((Str.ofString "z").cps.toList < (tx [c]).cps.toList)) = decide (c ≤ 122) := by
      rw [show (Str.ofString "z").cps.toList = [122] by decide +kernel, show (tx [c]).cps.toList = [c] from rfl]
      by_cases h : 122 < c
      · rw [decide_eq_true (by simp [List.cons_lt_cons_iff, h]), decide_eq_false (by omega)]; rfl
      · rw [decide_eq_false (by simp [List.cons_lt_cons_iff, h]), decide_eq_true (by omega)]; rfl
    rw [e1]
    have q : Q (.bl (decide (97 ≤ c) && decide (c ≤ 122))) H := q
    by_cases h : 97 ≤ c
    · rw [decide_eq_true h] at q ⊢
      refine iteT ⟨_, _, rfl, rfl, ?_⟩
      rw [e2]
      exact q
    · rw [decide_eq_false h] at q ⊢
      exact iteF q
theorem ok_node {k : Nat} (F : Fun K "is_node" "is_node" s_is_node f fd) (M : Mgs mg) (Dis_letter : Df P w K mg base (k + 1) "is_letter" ["value"] spLow) : FnOk P w K mg base CX0 (k + 2) f fd ["value"] spNodeT := by
  refine F.ok sc_is_node (fun vs H Q E h => ?_) (fun cdv A outer s H vs Q E hr h => ?_)
  · obtain ⟨v, t, rfl, _⟩ := h
    rfl
  obtain ⟨v, t, rfl, ht, hn, hl, q⟩ := h
  refine ⟨_, (pss_one (ps_ret (pe_and (pe_callB call_isi rfl M.isinstance (by decide +kernel) (pa_cons (pv 0) (pa_cons (pe_bltn (v := .ty "tuple") rfl M.tuple (by decide +kernel) rfl) pa_nil))) (pe_and (pe_cmpR op_eq (pe_callB call_len_seq rfl M.len PySem.boot_len (pa_cons (pv 0) pa_nil)) pe_int (nomark _)) (pe_one (pe_call Dis_letter.ok (hr.mono (by omega)) rfl Dis_letter.g Dis_letter.kp Dis_letter.b .nil pass0 (pa_cons (pe_ix ix_tup (pv 0) pe_int (fun _ _ => rfl)) pa_nil))))))), ?_⟩
  rcases ht.inv with ⟨_, rfl⟩ | ⟨a, vl, vr, x, tl, tr, rfl, rfl, e, _⟩
  · exact absurd rfl hn
  have hx := (B.lts_node.mp hl).1
  refine ⟨_, rfl, _, _, _, _, true, rfl, .ty _, .base (.tup e), kit_ty (by decide +kernel), _, rfl, iteT ?_⟩
  refine ⟨_, rfl, a, _, rfl, .inr (SqT.of e), rfl, _, rfl, iteT ?_⟩
  refine ⟨_, rfl, a, _, 1, _, rfl, rfl, SqT.of e, atI_nat (j := 1) rfl, [x], rfl, Nat.le_refl _, ?_⟩
  have : isLt [x] = true := hx
  rw [this]
  exact q
theorem ok_isTree {tM : Tok} (F : Fun K "is_tree" "is_tree" s_is_tree f fd) (mMAX : mg "MAX_NODES" = some (.int 12 tM)) (Dis_node : Df P w K mg base 2 "is_node" ["value"] spNodeT) : FnOk P w K mg base CX0 3 f fd ["value"] spTreeT := by
  refine F.ok sc_is_tree (fun vs H Q E h => ?_) (fun cdv A outer s H vs Q E hr h => ?_)
  · obtain ⟨v, t, rfl, _⟩ := h
    rfl
  obtain ⟨v, t, rfl, ht, hn, hlt, hsz, q⟩ := h
  refine ⟨_, (pss_cons (ps_set (i := 1) sc_is_tree.nd rfl (.inl rfl) pe_int)
    (pss_cons (ps_set (i := 2) sc_is_tree.nd rfl (.inl rfl) (pe_lst (pa_cons (pv 0) pa_nil)))
    (pss_cons (ps_while PassesOwn.never (pt_truth (pv 2) (by intro _; rfl))
      (pss_cons (ps_set (i := 3) sc_is_tree.nd rfl (.inl rfl) (pe_bm0 PySem.F.plainAttrs_list PySem.F.slot_list_pop PySem.F.type_list_pop mt_pop (pv 2)))
    (pss_cons (ps_aug (i := 1) sc_is_tree.nd rfl (.inl rfl) pe_int ip_add)
    (pss_cons (ps_if (PW.pt (pw_or (pt_cmpR op_gt (pv 1) (pe_glob (v := .int _) rfl mMAX ⟨_, rfl⟩) (nomark _)) (pw_or1 (pt_not (pt_val (pe_call Dis_node.ok (hr.mono (by omega)) rfl Dis_node.g Dis_node.kp Dis_node.b .nil pass0 (pa_cons (pv 3) pa_nil)))))))
      (pss_one (ps_ret pe_bl)) pss_nil)
    (pss_one (ps_expr (pe_bm PySem.F.plainAttrs_list PySem.F.slot_list_extend PySem.F.type_list_extend mt_extend (pv 2) (pa_cons (pe_lc (own := [("side", 4)]) (g := gName 4) rfl sc_is_tree.nd (pi_tup (pe_tup (pa_cons (pe_ix ix_tup (pv 3) pe_int (fun _ _ => rfl)) (pa_cons (pe_ix ix_tup (pv 3) pe_int (fun _ _ => rfl)) pa_nil)))) (blkOk_by (N := ["value", "count", "waiting", "part", "side"]) (sc := defScope s_is_tree) (by decide +kernel)) (fun _ _ _ _ _ => (pg_name (i := 4) sc_is_tree.nd rfl (.inl rfl))) (fun _ _ _ _ _ => pts_one (pt_cmpR op_notN (pv 4) pe_non (nomark _))) (fun _ _ _ _ _ => (pv 4))) pa_nil))))))))
    (pss_one (ps_ret pe_bl))))), ?_⟩
  refine ⟨_, rfl, (by show 1 ≤ sizeLine; decide), fun wa nw => ?_⟩
  have q0 := same_new nw (.lst [v])
  refine while_by (c := fun σ H' Q' => tVar 2 σ H' fun x H2 => ∃ k, TruV K x H2 k ∧ Q' k H2) (fun σ H' => ∃ (c n : Nat) (y3 : Option V) (ws : List V), σ = [some v, some (.int (c : Int)), some (.ref wa), y3, none] ∧ Same H H' ∧ H' wa = some (.lst ws) ∧ FsAt H' ws n ∧ c + n ≤ 12)
    (fun σ _ => toGo σ)
    ?_ (fun σ H' hp => ?_) ?_
  · exact ⟨0, _, none, [v], rfl, q0, upd_same, .cons (ht.same q0) hn hlt .nil, by omega⟩
  · obtain ⟨c, n, y3, ws, rfl, sm, ew, fs, hc⟩ := hp
    refine ⟨_, rfl, !ws.isEmpty, .inl ⟨ws, SqL.of ew, rfl⟩, ?_⟩
    cases ws with
    | nil => exact iteF (q H' sm)
    | cons w0 ws0 =>
      refine iteT ?_
      obtain ⟨p, tp, n', ep, rfl, hp, hpn, hpl, fs'⟩ := fs.last (by simp)
      have hp1 := B.size_pos hpn
      refine ⟨.ref wa, rfl, .inl ⟨rfl, _, SqL.of ew⟩, wa, _, p, rfl, rfl, ew, ep, ?_⟩
      refine ⟨_, rfl, _, _, rfl, rfl, ?_⟩
      have sm2 : Same H (upd H' wa (.lst (w0 :: ws0).dropLast)) := fun b o z => by
        rw [upd_ne (ne_of_none z nw)]
        exact sm _ _ z
      have kt : KeepT H' (upd H' wa (.lst (w0 :: ws0).dropLast)) := fun b xs z => by
        rw [upd_ne (ne_of z ew (by intro z; cases z))]
        exact z
      have ew2 : (upd H' wa (.lst (w0 :: ws0).dropLast)) wa = some (.lst (w0 :: ws0).dropLast) := upd_same
      have hp2 := hp.keep kt
      have fs2 : FsAt (upd H' wa (.lst (w0 :: ws0).dropLast)) (w0 :: ws0).dropLast n' := fs'.keepT kt
      generalize upd H' wa (.lst (w0 :: ws0).dropLast) = H2 at sm2 ew2 hp2 fs2 ⊢
      have lw := fs2.len
      generalize (w0 :: ws0).dropLast = W at ew2 fs2 lw ⊢
      refine ⟨_, rfl, _, _, rfl, rfl, _, rfl, ?_⟩
      rw [decide_eq_false (show ¬ ((c : Int) + 1 > 12) by omega)]
      refine iteF ?_
      refine ⟨_, rfl, p, tp, rfl, hp2, hpn, hpl, _, rfl, iteF ?_⟩
      rcases hp2.inv with ⟨_, rfl⟩ | ⟨a, vl, vr, x, tl, tr, rfl, rfl, e3, aL, aR⟩
      · exact absurd rfl hpn
      obtain ⟨_, l1, l3⟩ := B.lts_node.mp hpl
      have hsp : (B.node tl x tr).size = tl.size + 1 + tr.size := rfl
      refine ⟨.ref wa, rfl, .inl ⟨rfl, _, SqL.of ew2⟩, _, rfl, a, _, 0, vl, rfl, rfl, SqT.of e3, atI_nat (j := 0) rfl, _, rfl, a, _, 2, vr, rfl, rfl, SqT.of e3, atI_nat (j := 2) rfl, (by show 2 ≤ sizeLine; decide), fun tp ntp => ?_⟩
      have q6 := same_new ntp (.tup [vl, vr])
      refine ⟨tp, rfl, ⟨_, SqT.of upd_same⟩, fun L nL => ?_⟩
      have q7 := same_new nL (.lst [])
      refine lc_tup (K := K) (a := tp) (xs := [vl, vr]) (fun j H'' => Same (upd H2 tp (.tup [vl, vr])) H'' ∧ H'' L = some (.lst ((([vl, vr] : List V).take j).flatMap keepV))) ⟨q7, upd_same⟩ (fun j H'' _ hp => SqT.of (hp.1 _ _ upd_same)) (fun j x H'' hx hp => ?_) (fun H'' hp => ?_)
      · obtain ⟨s7, eL⟩ := hp
        refine ⟨rfl, _, rfl, rfl, _, rfl, ?_⟩
        by_cases hxn : x = .non
        · refine iteNS hxn ⟨s7, ?_⟩
          rw [keep_step hx, hxn]
          show _ = some (HO.lst (_ ++ []))
          rw [List.append_nil]
          exact eL
        · rw [decide_eq_false hxn]
          refine iteT ⟨x, rfl, _, eL, ?_, fun b o z => ?_, ?_⟩
          · have := keep_len (([vl, vr] : List V).take j)
            have h2 : (([vl, vr] : List V).take j).length ≤ 2 := by rw [List.length_take]; exact Nat.min_le_right _ _
            exact small1000 (by omega)
          · rw [upd_ne (ne_of_none z nL)]
            exact s7 _ _ z
          · rw [upd_same, keep_step hx]
            cases x <;> first | rfl | exact absurd rfl hxn
      · obtain ⟨s7, eL⟩ := hp
        have s8 : Same H2 H'' := q6.trans s7
        have eL' : H'' L = some (.lst (keepV vl ++ keepV vr)) := by
          rw [eL]
          show some (HO.lst (keepV vl ++ (keepV vr ++ []))) = _
          rw [List.append_nil]
        have k1 : (keepV vl).length ≤ 1 := by cases vl <;> first | exact Nat.zero_le _ | exact Nat.le_refl _
        have k2 : (keepV vr).length ≤ 1 := by cases vr <;> first | exact Nat.zero_le _ | exact Nat.le_refl _
        refine ⟨wa, L, _, _, rfl, rfl, s8 _ _ ew2, eL', small (by rw [List.length_append]; omega), ?_⟩
        have kt2 : KeepT H'' (upd H'' wa (.lst (W ++ (keepV vl ++ keepV vr)))) := fun b xs z => by
          rw [upd_ne (ne_of z (s8 _ _ ew2) (by intro z; cases z))]
          exact z
        refine ⟨⟨c + 1, _, some (.ref a), _, rfl, fun b o z => ?_, upd_same, ((fs2.same s8).app ((FsAt.keep (aL.same s8) l1).app (FsAt.keep (aR.same s8) l3))).keepT kt2, by omega⟩, ?_⟩
        · rw [upd_ne (ne_of_none z nw)]
          exact s8 _ _ (sm2 _ _ z)
        · show (13 - ((c : Int) + 1)).toNat < (13 - (c : Int)).toNat
          omega
  · intro σ H' Q1 Q2 hQ h
    obtain ⟨v', e, k', t, q'⟩ := h
    exact ⟨v', e, k', t, hQ _ _ q'⟩
theorem ok_size (F : Fun K "size_of" "size_of" s_size_of f fd) (b : Binds K fd ["tree"] []) (g : mg "size_of" = some (.ref f)) : ∀ n : Nat, FnOk P w K mg base CX0 n f fd ["tree"] (spSz n)
  | 0 => by
    have no : ∀ vs H Q E, ¬ spSz 0 vs H Q E := fun vs H Q E h => by
      obtain ⟨v, t, _, _, h1, _⟩ := h
      omega
    exact ⟨fun vs H Q E h => absurd h (no vs H Q E), fun A outer s H args us vs Q E _ _ _ _ h => absurd h (no vs H Q E)⟩
  | n + 1 => by
    have Dself : Df P w K mg base n "size_of" ["tree"] (spSz n) := ⟨f, fd, ok_size F b g n, b, F.kp, g⟩
    refine F.ok sc_size_of (fun vs H Q E h => ?_) (fun cdv A outer s H vs Q E hr h => ?_)
    · obtain ⟨v, t, rfl, _⟩ := h
      rfl
    obtain ⟨v, t, rfl, hv, hn, q⟩ := h
    refine ⟨_, (pss_cons (ps_if (pt_cmpR op_isN (pv 0) pe_non (nomark _))
      (pss_one (ps_ret pe_int)) pss_nil)
    (pss_one (ps_ret (pe_op op_add (pe_op op_add (pe_call Dself.ok (hr.mono (by omega)) rfl Dself.g Dself.kp Dself.b .nil pass0 (pa_cons (pe_ix ix_tup (pv 0) pe_int (fun _ _ => rfl)) pa_nil)) pe_int) (pe_call Dself.ok (hr.mono (by omega)) rfl Dself.g Dself.kp Dself.b .nil pass0 (pa_cons (pe_ix ix_tup (pv 0) pe_int (fun _ _ => rfl)) pa_nil)))))), ?_⟩
    rcases hv.inv with ⟨rfl, rfl⟩ | ⟨a, l, r, x, tl, tr, rfl, rfl, ea, hl, hr'⟩
    · exact ⟨_, rfl, rfl, _, rfl, iteT q⟩
    · refine ⟨_, rfl, rfl, _, rfl, iteF ?_⟩
      have hz : tl.size + 1 + tr.size < n + 1 := hn
      refine ⟨_, rfl, a, _, 0, l, rfl, rfl, SqT.of ea, atI_nat (j := 0) rfl, l, tl, rfl, hl, by omega, _, _, rfl, rfl, _, rfl, a, _, 2, r, rfl, rfl, SqT.of ea, atI_nat (j := 2) rfl, r, tr, rfl, hr', by omega, _, _, rfl, rfl, ?_⟩
      have e : (tl.size : Int) + 1 + (tr.size : Int) = ((tl.size + 1 + tr.size : Nat) : Int) := by omega
      show Q (.int ((tl.size : Int) + 1 + (tr.size : Int))) H
      rw [e]
      exact q
end
/-! ### paths and parts -/
def dir : Bool → Nat
  | false => 108
  | true => 114
def px (p : List Bool) : Str := tx (p.map dir)
theorem dir_inj {a b : Bool} (h : dir a = dir b) : a = b := by cases a <;> cases b <;> first | rfl | cases h
theorem dirs_inj {p q : List Bool} (h : p.map dir = q.map dir) : p = q := by
  induction p generalizing q with
  | nil => cases q with
    | nil => rfl
    | cons b q => cases h
  | cons a p ih => cases q with
    | nil => cases h
    | cons b q =>
      rw [List.map_cons, List.map_cons] at h
      injection h with h1 h2
      rw [dir_inj h1, ih h2]
theorem px_inj {p q : List Bool} (h : px p = px q) : p = q := dirs_inj (tx_inj h)
theorem px_nil : px [] = Str.ofString "" := str_0.symm
theorem px_len (p : List Bool) : (px p).length = p.length := by
  show (p.map dir).length = _
  rw [List.length_map]
theorem px_drop (p : List Bool) : cutS (px p) (some 1) none = px (p.drop 1) := by
  have h := tx_from (p.map dir) 1
  rw [← List.map_drop] at h
  exact h
def B.at : B → List Bool → Option B
  | t, [] => some t
  | .nil, _ :: _ => none
  | .node l _ _, false :: p => l.at p
  | .node _ _ r, true :: p => r.at p
def B.put : B → List Bool → B → B
  | _, [], u => u
  | .nil, _ :: _, _ => .nil
  | .node l x r, false :: p, u => .node (l.put p u) x r
  | .node l x r, true :: p, u => .node l x (r.put p u)
def B.mir : B → B
  | .nil => .nil
  | .node l x r => .node r.mir x l.mir
theorem B.mir_size : ∀ t : B, t.mir.size = t.size
  | .nil => rfl
  | .node l x r => by
    have h1 := l.mir_size
    have h2 := r.mir_size
    show r.mir.size + 1 + l.mir.size = l.size + 1 + r.size
    omega
theorem B.at_size : ∀ (t : B) (p : List Bool) {o : B}, t.at p = some o → o.size + p.length ≤ t.size
  | t, [], o, h => by cases t <;> (cases h; exact Nat.le_refl _)
  | .nil, _ :: _, _, h => by cases h
  | .node l x r, false :: p, o, h => by
    have := l.at_size p (show l.at p = some o from h)
    show o.size + (p.length + 1) ≤ l.size + 1 + r.size
    omega
  | .node l x r, true :: p, o, h => by
    have := r.at_size p (show r.at p = some o from h)
    show o.size + (p.length + 1) ≤ l.size + 1 + r.size
    omega
theorem B.put_size : ∀ (t : B) (p : List Bool) (u : B) {o : B}, t.at p = some o → (t.put p u).size + o.size = t.size + u.size
  | t, [], u, o, h => by cases t <;> (cases h; exact Nat.add_comm _ _)
  | .nil, _ :: _, _, _, h => by cases h
  | .node l x r, false :: p, u, o, h => by
    have := l.put_size p u (show l.at p = some o from h)
    show (l.put p u).size + 1 + r.size + o.size = l.size + 1 + r.size + u.size
    omega
  | .node l x r, true :: p, u, o, h => by
    have := r.put_size p u (show r.at p = some o from h)
    show l.size + 1 + (r.put p u).size + o.size = l.size + 1 + r.size + u.size
    omega
theorem B.mir_lts : ∀ t : B, t.lts → t.mir.lts
  | .nil, h => h
  | .node l x r, h => by
    obtain ⟨h1, h2, h3⟩ := B.lts_node.mp h
    exact B.lts_node.mpr ⟨h1, r.mir_lts h3, l.mir_lts h2⟩
theorem B.at_lts : ∀ (t : B) (p : List Bool) {o : B}, t.at p = some o → t.lts → o.lts
  | t, [], o, h, k => by cases t <;> (cases h; exact k)
  | .nil, _ :: _, _, h, _ => by cases h
  | .node l x r, false :: p, o, h, k => l.at_lts p (show l.at p = some o from h) (B.lts_node.mp k).2.1
  | .node l x r, true :: p, o, h, k => r.at_lts p (show r.at p = some o from h) (B.lts_node.mp k).2.2
theorem B.put_lts : ∀ (t : B) (p : List Bool) {u : B}, t.lts → u.lts → (t.put p u).lts
  | t, [], u, _, k => by cases t <;> exact k
  | .nil, _ :: _, _, _, _ => B.lts_nil
  | .node l x r, false :: p, u, h, k => by
    obtain ⟨h1, h2, h3⟩ := B.lts_node.mp h
    exact B.lts_node.mpr ⟨h1, l.put_lts p h2 k, h3⟩
  | .node l x r, true :: p, u, h, k => by
    obtain ⟨h1, h2, h3⟩ := B.lts_node.mp h
    exact B.lts_node.mpr ⟨h1, h2, r.put_lts p h3 k⟩
def spPart : Sp := fun vs H Q _ => ∃ (v : V) (t u : B) (p : List Bool), vs = [v, .str (px p)] ∧ BAt H v t ∧ t.at p = some u ∧ p.length ≤ 100 ∧ ∀ (v' : V) (H' : Hp), Same H H' → BAt H' v' u → Q v' H'
def spWith (n : Nat) : Sp := fun vs H Q _ => ∃ (v vp : V) (t u : B) (p : List Bool), vs = [v, .str (px p), vp] ∧ BAt H v t ∧ BAt H vp u ∧ p.length < n ∧ p.length ≤ 100 ∧ (t.at p).isSome = true ∧ ∀ (v' : V) (H' : Hp), Same H H' → BAt H' v' (t.put p u) → Q v' H'
def spRepl : Sp := fun vs H Q _ => ∃ (v vp : V) (t u o : B) (p : List Bool), vs = [v, .str (px p), vp] ∧ BAt H v t ∧ BAt H vp u ∧ t.at p = some o ∧ t.size ≤ 12 ∧ (t.put p u).size ≤ 12 ∧ ∀ (v' : V) (H' : Hp), Same H H' → BAt H' v' (t.put p u) → Q v' H'
def spMir (n : Nat) : Sp := fun vs H Q _ => ∃ (v : V) (t : B), vs = [v] ∧ BAt H v t ∧ t.size < n ∧ ∀ (v' : V) (H' : Hp), Same H H' → BAt H' v' t.mir → Q v' H'
theorem dir_str (b : Bool) : decide (V.str (ch (dir b)) = V.str (Str.ofString "l")) = !b := by
  rw [str_l]
  cases b
  · exact decide_eq_true rfl
  · exact decide_eq_false fun z => absurd (tx_inj (V.str.inj z)) (by simp [dir])
theorem dir_in (b : Bool) : inV (.str (ch (dir b))) [.str (Str.ofString "l"), .str (Str.ofString "r")] = true := by
  rw [str_l, str_r]
  cases b <;> rfl
section
variable {P : Program} {w : World} {K : PySem.W.Frag} {mg : Str → Option Value} {base : Heap} {f : Addr} {fd : FuncData}
theorem ok_part {k : Nat} (F : Fun K "part_at" "part_at" s_part_at f fd) (M : Mgs mg) : FnOk P w K mg base CX0 (k + 1) f fd ["tree", "path"] spPart := by
  refine F.ok sc_part_at (fun vs H Q E h => ?_) (fun cdv A outer s H vs Q E hr h => ?_)
  · obtain ⟨v, t, u, p, rfl, _⟩ := h
    rfl
  obtain ⟨v, t, u, p, rfl, ht, hu, hp, q⟩ := h
  refine ⟨_, (pss_cons (ps_if (pt_not (pt_val (pe_callB call_isi rfl M.isinstance (by decide +kernel) (pa_cons (pv 1) (pa_cons (pe_bltn (v := .ty "str") rfl M.str (by decide +kernel) rfl) pa_nil)))))
      (pss_one ps_never) pss_nil)
    (pss_cons (ps_set (i := 2) sc_part_at.nd rfl (.inl rfl) (pv 0))
    (pss_cons (ps_for PassesOwn.never rfl (pi_str (pv 1)) (pg_name (i := 3) sc_part_at.nd rfl (.inl rfl))
      (pss_cons (ps_if (PW.pt (pw_or (pt_cmpR op_isN (pv 2) pe_non (nomark _)) (pw_or1 (pt_cmpR op_notIn_seq (pv 3) (pe_tup (pa_cons pe_str (pa_cons pe_str pa_nil))) (by rfl)))))
      (pss_one ps_never) pss_nil)
    (pss_one (ps_set (i := 2) sc_part_at.nd rfl (.inl rfl) (pe_ifExp (pt_cmpR op_eq (pv 3) pe_str (nomark _)) (pe_ix ix_tup (pv 2) pe_int (fun _ _ => rfl)) (pe_ix ix_tup (pv 2) pe_int (fun _ _ => rfl)))))))
    (pss_one (ps_ret (pv 2)))))), ?_⟩
  refine ⟨_, rfl, _, _, _, _, true, rfl, .ty _, .base (.str (px p)), kit_ty (by decide +kernel), _, rfl, iteF ?_⟩
  refine ⟨_, rfl, ?_⟩
  refine ⟨_, rfl, px p, rfl, ?_⟩
  refine for_text (x := px p) (fun i σ H' => ∃ (vi : V) (ti : B) (y3 : Option V), σ = [some v, some (.str (px p)), some vi, y3] ∧ Same H H' ∧ BAt H' vi ti ∧ ti.at (p.drop i) = some u) ⟨v, t, none, rfl, Same.refl _, ht, hu⟩ (fun i c σ H1 hc hq => ?_) (fun σ H1 hq => ?_)
  · obtain ⟨vi, ti, y3, rfl, s1, hi, ei⟩ := hq
    have hc' : (p.map dir)[i]? = some c := hc
    obtain ⟨b, hb, rfl⟩ : ∃ b, p[i]? = some b ∧ dir b = c := by
      rw [List.getElem?_map] at hc'
      cases e : p[i]? with
      | none => rw [e] at hc'; cases hc'
      | some b => rw [e] at hc'; exact ⟨b, rfl, Option.some.inj hc'⟩
    have hdr : p.drop i = b :: p.drop (i + 1) := by
      obtain ⟨h1, h2⟩ := List.getElem?_eq_some_iff.mp hb
      rw [List.drop_eq_getElem_cons h1, h2]
    rw [hdr] at ei
    rcases hi.inv with ⟨rfl, rfl⟩ | ⟨a, vl, vr, x, tl, tr, rfl, rfl, ea, hl, hr'⟩
    · cases ei
    refine ⟨_, rfl, rfl, _, rfl, iteF ?_⟩
    refine ⟨_, rfl, (by show 2 ≤ sizeLine; decide), fun tp ntp => ?_⟩
    have k2 := same_new ntp (.tup [.str "l", .str "r"])
    refine ⟨tp, _, rfl, .inr (SqT.of upd_same), rfl, (by decide +kernel), _, rfl, ?_⟩
    have hin : (!inV (V.str (ch (dir b))) [V.str "l", V.str "r"]) = false := by rw [dir_in]; rfl
    rw [hin]
    refine iteF ?_
    have s12 := s1.trans k2
    refine ⟨_, rfl, rfl, _, rfl, ?_⟩
    rw [dir_str]
    cases b with
    | false =>
      refine iteT ⟨_, rfl, a, _, 0, vl, rfl, rfl, SqT.of (k2 _ _ ea), atI_nat (j := 0) rfl, ?_⟩
      exact ⟨vl, tl, _, rfl, s12, hl.same k2, ei⟩
    | true =>
      refine iteF ⟨_, rfl, a, _, 2, vr, rfl, rfl, SqT.of (k2 _ _ ea), atI_nat (j := 2) rfl, ?_⟩
      exact ⟨vr, tr, _, rfl, s12, hr'.same k2, ei⟩
  · obtain ⟨vi, ti, y3, rfl, s1, hi, ei⟩ := hq
    rw [List.drop_eq_nil_of_le (by rw [show (px p).cps.toList = p.map dir from rfl, List.length_map]; exact Nat.le_refl _)] at ei
    have : ti = u := by cases ti <;> (cases ei; rfl)
    subst this
    exact ⟨_, rfl, q vi H1 s1 hi⟩
theorem ok_with (F : Fun K "with_part" "with_part" s_with_part f fd) (b : Binds K fd ["tree", "path", "part"] []) (g : mg "with_part" = some (.ref f)) : ∀ n : Nat, FnOk P w K mg base CX0 n f fd ["tree", "path", "part"] (spWith n)
  | 0 => by
    have no : ∀ vs H Q E, ¬ spWith 0 vs H Q E := fun vs H Q E h => by
      obtain ⟨v, vp, t, u, p, _, _, _, h1, _⟩ := h
      exact absurd h1 (Nat.not_lt_zero _)
    exact ⟨fun vs H Q E h => absurd h (no vs H Q E), fun A outer s H args us vs Q E _ _ _ _ h => absurd h (no vs H Q E)⟩
  | n + 1 => by
    have Dself : Df P w K mg base n "with_part" ["tree", "path", "part"] (spWith n) := ⟨f, fd, ok_with F b g n, b, F.kp, g⟩
    refine F.ok sc_with_part (fun vs H Q E h => ?_) (fun cdv A outer s H vs Q E hr h => ?_)
    · obtain ⟨v, vp, t, u, p, rfl, _⟩ := h
      rfl
    obtain ⟨v, vp, t, u, p, rfl, ht, hu, hn, hp, hs, q⟩ := h
    refine ⟨_, (pss_cons (ps_if (pt_cmpR op_eq (pv 1) pe_str (nomark _))
      (pss_one (ps_ret (pv 2))) pss_nil)
    (pss_cons (ps_asg (pv 0) (pg_tup rfl (pgs_cons (pg_name (i := 3) sc_with_part.nd rfl (.inl rfl)) (pgs_cons (pg_name (i := 4) sc_with_part.nd rfl (.inl rfl)) (pgs_cons (pg_name (i := 5) sc_with_part.nd rfl (.inl rfl)) pgs_nil)))))
    (pss_cons (ps_if (pt_cmpR op_eq (pe_ix ix_str (pv 1) pe_int (fun _ _ => rfl)) pe_str (nomark _))
      (pss_one (ps_ret (pe_tup (pa_cons (pe_call Dself.ok (hr.mono (by omega)) rfl Dself.g Dself.kp Dself.b .nil pass0 (pa_cons (pv 3) (pa_cons (pe_slice sl_str (pv 1) (po_some pe_int) po_none) (pa_cons (pv 2) pa_nil)))) (pa_cons (pv 4) (pa_cons (pv 5) pa_nil)))))) pss_nil)
    (pss_one (ps_ret (pe_tup (pa_cons (pv 3) (pa_cons (pv 4) (pa_cons (pe_call Dself.ok (hr.mono (by omega)) rfl Dself.g Dself.kp Dself.b .nil pass0 (pa_cons (pv 5) (pa_cons (pe_slice sl_str (pv 1) (po_some pe_int) po_none) (pa_cons (pv 2) pa_nil)))) pa_nil))))))))), ?_⟩
    have lp : (px p).length ≤ sizeLine := small (by rw [px_len]; omega)
    refine ⟨_, rfl, rfl, _, rfl, ?_⟩
    cases p with
    | nil =>
      refine iteS px_nil ⟨_, rfl, ?_⟩
      have e : t.put [] u = u := by cases t <;> rfl
      rw [e] at q
      exact q vp H (Same.refl H) hu
    | cons d p =>
      refine iteR (fun z => by rw [← px_nil] at z; cases px_inj z) ?_
      rcases ht.inv with ⟨rfl, rfl⟩ | ⟨a, vl, vr, x, tl, tr, rfl, rfl, ea, hl, hr'⟩
      · cases hs
      refine ⟨_, rfl, a, _, rfl, SqT.of ea, rfl, vl, _, rfl, .str (ch x), _, rfl, vr, _, rfl, rfl, ?_⟩
      have hp' : p.length + 1 < n + 1 := hn
      have hp2 : p.length + 1 ≤ 100 := hp
      refine ⟨_, rfl, _, _, _, rfl, rfl, lp, atI_nat (j := 0) rfl, rfl, _, rfl, ?_⟩
      have e0 : decide (V.str (ch (dir d)) = V.str (Str.ofString "l")) = !d := dir_str d
      have ed : cutS (px (d :: p)) (some 1) none = px p := px_drop _
      cases d with
      | false =>
        refine iteS str_l.symm ⟨_, rfl, _, rfl, _, rfl, _, rfl, lp, _, rfl, vl, vp, tl, u, p, by rw [ed]; rfl, hl, hu, by omega, by omega, hs, fun v' H1 s1 h1 => ?_⟩
        refine ⟨_, rfl, _, rfl, (by show 3 ≤ sizeLine; decide), fun r nr => ?_⟩
        have k2 := same_new nr (.tup [v', .str (ch x), vr])
        exact q _ _ (s1.trans k2) (.node upd_same (h1.same k2) (hr'.same (s1.trans k2)))
      | true =>
        refine iteR (fun z => by rw [str_l] at z; have := tx_inj z; cases this) ⟨_, rfl, _, rfl, _, rfl, _, rfl, _, rfl, _, rfl, lp, _, rfl, vr, vp, tr, u, p, by rw [ed]; rfl, hr', hu, by omega, by omega, hs, fun v' H1 s1 h1 => ?_⟩
        refine ⟨(by show 3 ≤ sizeLine; decide), fun r nr => ?_⟩
        have k2 := same_new nr (.tup [vl, .str (ch x), v'])
        exact q _ _ (s1.trans k2) (.node upd_same (hl.same (s1.trans k2)) (h1.same k2))
theorem ok_repl {tM : Tok} (F : Fun K "replaced" "replaced" s_replaced f fd) (mMAX : mg "MAX_NODES" = some (.int 12 tM)) (Dpart_at : Df P w K mg base 1 "part_at" ["tree", "path"] spPart) (Dsize_of : Df P w K mg base 20 "size_of" ["tree"] (spSz 20)) (Dwith_part : Df P w K mg base 20 "with_part" ["tree", "path", "part"] (spWith 20)) :
    FnOk P w K mg base CX0 21 f fd ["tree", "path", "part"] spRepl := by
  refine F.ok sc_replaced (fun vs H Q E h => ?_) (fun cdv A outer s H vs Q E hr h => ?_)
  · obtain ⟨v, vp, t, u, o, p, rfl, _⟩ := h
    rfl
  obtain ⟨v, vp, t, u, o, p, rfl, ht, hu, ho, h12, h12', q⟩ := h
  refine ⟨_, (pss_cons (ps_set (i := 3) sc_replaced.nd rfl (.inl rfl) (pe_call Dpart_at.ok (hr.mono (by omega)) rfl Dpart_at.g Dpart_at.kp Dpart_at.b .nil pass0 (pa_cons (pv 0) (pa_cons (pv 1) pa_nil))))
    (pss_cons (ps_if (pt_cmpR op_gt (pe_op op_add (pe_op op_sub (pe_call Dsize_of.ok (hr.mono (by omega)) rfl Dsize_of.g Dsize_of.kp Dsize_of.b .nil pass0 (pa_cons (pv 0) pa_nil)) (pe_call Dsize_of.ok (hr.mono (by omega)) rfl Dsize_of.g Dsize_of.kp Dsize_of.b .nil pass0 (pa_cons (pv 3) pa_nil))) (pe_call Dsize_of.ok (hr.mono (by omega)) rfl Dsize_of.g Dsize_of.kp Dsize_of.b .nil pass0 (pa_cons (pv 2) pa_nil))) (pe_glob (v := .int _) rfl mMAX ⟨_, rfl⟩) (nomark _))
      (pss_one ps_never) pss_nil)
    (pss_one (ps_ret (pe_call Dwith_part.ok (hr.mono (by omega)) rfl Dwith_part.g Dwith_part.kp Dwith_part.b .nil pass0 (pa_cons (pv 0) (pa_cons (pv 1) (pa_cons (pv 2) pa_nil)))))))), ?_⟩
  have z1 := t.at_size p ho
  have z2 := t.put_size p u ho
  refine ⟨_, rfl, _, rfl, v, t, o, p, rfl, ht, ho, by omega, fun vo H1 s1 ho1 => ?_⟩
  have ht1 := ht.same s1
  have hu1 := hu.same s1
  refine ⟨_, rfl, v, t, rfl, ht1, by omega, _, rfl, vo, o, rfl, ho1, by omega, _, _, rfl, rfl, _, rfl, vp, u, rfl, hu1, by omega, _, _, rfl, rfl, _, _, rfl, rfl, _, rfl, ?_⟩
  rw [decide_eq_false (show ¬ ((t.size : Int) - (o.size : Int) + (u.size : Int) > 12) by omega)]
  refine iteF ?_
  refine ⟨_, rfl, _, rfl, _, rfl, v, vp, t, u, p, rfl, ht1, hu1, by omega, by omega, by rw [ho]; rfl, fun v' H2 s2 h2 => q v' H2 (s1.trans s2) h2⟩
theorem ok_mir (F : Fun K "mirrored" "mirrored" s_mirrored f fd) (b : Binds K fd ["tree"] []) (g : mg "mirrored" = some (.ref f)) : ∀ n : Nat, FnOk P w K mg base CX0 n f fd ["tree"] (spMir n)
  | 0 => by
    have no : ∀ vs H Q E, ¬ spMir 0 vs H Q E := fun vs H Q E h => by
      obtain ⟨v, t, _, _, h1, _⟩ := h
      exact absurd h1 (Nat.not_lt_zero _)
    exact ⟨fun vs H Q E h => absurd h (no vs H Q E), fun A outer s H args us vs Q E _ _ _ _ h => absurd h (no vs H Q E)⟩
  | n + 1 => by
    have Dself : Df P w K mg base n "mirrored" ["tree"] (spMir n) := ⟨f, fd, ok_mir F b g n, b, F.kp, g⟩
    refine F.ok sc_mirrored (fun vs H Q E h => ?_) (fun cdv A outer s H vs Q E hr h => ?_)
    · obtain ⟨v, t, rfl, _⟩ := h
      rfl
    obtain ⟨v, t, rfl, ht, hn, q⟩ := h
    refine ⟨_, (pss_cons (ps_if (pt_cmpR op_isN (pv 0) pe_non (nomark _))
      (pss_one (ps_ret pe_non)) pss_nil)
    (pss_cons (ps_asg (pv 0) (pg_tup rfl (pgs_cons (pg_name (i := 1) sc_mirrored.nd rfl (.inl rfl)) (pgs_cons (pg_name (i := 2) sc_mirrored.nd rfl (.inl rfl)) (pgs_cons (pg_name (i := 3) sc_mirrored.nd rfl (.inl rfl)) pgs_nil)))))
    (pss_one (ps_ret (pe_tup (pa_cons (pe_call Dself.ok (hr.mono (by omega)) rfl Dself.g Dself.kp Dself.b .nil pass0 (pa_cons (pv 3) pa_nil)) (pa_cons (pv 2) (pa_cons (pe_call Dself.ok (hr.mono (by omega)) rfl Dself.g Dself.kp Dself.b .nil pass0 (pa_cons (pv 1) pa_nil)) pa_nil)))))))), ?_⟩
    rcases ht.inv with ⟨rfl, rfl⟩ | ⟨a, vl, vr, x, tl, tr, rfl, rfl, ea, hl, hr'⟩
    · exact ⟨_, rfl, rfl, _, rfl, iteT (q _ _ (Same.refl H) .nil)⟩
    have hz : tl.size + 1 + tr.size < n + 1 := hn
    refine ⟨_, rfl, rfl, _, rfl, iteF ?_⟩
    refine ⟨_, rfl, a, _, rfl, SqT.of ea, rfl, vl, _, rfl, .str (ch x), _, rfl, vr, _, rfl, rfl, ?_⟩
    refine ⟨_, rfl, vr, tr, rfl, hr', by omega, fun v1 H1 s1 h1 => ?_⟩
    refine ⟨_, rfl, _, rfl, vl, tl, rfl, hl.same s1, by omega, fun v2 H2 s2 h2 => ?_⟩
    refine ⟨(by show 3 ≤ sizeLine; decide), fun r nr => ?_⟩
    have k2 := same_new nr (.tup [v1, .str (ch x), v2])
    exact q _ _ (s1.trans (s2.trans k2)) (.node upd_same (h1.same (s2.trans k2)) (h2.same k2))
end
/-! ### first, *rest = a tuple -/
section
open PySem.W
theorem unpack_head {prog : Program} {w : World} {A : Around} {E : Value → Shared → Prop} {s : Shared} {l : Addr} {u : Value} {us : List Value} {Q : List Value → Shared → Prop} (hl : IsTup s.heap l (u :: us).toArray) (hh : A.handled = none) (hz : us.length ≤ 1000)
    (h : ∀ (h' : Heap) (tk : Tok), (∀ b o, s.heap.get? b = some o → h'.get? b = some o) → Q [u, .ref h'.objs.size] { s with heap := h'.push { cls := .type "list", data := .seq us.toArray }, toks := tk }) : wpAny (model prog w) A (unpackItems (.ref l) 2 (some 1)) Q E s := by
  have hlt : l ≠ s.heap.objs.size := by obtain ⟨o, ho, _⟩ := hl; exact Nat.ne_of_lt (Heap.lt_size ho)
  have sz : (u :: us).toArray.size = us.length + 1 := by simp
  unfold unpackItems
  refine wpAny_bind ?_
  unfold notIterableAtAll
  refine wpAny_bind (wpAny_specialOf hl.typeIs slot_tuple_iter.lookup ?_)
  refine wpAny_pure ?_
  simp only [Bool.false_eq_true, if_false]
  refine wpAny_bind (wpAny_holding (iter_tuple hl ?_))
  refine wpAny_bind (wpAny_holding (draw_tuple hlt 1 0 _ _ ⟨_, Heap.get?_push_size _ rfl, rfl, rfl⟩ (hl.push _) (by omega) fun h₁ it₁ b₁ => ?_))
  have hl₁ : IsTup h₁ l (u :: us).toArray := (hl.push _).extBut b₁.extBut hlt
  have it₁' := it₁
  obtain ⟨oi, hoi, _⟩ := it₁'
  have hl₁' := hl₁
  obtain ⟨ol, hol, _⟩ := hl₁'
  show wpAny _ _ (if ([u] : List Value).length < 1 then _ else _) _ _ _
  rw [if_neg (by show ¬ 1 < 1; omega)]
  refine wpAny_bind (wpAny_holding (kun_collect (s := { s with heap := h₁ }) (T := "tuple_iterator") (.inr (.inr (.inr rfl))) (Walks.tuple (A := A.in1) hh s.heap.objs.size l hlt (u :: us).toArray) (fun j u st => st.1.typeIs) (k := 1) (by omega) ⟨it₁, hl₁⟩ (Heap.lt_size hoi) (Heap.lt_size hol) (fun h₂ tk hk => ?_) (by rw [sz, sizeLine_eq]; omega)))
  show wpAny _ _ (if (us : List Value).length < 2 - 1 - 1 then _ else _) _ _ _
  rw [if_neg (by omega)]
  show wpAny _ _ (newList (us.take (us.length - 0)) >>= fun d => pure ([u] ++ [d] ++ us.drop (us.length - 0))) _ _ _
  rw [Nat.sub_zero, List.take_length, List.drop_length]
  refine wpAny_bind (wpAny_newList ?_ (by rw [sizeLine_eq]; omega))
  refine wpAny_pure ?_
  exact h h₂ tk fun b o e => hk b o (Nat.ne_of_lt (Heap.lt_size e)) (b₁.extBut b o (Nat.ne_of_lt (Heap.lt_size e)) (Heap.get?_push_of_some _ e))
end
def gHead (K : PySem.W.Frag) (t1 t2 : TG) : TG := fun v σ H Q => ∃ a x xs, v = .ref a ∧ SqT K H a (x :: xs) ∧ xs.length ≤ 1000 ∧ ∀ D, H D = none → t1 x σ (upd H D (.lst xs)) fun σ1 H1 => t2 (.ref D) σ1 H1 Q
theorem pg_head {X : Cx} {pos sp_ : Pos} {e1 e2 : Expr} {k : Nat} {t1 t2 : TG} (hc : X.calm = true) (h1 : PG X e1 t1) (h2 : PG X e2 t2)
    (hn : (assignEach [e1, .Starred e2 sp_] X.env).length = 2 := by rfl) (hst : (assignEach [e1, .Starred e2 sp_] X.env).findIdx? (·.1) = some 1 := by rfl)
    (hm : (assignEach [e1, .Starred e2 sp_] X.env).map (·.2) = [assign e1 X.env, assign e2 X.env] := by rfl) : PG X (.Tuple [e1, .Starred e2 sp_] k pos) (gHead X.K t1 t2) := by
  refine ⟨fun pins s σ H v u Q I r hw => ?_⟩
  obtain ⟨a, x, xs, e, hq, hz, hw⟩ := hw
  subst e
  cases r
  obtain ⟨its, rv, ht, _⟩ := I.tuple hq
  cases rv with
  | cons r1 rr =>
    rename_i y ys
    rw [PyProof.Rows.assign_Tuple]
    refine wpAny_bind (wpAny_standAt ?_)
    unfold unpack
    rw [hn, hst]
    refine wpAny_bind (wpAny_holding (unpack_head ht (I.ok.hd hc) (by rw [← rr.length]; exact hz) fun h' tk hk => ?_))
    have I1 : Inv X pins σ H { s with heap := h', toks := tk } := I.kept hk
    have I2 : Inv X pins σ (upd H h'.objs.size (.lst xs)) { s with heap := h'.push { cls := .type "list", data := .seq ys.toArray }, toks := tk } :=
      I1.laid (fun b o e => Heap.get?_push_of_some _ e) (Nat.le_refl _) ⟨small hz, ys, 0, rr, Heap.get?_push_size _ rfl⟩
    rw [hm]
    refine assignInOrder_cons (thn (h1.run pins _ σ _ x y _ I2 r1 (hw _ (I1.hok.fresh (Nat.le_refl _)))) fun _ s1 ⟨σ1, H1, I3, q1⟩ => ?_)
    refine assignInOrder_cons (thn (h2.run pins s1 σ1 H1 (.ref h'.objs.size) _ _ I3 rfl q1) fun _ s2 ⟨σ2, H2, I4, q2⟩ => ?_)
    exact assignInOrder_nil ⟨σ2, H2, I4, q2⟩
/-! ### a call with a star of a def that a name holds -/
structure HeldR (P : Program) (w : World) (K : PySem.W.Frag) (mg : Str → Option Value) (base : Heap) (k : Nat) (f : Addr) (sp : Sp) : Prop where
  ok : FnR P w K mg base CX0 k f sp
  kp : PySem.W.keepIn K (.ref f) = true
def tCallAS (i : Nat) (S : Addr → Sp → Prop) (t : TA) : TE := fun σ H Q => ∃ f sp, σ[i]? = some (some (.ref f)) ∧ S f sp ∧ t σ H fun vs H1 => sp vs H1 Q E0
theorem pe_callAS {X : Cx} {k i : Nat} {S : Addr → Sp → Prop} {x : Str} {p pos : Pos} {e : Expr} {es : List Expr} {t : TA} (A : ∀ f sp, S f sp → HeldR X.prog X.w X.K X.mg X.base k f sp) (hr : Room k X.A) (hN : X.N[i]? = some x) (hv : Vis X.env.scope x) (ha : PA X (e :: es) t)
    (hdb : (x == ("__debug__" : Str)) = false := by decide) (hcd : (x == ("__classdict__" : Str)) = false := by decide)
    (he : starEach (e :: es) X.env = (false, eval e X.env) :: starEach es X.env := by rfl) (hst : (backTo pos (starEach es X.env)).any (·.1) = true := by rfl) : PE X (.Call (.Name x p) (e :: es) [] pos) (tCallAS i S t) := by
  refine ⟨fun pins s σ H Q I h => ?_⟩
  obtain ⟨f, sp, hs, hS, ht⟩ := h
  obtain ⟨F, hk⟩ := A f sp hS
  refine wpAny_Call_Name_kw (thn ((pe_var (pos := p) hN hv hdb hcd).run pins s σ H (fun v H1 => v = .ref f ∧ H1 = H) I ⟨.ref f, hs, rfl, rfl⟩) fun u s1 ⟨v, H1, I1, r1, q1⟩ => ?_)
  obtain ⟨rfl, rfl⟩ := q1
  cases r1
  refine PySem.W.callWith_S2 (h₀ := X.base) I.ok.mod.kin hk (thn (ha.run pos pins s1 σ _ _ I1 ht) fun us s2 ⟨vs, H2, I2, r, q⟩ => ⟨I2.kIn, ?_⟩) he hst
  exact wpAny_call (run_fnR F hr pass0 I2 r q)
/-! ### the edits of a tree -/
/-- an edit that can be done -/
inductive Ed where
  | put (p : List Bool) (c : Nat)
  | cut (p : List Bool)
  | label (p : List Bool) (c : Nat)
  | turn (p : List Bool)
def Ed.word : Ed → Str
  | .put _ _ => "put"
  | .cut _ => "cut"
  | .label _ _ => "label"
  | .turn _ => "turn"
def Ed.args : Ed → List V
  | .put p c => [.str (px p), .str (ch c)]
  | .cut p => [.str (px p)]
  | .label p c => [.str (px p), .str (ch c)]
  | .turn p => [.str (px p)]
def Ed.vals (e : Ed) : List V := .str e.word :: e.args
/-- it can be done, and this becomes of the tree -/
inductive Does : B → Ed → B → Prop
  | put {t : B} {p : List Bool} {c : Nat} : t.at p = some .nil → isLow c = true → t.size ≤ 11 → Does t (.put p c) (t.put p (.node .nil c .nil))
  | cut {t u : B} {p : List Bool} : t.at p = some u → u ≠ .nil → p ≠ [] → Does t (.cut p) (t.put p .nil)
  | label {t l r : B} {p : List Bool} {y c : Nat} : t.at p = some (.node l y r) → isLow c = true → Does t (.label p c) (t.put p (.node l c r))
  | turn {t u : B} {p : List Bool} : t.at p = some u → u ≠ .nil → Does t (.turn p) (t.put p u.mir)
theorem nd_nil {t : B} : t ≠ .nil ↔ 1 ≤ t.size := by
  cases t with
  | nil => exact ⟨fun h => absurd rfl h, fun h => absurd h (by decide)⟩
  | node l x r => exact ⟨fun _ => by show 1 ≤ l.size + 1 + r.size; omega, fun _ z => nomatch z⟩
theorem put_ne {t : B} {p : List Bool} {u : B} (h : p ≠ []) (ht : (t.at p).isSome = true) : t.put p u ≠ .nil := by
  cases p with
  | nil => exact absurd rfl h
  | cons b p => cases t with
    | nil => cases ht
    | node l x r => cases b <;> exact fun z => nomatch z
theorem Does.good {t t' : B} {e : Ed} (d : Does t e t') (h1 : t.lts) (h2 : t.size ≤ 12) (h3 : t ≠ .nil) : t'.lts ∧ t'.size ≤ 12 ∧ t' ≠ .nil := by
  cases d with
  | @put p c ho hc hz =>
    have := t.put_size p (.node .nil c .nil) ho
    have e1 : (B.node .nil c .nil).size = 1 := rfl
    have e2 : B.nil.size = 0 := rfl
    exact ⟨B.put_lts _ _ h1 (B.lts_node.mpr ⟨hc, B.lts_nil, B.lts_nil⟩), by omega, nd_nil.mpr (by omega)⟩
  | @cut u p ho hu hp =>
    have := t.put_size p .nil ho
    have e2 : B.nil.size = 0 := rfl
    exact ⟨B.put_lts _ _ h1 B.lts_nil, by omega, put_ne hp (by rw [ho]; rfl)⟩
  | @label l r p y c ho hc =>
    have := t.put_size p (.node l c r) ho
    have e1 : (B.node l c r).size = (B.node l y r).size := rfl
    have hl := B.at_lts t p ho h1
    have hn := nd_nil.mp h3
    exact ⟨B.put_lts _ _ h1 (B.lts_node.mpr ⟨hc, (B.lts_node.mp hl).2⟩), by omega, nd_nil.mpr (by omega)⟩
  | @turn u p ho hu =>
    have := t.put_size p u.mir ho
    have e1 := u.mir_size
    have hl := B.at_lts t p ho h1
    have hn := nd_nil.mp h3
    exact ⟨B.put_lts _ _ h1 (u.mir_lts hl), by omega, nd_nil.mpr (by omega)⟩
def spOpen : Sp := fun vs H Q _ => ∃ (v : V) (t : B) (p : List Bool), vs = [v, .str (px p)] ∧ BAt H v t ∧ t.at p = some .nil ∧ p.length ≤ 100 ∧ ∀ H', Same H H' → Q (.bl true) H'
def spNodeAt : Sp := fun vs H Q _ => ∃ (v : V) (t u : B) (p : List Bool), vs = [v, .str (px p)] ∧ BAt H v t ∧ t.at p = some u ∧ u ≠ .nil ∧ p.length ≤ 100 ∧ ∀ (v' : V) (H' : Hp), Same H H' → BAt H' v' u → Q v' H'
/-- one of the four: the tree, then the edit's arguments -/
def spAct (mk : Ed → Prop) : Sp := fun vs H Q _ => ∃ (v : V) (t t' : B) (e : Ed), vs = v :: e.args ∧ mk e ∧ BAt H v t ∧ Does t e t' ∧ t.size ≤ 12 ∧ t.lts ∧ t ≠ .nil ∧ ∀ (v' : V) (H' : Hp), Same H H' → BAt H' v' t' → Q v' H'
def isPut : Ed → Prop | .put _ _ => True | _ => False
def isCut : Ed → Prop | .cut _ => True | _ => False
def isLab : Ed → Prop | .label _ _ => True | _ => False
def isTur : Ed → Prop | .turn _ => True | _ => False
def spEdited : Sp := fun vs H Q _ => ∃ (v : V) (t t' : B) (e : Ed) (a : Addr), vs = [v, .ref a] ∧ H a = some (.tup e.vals) ∧ BAt H v t ∧ Does t e t' ∧ t.size ≤ 12 ∧ t.lts ∧ t ≠ .nil ∧ ∀ (v' : V) (H' : Hp), Same H H' → BAt H' v' t' → Q v' H'
/-- the table of the actions -/
structure Acts (K : PySem.W.Frag) (w : World) (mg : Str → Option Value) (aA f1 f2 f3 f4 : Addr) : Prop where
  g : mg "ACTIONS" = some (.ref aA)
  put : L2.KDct K w aA "put" (.ref f1)
  cut : L2.KDct K w aA "cut" (.ref f2)
  label : L2.KDct K w aA "label" (.ref f3)
  turn : L2.KDct K w aA "turn" (.ref f4)
section
variable {P : Program} {w : World} {K : PySem.W.Frag} {mg : Str → Option Value} {base : Heap} {f : Addr} {fd : FuncData}
theorem ok_open {k : Nat} (F : Fun K "is_open" "is_open" s_is_open f fd) (Dpart_at : Df P w K mg base (k + 1) "part_at" ["tree", "path"] spPart) : FnOk P w K mg base CX0 (k + 2) f fd ["tree", "path"] spOpen := by
  refine F.ok sc_is_open (fun vs H Q E h => ?_) (fun cdv A outer s H vs Q E hr h => ?_)
  · obtain ⟨v, t, p, rfl, _⟩ := h
    rfl
  obtain ⟨v, t, p, rfl, ht, ho, hp, q⟩ := h
  refine ⟨_, (pss_one (ps_try_thru0 (pss_one (ps_ret (pe_cmpR op_isN (pe_call Dpart_at.ok (hr.mono (by omega)) rfl Dpart_at.g Dpart_at.kp Dpart_at.b .nil pass0 (pa_cons (pv 0) (pa_cons (pv 1) pa_nil))) pe_non (nomark _)))))), ?_⟩
  refine ⟨_, rfl, _, rfl, v, t, .nil, p, rfl, ht, ho, hp, fun v' H1 s1 h1 => ?_⟩
  cases h1
  exact ⟨rfl, q H1 s1⟩
theorem ok_nodeAt {k : Nat} (F : Fun K "node_at" "node_at" s_node_at f fd) (Dpart_at : Df P w K mg base (k + 1) "part_at" ["tree", "path"] spPart) : FnOk P w K mg base CX0 (k + 2) f fd ["tree", "path"] spNodeAt := by
  refine F.ok sc_node_at (fun vs H Q E h => ?_) (fun cdv A outer s H vs Q E hr h => ?_)
  · obtain ⟨v, t, u, p, rfl, _⟩ := h
    rfl
  obtain ⟨v, t, u, p, rfl, ht, ho, hu, hp, q⟩ := h
  refine ⟨_, (pss_cons (ps_set (i := 2) sc_node_at.nd rfl (.inl rfl) (pe_call Dpart_at.ok (hr.mono (by omega)) rfl Dpart_at.g Dpart_at.kp Dpart_at.b .nil pass0 (pa_cons (pv 0) (pa_cons (pv 1) pa_nil))))
    (pss_cons (ps_if (pt_cmpR op_isN (pv 2) pe_non (nomark _))
      (pss_one ps_never) pss_nil)
    (pss_one (ps_ret (pv 2))))), ?_⟩
  refine ⟨_, rfl, _, rfl, v, t, u, p, rfl, ht, ho, hp, fun v' H1 s1 h1 => ?_⟩
  rcases h1.inv with ⟨_, rfl⟩ | ⟨a, vl, vr, x, tl, tr, rfl, rfl, _⟩
  · exact absurd rfl hu
  · exact ⟨_, rfl, rfl, _, rfl, iteF ⟨_, rfl, q _ H1 s1 h1⟩⟩
end
/-! ### the four actions, edited -/
theorem Does.plen {t t' : B} {e : Ed} (d : Does t e t') : ∃ p o, t.at p = some o ∧ p.length ≤ t.size := by
  cases d with
  | put ho _ _ => exact ⟨_, _, ho, by have := B.at_size _ _ ho; omega⟩
  | cut ho _ _ => exact ⟨_, _, ho, by have := B.at_size _ _ ho; omega⟩
  | label ho _ => exact ⟨_, _, ho, by have := B.at_size _ _ ho; omega⟩
  | turn ho _ => exact ⟨_, _, ho, by have := B.at_size _ _ ho; omega⟩
section
variable {P : Program} {w : World} {K : PySem.W.Frag} {mg : Str → Option Value} {base : Heap} {f f1 f2 f3 f4 aA : Addr} {fd : FuncData}
theorem ok_withNode (F : Fun K "with_node" "with_node" s_with_node f fd) (Dis_open : Df P w K mg base 2 "is_open" ["tree", "path"] spOpen) (Dis_letter : Df P w K mg base 1 "is_letter" ["value"] spLow) (Dreplaced : Df P w K mg base 21 "replaced" ["tree", "path", "part"] spRepl) :
    FnOk P w K mg base CX0 22 f fd ["tree", "path", "label"] (spAct isPut) := by
  refine F.ok (k := 21) sc_with_node (fun vs H Q E h => ?_) (fun cdv A outer s H vs Q E hr h => ?_)
  · obtain ⟨v, t, t', e, rfl, he, _⟩ := h
    cases e <;> first | rfl | exact he.elim
  obtain ⟨v, t, t', e, rfl, he, ht, d, h12, hl, hn, q⟩ := h
  have gd := d.good hl h12 hn
  cases d with
  | cut _ _ _ => exact he.elim
  | label _ _ => exact he.elim
  | turn _ _ => exact he.elim
  | @put p c ho hc hz =>
    refine ⟨_, (pss_cons (ps_if (pt_not (pt_val (pe_call Dis_open.ok (hr.mono (by omega)) rfl Dis_open.g Dis_open.kp Dis_open.b .nil pass0 (pa_cons (pv 0) (pa_cons (pv 1) pa_nil)))))
      (pss_one ps_never) pss_nil)
    (pss_cons (ps_if (pt_not (pt_val (pe_call Dis_letter.ok (hr.mono (by omega)) rfl Dis_letter.g Dis_letter.kp Dis_letter.b .nil pass0 (pa_cons (pv 2) pa_nil))))
      (pss_one ps_never) pss_nil)
    (pss_one (ps_ret (pe_call Dreplaced.ok (hr.mono (by omega)) rfl Dreplaced.g Dreplaced.kp Dreplaced.b .nil pass0 (pa_cons (pv 0) (pa_cons (pv 1) (pa_cons (pe_tup (pa_cons pe_non (pa_cons (pv 2) (pa_cons pe_non pa_nil)))) pa_nil)))))))), ?_⟩
    have hp := t.at_size p ho
    refine ⟨_, rfl, _, rfl, v, t, p, rfl, ht, ho, by omega, fun H1 s1 => ⟨_, rfl, iteF ?_⟩⟩
    refine ⟨_, rfl, [c], rfl, Nat.le_refl _, _, rfl, ?_⟩
    have e1 : isLt [c] = true := hc
    rw [e1]
    refine iteF ⟨_, rfl, _, rfl, _, rfl, (by show 3 ≤ sizeLine; decide), fun r nr => ?_⟩
    have k2 := same_new nr (.tup [.non, .str (ch c), .non])
    exact ⟨v, .ref r, t, .node .nil c .nil, .nil, p, rfl, ht.same (s1.trans k2), .node upd_same .nil .nil, ho, h12, gd.2.1, fun v' H2 s2 h2 => q v' H2 (s1.trans (k2.trans s2)) h2⟩
theorem ok_without (F : Fun K "without_node" "without_node" s_without_node f fd) (Dnode_at : Df P w K mg base 2 "node_at" ["tree", "path"] spNodeAt) (Dreplaced : Df P w K mg base 21 "replaced" ["tree", "path", "part"] spRepl) :
    FnOk P w K mg base CX0 22 f fd ["tree", "path"] (spAct isCut) := by
  refine F.ok (k := 21) sc_without_node (fun vs H Q E h => ?_) (fun cdv A outer s H vs Q E hr h => ?_)
  · obtain ⟨v, t, t', e, rfl, he, _⟩ := h
    cases e <;> first | rfl | exact he.elim
  obtain ⟨v, t, t', e, rfl, he, ht, d, h12, hl, hn, q⟩ := h
  have gd := d.good hl h12 hn
  cases d with
  | put _ _ _ => exact he.elim
  | label _ _ => exact he.elim
  | turn _ _ => exact he.elim
  | @cut u p ho hu hpn =>
    refine ⟨_, (pss_cons (ps_expr (pe_call Dnode_at.ok (hr.mono (by omega)) rfl Dnode_at.g Dnode_at.kp Dnode_at.b .nil pass0 (pa_cons (pv 0) (pa_cons (pv 1) pa_nil))))
    (pss_cons (ps_if (pt_cmpR op_eq (pv 1) pe_str (nomark _))
      (pss_one ps_never) pss_nil)
    (pss_one (ps_ret (pe_call Dreplaced.ok (hr.mono (by omega)) rfl Dreplaced.g Dreplaced.kp Dreplaced.b .nil pass0 (pa_cons (pv 0) (pa_cons (pv 1) (pa_cons pe_non pa_nil)))))))), ?_⟩
    have hp := t.at_size p ho
    refine ⟨_, rfl, _, rfl, v, t, u, p, rfl, ht, ho, hu, by omega, fun v1 H1 s1 h1 => ?_⟩
    refine ⟨_, rfl, rfl, _, rfl, iteR (fun z => hpn (by rw [← px_nil] at z; exact px_inj z)) ?_⟩
    exact ⟨_, rfl, _, rfl, v, .non, t, .nil, u, p, rfl, ht.same s1, .nil, ho, h12, gd.2.1, fun v' H2 s2 h2 => q v' H2 (s1.trans s2) h2⟩
theorem ok_withLabel (F : Fun K "with_label" "with_label" s_with_label f fd) (Dnode_at : Df P w K mg base 2 "node_at" ["tree", "path"] spNodeAt) (Dis_letter : Df P w K mg base 1 "is_letter" ["value"] spLow) (Dreplaced : Df P w K mg base 21 "replaced" ["tree", "path", "part"] spRepl) :
    FnOk P w K mg base CX0 22 f fd ["tree", "path", "label"] (spAct isLab) := by
  refine F.ok (k := 21) sc_with_label (fun vs H Q E h => ?_) (fun cdv A outer s H vs Q E hr h => ?_)
  · obtain ⟨v, t, t', e, rfl, he, _⟩ := h
    cases e <;> first | rfl | exact he.elim
  obtain ⟨v, t, t', e, rfl, he, ht, d, h12, hl, hn, q⟩ := h
  have gd := d.good hl h12 hn
  cases d with
  | put _ _ _ => exact he.elim
  | cut _ _ _ => exact he.elim
  | turn _ _ => exact he.elim
  | @label l r p y c ho hc =>
    refine ⟨_, (pss_cons (ps_asg (pe_call Dnode_at.ok (hr.mono (by omega)) rfl Dnode_at.g Dnode_at.kp Dnode_at.b .nil pass0 (pa_cons (pv 0) (pa_cons (pv 1) pa_nil))) (pg_tup rfl (pgs_cons (pg_name (i := 3) sc_with_label.nd rfl (.inl rfl)) (pgs_cons (pg_name (i := 4) sc_with_label.nd rfl (.inl rfl)) (pgs_cons (pg_name (i := 5) sc_with_label.nd rfl (.inl rfl)) pgs_nil)))))
    (pss_cons (ps_if (pt_not (pt_val (pe_call Dis_letter.ok (hr.mono (by omega)) rfl Dis_letter.g Dis_letter.kp Dis_letter.b .nil pass0 (pa_cons (pv 2) pa_nil))))
      (pss_one ps_never) pss_nil)
    (pss_one (ps_ret (pe_call Dreplaced.ok (hr.mono (by omega)) rfl Dreplaced.g Dreplaced.kp Dreplaced.b .nil pass0 (pa_cons (pv 0) (pa_cons (pv 1) (pa_cons (pe_tup (pa_cons (pv 3) (pa_cons (pv 2) (pa_cons (pv 5) pa_nil)))) pa_nil)))))))), ?_⟩
    have hp := t.at_size p ho
    refine ⟨_, rfl, _, rfl, v, t, _, p, rfl, ht, ho, (fun z => nomatch z), by omega, fun v1 H1 s1 h1 => ?_⟩
    rcases h1.inv with ⟨_, z⟩ | ⟨a, vl, vr, x, tl, tr, rfl, e, ea, aL, aR⟩
    · cases z
    cases e
    refine ⟨a, _, rfl, SqT.of ea, rfl, vl, _, rfl, .str (ch y), _, rfl, vr, _, rfl, rfl, ?_⟩
    refine ⟨_, rfl, [c], rfl, Nat.le_refl _, _, rfl, ?_⟩
    have e1 : isLt [c] = true := hc
    rw [e1]
    refine iteF ⟨_, rfl, _, rfl, _, rfl, _, rfl, _, rfl, (by show 3 ≤ sizeLine; decide), fun r' nr => ?_⟩
    have k2 := same_new nr (.tup [vl, .str (ch c), vr])
    exact ⟨v, .ref r', t, .node l c r, _, p, rfl, ht.same (s1.trans k2), .node upd_same (aL.same k2) (aR.same k2), ho, h12, gd.2.1, fun v' H2 s2 h2 => q v' H2 (s1.trans (k2.trans s2)) h2⟩
theorem ok_turned (F : Fun K "turned" "turned" s_turned f fd) (Dnode_at : Df P w K mg base 2 "node_at" ["tree", "path"] spNodeAt) (Dmirrored : Df P w K mg base 20 "mirrored" ["tree"] (spMir 20)) (Dreplaced : Df P w K mg base 21 "replaced" ["tree", "path", "part"] spRepl) :
    FnOk P w K mg base CX0 22 f fd ["tree", "path"] (spAct isTur) := by
  refine F.ok (k := 21) sc_turned (fun vs H Q E h => ?_) (fun cdv A outer s H vs Q E hr h => ?_)
  · obtain ⟨v, t, t', e, rfl, he, _⟩ := h
    cases e <;> first | rfl | exact he.elim
  obtain ⟨v, t, t', e, rfl, he, ht, d, h12, hl, hn, q⟩ := h
  have gd := d.good hl h12 hn
  cases d with
  | put _ _ _ => exact he.elim
  | cut _ _ _ => exact he.elim
  | label _ _ => exact he.elim
  | @turn u p ho hu =>
    refine ⟨_, (pss_one (ps_ret (pe_call Dreplaced.ok (hr.mono (by omega)) rfl Dreplaced.g Dreplaced.kp Dreplaced.b .nil pass0 (pa_cons (pv 0) (pa_cons (pv 1) (pa_cons (pe_call Dmirrored.ok (hr.mono (by omega)) rfl Dmirrored.g Dmirrored.kp Dmirrored.b .nil pass0 (pa_cons (pe_call Dnode_at.ok (hr.mono (by omega)) rfl Dnode_at.g Dnode_at.kp Dnode_at.b .nil pass0 (pa_cons (pv 0) (pa_cons (pv 1) pa_nil))) pa_nil)) pa_nil)))))), ?_⟩
    have hp := t.at_size p ho
    refine ⟨_, rfl, _, rfl, _, rfl, _, rfl, v, t, u, p, rfl, ht, ho, hu, by omega, fun v1 H1 s1 h1 => ?_⟩
    refine ⟨v1, u, rfl, h1, by omega, fun v2 H2 s2 h2 => ?_⟩
    exact ⟨v, v2, t, u.mir, u, p, rfl, ht.same (s1.trans s2), h2, ho, h12, gd.2.1, fun v' H3 s3 h3 => q v' H3 (s1.trans (s2.trans s3)) h3⟩
theorem ok_edited (F : Fun K "edited" "edited" s_edited f fd) (AC : Acts K w mg aA f1 f2 f3 f4) (A1 : HeldR P w K mg base 22 f1 (spAct isPut)) (A2 : HeldR P w K mg base 22 f2 (spAct isCut)) (A3 : HeldR P w K mg base 22 f3 (spAct isLab)) (A4 : HeldR P w K mg base 22 f4 (spAct isTur)) :
    FnOk P w K mg base CX0 23 f fd ["tree", "edit"] spEdited := by
  refine F.ok (k := 22) sc_edited (fun vs H Q E h => ?_) (fun cdv A outer s H vs Q E hr h => ?_)
  · obtain ⟨v, t, t', e, a, rfl, _⟩ := h
    rfl
  obtain ⟨v, t, t', e, a, rfl, ea, ht, d, h12, hl, hn, q⟩ := h
  have AH : ∀ f sp, (fun (g : Addr) (sp : Sp) => (g = f1 ∧ sp = spAct isPut) ∨ (g = f2 ∧ sp = spAct isCut) ∨ (g = f3 ∧ sp = spAct isLab) ∨ (g = f4 ∧ sp = spAct isTur)) f sp → HeldR P w K mg base 22 f sp := by
    rintro f sp (⟨rfl, rfl⟩ | ⟨rfl, rfl⟩ | ⟨rfl, rfl⟩ | ⟨rfl, rfl⟩)
    · exact A1
    · exact A2
    · exact A3
    · exact A4
  refine ⟨_, (pss_cons (ps_asg (pv 1) (pg_head rfl (pg_name (i := 2) sc_edited.nd rfl (.inl rfl)) (pg_name (i := 3) sc_edited.nd rfl (.inl rfl))))
    (pss_cons (ps_set (i := 4) sc_edited.nd rfl (.inl rfl) (pe_ix ix_kdict (pe_glob (v := .ref _) rfl AC.g rfl) (pv 2) (fun _ _ => rfl)))
    (pss_one (ps_ret (pe_callAS (i := 4) AH (hr.mono (by omega)) rfl (.inl rfl) (pa_cons (pv 0) (StX.pa_star (pv 3) pa_nil))))))), ?_⟩
  refine ⟨_, rfl, a, .str e.word, e.args, rfl, SqT.of ea, by cases e <;> (show _ ≤ 1000; simp [Ed.args]), fun L nL => ?_⟩
  have k1 := same_new nL (.lst e.args)
  have eL := upd_same (H := H) (a := L) (o := .lst e.args)
  have ht1 := ht.same k1
  generalize upd H L (.lst e.args) = H1 at k1 eL ht1 ⊢
  cases e with
  | put p c =>
    refine ⟨_, rfl, aA, "put", .ref f1, rfl, rfl, AC.put, ?_⟩
    exact ⟨f1, _, rfl, .inl ⟨rfl, rfl⟩, _, rfl, _, rfl, L, _, rfl, .inr (SqL.of eL), v, t, t', .put p c, rfl, trivial, ht1, d, h12, hl, hn, fun v' H2 s2 h2 => q v' H2 (k1.trans s2) h2⟩
  | cut p =>
    refine ⟨_, rfl, aA, "cut", .ref f2, rfl, rfl, AC.cut, ?_⟩
    exact ⟨f2, _, rfl, .inr (.inl ⟨rfl, rfl⟩), _, rfl, _, rfl, L, _, rfl, .inr (SqL.of eL), v, t, t', .cut p, rfl, trivial, ht1, d, h12, hl, hn, fun v' H2 s2 h2 => q v' H2 (k1.trans s2) h2⟩
  | label p c =>
    refine ⟨_, rfl, aA, "label", .ref f3, rfl, rfl, AC.label, ?_⟩
    exact ⟨f3, _, rfl, .inr (.inr (.inl ⟨rfl, rfl⟩)), _, rfl, _, rfl, L, _, rfl, .inr (SqL.of eL), v, t, t', .label p c, rfl, trivial, ht1, d, h12, hl, hn, fun v' H2 s2 h2 => q v' H2 (k1.trans s2) h2⟩
  | turn p =>
    refine ⟨_, rfl, aA, "turn", .ref f4, rfl, rfl, AC.turn, ?_⟩
    exact ⟨f4, _, rfl, .inr (.inr (.inr ⟨rfl, rfl⟩)), _, rfl, _, rfl, L, _, rfl, .inr (SqL.of eL), v, t, t', .turn p, rfl, trivial, ht1, d, h12, hl, hn, fun v' H2 s2 h2 => q v' H2 (k1.trans s2) h2⟩
end
/-! ### an instance with a dict: constants of its class, len, str -/
structure ConD (K : PySem.W.Frag) (C : Addr) (f : Str) (v : V) (u : Value) : Prop where
  at_ : PySem.W.findIn K (.ref C) f = some (some u)
  get : PySem.W.specialIn K u "__get__" = some none
  rel : RelV v u
  cp : PySem.W.copiedNames.contains f = false
def tConD (K : PySem.W.Frag) (ta : TE) (f : Str) : TE := fun σ H Q => ta σ H fun x H1 => ∃ a C dx fs v u, x = .ref a ∧ H1 a = some (.ins C dx fs) ∧ Cls K C ∧ ConD K C f v u ∧ fs.lookup f = none ∧ Q v H1
theorem isCls_of {K : PySem.W.Frag} {C : Addr} (c : Cls K C) : PySem.W.isClsIn K C = true := by
  obtain ⟨cd, hc, _⟩ := PySem.W.any_some c.hd
  show (PySem.W.clsIn K C).isSome = true
  rw [hc]
  rfl
theorem pe_conD {X : Cx} {e : Expr} {f : Str} {pos : Pos} {ta : TE} (he : PE X e ta) (hb : attributeBase e f X.env (eval e X.env) = eval e X.env := by rfl) : PE X (.Attribute e f pos) (tConD X.K ta f) := by
  refine ⟨fun pins s σ H Q I h => ?_⟩
  refine attr_of hb (thn (he.run pins s σ H _ I h) fun w s1 ⟨x, H1, I1, rx, a, C, dx, fs, v, u, ex, ea, c, k, l, q⟩ => ?_)
  subst ex
  obtain rfl : w = Value.ref a := rx
  obtain ⟨mA, O, r, _, _, _⟩ := ins_get I1.hok ea
  have hn : mA f = none := RelO.none_of (by rw [← l]; exact r f)
  obtain ⟨od, J, hl⟩ := O.look
  exact PySem.W.get_value I1.kIn J (PySem.W.plainGet_of (c.get f)).1 (OwX.find_con (isCls_of c) k.at_ k.get (handed_of k.rel) k.cp (by rw [hl f, hn])) (handed_of k.rel) ⟨v, H1, I1.tok _, k.rel, q⟩
def rLenOwn (C : Addr) (sp : Sp) : List V → Hp → VK → Prop := fun xs H Q => ∃ a dx fs, xs = [.ref a] ∧ H a = some (.ins C dx fs) ∧ sp [.ref a] H (fun z H' => ∃ n : Int, z = .int n ∧ 0 ≤ n ∧ n < 2 ^ 63 ∧ Q z H') E0
theorem call_lenOwn {X : Cx} {C g : Addr} {n : Nat} {sp : Sp} (hs : PySem.W.findIn X.K (.ref C) "__len__" = some (some (.ref g))) (hf : PySem.W.isFn X.K (.ref g) = true) (F : FnR X.prog X.w X.K X.mg X.base CX0 n g sp) (hr : Room (n + 1) X.A) : CallR X (.builtin "len") (rLenOwn C sp) := by
  intro pins s σ H xs us Q I r h
  obtain ⟨a, dx, fs, rfl, ea, q⟩ := h
  obtain ⟨u, rfl, ru⟩ := r.one
  cases (show u = Value.ref a from ru)
  obtain ⟨mA, O, _, _, _, _⟩ := ins_get I.hok ea
  obtain ⟨od, J, _⟩ := O.look
  obtain ⟨m, hF⟩ := I.fr
  refine PySem.W.len_K hF I.ok.mod.kin J hs hf (wpAny_mono (wpAny_call (SlX.run_at (us := [.ref a]) (ws := [.ref a]) F hr.in1 I.env0.in1 pass0 I (.cons rfl .nil) q)) (fun v s' z => ?_) fun _ _ x => x)
  obtain ⟨z', H', I', rz, n, en, h0, h1, qz⟩ := z
  subst en
  obtain ⟨t, e⟩ := (show ∃ t, v = Value.int n t from rz)
  cases e
  exact ⟨⟨h0, h1⟩, .int n, H', I'.tok _, ⟨_, rfl⟩, qz⟩
def rStrOwn (C : Addr) (sp : Sp) : List V → Hp → VK → Prop := fun xs H Q => ∃ a dx fs, xs = [.ref a] ∧ H a = some (.ins C dx fs) ∧ sp [.ref a] H (fun z H' => ∃ x : Str, z = .str x ∧ Q z H') E0
theorem call_strOwn {X : Cx} {C g : Addr} {n : Nat} {sp : Sp} (hs : PySem.W.findIn X.K (.ref C) "__str__" = some (some (.ref g))) (hf : PySem.W.isFn X.K (.ref g) = true) (F : FnR X.prog X.w X.K X.mg X.base CX0 n g sp) (hr : Room (n + 2) X.A) : CallR X (.type "str") (rStrOwn C sp) := by
  intro pins s σ H xs us Q I r h
  obtain ⟨a, dx, fs, rfl, ea, q⟩ := h
  obtain ⟨u, rfl, ru⟩ := r.one
  cases (show u = Value.ref a from ru)
  obtain ⟨mA, O, _, _, _, _⟩ := ins_get I.hok ea
  obtain ⟨od, J, _⟩ := O.look
  have hr2 : Room n X.A.in1.in1 := (show Room (n + 1) X.A.in1 from Room.in1 hr).in1
  refine PySem.W.kso_call hr2.units0 I.kIn J hs hf (wpAny_mono (wpAny_call (SlX.run_at (us := [.ref a]) (ws := [.ref a]) F hr2 I.env0.in1.in1 pass0 I (.cons rfl .nil) q)) (fun v s' z => ?_) fun _ _ x => x)
  obtain ⟨z', H', I', rz, x, en, qz⟩ := z
  subst en
  obtain ⟨t, e⟩ := (show ∃ t, v = Value.str x t from rz)
  cases e
  exact ⟨.str x, H', I', ⟨_, rfl⟩, qz⟩
/-! ### Desk -/
structure DeskC (K : PySem.W.Frag) (mg : Str → Option Value) (C : Addr) : Prop where
  cl : Cls K C
  nT : NoAttr K C "trees"
  nD : NoAttr K C "done"
  nB : NoAttr K C "busy"
  g : mg "Desk" = some (.ref C)
  mo : ∃ u, ConD K C "MOST_EDITS" (.int 60) u
/-- a method of the class, with its promise -/
structure MDf (P : Program) (w : World) (K : PySem.W.Frag) (mg : Str → Option Value) (base : Heap) (C : Addr) (k : Nat) (m : Str) (ps : List Str) (sp : Sp) where
  f : Addr
  fd : FuncData
  ok : FnOk P w K mg base CX0 k f fd ps sp
  b : Binds K fd ps []
  at_ : Meth K C m f
/-- a property of the class -/
structure PDf (P : Program) (w : World) (K : PySem.W.Frag) (mg : Str → Option Value) (base : Heap) (C : Addr) (k : Nat) (m : Str) (sp : Sp) where
  f : Addr
  fd : FuncData
  p : Addr
  ok : FnOk P w K mg base CX0 k f fd ["self"] sp
  b : Binds K fd ["self"] []
  pr : PropOf K C m p f
def deskF (vt vd vb : V) : List (Str × V) := [("trees", vt), ("done", vd), ("busy", vb)]
abbrev deskF1 (vt : V) : List (Str × V) := [("trees", vt)]
abbrev deskF2 (vt vd : V) : List (Str × V) := [("trees", vt), ("done", vd)]
theorem dn1 : ¬ (("trees" : Str) = "done") := by decide +kernel
theorem dn2 : ¬ (("trees" : Str) = "busy") := by decide +kernel
theorem dn3 : ¬ (("done" : Str) = "busy") := by decide +kernel
theorem put_d (vt vd : V) : putF "done" vd (deskF1 vt) = deskF2 vt vd := by
  show (if ("trees" : Str) = "done" then (("trees" : Str), vd) :: [] else (("trees" : Str), vt) :: putF "done" vd []) = deskF2 vt vd
  rw [if_neg dn1]
  rfl
theorem put_b (vt vd vb : V) : putF "busy" vb (deskF2 vt vd) = deskF vt vd vb := by
  show (if ("trees" : Str) = "busy" then (("trees" : Str), vb) :: _ else (("trees" : Str), vt) :: (if ("done" : Str) = "busy" then (("done" : Str), vb) :: [] else (("done" : Str), vd) :: putF "busy" vb [])) = deskF vt vd vb
  rw [if_neg dn2, if_neg dn3]
  rfl
theorem set_t (vt vd vb vt' : V) : putF "trees" vt' (deskF vt vd vb) = deskF vt' vd vb := rfl
theorem set_d (vt vd vb vd' : V) : putF "done" vd' (deskF vt vd vb) = deskF vt vd' vb := by
  show (if ("trees" : Str) = "done" then _ else (("trees" : Str), vt) :: putF "done" vd' [("done", vd), ("busy", vb)]) = deskF vt vd' vb
  rw [if_neg dn1]
  rfl
theorem look_t (vt vd vb : V) : (deskF vt vd vb).lookup ("trees" : Str) = some vt := rfl
theorem look_d (vt vd vb : V) : (deskF vt vd vb).lookup ("done" : Str) = some vd := by
  have h : (("done" : Str) == ("trees" : Str)) = false := by decide +kernel
  unfold deskF
  simp only [List.lookup, h]
  rfl
theorem look_b (vt vd vb : V) : (deskF vt vd vb).lookup ("busy" : Str) = some vb := by
  have h : (("busy" : Str) == ("trees" : Str)) = false := by decide +kernel
  have h2 : (("busy" : Str) == ("done" : Str)) = false := by decide +kernel
  unfold deskF
  simp only [List.lookup, h, h2]
  rfl
theorem no_look {m : Str} (vt vd vb : V) (h1 : (m == ("trees" : Str)) = false) (h2 : (m == ("done" : Str)) = false) (h3 : (m == ("busy" : Str)) = false) : (deskF vt vd vb).lookup m = none := by
  unfold deskF
  simp only [List.lookup, h1, h2, h3]
/-- trees, one for each -/
inductive BsAt (H : Hp) : List V → List B → Prop
  | nil : BsAt H [] []
  | snoc {vs : List V} {ts : List B} {v : V} {t : B} : BsAt H vs ts → BAt H v t → BsAt H (vs ++ [v]) (ts ++ [t])
theorem BsAt.keep {H H' : Hp} (k : KeepT H H') {vs : List V} {ts : List B} (h : BsAt H vs ts) : BsAt H' vs ts := by
  induction h with
  | nil => exact .nil
  | snoc _ b ih => exact .snoc ih (b.keep k)
theorem BsAt.len {H : Hp} {vs : List V} {ts : List B} (h : BsAt H vs ts) : vs.length = ts.length := by
  induction h with
  | nil => rfl
  | snoc _ _ ih => rw [List.length_append, List.length_append, ih]; rfl
/-- edits, one for each -/
inductive EsAt (H : Hp) : List V → List Ed → Prop
  | nil : EsAt H [] []
  | snoc {vs : List V} {es : List Ed} {q : Addr} {e : Ed} : EsAt H vs es → H q = some (.tup e.vals) → EsAt H (vs ++ [.ref q]) (es ++ [e])
theorem EsAt.keep {H H' : Hp} (k : KeepT H H') {vs : List V} {es : List Ed} (h : EsAt H vs es) : EsAt H' vs es := by
  induction h with
  | nil => exact .nil
  | snoc _ b ih => exact .snoc ih (k _ _ b)
theorem EsAt.len {H : Hp} {vs : List V} {es : List Ed} (h : EsAt H vs es) : vs.length = es.length := by
  induction h with
  | nil => rfl
  | snoc _ _ ih => rw [List.length_append, List.length_append, ih]; rfl
/-- a desk: the trees before, the tree, the edits that stand -/
def Dk (C : Addr) (H : Hp) (a : Addr) (ts : List B) (t : B) (es : List Ed) (busy : Bool) : Prop :=
  ∃ (dx ta td : Addr) (vs : List V) (v : V) (ds : List V), H a = some (.ins C dx (deskF (.ref ta) (.ref td) (.bl busy))) ∧ H ta = some (.tup (vs ++ [v])) ∧ H td = some (.tup ds) ∧ BsAt H vs ts ∧ BAt H v t ∧ EsAt H ds es
/-- all but the object at a stands still -/
def But (a : Addr) (H H' : Hp) : Prop := ∀ b o, b ≠ a → H b = some o → H' b = some o
theorem But.refl (a : Addr) (H : Hp) : But a H H := fun _ _ _ h => h
theorem But.trans {a : Addr} {H H1 H2 : Hp} (x : But a H H1) (y : But a H1 H2) : But a H H2 := fun b o h e => y b o h (x b o h e)
theorem But.of {a : Addr} {H H' : Hp} (s : Same H H') : But a H H' := fun b o _ e => s b o e
theorem But.keepT {a C : Addr} {H H' : Hp} {ts : List B} {t : B} {es : List Ed} {bu : Bool} (x : But a H H') (d : Dk C H a ts t es bu) : KeepT H H' := fun b xs e => by
  obtain ⟨dx, ta, td, vs, v, ds, h1, _⟩ := d
  exact x b _ (ne_of e h1 (by intro z; cases z)) e
theorem Dk.same {C a : Addr} {H H' : Hp} {ts : List B} {t : B} {es : List Ed} {bu : Bool} (s : Same H H') (d : Dk C H a ts t es bu) : Dk C H' a ts t es bu := by
  obtain ⟨dx, ta, td, vs, v, ds, h1, h2, h3, h4, h5, h6⟩ := d
  exact ⟨dx, ta, td, vs, v, ds, s _ _ h1, s _ _ h2, s _ _ h3, h4.keep (Tw.Same.keepT s), h5.same s, h6.keep (Tw.Same.keepT s)⟩
theorem atI_last (xs : List V) (x : V) : atI (xs ++ [x]) (-1) = some x := by
  unfold atI ixN
  rw [List.length_append, List.length_singleton, if_neg (by omega), if_pos (by omega)]
  show (xs ++ [x])[((-1 : Int) + ((xs.length + 1 : Nat) : Int)).toNat]? = some x
  rw [show ((-1 : Int) + ((xs.length + 1 : Nat) : Int)).toNat = xs.length by omega]
  simp
/-! ### places that may change -/
abbrev Deck := Addr → Prop
def DeckOk (H : Hp) (D : Deck) : Prop := ∀ a, D a → H a ≠ none
def Off (D : Deck) (p : Addr) : Prop := ¬ D p
def SameD (D : Deck) (H H' : Hp) : Prop := ∀ b o, ¬ D b → H b = some o → H' b = some o
theorem SameD.of {D : Deck} {H H' : Hp} (h : Same H H') : SameD D H H' := fun b o _ e => h b o e
theorem SameD.trans {D : Deck} {H H1 H2 : Hp} (a : SameD D H H1) (b : SameD D H1 H2) : SameD D H H2 := fun c o n e => b c o n (a c o n e)
theorem SameD.at {D : Deck} {H H' : Hp} {p : Addr} {o : HO} (s : SameD D H H') (f : Off D p) (e : H p = some o) : H' p = some o := s p o f e
theorem DeckOk.new {H : Hp} {D : Deck} (d : DeckOk H D) {p : Addr} (e : H p = none) : Off D p := fun z => d p z e
theorem DeckOk.same {H H' : Hp} {D : Deck} (d : DeckOk H D) (s : Same H H') : DeckOk H' D := fun a z e => by
  cases h : H a with
  | none => exact d a z h
  | some o => rw [s _ _ h] at e; cases e
theorem But.sameD {D : Deck} {a : Addr} {H H' : Hp} (b : But a H H') (h : D a) : SameD D H H' := fun c o n e => b c o (fun z => n (z ▸ h)) e
/-! ### t[::-1] -/
section
variable {prog : Program} {w : World} {A : Around} {E : Value → Shared → Prop} {s : Shared}
open HT in
theorem back_bounds {sl : Addr} {vl vu vs : Value} {n : Nat} {Q : Int × Int × Nat → Shared → Prop} (hs : s.heap.IsSliceOf sl vl vu vs) (pl : IsPart vl none) (pu : IsPart vu none) (ps : IsPart vs (some (-1)))
    (h : Q ((n : Int) - 1, -1, n) s) : wpAny (model prog w) A (Builtin.Slice.sliceApplied (.ref sl) (pure (n : Int))) Q E s := by
  obtain ⟨ob, isOb, isCl, isDt⟩ := id hs
  unfold Builtin.Slice.sliceApplied Builtin.Slice.sliceFields
  refine wpAny_bind (wpAny_bind (wpAny_field isOb isDt (x := vl) rfl (wpAny_bind (wpAny_field isOb isDt (x := vu) rfl (wpAny_bind (wpAny_field isOb isDt (x := vs) rfl (wpAny_pure ?_)))))))
  refine wpAny_bind (slicePart_ ps ?_)
  show wpAny _ _ (if ((-1 : Int) == 0) = true then _ else _) _ _ s
  rw [if_neg (by decide)]
  refine wpAny_bind (slicePart_ pl (wpAny_bind (slicePart_ pu (wpAny_bind (wpAny_pure ?_)))))
  have e : Builtin.Slice.slicePlaces ((n : Int) - 1) (-1) (-1) = n := by
    unfold Builtin.Slice.slicePlaces
    rw [if_neg (by decide)]
    by_cases h0 : (n : Int) - 1 > -1
    · rw [if_pos h0, show (- -1 : Int) = 1 by decide, Int.ediv_one]
      omega
    · rw [if_neg h0]
      omega
  show wpAny _ _ (pure ((n : Int) - 1, (-1 : Int), Builtin.Slice.slicePlaces ((n : Int) - 1) (-1) (-1))) _ _ s
  rw [e]
  exact wpAny_pure h
theorem fm_congr {α β : Type} {f g : α → Option β} : ∀ (l : List α), (∀ k ∈ l, f k = g k) → l.filterMap f = l.filterMap g
  | [], _ => rfl
  | x :: l, h => by
    rw [List.filterMap_cons, List.filterMap_cons, h x (List.mem_cons_self ..), fm_congr l fun k hk => h k (List.mem_cons_of_mem _ hk)]
theorem back_pick (xs : Array Value) : ((List.range xs.size).filterMap fun (k : Nat) => xs[((xs.size : Int) - 1 + (k : Int) * (-1)).toNat]?).toArray = xs.toList.reverse.toArray := by
  congr 1
  have e1 : ((List.range xs.size).filterMap fun (k : Nat) => xs[((xs.size : Int) - 1 + (k : Int) * (-1)).toNat]?) = ((List.range xs.size).map fun k => xs.size - 1 - k).filterMap (xs[·]?) := by
    rw [List.filterMap_map]
    refine fm_congr _ fun k hk => ?_
    have := List.mem_range.mp hk
    show xs[((xs.size : Int) - 1 + (k : Int) * (-1)).toNat]? = xs[xs.size - 1 - k]?
    rw [show ((xs.size : Int) - 1 + (k : Int) * (-1)).toNat = xs.size - 1 - k by omega]
  rw [e1, PySem.W.krv_range, List.filterMap_reverse, PySem.W.krv_all]
open HT in
theorem getItem_back {t sl : Addr} {items : Array Value} {vl vu vs : Value} {Q : Value → Shared → Prop} (ht : IsTup s.heap t items) (hs : s.heap.IsSliceOf sl vl vu vs) (pl : IsPart vl none) (pu : IsPart vu none) (ps : IsPart vs (some (-1)))
    (h : Q (.ref s.heap.objs.size) { s with heap := s.heap.push { cls := .type "tuple", data := .seq items.toList.reverse.toArray } }) (hsz : items.size ≤ sizeLine) : wpAny (model prog w) A (getItem (.ref t) (.ref sl)) Q E s := by
  obtain ⟨ob, isOb, isCl, isDt⟩ := id hs
  have isSl : s.TypeIs (.ref sl) "slice" := ⟨ob, isOb, isCl⟩
  have fits : sizeOk (.seq items.toList.reverse.toArray) := by
    show items.toList.reverse.toArray.size ≤ sizeLine
    rw [List.size_toArray, List.length_reverse, Array.length_toList]
    exact hsz
  unfold getItem
  refine wpAny_holding ?_
  refine wpAny_bind (wpAny_sequenceKey ht.typeIs (by decide) ?_)
  have body : wpAny (model prog w) A.in1 (Builtin.«tuple.__getitem__» ⟨[.ref t, .ref sl], []⟩) (fun fin s' => ∃ v, fin = Fin.done (Flow.ret v) ∧ Q v s') E s := by
    show wpAny _ _ (Builtin.Tuple.tupleItemsOf (.ref t) >>= _) _ _ s
    refine wpAny_bind (tupleItemsOf_ ht (wpAny_bind (wpAny_typeOf isSl ?_)))
    rw [if_pos (by decide)]
    refine wpAny_bind (back_bounds hs pl pu ps ?_)
    have off : ¬ ((((items.size : Int) - 1) == 0 && (-1 : Int) == 1 && items.size == items.size) = true) := by
      rw [show ((-1 : Int) == 1) = false by decide, Bool.and_false, Bool.false_and]
      exact Bool.false_ne_true
    show wpAny _ _ (if (((items.size : Int) - 1) == 0 && (-1 : Int) == 1 && items.size == items.size) = true then _ else _) _ _ s
    rw [if_neg off, back_pick]
    first
      | exact wpAny_bind (m := Builtin.Tuple.tupleExact _) (wpAny_newObj_type (wpAny_pure ⟨_, rfl, h⟩) fits)
      | exact wpAny_bind (m := Builtin.Tuple.tupleExact _) (wpAny_newObj_type (wpAny_bind (wpAny_pure (wpAny_pure ⟨_, rfl, h⟩))) fits)
      | exact wpAny_bind (wpAny_bind (m := Builtin.Tuple.tupleExact _) (wpAny_newObj_type (wpAny_pure (wpAny_pure ⟨_, rfl, h⟩)) fits))
      | exact wpAny_bind (wpAny_bind (m := Builtin.Tuple.tupleExact _) (wpAny_newObj_type (wpAny_pure ⟨_, rfl, h⟩) fits))
  refine wpAny_bind (wpAny_callSpecial?_slot (name := Str.ofString "__getitem__") ht.typeIs PyProof.Rows.slot_tuple_getitem ?_)
  refine wpAny_call_entry PyProof.Rows.slot_tuple_getitem ht.typeIs entry_tuple_getitem (wpAny_mono body (fun fin s' z => ?_) fun _ _ z => z) (args_tuple_getitem _ _)
  obtain ⟨v, e, q⟩ := z
  exact ⟨v, e, wpAny_pure q⟩
end
/-- t[::-1], t a tuple -/
def tRevT (K : PySem.W.Frag) (te : TE) : TE := fun σ H Q => te σ H fun x H1 => ∃ a xs, x = .ref a ∧ SqT K H1 a xs ∧ ∀ p, H1 p = none → Q (.ref p) (upd H1 p (.tup xs.reverse))
theorem pe_revT {X : Cx} {e : Expr} {te : TE} {k : Nat} {p1 p2 p3 pos : Pos} (he : PE X e te) : PE X (.Subscript e (.Slice none none (some (.UnaryOp .USub (.Constant (.int 1) k p1) p2)) p3) pos) (tRevT X.K te) := by
  constructor
  intro pins s σ H Q I h
  refine Subscript_ (thn (he.run pins s σ H _ I h) ?_)
  rintro v s1 ⟨x, H1, I1, r1, a, xs, rfl, hx, q⟩
  cases r1
  have minus : PO X (some (.UnaryOp .USub (.Constant (.int 1) k p1) p2)) (tPart (tUn (rU fun i => .int (-i)) (tC (.int 1)))) := po_some (pe_un un_neg pe_int)
  refine wpAny_Slice (thn (po_none.run pins s1 σ H1 (fun o H2 => o = none ∧ H2 = H1) I1 ⟨rfl, rfl⟩) ?_)
  rintro vl s2 ⟨l, H2, I2, pl, rfl, rfl⟩
  refine thn (po_none.run pins s2 σ H2 (fun o H3 => o = none ∧ H3 = H2) I2 ⟨rfl, rfl⟩) ?_
  rintro vu s3 ⟨u, H3, I3, pu, rfl, rfl⟩
  refine thn (minus.run pins s3 σ H3 (fun o H4 => o = some (-1) ∧ H4 = H3) I3 ⟨1, rfl, -1, rfl, rfl, rfl⟩) ?_
  rintro vs s4 ⟨o, H4, I4, ps, rfl, rfl⟩
  have J : Inv X pins σ H4 { s4 with heap := s4.heap.push { cls := .type "slice", data := .fields #[vl, vu, vs] } } := I4.kept (t' := s4.toks) fun _ _ z => Heap.get?_push_of_some _ z
  obtain ⟨its, r, ht, hz⟩ := J.tuple hx
  have lens := r.length
  show wpAny (model X.prog X.w) X.A (subscriptTail e (.Slice none none (some (.UnaryOp .USub (.Constant (.int 1) k p1) p2)) p3) (.ref a) (.ref s4.heap.objs.size)) _ X.xe _
  refine tail_any (ops := [.ref a, .ref s4.heap.objs.size]) ht.typeIs (PyProof.Rows.slot_tuple_getitem.lookup) ?_ (by with_unfolding_all rfl)
  refine getItem_back ht (Heap.IsSliceOf.new _ vl vu vs) pl pu ps ?_ (by rw [List.size_toArray]; omega)
  refine ⟨.ref _, _, J.laid (t' := s4.toks) (o := .tup xs.reverse) (fun _ _ z => Heap.get?_push_of_some _ z) (Nat.le_refl _) ?_, rfl, q _ (J.hok.fresh (Nat.le_refl _))⟩
  exact ⟨by rw [List.length_reverse]; exact hz, _, r.reverse, ⟨_, Heap.get?_push_size _ rfl, rfl, _, rfl⟩⟩
/-! ### values of any kind, and how they are shown -/
mutual
inductive DQ (D : Deck) (H : Hp) : V → PyData → Prop
  | non : DQ D H .non .none
  | bl (b : Bool) : DQ D H (.bl b) (.bool b)
  | int (i : Int) : DQ D H (.int i) (.int i)
  | str (x : Str) : DQ D H (.str x) (.str x)
  | lst {a : Addr} {xs : List V} {ds : List PyData} : Off D a → H a = some (.lst xs) → DQAll D H xs ds → DQ D H (.ref a) (.list ds)
  | tup {a : Addr} {xs : List V} {ds : List PyData} : Off D a → H a = some (.tup xs) → DQAll D H xs ds → DQ D H (.ref a) (.tuple ds)
  | emp {a : Addr} : Off D a → H a = some (.dK []) → DQ D H (.ref a) (.dict [])
inductive DQAll (D : Deck) (H : Hp) : List V → List PyData → Prop
  | nil : DQAll D H [] []
  | cons {v : V} {vs : List V} {d : PyData} {ds : List PyData} : DQ D H v d → DQAll D H vs ds → DQAll D H (v :: vs) (d :: ds)
end
mutual
theorem dq_sameD {D : Deck} {H H' : Hp} (s : SameD D H H') : ∀ {v : V} {d : PyData}, DQ D H v d → DQ D H' v d
  | _, _, .non => .non
  | _, _, .bl b => .bl b
  | _, _, .int i => .int i
  | _, _, .str x => .str x
  | _, _, .lst o e a => .lst o (s.at o e) (dqAll_sameD s a)
  | _, _, .tup o e a => .tup o (s.at o e) (dqAll_sameD s a)
  | _, _, .emp o e => .emp o (s.at o e)
theorem dqAll_sameD {D : Deck} {H H' : Hp} (s : SameD D H H') : ∀ {vs : List V} {ds : List PyData}, DQAll D H vs ds → DQAll D H' vs ds
  | _, _, .nil => .nil
  | _, _, .cons h a => .cons (dq_sameD s h) (dqAll_sameD s a)
end
theorem dq_same {D : Deck} {H H' : Hp} (s : Same H H') {v : V} {d : PyData} (h : DQ D H v d) : DQ D H' v d := dq_sameD (SameD.of s) h
theorem dqAll_same {D : Deck} {H H' : Hp} (s : Same H H') {v : List V} {d : List PyData} (h : DQAll D H v d) : DQAll D H' v d := dqAll_sameD (SameD.of s) h
theorem dqAll_len {D : Deck} {H : Hp} : ∀ {vs : List V} {ds : List PyData}, DQAll D H vs ds → vs.length = ds.length
  | _, _, .nil => rfl
  | _, _, .cons _ a => congrArg (· + 1) (dqAll_len a)
theorem dqAll_get {D : Deck} {H : Hp} : ∀ {vs : List V} {ds : List PyData} {i : Nat} {v : V}, DQAll D H vs ds → vs[i]? = some v → ∃ d, ds[i]? = some d ∧ DQ D H v d
  | _, _, _, _, .nil, h => by simp at h
  | _, _, 0, _, .cons h _, e => by
    cases e
    exact ⟨_, rfl, h⟩
  | _, _, i + 1, _, .cons _ a, e => dqAll_get (i := i) a e
theorem dqAll_app {D : Deck} {H : Hp} : ∀ {vs vs' : List V} {ds ds' : List PyData}, DQAll D H vs ds → DQAll D H vs' ds' → DQAll D H (vs ++ vs') (ds ++ ds')
  | _, _, _, _, .nil, h => h
  | _, _, _, _, .cons h a, h' => .cons h (dqAll_app a h')
/-- the nodes of a tree lie off the places that may change -/
theorem BAt.dq {D : Deck} {H : Hp} (d : ∀ a, D a → ∀ xs, H a ≠ some (.tup xs)) {v : V} {t : B} (h : BAt H v t) : DQ D H v t.data := by
  induction h with
  | nil => exact .non
  | node e _ _ i1 i2 => exact .tup (fun z => d _ z _ e) e (.cons i1 (.cons (.str _) (.cons i2 .nil)))
def tyD : PyData → String
  | .none => "NoneType"
  | .bool _ => "bool"
  | .int _ => "int"
  | .str _ => "str"
  | .list _ => "list"
  | .tuple _ => "tuple"
  | .dict _ => "dict"
def okInts : List Int := ((List.range 70).map fun n : Nat => ((n : Int) - 1)) ++ [(10 : Int) ^ 29]
def isAl (c : Nat) : Bool := decide (c < 128)
mutual
def gd : PyData → Bool
  | .none => true
  | .bool _ => true
  | .int i => decide (i ∈ okInts)
  | .str x => decide (x.length ≤ 90) && x.cps.toList.all isAl
  | .list xs => gds xs
  | .tuple xs => gds xs
  | .dict kvs => kvs.isEmpty
def gds : List PyData → Bool
  | [] => true
  | x :: xs => gd x && gds xs
end
mutual
def wt : PyData → Nat
  | .none => 4
  | .bool _ => 5
  | .int _ => 62
  | .str _ => 902
  | .list xs => 3 + wts xs
  | .tuple xs => 3 + wts xs
  | .dict _ => 2
def wts : List PyData → Nat
  | [] => 0
  | x :: xs => wt x + 2 + wts xs
end
theorem isAl_lt {c : Nat} (h : isAl c = true) : c < 128 := of_decide_eq_true h
theorem gd_al {x : Str} (h : gd (.str x) = true) : x.length ≤ 90 ∧ ∀ c ∈ x.cps.toList, isAl c = true := by
  simp only [gd, Bool.and_eq_true, decide_eq_true_eq, List.all_eq_true] at h
  exact h
theorem gd_str {x : Str} (h : gd (.str x) = true) : x.length ≤ 90 ∧ ∀ c ∈ x.cps.toList, c < 128 := ⟨(gd_al h).1, fun c hc => isAl_lt ((gd_al h).2 c hc)⟩
theorem reprText_le {x : Str} (h : gd (.str x) = true) : (reprText x).length ≤ 902 := by
  obtain ⟨h1, h2⟩ := gd_str h
  have := StrLaws.reprText_len x (fun c hc => Nat.lt_of_lt_of_le (h2 c hc) (by decide))
  omega
theorem okInts_all : okInts.all (fun i => decide ((Str.ofString (toString i)).length ≤ 62) && decide (i.natAbs.log2 < 1920)) = true := by decide +kernel
theorem int_show {i : Int} (h : gd (.int i) = true) : (Str.ofString (toString i)).length ≤ 62 ∧ i.natAbs.log2 < 1920 := by
  simp only [gd, decide_eq_true_eq] at h
  have := List.all_eq_true.mp okInts_all i h
  rw [Bool.and_eq_true, decide_eq_true_eq, decide_eq_true_eq] at this
  exact this
theorem listText_le (ts : List Str) : (listText ts).length ≤ piled ts + 3 := by
  have h := textFrom_len_le ts 0 "["
  have e : (listText ts).length = (textFrom 0 "[" ts).length + 1 := by
    show (textFrom 0 "[" ts ++ "]").length = _
    rw [strLen_append]
    rfl
  have z : ∀ l : List Str, (l.map (·.length)).sum + 2 * l.length = piled l := by
    intro l
    induction l with
    | nil => rfl
    | cons t l ih =>
      rw [piled_cons, List.map_cons, List.sum_cons, List.length_cons]
      omega
  have z2 := z ts
  have z3 : (("[" : String) : Str).length = 1 := rfl
  omega
mutual
theorem shown_le : ∀ d : PyData, gd d = true → d.shown.length ≤ wt d ∧ d.showable = true
  | .none, _ => by
    simp only [PyData.shown, wt, PyData.showable, and_true]
    decide +kernel
  | .bool b, _ => by
    simp only [PyData.shown, wt, PyData.showable, and_true]
    cases b <;> decide +kernel
  | .int i, h => by
    obtain ⟨h1, h2⟩ := int_show h
    simp only [PyData.shown, wt, PyData.showable, decide_eq_true_eq]
    exact ⟨h1, h2⟩
  | .str x, h => by
    have h1 := reprText_le h
    simp only [PyData.shown, wt, PyData.showable, and_true]
    exact h1
  | .list xs, h => by
    simp only [gd] at h
    obtain ⟨h1, h2⟩ := showns_le xs h
    simp only [PyData.shown, wt, PyData.showable]
    exact ⟨Nat.le_trans (listText_le _) (by omega), h2⟩
  | .tuple xs, h => by
    simp only [gd] at h
    obtain ⟨h1, h2⟩ := showns_le xs h
    simp only [PyData.shown, wt, PyData.showable]
    exact ⟨Nat.le_trans (fmt_text _) (by omega), h2⟩
  | .dict kvs, h => by
    simp only [gd] at h
    cases kvs with
    | nil =>
      simp only [PyData.shown, PyData.shownKv, wt, PyData.showable, PyData.showableKv, and_true]
      decide +kernel
    | cons p r => exact absurd h Bool.false_ne_true
theorem showns_le : ∀ ds : List PyData, gds ds = true → piled (PyData.shownAll ds) ≤ wts ds ∧ PyData.showableAll ds = true
  | [], _ => by
    simp only [PyData.shownAll, wts, PyData.showableAll, and_true]
    exact Nat.le_refl _
  | d :: ds, h => by
    simp only [gds, Bool.and_eq_true] at h
    obtain ⟨h1, h2⟩ := shown_le d h.1
    obtain ⟨h3, h4⟩ := showns_le ds h.2
    simp only [PyData.shownAll, wts, PyData.showableAll, h2, h4, Bool.and_self, and_true]
    rw [piled_cons]
    omega
end
/-! ### repr of such a value -/
section
variable {X : Cx} {pins : List (Addr × Obj)} {σ : L2.St} {H : Hp} {s : Shared} {D : Deck}
theorem obj_lst (I : Inv X pins σ H s) {a : Addr} {xs : List V} (e : H a = some (.lst xs)) : ∃ (its : List Value) (o : Obj) (n : Nat), Vals xs its ∧ s.heap.get? a = some o ∧ o.cls = .type "list" ∧ o.data = .seq its.toArray n := by
  obtain ⟨_, its, n, r, h⟩ := (show ObjOk X.prog X.w H s.heap a (.lst xs) from I.hok a _ e)
  exact ⟨its, _, n, r, h, rfl, rfl⟩
theorem obj_tup (I : Inv X pins σ H s) {a : Addr} {xs : List V} (e : H a = some (.tup xs)) : ∃ (its : List Value) (o : Obj) (n : Nat), Vals xs its ∧ s.heap.get? a = some o ∧ o.cls = .type "tuple" ∧ o.data = .seq its.toArray n := by
  obtain ⟨_, its, r, o, h1, h2, n, h3⟩ := (show ObjOk X.prog X.w H s.heap a (.tup xs) from I.hok a _ e)
  exact ⟨its, o, n, r, h1, h2, h3⟩
theorem obj_emp (I : Inv X pins σ H s) {a : Addr} (e : H a = some (.dK [])) : ∃ (o : Obj) (n : Nat), s.heap.get? a = some o ∧ o.cls = .type "dict" ∧ o.data = .dict #[] n ∧ (a == sysModules) = false := by
  obtain ⟨_, ne, vs, kv, o, es, ep, h1, ex, h2, _, ps, _⟩ := (show ObjOk X.prog X.w H s.heap a (.dK []) from I.hok a _ e)
  cases kv
  have hes : es = #[] := by
    cases hl : es.toList with
    | nil => exact Array.toList_eq_nil_iff.mp hl
    | cons e l =>
      rw [hl] at ps
      cases ps
  subst hes
  exact ⟨o, ep, h1, ex.1, h2, ne⟩
mutual
theorem dq_reads (I : Inv X pins σ H s) : ∀ (d : PyData) (v : V) (u : Value), DQ D H v d → RelV v u → ∃ as, Reads s.heap u d as
  | .none, _, _, h, r => by
    cases h
    cases r
    exact ⟨_, .none⟩
  | .bool b, _, _, h, r => by
    cases h
    cases r
    exact ⟨_, .bool b⟩
  | .int i, _, _, h, r => by
    cases h
    obtain ⟨t, rfl⟩ := r
    exact ⟨_, .int i t⟩
  | .str x, _, _, h, r => by
    cases h
    obtain ⟨t, rfl⟩ := r
    exact ⟨_, .str x t⟩
  | .list ds, _, _, h, r => by
    cases h with
    | lst o e al =>
      cases r
      obtain ⟨its, ob, n, rv, h1, h2, h3⟩ := obj_lst I e
      obtain ⟨as, ra⟩ := dq_readsAll I ds _ its al rv
      exact ⟨_, .list h1 h2 h3 ra⟩
  | .tuple ds, _, _, h, r => by
    cases h with
    | tup o e al =>
      cases r
      obtain ⟨its, ob, n, rv, h1, h2, h3⟩ := obj_tup I e
      obtain ⟨as, ra⟩ := dq_readsAll I ds _ its al rv
      exact ⟨_, .tuple h1 h2 h3 ra⟩
  | .dict kvs, _, _, h, r => by
    cases h with
    | emp o e =>
      cases r
      obtain ⟨ob, n, h1, h2, h3, _⟩ := obj_emp I e
      exact ⟨_, .dict h1 h2 h3 .nil .nil⟩
theorem dq_readsAll (I : Inv X pins σ H s) : ∀ (ds : List PyData) (vs : List V) (us : List Value), DQAll D H vs ds → Vals vs us → ∃ as, ReadsAll s.heap us ds as
  | [], _, _, h, r => by
    cases h
    cases r
    exact ⟨_, .nil⟩
  | d :: ds, _, _, h, r => by
    cases h with
    | cons h1 h2 =>
      cases r with
      | cons r1 r2 =>
        obtain ⟨as, q1⟩ := dq_reads I d _ _ h1 r1
        obtain ⟨bs, q2⟩ := dq_readsAll I ds _ _ h2 r2
        exact ⟨_, .cons q1 q2⟩
end
theorem entries0 {as : List Addr} {h₀ : Heap} {d : Nat} {prog : Program} {w : World} : ReprEntriesK prog w as h₀ d (#[] : Array DictEntry).toList [] := .nil
mutual
theorem dq_repr (I : Inv X pins σ H s) : ∀ (d : PyData) (v : V) (u : Value), DQ D H v d → RelV v u → gd d = true → wt d ≤ 1000000 → ∃ bs, ReadAtMost s.heap d.depth bs ∧ ReprK X.prog X.w bs s.heap d.depth u d.shown
  | .none, _, _, h, r, _, _ => by
    cases h
    cases r
    exact ⟨[], (fun _ z => nomatch z), by simp only [PyData.shown]; exact .of_is ReprIs.none _ _ _⟩
  | .bool b, _, _, h, r, _, _ => by
    cases h
    cases r
    exact ⟨[], (fun _ z => nomatch z), by simp only [PyData.shown]; exact .of_is (ReprIs.bool b) _ _ _⟩
  | .int i, _, _, h, r, g, _ => by
    cases h
    obtain ⟨t, rfl⟩ := r
    exact ⟨[], (fun _ z => nomatch z), by simp only [PyData.shown]; exact .of_is (ReprIs.int t (int_show g).2) _ _ _⟩
  | .str x, _, _, h, r, g, _ => by
    cases h
    obtain ⟨t, rfl⟩ := r
    have hx : (reprText x).length ≤ sizeLine := small (Nat.le_trans (reprText_le g) (by decide))
    exact ⟨[], (fun _ z => nomatch z), by simp only [PyData.shown]; exact .of_is (ReprIs.str x t hx) _ _ _⟩
  | .list ds, _, _, h, r, g, z => by
    have rd := dq_reads I (.list ds) _ _ h r
    cases h with
    | @lst a xs _ o e al =>
      cases r
      simp only [gd] at g
      simp only [wt] at z
      obtain ⟨its, ob, n, rv, h1, h2, h3⟩ := obj_lst I e
      obtain ⟨bs, hb, hk⟩ := dq_reprAll I ds _ its al rv g (by omega)
      obtain ⟨as, rd⟩ := rd
      have hna : a ∉ bs := not_mem_of_deeper rd (by simp only [PyData.depth]; omega) hb
      refine ⟨a :: bs, ReadAtMost.cons rd (by simp only [PyData.depth]; omega) hb, ?_⟩
      simp only [PyData.depth, PyData.shown]
      cases its with
      | nil =>
        cases rv
        cases al
        simp only [PyData.shownAll, listText_nil]
        exact ReprK.listEmpty h1 h2 h3
      | cons y l => exact ReprK.list h1 h2 h3 hna (by simpa using hk.length_eq) (fun i w e => hk.item i w (by simpa using e))
  | .tuple ds, _, _, h, r, g, z => by
    have rd := dq_reads I (.tuple ds) _ _ h r
    cases h with
    | @tup a xs _ o e al =>
      cases r
      simp only [gd] at g
      simp only [wt] at z
      obtain ⟨its, ob, n, rv, h1, h2, h3⟩ := obj_tup I e
      obtain ⟨bs, hb, hk⟩ := dq_reprAll I ds _ its al rv g (by omega)
      obtain ⟨as, rd⟩ := rd
      have hna : a ∉ bs := not_mem_of_deeper rd (by simp only [PyData.depth]; omega) hb
      refine ⟨a :: bs, ReadAtMost.cons rd (by simp only [PyData.depth]; omega) hb, ?_⟩
      simp only [PyData.depth, PyData.shown]
      exact ReprK.tuple h1 h2 h3 hna hk
  | .dict kvs, _, _, h, r, _, _ => by
    have rd := dq_reads I (.dict kvs) _ _ h r
    cases h with
    | @emp a o e =>
      cases r
      obtain ⟨ob, n, h1, h2, h3, hs⟩ := obj_emp I e
      obtain ⟨as, rd⟩ := rd
      refine ⟨[a], ReadAtMost.cons rd (n := 0) (Nat.zero_le _) (fun _ z => nomatch z), ?_⟩
      simp only [PyData.depth, PyData.shown, PyData.shownKv, PyData.depthKv]
      exact ReprK.dict h1 h2 h3 hs (fun z => nomatch z) entries0
theorem dq_reprAll (I : Inv X pins σ H s) : ∀ (ds : List PyData) (vs : List V) (us : List Value), DQAll D H vs ds → Vals vs us → gds ds = true → wts ds ≤ 1000000 → ∃ bs, ReadAtMost s.heap (PyData.depthAll ds) bs ∧ ReprAllK X.prog X.w bs s.heap (PyData.depthAll ds) us (PyData.shownAll ds)
  | [], _, _, h, r, _, _ => by
    cases h
    cases r
    exact ⟨[], (fun _ z => nomatch z), by simp only [PyData.shownAll]; exact .nil⟩
  | d :: ds, _, _, h, r, g, z => by
    cases h with
    | cons h1 h2 =>
      cases r with
      | cons r1 r2 =>
        simp only [gds, Bool.and_eq_true] at g
        simp only [wts] at z
        obtain ⟨b1, hb1, k1⟩ := dq_repr I d _ _ h1 r1 g.1 (by omega)
        obtain ⟨b2, hb2, k2⟩ := dq_reprAll I ds _ _ h2 r2 g.2 (by omega)
        simp only [PyData.depthAll, PyData.shownAll]
        refine ⟨b1 ++ b2, (hb1.mono (Nat.le_max_left _ _)).append (hb2.mono (Nat.le_max_right _ _)), ?_⟩
        refine .cons ((k1.more ?_).level_le (Nat.le_max_left _ _)) (k2.more_le ?_ (Nat.le_max_right _ _))
        · intro b hb
          exact List.mem_append_left _ hb
        · intro b hb
          exact List.mem_append_right _ hb
end
end
theorem call_reprQ {X : Cx} (hg : X.A.guards = some []) (hu : X.A.units + 64 < cLine) : CallR X (.builtin "repr") (fun xs H Q => ∃ (v : V) (D : Deck) (d : PyData), xs = [v] ∧ DQ D H v d ∧ gd d = true ∧ wt d ≤ 1000000 ∧ d.depth ≤ 60 ∧ Q (.str d.shown) H) := by
  intro pins s σ H xs us Q I r h
  obtain ⟨v, D, d, rfl, hd, g, z, hz, q⟩ := h
  obtain ⟨u, rfl, rx⟩ := vals1 r
  obtain ⟨hl, _⟩ := shown_le d g
  have big : (1000000 : Nat) ≤ sizeLine := by decide
  have fits : d.shown.length ≤ sizeLine := by omega
  have fin : ∀ (h' : Heap) (t : Tok) (tk : Tok), (∀ b o, s.heap.get? b = some o → h'.get? b = some o) → EP X pins σ Q (.str d.shown t) { s with heap := h', toks := tk } := fun h' t tk hk => ⟨.str d.shown, H, I.kept (t' := tk) hk, ⟨t, rfl⟩, q⟩
  have nil0 : ∀ b ∈ ([] : List Addr), True := fun _ _ => trivial
  have key := dq_repr I d v u hd rx g z
  have rds := dq_reads I d v u hd rx
  cases hd with
  | non =>
    cases rx
    simp only [PyData.shown] at fin
    exact PySem.P.repr_of_none (fin s.heap _ _ fun _ _ e => e)
  | bl b =>
    cases rx
    simp only [PyData.shown] at fin
    exact PySem.P.repr_of_bool (fin s.heap _ _ fun _ _ e => e)
  | int i =>
    obtain ⟨t, rfl⟩ := rx
    simp only [PyData.shown] at fin
    exact PySem.P.repr_of_int (int_show g).2 (fin s.heap _ _ fun _ _ e => e)
  | str x =>
    obtain ⟨t, rfl⟩ := rx
    simp only [PyData.shown] at fin fits
    exact PySem.P.repr_of_str (fin s.heap _ _ fun _ _ e => e) fits
  | @lst a xs ds o e al =>
    cases rx
    simp only [gd] at g
    simp only [wt] at z
    simp only [PyData.shown] at fin fits
    simp only [PyData.depth] at hz
    obtain ⟨its, ob, n, rv, h1, h2, h3⟩ := obj_lst I e
    obtain ⟨bs, hb, hk⟩ := dq_reprAll I ds _ its al rv g (by omega)
    obtain ⟨as, rd⟩ := rds
    have hna : a ∉ bs := not_mem_of_deeper rd (by simp only [PyData.depth]; omega) hb
    refine call_repr_slot (by omega) ⟨ob, h1, h2⟩ F.slot_list_repr.toG ?_
    cases its with
    | nil =>
      cases rv
      cases al
      simp only [PyData.shownAll, listText_nil] at fin
      exact call_list_repr_empty ⟨ob, h1, h2⟩ h1 h3 ⟨_, _, rfl, fin s.heap _ _ fun _ _ e => e⟩
    | cons y l => exact call_list_reprK h1 h2 h3 hna (by simpa using hk.length_eq) (fun i w e => hk.item i w (by simpa using e)) hg (fun b _ => Clear.nil b) (by show X.A.units + 1 + (PyData.depthAll ds + 1) < cLine; omega) (fun _ _ e => e) (fun h' u tk hk => ⟨_, _, rfl, fin h' u tk hk⟩) fits
  | @tup a xs ds o e al =>
    cases rx
    simp only [gd] at g
    simp only [wt] at z
    simp only [PyData.shown] at fin fits
    simp only [PyData.depth] at hz
    obtain ⟨its, ob, n, rv, h1, h2, h3⟩ := obj_tup I e
    obtain ⟨bs, hb, hk⟩ := dq_reprAll I ds _ its al rv g (by omega)
    obtain ⟨as, rd⟩ := rds
    have hna : a ∉ bs := not_mem_of_deeper rd (by simp only [PyData.depth]; omega) hb
    refine call_repr_slot (by omega) ⟨ob, h1, h2⟩ F.slot_tuple_repr ?_
    exact call_tuple_reprK h1 h2 h3 hna hk hg (fun b _ => Clear.nil b) (by show X.A.units + 1 + (PyData.depthAll ds + 1) < cLine; omega) (fun _ _ e => e) (fun h' u tk hk => ⟨_, _, rfl, fin h' u tk hk⟩) fits
  | @emp a o e =>
    cases rx
    simp only [PyData.shown, PyData.shownKv] at fin fits
    obtain ⟨ob, n, h1, h2, h3, hs⟩ := obj_emp I e
    refine call_repr_slot (by omega) ⟨ob, h1, h2⟩ F.slot_dict_repr ?_
    exact call_dict_reprK h1 h2 h3 hs (as := []) (fun z => nomatch z) (d := 0) entries0 hg (fun b _ => Clear.nil b) (by show X.A.units + 1 + (0 + 1) < cLine; omega) (fun _ _ e => e) (fun h' u tk hk => ⟨_, _, rfl, fin h' u tk hk⟩) fits
theorem dq_ty {K : PySem.W.Frag} {D : Deck} {H : Hp} {v : V} {d : PyData} (h : DQ D H v d) : TyX K H v (.type (tyD d)) := by
  cases h with
  | non => exact .base .non
  | bl b => exact .base (.bl b)
  | int i => exact .base (.int i)
  | str x => exact .base (.str x)
  | lst _ e _ => exact .base (.lst e)
  | tup _ e _ => exact .base (.tup e)
  | emp _ e => exact .base (.dK e)
def isStrD : PyData → Bool
  | .str _ => true
  | _ => false
def isTupD : PyData → Bool
  | .tuple _ => true
  | _ => false
theorem kit_str (d : PyData) : kitB (tyD d) "str" = some (isStrD d) := by
  cases d <;> (simp only [tyD, isStrD]; decide +kernel)
theorem kit_tup (d : PyData) : kitB (tyD d) "tuple" = some (isTupD d) := by
  cases d <;> (simp only [tyD, isTupD]; decide +kernel)
theorem isStr_of {d : PyData} (h : isStrD d = true) : ∃ x, d = .str x := by
  cases d <;> first | exact ⟨_, rfl⟩ | exact absurd h Bool.false_ne_true
theorem gds_app : ∀ {a b : List PyData}, gds (a ++ b) = (gds a && gds b)
  | [], b => by simp only [List.nil_append, gds, Bool.true_and]
  | d :: a, b => by
    have h := gds_app (a := a) (b := b)
    simp only [List.cons_append, gds, h, Bool.and_assoc]
/-! ### t != () -/
theorem op_neE {X : Cx} (hu : X.A.units < cLine) : OpR X (compareOp .NotEq) (fun x y H Q => ∃ a b xs, x = .ref a ∧ y = .ref b ∧ SqT X.K H a xs ∧ SqT X.K H b [] ∧ Q (.bl (!xs.isEmpty)) H) := by
  intro pins s σ H x y v u Q I rx ry h
  obtain ⟨a, b, xs, rfl, rfl, hx, hy, q⟩ := h
  cases rx
  cases ry
  obtain ⟨its, r1, t1, _⟩ := I.tuple hx
  obtain ⟨its2, r2, t2, _⟩ := I.tuple hy
  cases r2
  have rc := SeqAt.RcNeAt.tuples (A := X.A) (s := s) (items := its.toArray) (items2 := ([] : List Value).toArray) (e := fun _ => true) t1 t2 hu (fun j _ h2 => absurd h2 (by simp))
  refine rc X.prog X.w X.xe _ ?_
  have e : (!((List.range (min its.toArray.size ([] : List Value).toArray.size)).all (fun _ => true) && its.toArray.size == ([] : List Value).toArray.size)) = !xs.isEmpty := by
    cases r1 with
    | nil => rfl
    | cons _ _ => simp
  rw [e]
  exact ⟨.bl _, H, I, rfl, q⟩
theorem cut_whole {xs : List V} {lo hi : Option Int} (h : HT.sIx xs.length 0 lo = 0 ∧ HT.sIx xs.length xs.length hi = xs.length) : cutV xs lo hi = xs := by
  unfold cutV
  rw [h.1, h.2, List.drop_zero, Nat.sub_zero, List.take_length]
theorem slA_of {K : PySem.W.Frag} {D : Deck} {H : Hp} (dk : DeckOk H D) {a : Addr} {xs : List V} {lo hi : Option Int} {Q : VK} (hx : H a = some (.tup xs)) (oa : Off D a)
    (q : ∀ (p : Addr) (H' : Hp), Same H H' → H' p = some (.tup (cutV xs lo hi)) → Off D p → Q (.ref p) H') : rSlA K (.ref a) lo hi H Q :=
  ⟨a, xs, rfl, SqT.of hx, fun hw => q a H (Same.refl H) (by rw [cut_whole hw]; exact hx) oa, fun _ p np => q p _ (same_new np _) upd_same (dk.new np)⟩
theorem catA_of {K : PySem.W.Frag} {D : Deck} {H : Hp} (dk : DeckOk H D) {a b : Addr} {xs ys : List V} {Q : VK} (hx : H a = some (.tup xs)) (oa : Off D a) (hy : H b = some (.tup ys)) (ob : Off D b) (hz : xs.length + ys.length ≤ sizeLine)
    (q : ∀ (p : Addr) (H' : Hp), Same H H' → H' p = some (.tup (xs ++ ys)) → Off D p → Q (.ref p) H') : rCatA K (.ref a) (.ref b) H Q :=
  ⟨a, b, xs, ys, rfl, rfl, SqT.of hx, SqT.of hy, hz, fun e => q b H (Same.refl H) (by rw [e]; exact hy) ob, fun _ e => q a H (Same.refl H) (by rw [e, List.append_nil]; exact hx) oa, fun _ _ p np => q p _ (same_new np _) upd_same (dk.new np)⟩
/-! ### weights of changed tuples -/
theorem wts_app : ∀ a b : List PyData, wts (a ++ b) = wts a + wts b
  | [], b => by simp only [List.nil_append, wts, Nat.zero_add]
  | d :: a, b => by
    have h := wts_app a b
    simp only [List.cons_append, wts, h]
    omega
theorem wts_take : ∀ (a : List PyData) (k : Nat), wts (a.take k) + wts (a.drop k) = wts a := fun a k => by
  rw [← wts_app, List.take_append_drop]
theorem depthAll_app : ∀ a b : List PyData, PyData.depthAll (a ++ b) = max (PyData.depthAll a) (PyData.depthAll b)
  | [], b => by simp only [List.nil_append, PyData.depthAll]; omega
  | d :: a, b => by
    have h := depthAll_app a b
    simp only [List.cons_append, PyData.depthAll, h]
    omega
theorem depthAll_parts (a : List PyData) (k : Nat) : PyData.depthAll (a.take k) ≤ PyData.depthAll a ∧ PyData.depthAll (a.drop k) ≤ PyData.depthAll a := by
  have h := depthAll_app (a.take k) (a.drop k)
  rw [List.take_append_drop] at h
  omega
theorem gds_parts {a : List PyData} (k : Nat) (h : gds a = true) : gds (a.take k) = true ∧ gds (a.drop k) = true := by
  rw [← List.take_append_drop k a, gds_app, Bool.and_eq_true] at h
  exact h
theorem rev_ok : ∀ a : List PyData, wts a.reverse = wts a ∧ PyData.depthAll a.reverse = PyData.depthAll a ∧ gds a.reverse = gds a
  | [] => ⟨rfl, rfl, rfl⟩
  | d :: a => by
    obtain ⟨h1, h2, h3⟩ := rev_ok a
    rw [List.reverse_cons, wts_app, depthAll_app, gds_app, h1, h2, h3]
    simp only [wts, PyData.depthAll, gds, Bool.and_true]
    refine ⟨by omega, by omega, Bool.and_comm _ _⟩
theorem wts_len : ∀ a : List PyData, 2 * a.length ≤ wts a
  | [] => Nat.zero_le _
  | d :: a => by
    have h := wts_len a
    simp only [wts, List.length_cons]
    omega
theorem dqAll_take {D : Deck} {H : Hp} : ∀ {vs : List V} {ds : List PyData} (k : Nat), DQAll D H vs ds → DQAll D H (vs.take k) (ds.take k) ∧ DQAll D H (vs.drop k) (ds.drop k)
  | _, _, 0, h => ⟨.nil, h⟩
  | _, _, _ + 1, .nil => ⟨.nil, .nil⟩
  | _, _, k + 1, .cons h a => ⟨.cons h (dqAll_take k a).1, (dqAll_take k a).2⟩
theorem dqAll_rev {D : Deck} {H : Hp} : ∀ {vs : List V} {ds : List PyData}, DQAll D H vs ds → DQAll D H vs.reverse ds.reverse
  | _, _, .nil => .nil
  | _, _, .cons h a => by
    rw [List.reverse_cons, List.reverse_cons]
    exact dqAll_app (dqAll_rev a) (.cons h .nil)
theorem wt_get : ∀ {ds : List PyData} {i : Nat} {d : PyData}, ds[i]? = some d → wt d + 2 + wts (ds.take i) + wts (ds.drop (i + 1)) = wts ds
  | [], _, _, h => by simp at h
  | x :: xs, 0, _, h => by
    cases h
    simp only [List.take_zero, wts, List.drop_succ_cons, List.drop_zero, Nat.add_zero]
  | x :: xs, i + 1, d, h => by
    have := wt_get (ds := xs) (i := i) h
    simp only [List.take_succ_cons, wts, List.drop_succ_cons]
    omega
theorem gd_get : ∀ {ds : List PyData} {i : Nat} {d : PyData}, ds[i]? = some d → gds ds = true → gd d = true
  | [], _, _, h, _ => by simp at h
  | x :: xs, 0, _, h, k => by
    cases h
    simp only [gds, Bool.and_eq_true] at k
    exact k.1
  | x :: xs, i + 1, d, h, k => by
    simp only [gds, Bool.and_eq_true] at k
    exact gd_get (ds := xs) (i := i) h k.2
/-! ### own errors with one field, over ValueError or LookupError -/
section
open PySem.Builtin PySem.Builtin.ObjectAttr PySem.HandSPX
/-- own classes, then the mro of the built-in one -/
def refsT (tail : List Value) : List Value → Bool
  | .ref _ :: r => refsT tail r
  | l => l == tail
/-- a family of errors: what the library says of its built-in class -/
structure Fam (B newId initId : String) (tail : List Value) : Prop where
  facts : ExcBaseFacts B newId initId tail
  pass : ∀ self, refuseLoop self "__setattr__" tail = pure ()
  obj : tail.contains (.type "object") = true
theorem famV : Fam "ValueError" "ValueError.__new__" "ValueError.__init__" [.type "ValueError", .type "Exception", .type "BaseException", .type "object"] := ⟨F.excBase_ValueError, fun self => F.store_ValueError.passes self, by decide +kernel⟩
theorem famL : Fam "LookupError" "LookupError.__new__" "LookupError.__init__" [.type "LookupError", .type "Exception", .type "BaseException", .type "object"] := ⟨F.excBase_LookupError, fun self => F.store_LookupError.passes self, by decide +kernel⟩
theorem refsT_or {tail : List Value} (l : List Value) (h : refsT tail l = true) : (∃ c r, l = .ref c :: r ∧ refsT tail r = true) ∨ l = tail := by
  unfold refsT at h
  split at h
  · exact .inl ⟨_, _, rfl, h⟩
  · exact .inr (beq_iff_eq.mp h)
theorem refsT_all {tail : List Value} {Good : List Value → Prop} (h0 : Good tail) (hs : ∀ c r, Good r → Good (.ref c :: r)) : ∀ l : List Value, refsT tail l = true → Good l
  | [], h => by
    rcases refsT_or [] h with ⟨_, _, e, _⟩ | e
    · cases e
    · rw [e]; exact h0
  | a :: r, h => by
    rcases refsT_or (a :: r) h with ⟨c, r', e, h'⟩ | e
    · cases e
      exact hs c r (refsT_all h0 hs r h')
    · rw [e]; exact h0
variable {B newId initId : String} {tail : List Value}
theorem Fam.passes (fam : Fam B newId initId tail) (self : Value) (l : List Value) (h : refsT tail l = true) : refuseLoop self "__setattr__" l = pure () :=
  refsT_all (Good := fun l => refuseLoop self "__setattr__" l = pure ()) (fam.pass self) (fun c r e => by rw [refuseLoop_ref]; exact e) l h
theorem refsT_has (X : String) (l : List Value) (h : refsT tail l = true) : l.contains (.type X) = tail.contains (.type X) :=
  refsT_all (Good := fun l => l.contains (.type X) = tail.contains (.type X)) rfl (fun c r e => by rw [List.contains_cons, e]; rfl) l h
theorem Fam.some (fam : Fam B newId initId tail) (l : List Value) (h : refsT tail l = true) : l.isEmpty = false := by
  cases l with
  | nil =>
    have e := refsT_has "object" [] h
    rw [fam.obj] at e
    exact absurd e (by decide)
  | cons _ _ => rfl
/-- the first field of an error -/
theorem first_field {prog : Program} {w : World} {A : Around} {R : Result → Shared → Prop} {hp : Heap} {g : Array GenState} {d : Drawn} {t : Nat} {os : OsState} {K : PySem.W.Frag} {name : Str} {tk : Tok} {v : Value} {x C : Addr} {fv : Array Value} {cd : ClassData}
    (fam : Fam B newId initId tail) (inK : K.In hp) (isX : hp.get? x = some { cls := .ref C, data := .fields fv }) (isC : PySem.W.clsIn K C = some cd)
    (isM : refsT tail cd.mro = true) (dict : cd.hasDict = true) (free : PySem.W.findIn K (.ref C) name = some none)
    (done : ∀ h' tk' dx, (∀ b o, b ≠ x → hp.get? b = some o → h'.get? b = some o) → hp.objs.size ≤ dx → dx ≠ x →
      h'.get? x = some { cls := .ref C, dict := some dx, data := .fields fv } → h'.Ns1 dx (fun y => if y = name then some v else none) → R (.ok (.ret .none)) ⟨h', g, d, tk', os⟩) :
    codeAny (model prog w) A (.call (.builtin "object.__setattr__") ⟨[.ref x, .str name tk, v], []⟩) R ⟨hp, g, d, t, os⟩ := by
  have at0 : PySem.W.InstAt hp x { cls := .ref C, data := .fields fv } C none := ⟨isX, rfl, rfl, trivial⟩
  have store := PySem.F.store_object
  have hasObj : cd.mro.contains (.type "object") = true := (refsT_has "object" _ isM).trans fam.obj
  have notNew : x ≠ hp.objs.size := Nat.ne_of_lt (Heap.lt_size isX)
  have isSub : PySem.W.Looks (model prog w) hp (isInstance (.ref x) (.type "object")) true := by
    refine at0.type.andThen (PySem.W.looks_mroIn inK ?_)
    unfold PySem.W.mroIn
    rw [isC, Option.bind_some, if_neg (by rw [fam.some _ isM]; decide), hasObj]
  refine codeAny_call_builtin store.slot.plain store.entry ?_
  refine @PySem.W.check_slot (model prog w) _ _ ⟨hp, g, d, t, os⟩ "object.__setattr__" "object" "__setattr__" (.ref x) [.str name tk, v] [] _ store.kind store.split isSub
    (store.args (.ref x) (.str name tk) v) ?_
  have mroL : PySem.W.Looks (model prog w) hp (mroOf (.ref C)) cd.mro := (PySem.W.looks_clsIn inK isC).andThen .now
  have noTaker : PySem.W.Looks (model prog w) hp (storeTaker? none) none := .now
  have clsL : PySem.W.Looks (model prog w) hp (classData C) cd := PySem.W.looks_clsIn inK isC
  rw [PySem.W.osa_eq, refuse_eq]
  refine wpAny_bind (wpAny_bind (at0.type.at (wpAny_bind (mroL.at ?_))))
  rw [fam.passes _ _ isM]
  refine wpAny_pure (wpAny_bind (at0.type.at (wpAny_bind ((PySem.W.looks_findIn inK free).at ?_))))
  refine wpAny_bind (noTaker.at ?_)
  show wpAny _ _ (storeInOwnDict (.ref x) (.ref C) (.str name tk) name v false) _ _ _
  obtain ⟨nm, bs, mro, nsA, qn, hd, sn, sb, ab, col, del⟩ := cd
  dsimp only at dict
  subst dict
  unfold storeInOwnDict ownDictForStores
  repeat (first
    | with_reducible refine store_in_new ?_ ?_
    | with_reducible refine wpAny_loadPart_at isX ?_
    | with_reducible refine clsL.at ?_
    | wp_step)
  · refine ⟨_, #[], _, (Heap.get?_update_ne _ _ _ _ notNew.symm).trans (Heap.get?_push_at rfl rfl), rfl, ?_, fun _ => rfl⟩
    intro e he
    exact absurd he (by simp)
  · intro h' tk' ns1 same
    have isX1 : (hp.push { cls := .type "dict", data := .dict #[] }).get? x = some { cls := .ref C, data := .fields fv } := Heap.get?_push_of_some _ isX
    refine done h' tk' hp.objs.size ?_ (Nat.le_refl _) notNew.symm ?_ ns1
    · intro b o hb ho
      refine (same.2 b (Nat.ne_of_lt (Heap.lt_size ho))).trans ?_
      exact (Heap.get?_update_ne _ _ _ _ hb).trans (Heap.get?_push_of_some _ ho)
    · exact (same.2 x notNew).trans (Heap.get?_update_self _ isX1 rfl)
end
abbrev veT : List Value := [.type "ValueError", .type "Exception", .type "BaseException", .type "object"]
abbrev leT : List Value := [.type "LookupError", .type "Exception", .type "BaseException", .type "object"]
/-! ### errors with the field value -/
def iA_value (p1 p2 : Pos) : Arguments := { posonlyargs := [], args := [{ arg := "self", annotation := none, pos := p1 }, { arg := "value", annotation := none, pos := p2 }], vararg := none, kwonlyargs := [], kw_defaults := [], kwarg := none, defaults := [] }
def iB_value (q1 q2 q3 q4 : Pos) : List Stmt := [.Assign [.Attribute (.Name "self" q1) "value" q2] (.Name "value" q3) q4]
def iS_value : Scope := { kind := .function, names := [(PySem.Str.ofString "self", .local), (PySem.Str.ofString "value", .local)], isGenerator := false, isCoroutine := false, more := [] }
/-- what the written part says of the class cn, at C, and of its __init__, at fI -/
structure Err_value (K : PySem.W.Frag) (mg : Str → Option Value) (newId : String) (tail : List Value) (cn qn : Str) (C fI : Addr) : Prop where
  gC : mg cn = some (.ref C)
  nd : (cn == ("__debug__" : Str)) = false
  cls : ∃ nm q N bs bm sn sub ab col dd k0 k1 k2 k3 k5, K.lookup C = some (excClassObj nm q C N bs bm true sn sub ab col dd k0 k1 k2 k3 k5 newId) ∧ refsT tail bm = true
  sa : PySem.W.findIn K (.ref C) "__setattr__" = some (some (.builtin "object.__setattr__"))
  ga : PySem.W.findIn K (.ref C) "__getattribute__" = some (some (.builtin "BaseException.__getattribute__"))
  gg : PySem.W.findIn K (.ref C) "__getattr__" = some none
  noN : PySem.W.findIn K (.ref C) "value" = some none
  iC : PySem.W.findIn K (.ref C) "__init__" = some (some (.ref fI))
  tC : PySem.W.typeIn K (.ref fI) = some (.type "function")
  kC : PySem.W.keepIn K (.ref C) = true
  exC : PySem.W.subIn K (.ref C) (.type "BaseException") = some true
  tyC : PySem.W.typeIn K (.ref C) = some (.type "type")
  hdC : PySem.W.hasDictIn K C = true
  fn : ∃ (oc : Value) (od : Option Addr) (doc pm : Value) (an : Option Addr) (cdv ct : Value) (osl : Array (Option Value)) (p1 p2 q1 q2 q3 q4 : Pos),
    K.lookup fI = some ⟨oc, od, .func (PySem.W.fnOf "__init__" qn (iA_value p1 p2) (iB_value q1 q2 q3 q4) iS_value .none .none doc pm an cdv ct), osl⟩ ∧ PySem.W.codeIn K cdv qn = true
section
open PySem.Builtin PySem.Builtin.ObjectAttr PySem.HandSPX
variable {prog : Program} {w : World} {A : Around} {E : Value → Shared → Prop} {R : Result → Shared → Prop} {s : Shared} {K : PySem.W.Frag} {mg : Str → Option Value} {C fI : Addr} {B newId initId : String} {tail : List Value} {cn qn : Str}
theorem init_value (fam : Fam B newId initId tail) (T : Err_value K mg newId tail cn qn C fI) {x t0 : Addr} {v : Value} (inK : K.In s.heap) (lim : s.heap.NoLimit) (isX : s.heap.get? x = some (excO C t0)) (offK : K.lookup x = none) (room : A.depth < recursionLimit)
    (done : ∀ h' tk dx, (∀ b o, b ≠ x → s.heap.get? b = some o → h'.get? b = some o) → h'.get? x = some { cls := .ref C, dict := some dx, data := .fields #[.ref t0, .none, .none, .none, .bool false, .none] } → s.heap.objs.size ≤ dx → dx ≠ x →
      h'.Ns1 dx (fun y => if y = "value" then some v else none) → R (.ok (.ret .none)) { s with heap := h', toks := tk }) :
    codeAny (model prog w) A (.call (.ref fI) ⟨[.ref x, v], []⟩) R s := by
  obtain ⟨oc, od, doc, pm, an, cdv, ct, osl, p1, p2, q1, q2, q3, q4, isF, isCode⟩ := T.fn
  obtain ⟨nm, q, N, bs, bm, sn, sub, ab, col, dd, k0, k1, k2, k3, k5, isC, isM⟩ := T.cls
  have cls : PySem.W.clsIn K C = some { name := nm, bases := bs, mro := .ref C :: bm, ns := N, qualname := q, hasDict := true, slotNames := sn, subclasses := sub, abstract := ab, collection := col, hasDel := false } := by
    unfold PySem.W.clsIn
    rw [isC] <;> rfl
  refine Att.call_fn (binds := [("self", .ref x), ("value", v)]) inK lim isF isCode room (BindsTo.of_eq (by first | rfl | with_unfolding_all rfl)) (by first | rfl | decide | with_unfolding_all rfl) (fun s₁ IC => ?_) rfl rfl rfl
  obtain ⟨h₁, tk₁, rfl⟩ := IC.toInCall.same
  have keep : ∀ b o, s.heap.get? b = some o → h₁.get? b = some o := IC.toInCall.keep
  have locals := IC.toInCall.ns
  have inK₁ : K.In h₁ := inK.keeps keep
  have isX₁ := keep _ _ isX
  show wpAny _ _ (execs _ _) _ _ _
  refine wpAny_execs_cons (plainObj_wpAny_Assign_Attribute ?_)
  refine wpAny_Name (wpAny_loadName_local (by rfl) (by rfl) locals (v := v) (by first | rfl | with_unfolding_all rfl | kernel_rfl) ?_) (by decide)
  refine wpAny_Name (wpAny_loadName_local (by rfl) (by rfl) locals (v := .ref x) (by first | rfl | with_unfolding_all rfl | kernel_rfl) ?_) (by decide)
  refine PySem.W.set_plain inK₁ (ox := excO C t0) (od := none) ⟨isX₁, rfl, rfl, trivial⟩ T.sa ?_
  refine first_field fam inK₁ isX₁ cls (show refsT tail (.ref C :: bm) = true from isM) rfl T.noN (fun h₃ tk₃ dx k₃ dn dne hx₃ hn₃ => ?_)
  show wpAny _ _ (execs _ _) _ _ _
  have z : s.heap.objs.size < h₁.objs.size := locals.lt
  exact wpAny_execs_nil (done h₃ tk₃ dx (fun b o hb e => k₃ b o hb (keep b o e)) hx₃ (Nat.le_of_lt (Nat.lt_of_lt_of_le z dn)) dne hn₃)
/-- a made error -/
structure Made_value (h h' : Heap) (e C d : Addr) (v : Value) : Prop where
  keep : ∀ b o, h.get? b = some o → h'.get? b = some o
  new : h.objs.size ≤ e
  obj : ∃ oe vs, h'.get? e = some oe ∧ oe.cls = .ref C ∧ oe.dict = some d ∧ oe.data = .fields vs ∧ vs[1]? = some .none
  dbig : h.objs.size ≤ d
  dne : d ≠ e
  ns : h'.Ns1 d (fun y => if y = "value" then some v else none)
theorem made_value (fam : Fam B newId initId tail) (T : Err_value K mg newId tail cn qn C fI) {v : Value} (inK : K.In s.heap) (lim : s.heap.NoLimit) (room : A.depth + 1 < recursionLimit)
    (done : ∀ h' tk e d, Made_value s.heap h' e C d v → R (.ok (.ret (.ref e))) { s with heap := h', toks := tk }) :
    codeAny (model prog w) A (.call (.ref C) ⟨[v], []⟩) R s := by
  obtain ⟨nm, q, N, bs, bm, sn, sub, ab, col, dd, k0, k1, k2, k3, k5, isC, isM⟩ := T.cls
  obtain ⟨hp, g, dr, tk, os⟩ := s
  have keep : ∀ b o, hp.get? b = some o → ((hp.push (PySem.W.kdv_tup [v])).push (excO C hp.objs.size)).get? b = some o := fun b o e => Heap.get?_push_of_some _ (Heap.get?_push_of_some _ e)
  have isE : ((hp.push (PySem.W.kdv_tup [v])).push (excO C hp.objs.size)).get? (hp.objs.size + 1) = some (excO C hp.objs.size) := by heap_get
  have offK : K.lookup (hp.objs.size + 1) = none := by
    cases e : K.lookup (hp.objs.size + 1) with
    | none => rfl
    | some o => exact absurd (Nat.lt_of_succ_lt (Heap.lt_size (inK _ _ e))) (Nat.lt_irrefl _)
  refine call_own fam.facts (fun X => refsT_has X bm isM) (inK _ _ isC) (PySem.W.looks_findIn inK T.iC) (fun self => PySem.W.bind_fn inK self T.tC) (by show 1 ≤ sizeLine; decide) ?_
  refine init_value (s := ⟨(hp.push (PySem.W.kdv_tup [v])).push (excO C hp.objs.size), g, dr, tk, os⟩) fam T (inK.keeps keep) (lim.keeps keep) isE offK ?_ fun h' tk' dx k' hx dn dne hns => ?_
  · show A.depth + 1 < recursionLimit
    exact room
  · have old : ∀ b o, hp.get? b = some o → h'.get? b = some o := fun b o e => k' b o (Nat.ne_of_lt (Nat.lt_succ_of_lt (Heap.lt_size e))) (keep b o e)
    have z : hp.objs.size + 1 + 1 ≤ dx := by
      have y := dn
      rw [Heap.size_push, Heap.size_push] at y
      exact y
    exact ⟨rfl, done h' tk' (hp.objs.size + 1) dx ⟨old, Nat.le_succ _, ⟨_, _, hx, rfl, rfl, rfl, rfl⟩, (show hp.objs.size ≤ dx by omega), dne, hns⟩⟩
end
theorem rel_value {v : V} {u : Value} (r : RelV v u) (f : Str) : RelO (List.lookup f [(("value" : Str), v)]) (if f = "value" then some u else none) := by
  by_cases h : f = "value"
  · subst h
    rw [if_pos rfl, show List.lookup ("value" : Str) [(("value" : Str), v)] = some v by simp [List.lookup]]
    exact r
  · have e : (f == ("value" : Str)) = false := by simpa using h
    rw [if_neg h, show List.lookup f [(("value" : Str), v)] = none by simp [List.lookup, e]]
    trivial
section
variable {X : Cx} {C fI : Addr} {B newId initId : String} {tail : List Value} {cn qn : Str}
/-- cn(e) -/
def tMk_value (C : Addr) (ta : TA) : L2.St → Hp → XK → Prop := fun σ H Q => ta σ H fun vs H1 => ∃ v, vs = [v] ∧ ∀ d, H1 d = none → Q (.ref C) (some d) (upd H1 d (.xd [(("value" : Str), v)]))
theorem pmk_value {a : Expr} {ta : TA} {p pos : Pos} {k : Nat} (fam : Fam B newId initId tail) (T : Err_value X.K X.mg newId tail cn qn C fI) (hr : Room k X.A) (ha : PA X [a] ta) (hg : Gl X cn)
    (he : starEach (a :: []) X.env = (false, eval a X.env) :: starEach [] X.env := by rfl) (hpl : (backTo pos (starEach [] X.env)).any (·.1) = false := by rfl) :
    PMk X (.Call (.Name cn p) [a] [] pos) (tMk_value C ta) := by
  intro pins s σ H Q I h
  refine wpAny_Call_Name_kw (ld_glob I hg T.gC ?_ T.nd)
  refine PySem.W.callWith_K (h₀ := X.base) I.ok.mod.kin T.kC (thn (ha.run pos pins s σ H _ I h) ?_) he hpl
  rintro us s1 ⟨vs, H1, I1, r1, v, rfl, q1⟩
  refine ⟨I1.kIn, ?_⟩
  cases r1 with
  | @cons _ v' _ us' rv rn =>
    cases rn
    show wpAny _ _ (call (.ref C) [v']) _ _ _
    have lim := I1.nolimit
    obtain ⟨hp, g, dr, tk, os⟩ := s1
    refine wpAny_call (made_value fam T I1.kIn lim (by have := hr.dp; omega) fun h' tk' e d M => ?_)
    show MkP X pins σ Q (.ref e) ⟨h', g, dr, tk', os⟩
    obtain ⟨oe, fv, hoe, hc, hd, hdat, h1⟩ := M.obj
    obtain ⟨G', g1, g2⟩ := restrict h' fun b => decide (b ≠ e)
    have gk : ∀ b, b ≠ e → G'.get? b = h'.get? b := fun b hb => g1 b (decide_eq_true hb)
    have ge : G'.get? e = none := g2 e (by simp)
    have old : ∀ b o, hp.get? b = some o → G'.get? b = some o := by
      intro b o z
      refine (gk b (Nat.ne_of_lt (Nat.lt_of_lt_of_le (Heap.lt_size z) M.new))).trans ?_
      exact M.keep b o z
    have ok : ObjOk X.prog X.w (upd H1 d (.xd [(("value" : Str), v)])) G' d (.xd [(("value" : Str), v)]) :=
      ⟨_, M.ns.at (fun o z => (gk d M.dne).trans z), fun f => rel_value rv f⟩
    have J : Inv X pins σ (upd H1 d (.xd [(("value" : Str), v)])) ⟨G', g, dr, tk', os⟩ := I1.laid (t' := tk') old M.dbig ok
    refine ⟨e, oe, fv, ⟨G', g, dr, tk', os⟩, _, .ref C, some d, rfl, J, ?_, ge, hoe, ⟨hc, hd⟩, hdat, h1, ?_, rfl, I1.bare, raises_own T.exC T.tyC, q1 d (I1.hok.fresh M.dbig)⟩
    · intro b o z
      by_cases hb : b = e
      · have z' : G'.get? b = some o := z
        rw [hb, ge] at z'
        cases z'
      · exact (gk b hb).symm.trans z
    · rw [upd_ne (Ne.symm M.dne)]
      exact I1.hok.fresh M.new
/-- raise cn(e) -/
def tRaise_value (C : Addr) (W : WX) (ta : TA) : TS := fun _ σ H => tMk_value C ta σ H fun cls d H' => W cls d σ H'
theorem ps_raise_value {a : Expr} {ta : TA} {W : WX} {p pos pos2 : Pos} {k : Nat} (hc : X.calm = true) (fam : Fam B newId initId tail) (T : Err_value X.K X.mg newId tail cn qn C fI) (hr : Room k X.A) (tk : Takes X W) (ha : PA X [a] ta) (hg : Gl X cn)
    (he : starEach (a :: []) X.env = (false, eval a X.env) :: starEach [] X.env := by rfl) (hpl : (backTo pos (starEach [] X.env)).any (·.1) = false := by rfl) :
    PS X (.Raise (some (.Call (.Name cn p) [a] [] pos)) none pos2) (tRaise_value C W ta) := ps_raise hc tk (pmk_value fam T hr ha hg he hpl)
/-- err.value, err the error that the suite holds (at a; its class cls, its dict d) -/
def tFld_value (C : Addr) (a : Addr) (cls : Value) (d : Option Addr) (te : TE) : TE := fun σ H Q => te σ H fun x H1 => x = .ref a ∧ cls = .ref C ∧ ∃ (dd : Addr) (v : V), d = some dd ∧ H1 dd = some (.xd [(("value" : Str), v)]) ∧ Q v H1
theorem pe_fld_value {a : Addr} {oe : Obj} {cls : Value} {d : Option Addr} {pn : List (Addr × Obj)} {e : Expr} {te : TE} {pos : Pos} (T : Err_value X.K X.mg newId tail cn qn C fI) (hz : Zc cls d oe) (hf : ∃ vs, oe.data = .fields vs) (he : PE (X.suite a ((a, oe) :: pn)) e te)
    (hb : attributeBase e "value" X.env (eval e X.env) = eval e X.env := by rfl) :
    PE (X.suite a ((a, oe) :: pn)) (.Attribute e "value" pos) (tFld_value C a cls d te) := by
  constructor
  intro pins s σ H Q I h
  refine attr_of hb (thn (he.run pins s σ H _ I h) ?_)
  rintro u s1 ⟨x, H1, I1, rx, rfl, rfl, dd, v, rfl, ea, q⟩
  cases rx
  obtain ⟨ha, _⟩ := I1.pin (a, oe) (List.mem_append_left _ List.mem_cons_self)
  obtain ⟨vs, hd⟩ := hf
  have ok : ObjOk X.prog X.w H1 s1.heap dd (.xd [(("value" : Str), v)]) := I1.hok dd _ ea
  obtain ⟨mA, hns, hr⟩ := ok
  obtain ⟨od, ho, hl⟩ := lookIn_ns hns
  have look : List.lookup ("value" : Str) [(("value" : Str), v)] = some v := by simp [List.lookup]
  obtain ⟨u, hu, ru⟩ := RelO.some_of (v := v) (o := mA "value") (by rw [← look]; exact hr "value")
  have J : PySem.W.InstAt s1.heap a oe C (some od) := ⟨ha, hz.1, by unfold PySem.W.notCls; rw [hd] <;> rfl, by rw [hz.2]; exact ho⟩
  exact HandSPX.exc_get I1.kIn J T.ga T.gg T.exC (PySem.W.findObj_own T.hdC T.noN rfl (by rw [hl, hu])) (handed_of ru) ⟨v, H1, I1.tok _, ru, q⟩
end
/-! ### errors with the field path -/
def iA_path (p1 p2 : Pos) : Arguments := { posonlyargs := [], args := [{ arg := "self", annotation := none, pos := p1 }, { arg := "path", annotation := none, pos := p2 }], vararg := none, kwonlyargs := [], kw_defaults := [], kwarg := none, defaults := [] }
def iB_path (q1 q2 q3 q4 : Pos) : List Stmt := [.Assign [.Attribute (.Name "self" q1) "path" q2] (.Name "path" q3) q4]
def iS_path : Scope := { kind := .function, names := [(PySem.Str.ofString "self", .local), (PySem.Str.ofString "path", .local)], isGenerator := false, isCoroutine := false, more := [] }
/-- what the written part says of the class cn, at C, and of its __init__, at fI -/
structure Err_path (K : PySem.W.Frag) (mg : Str → Option Value) (newId : String) (tail : List Value) (cn qn : Str) (C fI : Addr) : Prop where
  gC : mg cn = some (.ref C)
  nd : (cn == ("__debug__" : Str)) = false
  cls : ∃ nm q N bs bm sn sub ab col dd k0 k1 k2 k3 k5, K.lookup C = some (excClassObj nm q C N bs bm true sn sub ab col dd k0 k1 k2 k3 k5 newId) ∧ refsT tail bm = true
  sa : PySem.W.findIn K (.ref C) "__setattr__" = some (some (.builtin "object.__setattr__"))
  ga : PySem.W.findIn K (.ref C) "__getattribute__" = some (some (.builtin "BaseException.__getattribute__"))
  gg : PySem.W.findIn K (.ref C) "__getattr__" = some none
  noN : PySem.W.findIn K (.ref C) "path" = some none
  iC : PySem.W.findIn K (.ref C) "__init__" = some (some (.ref fI))
  tC : PySem.W.typeIn K (.ref fI) = some (.type "function")
  kC : PySem.W.keepIn K (.ref C) = true
  exC : PySem.W.subIn K (.ref C) (.type "BaseException") = some true
  tyC : PySem.W.typeIn K (.ref C) = some (.type "type")
  hdC : PySem.W.hasDictIn K C = true
  fn : ∃ (oc : Value) (od : Option Addr) (doc pm : Value) (an : Option Addr) (cdv ct : Value) (osl : Array (Option Value)) (p1 p2 q1 q2 q3 q4 : Pos),
    K.lookup fI = some ⟨oc, od, .func (PySem.W.fnOf "__init__" qn (iA_path p1 p2) (iB_path q1 q2 q3 q4) iS_path .none .none doc pm an cdv ct), osl⟩ ∧ PySem.W.codeIn K cdv qn = true
section
open PySem.Builtin PySem.Builtin.ObjectAttr PySem.HandSPX
variable {prog : Program} {w : World} {A : Around} {E : Value → Shared → Prop} {R : Result → Shared → Prop} {s : Shared} {K : PySem.W.Frag} {mg : Str → Option Value} {C fI : Addr} {B newId initId : String} {tail : List Value} {cn qn : Str}
theorem init_path (fam : Fam B newId initId tail) (T : Err_path K mg newId tail cn qn C fI) {x t0 : Addr} {v : Value} (inK : K.In s.heap) (lim : s.heap.NoLimit) (isX : s.heap.get? x = some (excO C t0)) (offK : K.lookup x = none) (room : A.depth < recursionLimit)
    (done : ∀ h' tk dx, (∀ b o, b ≠ x → s.heap.get? b = some o → h'.get? b = some o) → h'.get? x = some { cls := .ref C, dict := some dx, data := .fields #[.ref t0, .none, .none, .none, .bool false, .none] } → s.heap.objs.size ≤ dx → dx ≠ x →
      h'.Ns1 dx (fun y => if y = "path" then some v else none) → R (.ok (.ret .none)) { s with heap := h', toks := tk }) :
    codeAny (model prog w) A (.call (.ref fI) ⟨[.ref x, v], []⟩) R s := by
  obtain ⟨oc, od, doc, pm, an, cdv, ct, osl, p1, p2, q1, q2, q3, q4, isF, isCode⟩ := T.fn
  obtain ⟨nm, q, N, bs, bm, sn, sub, ab, col, dd, k0, k1, k2, k3, k5, isC, isM⟩ := T.cls
  have cls : PySem.W.clsIn K C = some { name := nm, bases := bs, mro := .ref C :: bm, ns := N, qualname := q, hasDict := true, slotNames := sn, subclasses := sub, abstract := ab, collection := col, hasDel := false } := by
    unfold PySem.W.clsIn
    rw [isC] <;> rfl
  refine Att.call_fn (binds := [("self", .ref x), ("path", v)]) inK lim isF isCode room (BindsTo.of_eq (by first | rfl | with_unfolding_all rfl)) (by first | rfl | decide | with_unfolding_all rfl) (fun s₁ IC => ?_) rfl rfl rfl
  obtain ⟨h₁, tk₁, rfl⟩ := IC.toInCall.same
  have keep : ∀ b o, s.heap.get? b = some o → h₁.get? b = some o := IC.toInCall.keep
  have locals := IC.toInCall.ns
  have inK₁ : K.In h₁ := inK.keeps keep
  have isX₁ := keep _ _ isX
  show wpAny _ _ (execs _ _) _ _ _
  refine wpAny_execs_cons (plainObj_wpAny_Assign_Attribute ?_)
  refine wpAny_Name (wpAny_loadName_local (by rfl) (by rfl) locals (v := v) (by first | rfl | with_unfolding_all rfl | kernel_rfl) ?_) (by decide)
  refine wpAny_Name (wpAny_loadName_local (by rfl) (by rfl) locals (v := .ref x) (by first | rfl | with_unfolding_all rfl | kernel_rfl) ?_) (by decide)
  refine PySem.W.set_plain inK₁ (ox := excO C t0) (od := none) ⟨isX₁, rfl, rfl, trivial⟩ T.sa ?_
  refine first_field fam inK₁ isX₁ cls (show refsT tail (.ref C :: bm) = true from isM) rfl T.noN (fun h₃ tk₃ dx k₃ dn dne hx₃ hn₃ => ?_)
  show wpAny _ _ (execs _ _) _ _ _
  have z : s.heap.objs.size < h₁.objs.size := locals.lt
  exact wpAny_execs_nil (done h₃ tk₃ dx (fun b o hb e => k₃ b o hb (keep b o e)) hx₃ (Nat.le_of_lt (Nat.lt_of_lt_of_le z dn)) dne hn₃)
/-- a made error -/
structure Made_path (h h' : Heap) (e C d : Addr) (v : Value) : Prop where
  keep : ∀ b o, h.get? b = some o → h'.get? b = some o
  new : h.objs.size ≤ e
  obj : ∃ oe vs, h'.get? e = some oe ∧ oe.cls = .ref C ∧ oe.dict = some d ∧ oe.data = .fields vs ∧ vs[1]? = some .none
  dbig : h.objs.size ≤ d
  dne : d ≠ e
  ns : h'.Ns1 d (fun y => if y = "path" then some v else none)
theorem made_path (fam : Fam B newId initId tail) (T : Err_path K mg newId tail cn qn C fI) {v : Value} (inK : K.In s.heap) (lim : s.heap.NoLimit) (room : A.depth + 1 < recursionLimit)
    (done : ∀ h' tk e d, Made_path s.heap h' e C d v → R (.ok (.ret (.ref e))) { s with heap := h', toks := tk }) :
    codeAny (model prog w) A (.call (.ref C) ⟨[v], []⟩) R s := by
  obtain ⟨nm, q, N, bs, bm, sn, sub, ab, col, dd, k0, k1, k2, k3, k5, isC, isM⟩ := T.cls
  obtain ⟨hp, g, dr, tk, os⟩ := s
  have keep : ∀ b o, hp.get? b = some o → ((hp.push (PySem.W.kdv_tup [v])).push (excO C hp.objs.size)).get? b = some o := fun b o e => Heap.get?_push_of_some _ (Heap.get?_push_of_some _ e)
  have isE : ((hp.push (PySem.W.kdv_tup [v])).push (excO C hp.objs.size)).get? (hp.objs.size + 1) = some (excO C hp.objs.size) := by heap_get
  have offK : K.lookup (hp.objs.size + 1) = none := by
    cases e : K.lookup (hp.objs.size + 1) with
    | none => rfl
    | some o => exact absurd (Nat.lt_of_succ_lt (Heap.lt_size (inK _ _ e))) (Nat.lt_irrefl _)
  refine call_own fam.facts (fun X => refsT_has X bm isM) (inK _ _ isC) (PySem.W.looks_findIn inK T.iC) (fun self => PySem.W.bind_fn inK self T.tC) (by show 1 ≤ sizeLine; decide) ?_
  refine init_path (s := ⟨(hp.push (PySem.W.kdv_tup [v])).push (excO C hp.objs.size), g, dr, tk, os⟩) fam T (inK.keeps keep) (lim.keeps keep) isE offK ?_ fun h' tk' dx k' hx dn dne hns => ?_
  · show A.depth + 1 < recursionLimit
    exact room
  · have old : ∀ b o, hp.get? b = some o → h'.get? b = some o := fun b o e => k' b o (Nat.ne_of_lt (Nat.lt_succ_of_lt (Heap.lt_size e))) (keep b o e)
    have z : hp.objs.size + 1 + 1 ≤ dx := by
      have y := dn
      rw [Heap.size_push, Heap.size_push] at y
      exact y
    exact ⟨rfl, done h' tk' (hp.objs.size + 1) dx ⟨old, Nat.le_succ _, ⟨_, _, hx, rfl, rfl, rfl, rfl⟩, (show hp.objs.size ≤ dx by omega), dne, hns⟩⟩
end
theorem rel_path {v : V} {u : Value} (r : RelV v u) (f : Str) : RelO (List.lookup f [(("path" : Str), v)]) (if f = "path" then some u else none) := by
  by_cases h : f = "path"
  · subst h
    rw [if_pos rfl, show List.lookup ("path" : Str) [(("path" : Str), v)] = some v by simp [List.lookup]]
    exact r
  · have e : (f == ("path" : Str)) = false := by simpa using h
    rw [if_neg h, show List.lookup f [(("path" : Str), v)] = none by simp [List.lookup, e]]
    trivial
section
variable {X : Cx} {C fI : Addr} {B newId initId : String} {tail : List Value} {cn qn : Str}
/-- cn(e) -/
def tMk_path (C : Addr) (ta : TA) : L2.St → Hp → XK → Prop := fun σ H Q => ta σ H fun vs H1 => ∃ v, vs = [v] ∧ ∀ d, H1 d = none → Q (.ref C) (some d) (upd H1 d (.xd [(("path" : Str), v)]))
theorem pmk_path {a : Expr} {ta : TA} {p pos : Pos} {k : Nat} (fam : Fam B newId initId tail) (T : Err_path X.K X.mg newId tail cn qn C fI) (hr : Room k X.A) (ha : PA X [a] ta) (hg : Gl X cn)
    (he : starEach (a :: []) X.env = (false, eval a X.env) :: starEach [] X.env := by rfl) (hpl : (backTo pos (starEach [] X.env)).any (·.1) = false := by rfl) :
    PMk X (.Call (.Name cn p) [a] [] pos) (tMk_path C ta) := by
  intro pins s σ H Q I h
  refine wpAny_Call_Name_kw (ld_glob I hg T.gC ?_ T.nd)
  refine PySem.W.callWith_K (h₀ := X.base) I.ok.mod.kin T.kC (thn (ha.run pos pins s σ H _ I h) ?_) he hpl
  rintro us s1 ⟨vs, H1, I1, r1, v, rfl, q1⟩
  refine ⟨I1.kIn, ?_⟩
  cases r1 with
  | @cons _ v' _ us' rv rn =>
    cases rn
    show wpAny _ _ (call (.ref C) [v']) _ _ _
    have lim := I1.nolimit
    obtain ⟨hp, g, dr, tk, os⟩ := s1
    refine wpAny_call (made_path fam T I1.kIn lim (by have := hr.dp; omega) fun h' tk' e d M => ?_)
    show MkP X pins σ Q (.ref e) ⟨h', g, dr, tk', os⟩
    obtain ⟨oe, fv, hoe, hc, hd, hdat, h1⟩ := M.obj
    obtain ⟨G', g1, g2⟩ := restrict h' fun b => decide (b ≠ e)
    have gk : ∀ b, b ≠ e → G'.get? b = h'.get? b := fun b hb => g1 b (decide_eq_true hb)
    have ge : G'.get? e = none := g2 e (by simp)
    have old : ∀ b o, hp.get? b = some o → G'.get? b = some o := by
      intro b o z
      refine (gk b (Nat.ne_of_lt (Nat.lt_of_lt_of_le (Heap.lt_size z) M.new))).trans ?_
      exact M.keep b o z
    have ok : ObjOk X.prog X.w (upd H1 d (.xd [(("path" : Str), v)])) G' d (.xd [(("path" : Str), v)]) :=
      ⟨_, M.ns.at (fun o z => (gk d M.dne).trans z), fun f => rel_path rv f⟩
    have J : Inv X pins σ (upd H1 d (.xd [(("path" : Str), v)])) ⟨G', g, dr, tk', os⟩ := I1.laid (t' := tk') old M.dbig ok
    refine ⟨e, oe, fv, ⟨G', g, dr, tk', os⟩, _, .ref C, some d, rfl, J, ?_, ge, hoe, ⟨hc, hd⟩, hdat, h1, ?_, rfl, I1.bare, raises_own T.exC T.tyC, q1 d (I1.hok.fresh M.dbig)⟩
    · intro b o z
      by_cases hb : b = e
      · have z' : G'.get? b = some o := z
        rw [hb, ge] at z'
        cases z'
      · exact (gk b hb).symm.trans z
    · rw [upd_ne (Ne.symm M.dne)]
      exact I1.hok.fresh M.new
/-- raise cn(e) -/
def tRaise_path (C : Addr) (W : WX) (ta : TA) : TS := fun _ σ H => tMk_path C ta σ H fun cls d H' => W cls d σ H'
theorem ps_raise_path {a : Expr} {ta : TA} {W : WX} {p pos pos2 : Pos} {k : Nat} (hc : X.calm = true) (fam : Fam B newId initId tail) (T : Err_path X.K X.mg newId tail cn qn C fI) (hr : Room k X.A) (tk : Takes X W) (ha : PA X [a] ta) (hg : Gl X cn)
    (he : starEach (a :: []) X.env = (false, eval a X.env) :: starEach [] X.env := by rfl) (hpl : (backTo pos (starEach [] X.env)).any (·.1) = false := by rfl) :
    PS X (.Raise (some (.Call (.Name cn p) [a] [] pos)) none pos2) (tRaise_path C W ta) := ps_raise hc tk (pmk_path fam T hr ha hg he hpl)
/-- err.path, err the error that the suite holds (at a; its class cls, its dict d) -/
def tFld_path (C : Addr) (a : Addr) (cls : Value) (d : Option Addr) (te : TE) : TE := fun σ H Q => te σ H fun x H1 => x = .ref a ∧ cls = .ref C ∧ ∃ (dd : Addr) (v : V), d = some dd ∧ H1 dd = some (.xd [(("path" : Str), v)]) ∧ Q v H1
theorem pe_fld_path {a : Addr} {oe : Obj} {cls : Value} {d : Option Addr} {pn : List (Addr × Obj)} {e : Expr} {te : TE} {pos : Pos} (T : Err_path X.K X.mg newId tail cn qn C fI) (hz : Zc cls d oe) (hf : ∃ vs, oe.data = .fields vs) (he : PE (X.suite a ((a, oe) :: pn)) e te)
    (hb : attributeBase e "path" X.env (eval e X.env) = eval e X.env := by rfl) :
    PE (X.suite a ((a, oe) :: pn)) (.Attribute e "path" pos) (tFld_path C a cls d te) := by
  constructor
  intro pins s σ H Q I h
  refine attr_of hb (thn (he.run pins s σ H _ I h) ?_)
  rintro u s1 ⟨x, H1, I1, rx, rfl, rfl, dd, v, rfl, ea, q⟩
  cases rx
  obtain ⟨ha, _⟩ := I1.pin (a, oe) (List.mem_append_left _ List.mem_cons_self)
  obtain ⟨vs, hd⟩ := hf
  have ok : ObjOk X.prog X.w H1 s1.heap dd (.xd [(("path" : Str), v)]) := I1.hok dd _ ea
  obtain ⟨mA, hns, hr⟩ := ok
  obtain ⟨od, ho, hl⟩ := lookIn_ns hns
  have look : List.lookup ("path" : Str) [(("path" : Str), v)] = some v := by simp [List.lookup]
  obtain ⟨u, hu, ru⟩ := RelO.some_of (v := v) (o := mA "path") (by rw [← look]; exact hr "path")
  have J : PySem.W.InstAt s1.heap a oe C (some od) := ⟨ha, hz.1, by unfold PySem.W.notCls; rw [hd] <;> rfl, by rw [hz.2]; exact ho⟩
  exact HandSPX.exc_get I1.kIn J T.ga T.gg T.exC (PySem.W.findObj_own T.hdC T.noN rfl (by rw [hl, hu])) (handed_of ru) ⟨v, H1, I1.tok _, ru, q⟩
end
/-! ### errors with the field letter -/
def iA_letter (p1 p2 : Pos) : Arguments := { posonlyargs := [], args := [{ arg := "self", annotation := none, pos := p1 }, { arg := "letter", annotation := none, pos := p2 }], vararg := none, kwonlyargs := [], kw_defaults := [], kwarg := none, defaults := [] }
def iB_letter (q1 q2 q3 q4 : Pos) : List Stmt := [.Assign [.Attribute (.Name "self" q1) "letter" q2] (.Name "letter" q3) q4]
def iS_letter : Scope := { kind := .function, names := [(PySem.Str.ofString "self", .local), (PySem.Str.ofString "letter", .local)], isGenerator := false, isCoroutine := false, more := [] }
/-- what the written part says of the class cn, at C, and of its __init__, at fI -/
structure Err_letter (K : PySem.W.Frag) (mg : Str → Option Value) (newId : String) (tail : List Value) (cn qn : Str) (C fI : Addr) : Prop where
  gC : mg cn = some (.ref C)
  nd : (cn == ("__debug__" : Str)) = false
  cls : ∃ nm q N bs bm sn sub ab col dd k0 k1 k2 k3 k5, K.lookup C = some (excClassObj nm q C N bs bm true sn sub ab col dd k0 k1 k2 k3 k5 newId) ∧ refsT tail bm = true
  sa : PySem.W.findIn K (.ref C) "__setattr__" = some (some (.builtin "object.__setattr__"))
  ga : PySem.W.findIn K (.ref C) "__getattribute__" = some (some (.builtin "BaseException.__getattribute__"))
  gg : PySem.W.findIn K (.ref C) "__getattr__" = some none
  noN : PySem.W.findIn K (.ref C) "letter" = some none
  iC : PySem.W.findIn K (.ref C) "__init__" = some (some (.ref fI))
  tC : PySem.W.typeIn K (.ref fI) = some (.type "function")
  kC : PySem.W.keepIn K (.ref C) = true
  exC : PySem.W.subIn K (.ref C) (.type "BaseException") = some true
  tyC : PySem.W.typeIn K (.ref C) = some (.type "type")
  hdC : PySem.W.hasDictIn K C = true
  fn : ∃ (oc : Value) (od : Option Addr) (doc pm : Value) (an : Option Addr) (cdv ct : Value) (osl : Array (Option Value)) (p1 p2 q1 q2 q3 q4 : Pos),
    K.lookup fI = some ⟨oc, od, .func (PySem.W.fnOf "__init__" qn (iA_letter p1 p2) (iB_letter q1 q2 q3 q4) iS_letter .none .none doc pm an cdv ct), osl⟩ ∧ PySem.W.codeIn K cdv qn = true
section
open PySem.Builtin PySem.Builtin.ObjectAttr PySem.HandSPX
variable {prog : Program} {w : World} {A : Around} {E : Value → Shared → Prop} {R : Result → Shared → Prop} {s : Shared} {K : PySem.W.Frag} {mg : Str → Option Value} {C fI : Addr} {B newId initId : String} {tail : List Value} {cn qn : Str}
theorem init_letter (fam : Fam B newId initId tail) (T : Err_letter K mg newId tail cn qn C fI) {x t0 : Addr} {v : Value} (inK : K.In s.heap) (lim : s.heap.NoLimit) (isX : s.heap.get? x = some (excO C t0)) (offK : K.lookup x = none) (room : A.depth < recursionLimit)
    (done : ∀ h' tk dx, (∀ b o, b ≠ x → s.heap.get? b = some o → h'.get? b = some o) → h'.get? x = some { cls := .ref C, dict := some dx, data := .fields #[.ref t0, .none, .none, .none, .bool false, .none] } → s.heap.objs.size ≤ dx → dx ≠ x →
      h'.Ns1 dx (fun y => if y = "letter" then some v else none) → R (.ok (.ret .none)) { s with heap := h', toks := tk }) :
    codeAny (model prog w) A (.call (.ref fI) ⟨[.ref x, v], []⟩) R s := by
  obtain ⟨oc, od, doc, pm, an, cdv, ct, osl, p1, p2, q1, q2, q3, q4, isF, isCode⟩ := T.fn
  obtain ⟨nm, q, N, bs, bm, sn, sub, ab, col, dd, k0, k1, k2, k3, k5, isC, isM⟩ := T.cls
  have cls : PySem.W.clsIn K C = some { name := nm, bases := bs, mro := .ref C :: bm, ns := N, qualname := q, hasDict := true, slotNames := sn, subclasses := sub, abstract := ab, collection := col, hasDel := false } := by
    unfold PySem.W.clsIn
    rw [isC] <;> rfl
  refine Att.call_fn (binds := [("self", .ref x), ("letter", v)]) inK lim isF isCode room (BindsTo.of_eq (by first | rfl | with_unfolding_all rfl)) (by first | rfl | decide | with_unfolding_all rfl) (fun s₁ IC => ?_) rfl rfl rfl
  obtain ⟨h₁, tk₁, rfl⟩ := IC.toInCall.same
  have keep : ∀ b o, s.heap.get? b = some o → h₁.get? b = some o := IC.toInCall.keep
  have locals := IC.toInCall.ns
  have inK₁ : K.In h₁ := inK.keeps keep
  have isX₁ := keep _ _ isX
  show wpAny _ _ (execs _ _) _ _ _
  refine wpAny_execs_cons (plainObj_wpAny_Assign_Attribute ?_)
  refine wpAny_Name (wpAny_loadName_local (by rfl) (by rfl) locals (v := v) (by first | rfl | with_unfolding_all rfl | kernel_rfl) ?_) (by decide)
  refine wpAny_Name (wpAny_loadName_local (by rfl) (by rfl) locals (v := .ref x) (by first | rfl | with_unfolding_all rfl | kernel_rfl) ?_) (by decide)
  refine PySem.W.set_plain inK₁ (ox := excO C t0) (od := none) ⟨isX₁, rfl, rfl, trivial⟩ T.sa ?_
  refine first_field fam inK₁ isX₁ cls (show refsT tail (.ref C :: bm) = true from isM) rfl T.noN (fun h₃ tk₃ dx k₃ dn dne hx₃ hn₃ => ?_)
  show wpAny _ _ (execs _ _) _ _ _
  have z : s.heap.objs.size < h₁.objs.size := locals.lt
  exact wpAny_execs_nil (done h₃ tk₃ dx (fun b o hb e => k₃ b o hb (keep b o e)) hx₃ (Nat.le_of_lt (Nat.lt_of_lt_of_le z dn)) dne hn₃)
/-- a made error -/
structure Made_letter (h h' : Heap) (e C d : Addr) (v : Value) : Prop where
  keep : ∀ b o, h.get? b = some o → h'.get? b = some o
  new : h.objs.size ≤ e
  obj : ∃ oe vs, h'.get? e = some oe ∧ oe.cls = .ref C ∧ oe.dict = some d ∧ oe.data = .fields vs ∧ vs[1]? = some .none
  dbig : h.objs.size ≤ d
  dne : d ≠ e
  ns : h'.Ns1 d (fun y => if y = "letter" then some v else none)
theorem made_letter (fam : Fam B newId initId tail) (T : Err_letter K mg newId tail cn qn C fI) {v : Value} (inK : K.In s.heap) (lim : s.heap.NoLimit) (room : A.depth + 1 < recursionLimit)
    (done : ∀ h' tk e d, Made_letter s.heap h' e C d v → R (.ok (.ret (.ref e))) { s with heap := h', toks := tk }) :
    codeAny (model prog w) A (.call (.ref C) ⟨[v], []⟩) R s := by
  obtain ⟨nm, q, N, bs, bm, sn, sub, ab, col, dd, k0, k1, k2, k3, k5, isC, isM⟩ := T.cls
  obtain ⟨hp, g, dr, tk, os⟩ := s
  have keep : ∀ b o, hp.get? b = some o → ((hp.push (PySem.W.kdv_tup [v])).push (excO C hp.objs.size)).get? b = some o := fun b o e => Heap.get?_push_of_some _ (Heap.get?_push_of_some _ e)
  have isE : ((hp.push (PySem.W.kdv_tup [v])).push (excO C hp.objs.size)).get? (hp.objs.size + 1) = some (excO C hp.objs.size) := by heap_get
  have offK : K.lookup (hp.objs.size + 1) = none := by
    cases e : K.lookup (hp.objs.size + 1) with
    | none => rfl
    | some o => exact absurd (Nat.lt_of_succ_lt (Heap.lt_size (inK _ _ e))) (Nat.lt_irrefl _)
  refine call_own fam.facts (fun X => refsT_has X bm isM) (inK _ _ isC) (PySem.W.looks_findIn inK T.iC) (fun self => PySem.W.bind_fn inK self T.tC) (by show 1 ≤ sizeLine; decide) ?_
  refine init_letter (s := ⟨(hp.push (PySem.W.kdv_tup [v])).push (excO C hp.objs.size), g, dr, tk, os⟩) fam T (inK.keeps keep) (lim.keeps keep) isE offK ?_ fun h' tk' dx k' hx dn dne hns => ?_
  · show A.depth + 1 < recursionLimit
    exact room
  · have old : ∀ b o, hp.get? b = some o → h'.get? b = some o := fun b o e => k' b o (Nat.ne_of_lt (Nat.lt_succ_of_lt (Heap.lt_size e))) (keep b o e)
    have z : hp.objs.size + 1 + 1 ≤ dx := by
      have y := dn
      rw [Heap.size_push, Heap.size_push] at y
      exact y
    exact ⟨rfl, done h' tk' (hp.objs.size + 1) dx ⟨old, Nat.le_succ _, ⟨_, _, hx, rfl, rfl, rfl, rfl⟩, (show hp.objs.size ≤ dx by omega), dne, hns⟩⟩
end
theorem rel_letter {v : V} {u : Value} (r : RelV v u) (f : Str) : RelO (List.lookup f [(("letter" : Str), v)]) (if f = "letter" then some u else none) := by
  by_cases h : f = "letter"
  · subst h
    rw [if_pos rfl, show List.lookup ("letter" : Str) [(("letter" : Str), v)] = some v by simp [List.lookup]]
    exact r
  · have e : (f == ("letter" : Str)) = false := by simpa using h
    rw [if_neg h, show List.lookup f [(("letter" : Str), v)] = none by simp [List.lookup, e]]
    trivial
section
variable {X : Cx} {C fI : Addr} {B newId initId : String} {tail : List Value} {cn qn : Str}
/-- cn(e) -/
def tMk_letter (C : Addr) (ta : TA) : L2.St → Hp → XK → Prop := fun σ H Q => ta σ H fun vs H1 => ∃ v, vs = [v] ∧ ∀ d, H1 d = none → Q (.ref C) (some d) (upd H1 d (.xd [(("letter" : Str), v)]))
theorem pmk_letter {a : Expr} {ta : TA} {p pos : Pos} {k : Nat} (fam : Fam B newId initId tail) (T : Err_letter X.K X.mg newId tail cn qn C fI) (hr : Room k X.A) (ha : PA X [a] ta) (hg : Gl X cn)
    (he : starEach (a :: []) X.env = (false, eval a X.env) :: starEach [] X.env := by rfl) (hpl : (backTo pos (starEach [] X.env)).any (·.1) = false := by rfl) :
    PMk X (.Call (.Name cn p) [a] [] pos) (tMk_letter C ta) := by
  intro pins s σ H Q I h
  refine wpAny_Call_Name_kw (ld_glob I hg T.gC ?_ T.nd)
  refine PySem.W.callWith_K (h₀ := X.base) I.ok.mod.kin T.kC (thn (ha.run pos pins s σ H _ I h) ?_) he hpl
  rintro us s1 ⟨vs, H1, I1, r1, v, rfl, q1⟩
  refine ⟨I1.kIn, ?_⟩
  cases r1 with
  | @cons _ v' _ us' rv rn =>
    cases rn
    show wpAny _ _ (call (.ref C) [v']) _ _ _
    have lim := I1.nolimit
    obtain ⟨hp, g, dr, tk, os⟩ := s1
    refine wpAny_call (made_letter fam T I1.kIn lim (by have := hr.dp; omega) fun h' tk' e d M => ?_)
    show MkP X pins σ Q (.ref e) ⟨h', g, dr, tk', os⟩
    obtain ⟨oe, fv, hoe, hc, hd, hdat, h1⟩ := M.obj
    obtain ⟨G', g1, g2⟩ := restrict h' fun b => decide (b ≠ e)
    have gk : ∀ b, b ≠ e → G'.get? b = h'.get? b := fun b hb => g1 b (decide_eq_true hb)
    have ge : G'.get? e = none := g2 e (by simp)
    have old : ∀ b o, hp.get? b = some o → G'.get? b = some o := by
      intro b o z
      refine (gk b (Nat.ne_of_lt (Nat.lt_of_lt_of_le (Heap.lt_size z) M.new))).trans ?_
      exact M.keep b o z
    have ok : ObjOk X.prog X.w (upd H1 d (.xd [(("letter" : Str), v)])) G' d (.xd [(("letter" : Str), v)]) :=
      ⟨_, M.ns.at (fun o z => (gk d M.dne).trans z), fun f => rel_letter rv f⟩
    have J : Inv X pins σ (upd H1 d (.xd [(("letter" : Str), v)])) ⟨G', g, dr, tk', os⟩ := I1.laid (t' := tk') old M.dbig ok
    refine ⟨e, oe, fv, ⟨G', g, dr, tk', os⟩, _, .ref C, some d, rfl, J, ?_, ge, hoe, ⟨hc, hd⟩, hdat, h1, ?_, rfl, I1.bare, raises_own T.exC T.tyC, q1 d (I1.hok.fresh M.dbig)⟩
    · intro b o z
      by_cases hb : b = e
      · have z' : G'.get? b = some o := z
        rw [hb, ge] at z'
        cases z'
      · exact (gk b hb).symm.trans z
    · rw [upd_ne (Ne.symm M.dne)]
      exact I1.hok.fresh M.new
/-- raise cn(e) -/
def tRaise_letter (C : Addr) (W : WX) (ta : TA) : TS := fun _ σ H => tMk_letter C ta σ H fun cls d H' => W cls d σ H'
theorem ps_raise_letter {a : Expr} {ta : TA} {W : WX} {p pos pos2 : Pos} {k : Nat} (hc : X.calm = true) (fam : Fam B newId initId tail) (T : Err_letter X.K X.mg newId tail cn qn C fI) (hr : Room k X.A) (tk : Takes X W) (ha : PA X [a] ta) (hg : Gl X cn)
    (he : starEach (a :: []) X.env = (false, eval a X.env) :: starEach [] X.env := by rfl) (hpl : (backTo pos (starEach [] X.env)).any (·.1) = false := by rfl) :
    PS X (.Raise (some (.Call (.Name cn p) [a] [] pos)) none pos2) (tRaise_letter C W ta) := ps_raise hc tk (pmk_letter fam T hr ha hg he hpl)
/-- err.letter, err the error that the suite holds (at a; its class cls, its dict d) -/
def tFld_letter (C : Addr) (a : Addr) (cls : Value) (d : Option Addr) (te : TE) : TE := fun σ H Q => te σ H fun x H1 => x = .ref a ∧ cls = .ref C ∧ ∃ (dd : Addr) (v : V), d = some dd ∧ H1 dd = some (.xd [(("letter" : Str), v)]) ∧ Q v H1
theorem pe_fld_letter {a : Addr} {oe : Obj} {cls : Value} {d : Option Addr} {pn : List (Addr × Obj)} {e : Expr} {te : TE} {pos : Pos} (T : Err_letter X.K X.mg newId tail cn qn C fI) (hz : Zc cls d oe) (hf : ∃ vs, oe.data = .fields vs) (he : PE (X.suite a ((a, oe) :: pn)) e te)
    (hb : attributeBase e "letter" X.env (eval e X.env) = eval e X.env := by rfl) :
    PE (X.suite a ((a, oe) :: pn)) (.Attribute e "letter" pos) (tFld_letter C a cls d te) := by
  constructor
  intro pins s σ H Q I h
  refine attr_of hb (thn (he.run pins s σ H _ I h) ?_)
  rintro u s1 ⟨x, H1, I1, rx, rfl, rfl, dd, v, rfl, ea, q⟩
  cases rx
  obtain ⟨ha, _⟩ := I1.pin (a, oe) (List.mem_append_left _ List.mem_cons_self)
  obtain ⟨vs, hd⟩ := hf
  have ok : ObjOk X.prog X.w H1 s1.heap dd (.xd [(("letter" : Str), v)]) := I1.hok dd _ ea
  obtain ⟨mA, hns, hr⟩ := ok
  obtain ⟨od, ho, hl⟩ := lookIn_ns hns
  have look : List.lookup ("letter" : Str) [(("letter" : Str), v)] = some v := by simp [List.lookup]
  obtain ⟨u, hu, ru⟩ := RelO.some_of (v := v) (o := mA "letter") (by rw [← look]; exact hr "letter")
  have J : PySem.W.InstAt s1.heap a oe C (some od) := ⟨ha, hz.1, by unfold PySem.W.notCls; rw [hd] <;> rfl, by rw [hz.2]; exact ho⟩
  exact HandSPX.exc_get I1.kIn J T.ga T.gg T.exC (PySem.W.findObj_own T.hdC T.noN rfl (by rw [hl, hu])) (handed_of ru) ⟨v, H1, I1.tok _, ru, q⟩
end
/-! ### errors with the field limit -/
def iA_limit (p1 p2 : Pos) : Arguments := { posonlyargs := [], args := [{ arg := "self", annotation := none, pos := p1 }, { arg := "limit", annotation := none, pos := p2 }], vararg := none, kwonlyargs := [], kw_defaults := [], kwarg := none, defaults := [] }
def iB_limit (q1 q2 q3 q4 : Pos) : List Stmt := [.Assign [.Attribute (.Name "self" q1) "limit" q2] (.Name "limit" q3) q4]
def iS_limit : Scope := { kind := .function, names := [(PySem.Str.ofString "self", .local), (PySem.Str.ofString "limit", .local)], isGenerator := false, isCoroutine := false, more := [] }
/-- what the written part says of the class cn, at C, and of its __init__, at fI -/
structure Err_limit (K : PySem.W.Frag) (mg : Str → Option Value) (newId : String) (tail : List Value) (cn qn : Str) (C fI : Addr) : Prop where
  gC : mg cn = some (.ref C)
  nd : (cn == ("__debug__" : Str)) = false
  cls : ∃ nm q N bs bm sn sub ab col dd k0 k1 k2 k3 k5, K.lookup C = some (excClassObj nm q C N bs bm true sn sub ab col dd k0 k1 k2 k3 k5 newId) ∧ refsT tail bm = true
  sa : PySem.W.findIn K (.ref C) "__setattr__" = some (some (.builtin "object.__setattr__"))
  ga : PySem.W.findIn K (.ref C) "__getattribute__" = some (some (.builtin "BaseException.__getattribute__"))
  gg : PySem.W.findIn K (.ref C) "__getattr__" = some none
  noN : PySem.W.findIn K (.ref C) "limit" = some none
  iC : PySem.W.findIn K (.ref C) "__init__" = some (some (.ref fI))
  tC : PySem.W.typeIn K (.ref fI) = some (.type "function")
  kC : PySem.W.keepIn K (.ref C) = true
  exC : PySem.W.subIn K (.ref C) (.type "BaseException") = some true
  tyC : PySem.W.typeIn K (.ref C) = some (.type "type")
  hdC : PySem.W.hasDictIn K C = true
  fn : ∃ (oc : Value) (od : Option Addr) (doc pm : Value) (an : Option Addr) (cdv ct : Value) (osl : Array (Option Value)) (p1 p2 q1 q2 q3 q4 : Pos),
    K.lookup fI = some ⟨oc, od, .func (PySem.W.fnOf "__init__" qn (iA_limit p1 p2) (iB_limit q1 q2 q3 q4) iS_limit .none .none doc pm an cdv ct), osl⟩ ∧ PySem.W.codeIn K cdv qn = true
section
open PySem.Builtin PySem.Builtin.ObjectAttr PySem.HandSPX
variable {prog : Program} {w : World} {A : Around} {E : Value → Shared → Prop} {R : Result → Shared → Prop} {s : Shared} {K : PySem.W.Frag} {mg : Str → Option Value} {C fI : Addr} {B newId initId : String} {tail : List Value} {cn qn : Str}
theorem init_limit (fam : Fam B newId initId tail) (T : Err_limit K mg newId tail cn qn C fI) {x t0 : Addr} {v : Value} (inK : K.In s.heap) (lim : s.heap.NoLimit) (isX : s.heap.get? x = some (excO C t0)) (offK : K.lookup x = none) (room : A.depth < recursionLimit)
    (done : ∀ h' tk dx, (∀ b o, b ≠ x → s.heap.get? b = some o → h'.get? b = some o) → h'.get? x = some { cls := .ref C, dict := some dx, data := .fields #[.ref t0, .none, .none, .none, .bool false, .none] } → s.heap.objs.size ≤ dx → dx ≠ x →
      h'.Ns1 dx (fun y => if y = "limit" then some v else none) → R (.ok (.ret .none)) { s with heap := h', toks := tk }) :
    codeAny (model prog w) A (.call (.ref fI) ⟨[.ref x, v], []⟩) R s := by
  obtain ⟨oc, od, doc, pm, an, cdv, ct, osl, p1, p2, q1, q2, q3, q4, isF, isCode⟩ := T.fn
  obtain ⟨nm, q, N, bs, bm, sn, sub, ab, col, dd, k0, k1, k2, k3, k5, isC, isM⟩ := T.cls
  have cls : PySem.W.clsIn K C = some { name := nm, bases := bs, mro := .ref C :: bm, ns := N, qualname := q, hasDict := true, slotNames := sn, subclasses := sub, abstract := ab, collection := col, hasDel := false } := by
    unfold PySem.W.clsIn
    rw [isC] <;> rfl
  refine Att.call_fn (binds := [("self", .ref x), ("limit", v)]) inK lim isF isCode room (BindsTo.of_eq (by first | rfl | with_unfolding_all rfl)) (by first | rfl | decide | with_unfolding_all rfl) (fun s₁ IC => ?_) rfl rfl rfl
  obtain ⟨h₁, tk₁, rfl⟩ := IC.toInCall.same
  have keep : ∀ b o, s.heap.get? b = some o → h₁.get? b = some o := IC.toInCall.keep
  have locals := IC.toInCall.ns
  have inK₁ : K.In h₁ := inK.keeps keep
  have isX₁ := keep _ _ isX
  show wpAny _ _ (execs _ _) _ _ _
  refine wpAny_execs_cons (plainObj_wpAny_Assign_Attribute ?_)
  refine wpAny_Name (wpAny_loadName_local (by rfl) (by rfl) locals (v := v) (by first | rfl | with_unfolding_all rfl | kernel_rfl) ?_) (by decide)
  refine wpAny_Name (wpAny_loadName_local (by rfl) (by rfl) locals (v := .ref x) (by first | rfl | with_unfolding_all rfl | kernel_rfl) ?_) (by decide)
  refine PySem.W.set_plain inK₁ (ox := excO C t0) (od := none) ⟨isX₁, rfl, rfl, trivial⟩ T.sa ?_
  refine first_field fam inK₁ isX₁ cls (show refsT tail (.ref C :: bm) = true from isM) rfl T.noN (fun h₃ tk₃ dx k₃ dn dne hx₃ hn₃ => ?_)
  show wpAny _ _ (execs _ _) _ _ _
  have z : s.heap.objs.size < h₁.objs.size := locals.lt
  exact wpAny_execs_nil (done h₃ tk₃ dx (fun b o hb e => k₃ b o hb (keep b o e)) hx₃ (Nat.le_of_lt (Nat.lt_of_lt_of_le z dn)) dne hn₃)
/-- a made error -/
structure Made_limit (h h' : Heap) (e C d : Addr) (v : Value) : Prop where
  keep : ∀ b o, h.get? b = some o → h'.get? b = some o
  new : h.objs.size ≤ e
  obj : ∃ oe vs, h'.get? e = some oe ∧ oe.cls = .ref C ∧ oe.dict = some d ∧ oe.data = .fields vs ∧ vs[1]? = some .none
  dbig : h.objs.size ≤ d
  dne : d ≠ e
  ns : h'.Ns1 d (fun y => if y = "limit" then some v else none)
theorem made_limit (fam : Fam B newId initId tail) (T : Err_limit K mg newId tail cn qn C fI) {v : Value} (inK : K.In s.heap) (lim : s.heap.NoLimit) (room : A.depth + 1 < recursionLimit)
    (done : ∀ h' tk e d, Made_limit s.heap h' e C d v → R (.ok (.ret (.ref e))) { s with heap := h', toks := tk }) :
    codeAny (model prog w) A (.call (.ref C) ⟨[v], []⟩) R s := by
  obtain ⟨nm, q, N, bs, bm, sn, sub, ab, col, dd, k0, k1, k2, k3, k5, isC, isM⟩ := T.cls
  obtain ⟨hp, g, dr, tk, os⟩ := s
  have keep : ∀ b o, hp.get? b = some o → ((hp.push (PySem.W.kdv_tup [v])).push (excO C hp.objs.size)).get? b = some o := fun b o e => Heap.get?_push_of_some _ (Heap.get?_push_of_some _ e)
  have isE : ((hp.push (PySem.W.kdv_tup [v])).push (excO C hp.objs.size)).get? (hp.objs.size + 1) = some (excO C hp.objs.size) := by heap_get
  have offK : K.lookup (hp.objs.size + 1) = none := by
    cases e : K.lookup (hp.objs.size + 1) with
    | none => rfl
    | some o => exact absurd (Nat.lt_of_succ_lt (Heap.lt_size (inK _ _ e))) (Nat.lt_irrefl _)
  refine call_own fam.facts (fun X => refsT_has X bm isM) (inK _ _ isC) (PySem.W.looks_findIn inK T.iC) (fun self => PySem.W.bind_fn inK self T.tC) (by show 1 ≤ sizeLine; decide) ?_
  refine init_limit (s := ⟨(hp.push (PySem.W.kdv_tup [v])).push (excO C hp.objs.size), g, dr, tk, os⟩) fam T (inK.keeps keep) (lim.keeps keep) isE offK ?_ fun h' tk' dx k' hx dn dne hns => ?_
  · show A.depth + 1 < recursionLimit
    exact room
  · have old : ∀ b o, hp.get? b = some o → h'.get? b = some o := fun b o e => k' b o (Nat.ne_of_lt (Nat.lt_succ_of_lt (Heap.lt_size e))) (keep b o e)
    have z : hp.objs.size + 1 + 1 ≤ dx := by
      have y := dn
      rw [Heap.size_push, Heap.size_push] at y
      exact y
    exact ⟨rfl, done h' tk' (hp.objs.size + 1) dx ⟨old, Nat.le_succ _, ⟨_, _, hx, rfl, rfl, rfl, rfl⟩, (show hp.objs.size ≤ dx by omega), dne, hns⟩⟩
end
theorem rel_limit {v : V} {u : Value} (r : RelV v u) (f : Str) : RelO (List.lookup f [(("limit" : Str), v)]) (if f = "limit" then some u else none) := by
  by_cases h : f = "limit"
  · subst h
    rw [if_pos rfl, show List.lookup ("limit" : Str) [(("limit" : Str), v)] = some v by simp [List.lookup]]
    exact r
  · have e : (f == ("limit" : Str)) = false := by simpa using h
    rw [if_neg h, show List.lookup f [(("limit" : Str), v)] = none by simp [List.lookup, e]]
    trivial
section
variable {X : Cx} {C fI : Addr} {B newId initId : String} {tail : List Value} {cn qn : Str}
/-- cn(e) -/
def tMk_limit (C : Addr) (ta : TA) : L2.St → Hp → XK → Prop := fun σ H Q => ta σ H fun vs H1 => ∃ v, vs = [v] ∧ ∀ d, H1 d = none → Q (.ref C) (some d) (upd H1 d (.xd [(("limit" : Str), v)]))
theorem pmk_limit {a : Expr} {ta : TA} {p pos : Pos} {k : Nat} (fam : Fam B newId initId tail) (T : Err_limit X.K X.mg newId tail cn qn C fI) (hr : Room k X.A) (ha : PA X [a] ta) (hg : Gl X cn)
    (he : starEach (a :: []) X.env = (false, eval a X.env) :: starEach [] X.env := by rfl) (hpl : (backTo pos (starEach [] X.env)).any (·.1) = false := by rfl) :
    PMk X (.Call (.Name cn p) [a] [] pos) (tMk_limit C ta) := by
  intro pins s σ H Q I h
  refine wpAny_Call_Name_kw (ld_glob I hg T.gC ?_ T.nd)
  refine PySem.W.callWith_K (h₀ := X.base) I.ok.mod.kin T.kC (thn (ha.run pos pins s σ H _ I h) ?_) he hpl
  rintro us s1 ⟨vs, H1, I1, r1, v, rfl, q1⟩
  refine ⟨I1.kIn, ?_⟩
  cases r1 with
  | @cons _ v' _ us' rv rn =>
    cases rn
    show wpAny _ _ (call (.ref C) [v']) _ _ _
    have lim := I1.nolimit
    obtain ⟨hp, g, dr, tk, os⟩ := s1
    refine wpAny_call (made_limit fam T I1.kIn lim (by have := hr.dp; omega) fun h' tk' e d M => ?_)
    show MkP X pins σ Q (.ref e) ⟨h', g, dr, tk', os⟩
    obtain ⟨oe, fv, hoe, hc, hd, hdat, h1⟩ := M.obj
    obtain ⟨G', g1, g2⟩ := restrict h' fun b => decide (b ≠ e)
    have gk : ∀ b, b ≠ e → G'.get? b = h'.get? b := fun b hb => g1 b (decide_eq_true hb)
    have ge : G'.get? e = none := g2 e (by simp)
    have old : ∀ b o, hp.get? b = some o → G'.get? b = some o := by
      intro b o z
      refine (gk b (Nat.ne_of_lt (Nat.lt_of_lt_of_le (Heap.lt_size z) M.new))).trans ?_
      exact M.keep b o z
    have ok : ObjOk X.prog X.w (upd H1 d (.xd [(("limit" : Str), v)])) G' d (.xd [(("limit" : Str), v)]) :=
      ⟨_, M.ns.at (fun o z => (gk d M.dne).trans z), fun f => rel_limit rv f⟩
    have J : Inv X pins σ (upd H1 d (.xd [(("limit" : Str), v)])) ⟨G', g, dr, tk', os⟩ := I1.laid (t' := tk') old M.dbig ok
    refine ⟨e, oe, fv, ⟨G', g, dr, tk', os⟩, _, .ref C, some d, rfl, J, ?_, ge, hoe, ⟨hc, hd⟩, hdat, h1, ?_, rfl, I1.bare, raises_own T.exC T.tyC, q1 d (I1.hok.fresh M.dbig)⟩
    · intro b o z
      by_cases hb : b = e
      · have z' : G'.get? b = some o := z
        rw [hb, ge] at z'
        cases z'
      · exact (gk b hb).symm.trans z
    · rw [upd_ne (Ne.symm M.dne)]
      exact I1.hok.fresh M.new
/-- raise cn(e) -/
def tRaise_limit (C : Addr) (W : WX) (ta : TA) : TS := fun _ σ H => tMk_limit C ta σ H fun cls d H' => W cls d σ H'
theorem ps_raise_limit {a : Expr} {ta : TA} {W : WX} {p pos pos2 : Pos} {k : Nat} (hc : X.calm = true) (fam : Fam B newId initId tail) (T : Err_limit X.K X.mg newId tail cn qn C fI) (hr : Room k X.A) (tk : Takes X W) (ha : PA X [a] ta) (hg : Gl X cn)
    (he : starEach (a :: []) X.env = (false, eval a X.env) :: starEach [] X.env := by rfl) (hpl : (backTo pos (starEach [] X.env)).any (·.1) = false := by rfl) :
    PS X (.Raise (some (.Call (.Name cn p) [a] [] pos)) none pos2) (tRaise_limit C W ta) := ps_raise hc tk (pmk_limit fam T hr ha hg he hpl)
/-- err.limit, err the error that the suite holds (at a; its class cls, its dict d) -/
def tFld_limit (C : Addr) (a : Addr) (cls : Value) (d : Option Addr) (te : TE) : TE := fun σ H Q => te σ H fun x H1 => x = .ref a ∧ cls = .ref C ∧ ∃ (dd : Addr) (v : V), d = some dd ∧ H1 dd = some (.xd [(("limit" : Str), v)]) ∧ Q v H1
theorem pe_fld_limit {a : Addr} {oe : Obj} {cls : Value} {d : Option Addr} {pn : List (Addr × Obj)} {e : Expr} {te : TE} {pos : Pos} (T : Err_limit X.K X.mg newId tail cn qn C fI) (hz : Zc cls d oe) (hf : ∃ vs, oe.data = .fields vs) (he : PE (X.suite a ((a, oe) :: pn)) e te)
    (hb : attributeBase e "limit" X.env (eval e X.env) = eval e X.env := by rfl) :
    PE (X.suite a ((a, oe) :: pn)) (.Attribute e "limit" pos) (tFld_limit C a cls d te) := by
  constructor
  intro pins s σ H Q I h
  refine attr_of hb (thn (he.run pins s σ H _ I h) ?_)
  rintro u s1 ⟨x, H1, I1, rx, rfl, rfl, dd, v, rfl, ea, q⟩
  cases rx
  obtain ⟨ha, _⟩ := I1.pin (a, oe) (List.mem_append_left _ List.mem_cons_self)
  obtain ⟨vs, hd⟩ := hf
  have ok : ObjOk X.prog X.w H1 s1.heap dd (.xd [(("limit" : Str), v)]) := I1.hok dd _ ea
  obtain ⟨mA, hns, hr⟩ := ok
  obtain ⟨od, ho, hl⟩ := lookIn_ns hns
  have look : List.lookup ("limit" : Str) [(("limit" : Str), v)] = some v := by simp [List.lookup]
  obtain ⟨u, hu, ru⟩ := RelO.some_of (v := v) (o := mA "limit") (by rw [← look]; exact hr "limit")
  have J : PySem.W.InstAt s1.heap a oe C (some od) := ⟨ha, hz.1, by unfold PySem.W.notCls; rw [hd] <;> rfl, by rw [hz.2]; exact ho⟩
  exact HandSPX.exc_get I1.kIn J T.ga T.gg T.exC (PySem.W.findObj_own T.hdC T.noN rfl (by rw [hl, hu])) (handed_of ru) ⟨v, H1, I1.tok _, ru, q⟩
end
/-! ### paths that may be anything -/
/-- a def whose promise has errors -/
structure DfX (P : Program) (w : World) (K : PySem.W.Frag) (mg : Str → Option Value) (base : Heap) (k : Nat) (nm : Str) (ps : List Str) (sp : Sp) where
  f : Addr
  fd : FuncData
  ok : FnOk P w K mg base (L2.CX P w) k f fd ps sp
  b : Binds K fd ps []
  kp : PySem.W.keepIn K (.ref f) = true
  g : mg nm = some (.ref f)
def B.go : B → List Nat → Option B
  | t, [] => some t
  | .nil, _ :: _ => none
  | .node l _ r, c :: cs => if c = 108 then l.go cs else if c = 114 then r.go cs else none
theorem B.go_nil (t : B) : t.go [] = some t := by cases t <;> rfl
theorem B.go_px : ∀ (t : B) (p : List Bool), t.go (p.map dir) = t.at p
  | t, [] => by cases t <;> rfl
  | .nil, _ :: _ => rfl
  | .node l x r, false :: p => (if_pos rfl).trans (l.go_px p)
  | .node l x r, true :: p => ((if_neg (show ¬ dir true = 108 by decide)).trans (if_pos rfl)).trans (r.go_px p)
theorem B.go_at : ∀ (t : B) (s : List Nat) {u : B}, t.go s = some u → ∃ p : List Bool, s = p.map dir ∧ t.at p = some u
  | t, [], u, h => ⟨[], rfl, by rw [B.go_nil] at h; rw [← h]; cases t <;> rfl⟩
  | .nil, _ :: _, _, h => by cases h
  | .node l x r, c :: s, u, h => by
    have h : (if c = 108 then l.go s else if c = 114 then r.go s else none) = some u := h
    by_cases h1 : c = 108
    · rw [if_pos h1] at h
      obtain ⟨p, e, h⟩ := l.go_at s h
      exact ⟨false :: p, by rw [h1, e]; rfl, h⟩
    · rw [if_neg h1] at h
      by_cases h2 : c = 114
      · rw [if_pos h2] at h
        obtain ⟨p, e, h⟩ := r.go_at s h
        exact ⟨true :: p, by rw [h2, e]; rfl, h⟩
      · rw [if_neg h2] at h
        cases h
/-- what the value of a path leads to -/
def pathTo (t : B) : PyData → Option B
  | .str x => t.go x.cps.toList
  | _ => none
theorem pathTo_px (t : B) (p : List Bool) : pathTo t (.str (px p)) = t.at p := t.go_px p
theorem pathTo_at {t u : B} {d : PyData} (h : pathTo t d = some u) : ∃ p : List Bool, d = .str (px p) ∧ t.at p = some u := by
  cases d with
  | str x =>
    obtain ⟨p, e, h⟩ := t.go_at _ h
    refine ⟨p, ?_, h⟩
    have : x = px p := TL.ext_tl e
    rw [this]
  | _ => cases h
def spPartX (C : Addr) : Sp := fun vs H Q E => ∃ (v v' : V) (t : B) (D : Deck) (d : PyData), vs = [v, v'] ∧ BAt H v t ∧ DQ D H v' d ∧
  (∀ u, pathTo t d = some u → ∀ (H' : Hp) (vu : V), Same H H' → BAt H' vu u → Q vu H') ∧ (pathTo t d = none → ∀ (H' : Hp) (p : Addr), Same H H' → H' p = none → E (.ref C) (some p) (upd H' p (.xd [(("value" : Str), v')])))
def spNodeX (C : Addr) : Sp := fun vs H Q E => ∃ (v v' : V) (t : B) (D : Deck) (d : PyData), vs = [v, v'] ∧ BAt H v t ∧ DQ D H v' d ∧
  (∀ u, pathTo t d = some u → u ≠ .nil → ∀ (H' : Hp) (vu : V), Same H H' → BAt H' vu u → Q vu H') ∧ ((∀ u, pathTo t d = some u → u = .nil) → ∀ (H' : Hp) (p : Addr), Same H H' → H' p = none → E (.ref C) (some p) (upd H' p (.xd [(("value" : Str), v')])))
def spOpenX : Sp := fun vs H Q _ => ∃ (v v' : V) (t : B) (D : Deck) (d : PyData), vs = [v, v'] ∧ BAt H v t ∧ DQ D H v' d ∧ ∀ (b : Bool) (H' : Hp), (b = true ↔ pathTo t d = some .nil) → Same H H' → Q (.bl b) H'
section
variable {P : Program} {w : World} {K : PySem.W.Frag} {mg : Str → Option Value} {base : Heap} {f : Addr} {fd : FuncData} {C fI : Addr} {qn : Str}
theorem ok_partX {k : Nat} (F : Fun K "part_at" "part_at" s_part_at f fd) (M : Mgs mg) (hE : Err_value K mg "LookupError.__new__" leT "NoPath" qn C fI) : FnOk P w K mg base (L2.CX P w) (k + 1) f fd ["tree", "path"] (spPartX C) := by
  refine F.okX sc_part_at (fun vs H Q E h => ?_) (fun cdv A outer s H vs Q E hr h => ?_)
  · obtain ⟨v, v', t, D, d, rfl, _⟩ := h
    rfl
  obtain ⟨v, v', t, D, d, rfl, ht, hd, q, qe⟩ := h
  refine ⟨_, (pss_cons (ps_if (pt_not (pt_val (pe_callB call_isi rfl M.isinstance (by decide +kernel) (pa_cons (pv 1) (pa_cons (pe_bltn (v := .ty "str") rfl M.str (by decide +kernel) rfl) pa_nil)))))
      (pss_one (ps_raise_value rfl famL hE hr (takes_of rfl rfl rfl rfl) (pa_cons (pv 1) pa_nil) rfl)) pss_nil)
    (pss_cons (ps_set (i := 2) sc_part_at.nd rfl (.inl rfl) (pv 0))
    (pss_cons (ps_for (passes_of rfl) rfl (pi_str (pv 1)) (pg_name (i := 3) sc_part_at.nd rfl (.inl rfl))
      (pss_cons (ps_if (PW.pt (pw_or (pt_cmpR op_isN (pv 2) pe_non (nomark _)) (pw_or1 (pt_cmpR op_notIn_seq (pv 3) (pe_tup (pa_cons pe_str (pa_cons pe_str pa_nil))) (by rfl)))))
      (pss_one (ps_raise_value rfl famL hE hr (takes_of rfl rfl rfl rfl) (pa_cons (pv 1) pa_nil) rfl)) pss_nil)
    (pss_one (ps_set (i := 2) sc_part_at.nd rfl (.inl rfl) (pe_ifExp (pt_cmpR op_eq (pv 3) pe_str (nomark _)) (pe_ix ix_tup (pv 2) pe_int (fun _ _ => rfl)) (pe_ix ix_tup (pv 2) pe_int (fun _ _ => rfl)))))))
    (pss_one (ps_ret (pv 2)))))), ?_⟩
  refine ⟨_, rfl, _, _, _, _, isStrD d, rfl, .ty _, dq_ty hd, kit_ty (kit_str d), _, rfl, ?_⟩
  cases hs : isStrD d with
  | false =>
    have no : pathTo t d = none := by cases d <;> first | rfl | exact absurd hs (by simp [isStrD])
    exact iteT ⟨_, rfl, v', rfl, fun p np => qe no H p (Same.refl H) np⟩
  | true =>
    refine iteF ?_
    obtain ⟨x, rfl⟩ := isStr_of hs
    cases hd
    refine ⟨_, rfl, ?_⟩
    refine ⟨_, rfl, x, rfl, ?_⟩
    refine for_text (x := x) (fun i σ H' => ∃ (vu : V) (u : B) (y : Option V), σ = [some v, some (.str x), some vu, y] ∧ Same H H' ∧ BAt H' vu u ∧ t.go x.cps.toList = u.go (x.cps.toList.drop i)) ⟨v, t, none, rfl, Same.refl H, ht, rfl⟩ (fun i c σ H' hc hp => ?_) (fun σ H' hp => ?_)
    · obtain ⟨vu, u, y, rfl, sm, hu, e⟩ := hp
      have hi : i < x.cps.toList.length := (List.getElem?_eq_some_iff.mp hc).1
      have hcd : x.cps.toList.drop i = c :: x.cps.toList.drop (i + 1) := by
        rw [List.drop_eq_getElem_cons hi, (List.getElem?_eq_some_iff.mp hc).2]
      rw [hcd] at e
      rcases hu.inv with ⟨rfl, rfl⟩ | ⟨a, l, r, lb, tl, tr, rfl, rfl, ea, hL, hR⟩
      · refine ⟨_, rfl, rfl, _, rfl, iteT (iteT ?_)⟩
        exact ⟨_, rfl, _, rfl, fun p np => qe (show t.go _ = none by rw [e]; rfl) H' p sm np⟩
      · refine ⟨_, rfl, rfl, _, rfl, iteF ?_⟩
        refine ⟨_, rfl, (by show 2 ≤ sizeLine; decide), fun tp ntp => ?_⟩
        have k1 := same_new ntp (.tup [.str "l", .str "r"])
        have s1 := sm.trans k1
        refine ⟨tp, _, rfl, .inr (SqT.of upd_same), rfl, rfl, _, rfl, ?_⟩
        generalize upd H' tp (.tup [.str "l", .str "r"]) = H1 at k1 s1 ⊢
        have ea1 := k1 _ _ ea
        by_cases h1 : c = 108
        · subst h1
          refine iteF ?_
          refine ⟨_, rfl, rfl, _, rfl, iteT ?_⟩
          exact ⟨_, rfl, a, _, 0, l, rfl, rfl, SqT.of ea1, atI_nat (j := 0) rfl, l, tl, _, rfl, s1, hL.same k1, by rw [e]; rfl⟩
        · by_cases h2 : c = 114
          · subst h2
            refine iteF ?_
            refine ⟨_, rfl, rfl, _, rfl, iteF ?_⟩
            exact ⟨_, rfl, a, _, 2, r, rfl, rfl, SqT.of ea1, atI_nat (j := 2) rfl, r, tr, _, rfl, s1, hR.same k1, by rw [e]; rfl⟩
          · have hin : inV (.str ⟨#[c]⟩) [V.str "l", V.str "r"] = false := by
              have el : Str.ofString "l" = ⟨#[108]⟩ := by decide +kernel
              have er : Str.ofString "r" = ⟨#[114]⟩ := by decide +kernel
              have ne : ∀ k : Nat, c ≠ k → ((⟨#[k]⟩ : Str) == ⟨#[c]⟩) = false := by
                intro k hk
                rw [beq_eq_false_iff_ne]
                intro z
                have z' := congrArg (fun y : Str => y.cps.toList) z
                exact hk (List.cons.inj z').1.symm
              unfold inV
              show ((Str.ofString "l" == ⟨#[c]⟩) || ((Str.ofString "r" == ⟨#[c]⟩) || false)) = false
              rw [el, er, ne 108 h1, ne 114 h2]
              rfl
            show if (!inV (.str ⟨#[c]⟩) [V.str "l", V.str "r"]) = true then _ else _
            rw [hin]
            refine iteT ?_
            exact ⟨_, rfl, _, rfl, fun p np => qe (show t.go _ = none by rw [e]; show (if c = 108 then _ else if c = 114 then _ else none) = none; rw [if_neg h1, if_neg h2]) H1 p s1 np⟩
    · obtain ⟨vu, u, y, rfl, sm, hu, e⟩ := hp
      rw [List.drop_length, u.go_nil] at e
      exact ⟨_, rfl, q u e H' vu sm hu⟩
theorem ok_nodeX {k : Nat} (F : Fun K "node_at" "node_at" s_node_at f fd) (hE : Err_value K mg "LookupError.__new__" leT "NoPath" qn C fI) (Dpart_at : DfX P w K mg base (k + 1) "part_at" ["tree", "path"] (spPartX C)) : FnOk P w K mg base (L2.CX P w) (k + 2) f fd ["tree", "path"] (spNodeX C) := by
  refine F.okX (k := k + 1) sc_node_at (fun vs H Q E h => ?_) (fun cdv A outer s H vs Q E hr h => ?_)
  · obtain ⟨v, v', t, D, d, rfl, _⟩ := h
    rfl
  obtain ⟨v, v', t, D, d, rfl, ht, hd, q, qe⟩ := h
  refine ⟨_, (pss_cons (ps_set (i := 2) sc_node_at.nd rfl (.inl rfl) (pe_callS Dpart_at.ok (hr.mono (by omega)) rfl Dpart_at.g Dpart_at.kp Dpart_at.b (fun σ => passAt (takes_of rfl rfl rfl rfl) σ) (pa_cons (pv 0) (pa_cons (pv 1) pa_nil))))
    (pss_cons (ps_if (pt_cmpR op_isN (pv 2) pe_non (nomark _))
      (pss_one (ps_raise_value rfl famL hE hr (takes_of rfl rfl rfl rfl) (pa_cons (pv 1) pa_nil) rfl)) pss_nil)
    (pss_one (ps_ret (pv 2))))), ?_⟩
  refine ⟨_, rfl, _, rfl, v, v', t, D, d, rfl, ht, hd, fun u hu H1 vu s1 b1 => ?_, fun hn H1 p s1 np => ?_⟩
  · rcases b1.inv with ⟨rfl, rfl⟩ | ⟨a, l, r, lb, tl, tr, rfl, rfl, ea, hL, hR⟩
    · refine ⟨_, rfl, rfl, _, rfl, iteT ?_⟩
      exact ⟨_, rfl, _, rfl, fun p np => qe (fun u h => by rw [hu] at h; cases h; rfl) H1 p s1 np⟩
    · refine ⟨_, rfl, rfl, _, rfl, iteF ?_⟩
      exact ⟨_, rfl, q _ hu (by simp) H1 _ s1 b1⟩
  · exact qe (fun u h => by rw [hn] at h; cases h) H1 p s1 np
theorem ok_openX {k : Nat} (F : Fun K "is_open" "is_open" s_is_open f fd) (gC : mg "NoPath" = some (.ref C)) (e1 : PySem.W.exmOne K (.ref C) (.ref C) = some true) (Dpart_at : DfX P w K mg base (k + 1) "part_at" ["tree", "path"] (spPartX C)) : FnOk P w K mg base CX0 (k + 2) f fd ["tree", "path"] spOpenX := by
  refine F.ok (k := k + 1) sc_is_open (fun vs H Q E h => ?_) (fun cdv A outer s H vs Q E hr h => ?_)
  · obtain ⟨v, v', t, D, d, rfl, _⟩ := h
    rfl
  obtain ⟨v, v', t, D, d, rfl, ht, hd, q⟩ := h
  refine ⟨_, (pss_one (ps_try_only (c := .ref C) (Wout := fun _ _ _ _ => False) rfl rfl ⟨rfl, by decide, .inl gC⟩ takes_none5 (fun W pn xe tk _ => pss_one (ps_ret (pe_cmpR op_isN (pe_callS Dpart_at.ok (hr.mono (by omega)) rfl Dpart_at.g Dpart_at.kp Dpart_at.b (fun σ => passAt tk σ) (pa_cons (pv 0) (pa_cons (pv 1) pa_nil))) pe_non (nomark _)))) (fun a oe cls d pn hz hf => pss_one (ps_ret pe_bl)))), ?_⟩
  refine ⟨_, rfl, _, rfl, v, v', t, D, d, rfl, ht, hd, fun u hu H1 vu s1 b1 => ?_, fun hn H1 p s1 np => ?_⟩
  · rcases b1.inv with ⟨rfl, rfl⟩ | ⟨a, l, r, lb, tl, tr, rfl, rfl, ea, hL, hR⟩
    · exact ⟨rfl, q true H1 ⟨fun _ => hu, fun _ => rfl⟩ s1⟩
    · exact ⟨rfl, q false H1 ⟨fun z => (by cases z), fun z => by rw [hu] at z; cases z⟩ s1⟩
  · refine ⟨true, e1, fun _ a0 na => ?_, fun z => nomatch z⟩
    exact q false _ ⟨fun z => (by cases z), fun z => by rw [hn] at z; cases z⟩ (s1.trans (same_new np _))
end
/-! ### edits of any values -/
structure Err0 (K : PySem.W.Frag) (mg : Str → Option Value) (cn : Str) (C : Addr) : Prop where
  g : mg cn = some (.ref C)
  k : PySem.W.keepIn K (.ref C) = true
  q : PySem.W.excIn K C veT "ValueError.__new__" = true
  e : PySem.W.subIn K (.ref C) (.type "BaseException") = some true
  t : PySem.W.typeIn K (.ref C) = some (.type "type")
  x : ExcC K C
section
variable {X : Cx} {p pos : Pos}
theorem pmk_own0 {C : Addr} {bmB : List Value} {B newId initId : String} {x : Str} (F : ExcBaseFacts B newId initId bmB) (q : PySem.W.excIn X.K C bmB newId = true) (gC : X.mg x = some (.ref C))
    (kC : PySem.W.keepIn X.K (.ref C) = true) (r : Raises X (.ref C)) (hg : Gl X x) (hdb : (x == ("__debug__" : Str)) = false := by decide) :
    PMk X (.Call (.Name x p) [] [] pos) (fun _ H Q => Q (.ref C) none H) := by
  intro pins s σ H Q I h
  refine wpAny_Call_Name_kw (ld_glob I hg gC ?_ hdb)
  refine PySem.W.callWith_K0 (first := []) I.kIn kC ?_
  show wpAny _ _ (call (.ref C) []) _ _ _
  obtain ⟨bm, N, nm, qn, bs, hdct, sn, sub, ab, col, dd, k0, k1, k2, k3, k5, mN, hC, hN, hni, T⟩ := exc_obj I.kIn q
  refine wpAny_call_exc_subT F T hC hN hni (fun h' e hm => ?_) (Nat.zero_le _)
  exact mk_of I hm r h (I.hok.gone hm.new)
end
/-- the classes of the errors of an edit -/
structure DE where
  NP : Addr
  NO : Addr
  NL : Addr
  TL : Addr
  LN : Addr
inductive Eg where
  | put (vp vl : V) (dp dl : PyData)
  | cut (vp : V) (dp : PyData)
  | label (vp vl : V) (dp dl : PyData)
  | turn (vp : V) (dp : PyData)
def Eg.word : Eg → Str
  | .put .. => "put"
  | .cut .. => "cut"
  | .label .. => "label"
  | .turn .. => "turn"
def Eg.args : Eg → List V
  | .put vp vl _ _ => [vp, vl]
  | .cut vp _ => [vp]
  | .label vp vl _ _ => [vp, vl]
  | .turn vp _ => [vp]
def Eg.vals (e : Eg) : List V := .str e.word :: e.args
def Eg.At (D : Deck) (H : Hp) : Eg → Prop
  | .put vp vl dp dl => DQ D H vp dp ∧ DQ D H vl dl
  | .cut vp dp => DQ D H vp dp
  | .label vp vl dp dl => DQ D H vp dp ∧ DQ D H vl dl
  | .turn vp dp => DQ D H vp dp
def Eg.gd : Eg → Prop
  | .put _ _ dp dl => Tw.gd dp = true ∧ Tw.gd dl = true
  | .cut _ dp => Tw.gd dp = true
  | .label _ _ dp dl => Tw.gd dp = true ∧ Tw.gd dl = true
  | .turn _ dp => Tw.gd dp = true
theorem Eg.At.sameD {D : Deck} {H H' : Hp} (s : SameD D H H') {e : Eg} (h : e.At D H) : e.At D H' := by
  cases e with
  | put => exact ⟨dq_sameD s h.1, dq_sameD s h.2⟩
  | cut => exact dq_sameD s h
  | label => exact ⟨dq_sameD s h.1, dq_sameD s h.2⟩
  | turn => exact dq_sameD s h
theorem Eg.At.same {D : Deck} {H H' : Hp} (s : Same H H') {e : Eg} (h : e.At D H) : e.At D H' := h.sameD (SameD.of s)
/-- is a value a small letter? -/
def letD : PyData → Bool
  | .str x => isLt x.cps.toList
  | _ => false
theorem letD_of {d : PyData} (h : letD d = true) : ∃ c, d = .str (ch c) ∧ isLow c = true := by
  cases d with
  | str x =>
    have h : isLt x.cps.toList = true := h
    cases hx : x.cps.toList with
    | nil => rw [hx] at h; cases h
    | cons c r =>
      cases r with
      | nil =>
        rw [hx] at h
        exact ⟨c, congrArg PyData.str (TL.ext_tl hx), h⟩
      | cons _ _ => rw [hx] at h; cases h
  | _ => cases h
inductive Out where
  | st (t : B)
  | noPath (v : V)
  | notOpen (v : V)
  | noLabel (v : V)
  | large
  | last
/-- what an edit does to a tree -/
inductive Res (t : B) : Eg → Out → Prop
  | put {vp vl : V} {dp dl : PyData} {p : List Bool} {c : Nat} : dp = .str (px p) → dl = .str (ch c) → t.at p = some .nil → isLow c = true → t.size ≤ 11 → Res t (.put vp vl dp dl) (.st (t.put p (.node .nil c .nil)))
  | large {vp vl : V} {dp dl : PyData} {p : List Bool} {c : Nat} : dp = .str (px p) → dl = .str (ch c) → t.at p = some .nil → isLow c = true → t.size = 12 → Res t (.put vp vl dp dl) .large
  | putL {vp vl : V} {dp dl : PyData} {p : List Bool} : dp = .str (px p) → t.at p = some .nil → letD dl = false → Res t (.put vp vl dp dl) (.noLabel vl)
  | putO {vp vl : V} {dp dl : PyData} : pathTo t dp ≠ some .nil → Res t (.put vp vl dp dl) (.notOpen vp)
  | cut {vp : V} {dp : PyData} {p : List Bool} {u : B} : dp = .str (px p) → t.at p = some u → u ≠ .nil → p ≠ [] → Res t (.cut vp dp) (.st (t.put p .nil))
  | last {vp : V} {dp : PyData} : dp = .str (px []) → t ≠ .nil → Res t (.cut vp dp) .last
  | cutP {vp : V} {dp : PyData} : (∀ u, pathTo t dp = some u → u = .nil) → Res t (.cut vp dp) (.noPath vp)
  | label {vp vl : V} {dp dl : PyData} {p : List Bool} {l r : B} {y c : Nat} : dp = .str (px p) → dl = .str (ch c) → t.at p = some (.node l y r) → isLow c = true → Res t (.label vp vl dp dl) (.st (t.put p (.node l c r)))
  | labelL {vp vl : V} {dp dl : PyData} {p : List Bool} {u : B} : dp = .str (px p) → t.at p = some u → u ≠ .nil → letD dl = false → Res t (.label vp vl dp dl) (.noLabel vl)
  | labelP {vp vl : V} {dp dl : PyData} : (∀ u, pathTo t dp = some u → u = .nil) → Res t (.label vp vl dp dl) (.noPath vp)
  | turn {vp : V} {dp : PyData} {p : List Bool} {u : B} : dp = .str (px p) → t.at p = some u → u ≠ .nil → Res t (.turn vp dp) (.st (t.put p u.mir))
  | turnP {vp : V} {dp : PyData} : (∀ u, pathTo t dp = some u → u = .nil) → Res t (.turn vp dp) (.noPath vp)
theorem nod_cases (t : B) (dp : PyData) : (∃ p u, dp = .str (px p) ∧ t.at p = some u ∧ u ≠ .nil) ∨ (∀ u, pathTo t dp = some u → u = .nil) := by
  cases h : pathTo t dp with
  | none => exact .inr fun u e => by cases e
  | some u =>
    obtain ⟨p, e, hp⟩ := pathTo_at h
    by_cases hu : u = .nil
    · exact .inr fun u' e' => by cases e'; exact hu
    · exact .inl ⟨p, u, e, hp, hu⟩
/-- every edit does something -/
theorem Res.total (t : B) (h0 : 1 ≤ t.size) (h : t.size ≤ 12) (e : Eg) : ∃ r, Res t e r := by
  cases e with
  | put vp vl dp dl =>
    by_cases ho : pathTo t dp = some .nil
    · obtain ⟨p, rfl, hp⟩ := pathTo_at ho
      cases hl : letD dl with
      | false => exact ⟨_, .putL rfl hp hl⟩
      | true =>
        obtain ⟨c, rfl, hc⟩ := letD_of hl
        by_cases hz : t.size ≤ 11
        · exact ⟨_, .put rfl rfl hp hc hz⟩
        · exact ⟨_, .large rfl rfl hp hc (by omega)⟩
    · exact ⟨_, .putO ho⟩
  | cut vp dp =>
    rcases nod_cases t dp with ⟨p, u, rfl, hp, hu⟩ | hn
    · by_cases he : p = []
      · subst he
        exact ⟨_, .last rfl (nd_nil.mpr h0)⟩
      · exact ⟨_, .cut rfl hp hu he⟩
    · exact ⟨_, .cutP hn⟩
  | label vp vl dp dl =>
    rcases nod_cases t dp with ⟨p, u, rfl, hp, hu⟩ | hn
    · cases hl : letD dl with
      | false => exact ⟨_, .labelL rfl hp hu hl⟩
      | true =>
        obtain ⟨c, rfl, hc⟩ := letD_of hl
        cases u with
        | nil => exact absurd rfl hu
        | node l y r => exact ⟨_, .label rfl rfl hp hc⟩
    · exact ⟨_, .labelP hn⟩
  | turn vp dp =>
    rcases nod_cases t dp with ⟨p, u, rfl, hp, hu⟩ | hn
    · exact ⟨_, .turn rfl hp hu⟩
    · exact ⟨_, .turnP hn⟩
/-- what must hold behind an edit: the next tree, or the error -/
def OutTo (c : DE) (H : Hp) (k : B → V → Hp → Prop) (E : XK) : Out → Prop
  | .st t' => ∀ (v' : V) (H' : Hp), Same H H' → BAt H' v' t' → k t' v' H'
  | .noPath v => ∀ (H' : Hp) (p : Addr), Same H H' → H' p = none → E (.ref c.NP) (some p) (upd H' p (.xd [(("value" : Str), v)]))
  | .notOpen v => ∀ (H' : Hp) (p : Addr), Same H H' → H' p = none → E (.ref c.NO) (some p) (upd H' p (.xd [(("path" : Str), v)]))
  | .noLabel v => ∀ (H' : Hp) (p : Addr), Same H H' → H' p = none → E (.ref c.NL) (some p) (upd H' p (.xd [(("letter" : Str), v)]))
  | .large => ∀ (H' : Hp) (p : Addr), Same H H' → H' p = none → E (.ref c.TL) (some p) (upd H' p (.xd [(("limit" : Str), .int 12)]))
  | .last => ∀ (H' : Hp), Same H H' → E (.ref c.LN) none H'
def egPut : Eg → Prop
  | .put .. => True
  | _ => False
def egCut : Eg → Prop
  | .cut .. => True
  | _ => False
def egLab : Eg → Prop
  | .label .. => True
  | _ => False
def egTur : Eg → Prop
  | .turn .. => True
  | _ => False
def spActX (c : DE) (mk : Eg → Prop) : Sp := fun vs H Q E => ∃ (v : V) (t : B) (D : Deck) (e : Eg) (r : Out), vs = v :: e.args ∧ mk e ∧ BAt H v t ∧ e.At D H ∧ e.gd ∧ Res t e r ∧ t.size ≤ 12 ∧ OutTo c H (fun _ => Q) E r
def spEditedX (c : DE) : Sp := fun vs H Q E => ∃ (v : V) (a : Addr) (t : B) (D : Deck) (e : Eg) (r : Out), vs = [v, .ref a] ∧ H a = some (.tup e.vals) ∧ BAt H v t ∧ e.At D H ∧ e.gd ∧ Res t e r ∧ t.size ≤ 12 ∧ OutTo c H (fun _ => Q) E r
theorem OutTo.mono {c : DE} {H H1 : Hp} {k : B → V → Hp → Prop} {E : XK} (s : Same H H1) : ∀ {r : Out}, OutTo c H k E r → OutTo c H1 k E r
  | .st _, h => fun v' H' s' => h v' H' (s.trans s')
  | .noPath _, h => fun H' p s' => h H' p (s.trans s')
  | .notOpen _, h => fun H' p s' => h H' p (s.trans s')
  | .noLabel _, h => fun H' p s' => h H' p (s.trans s')
  | .large, h => fun H' p s' => h H' p (s.trans s')
  | .last, h => fun H' s' => h H' (s.trans s')
/-- a def that a name holds, with errors -/
structure HeldX (P : Program) (w : World) (K : PySem.W.Frag) (mg : Str → Option Value) (base : Heap) (k : Nat) (f : Addr) (sp : Sp) : Prop where
  ok : ∃ fd ps, FnOk P w K mg base (L2.CX P w) k f fd ps sp ∧ Binds K fd ps []
  kp : PySem.W.keepIn K (.ref f) = true
def tCallASX (i : Nat) (S : Addr → Sp → Prop) (E : L2.St → XK) (t : TA) : TE := fun σ H Q => ∃ f sp, σ[i]? = some (some (.ref f)) ∧ S f sp ∧ t σ H fun vs H1 => sp vs H1 Q (E σ)
theorem pe_callASX {X : Cx} {k i : Nat} {S : Addr → Sp → Prop} {E : L2.St → XK} {x : Str} {p pos : Pos} {e : Expr} {es : List Expr} {t : TA} (A : ∀ f sp, S f sp → HeldX X.prog X.w X.K X.mg X.base k f sp) (hr : Room k X.A) (hx : ∀ σ, PassesAt (L2.CX X.prog X.w) X σ (E σ)) (hN : X.N[i]? = some x) (hv : Vis X.env.scope x) (ha : PA X (e :: es) t)
    (hdb : (x == ("__debug__" : Str)) = false := by decide) (hcd : (x == ("__classdict__" : Str)) = false := by decide)
    (he : starEach (e :: es) X.env = (false, eval e X.env) :: starEach es X.env := by rfl) (hst : (backTo pos (starEach es X.env)).any (·.1) = true := by rfl) : PE X (.Call (.Name x p) (e :: es) [] pos) (tCallASX i S E t) := by
  refine ⟨fun pins s σ H Q I h => ?_⟩
  obtain ⟨f, sp, hs, hS, ht⟩ := h
  obtain ⟨⟨fd, ps, F, hb⟩, hk⟩ := A f sp hS
  refine wpAny_Call_Name_kw (thn ((pe_var (pos := p) hN hv hdb hcd).run pins s σ H (fun v H1 => v = .ref f ∧ H1 = H) I ⟨.ref f, hs, rfl, rfl⟩) fun u s1 ⟨v, H1, I1, r1, q1⟩ => ?_)
  obtain ⟨rfl, rfl⟩ := q1
  cases r1
  refine PySem.W.callWith_S2 (h₀ := X.base) I.ok.mod.kin hk (thn (ha.run pos pins s1 σ _ _ I1 ht) fun us s2 ⟨vs, H2, I2, r, q⟩ => ⟨I2.kIn, ?_⟩) he hst
  exact run_fnS F hr hb (hx σ) I2 r q
def spLowX : Sp := fun vs H Q _ => ∃ (v : V) (D : Deck) (d : PyData), vs = [v] ∧ DQ D H v d ∧ gd d = true ∧ Q (.bl (letD d)) H
def spReplX (C : Addr) : Sp := fun vs H Q E => ∃ (v vp : V) (t u o : B) (p : List Bool), vs = [v, .str (px p), vp] ∧ BAt H v t ∧ BAt H vp u ∧ t.at p = some o ∧ t.size ≤ 12 ∧ u.size ≤ 12 ∧
  ((t.put p u).size ≤ 12 → ∀ (v' : V) (H' : Hp), Same H H' → BAt H' v' (t.put p u) → Q v' H') ∧ (12 < (t.put p u).size → ∀ (H' : Hp) (e : Addr), Same H H' → H' e = none → E (.ref C) (some e) (upd H' e (.xd [(("limit" : Str), .int 12)])))
section
variable {P : Program} {w : World} {K : PySem.W.Frag} {mg : Str → Option Value} {base : Heap} {f : Addr} {fd : FuncData} {c : DE} {i1 i2 i3 i4 : Addr} {q1 q2 q3 q4 : Str} {f1 f2 f3 f4 aA : Addr}
theorem ok_lowX {k : Nat} (F : Fun K "is_letter" "is_letter" s_is_letter f fd) (M : Mgs mg) : FnOk P w K mg base CX0 (k + 1) f fd ["value"] spLowX := by
  refine F.ok sc_is_letter (fun vs H Q E h => ?_) (fun cdv A outer s H vs Q E hr h => ?_)
  · obtain ⟨v, D, d, rfl, _⟩ := h
    rfl
  obtain ⟨v, D, d, rfl, hd, hg, q⟩ := h
  refine ⟨_, (pss_one (ps_ret (pe_and (pe_callB call_isi rfl M.isinstance (by decide +kernel) (pa_cons (pv 0) (pa_cons (pe_bltn (v := .ty "str") rfl M.str (by decide +kernel) rfl) pa_nil))) (pe_and (pe_cmpR op_eq (pe_callB call_len_str rfl M.len PySem.boot_len (pa_cons (pv 0) pa_nil)) pe_int (nomark _)) (pe_one (pe_chain op_le_str op_le_str pe_str (pv 0) pe_str)))))), ?_⟩
  refine ⟨_, rfl, _, _, _, _, isStrD d, rfl, .ty _, dq_ty hd, kit_ty (kit_str d), _, rfl, ?_⟩
  cases hs : isStrD d with
  | false =>
    have no : letD d = false := by cases d <;> first | rfl | exact absurd hs (by simp [isStrD])
    rw [no] at q
    exact iteF q
  | true =>
    obtain ⟨x, rfl⟩ := isStr_of hs
    cases hd
    have hx := (gd_str hg).1
    have q : Q (.bl (isLt x.cps.toList)) H := q
    refine iteT ⟨_, rfl, x, rfl, small (by omega), rfl, _, rfl, ?_⟩
    have ex : x = tx x.cps.toList := TL.ext_tl rfl
    rw [ex] at hx ⊢
    rw [tx_len] at hx ⊢
    generalize x.cps.toList = l at hx q ⊢
    match l, hx, q with
    | [], _, q => exact iteF q
    | a :: b :: r, _, q =>
      rw [show decide (V.int ((a :: b :: r).length : Nat) = V.int 1) = false from decide_eq_false fun z => by have := V.int.inj z; rw [List.length_cons, List.length_cons] at this; omega]
      exact iteF q
    | [c], _, q =>
      rw [show decide (V.int (([c] : List Nat).length : Nat) = V.int 1) = true from rfl]
      refine iteT ⟨_, rfl, _, _, rfl, rfl, _, rfl, ?_⟩
      have e1 : (!decide ((tx [c]).cps.toList < (Str.ofString "a").cps.toList)) = decide (97 ≤ c) := by
        rw [show (Str.ofString "a").cps.toList = [97] by decide +kernel, show (tx [c]).cps.toList = [c] from rfl]
        by_cases h : c < 97
        · rw [decide_eq_true (by simp [List.cons_lt_cons_iff, h]), decide_eq_false (by omega)]; rfl
        · rw [decide_eq_false (by simp [List.cons_lt_cons_iff, h]), decide_eq_true (by omega)]; rfl
      have e2 : (!decide ((Str.ofString "z").cps.toList < (tx [c]).cps.toList)) = decide (c ≤ 122) := by
        rw [show (Str.ofString "z").cps.toList = [122] by decide +kernel, show (tx [c]).cps.toList = [c] from rfl]
        by_cases h : 122 < c
        · rw [decide_eq_true (by simp [List.cons_lt_cons_iff, h]), decide_eq_false (by omega)]; rfl
        · rw [decide_eq_false (by simp [List.cons_lt_cons_iff, h]), decide_eq_true (by omega)]; rfl
      rw [e1]
      have q : Q (.bl (decide (97 ≤ c) && decide (c ≤ 122))) H := q
      by_cases h : 97 ≤ c
      · rw [decide_eq_true h] at q ⊢
        refine iteT ⟨_, _, rfl, rfl, ?_⟩
        rw [e2]
        exact q
      · rw [decide_eq_false h] at q ⊢
        exact iteF q
theorem ok_replX {tM : Tok} (F : Fun K "replaced" "replaced" s_replaced f fd) (mMAX : mg "MAX_NODES" = some (.int 12 tM)) (hE : Err_limit K mg "ValueError.__new__" veT "TooLarge" q4 c.TL i4) (Dpart_at : Df P w K mg base 1 "part_at" ["tree", "path"] spPart) (Dsize_of : Df P w K mg base 20 "size_of" ["tree"] (spSz 20)) (Dwith_part : Df P w K mg base 20 "with_part" ["tree", "path", "part"] (spWith 20)) :
    FnOk P w K mg base (L2.CX P w) 21 f fd ["tree", "path", "part"] (spReplX c.TL) := by
  refine F.okX (k := 20) sc_replaced (fun vs H Q E h => ?_) (fun cdv A outer s H vs Q E hr h => ?_)
  · obtain ⟨v, vp, t, u, o, p, rfl, _⟩ := h
    rfl
  obtain ⟨v, vp, t, u, o, p, rfl, ht, hu, ho, h12, h12', q, qe⟩ := h
  refine ⟨_, (pss_cons (ps_set (i := 3) sc_replaced.nd rfl (.inl rfl) (pe_call Dpart_at.ok (hr.mono (by omega)) rfl Dpart_at.g Dpart_at.kp Dpart_at.b .nil pass0 (pa_cons (pv 0) (pa_cons (pv 1) pa_nil))))
    (pss_cons (ps_if (pt_cmpR op_gt (pe_op op_add (pe_op op_sub (pe_call Dsize_of.ok (hr.mono (by omega)) rfl Dsize_of.g Dsize_of.kp Dsize_of.b .nil pass0 (pa_cons (pv 0) pa_nil)) (pe_call Dsize_of.ok (hr.mono (by omega)) rfl Dsize_of.g Dsize_of.kp Dsize_of.b .nil pass0 (pa_cons (pv 3) pa_nil))) (pe_call Dsize_of.ok (hr.mono (by omega)) rfl Dsize_of.g Dsize_of.kp Dsize_of.b .nil pass0 (pa_cons (pv 2) pa_nil))) (pe_glob (v := .int _) rfl mMAX ⟨_, rfl⟩) (nomark _))
      (pss_one (ps_raise_limit rfl famV hE hr (takes_of rfl rfl rfl rfl) (pa_cons (pe_glob (v := .int 12) rfl mMAX ⟨_, rfl⟩) pa_nil) rfl)) pss_nil)
    (pss_one (ps_ret (pe_call Dwith_part.ok (hr.mono (by omega)) rfl Dwith_part.g Dwith_part.kp Dwith_part.b .nil pass0 (pa_cons (pv 0) (pa_cons (pv 1) (pa_cons (pv 2) pa_nil)))))))), ?_⟩
  have z1 := t.at_size p ho
  have z2 := t.put_size p u ho
  refine ⟨_, rfl, _, rfl, v, t, o, p, rfl, ht, ho, by omega, fun vo H1 s1 ho1 => ?_⟩
  have ht1 := ht.same s1
  have hu1 := hu.same s1
  refine ⟨_, rfl, v, t, rfl, ht1, by omega, _, rfl, vo, o, rfl, ho1, by omega, _, _, rfl, rfl, _, rfl, vp, u, rfl, hu1, by omega, _, _, rfl, rfl, _, _, rfl, rfl, _, rfl, ?_⟩
  by_cases hz : (t.put p u).size ≤ 12
  · rw [decide_eq_false (show ¬ ((t.size : Int) - (o.size : Int) + (u.size : Int) > 12) by omega)]
    refine iteF ?_
    refine ⟨_, rfl, _, rfl, _, rfl, v, vp, t, u, p, rfl, ht1, hu1, by omega, by omega, by rw [ho]; rfl, fun v' H2 s2 h2 => q hz v' H2 (s1.trans s2) h2⟩
  · rw [decide_eq_true (show ((t.size : Int) - (o.size : Int) + (u.size : Int) > 12) by omega)]
    exact iteT ⟨_, rfl, fun e ne => qe (by omega) H1 e s1 ne⟩
end
/-! ### the four actions, with their errors -/
theorem Res.small {t t' : B} {e : Eg} (h : Res t e (.st t')) (h0 : t.lts) (h1 : t.size ≤ 12) (h2 : t ≠ .nil) : t'.lts ∧ t'.size ≤ 12 ∧ t' ≠ .nil := by
  cases h with
  | put _ _ a b c => exact (Does.put a b c).good h0 h1 h2
  | cut _ a b c => exact (Does.cut a b c).good h0 h1 h2
  | label _ _ a b => exact (Does.label a b).good h0 h1 h2
  | turn _ a b => exact (Does.turn a b).good h0 h1 h2
theorem sx {x y : Str} (h : PyData.str x = .str y) : x = y := by injection h
/-- a value whose data is a text -/
theorem DQ.txt {D : Deck} {H : Hp} {v : V} {x : Str} (h : DQ D H v (.str x)) : v = .str x := by cases h; rfl
section
variable {P : Program} {w : World} {K : PySem.W.Frag} {mg : Str → Option Value} {base : Heap} {f : Addr} {fd : FuncData} {c : DE} {i1 i2 i3 i4 : Addr} {q1 q2 q3 q4 : Str} {f1 f2 f3 f4 aA : Addr}
theorem ok_withNodeX (F : Fun K "with_node" "with_node" s_with_node f fd) (hNO : Err_path K mg "ValueError.__new__" veT "NotOpen" q2 c.NO i2) (hNL : Err_letter K mg "ValueError.__new__" veT "NoLabel" q3 c.NL i3) (Dis_open : Df P w K mg base 2 "is_open" ["tree", "path"] spOpenX) (Dis_letter : Df P w K mg base 1 "is_letter" ["value"] spLowX) (Dreplaced : DfX P w K mg base 21 "replaced" ["tree", "path", "part"] (spReplX c.TL)) :
    FnOk P w K mg base (L2.CX P w) 22 f fd ["tree", "path", "label"] (spActX c egPut) := by
  refine F.okX (k := 21) sc_with_node (fun vs H Q E h => ?_) (fun cdv A outer s H vs Q E hr h => ?_)
  · obtain ⟨v, t, D, e, r, rfl, he, _⟩ := h
    cases e <;> first | rfl | exact he.elim
  obtain ⟨v, t, D, e, r, rfl, he, ht, hd, hg, d, h12, q⟩ := h
  cases e with
  | cut => exact he.elim
  | label => exact he.elim
  | turn => exact he.elim
  | put vp vl dp dl =>
    obtain ⟨hd1, hd2⟩ := hd
    refine ⟨_, (pss_cons (ps_if (pt_not (pt_val (pe_call Dis_open.ok (hr.mono (by omega)) rfl Dis_open.g Dis_open.kp Dis_open.b .nil pass0 (pa_cons (pv 0) (pa_cons (pv 1) pa_nil)))))
      (pss_one (ps_raise_path rfl famV hNO hr (takes_of rfl rfl rfl rfl) (pa_cons (pv 1) pa_nil) rfl)) pss_nil)
    (pss_cons (ps_if (pt_not (pt_val (pe_call Dis_letter.ok (hr.mono (by omega)) rfl Dis_letter.g Dis_letter.kp Dis_letter.b .nil pass0 (pa_cons (pv 2) pa_nil))))
      (pss_one (ps_raise_letter rfl famV hNL hr (takes_of rfl rfl rfl rfl) (pa_cons (pv 2) pa_nil) rfl)) pss_nil)
    (pss_one (ps_ret (pe_callS Dreplaced.ok (hr.mono (by omega)) rfl Dreplaced.g Dreplaced.kp Dreplaced.b (fun σ => passAt (takes_of rfl rfl rfl rfl) σ) (pa_cons (pv 0) (pa_cons (pv 1) (pa_cons (pe_tup (pa_cons pe_non (pa_cons (pv 2) (pa_cons pe_non pa_nil)))) pa_nil)))))))), ?_⟩
    refine ⟨_, rfl, _, rfl, v, vp, t, D, dp, rfl, ht, hd1, fun b H1 hb s1 => ⟨_, rfl, ?_⟩⟩
    by_cases ho : pathTo t dp = some .nil
    · rw [hb.mpr ho]
      refine iteF ⟨_, rfl, vl, D, dl, rfl, dq_same s1 hd2, hg.2, _, rfl, ?_⟩
      obtain ⟨p, rfl, hp⟩ := pathTo_at ho
      have hvp := hd1.txt
      subst hvp
      cases d with
      | putO h => exact absurd ho h
      | putL e1 _ hl =>
        rw [hl]
        exact iteT ⟨_, rfl, _, rfl, fun p np => q H1 p s1 np⟩
      | @put _ _ _ _ p' cc e1 e2 a1 hc hz =>
        subst e2
        have := px_inj (sx e1)
        subst this
        have hvl := hd2.txt
        subst hvl
        rw [show letD (.str (ch cc)) = true from hc]
        refine iteF ⟨_, rfl, _, rfl, _, rfl, (by show 3 ≤ sizeLine; decide), fun r' nr => ?_⟩
        have k2 := same_new nr (.tup [.non, .str (ch cc), .non])
        have zz := t.put_size p (.node .nil cc .nil) hp
        have e0 : (B.node .nil cc .nil).size = 1 := rfl
        have e1 : B.nil.size = 0 := rfl
        exact ⟨v, .ref r', t, .node .nil cc .nil, .nil, p, rfl, ht.same (s1.trans k2), .node upd_same .nil .nil, hp, h12, (show 1 ≤ 12 by decide), fun hz v' H2 s2 h2 => q v' H2 (s1.trans (k2.trans s2)) h2, fun hz H2 e s2 ne => by omega⟩
      | @large _ _ _ _ p' cc e1 e2 a1 hc hz =>
        subst e2
        have hvl := hd2.txt
        subst hvl
        rw [show letD (.str (ch cc)) = true from hc]
        refine iteF ⟨_, rfl, _, rfl, _, rfl, (by show 3 ≤ sizeLine; decide), fun r' nr => ?_⟩
        have k2 := same_new nr (.tup [.non, .str (ch cc), .non])
        have zz := t.put_size p (.node .nil cc .nil) hp
        have e0 : (B.node .nil cc .nil).size = 1 := rfl
        have e1 : B.nil.size = 0 := rfl
        exact ⟨v, .ref r', t, .node .nil cc .nil, .nil, p, rfl, ht.same (s1.trans k2), .node upd_same .nil .nil, hp, h12, (show 1 ≤ 12 by decide), fun hz v' H2 s2 h2 => by omega, fun hz H2 e s2 ne => q H2 e (s1.trans (k2.trans s2)) ne⟩
    · have hb : b = false := by
        cases b with
        | false => rfl
        | true => exact absurd (hb.mp rfl) ho
      subst hb
      refine iteT ⟨_, rfl, _, rfl, fun p np => ?_⟩
      cases d with
      | put e _ a _ _ => exact absurd ((e ▸ pathTo_px t _).trans a) ho
      | large e _ a _ _ => exact absurd ((e ▸ pathTo_px t _).trans a) ho
      | putL e a _ => exact absurd ((e ▸ pathTo_px t _).trans a) ho
      | putO _ => exact q H1 p s1 np
theorem ok_withoutX (F : Fun K "without_node" "without_node" s_without_node f fd) (hLN : Err0 K mg "LastNode" c.LN) (Dnode_at : DfX P w K mg base 2 "node_at" ["tree", "path"] (spNodeX c.NP)) (Dreplaced : DfX P w K mg base 21 "replaced" ["tree", "path", "part"] (spReplX c.TL)) :
    FnOk P w K mg base (L2.CX P w) 22 f fd ["tree", "path"] (spActX c egCut) := by
  refine F.okX (k := 21) sc_without_node (fun vs H Q E h => ?_) (fun cdv A outer s H vs Q E hr h => ?_)
  · obtain ⟨v, t, D, e, r, rfl, he, _⟩ := h
    cases e <;> first | rfl | exact he.elim
  obtain ⟨v, t, D, e, r, rfl, he, ht, hd, hg, d, h12, q⟩ := h
  cases e with
  | put => exact he.elim
  | label => exact he.elim
  | turn => exact he.elim
  | cut vp dp =>
    have hd : DQ D H vp dp := hd
    refine ⟨_, (pss_cons (ps_expr (pe_callS Dnode_at.ok (hr.mono (by omega)) rfl Dnode_at.g Dnode_at.kp Dnode_at.b (fun σ => passAt (takes_of rfl rfl rfl rfl) σ) (pa_cons (pv 0) (pa_cons (pv 1) pa_nil))))
    (pss_cons (ps_if (pt_cmpR op_eq (pv 1) pe_str (nomark _))
      (pss_one (ps_raise rfl (takes_of rfl rfl rfl rfl) (pmk_own0 PySem.F.excBase_ValueError hLN.q hLN.g hLN.k (raises_own hLN.e hLN.t) rfl))) pss_nil)
    (pss_one (ps_ret (pe_callS Dreplaced.ok (hr.mono (by omega)) rfl Dreplaced.g Dreplaced.kp Dreplaced.b (fun σ => passAt (takes_of rfl rfl rfl rfl) σ) (pa_cons (pv 0) (pa_cons (pv 1) (pa_cons pe_non pa_nil)))))))), ?_⟩
    refine ⟨_, rfl, _, rfl, v, vp, t, D, dp, rfl, ht, hd, fun u hu hn H1 v1 s1 h1 => ?_, fun hn => ?_⟩
    · skip
      cases d with
      | cutP h => exact absurd (h u hu) hn
      | @cut _ _ p u' e1 a1 a2 hpn =>
        subst e1
        have hvp := hd.txt
        subst hvp
        have zz := t.put_size p .nil a1
        have e1 : B.nil.size = 0 := rfl
        refine ⟨_, rfl, rfl, _, rfl, iteR (fun z => hpn (by rw [← px_nil] at z; exact px_inj z)) ?_⟩
        exact ⟨_, rfl, _, rfl, v, .non, t, .nil, u', p, rfl, ht.same s1, .nil, a1, h12, (show 0 ≤ 12 by decide), fun hz v' H2 s2 h2 => q v' H2 (s1.trans s2) h2, fun hz H2 e s2 ne => by omega⟩
      | last e1 hne =>
        subst e1
        have hvp := hd.txt
        subst hvp
        refine ⟨_, rfl, rfl, _, rfl, iteS px_nil ?_⟩
        exact q _ s1
    · intro H1 e s1 ne
      cases d with
      | cutP h => exact q H1 e s1 ne
      | cut e1 a1 a2 _ => exact absurd (hn _ ((e1 ▸ pathTo_px t _).trans a1)) a2
      | last e1 hne => exact absurd (hn t ((e1 ▸ pathTo_px t _).trans (by cases t <;> rfl))) hne
theorem ok_withLabelX (F : Fun K "with_label" "with_label" s_with_label f fd) (hNL : Err_letter K mg "ValueError.__new__" veT "NoLabel" q3 c.NL i3) (Dnode_at : DfX P w K mg base 2 "node_at" ["tree", "path"] (spNodeX c.NP)) (Dis_letter : Df P w K mg base 1 "is_letter" ["value"] spLowX) (Dreplaced : Df P w K mg base 21 "replaced" ["tree", "path", "part"] spRepl) :
    FnOk P w K mg base (L2.CX P w) 22 f fd ["tree", "path", "label"] (spActX c egLab) := by
  refine F.okX (k := 21) sc_with_label (fun vs H Q E h => ?_) (fun cdv A outer s H vs Q E hr h => ?_)
  · obtain ⟨v, t, D, e, r, rfl, he, _⟩ := h
    cases e <;> first | rfl | exact he.elim
  obtain ⟨v, t, D, e, r, rfl, he, ht, hd, hg, d, h12, q⟩ := h
  cases e with
  | put => exact he.elim
  | cut => exact he.elim
  | turn => exact he.elim
  | label vp vl dp dl =>
    obtain ⟨hd1, hd2⟩ := hd
    refine ⟨_, (pss_cons (ps_asg (pe_callS Dnode_at.ok (hr.mono (by omega)) rfl Dnode_at.g Dnode_at.kp Dnode_at.b (fun σ => passAt (takes_of rfl rfl rfl rfl) σ) (pa_cons (pv 0) (pa_cons (pv 1) pa_nil))) (pg_tup rfl (pgs_cons (pg_name (i := 3) sc_with_label.nd rfl (.inl rfl)) (pgs_cons (pg_name (i := 4) sc_with_label.nd rfl (.inl rfl)) (pgs_cons (pg_name (i := 5) sc_with_label.nd rfl (.inl rfl)) pgs_nil)))))
    (pss_cons (ps_if (pt_not (pt_val (pe_call Dis_letter.ok (hr.mono (by omega)) rfl Dis_letter.g Dis_letter.kp Dis_letter.b .nil pass0 (pa_cons (pv 2) pa_nil))))
      (pss_one (ps_raise_letter rfl famV hNL hr (takes_of rfl rfl rfl rfl) (pa_cons (pv 2) pa_nil) rfl)) pss_nil)
    (pss_one (ps_ret (pe_call Dreplaced.ok (hr.mono (by omega)) rfl Dreplaced.g Dreplaced.kp Dreplaced.b .nil pass0 (pa_cons (pv 0) (pa_cons (pv 1) (pa_cons (pe_tup (pa_cons (pv 3) (pa_cons (pv 2) (pa_cons (pv 5) pa_nil)))) pa_nil)))))))), ?_⟩
    refine ⟨_, rfl, _, rfl, v, vp, t, D, dp, rfl, ht, hd1, fun u hu hn H1 v1 s1 h1 => ?_, fun hn => ?_⟩
    · skip
      rcases h1.inv with ⟨_, z⟩ | ⟨a, vl', vr', x, tl, tr, e1, e2, ea, aL, aR⟩
      · exact absurd z hn
      subst e1
      subst e2
      refine ⟨a, _, rfl, SqT.of ea, rfl, vl', _, rfl, .str (ch x), _, rfl, vr', _, rfl, rfl, ?_⟩
      refine ⟨_, rfl, vl, D, dl, rfl, dq_same s1 hd2, hg.2, _, rfl, ?_⟩
      cases d with
      | labelP h => exact absurd (h _ hu) hn
      | labelL e1 a1 a2 hl =>
        rw [hl]
        exact iteT ⟨_, rfl, _, rfl, fun p np => q H1 p s1 np⟩
      | @label _ _ _ _ p l r y cc e1 e2 a1 hc =>
        subst e2
        subst e1
        have hvp := hd1.txt
        subst hvp
        have hvl := hd2.txt
        subst hvl
        have hu' : t.at p = some (.node tl x tr) := (pathTo_px t p).symm.trans hu
        have e3 := hu'.symm.trans a1
        injection e3 with e3
        injection e3 with e4 e5 e6
        subst e4
        subst e5
        subst e6
        rw [show letD (.str (ch cc)) = true from hc]
        have zz := t.put_size p (.node tl cc tr) a1
        have e0 : (B.node tl cc tr).size = tl.size + 1 + tr.size := rfl
        have e1 : (B.node tl x tr).size = tl.size + 1 + tr.size := rfl
        refine iteF ⟨_, rfl, _, rfl, _, rfl, _, rfl, _, rfl, (by show 3 ≤ sizeLine; decide), fun r' nr => ?_⟩
        have k2 := same_new nr (.tup [vl', .str (ch cc), vr'])
        exact ⟨v, .ref r', t, .node tl cc tr, _, p, rfl, ht.same (s1.trans k2), .node upd_same (aL.same k2) (aR.same k2), a1, h12, by omega, fun v' H2 s2 h2 => q v' H2 (s1.trans (k2.trans s2)) h2⟩
    · intro H1 e s1 ne
      cases d with
      | labelP h => exact q H1 e s1 ne
      | labelL e1 a1 a2 _ => exact absurd (hn _ ((e1 ▸ pathTo_px t _).trans a1)) a2
      | label e1 _ a1 _ => exact absurd (hn _ ((e1 ▸ pathTo_px t _).trans a1)) (by simp)
theorem ok_turnedX (F : Fun K "turned" "turned" s_turned f fd) (Dnode_at : DfX P w K mg base 2 "node_at" ["tree", "path"] (spNodeX c.NP)) (Dmirrored : Df P w K mg base 20 "mirrored" ["tree"] (spMir 20)) (Dreplaced : Df P w K mg base 21 "replaced" ["tree", "path", "part"] spRepl) :
    FnOk P w K mg base (L2.CX P w) 22 f fd ["tree", "path"] (spActX c egTur) := by
  refine F.okX (k := 21) sc_turned (fun vs H Q E h => ?_) (fun cdv A outer s H vs Q E hr h => ?_)
  · obtain ⟨v, t, D, e, r, rfl, he, _⟩ := h
    cases e <;> first | rfl | exact he.elim
  obtain ⟨v, t, D, e, r, rfl, he, ht, hd, hg, d, h12, q⟩ := h
  cases e with
  | put => exact he.elim
  | cut => exact he.elim
  | label => exact he.elim
  | turn vp dp =>
    have hd : DQ D H vp dp := hd
    refine ⟨_, (pss_one (ps_ret (pe_call Dreplaced.ok (hr.mono (by omega)) rfl Dreplaced.g Dreplaced.kp Dreplaced.b .nil pass0 (pa_cons (pv 0) (pa_cons (pv 1) (pa_cons (pe_call Dmirrored.ok (hr.mono (by omega)) rfl Dmirrored.g Dmirrored.kp Dmirrored.b .nil pass0 (pa_cons (pe_callS Dnode_at.ok (hr.mono (by omega)) rfl Dnode_at.g Dnode_at.kp Dnode_at.b (fun σ => passAt (takes_of rfl rfl rfl rfl) σ) (pa_cons (pv 0) (pa_cons (pv 1) pa_nil))) pa_nil)) pa_nil)))))), ?_⟩
    refine ⟨_, rfl, _, rfl, _, rfl, _, rfl, v, vp, t, D, dp, rfl, ht, hd, fun u hu hn H1 v1 s1 h1 => ?_, fun hn => ?_⟩
    · skip
      cases d with
      | turnP h => exact absurd (h u hu) hn
      | @turn _ _ p u' e1 a1 a2 =>
        subst e1
        have hvp := hd.txt
        subst hvp
        have e3 := ((pathTo_px t p).symm.trans hu).symm.trans a1
        injection e3 with e3
        subst e3
        have zz := t.put_size p u.mir a1
        have zm := u.mir_size
        have zu := t.at_size p a1
        refine ⟨v1, u, rfl, h1, by omega, fun v2 H2 s2 h2 => ?_⟩
        exact ⟨v, v2, t, u.mir, u, p, rfl, ht.same (s1.trans s2), h2, a1, h12, by omega, fun v' H3 s3 h3 => q v' H3 (s1.trans (s2.trans s3)) h3⟩
    · intro H1 e s1 ne
      cases d with
      | turnP h => exact q H1 e s1 ne
      | turn e1 a1 a2 => exact absurd (hn _ ((e1 ▸ pathTo_px t _).trans a1)) a2
theorem ok_editedX (F : Fun K "edited" "edited" s_edited f fd) (AC : Acts K w mg aA f1 f2 f3 f4) (A1 : HeldX P w K mg base 22 f1 (spActX c egPut)) (A2 : HeldX P w K mg base 22 f2 (spActX c egCut)) (A3 : HeldX P w K mg base 22 f3 (spActX c egLab)) (A4 : HeldX P w K mg base 22 f4 (spActX c egTur)) :
    FnOk P w K mg base (L2.CX P w) 23 f fd ["tree", "edit"] (spEditedX c) := by
  refine F.okX (k := 22) sc_edited (fun vs H Q E h => ?_) (fun cdv A outer s H vs Q E hr h => ?_)
  · obtain ⟨v, a, t, D, e, r, rfl, _⟩ := h
    rfl
  obtain ⟨v, a, t, D, e, r, rfl, ea, ht, hd, hg, d, h12, q⟩ := h
  have AH : ∀ f sp, (fun (g : Addr) (sp : Sp) => (g = f1 ∧ sp = spActX c egPut) ∨ (g = f2 ∧ sp = spActX c egCut) ∨ (g = f3 ∧ sp = spActX c egLab) ∨ (g = f4 ∧ sp = spActX c egTur)) f sp → HeldX P w K mg base 22 f sp := by
    rintro f sp (⟨rfl, rfl⟩ | ⟨rfl, rfl⟩ | ⟨rfl, rfl⟩ | ⟨rfl, rfl⟩)
    · exact A1
    · exact A2
    · exact A3
    · exact A4
  refine ⟨_, (pss_cons (ps_asg (pv 1) (pg_head rfl (pg_name (i := 2) sc_edited.nd rfl (.inl rfl)) (pg_name (i := 3) sc_edited.nd rfl (.inl rfl))))
    (pss_cons (ps_set (i := 4) sc_edited.nd rfl (.inl rfl) (pe_ix ix_kdict (pe_glob (v := .ref _) rfl AC.g rfl) (pv 2) (fun _ _ => rfl)))
    (pss_one (ps_ret (pe_callASX (i := 4) AH (hr.mono (by omega)) (fun σ => passAt (takes_of rfl rfl rfl rfl) σ) rfl (.inl rfl) (pa_cons (pv 0) (StX.pa_star (pv 3) pa_nil))))))), ?_⟩
  refine ⟨_, rfl, a, .str e.word, e.args, rfl, SqT.of ea, by cases e <;> (show _ ≤ 1000; simp [Eg.args]), fun L nL => ?_⟩
  have k1 := same_new nL (.lst e.args)
  have eL := upd_same (H := H) (a := L) (o := .lst e.args)
  have ht1 := ht.same k1
  have hd1 := hd.same k1
  have q1 := OutTo.mono k1 q
  generalize upd H L (.lst e.args) = H1 at k1 eL ht1 hd1 q1 ⊢
  cases e with
  | put vp vl dp dl =>
    refine ⟨_, rfl, aA, "put", .ref f1, rfl, rfl, AC.put, ?_⟩
    exact ⟨f1, _, rfl, .inl ⟨rfl, rfl⟩, _, rfl, _, rfl, L, _, rfl, .inr (SqL.of eL), v, t, D, .put vp vl dp dl, r, rfl, trivial, ht1, hd1, hg, d, h12, q1⟩
  | cut vp dp =>
    refine ⟨_, rfl, aA, "cut", .ref f2, rfl, rfl, AC.cut, ?_⟩
    exact ⟨f2, _, rfl, .inr (.inl ⟨rfl, rfl⟩), _, rfl, _, rfl, L, _, rfl, .inr (SqL.of eL), v, t, D, .cut vp dp, r, rfl, trivial, ht1, hd1, hg, d, h12, q1⟩
  | label vp vl dp dl =>
    refine ⟨_, rfl, aA, "label", .ref f3, rfl, rfl, AC.label, ?_⟩
    exact ⟨f3, _, rfl, .inr (.inr (.inl ⟨rfl, rfl⟩)), _, rfl, _, rfl, L, _, rfl, .inr (SqL.of eL), v, t, D, .label vp vl dp dl, r, rfl, trivial, ht1, hd1, hg, d, h12, q1⟩
  | turn vp dp =>
    refine ⟨_, rfl, aA, "turn", .ref f4, rfl, rfl, AC.turn, ?_⟩
    exact ⟨f4, _, rfl, .inr (.inr (.inr ⟨rfl, rfl⟩)), _, rfl, _, rfl, L, _, rfl, .inr (SqL.of eL), v, t, D, .turn vp dp, r, rfl, trivial, ht1, hd1, hg, d, h12, q1⟩
end
/-! ### the methods of Desk -/
def spInitD (C : Addr) : Sp := fun vs H Q _ => ∃ (p dx : Addr) (v : V) (t : B), vs = [.ref p, v] ∧ H p = some (.ins C dx []) ∧ BAt H v t ∧ t ≠ .nil ∧ t.lts ∧ t.size ≤ 12 ∧ ∀ H', But p H H' → Dk C H' p [] t [] false → Q .non H'
def spFree (C : Addr) : Sp := fun vs H Q _ => ∃ (a : Addr) (ts : List B) (t : B) (es : List Ed), vs = [.ref a] ∧ Dk C H a ts t es false ∧ Q .non H
def spCT : Sp := fun vs H Q _ => ∃ a v, vs = [.ref a, v] ∧ Q .non H
def spTold (C : Addr) : Sp := fun vs H Q _ => ∃ (a : Addr) (v : V) (ts : List B) (t : B) (es : List Ed) (bu : Bool), vs = [.ref a, v] ∧ Dk C H a ts t es bu ∧ es.length ≤ 1000 ∧ Q (.int (es.length : Int)) H
def spTake (C : Addr) : Sp := fun vs H Q _ => ∃ (a q : Addr) (ts : List B) (t t' : B) (es : List Ed) (bu : Bool) (e : Ed), vs = [.ref a, .ref q] ∧ Dk C H a ts t es bu ∧ H q = some (.tup e.vals) ∧ Does t e t' ∧ es.length < 60 ∧ ts.length ≤ 100 ∧ t.lts ∧ t.size ≤ 12 ∧ t ≠ .nil ∧
  ∀ H', But a H H' → Dk C H' a (ts ++ [t]) t' (es ++ [e]) bu → Q .non H'
def spCalled (C : Addr) : Sp := fun vs H Q _ => ∃ (a q : Addr) (ts : List B) (t t' : B) (es : List Ed) (e : Ed), vs = [.ref a, .ref q] ∧ Dk C H a ts t es false ∧ H q = some (.tup e.vals) ∧ Does t e t' ∧ es.length < 60 ∧ ts.length ≤ 100 ∧ t.lts ∧ t.size ≤ 12 ∧ t ≠ .nil ∧
  ∀ H', But a H H' → Dk C H' a (ts ++ [t]) t' (es ++ [e]) false → Q (.int ((es.length + 1 : Nat) : Int)) H'
/-- one of the four methods: the desk, then the edit's arguments -/
def spDo (C : Addr) (mk : Ed → Prop) : Sp := fun vs H Q _ => ∃ (a : Addr) (ts : List B) (t t' : B) (es : List Ed) (e : Ed), vs = .ref a :: e.args ∧ mk e ∧ Dk C H a ts t es false ∧ Does t e t' ∧ es.length < 60 ∧ ts.length ≤ 100 ∧ t.lts ∧ t.size ≤ 12 ∧ t ≠ .nil ∧
  ∀ H', But a H H' → Dk C H' a (ts ++ [t]) t' (es ++ [e]) false → Q (.int ((es.length + 1 : Nat) : Int)) H'
/-- the tree of a desk -/
def spTreeM (C : Addr) : Sp := fun vs H Q _ => ∃ (a : Addr) (ts : List B) (t : B) (es : List Ed) (bu : Bool), vs = [.ref a, .non] ∧ Dk C H a ts t es bu ∧ ∀ v, BAt H v t → Q v H
def spEditsM (C : Addr) : Sp := fun vs H Q _ => ∃ (a : Addr) (ts : List B) (t : B) (es : List Ed) (bu : Bool), vs = [.ref a] ∧ Dk C H a ts t es bu ∧ ∀ (d : Addr) (ds : List V), H d = some (.tup ds) → EsAt H ds es → Q (.ref d) H
def spVer (C : Addr) : Sp := fun vs H Q _ => ∃ (a : Addr) (ts : List B) (t : B) (es : List Ed) (bu : Bool), vs = [.ref a] ∧ Dk C H a ts t es bu ∧ es.length ≤ 1000 ∧ Q (.int (es.length : Int)) H
def spSizeP (C : Addr) : Sp := fun vs H Q _ => ∃ (a : Addr) (ts : List B) (t : B) (es : List Ed) (bu : Bool), vs = [.ref a] ∧ Dk C H a ts t es bu ∧ t.size ≤ 12 ∧ Q (.int (t.size : Int)) H
def spWalkP (C : Addr) (k : Kd) : Sp := fun vs H Q _ => ∃ (a : Addr) (ts : List B) (t : B) (es : List Ed) (bu : Bool), vs = [.ref a] ∧ Dk C H a ts t es bu ∧ t.size ≤ 12 ∧ ∀ H', Same H H' → Q (.str (tx (t.wk k))) H'
/-- the text of a desk -/
def dtext (n m : Nat) : Str := Str.ofString (toString (n : Int)) ++ Str.ofString " nodes, " ++ Str.ofString (toString (m : Int)) ++ Str.ofString " edits"
def spStrD (C : Addr) : Sp := fun vs H Q _ => ∃ (a : Addr) (ts : List B) (t : B) (es : List Ed) (bu : Bool), vs = [.ref a] ∧ Dk C H a ts t es bu ∧ t.size ≤ 12 ∧ es.length ≤ 60 ∧ Q (.str (dtext t.size es.length)) H
theorem sc_Desk_tree : FnScope ["self", "version"] ["self", "version"] (defScope s_Desk_tree) := ⟨rfl, rfl, rfl, by decide +kernel, rfl, by decide +kernel, by decide +kernel⟩
section
variable {P : Program} {w : World} {K : PySem.W.Frag} {mg : Str → Option Value} {base : Heap} {f : Addr} {fd : FuncData} {C : Addr}
theorem ok_init (F : Fun K "__init__" "Desk.__init__" s_Desk___init__ f fd) (TD : DeskC K mg C) (Dis_tree : Df P w K mg base 3 "is_tree" ["value"] spTreeT) : FnOk P w K mg base CX0 4 f fd ["self", "tree"] (spInitD C) := by
  refine F.ok sc_Desk___init__ (fun vs H Q E h => ?_) (fun cdv A outer s H vs Q E hr h => ?_)
  · obtain ⟨p, dx, v, x, rfl, _⟩ := h
    rfl
  obtain ⟨p, dx, v, x, rfl, hp, ht, hn, hl, hz, q⟩ := h
  refine ⟨_, (pss_cons (ps_if (pt_not (pt_val (pe_call Dis_tree.ok (hr.mono (by omega)) rfl Dis_tree.g Dis_tree.kp Dis_tree.b .nil pass0 (pa_cons (pv 1) pa_nil))))
      (pss_one ps_never) pss_nil)
    (pss_cons (ps_fld (pv 0) (pe_tup (pa_cons (pv 1) pa_nil)) rfl)
    (pss_cons (ps_fld (pv 0) (pe_tup pa_nil) rfl)
    (pss_one (ps_fld (pv 0) pe_bl rfl))))), ?_⟩
  refine ⟨_, rfl, v, x, rfl, ht, hn, hl, hz, fun H1 s1 => ⟨_, rfl, iteF ?_⟩⟩
  refine ⟨_, rfl, (by show 1 ≤ sizeLine; decide), fun ta nta => ?_⟩
  have k2 := same_new nta (.tup [v])
  have hp2 := k2 _ _ (s1 _ _ hp)
  have npt : p ≠ ta := ne_of_none (s1 _ _ hp) nta
  refine ⟨_, rfl, p, C, dx, [], rfl, hp2, TD.cl, TD.nT, (by show 0 < 1000; decide), ?_⟩
  refine ⟨(by show 0 ≤ sizeLine; decide), fun td ntd => ?_⟩
  have npd : p ≠ td := fun z => by rw [← z, upd_same] at ntd; cases ntd
  rw [upd_ne npd.symm] at ntd
  have ntt : ta ≠ td := ne_of_none (H := upd H1 ta (.tup [v])) upd_same ntd
  refine ⟨_, rfl, p, C, dx, deskF1 (.ref ta), rfl, (by rw [upd_ne npd, upd_same]; rfl), TD.cl, TD.nD, (by show 1 < 1000; decide), ?_⟩
  refine ⟨_, rfl, p, C, dx, deskF2 (.ref ta) (.ref td), rfl, (by rw [upd_same, put_d]), TD.cl, TD.nB, (by show 2 < 1000; decide), ?_⟩
  refine q _ (fun b o hb e => ?_) ⟨dx, ta, td, [], v, [], (by rw [upd_same, put_b]), (by rw [upd_ne npt.symm, upd_ne npt.symm, upd_ne ntt, upd_ne npt.symm, upd_same]; rfl), (by rw [upd_ne npd.symm, upd_ne npd.symm, upd_same]), .nil, ?_, .nil⟩
  · have e1 := k2 _ _ (s1 _ _ e)
    have n1 : b ≠ td := ne_of_none e1 ntd
    rw [upd_ne hb, upd_ne hb, upd_ne n1, upd_ne hb]
    exact e1
  · refine (ht.same (s1.trans k2)).keep fun b xs e => ?_
    have hb : b ≠ p := ne_of e hp2 (by intro z; cases z)
    have n1 : b ≠ td := ne_of_none e ntd
    rw [upd_ne hb, upd_ne hb, upd_ne n1, upd_ne hb]
    exact e
theorem ok_free {k : Nat} (F : Fun K "check_free" "Desk.check_free" s_Desk_check_free f fd) (TD : DeskC K mg C) : FnOk P w K mg base CX0 (k + 1) f fd ["self"] (spFree C) := by
  refine F.ok sc_Desk_check_free (fun vs H Q E h => ?_) (fun cdv A outer s H vs Q E hr h => ?_)
  · obtain ⟨a, ts, t, es, rfl, _⟩ := h
    rfl
  obtain ⟨a, ts, t, es, rfl, ⟨dx, ta, td, vs, v, ds, h1, h2, h3, h4, h5, h6⟩, q⟩ := h
  refine ⟨_, (pss_one (ps_if (pt_val (pe_fld (pv 0) rfl))
      (pss_one ps_never) pss_nil)), ?_⟩
  exact ⟨_, rfl, a, C, dx, _, _, rfl, h1, TD.cl, TD.nB, look_b _ _ _, false, rfl, iteF q⟩
theorem ok_ct {k : Nat} (F : Fun K "check_tree" "Desk.check_tree" s_Desk_check_tree f fd) : FnOk P w K mg base CX0 (k + 1) f fd ["self", "tree"] spCT := by
  refine F.ok sc_Desk_check_tree (fun vs H Q E h => ?_) (fun cdv A outer s H vs Q E hr h => ?_)
  · obtain ⟨a, v, rfl, _⟩ := h
    rfl
  obtain ⟨a, v, rfl, q⟩ := h
  exact ⟨_, (pss_one ps_pass), q⟩
theorem ok_told {k : Nat} (F : Fun K "told" "Desk.told" s_Desk_told f fd) (TD : DeskC K mg C) (M : Mgs mg) : FnOk P w K mg base CX0 (k + 1) f fd ["self", "name"] (spTold C) := by
  refine F.ok sc_Desk_told (fun vs H Q E h => ?_) (fun cdv A outer s H vs Q E hr h => ?_)
  · obtain ⟨a, v, ts, t, es, bu, rfl, _⟩ := h
    rfl
  obtain ⟨a, v, ts, t, es, bu, rfl, ⟨dx, ta, td, vs, u, ds, h1, h2, h3, h4, h5, h6⟩, hz, q⟩ := h
  refine ⟨_, (pss_one (ps_ret (pe_callB call_len_seq rfl M.len PySem.boot_len (pa_cons (pe_fld (pv 0) rfl) pa_nil)))), ?_⟩
  have hl := h6.len
  refine ⟨_, rfl, a, C, dx, _, _, rfl, h1, TD.cl, TD.nD, look_d _ _ _, td, ds, rfl, .inr (SqT.of h3), ?_⟩
  rw [hl]
  exact q
theorem ok_take (F : Fun K "take" "Desk.take" s_Desk_take f fd) (TD : DeskC K mg C) (M : Mgs mg) (Dedited : Df P w K mg base 23 "edited" ["tree", "edit"] spEdited) (Dct : MDf P w K mg base C 1 "check_tree" ["self", "tree"] spCT) : FnOk P w K mg base CX0 24 f fd ["self", "edit"] (spTake C) := by
  refine F.ok (k := 23) sc_Desk_take (fun vs H Q E h => ?_) (fun cdv A outer s H vs Q E hr h => ?_)
  · obtain ⟨a, q, ts, t, t', es, bu, e, rfl, _⟩ := h
    rfl
  obtain ⟨a, qe, ts, t, t', es, bu, e, rfl, ⟨dx, ta, td, vs, u, ds, h1, h2, h3, h4, h5, h6⟩, he, hd, h60, hts, hl, hz, hn, q⟩ := h
  obtain ⟨um, mo⟩ := TD.mo
  refine ⟨_, (pss_cons (ps_if (pt_cmpR op_ge (pe_callB call_len_seq rfl M.len PySem.boot_len (pa_cons (pe_fld (pv 0) rfl) pa_nil)) (pe_conD (pv 0)) (nomark _))
      (pss_one ps_never) pss_nil)
    (pss_cons (ps_set (i := 2) sc_Desk_take.nd rfl (.inl rfl) (pe_call Dedited.ok (hr.mono (by omega)) rfl Dedited.g Dedited.kp Dedited.b .nil pass0 (pa_cons (pe_ix ix_tup (pe_fld (pv 0) rfl) (pe_un un_neg pe_int) (fun _ _ => rfl)) (pa_cons (pv 1) pa_nil))))
    (pss_cons (ps_expr (pe_meth (pv 0) TD.cl Dct.at_ Dct.ok (hr.mono (by omega)) Dct.b .nil pass0 (pa_cons (pv 2) pa_nil)))
    (pss_cons (ps_fld (pv 0) (pe_tup (StX.pa_star (pe_fld (pv 0) rfl) (pa_cons (pv 2) pa_nil))) rfl)
    (pss_one (ps_fld (pv 0) (pe_tup (StX.pa_star (pe_fld (pv 0) rfl) (pa_cons (pv 1) pa_nil))) rfl)))))), ?_⟩
  have el := h6.len
  have tl := h4.len
  refine ⟨_, rfl, a, C, dx, _, _, rfl, h1, TD.cl, TD.nD, look_d _ _ _, td, ds, rfl, .inr (SqT.of h3), ?_⟩
  refine ⟨_, rfl, a, C, dx, _, _, um, rfl, h1, TD.cl, mo, no_look _ _ _ (by decide +kernel) (by decide +kernel) (by decide +kernel), _, _, rfl, rfl, _, rfl, ?_⟩
  rw [decide_eq_false (show ¬ ((ds.length : Int) ≥ 60) by omega)]
  refine iteF ?_
  refine ⟨_, rfl, a, C, dx, _, _, rfl, h1, TD.cl, TD.nT, look_t _ _ _, _, rfl, ta, _, _, u, rfl, rfl, SqT.of h2, atI_last _ _, _, rfl, u, t, t', e, qe, rfl, he, h5, hd, hz, hl, hn, fun v' H1 s1 b1 => ?_⟩
  refine ⟨_, rfl, a, dx, _, rfl, s1 _ _ h1, no_look _ _ _ (by decide +kernel) (by decide +kernel) (by decide +kernel), _, rfl, a, v', rfl, ?_⟩
  refine ⟨_, rfl, a, C, dx, _, _, rfl, s1 _ _ h1, TD.cl, TD.nT, look_t _ _ _, ta, _, rfl, .inl (SqT.of (s1 _ _ h2)), _, rfl, small (by rw [List.length_append, List.length_append]; show vs.length + 1 + 1 ≤ 1000; omega), fun tb ntb => ?_⟩
  have k2 := same_new ntb (.tup ((vs ++ [u]) ++ [v']))
  have e2 := k2 _ _ (s1 _ _ h1)
  have et2 := upd_same (H := H1) (a := tb) (o := .tup ((vs ++ [u]) ++ [v']))
  have s12 := s1.trans k2
  have b2 := b1.same k2
  generalize upd H1 tb (.tup ((vs ++ [u]) ++ [v'])) = H2 at k2 e2 et2 s12 b2 ⊢
  refine ⟨_, rfl, a, C, dx, _, rfl, e2, TD.cl, TD.nT, (by show 3 < 1000; decide), ?_⟩
  rw [set_t]
  have bB : But a H2 (upd H2 a (.ins C dx (deskF (.ref tb) (.ref td) (.bl bu)))) := fun b o hb e => by rw [upd_ne hb]; exact e
  have e3 := upd_same (H := H2) (a := a) (o := .ins C dx (deskF (.ref tb) (.ref td) (.bl bu)))
  have k3 : KeepT H2 (upd H2 a (.ins C dx (deskF (.ref tb) (.ref td) (.bl bu)))) := fun b xs e => bB b _ (ne_of e e2 (by intro z; cases z)) e
  generalize upd H2 a (.ins C dx (deskF (.ref tb) (.ref td) (.bl bu))) = H3 at bB e3 k3 ⊢
  have kA : KeepT H H3 := (Tw.Same.keepT s12).trans k3
  refine ⟨_, rfl, a, C, dx, _, _, rfl, e3, TD.cl, TD.nD, look_d _ _ _, td, _, rfl, .inl (SqT.of (kA _ _ h3)), _, rfl, small (by rw [List.length_append]; show ds.length + 1 ≤ 1000; omega), fun tc ntc => ?_⟩
  have k4 := same_new ntc (.tup (ds ++ [.ref qe]))
  have e4 := k4 _ _ e3
  have et4 := upd_same (H := H3) (a := tc) (o := .tup (ds ++ [.ref qe]))
  generalize upd H3 tc (.tup (ds ++ [.ref qe])) = H4 at k4 e4 et4 ⊢
  refine ⟨_, rfl, a, C, dx, _, rfl, e4, TD.cl, TD.nD, (by show 3 < 1000; decide), ?_⟩
  rw [set_d]
  have bB5 : But a H4 (upd H4 a (.ins C dx (deskF (.ref tb) (.ref tc) (.bl bu)))) := fun b o hb e => by rw [upd_ne hb]; exact e
  have e5 := upd_same (H := H4) (a := a) (o := .ins C dx (deskF (.ref tb) (.ref tc) (.bl bu)))
  have k5 : KeepT H4 (upd H4 a (.ins C dx (deskF (.ref tb) (.ref tc) (.bl bu)))) := fun b xs e => bB5 b _ (ne_of e e4 (by intro z; cases z)) e
  generalize upd H4 a (.ins C dx (deskF (.ref tb) (.ref tc) (.bl bu))) = H5 at bB5 e5 k5 ⊢
  have kB : KeepT H2 H5 := k3.trans ((Tw.Same.keepT k4).trans k5)
  have kC : KeepT H H5 := (Tw.Same.keepT s12).trans kB
  refine q H5 ((But.of s12).trans (bB.trans ((But.of k4).trans bB5))) ⟨dx, tb, tc, vs ++ [u], v', ds ++ [.ref qe], e5, kB _ _ et2, k5 _ _ et4, .snoc (h4.keep kC) (h5.keep kC), b2.keep kB, .snoc (h6.keep kC) (kC _ _ he)⟩
theorem ok_called (F : Fun K "called" "Desk.called" s_Desk_called f fd) (TD : DeskC K mg C) (Dcf : MDf P w K mg base C 1 "check_free" ["self"] (spFree C)) (Dtake : MDf P w K mg base C 24 "take" ["self", "edit"] (spTake C)) (Dtold : MDf P w K mg base C 1 "told" ["self", "name"] (spTold C)) :
    FnOk P w K mg base CX0 25 f fd ["self", "edit"] (spCalled C) := by
  refine F.ok (k := 24) sc_Desk_called (fun vs H Q E h => ?_) (fun cdv A outer s H vs Q E hr h => ?_)
  · obtain ⟨a, q, ts, t, t', es, e, rfl, _⟩ := h
    rfl
  obtain ⟨a, qe, ts, t, t', es, e, rfl, dk, he, hd, h60, hts, hl, hz, hn, q⟩ := h
  refine ⟨_, (pss_cons (ps_expr (pe_meth0 (pv 0) TD.cl Dcf.at_ Dcf.ok (hr.mono (by omega)) Dcf.b .nil pass0))
    (pss_cons (ps_expr (pe_meth (pv 0) TD.cl Dtake.at_ Dtake.ok (hr.mono (by omega)) Dtake.b .nil pass0 (pa_cons (pv 1) pa_nil)))
    (pss_one (ps_ret (pe_meth (pv 0) TD.cl Dtold.at_ Dtold.ok (hr.mono (by omega)) Dtold.b .nil pass0 (pa_cons (pe_ix ix_tup (pv 1) pe_int (fun _ _ => rfl)) pa_nil)))))), ?_⟩
  obtain ⟨dx, ta, td, vs, u, ds, h1, _⟩ := id dk
  refine ⟨_, rfl, a, dx, _, rfl, h1, no_look _ _ _ (by decide +kernel) (by decide +kernel) (by decide +kernel), a, ts, t, es, rfl, dk, ?_⟩
  refine ⟨_, rfl, a, dx, _, rfl, h1, no_look _ _ _ (by decide +kernel) (by decide +kernel) (by decide +kernel), _, rfl, a, qe, ts, t, t', es, false, e, rfl, dk, he, hd, h60, hts, hl, hz, hn, fun H1 b1 d1 => ?_⟩
  have he1 : H1 qe = some (.tup e.vals) := b1.keepT dk _ _ he
  obtain ⟨dx1, ta1, td1, vs1, u1, ds1, g1, _⟩ := id d1
  refine ⟨_, rfl, a, dx1, _, rfl, g1, no_look _ _ _ (by decide +kernel) (by decide +kernel) (by decide +kernel), _, rfl, qe, _, 0, .str e.word, rfl, rfl, SqT.of he1, atI_nat (j := 0) rfl, a, _, _, t', _, false, rfl, d1, by rw [List.length_append]; show es.length + 1 ≤ 1000; omega, ?_⟩
  rw [List.length_append]
  exact q H1 b1 d1
theorem do_tail {a q : Addr} {H : Hp} {ts : List B} {t t' : B} {es : List Ed} {e : Ed} {Q : VK} (dk : Dk C H a ts t es false) (nq : H q = none) (hd : Does t e t') (h60 : es.length < 60) (hts : ts.length ≤ 100) (hl : t.lts) (hz : t.size ≤ 12) (hn : t ≠ .nil)
    (k : ∀ H', But a H H' → Dk C H' a (ts ++ [t]) t' (es ++ [e]) false → Q (.int ((es.length + 1 : Nat) : Int)) H') : spCalled C [.ref a, .ref q] (upd H q (.tup e.vals)) Q E0 := by
  have s := same_new nq (.tup e.vals)
  exact ⟨a, q, ts, t, t', es, e, rfl, dk.same s, upd_same, hd, h60, hts, hl, hz, hn, fun H' b d => k H' ((But.of s).trans b) d⟩
theorem ok_put (F : Fun K "put" "Desk.put" s_Desk_put f fd) (TD : DeskC K mg C) (Dcalled : MDf P w K mg base C 25 "called" ["self", "edit"] (spCalled C)) : FnOk P w K mg base CX0 26 f fd ["self", "path", "label"] (spDo C isPut) := by
  refine F.ok (k := 25) sc_Desk_put (fun vs H Q E h => ?_) (fun cdv A outer s H vs Q E hr h => ?_)
  · obtain ⟨a, ts, t, t', es, e, rfl, he, _⟩ := h
    cases e <;> first | rfl | exact he.elim
  obtain ⟨a, ts, t, t', es, e, rfl, he, dk, hd, h60, hts, hl, hz, hn, q⟩ := h
  obtain ⟨dx, ta, td, vs, u, ds, h1, _⟩ := id dk
  cases e with
  | put p c =>
    refine ⟨_, (pss_one (ps_ret (pe_meth (pv 0) TD.cl Dcalled.at_ Dcalled.ok (hr.mono (by omega)) Dcalled.b .nil pass0 (pa_cons (pe_tup (pa_cons pe_str (pa_cons (pv 1) (pa_cons (pv 2) pa_nil)))) pa_nil)))), ?_⟩
    exact ⟨_, rfl, a, dx, _, rfl, h1, no_look _ _ _ (by decide +kernel) (by decide +kernel) (by decide +kernel), _, rfl, _, rfl, (by show 3 ≤ sizeLine; decide), fun r nr => do_tail dk nr hd h60 hts hl hz hn q⟩
  | cut _ => exact he.elim
  | label _ _ => exact he.elim
  | turn _ => exact he.elim
theorem ok_cut (F : Fun K "cut" "Desk.cut" s_Desk_cut f fd) (TD : DeskC K mg C) (Dcalled : MDf P w K mg base C 25 "called" ["self", "edit"] (spCalled C)) : FnOk P w K mg base CX0 26 f fd ["self", "path"] (spDo C isCut) := by
  refine F.ok (k := 25) sc_Desk_cut (fun vs H Q E h => ?_) (fun cdv A outer s H vs Q E hr h => ?_)
  · obtain ⟨a, ts, t, t', es, e, rfl, he, _⟩ := h
    cases e <;> first | rfl | exact he.elim
  obtain ⟨a, ts, t, t', es, e, rfl, he, dk, hd, h60, hts, hl, hz, hn, q⟩ := h
  obtain ⟨dx, ta, td, vs, u, ds, h1, _⟩ := id dk
  cases e with
  | cut p =>
    refine ⟨_, (pss_one (ps_ret (pe_meth (pv 0) TD.cl Dcalled.at_ Dcalled.ok (hr.mono (by omega)) Dcalled.b .nil pass0 (pa_cons (pe_tup (pa_cons pe_str (pa_cons (pv 1) pa_nil))) pa_nil)))), ?_⟩
    exact ⟨_, rfl, a, dx, _, rfl, h1, no_look _ _ _ (by decide +kernel) (by decide +kernel) (by decide +kernel), _, rfl, (by show 2 ≤ sizeLine; decide), fun r nr => do_tail dk nr hd h60 hts hl hz hn q⟩
  | put _ _ => exact he.elim
  | label _ _ => exact he.elim
  | turn _ => exact he.elim
theorem ok_label (F : Fun K "label" "Desk.label" s_Desk_label f fd) (TD : DeskC K mg C) (Dcalled : MDf P w K mg base C 25 "called" ["self", "edit"] (spCalled C)) : FnOk P w K mg base CX0 26 f fd ["self", "path", "label"] (spDo C isLab) := by
  refine F.ok (k := 25) sc_Desk_label (fun vs H Q E h => ?_) (fun cdv A outer s H vs Q E hr h => ?_)
  · obtain ⟨a, ts, t, t', es, e, rfl, he, _⟩ := h
    cases e <;> first | rfl | exact he.elim
  obtain ⟨a, ts, t, t', es, e, rfl, he, dk, hd, h60, hts, hl, hz, hn, q⟩ := h
  obtain ⟨dx, ta, td, vs, u, ds, h1, _⟩ := id dk
  cases e with
  | label p c =>
    refine ⟨_, (pss_one (ps_ret (pe_meth (pv 0) TD.cl Dcalled.at_ Dcalled.ok (hr.mono (by omega)) Dcalled.b .nil pass0 (pa_cons (pe_tup (pa_cons pe_str (pa_cons (pv 1) (pa_cons (pv 2) pa_nil)))) pa_nil)))), ?_⟩
    exact ⟨_, rfl, a, dx, _, rfl, h1, no_look _ _ _ (by decide +kernel) (by decide +kernel) (by decide +kernel), _, rfl, _, rfl, (by show 3 ≤ sizeLine; decide), fun r nr => do_tail dk nr hd h60 hts hl hz hn q⟩
  | put _ _ => exact he.elim
  | cut _ => exact he.elim
  | turn _ => exact he.elim
theorem ok_turn (F : Fun K "turn" "Desk.turn" s_Desk_turn f fd) (TD : DeskC K mg C) (Dcalled : MDf P w K mg base C 25 "called" ["self", "edit"] (spCalled C)) : FnOk P w K mg base CX0 26 f fd ["self", "path"] (spDo C isTur) := by
  refine F.ok (k := 25) sc_Desk_turn (fun vs H Q E h => ?_) (fun cdv A outer s H vs Q E hr h => ?_)
  · obtain ⟨a, ts, t, t', es, e, rfl, he, _⟩ := h
    cases e <;> first | rfl | exact he.elim
  obtain ⟨a, ts, t, t', es, e, rfl, he, dk, hd, h60, hts, hl, hz, hn, q⟩ := h
  obtain ⟨dx, ta, td, vs, u, ds, h1, _⟩ := id dk
  cases e with
  | turn p =>
    refine ⟨_, (pss_one (ps_ret (pe_meth (pv 0) TD.cl Dcalled.at_ Dcalled.ok (hr.mono (by omega)) Dcalled.b .nil pass0 (pa_cons (pe_tup (pa_cons pe_str (pa_cons (pv 1) pa_nil))) pa_nil)))), ?_⟩
    exact ⟨_, rfl, a, dx, _, rfl, h1, no_look _ _ _ (by decide +kernel) (by decide +kernel) (by decide +kernel), _, rfl, (by show 2 ≤ sizeLine; decide), fun r nr => do_tail dk nr hd h60 hts hl hz hn q⟩
  | put _ _ => exact he.elim
  | cut _ => exact he.elim
  | label _ _ => exact he.elim
end
/-! ### what a desk shows -/
theorem dn12 (n : Nat) (h : n ≤ 60) : (Str.ofString (toString (n : Int))).length ≤ 31 ∧ (n : Int).natAbs.log2 < 1920 := by
  have := small_shown n (by omega)
  exact ⟨Nat.le_trans this.1 (by decide), this.2⟩
section
variable {P : Program} {w : World} {K : PySem.W.Frag} {mg : Str → Option Value} {base : Heap} {f : Addr} {fd : FuncData} {C : Addr}
theorem ok_treeM {k : Nat} (F : Fun K "tree" "Desk.tree" s_Desk_tree f fd) (TD : DeskC K mg C) : FnOk P w K mg base CX0 (k + 1) f fd ["self", "version"] (spTreeM C) := by
  refine F.ok sc_Desk_tree (fun vs H Q E h => ?_) (fun cdv A outer s H vs Q E hr h => ?_)
  · obtain ⟨a, ts, t, es, bu, rfl, _⟩ := h
    rfl
  obtain ⟨a, ts, t, es, bu, rfl, ⟨dx, ta, td, vs, v, ds, h1, h2, h3, h4, h5, h6⟩, q⟩ := h
  refine ⟨_, pss_cons (ps_if (pt_cmpR op_isN (pv 1) pe_non (nomark _)) (pss_one (ps_ret (pe_ix ix_tup (pe_fld (pv 0) rfl) (pe_un un_neg pe_int) (fun _ _ => rfl)))) pss_nil) pss_never, ?_⟩
  refine ⟨_, rfl, rfl, _, rfl, iteT ?_⟩
  refine ⟨_, rfl, a, C, dx, _, _, rfl, h1, TD.cl, TD.nT, look_t _ _ _, ?_⟩
  exact ⟨_, rfl, ta, _, _, v, rfl, rfl, SqT.of h2, atI_last _ _, q v h5⟩
theorem ok_editsM {k : Nat} (F : Fun K "edits" "Desk.edits" s_Desk_edits f fd) (TD : DeskC K mg C) : FnOk P w K mg base CX0 (k + 1) f fd ["self"] (spEditsM C) := by
  refine F.ok sc_Desk_edits (fun vs H Q E h => ?_) (fun cdv A outer s H vs Q E hr h => ?_)
  · obtain ⟨a, ts, t, es, bu, rfl, _⟩ := h
    rfl
  obtain ⟨a, ts, t, es, bu, rfl, ⟨dx, ta, td, vs, v, ds, h1, h2, h3, h4, h5, h6⟩, q⟩ := h
  refine ⟨_, (pss_one (ps_ret (pe_fld (pv 0) rfl))), ?_⟩
  exact ⟨_, rfl, a, C, dx, _, _, rfl, h1, TD.cl, TD.nD, look_d _ _ _, q td ds h3 h6⟩
theorem ok_ver {k : Nat} (F : Fun K "version" "Desk.version" s_Desk_version f fd) (TD : DeskC K mg C) (M : Mgs mg) : FnOk P w K mg base CX0 (k + 1) f fd ["self"] (spVer C) := by
  refine F.ok sc_Desk_version (fun vs H Q E h => ?_) (fun cdv A outer s H vs Q E hr h => ?_)
  · obtain ⟨a, ts, t, es, bu, rfl, _⟩ := h
    rfl
  obtain ⟨a, ts, t, es, bu, rfl, ⟨dx, ta, td, vs, u, ds, h1, h2, h3, h4, h5, h6⟩, hz, q⟩ := h
  refine ⟨_, (pss_one (ps_ret (pe_callB call_len_seq rfl M.len PySem.boot_len (pa_cons (pe_fld (pv 0) rfl) pa_nil)))), ?_⟩
  refine ⟨_, rfl, a, C, dx, _, _, rfl, h1, TD.cl, TD.nD, look_d _ _ _, td, ds, rfl, .inr (SqT.of h3), ?_⟩
  rw [h6.len]
  exact q
theorem ok_len {k : Nat} (F : Fun K "__len__" "Desk.__len__" s_Desk___len__ f fd) (TD : DeskC K mg C) (M : Mgs mg) : FnOk P w K mg base CX0 (k + 1) f fd ["self"] (spVer C) := by
  refine F.ok sc_Desk___len__ (fun vs H Q E h => ?_) (fun cdv A outer s H vs Q E hr h => ?_)
  · obtain ⟨a, ts, t, es, bu, rfl, _⟩ := h
    rfl
  obtain ⟨a, ts, t, es, bu, rfl, ⟨dx, ta, td, vs, u, ds, h1, h2, h3, h4, h5, h6⟩, hz, q⟩ := h
  refine ⟨_, (pss_one (ps_ret (pe_callB call_len_seq rfl M.len PySem.boot_len (pa_cons (pe_fld (pv 0) rfl) pa_nil)))), ?_⟩
  refine ⟨_, rfl, a, C, dx, _, _, rfl, h1, TD.cl, TD.nD, look_d _ _ _, td, ds, rfl, .inr (SqT.of h3), ?_⟩
  rw [h6.len]
  exact q
theorem ok_first (F : Fun K "first" "Desk.first" s_Desk_first f fd) (TD : DeskC K mg C) (Dwalk : Df P w K mg base 62 "walk" ["tree", "kind"] spWalk) : FnOk P w K mg base CX0 63 f fd ["self"] (spWalkP C .first) := by
  refine F.ok (k := 62) sc_Desk_first (fun vs H Q E h => ?_) (fun cdv A outer s H vs Q E hr h => ?_)
  · obtain ⟨a, ts, t, es, bu, rfl, _⟩ := h
    rfl
  obtain ⟨a, ts, t, es, bu, rfl, ⟨dx, ta, td, vs, u, ds, h1, h2, h3, h4, h5, h6⟩, hz, q⟩ := h
  refine ⟨_, (pss_one (ps_ret (pe_call Dwalk.ok (hr.mono (by omega)) rfl Dwalk.g Dwalk.kp Dwalk.b .nil pass0 (pa_cons (pe_ix ix_tup (pe_fld (pv 0) rfl) (pe_un un_neg pe_int) (fun _ _ => rfl)) (pa_cons pe_str pa_nil))))), ?_⟩
  exact ⟨_, rfl, a, C, dx, _, _, rfl, h1, TD.cl, TD.nT, look_t _ _ _, _, rfl, ta, _, _, u, rfl, rfl, SqT.of h2, atI_last _ _, u, t, .first, rfl, h5, by omega, q⟩
theorem ok_betw (F : Fun K "between" "Desk.between" s_Desk_between f fd) (TD : DeskC K mg C) (Dwalk : Df P w K mg base 62 "walk" ["tree", "kind"] spWalk) : FnOk P w K mg base CX0 63 f fd ["self"] (spWalkP C .between) := by
  refine F.ok (k := 62) sc_Desk_between (fun vs H Q E h => ?_) (fun cdv A outer s H vs Q E hr h => ?_)
  · obtain ⟨a, ts, t, es, bu, rfl, _⟩ := h
    rfl
  obtain ⟨a, ts, t, es, bu, rfl, ⟨dx, ta, td, vs, u, ds, h1, h2, h3, h4, h5, h6⟩, hz, q⟩ := h
  refine ⟨_, (pss_one (ps_ret (pe_call Dwalk.ok (hr.mono (by omega)) rfl Dwalk.g Dwalk.kp Dwalk.b .nil pass0 (pa_cons (pe_ix ix_tup (pe_fld (pv 0) rfl) (pe_un un_neg pe_int) (fun _ _ => rfl)) (pa_cons pe_str pa_nil))))), ?_⟩
  exact ⟨_, rfl, a, C, dx, _, _, rfl, h1, TD.cl, TD.nT, look_t _ _ _, _, rfl, ta, _, _, u, rfl, rfl, SqT.of h2, atI_last _ _, u, t, .between, rfl, h5, by omega, q⟩
theorem ok_last (F : Fun K "last" "Desk.last" s_Desk_last f fd) (TD : DeskC K mg C) (Dwalk : Df P w K mg base 62 "walk" ["tree", "kind"] spWalk) : FnOk P w K mg base CX0 63 f fd ["self"] (spWalkP C .last) := by
  refine F.ok (k := 62) sc_Desk_last (fun vs H Q E h => ?_) (fun cdv A outer s H vs Q E hr h => ?_)
  · obtain ⟨a, ts, t, es, bu, rfl, _⟩ := h
    rfl
  obtain ⟨a, ts, t, es, bu, rfl, ⟨dx, ta, td, vs, u, ds, h1, h2, h3, h4, h5, h6⟩, hz, q⟩ := h
  refine ⟨_, (pss_one (ps_ret (pe_call Dwalk.ok (hr.mono (by omega)) rfl Dwalk.g Dwalk.kp Dwalk.b .nil pass0 (pa_cons (pe_ix ix_tup (pe_fld (pv 0) rfl) (pe_un un_neg pe_int) (fun _ _ => rfl)) (pa_cons pe_str pa_nil))))), ?_⟩
  exact ⟨_, rfl, a, C, dx, _, _, rfl, h1, TD.cl, TD.nT, look_t _ _ _, _, rfl, ta, _, _, u, rfl, rfl, SqT.of h2, atI_last _ _, u, t, .last, rfl, h5, by omega, q⟩
theorem ok_str (F : Fun K "__str__" "Desk.__str__" s_Desk___str__ f fd) (TD : DeskC K mg C) (M : Mgs mg) (Dsize_of : Df P w K mg base 20 "size_of" ["tree"] (spSz 20)) : FnOk P w K mg base CX0 21 f fd ["self"] (spStrD C) := by
  refine F.ok (k := 20) sc_Desk___str__ (fun vs H Q E h => ?_) (fun cdv A outer s H vs Q E hr h => ?_)
  · obtain ⟨a, ts, t, es, bu, rfl, _⟩ := h
    rfl
  obtain ⟨a, ts, t, es, bu, rfl, ⟨dx, ta, td, vs, u, ds, h1, h2, h3, h4, h5, h6⟩, hz, he, q⟩ := h
  refine ⟨_, (pss_one (ps_ret (pe_joined (PJ.cons (pe_fmt (pe_call Dsize_of.ok (hr.mono (by omega)) rfl Dsize_of.g Dsize_of.kp Dsize_of.b .nil pass0 (pa_cons (pe_ix ix_tup (pe_fld (pv 0) rfl) (pe_un un_neg pe_int) (fun _ _ => rfl)) pa_nil))) (PJ.cons pe_str (PJ.cons (pe_fmt (pe_callB call_len_seq rfl M.len PySem.boot_len (pa_cons (pe_fld (pv 0) rfl) pa_nil))) (PJ.cons pe_str PJ.nil))))))), ?_⟩
  obtain ⟨n1, n2⟩ := dn12 t.size (by omega)
  obtain ⟨m1, m2⟩ := dn12 es.length (by omega)
  have e0 : ∀ x : Str, Str.empty ++ x = x := fun x => by
    show (⟨#[] ++ x.cps⟩ : Str) = x
    simp
  have l1 : (Str.ofString " nodes, ").length = 8 := by decide +kernel
  have l2 : (Str.ofString " edits").length = 6 := by decide +kernel
  refine ⟨_, rfl, a, C, dx, _, _, rfl, h1, TD.cl, TD.nT, look_t _ _ _, _, rfl, ta, _, _, u, rfl, rfl, SqT.of h2, atI_last _ _, u, t, rfl, h5, by omega, .inr ⟨_, rfl, n2, _, rfl, ?_, ?_⟩⟩
  · rw [e0]
    exact small (by omega)
  rw [e0]
  refine ⟨_, rfl, by rw [strLen_append, l1]; exact small (by omega), ?_⟩
  refine ⟨_, rfl, a, C, dx, _, _, rfl, h1, TD.cl, TD.nD, look_d _ _ _, td, ds, rfl, .inr (SqT.of h3), ?_⟩
  rw [h6.len]
  refine .inr ⟨_, rfl, m2, _, rfl, by rw [strLen_append, strLen_append, l1]; exact small (by omega), ?_⟩
  refine ⟨_, rfl, by rw [strLen_append, strLen_append, strLen_append, l1, l2]; exact small (by omega), ?_⟩
  exact q
end
/-! ### the methods of a desk, with the errors of edits -/
def tMethX (C : Addr) (m : Str) (sp : Sp) (E : L2.St → XK) (ta : TE) (t : TA) : TE := fun σ H Q => ta σ H fun x H1 => ∃ a dx fs, x = .ref a ∧ H1 a = some (.ins C dx fs) ∧ fs.lookup m = none ∧ t σ H1 fun vs H2 => sp (x :: vs) H2 Q (E σ)
theorem pe_methX {X : Cx} {CX : CXT} {k : Nat} {C f : Addr} {fd : FuncData} {ps : List Str} {sp : Sp} {E : L2.St → XK} {m : Str} {pos apos : Pos} {e o : Expr} {es : List Expr} {ta : TE} {t : TA} {pl : Sem Bool} (he : PE X o ta) (c : Cls X.K C) (hm : Meth X.K C m f) (F : FnOk X.prog X.w X.K X.mg X.base CX k f fd ps sp) (hr : Room k X.A) (hb : Binds X.K fd ps []) (hx : ∀ σ, PassesAt CX X σ (E σ)) (ha : PA X (e :: es) t)
    (hst : starEach (e :: es) X.env = (false, eval e X.env) :: starEach es X.env := by rfl) (hpl : (backTo pos (starEach es X.env)).any (·.1) = false := by rfl)
    (ht : eval (.Call (.Attribute o m apos) (e :: es) [] pos) X.env = (do
      let ov ← eval o X.env
      standAt apos.atName
      let (f, first) ← holding [ov] (getMethod ov m pl)
      callWith pos f first (backTo pos (starEach (e :: es) X.env)) (backToKw pos (keywordEach [] X.env))) := by rfl) :
    PE X (.Call (.Attribute o m apos) (e :: es) [] pos) (tMethX C m sp E ta t) := by
  refine ⟨fun pins s σ H Q I h => ?_⟩
  refine PySem.W.methodCall_KW (pl := pl) (thn (he.run pins s σ H _ I h) fun u s1 ⟨x, H1, I1, rx, a, dx, fs, ex, ea, l, q⟩ => ?_) ht
  subst ex
  obtain rfl : u = Value.ref a := rx
  refine getmeth_ok I1 ea c hm l ?_
  refine PySem.W.callWith_K (first := [.ref a]) (h₀ := X.base) I.ok.mod.kin hm.kp (thn (ha.run pos pins s1 σ H1 _ I1 q) fun us s2 ⟨vs, H2, I2, r, q2⟩ => ⟨I2.kIn, ?_⟩) hst hpl
  exact run_fnS (us := .ref a :: us) (vs := .ref a :: vs) F hr hb (hx σ) I2 (.cons rfl r) q2
structure MDfX (P : Program) (w : World) (K : PySem.W.Frag) (mg : Str → Option Value) (base : Heap) (C : Addr) (k : Nat) (m : Str) (ps : List Str) (sp : Sp) where
  f : Addr
  fd : FuncData
  ok : FnOk P w K mg base (L2.CX P w) k f fd ps sp
  b : Binds K fd ps []
  at_ : Meth K C m f
/-- the errors of an edit -/
def ErrTo (c : DE) (H : Hp) (E : XK) : Out → Prop
  | .st _ => True
  | .noPath v => ∀ (H' : Hp) (p : Addr), Same H H' → H' p = none → E (.ref c.NP) (some p) (upd H' p (.xd [(("value" : Str), v)]))
  | .notOpen v => ∀ (H' : Hp) (p : Addr), Same H H' → H' p = none → E (.ref c.NO) (some p) (upd H' p (.xd [(("path" : Str), v)]))
  | .noLabel v => ∀ (H' : Hp) (p : Addr), Same H H' → H' p = none → E (.ref c.NL) (some p) (upd H' p (.xd [(("letter" : Str), v)]))
  | .large => ∀ (H' : Hp) (p : Addr), Same H H' → H' p = none → E (.ref c.TL) (some p) (upd H' p (.xd [(("limit" : Str), .int 12)]))
  | .last => ∀ (H' : Hp), Same H H' → E (.ref c.LN) none H'
theorem OutTo.of {c : DE} {H : Hp} {k : B → V → Hp → Prop} {E : XK} {r : Out} (h : ErrTo c H E r) (q : ∀ t', r = .st t' → ∀ (v' : V) (H' : Hp), Same H H' → BAt H' v' t' → k t' v' H') : OutTo c H k E r := by
  cases r with
  | st t' => exact q t' rfl
  | _ => exact h
theorem ErrTo.mono {c : DE} {H H1 : Hp} {E : XK} (s : Same H H1) : ∀ {r : Out}, ErrTo c H E r → ErrTo c H1 E r
  | .st _, _ => trivial
  | .noPath _, h => fun H' p s' => h H' p (s.trans s')
  | .notOpen _, h => fun H' p s' => h H' p (s.trans s')
  | .noLabel _, h => fun H' p s' => h H' p (s.trans s')
  | .large, h => fun H' p s' => h H' p (s.trans s')
  | .last, h => fun H' s' => h H' (s.trans s')
/-- an edit that works is one of the plain ones -/
theorem Res.ed {t t' : B} {e : Eg} (h : Res t e (.st t')) {D : Deck} {H : Hp} (hd : e.At D H) : ∃ ed : Ed, Does t ed t' ∧ ed.vals = e.vals := by
  cases h with
  | @put vp vl dp dl p c e1 e2 a b z =>
    subst e1
    subst e2
    obtain ⟨h1, h2⟩ := hd
    exact ⟨.put p c, .put a b z, by rw [h1.txt, h2.txt]; rfl⟩
  | @cut vp dp p u e1 a b z =>
    subst e1
    exact ⟨.cut p, .cut a b z, by rw [show vp = _ from DQ.txt hd]; rfl⟩
  | @label vp vl dp dl p l r y c e1 e2 a b =>
    subst e1
    subst e2
    obtain ⟨h1, h2⟩ := hd
    exact ⟨.label p c, .label a b, by rw [h1.txt, h2.txt]; rfl⟩
  | @turn vp dp p u e1 a b =>
    subst e1
    exact ⟨.turn p, .turn a b, by rw [show vp = _ from DQ.txt hd]; rfl⟩
/-- an edit that the desk takes, or its error -/
def StTo (C : Addr) (H : Hp) (a : Addr) (ts : List B) (t : B) (es : List Ed) (bu : Bool) (e : Eg) (r : Out) (Q : Hp → Prop) : Prop :=
  ∀ t', r = .st t' → ∀ ed : Ed, Does t ed t' → ed.vals = e.vals → ∀ H', But a H H' → Dk C H' a (ts ++ [t]) t' (es ++ [ed]) bu → Q H'
def spTakeX (C : Addr) (c : DE) : Sp := fun vs H Q E => ∃ (a q : Addr) (ts : List B) (t : B) (es : List Ed) (bu : Bool) (D : Deck) (e : Eg) (r : Out), vs = [.ref a, .ref q] ∧ Dk C H a ts t es bu ∧ H q = some (.tup e.vals) ∧ e.At D H ∧ e.gd ∧ Res t e r ∧ es.length < 60 ∧ ts.length ≤ 100 ∧ t.size ≤ 12 ∧
  ErrTo c H E r ∧ StTo C H a ts t es bu e r (Q .non)
def spCalledX (C : Addr) (c : DE) : Sp := fun vs H Q E => ∃ (a q : Addr) (ts : List B) (t : B) (es : List Ed) (D : Deck) (e : Eg) (r : Out), vs = [.ref a, .ref q] ∧ Dk C H a ts t es false ∧ H q = some (.tup e.vals) ∧ e.At D H ∧ e.gd ∧ Res t e r ∧ es.length < 60 ∧ ts.length ≤ 100 ∧ t.size ≤ 12 ∧
  ErrTo c H E r ∧ StTo C H a ts t es false e r (Q (.int ((es.length + 1 : Nat) : Int)))
def spDoX (C : Addr) (c : DE) (mk : Eg → Prop) : Sp := fun vs H Q E => ∃ (a : Addr) (ts : List B) (t : B) (es : List Ed) (D : Deck) (e : Eg) (r : Out), vs = .ref a :: e.args ∧ mk e ∧ Dk C H a ts t es false ∧ e.At D H ∧ e.gd ∧ Res t e r ∧ es.length < 60 ∧ ts.length ≤ 100 ∧ t.size ≤ 12 ∧
  ErrTo c H E r ∧ StTo C H a ts t es false e r (Q (.int ((es.length + 1 : Nat) : Int)))
section
variable {P : Program} {w : World} {K : PySem.W.Frag} {mg : Str → Option Value} {base : Heap} {f : Addr} {fd : FuncData} {C : Addr} {c : DE}
theorem ok_takeX (F : Fun K "take" "Desk.take" s_Desk_take f fd) (TD : DeskC K mg C) (M : Mgs mg) (Dedited : DfX P w K mg base 23 "edited" ["tree", "edit"] (spEditedX c)) (Dct : MDf P w K mg base C 1 "check_tree" ["self", "tree"] spCT) : FnOk P w K mg base (L2.CX P w) 24 f fd ["self", "edit"] (spTakeX C c) := by
  refine F.okX (k := 23) sc_Desk_take (fun vs H Q E h => ?_) (fun cdv A outer s H vs Q E hr h => ?_)
  · obtain ⟨a, q, ts, t, es, bu, D, e, r, rfl, _⟩ := h
    rfl
  obtain ⟨a, qe, ts, t, es, bu, D, e, r, rfl, ⟨dx, ta, td, vs, u, ds, h1, h2, h3, h4, h5, h6⟩, he, hat, hg, hd, h60, hts, hz, qe', q⟩ := h
  obtain ⟨um, mo⟩ := TD.mo
  refine ⟨_, (pss_cons (ps_if (pt_cmpR op_ge (pe_callB call_len_seq rfl M.len PySem.boot_len (pa_cons (pe_fld (pv 0) rfl) pa_nil)) (pe_conD (pv 0)) (nomark _))
      (pss_one ps_never) pss_nil)
    (pss_cons (ps_set (i := 2) sc_Desk_take.nd rfl (.inl rfl) (pe_callS Dedited.ok (hr.mono (by omega)) rfl Dedited.g Dedited.kp Dedited.b (fun σ => passAt (takes_of rfl rfl rfl rfl) σ) (pa_cons (pe_ix ix_tup (pe_fld (pv 0) rfl) (pe_un un_neg pe_int) (fun _ _ => rfl)) (pa_cons (pv 1) pa_nil))))
    (pss_cons (ps_expr (pe_meth (pv 0) TD.cl Dct.at_ Dct.ok (hr.mono (by omega)) Dct.b .nil pass0 (pa_cons (pv 2) pa_nil)))
    (pss_cons (ps_fld (pv 0) (pe_tup (StX.pa_star (pe_fld (pv 0) rfl) (pa_cons (pv 2) pa_nil))) rfl)
    (pss_one (ps_fld (pv 0) (pe_tup (StX.pa_star (pe_fld (pv 0) rfl) (pa_cons (pv 1) pa_nil))) rfl)))))), ?_⟩
  have el := h6.len
  have tl := h4.len
  refine ⟨_, rfl, a, C, dx, _, _, rfl, h1, TD.cl, TD.nD, look_d _ _ _, td, ds, rfl, .inr (SqT.of h3), ?_⟩
  refine ⟨_, rfl, a, C, dx, _, _, um, rfl, h1, TD.cl, mo, no_look _ _ _ (by decide +kernel) (by decide +kernel) (by decide +kernel), _, _, rfl, rfl, _, rfl, ?_⟩
  rw [decide_eq_false (show ¬ ((ds.length : Int) ≥ 60) by omega)]
  refine iteF ?_
  refine ⟨_, rfl, a, C, dx, _, _, rfl, h1, TD.cl, TD.nT, look_t _ _ _, _, rfl, ta, _, _, u, rfl, rfl, SqT.of h2, atI_last _ _, _, rfl, u, qe, t, D, e, r, rfl, he, h5, hat, hg, hd, hz, OutTo.of qe' fun t' hr' v' H1 s1 b1 => ?_⟩
  subst hr'
  obtain ⟨ed, hed, hev⟩ := hd.ed hat
  have he' : H qe = some (.tup ed.vals) := by rw [hev]; exact he
  refine ⟨_, rfl, a, dx, _, rfl, s1 _ _ h1, no_look _ _ _ (by decide +kernel) (by decide +kernel) (by decide +kernel), _, rfl, a, v', rfl, ?_⟩
  refine ⟨_, rfl, a, C, dx, _, _, rfl, s1 _ _ h1, TD.cl, TD.nT, look_t _ _ _, ta, _, rfl, .inl (SqT.of (s1 _ _ h2)), _, rfl, small (by rw [List.length_append, List.length_append]; show vs.length + 1 + 1 ≤ 1000; omega), fun tb ntb => ?_⟩
  have k2 := same_new ntb (.tup ((vs ++ [u]) ++ [v']))
  have e2 := k2 _ _ (s1 _ _ h1)
  have et2 := upd_same (H := H1) (a := tb) (o := .tup ((vs ++ [u]) ++ [v']))
  have s12 := s1.trans k2
  have b2 := b1.same k2
  generalize upd H1 tb (.tup ((vs ++ [u]) ++ [v'])) = H2 at k2 e2 et2 s12 b2 ⊢
  refine ⟨_, rfl, a, C, dx, _, rfl, e2, TD.cl, TD.nT, (by show 3 < 1000; decide), ?_⟩
  rw [set_t]
  have bB : But a H2 (upd H2 a (.ins C dx (deskF (.ref tb) (.ref td) (.bl bu)))) := fun b o hb e => by rw [upd_ne hb]; exact e
  have e3 := upd_same (H := H2) (a := a) (o := .ins C dx (deskF (.ref tb) (.ref td) (.bl bu)))
  have k3 : KeepT H2 (upd H2 a (.ins C dx (deskF (.ref tb) (.ref td) (.bl bu)))) := fun b xs e => bB b _ (ne_of e e2 (by intro z; cases z)) e
  generalize upd H2 a (.ins C dx (deskF (.ref tb) (.ref td) (.bl bu))) = H3 at bB e3 k3 ⊢
  have kA : KeepT H H3 := (Tw.Same.keepT s12).trans k3
  refine ⟨_, rfl, a, C, dx, _, _, rfl, e3, TD.cl, TD.nD, look_d _ _ _, td, _, rfl, .inl (SqT.of (kA _ _ h3)), _, rfl, small (by rw [List.length_append]; show ds.length + 1 ≤ 1000; omega), fun tc ntc => ?_⟩
  have k4 := same_new ntc (.tup (ds ++ [.ref qe]))
  have e4 := k4 _ _ e3
  have et4 := upd_same (H := H3) (a := tc) (o := .tup (ds ++ [.ref qe]))
  generalize upd H3 tc (.tup (ds ++ [.ref qe])) = H4 at k4 e4 et4 ⊢
  refine ⟨_, rfl, a, C, dx, _, rfl, e4, TD.cl, TD.nD, (by show 3 < 1000; decide), ?_⟩
  rw [set_d]
  have bB5 : But a H4 (upd H4 a (.ins C dx (deskF (.ref tb) (.ref tc) (.bl bu)))) := fun b o hb e => by rw [upd_ne hb]; exact e
  have e5 := upd_same (H := H4) (a := a) (o := .ins C dx (deskF (.ref tb) (.ref tc) (.bl bu)))
  have k5 : KeepT H4 (upd H4 a (.ins C dx (deskF (.ref tb) (.ref tc) (.bl bu)))) := fun b xs e => bB5 b _ (ne_of e e4 (by intro z; cases z)) e
  generalize upd H4 a (.ins C dx (deskF (.ref tb) (.ref tc) (.bl bu))) = H5 at bB5 e5 k5 ⊢
  have kB : KeepT H2 H5 := k3.trans ((Tw.Same.keepT k4).trans k5)
  have kC : KeepT H H5 := (Tw.Same.keepT s12).trans kB
  refine q _ rfl ed hed hev H5 ((But.of s12).trans (bB.trans ((But.of k4).trans bB5))) ⟨dx, tb, tc, vs ++ [u], v', ds ++ [.ref qe], e5, kB _ _ et2, k5 _ _ et4, .snoc (h4.keep kC) (h5.keep kC), b2.keep kB, .snoc (h6.keep kC) (kC _ _ he')⟩
theorem ok_calledX (F : Fun K "called" "Desk.called" s_Desk_called f fd) (TD : DeskC K mg C) (Dcf : MDf P w K mg base C 1 "check_free" ["self"] (spFree C)) (Dtake : MDfX P w K mg base C 24 "take" ["self", "edit"] (spTakeX C c)) (Dtold : MDf P w K mg base C 1 "told" ["self", "name"] (spTold C)) :
    FnOk P w K mg base (L2.CX P w) 25 f fd ["self", "edit"] (spCalledX C c) := by
  refine F.okX (k := 24) sc_Desk_called (fun vs H Q E h => ?_) (fun cdv A outer s H vs Q E hr h => ?_)
  · obtain ⟨a, q, ts, t, es, D, e, r, rfl, _⟩ := h
    rfl
  obtain ⟨a, qe, ts, t, es, D, e, r, rfl, dk, he, hat, hg, hd, h60, hts, hz, qe', q⟩ := h
  refine ⟨_, (pss_cons (ps_expr (pe_meth0 (pv 0) TD.cl Dcf.at_ Dcf.ok (hr.mono (by omega)) Dcf.b .nil pass0))
    (pss_cons (ps_expr (pe_methX (pv 0) TD.cl Dtake.at_ Dtake.ok (hr.mono (by omega)) Dtake.b (fun σ => passAt (takes_of rfl rfl rfl rfl) σ) (pa_cons (pv 1) pa_nil)))
    (pss_one (ps_ret (pe_meth (pv 0) TD.cl Dtold.at_ Dtold.ok (hr.mono (by omega)) Dtold.b .nil pass0 (pa_cons (pe_ix ix_tup (pv 1) pe_int (fun _ _ => rfl)) pa_nil)))))), ?_⟩
  obtain ⟨dx, ta, td, vs, u, ds, h1, _⟩ := id dk
  refine ⟨_, rfl, a, dx, _, rfl, h1, no_look _ _ _ (by decide +kernel) (by decide +kernel) (by decide +kernel), a, ts, t, es, rfl, dk, ?_⟩
  refine ⟨_, rfl, a, dx, _, rfl, h1, no_look _ _ _ (by decide +kernel) (by decide +kernel) (by decide +kernel), _, rfl, a, qe, ts, t, es, false, D, e, r, rfl, dk, he, hat, hg, hd, h60, hts, hz, qe', fun t' er ed hed hev H1 b1 d1 => ?_⟩
  have he1 : H1 qe = some (.tup e.vals) := b1.keepT dk _ _ he
  obtain ⟨dx1, ta1, td1, vs1, u1, ds1, g1, _⟩ := id d1
  refine ⟨_, rfl, a, dx1, _, rfl, g1, no_look _ _ _ (by decide +kernel) (by decide +kernel) (by decide +kernel), _, rfl, qe, _, 0, .str e.word, rfl, rfl, SqT.of he1, atI_nat (j := 0) rfl, a, _, _, t', _, false, rfl, d1, by rw [List.length_append]; show es.length + 1 ≤ 1000; omega, ?_⟩
  rw [List.length_append]
  exact q t' er ed hed hev H1 b1 d1
theorem doX_tail {a q : Addr} {H : Hp} {ts : List B} {t : B} {es : List Ed} {D : Deck} {e : Eg} {r : Out} {Q : VK} {E : XK} (dk : Dk C H a ts t es false) (nq : H q = none) (hat : e.At D H) (hg : e.gd) (hd : Res t e r) (h60 : es.length < 60) (hts : ts.length ≤ 100) (hz : t.size ≤ 12)
    (x : ErrTo c H E r) (k : StTo C H a ts t es false e r (Q (.int ((es.length + 1 : Nat) : Int)))) : spCalledX C c [.ref a, .ref q] (upd H q (.tup e.vals)) Q E := by
  have s := same_new nq (.tup e.vals)
  exact ⟨a, q, ts, t, es, D, e, r, rfl, dk.same s, upd_same, hat.same s, hg, hd, h60, hts, hz, x.mono s, fun t' er ed hed hev H' b d => k t' er ed hed hev H' ((But.of s).trans b) d⟩
theorem ok_putX (F : Fun K "put" "Desk.put" s_Desk_put f fd) (TD : DeskC K mg C) (Dcalled : MDfX P w K mg base C 25 "called" ["self", "edit"] (spCalledX C c)) : FnOk P w K mg base (L2.CX P w) 26 f fd ["self", "path", "label"] (spDoX C c egPut) := by
  refine F.okX (k := 25) sc_Desk_put (fun vs H Q E h => ?_) (fun cdv A outer s H vs Q E hr h => ?_)
  · obtain ⟨a, ts, t, es, D, e, r, rfl, he, _⟩ := h
    cases e <;> first | rfl | exact he.elim
  obtain ⟨a, ts, t, es, D, e, r, rfl, he, dk, hat, hg, hd, h60, hts, hz, x, q⟩ := h
  obtain ⟨dx, ta, td, vs, u, ds, h1, _⟩ := id dk
  cases e with
  | put vp vl dp dl =>
    refine ⟨_, (pss_one (ps_ret (pe_methX (pv 0) TD.cl Dcalled.at_ Dcalled.ok (hr.mono (by omega)) Dcalled.b (fun σ => passAt (takes_of rfl rfl rfl rfl) σ) (pa_cons (pe_tup (pa_cons pe_str (pa_cons (pv 1) (pa_cons (pv 2) pa_nil)))) pa_nil)))), ?_⟩
    exact ⟨_, rfl, a, dx, _, rfl, h1, no_look _ _ _ (by decide +kernel) (by decide +kernel) (by decide +kernel), _, rfl, _, rfl, (by show 3 ≤ sizeLine; decide), fun r nr => doX_tail dk nr hat hg hd h60 hts hz x q⟩
  | cut => exact he.elim
  | label => exact he.elim
  | turn => exact he.elim
theorem ok_cutX (F : Fun K "cut" "Desk.cut" s_Desk_cut f fd) (TD : DeskC K mg C) (Dcalled : MDfX P w K mg base C 25 "called" ["self", "edit"] (spCalledX C c)) : FnOk P w K mg base (L2.CX P w) 26 f fd ["self", "path"] (spDoX C c egCut) := by
  refine F.okX (k := 25) sc_Desk_cut (fun vs H Q E h => ?_) (fun cdv A outer s H vs Q E hr h => ?_)
  · obtain ⟨a, ts, t, es, D, e, r, rfl, he, _⟩ := h
    cases e <;> first | rfl | exact he.elim
  obtain ⟨a, ts, t, es, D, e, r, rfl, he, dk, hat, hg, hd, h60, hts, hz, x, q⟩ := h
  obtain ⟨dx, ta, td, vs, u, ds, h1, _⟩ := id dk
  cases e with
  | cut vp dp =>
    refine ⟨_, (pss_one (ps_ret (pe_methX (pv 0) TD.cl Dcalled.at_ Dcalled.ok (hr.mono (by omega)) Dcalled.b (fun σ => passAt (takes_of rfl rfl rfl rfl) σ) (pa_cons (pe_tup (pa_cons pe_str (pa_cons (pv 1) pa_nil))) pa_nil)))), ?_⟩
    exact ⟨_, rfl, a, dx, _, rfl, h1, no_look _ _ _ (by decide +kernel) (by decide +kernel) (by decide +kernel), _, rfl, (by show 2 ≤ sizeLine; decide), fun r nr => doX_tail dk nr hat hg hd h60 hts hz x q⟩
  | put => exact he.elim
  | label => exact he.elim
  | turn => exact he.elim
theorem ok_labelX (F : Fun K "label" "Desk.label" s_Desk_label f fd) (TD : DeskC K mg C) (Dcalled : MDfX P w K mg base C 25 "called" ["self", "edit"] (spCalledX C c)) : FnOk P w K mg base (L2.CX P w) 26 f fd ["self", "path", "label"] (spDoX C c egLab) := by
  refine F.okX (k := 25) sc_Desk_label (fun vs H Q E h => ?_) (fun cdv A outer s H vs Q E hr h => ?_)
  · obtain ⟨a, ts, t, es, D, e, r, rfl, he, _⟩ := h
    cases e <;> first | rfl | exact he.elim
  obtain ⟨a, ts, t, es, D, e, r, rfl, he, dk, hat, hg, hd, h60, hts, hz, x, q⟩ := h
  obtain ⟨dx, ta, td, vs, u, ds, h1, _⟩ := id dk
  cases e with
  | label vp vl dp dl =>
    refine ⟨_, (pss_one (ps_ret (pe_methX (pv 0) TD.cl Dcalled.at_ Dcalled.ok (hr.mono (by omega)) Dcalled.b (fun σ => passAt (takes_of rfl rfl rfl rfl) σ) (pa_cons (pe_tup (pa_cons pe_str (pa_cons (pv 1) (pa_cons (pv 2) pa_nil)))) pa_nil)))), ?_⟩
    exact ⟨_, rfl, a, dx, _, rfl, h1, no_look _ _ _ (by decide +kernel) (by decide +kernel) (by decide +kernel), _, rfl, _, rfl, (by show 3 ≤ sizeLine; decide), fun r nr => doX_tail dk nr hat hg hd h60 hts hz x q⟩
  | put => exact he.elim
  | cut => exact he.elim
  | turn => exact he.elim
theorem ok_turnX (F : Fun K "turn" "Desk.turn" s_Desk_turn f fd) (TD : DeskC K mg C) (Dcalled : MDfX P w K mg base C 25 "called" ["self", "edit"] (spCalledX C c)) : FnOk P w K mg base (L2.CX P w) 26 f fd ["self", "path"] (spDoX C c egTur) := by
  refine F.okX (k := 25) sc_Desk_turn (fun vs H Q E h => ?_) (fun cdv A outer s H vs Q E hr h => ?_)
  · obtain ⟨a, ts, t, es, D, e, r, rfl, he, _⟩ := h
    cases e <;> first | rfl | exact he.elim
  obtain ⟨a, ts, t, es, D, e, r, rfl, he, dk, hat, hg, hd, h60, hts, hz, x, q⟩ := h
  obtain ⟨dx, ta, td, vs, u, ds, h1, _⟩ := id dk
  cases e with
  | turn vp dp =>
    refine ⟨_, (pss_one (ps_ret (pe_methX (pv 0) TD.cl Dcalled.at_ Dcalled.ok (hr.mono (by omega)) Dcalled.b (fun σ => passAt (takes_of rfl rfl rfl rfl) σ) (pa_cons (pe_tup (pa_cons pe_str (pa_cons (pv 1) pa_nil))) pa_nil)))), ?_⟩
    exact ⟨_, rfl, a, dx, _, rfl, h1, no_look _ _ _ (by decide +kernel) (by decide +kernel) (by decide +kernel), _, rfl, (by show 2 ≤ sizeLine; decide), fun r nr => doX_tail dk nr hat hg hd h60 hts hz x q⟩
  | put => exact he.elim
  | cut => exact he.elim
  | label => exact he.elim
end
/-! ### isinstance of a caught error that has a dict; several clauses 'except x as n' -/
/-- isinstance(e, c), e the error of the suite: its class D, its dict d -/
def rIsD (K : PySem.W.Frag) (D a : Addr) (d : Option Addr) : List V → Hp → VK → Prop := fun xs H Q =>
  ∃ c u b dd fs, xs = [.ref a, c] ∧ ClsV c u ∧ d = some dd ∧ H dd = some (.xd fs) ∧ PySem.W.kitOne K (.ref D) u = some b ∧ Q (.bl b) H
def rIsDT (K : PySem.W.Frag) (D a : Addr) (d : Option Addr) : List V → Hp → VK → Prop := fun xs H Q =>
  ∃ tp cs us b dd fs, xs = [.ref a, .ref tp] ∧ H tp = some (.tup cs) ∧ Paired ClsV cs us ∧ d = some dd ∧ H dd = some (.xd fs) ∧ PySem.W.kitAny K (.ref D) us = some b ∧ Q (.bl b) H
section
variable {X : Cx} {a D : Addr} {d : Option Addr} {oe : Obj} {pn : List (Addr × Obj)}
theorem inst_of {pins : List (Addr × Obj)} {s : Shared} {σ : L2.St} {H : Hp} {dd : Addr} {fs : List (Str × V)} (hz : Zc (.ref D) (some dd) oe) (hf : ∃ vs, oe.data = .fields vs)
    (I : Inv (X.suite a ((a, oe) :: pn)) pins σ H s) (e : H dd = some (.xd fs)) : ∃ od, PySem.W.InstAt s.heap a oe D (some od) := by
  have here := (I.pin (a, oe) (List.mem_append_left _ List.mem_cons_self)).1
  have ok : ObjOk X.prog X.w H s.heap dd (.xd fs) := I.hok dd _ e
  obtain ⟨mA, ns, -⟩ := ok
  obtain ⟨od, ho, -⟩ := lookIn_ns ns
  refine ⟨od, here, hz.1, ?_, ?_⟩
  · obtain ⟨vs, hv⟩ := hf
    unfold PySem.W.notCls
    rw [hv] <;> rfl
  · rw [hz.2]; exact ho
theorem kit_exD {K : PySem.W.Frag} {od : Option Obj} (C : ExcC K D) : PySem.W.KitX K (.ref a) (.ref D) (fun h => PySem.W.InstAt h a oe D od) := by
  have known : (PySem.W.clsIn K D).isSome = true := by
    obtain ⟨cd, hc, _⟩ := PySem.W.any_some C.hd
    rw [hc] <;> rfl
  exact PySem.W.kitx_exc known C.hg C.hk C.hs C.ha C.hn C.ht C.hm
theorem call_isD (C : ExcC X.K D) (hz : Zc (.ref D) d oe) (hf : ∃ vs, oe.data = .fields vs) : CallR (X.suite a ((a, oe) :: pn)) (.builtin "isinstance") (rIsD X.K D a d) := by
  rintro pins s σ H _ us Q I r ⟨c, u, b, dd, fs, rfl, k, rfl, eH, e, q⟩
  obtain ⟨u1, u2, rfl, r1, r2⟩ := vals2 r
  cases k.eq r2
  cases (show u1 = Value.ref a from r1)
  obtain ⟨od, J⟩ := inst_of hz hf I eH
  refine PySem.W.kia_one (kit_exD C) I.kIn J e (by intro z; cases z) fun tk => ?_
  exact ⟨.bl b, H, I.tok tk, rfl, q⟩
theorem call_isDT (C : ExcC X.K D) (hz : Zc (.ref D) d oe) (hf : ∃ vs, oe.data = .fields vs) : CallR (X.suite a ((a, oe) :: pn)) (.builtin "isinstance") (rIsDT X.K D a d) := by
  rintro pins s σ H _ us Q I r ⟨tp, cs, ws, b, dd, fs, rfl, hT, k, rfl, eH, e, q⟩
  obtain ⟨u1, u2, rfl, r1, r2⟩ := vals2 r
  cases (show u2 = Value.ref tp from r2)
  cases (show u1 = Value.ref a from r1)
  obtain ⟨od, J⟩ := inst_of hz hf I eH
  have okT : ObjOk X.prog X.w H s.heap tp (.tup cs) := I.hok tp _ hT
  obtain ⟨-, its, rv, ⟨oc, od', dt, sl⟩, there, kind, n, data⟩ := okT
  dsimp only at kind data
  subst kind data
  cases ClsV.all k rv
  refine PySem.W.kia_tup (kit_exD C) I.kIn J there e (by intro z; cases z) fun tk => ?_
  exact ⟨.bl b, H, I.tok tk, rfl, q⟩
end
/-- an error of the body, landed in X: sI is the state without it, s the state with it -/
structure Down (X : Cx) (pins : List (Addr × Obj)) (σ : L2.St) (H : Hp) (cls : Value) (d : Option Addr) (a : Addr) (B : Heap) (sI s : Shared) : Prop where
  inv : Inv X pins σ H sI
  base : ∀ b o, sI.heap.get? b = some o → b ∉ frs X.stack → B.get? b = some o
  up : sI.heap.UpToSlots s.heap
  fly : HandSPX.FlyingZ B (X.env :: X.outer) a (Zc cls d) s.heap
  free : H a = none
  os : s.os = sI.os
  bare : AllBare s.gens
section
variable {X : Cx} {pins : List (Addr × Obj)} {σ : L2.St} {H : Hp} {cls : Value} {d : Option Addr} {a : Addr} {B : Heap} {sI s : Shared}
theorem Down.here (w : Down X pins σ H cls d a B sI s) : Inv X pins σ H s := w.inv.landed w.base w.fly.1 w.up w.os w.bare
theorem Down.moved (w : Down X pins σ H cls d a B sI s) {h' : Heap} (fl : HandSPX.FlyingZ B (X.env :: X.outer) a (Zc cls d) h') (up : s.heap.UpToSlots h') : Down X pins σ H cls d a B sI { s with heap := h' } :=
  { w with up := w.up.trans up, fly := fl }
theorem Down.apart (w : Down X pins σ H cls d a B sI s) : a ∉ (X.env :: X.outer).filterMap (·.frame) := by
  intro hm
  obtain ⟨oe, vs, he, -, hd⟩ := w.fly.there
  obtain ⟨-, o, e, no⟩ := w.fly.2.2.1.mem hm
  cases he.symm.trans e
  exact no vs hd
/-- the state, seen from the suite of a clause -/
theorem Down.suite (w : Down X pins σ H cls d a B sI s) (hf : X.env.frame = some X.env.locals) :
    ∃ oe, Zc cls d oe ∧ (∃ vs, oe.data = .fields vs) ∧ s.heap.get? a = some oe ∧ Inv (X.suite a ((a, oe) :: (X.pn ++ pins))) [] σ H s := by
  obtain ⟨oe, vs, he, hz, hd⟩ := w.fly.there
  have no := w.apart
  refine ⟨oe, hz, ⟨vs, hd⟩, he, w.here.suite he hd w.free ?_ ?_⟩
  · intro z
    subst z
    exact no (List.mem_filterMap.mpr ⟨X.env, .head _, hf⟩)
  · intro z
    obtain ⟨e, me, q⟩ := List.mem_filterMap.mp z
    exact no (List.mem_filterMap.mpr ⟨e, .tail _ me, q⟩)
/-- no clause is left: the error goes on -/
theorem Down.on {Wout : WX} {D : Ends} (w : Down X pins σ H cls d a B sI s) (hs : X.stack = X.env :: X.outer) (hf : X.env.frame = some X.env.locals) (tk : Takes X Wout) (q : Wout cls d σ H) :
    wpAny (model X.prog X.w) X.A (handleBy (.ref a) X.env []) (SP X pins D) X.xe s := by
  have go : wpAny (model X.prog X.w) X.A (setFlight (.ref a) X.env.frame) (fun _ s4 => wpAny (model X.prog X.w) X.A (throw (.ref a) : Sem Flow) (SP X pins D) X.xe s4) X.xe s := by
    rw [hf]
    refine HandSPX.setFlight_upZ w.fly fun h4 held up4 => wpAny_throw (tk _ _ ?_)
    refine ⟨a, B, sI, pins, σ, H, cls, d, rfl, w.inv, w.base, w.up.trans up4, .inr (.inr ?_), w.free, w.os, w.bare, q⟩
    rw [hs]
    exact held
  obtain ⟨-, -, -, oe, vs, T, -, -, he, -, hd, h1, -⟩ := id w.fly
  refine wpAny_handleBy_nil ?_
  unfold PySem.passOn
  refine wpAny_bind (wpAny_field he hd h1 ?_)
  have nn : ¬ (Value.ref T == Value.none) = true := by simp
  rw [if_neg nn]
  first
    | exact wpAny_bind go
    | exact wpAny_bind (wpAny_pure (wpAny_bind go))
/-- the first of the clauses: it is taken, or the next ones are asked -/
theorem Down.clause {D : Ends} {x n : Str} {c : Value} {i : Nat} {b₀ : Stmt} {body : List Stmt} {p p' : Pos} {rest : List ExceptHandler} {ts : Addr → Value → Option Addr → TS} {W : WX}
    (w : Down X pins σ H cls d a B sI s) (hf : X.env.frame = some X.env.locals) (hN : X.N.Nodup) (hi : X.N[i]? = some n) (hln : X.env.kindOf n = some .local) (hc : Names X x c)
    (hsu : ∀ (oe : Obj) (pn : List (Addr × Obj)), Zc cls d oe → (∃ vs, oe.data = .fields vs) → PSs (X.suite a ((a, oe) :: pn)) (b₀ :: body) (ts a cls d))
    (q : wAs X.K c i ts W D cls d σ H) (hr : W cls d σ H → wpAny (model X.prog X.w) X.A (handleBy (.ref a) X.env rest) (SP X pins D) X.xe s) :
    wpAny (model X.prog X.w) X.A (handleBy (.ref a) X.env (.ExceptHandler (some (.Name x p)) (some n) (b₀ :: body) p' :: rest)) (SP X pins D) X.xe s := by
  obtain ⟨b, is, yes, no⟩ := q
  obtain ⟨oe, hz, -, he, S⟩ := w.suite hf
  refine wpAny_handleBy_cons (codeAny_handlers_test ?_) (by intro z; cases z)
  have ty : PySem.W.Looks (model X.prog X.w) s.heap (typeOf (.ref a)) cls := by
    intro A Q E s' k q
    refine wpAny_typeOf_ref (k _ _ he) ?_
    rw [hz.1]
    exact q
  have match_ := PySem.W.exm_one (M := model X.prog X.w) w.here.kIn ty is
  have name_ : ∀ {Q E : Value → Shared → Prop}, Q c s → wpAny (model X.prog X.w) (X.A.mark (some (.ref a))) (eval (.Name x p) X.env) Q E s := by
    intro Q E q
    rcases hc with ⟨g, nd, m | ⟨m, v, nn⟩⟩
    · exact ld_glob (X := X.suite a _) S g m q nd
    · exact ld_blt (X := X.suite a _) S g m v q nn nd
  refine name_ (match_.here ?_)
  cases b with
  | false => exact hr (no rfl)
  | true =>
    refine codeAny_handlers_suite_as (HandSPX.lands_againZ w.fly fun h4 fl4 up4 => ?_)
    obtain ⟨oe4, hz4, hd4, -, S4⟩ := (w.moved fl4 up4).suite hf
    refine store_ok (X := X.suite a _) (v := .ref a) S4 hN hi (.inl hln) rfl (fun s5 S5 => ?_) (.inr hln)
    refine wpAny_mono ((hsu oe4 (X.pn ++ pins) hz4 hd4).run [] s5 _ H _ S5 (yes rfl a w.free)) (fun f s6 r => ?_) (by intro _ _ z; exact z.elim)
    have ok := w.inv.ok
    cases f with
    | ret u =>
      obtain ⟨v6, σ6, H6, S6, r6, q6⟩ := r
      exact gone_ok (S6.unsuite ok) hN hi hln fun s7 J7 => ⟨v6, _, _, J7, r6, q6⟩
    | next =>
      obtain ⟨σ6, H6, S6, q6⟩ := r
      exact gone_ok (S6.unsuite ok) hN hi hln fun s7 J7 => ⟨_, _, J7, q6⟩
    | brk =>
      obtain ⟨σ6, H6, S6, q6⟩ := r
      exact gone_ok (S6.unsuite ok) hN hi hln fun s7 J7 => ⟨_, _, J7, q6⟩
    | cont =>
      obtain ⟨σ6, H6, S6, q6⟩ := r
      exact gone_ok (S6.unsuite ok) hN hi hln fun s7 J7 => ⟨_, _, J7, q6⟩
end
/-- clauses 'except x as n', n in slot i, with what each does and what the one behind the last wishes -/
inductive Clauses (X : Cx) (n : Str) (i : Nat) (Wout : WX) : List ExceptHandler → (Ends → WX) → Prop
  | nil : Clauses X n i Wout [] (fun _ => Wout)
  | cons {x : Str} {c : Value} {ts : Addr → Value → Option Addr → TS} {b₀ : Stmt} {body : List Stmt} {p p' : Pos} {rest : List ExceptHandler} {W : Ends → WX} (hc : Names X x c)
      (hsu : ∀ (a : Addr) (oe : Obj) (cls : Value) (d : Option Addr) (pn : List (Addr × Obj)), Zc cls d oe → (∃ vs, oe.data = .fields vs) → PSs (X.suite a ((a, oe) :: pn)) (b₀ :: body) (ts a cls d))
      (r : Clauses X n i Wout rest W) : Clauses X n i Wout (.ExceptHandler (some (.Name x p)) (some n) (b₀ :: body) p' :: rest) (fun D => wAs X.K c i ts (W D) D)
section
variable {X : Cx} {n : Str} {i : Nat} {Wout : WX}
theorem Clauses.run {hds : List ExceptHandler} {W : Ends → WX} (k : Clauses X n i Wout hds W) (hs : X.stack = X.env :: X.outer) (hf : X.env.frame = some X.env.locals) (hN : X.N.Nodup) (hi : X.N[i]? = some n) (hln : X.env.kindOf n = some .local) (tk : Takes X Wout)
    {pins : List (Addr × Obj)} {σ : L2.St} {H : Hp} {cls : Value} {d : Option Addr} {a : Addr} {B : Heap} {sI s : Shared} {D : Ends} (w : Down X pins σ H cls d a B sI s) (q : W D cls d σ H) :
    wpAny (model X.prog X.w) X.A (handleBy (.ref a) X.env hds) (SP X pins D) X.xe s := by
  induction k with
  | nil => exact w.on hs hf tk q
  | cons hc hsu r ih => exact w.clause hf hN hi hln hc (fun oe pn => hsu a oe cls d pn) q ih
/-- try: body / except x1 as n: .. / except x2 as n: .. -/
theorem ps_tryA {body : List Stmt} {h₀ : ExceptHandler} {hds : List ExceptHandler} {pos : Pos} {tb : WX → TS} {W : Ends → WX} (hs : X.stack = X.env :: X.outer) (hf : X.env.frame = some X.env.locals) (hN : X.N.Nodup) (hi : X.N[i]? = some n) (hln : X.env.kindOf n = some .local)
    (tk : Takes X Wout) (hb : ∀ (W : WX) (pn : List (Addr × Obj)) (xe : Value → Shared → Prop), Takes (X.tr pn xe) W → PassesOwn (model X.prog X.w) X.A X.env xe → PSs (X.tr pn xe) body (tb W))
    (k : Clauses X n i Wout (h₀ :: hds) W) : PS X (.Try body (h₀ :: hds) [] [] pos) (fun D σ H => tb (W D) D σ H) := by
  constructor
  intro pins s σ H D I h
  have ok := I.ok
  let out : Value → Shared → Prop := fun e s₁ => wpAny (model X.prog X.w) X.A (noteFrame e X.env)
    (fun _ s₂ => wpAny (model X.prog X.w) X.A (setFlight e none) (fun _ s₃ => wpAny (model X.prog X.w) X.A (handleBy e X.env (h₀ :: hds)) (SP X pins D) X.xe s₃) X.xe s₂) X.xe s₁
  have tks : Takes (X.tr (X.pn ++ pins) out) (W D) := by
    rintro u s' ⟨a, B, sI, pins', σ', H', cls, d, rfl, J, nb, up, sky, na, os, ag, q⟩
    have fr : X.A.frames = some (X.env :: X.outer) := by rw [ok.frames, hs]
    have sky' := sky
    rw [show (X.tr (X.pn ++ pins) out).stack = X.env :: X.outer from hs] at sky'
    refine Sky.land (E₁ := X.xe) Zc.steady fr hf sky' fun h3 fl3 up3 => ?_
    exact k.run hs hf hN hi hln tk (sI := sI) (B := B) ⟨J.ofTry ok, nb, up.trans up3, fl3, na, os, ag⟩ q
  refine wpAny_Try_except (wpAny_mono ((hb (W D) (X.pn ++ pins) out tks PassesOwn.looking).run [] s σ H D (I.toTry _) h) ?_ fun _ _ he => he)
  · intro f s1 r
    cases f with
    | next =>
      obtain ⟨σ', H', J, q⟩ := r
      exact wpAny_execs_nil ⟨σ', H', J.ofTry ok, q⟩
    | ret u =>
      obtain ⟨v, σ', H', J, r', q⟩ := r
      exact ⟨v, σ', H', J.ofTry ok, r', q⟩
    | brk | cont =>
      obtain ⟨σ', H', J, q⟩ := r
      exact ⟨σ', H', J.ofTry ok, q⟩
end
section
variable {X : Cx} {a : Addr} {cls : Value} {d : Option Addr} {oe : Obj} {pn : List (Addr × Obj)}
/-- isinstance of the error of the suite, whatever its class is: an own one that says enough -/
def rIsX (K : PySem.W.Frag) (a : Addr) (cls : Value) (d : Option Addr) : List V → Hp → VK → Prop := fun xs H Q => ∃ D, cls = .ref D ∧ ExcC K D ∧ rIsD K D a d xs H Q
def rIsXT (K : PySem.W.Frag) (a : Addr) (cls : Value) (d : Option Addr) : List V → Hp → VK → Prop := fun xs H Q => ∃ D, cls = .ref D ∧ ExcC K D ∧ rIsDT K D a d xs H Q
theorem call_isX (hz : Zc cls d oe) (hf : ∃ vs, oe.data = .fields vs) : CallR (X.suite a ((a, oe) :: pn)) (.builtin "isinstance") (rIsX X.K a cls d) := by
  rintro pins s σ H xs us Q I r ⟨D, rfl, C, h⟩
  exact call_isD C hz hf pins s σ H xs us Q I r h
theorem call_isXT (hz : Zc cls d oe) (hf : ∃ vs, oe.data = .fields vs) : CallR (X.suite a ((a, oe) :: pn)) (.builtin "isinstance") (rIsXT X.K a cls d) := by
  rintro pins s σ H xs us Q I r ⟨D, rfl, C, h⟩
  exact call_isDT C hz hf pins s σ H xs us Q I r h
end
/-! ### except (A, B) -/
theorem fly_keeps {B : Heap} {l : List Env} {a : Addr} {Z : Obj → Prop} {h h' : Heap} (f : HandSPX.FlyingZ B l a Z h) (k : ∀ b o, h.get? b = some o → h'.get? b = some o) : HandSPX.FlyingZ B l a Z h' := by
  obtain ⟨f1, f2, f3, oe, vs, T, oT, ts, g1, g2, g3, g4, g5, g6, g7, g8⟩ := f
  exact ⟨fun b o e => k b o (f1 b o e), f2, f3.of_keeps fun b o e _ => ⟨o, k b o e, rfl⟩, oe, vs, T, oT, ts, k _ _ g1, g2, g3, g4, g5, g6, k _ _ g7, g8⟩
/-- what the clause 'except (c1, c2) as n' wishes of an error -/
def wTup (K : PySem.W.Frag) (c1 c2 : Value) (i : Nat) (ts : Addr → Value → Option Addr → TS) (Wout : WX) (D : Ends) : WX := fun cls d σ H =>
  ∃ b, PySem.W.exmAny K cls [c1, c2] = some b ∧ (b = true → ∀ a, H a = none → ts a cls d { nx := fun σ' H' => D.nx (σ'.set i none) H', rt := D.rt, bk := fun σ' H' => D.bk (σ'.set i none) H', ct := fun σ' H' => D.ct (σ'.set i none) H' } (σ.set i (some (.ref a))) H) ∧
    (b = false → Wout cls d σ H)
/-- .. without a name -/
def wTup0 (K : PySem.W.Frag) (c1 c2 : Value) (ts : Addr → Value → Option Addr → TS) (Wout : WX) (D : Ends) : WX := fun cls d σ H =>
  ∃ b, PySem.W.exmAny K cls [c1, c2] = some b ∧ (b = true → ∀ a, H a = none → ts a cls d D σ H) ∧ (b = false → Wout cls d σ H)
section
variable {X : Cx} {pins : List (Addr × Obj)} {σ : L2.St} {H : Hp} {cls : Value} {d : Option Addr} {a : Addr} {B : Heap} {sI s : Shared}
/-- the test (x1, x2) of a clause -/
theorem Down.test2 {x1 x2 : Str} {c1 c2 : Value} {p1 p2 tp : Pos} {kk : Nat} {b : Bool} {E E2 : Value → Shared → Prop}
    (w : Down X pins σ H cls d a B sI s) (hf : X.env.frame = some X.env.locals) (h1 : Names X x1 c1) (h2 : Names X x2 c2) (is : PySem.W.exmAny X.K cls [c1, c2] = some b) {G : Bool → Shared → Prop}
    (go : ∀ s', Down X pins σ H cls d a B sI s' → G b s') :
    wpAny (model X.prog X.w) (X.A.mark (some (.ref a))) (eval (.Tuple [.Name x1 p1, .Name x2 p2] kk tp) X.env) (fun c s₁ => wpAny (model X.prog X.w) (X.A.mark (some (.ref a))) (excMatches (.ref a) c) G E2 s₁) E s := by
  obtain ⟨oe, hz, -, he, S⟩ := w.suite hf
  have name_ : ∀ {x : Str} {c : Value} {p : Pos} {Q E : Value → Shared → Prop}, Names X x c → Q c s → wpAny (model X.prog X.w) (X.A.mark (some (.ref a))) (eval (.Name x p) X.env) Q E s := by
    intro x c p Q E hc q
    rcases hc with ⟨g, nd, m | ⟨m, v, nn⟩⟩
    · exact ld_glob (X := X.suite a _) S g m q nd
    · exact ld_blt (X := X.suite a _) S g m v q nn nd
  refine Tuple_ (spliced_more (name_ h1 (spliced_more (name_ h2 (spliced_none ?_)))))
  refine wpAny_newObj_type ?_
  have k : ∀ b o, s.heap.get? b = some o → (s.heap.push { cls := .type "tuple", dict := none, data := .seq [c1, c2].toArray }).get? b = some o := fun b o e => Heap.get?_push_of_some _ e
  have w' := w.moved (fly_keeps w.fly k) (Heap.UpToSlots.of_keeps k)
  have ty : PySem.W.Looks (model X.prog X.w) (s.heap.push { cls := .type "tuple", dict := none, data := .seq [c1, c2].toArray }) (typeOf (.ref a)) cls := by
    intro A Q E s' k' q
    refine wpAny_typeOf_ref (k' _ _ (k _ _ he)) ?_
    rw [hz.1]
    exact q
  exact (PySem.W.exm_tup2 (M := model X.prog X.w) w'.here.kIn ty (Heap.get?_push_size _ rfl) is).here (go _ w')
/-- the error is new to the base -/
theorem Down.new (w : Down X pins σ H cls d a B sI s) (hs : X.stack = X.env :: X.outer) : X.base.get? a = none := by
  cases e : X.base.get? a with
  | none => rfl
  | some o =>
    have no := w.apart
    have z := w.base a o (w.inv.bs a o e).1 (by rw [hs]; exact no)
    rw [w.fly.2.1] at z
    cases z
/-- the one clause 'except (x1, x2) as n' -/
theorem Down.clause2 {Wout : WX} {D : Ends} {x1 x2 n : Str} {c1 c2 : Value} {i : Nat} {b₀ : Stmt} {body : List Stmt} {p1 p2 tp p' : Pos} {kk : Nat} {ts : Addr → Value → Option Addr → TS}
    (w : Down X pins σ H cls d a B sI s) (hs : X.stack = X.env :: X.outer) (hf : X.env.frame = some X.env.locals) (hN : X.N.Nodup) (hi : X.N[i]? = some n) (hln : X.env.kindOf n = some .local) (tk : Takes X Wout) (h1 : Names X x1 c1) (h2 : Names X x2 c2)
    (hsu : ∀ (oe : Obj) (pn : List (Addr × Obj)), Zc cls d oe → (∃ vs, oe.data = .fields vs) → X.base.get? a = none → PSs (X.suite a ((a, oe) :: pn)) (b₀ :: body) (ts a cls d))
    (q : wTup X.K c1 c2 i ts Wout D cls d σ H) :
    wpAny (model X.prog X.w) X.A (handleBy (.ref a) X.env [.ExceptHandler (some (.Tuple [.Name x1 p1, .Name x2 p2] kk tp)) (some n) (b₀ :: body) p']) (SP X pins D) X.xe s := by
  obtain ⟨b, is, yes, no⟩ := q
  refine wpAny_handleBy_cons (codeAny_handlers_test (w.test2 hf h1 h2 is fun s' w' => ?_)) (by intro z; cases z)
  cases b with
  | false => exact w'.on hs hf tk (no rfl)
  | true =>
    refine codeAny_handlers_suite_as (HandSPX.lands_againZ w'.fly fun h4 fl4 up4 => ?_)
    obtain ⟨oe4, hz4, hd4, -, S4⟩ := (w'.moved fl4 up4).suite hf
    refine store_ok (X := X.suite a _) (v := .ref a) S4 hN hi (.inl hln) rfl (fun s5 S5 => ?_) (.inr hln)
    refine wpAny_mono ((hsu oe4 (X.pn ++ pins) hz4 hd4 (w.new hs)).run [] s5 _ H _ S5 (yes rfl a w.free)) (fun f s6 r => ?_) (by intro _ _ z; exact z.elim)
    have ok := w.inv.ok
    cases f with
    | ret u =>
      obtain ⟨v6, σ6, H6, S6, r6, q6⟩ := r
      exact gone_ok (S6.unsuite ok) hN hi hln fun s7 J7 => ⟨v6, _, _, J7, r6, q6⟩
    | next =>
      obtain ⟨σ6, H6, S6, q6⟩ := r
      exact gone_ok (S6.unsuite ok) hN hi hln fun s7 J7 => ⟨_, _, J7, q6⟩
    | brk =>
      obtain ⟨σ6, H6, S6, q6⟩ := r
      exact gone_ok (S6.unsuite ok) hN hi hln fun s7 J7 => ⟨_, _, J7, q6⟩
    | cont =>
      obtain ⟨σ6, H6, S6, q6⟩ := r
      exact gone_ok (S6.unsuite ok) hN hi hln fun s7 J7 => ⟨_, _, J7, q6⟩
/-- the one clause 'except (x1, x2)' -/
theorem Down.clause20 {Wout : WX} {D : Ends} {x1 x2 : Str} {c1 c2 : Value} {b₀ : Stmt} {body : List Stmt} {p1 p2 tp p' : Pos} {kk : Nat} {ts : Addr → Value → Option Addr → TS}
    (w : Down X pins σ H cls d a B sI s) (hs : X.stack = X.env :: X.outer) (hf : X.env.frame = some X.env.locals) (tk : Takes X Wout) (h1 : Names X x1 c1) (h2 : Names X x2 c2)
    (hsu : ∀ (oe : Obj) (pn : List (Addr × Obj)), Zc cls d oe → (∃ vs, oe.data = .fields vs) → PSs (X.suite a ((a, oe) :: pn)) (b₀ :: body) (ts a cls d))
    (q : wTup0 X.K c1 c2 ts Wout D cls d σ H) :
    wpAny (model X.prog X.w) X.A (handleBy (.ref a) X.env [.ExceptHandler (some (.Tuple [.Name x1 p1, .Name x2 p2] kk tp)) none (b₀ :: body) p']) (SP X pins D) X.xe s := by
  obtain ⟨b, is, yes, no⟩ := q
  refine wpAny_handleBy_cons (codeAny_handlers_test (w.test2 hf h1 h2 is fun s' w' => ?_)) (by intro z; cases z)
  cases b with
  | false => exact w'.on hs hf tk (no rfl)
  | true =>
    refine codeAny_handlers_suite (HandSPX.lands_againZ w'.fly fun h4 fl4 up4 => ?_)
    obtain ⟨oe4, hz4, hd4, -, S4⟩ := (w'.moved fl4 up4).suite hf
    refine wpAny_mono ((hsu oe4 (X.pn ++ pins) hz4 hd4).run [] _ _ H _ S4 (yes rfl a w.free)) (fun f s6 r => ?_) (by intro _ _ z; exact z.elim)
    have ok := w.inv.ok
    cases f with
    | ret u =>
      obtain ⟨v6, σ6, H6, S6, r6, q6⟩ := r
      exact ⟨v6, _, _, S6.unsuite ok, r6, q6⟩
    | next =>
      obtain ⟨σ6, H6, S6, q6⟩ := r
      exact ⟨_, _, S6.unsuite ok, q6⟩
    | brk =>
      obtain ⟨σ6, H6, S6, q6⟩ := r
      exact ⟨_, _, S6.unsuite ok, q6⟩
    | cont =>
      obtain ⟨σ6, H6, S6, q6⟩ := r
      exact ⟨_, _, S6.unsuite ok, q6⟩
end
section
variable {X : Cx} {n : Str} {i : Nat} {Wout : WX}
theorem ps_try_hd {W : Ends → WX} {body : List Stmt} {h₀ : ExceptHandler} {pos : Pos} {tb : WX → TS} (hs : X.stack = X.env :: X.outer) (hf : X.env.frame = some X.env.locals)
    (hb : ∀ (W : WX) (pn : List (Addr × Obj)) (xe : Value → Shared → Prop), Takes (X.tr pn xe) W → PassesOwn (model X.prog X.w) X.A X.env xe → PSs (X.tr pn xe) body (tb W))
    (k : ∀ {pins : List (Addr × Obj)} {σ : L2.St} {H : Hp} {cls : Value} {d : Option Addr} {a : Addr} {B : Heap} {sI s : Shared} {D : Ends}, Down X pins σ H cls d a B sI s → W D cls d σ H → wpAny (model X.prog X.w) X.A (handleBy (.ref a) X.env [h₀]) (SP X pins D) X.xe s) :
    PS X (.Try body [h₀] [] [] pos) (fun D σ H => tb (W D) D σ H) := by
  constructor
  intro pins s σ H D I h
  have ok := I.ok
  let out : Value → Shared → Prop := fun e s₁ => wpAny (model X.prog X.w) X.A (noteFrame e X.env)
    (fun _ s₂ => wpAny (model X.prog X.w) X.A (setFlight e none) (fun _ s₃ => wpAny (model X.prog X.w) X.A (handleBy e X.env [h₀]) (SP X pins D) X.xe s₃) X.xe s₂) X.xe s₁
  have tks : Takes (X.tr (X.pn ++ pins) out) (W D) := by
    rintro u s' ⟨a, B, sI, pins', σ', H', cls, d, rfl, J, nb, up, sky, na, os, ag, q⟩
    have fr : X.A.frames = some (X.env :: X.outer) := by rw [ok.frames, hs]
    have sky' := sky
    rw [show (X.tr (X.pn ++ pins) out).stack = X.env :: X.outer from hs] at sky'
    refine Sky.land (E₁ := X.xe) Zc.steady fr hf sky' fun h3 fl3 up3 => ?_
    exact k (sI := sI) (B := B) ⟨J.ofTry ok, nb, up.trans up3, fl3, na, os, ag⟩ q
  refine wpAny_Try_except (wpAny_mono ((hb (W D) (X.pn ++ pins) out tks PassesOwn.looking).run [] s σ H D (I.toTry _) h) ?_ fun _ _ he => he)
  · intro f s1 r
    cases f with
    | next =>
      obtain ⟨σ', H', J, q⟩ := r
      exact wpAny_execs_nil ⟨σ', H', J.ofTry ok, q⟩
    | ret u =>
      obtain ⟨v, σ', H', J, r', q⟩ := r
      exact ⟨v, σ', H', J.ofTry ok, r', q⟩
    | brk | cont =>
      obtain ⟨σ', H', J, q⟩ := r
      exact ⟨σ', H', J.ofTry ok, q⟩
/-- try: body / except (x1, x2) as n: suite -/
theorem ps_try2 {body suite : List Stmt} {b₀ : Stmt} {pos p' p1 p2 tp : Pos} {kk : Nat} {x1 x2 : Str} {c1 c2 : Value} {tb : WX → TS} {ts : Addr → Value → Option Addr → TS} (hs : X.stack = X.env :: X.outer) (hf : X.env.frame = some X.env.locals) (hN : X.N.Nodup) (hi : X.N[i]? = some n) (hln : X.env.kindOf n = some .local)
    (h1 : Names X x1 c1) (h2 : Names X x2 c2) (tk : Takes X Wout) (hb : ∀ (W : WX) (pn : List (Addr × Obj)) (xe : Value → Shared → Prop), Takes (X.tr pn xe) W → PassesOwn (model X.prog X.w) X.A X.env xe → PSs (X.tr pn xe) body (tb W))
    (hsu : ∀ (a : Addr) (oe : Obj) (cls : Value) (d : Option Addr) (pn : List (Addr × Obj)), Zc cls d oe → (∃ vs, oe.data = .fields vs) → X.base.get? a = none → PSs (X.suite a ((a, oe) :: pn)) (b₀ :: suite) (ts a cls d)) :
    PS X (.Try body [.ExceptHandler (some (.Tuple [.Name x1 p1, .Name x2 p2] kk tp)) (some n) (b₀ :: suite) p'] [] [] pos) (fun D σ H => tb (wTup X.K c1 c2 i ts Wout D) D σ H) :=
  ps_try_hd (W := wTup X.K c1 c2 i ts Wout) hs hf hb fun {_ _ _ cls d a _ _ _ _} w q => w.clause2 hs hf hN hi hln tk h1 h2 (fun oe pn => hsu a oe cls d pn) q
/-- try: body / except (x1, x2): suite -/
theorem ps_try20 {body suite : List Stmt} {b₀ : Stmt} {pos p' p1 p2 tp : Pos} {kk : Nat} {x1 x2 : Str} {c1 c2 : Value} {tb : WX → TS} {ts : Addr → Value → Option Addr → TS} (hs : X.stack = X.env :: X.outer) (hf : X.env.frame = some X.env.locals)
    (h1 : Names X x1 c1) (h2 : Names X x2 c2) (tk : Takes X Wout) (hb : ∀ (W : WX) (pn : List (Addr × Obj)) (xe : Value → Shared → Prop), Takes (X.tr pn xe) W → PassesOwn (model X.prog X.w) X.A X.env xe → PSs (X.tr pn xe) body (tb W))
    (hsu : ∀ (a : Addr) (oe : Obj) (cls : Value) (d : Option Addr) (pn : List (Addr × Obj)), Zc cls d oe → (∃ vs, oe.data = .fields vs) → PSs (X.suite a ((a, oe) :: pn)) (b₀ :: suite) (ts a cls d)) :
    PS X (.Try body [.ExceptHandler (some (.Tuple [.Name x1 p1, .Name x2 p2] kk tp)) none (b₀ :: suite) p'] [] [] pos) (fun D σ H => tb (wTup0 X.K c1 c2 ts Wout D) D σ H) :=
  ps_try_hd (W := wTup0 X.K c1 c2 ts Wout) hs hf hb fun {_ _ _ cls d a _ _ _ _} w q => w.clause20 hs hf tk h1 h2 (fun oe pn => hsu a oe cls d pn) q
end
/-! ### the stream -/
def Strm (H : Hp) (s : Addr) (n : Nat) : Prop := ∃ r c : Int, H s = some (.lst [.int r, .int c, .int (n : Int)]) ∧ 0 ≤ c ∧ c < 2305843009213693951
theorem Strm.same {H H' : Hp} {s : Addr} {n : Nat} (k : Same H H') (h : Strm H s n) : Strm H' s n := by
  obtain ⟨r, c, e, h1⟩ := h
  exact ⟨r, c, k _ _ e, h1⟩
theorem Strm.but {H H' : Hp} {s a : Addr} {n : Nat} (k : But a H H') (ne : s ≠ a) (h : Strm H s n) : Strm H' s n := by
  obtain ⟨r, c, e, h1⟩ := h
  exact ⟨r, c, k _ _ ne e, h1⟩
theorem Strm.lst {H : Hp} {s : Addr} {n : Nat} (h : Strm H s n) : ∃ xs, H s = some (.lst xs) := by
  obtain ⟨r, c, e, _⟩ := h
  exact ⟨_, e⟩
theorem But.keepL {a : Addr} {H H' : Hp} {xs : List V} (e : H a = some (.lst xs)) (x : But a H H') : KeepT H H' := fun b ys h => x b _ (ne_of h e (by intro z; cases z)) h
theorem modP (z p : Int) (h0 : 0 < p) (h1 : p < 2 ^ 64) : -(2 ^ 64) < z % p ∧ z % p < 2 ^ 64 := by
  have a := Int.emod_nonneg z (show p ≠ 0 by omega)
  have b := Int.emod_lt_of_pos z h0
  omega
theorem seq_cut {t u : TS} {D : Ends} {σ : L2.St} {H : Hp} (I : L2.St → Hp → Prop) (h2 : ∀ σ' H', I σ' H' → u D σ' H') (h1 : (∀ σ' H', I σ' H' → u D σ' H') → t { D with nx := u D } σ H) : tSeq t u D σ H := h1 h2
theorem seq_cutN {t u : TS} {D : Ends} {r1 : VK} {r2 r3 : L2.St → Hp → Prop} {σ : L2.St} {H : Hp} (I : L2.St → Hp → Prop) (h2 : ∀ σ' H', I σ' H' → u D σ' H') (h1 : (∀ σ' H', I σ' H' → u D σ' H') → t { D with nx := u D } σ H) : (Ends.mk (tSeq t u D) r1 r2 r3).nx σ H := h1 h2
def alph : List Nat := (Str.ofString "abcdefghijklmnopqrstuvwxyz").cps.toList
theorem alph_all : ∀ k : Fin 26, (alph[k.val]?).any isLow = true := by decide +kernel
theorem alph_at {j : Nat} (h : j < 26) : ∃ c, alph[j]? = some c ∧ isLow c = true := by
  have a := alph_all ⟨j, h⟩
  cases e : alph[j]? with
  | none => rw [show (⟨j, h⟩ : Fin 26).val = j from rfl, e] at a; cases a
  | some c => rw [show (⟨j, h⟩ : Fin 26).val = j from rfl, e] at a; exact ⟨c, rfl, a⟩
def StI (a : Addr) (i : Nat) (H : Hp) (σ : L2.St) (H' : Hp) : Prop := ∃ x : Int, σ = [some (.ref a), some (.int (i : Int)), some (.int x), none] ∧ H' = H
def spStream (K : PySem.W.Frag) : Sp := fun vs H Q _ => ∃ (a : Addr) (ns : List Int) (i : Nat), vs = [.ref a, .int (i : Int)] ∧ SqL K H a (ns.map V.int) ∧ i ≤ 1000 ∧ ∀ (s : Addr) (H' : Hp), H s = none → Same H H' → Strm H' s 0 → Q (.ref s) H'
def spTake1 : Sp := fun vs H Q _ => ∃ (s : Addr) (n : Nat) (m : Int), vs = [.ref s, .int m] ∧ Strm H s n ∧ n ≤ 1000000 ∧ 0 < m ∧ m ≤ 1000 ∧ ∀ (i : Nat) (n' : Nat) (H' : Hp), (i : Int) < m → Strm H' s n' → n' ≤ n + 1 → But s H H' → Q (.int (i : Int)) H'
def spLetter1 : Sp := fun vs H Q _ => ∃ (s : Addr) (n : Nat), vs = [.ref s] ∧ Strm H s n ∧ n + 2 ≤ 1000000 ∧ ∀ (c : Nat) (n' : Nat) (H' : Hp), isLow c = true → Strm H' s n' → n' ≤ n + 2 → But s H H' → Q (.str (ch c)) H'
section
variable {P : Program} {w : World} {K : PySem.W.Frag} {mg : Str → Option Value} {base : Heap} {f : Addr} {fd : FuncData}
theorem ok_stream {k : Nat} (F : Fun K "_law_stream" "_law_stream" s__law_stream f fd) (M : Mgs mg) : FnOk P w K mg base CX0 (k + 1) f fd ["_law_script", "_law_turn"] (spStream K) := by
  refine F.ok sc__law_stream (fun vs H Q E h => ?_) (fun cdv A outer s H vs Q E hr h => ?_)
  · obtain ⟨a, ns, i, rfl, _⟩ := h
    rfl
  obtain ⟨a, ns, i, rfl, hS, hi, q⟩ := h
  refine ⟨_, (pss_cons (ps_set (i := 2) sc__law_stream.nd rfl (.inl rfl) pe_int)
    (pss_cons (ps_if (pt_cmpR op_gt (pe_callB call_len_seq rfl M.len PySem.boot_len (pa_cons (pv 0) pa_nil)) pe_int (nomark _))
      (pss_one (ps_set (i := 2) sc__law_stream.nd rfl (.inl rfl) (pe_ix ix_list (pv 0) (pe_op op_mod (pv 1) (pe_callB call_len_seq rfl M.len PySem.boot_len (pa_cons (pv 0) pa_nil))) (fun _ _ => rfl)))) pss_nil)
    (pss_cons (ps_if (pt_cmpR op_lt (pv 2) pe_int (nomark _))
      (pss_one (ps_set (i := 2) sc__law_stream.nd rfl (.inl rfl) (pe_op op_sub pe_int (pe_op op_mul pe_int (pv 2))))) pss_nil)
    (pss_cons (ps_set (i := 3) sc__law_stream.nd rfl (.inl rfl) pe_int)
    (pss_cons (ps_if (pt_cmpR op_ge (pv 2) (pe_op op_pow pe_int pe_int) (nomark _))
      (pss_one (ps_set (i := 3) sc__law_stream.nd rfl (.inl rfl) (pv 2))) pss_nil)
    (pss_one (ps_ret (pe_lst (pa_cons (pv 3) (pa_cons (pe_op op_mod (pe_op op_add (pe_op op_add (pe_op op_mod (pv 2) pe_int) (pe_op op_mul (pe_op op_mul pe_int (pv 1)) (pv 1))) pe_int) pe_int) (pa_cons pe_int pa_nil))))))))))), ?_⟩
  refine seq_cut (StI a i H) (fun σ H6 hp => ?_) (fun rest => rest _ _ ⟨_, rfl, rfl⟩)
  obtain ⟨x, rfl, rfl⟩ := hp
  refine seq_cut (StI a i H6) (fun σ H6 hp => ?_) (fun rest => ?_)
  rotate_left
  · refine ⟨_, rfl, a, _, rfl, .inl hS, _, _, rfl, rfl, _, rfl, ite2 (fun hl => ?_) (fun hl => rest _ _ ⟨_, rfl, rfl⟩)⟩
    have hl' : 0 < ns.length := by
      have hl : (0 : Int) < ((ns.map V.int).length : Int) := of_decide_eq_true hl
      rw [List.length_map] at hl
      omega
    refine ⟨_, rfl, _, rfl, _, rfl, a, _, rfl, .inl hS, _, _, rfl, rfl, (by rw [List.length_map]; omega), ?_⟩
    have h0 := Int.emod_nonneg (i : Int) (show ((ns.map V.int).length : Int) ≠ 0 by rw [List.length_map]; omega)
    have h1 := Int.emod_lt_of_pos (i : Int) (show 0 < ((ns.map V.int).length : Int) by rw [List.length_map]; omega)
    obtain ⟨j, hj⟩ := Int.eq_ofNat_of_zero_le h0
    rw [hj] at h1
    have hj1 : j < ns.length := by rw [List.length_map] at h1; omega
    refine ⟨a, _, _, V.int (ns[j]'hj1), rfl, (show V.int ((i : Int) % _) = V.int (j : Int) by rw [hj]), hS, ?_, ?_⟩
    · refine atI_nat (j := j) ?_
      rw [List.getElem?_map, List.getElem?_eq_getElem hj1]
      rfl
    · exact rest _ _ ⟨_, rfl, rfl⟩
  obtain ⟨x, rfl, rfl⟩ := hp
  refine seq_cut (StI a i H6) (fun σ H7 hp => ?_) (fun rest => ?_)
  rotate_left
  · refine ⟨_, rfl, _, _, rfl, rfl, _, rfl, ite2 (fun hl => ?_) (fun hl => rest _ _ ⟨_, rfl, rfl⟩)⟩
    refine ⟨_, rfl, _, _, rfl, rfl, .inl (by decide), _, _, rfl, rfl, rest _ _ ⟨_, rfl, rfl⟩⟩
  obtain ⟨y, rfl, rfl⟩ := hp
  have fin : ∀ r : Int, ∀ (s : Addr), H7 s = none → Q (.ref s) (upd H7 s (.lst [.int r, .int ((y % 2305843009213693951 + 7919 * (i : Int) * (i : Int) + 11) % 2305843009213693951), .int 0])) := fun r s n => q s _ n (same_new n _) ⟨_, _, upd_same, Int.emod_nonneg _ (by decide), Int.emod_lt_of_pos _ (by decide)⟩
  refine ⟨_, rfl, _, _, rfl, rfl, ⟨by decide, by decide, by decide⟩, _, _, rfl, rfl, _, rfl, ite2 (fun hl => ?_) (fun hl => ?_)⟩
  · refine ⟨_, rfl, _, rfl, _, rfl, _, _, rfl, rfl, (show (0 : Int) < 2305843009213693951 by decide), _, rfl, _, _, rfl, rfl, .inl (by decide), _, rfl, _, _, rfl, rfl, .inr (by constructor <;> omega), _, _, rfl, rfl, _, _, rfl, rfl, _, _, rfl, rfl, (show (0 : Int) < 2305843009213693951 by decide), (show (3 : Nat) ≤ sizeLine by decide), ?_⟩
    exact fun s n => fin _ s n
  · refine ⟨_, rfl, _, rfl, _, _, rfl, rfl, (show (0 : Int) < 2305843009213693951 by decide), _, rfl, _, _, rfl, rfl, .inl (by decide), _, rfl, _, _, rfl, rfl, .inr (by constructor <;> omega), _, _, rfl, rfl, _, _, rfl, rfl, _, _, rfl, rfl, (show (0 : Int) < 2305843009213693951 by decide), (show (3 : Nat) ≤ sizeLine by decide), ?_⟩
    exact fun s n => fin _ s n
theorem ok_take1 {k : Nat} (F : Fun K "_law_take" "_law_take" s__law_take f fd) : FnOk P w K mg base CX0 (k + 1) f fd ["_law_stream_here", "_law_many"] spTake1 := by
  refine F.ok sc__law_take (fun vs H Q E h => ?_) (fun cdv A outer s H vs Q E hr h => ?_)
  · obtain ⟨sa, n, m, rfl, _⟩ := h
    rfl
  obtain ⟨sa, n, m, rfl, ⟨r, c, e1, c0, c1⟩, hn, m0, m1, q⟩ := h
  refine ⟨_, (pss_cons (ps_if (pt_cmpR op_gt (pe_ix ix_list (pv 0) pe_int (fun _ _ => rfl)) pe_int (nomark _))
      (pss_cons (ps_set (i := 2) sc__law_take.nd rfl (.inl rfl) (pe_op op_mod (pe_ix ix_list (pv 0) pe_int (fun _ _ => rfl)) (pv 1)))
    (pss_cons (ps_asg (pe_op op_fdiv (pe_ix ix_list (pv 0) pe_int (fun _ _ => rfl)) (pv 1)) (pg_sub (pv 0) pe_int set_list))
    (pss_one (ps_ret (pv 2))))) pss_nil)
    (pss_cons (ps_asg (pe_op op_add (pe_ix ix_list (pv 0) pe_int (fun _ _ => rfl)) pe_int) (pg_sub (pv 0) pe_int set_list))
    (pss_cons (ps_par (i := 3) (j := 4) (by rfl) sc__law_take.nd rfl rfl (by decide) rfl rfl (pa_cons (pe_op op_mod (pe_ix ix_list (pv 0) pe_int (fun _ _ => rfl)) pe_int) (pa_cons (pe_op op_fdivW (pe_ix ix_list (pv 0) pe_int (fun _ _ => rfl)) pe_int) pa_nil)) (by rfl))
    (pss_cons (ps_set (i := 5) sc__law_take.nd rfl (.inl rfl) (pe_ix ix_list (pv 0) pe_int (fun _ _ => rfl)))
    (pss_cons (ps_set (i := 6) sc__law_take.nd rfl (.inl rfl) (pe_op op_add (pe_op op_mul (pv 3) (pe_op op_add pe_int (pe_op op_mul pe_int (pv 5)))) (pe_op op_mul (pv 4) pe_int)))
    (pss_cons (ps_set (i := 6) sc__law_take.nd rfl (.inl rfl) (pe_op op_mod (pe_op op_add (pv 6) (pe_op op_mul (pe_op op_mul (pv 5) (pv 5)) pe_int)) pe_int))
    (pss_cons (ps_set (i := 6) sc__law_take.nd rfl (.inl rfl) (pe_op op_mod (pe_op op_mul (pe_op op_mod (pe_op op_mul (pv 6) (pv 6)) pe_int) (pe_op op_add (pv 6) pe_int)) pe_int))
    (pss_one (ps_ret (pe_op op_mod (pe_op op_fdiv (pe_op op_add (pe_op op_mul (pv 6) pe_int) (pe_op op_mod (pe_op op_mul (pv 6) (pv 6)) pe_int)) pe_int) (pv 1))))))))))), ?_⟩
  refine ⟨_, rfl, sa, _, 0, _, rfl, rfl, SqL.of e1, atI_nat (j := 0) rfl, _, _, rfl, rfl, _, rfl, ite2 (fun hpos => ?_) (fun hpos => ?_)⟩
  · refine ⟨_, rfl, sa, _, 0, _, rfl, rfl, SqL.of e1, atI_nat (j := 0) rfl, _, rfl, _, _, rfl, rfl, m0, ?_⟩
    refine ⟨_, rfl, sa, _, 0, _, rfl, rfl, SqL.of e1, atI_nat (j := 0) rfl, _, rfl, _, _, rfl, rfl, ⟨m0, by omega⟩, ?_⟩
    refine ⟨_, rfl, sa, _, _, 0, rfl, rfl, e1, rfl, ?_⟩
    have h0 := Int.emod_nonneg r (show m ≠ 0 by omega)
    have h1 := Int.emod_lt_of_pos r m0
    obtain ⟨j, hj⟩ := Int.eq_ofNat_of_zero_le h0
    rw [hj] at h1
    have e : V.int (r % m) = V.int (j : Int) := by rw [hj]
    refine ⟨_, rfl, ?_⟩
    exact (congrArg (fun z => Q z (upd H sa (.lst [.int (r / m), .int c, .int (n : Int)]))) e).mpr <| q j n _ h1 ⟨r / m, c, upd_same, c0, c1⟩ (by omega) fun b o hb e => by rw [upd_ne hb]; exact e
  · refine ⟨_, rfl, sa, _, 2, _, rfl, rfl, SqL.of e1, atI_nat (j := 2) rfl, _, _, rfl, rfl, _, rfl, sa, _, _, 2, rfl, rfl, e1, rfl, ?_⟩
    have fin : ∀ z : Int, Q (.int (z % m)) (upd H sa (.lst [.int r, .int c, .int ((n : Int) + 1)])) := fun z => by
      have h0 := Int.emod_nonneg z (show m ≠ 0 by omega)
      have h1 := Int.emod_lt_of_pos z m0
      obtain ⟨j, hj⟩ := Int.eq_ofNat_of_zero_le h0
      rw [hj] at h1 ⊢
      exact q j (n + 1) _ h1 ⟨r, c, by rw [Int.natCast_add]; exact upd_same, c0, c1⟩ (by omega) fun b o hb e => by rw [upd_ne hb]; exact e
    have x1 : (upd H sa (.lst [.int r, .int c, .int ((n : Int) + 1)])) sa = some (.lst [.int r, .int c, .int ((n : Int) + 1)]) := upd_same
    have b1 : But sa H (upd H sa (.lst [.int r, .int c, .int ((n : Int) + 1)])) := fun b o hb e => by rw [upd_ne hb]; exact e
    have y1 : atI [V.int r, .int c, .int ((n : Int) + 1)] 1 = some (.int c) := atI_nat (j := 1) rfl
    have y2 : atI [V.int r, .int c, .int ((n : Int) + 1)] 2 = some (.int ((n : Int) + 1)) := atI_nat (j := 2) rfl
    refine ⟨_, rfl, sa, _, _, _, rfl, rfl, SqL.of x1, y1, _, _, rfl, rfl, (show (0 : Int) < 2147483647 by decide), _, rfl, sa, _, _, _, rfl, rfl, SqL.of x1, y1, _, _, rfl, rfl, wide_div (b := 40) (by decide) (by decide) (by decide) (by decide), _, _, rfl, ?_⟩
    refine ⟨_, rfl, sa, _, _, _, rfl, rfl, SqL.of x1, y2, ?_⟩
    refine ⟨_, rfl, _, rfl, _, _, rfl, rfl, .inl (by decide), _, _, rfl, rfl, _, _, rfl, rfl, .inl (modP _ _ (by decide) (by decide)), _, rfl, _, _, rfl, rfl, .inr (by decide), _, _, rfl, rfl, ?_⟩
    refine ⟨_, rfl, _, rfl, _, rfl, _, _, rfl, rfl, .inl (by constructor <;> omega), _, _, rfl, rfl, .inr (by decide), _, _, rfl, rfl, _, _, rfl, rfl, (show (0 : Int) < 2147483647 by decide), ?_⟩
    refine ⟨_, rfl, _, rfl, _, _, rfl, rfl, .inl (modP _ _ (by decide) (by decide)), _, _, rfl, rfl, (show (0 : Int) < 2147483647 by decide), _, rfl, _, _, rfl, rfl, _, _, rfl, rfl, .inl (modP _ _ (by decide) (by decide)), _, _, rfl, rfl, (show (0 : Int) < 2147483647 by decide), ?_⟩
    refine ⟨_, rfl, _, _, rfl, rfl, .inr (by decide), _, rfl, _, rfl, _, _, rfl, rfl, .inl (modP _ _ (by decide) (by decide)), _, _, rfl, rfl, (show (0 : Int) < 1073741789 by decide), _, _, rfl, rfl, _, _, rfl, rfl, (show (0 : Int) < 8 ∧ (8 : Int) < 1073741824 by decide), _, rfl, _, _, rfl, rfl, m0, ?_⟩
    exact fin _
theorem ok_letter1 (F : Fun K "_law_letter" "_law_letter" s__law_letter f fd) (D_law_take : Df P w K mg base 1 "_law_take" ["_law_stream_here", "_law_many"] spTake1) : FnOk P w K mg base CX0 2 f fd ["_law_stream_here"] spLetter1 := by
  refine F.ok (k := 1) sc__law_letter (fun vs H Q E h => ?_) (fun cdv A outer s H vs Q E hr h => ?_)
  · obtain ⟨sa, n, rfl, _⟩ := h
    rfl
  obtain ⟨sa, n, rfl, h, hn, q⟩ := h
  refine ⟨_, (pss_one (ps_ret (pe_ix ix_str pe_str (pe_call D_law_take.ok (hr.mono (by omega)) rfl D_law_take.g D_law_take.kp D_law_take.b .nil pass0 (pa_cons (pv 0) (pa_cons (pe_ix ix_list (pe_lst (pa_cons pe_int (pa_cons pe_int pa_nil))) (pe_call D_law_take.ok (hr.mono (by omega)) rfl D_law_take.g D_law_take.kp D_law_take.b .nil pass0 (pa_cons (pv 0) (pa_cons pe_int pa_nil))) (fun _ _ => rfl)) pa_nil))) (fun _ _ => rfl)))), ?_⟩
  refine ⟨_, rfl, (show (2 : Nat) ≤ sizeLine by decide), fun la na => ⟨_, rfl, ?_⟩⟩
  have h1 : Strm (upd H la (.lst [.int 26, .int 3])) sa n := h.same (same_new na _)
  refine ⟨sa, n, 2, rfl, h1, by omega, by decide, by decide, fun i n1 H1 l1 t1 c1 b1 => ?_⟩
  have e1 : H1 la = some (.lst [.int 26, .int 3]) := b1 _ _ (fun z => by obtain ⟨xs, e⟩ := h.lst; rw [← z, na] at e; cases e) upd_same
  have hv : ∃ m : Int, atI [V.int 26, .int 3] (i : Int) = some (.int m) ∧ 0 < m ∧ m ≤ 26 := by
    match i, l1 with
    | 0, _ => exact ⟨26, rfl, by decide, by decide⟩
    | 1, _ => exact ⟨3, rfl, by decide, by decide⟩
  obtain ⟨m, hm, m0, m1⟩ := hv
  refine ⟨la, _, _, _, rfl, rfl, SqL.of e1, hm, ?_⟩
  refine ⟨sa, n1, m, rfl, t1, by omega, m0, by omega, fun j n2 H2 l2 t2 c2 b2 => ?_⟩
  obtain ⟨c, hc, hl⟩ := alph_at (j := j) (by omega)
  refine ⟨_, _, c, rfl, rfl, (by decide +kernel), atI_nat hc, q c n2 _ hl t2 (by omega) fun b o hb e => b2 b o hb (b1 b o hb (same_new na _ b o e))⟩
end
/-! ### the law's own walks through a tree -/
def B.nds : B → List Bool → List (List Bool)
  | .nil, _ => []
  | .node l _ r, q => q :: (l.nds (q ++ [false]) ++ r.nds (q ++ [true]))
def B.ops : B → List Bool → List (List Bool)
  | .nil, q => [q]
  | .node l _ r, q => l.ops (q ++ [false]) ++ r.ops (q ++ [true])
theorem B.nds_len : ∀ (t : B) (q : List Bool), (t.nds q).length = t.size
  | .nil, _ => rfl
  | .node l x r, q => by
    have h1 := l.nds_len (q ++ [false])
    have h2 := r.nds_len (q ++ [true])
    show (q :: (l.nds (q ++ [false]) ++ r.nds (q ++ [true]))).length = l.size + 1 + r.size
    rw [List.length_cons, List.length_append]
    omega
theorem B.ops_len : ∀ (t : B) (q : List Bool), (t.ops q).length = t.size + 1
  | .nil, _ => rfl
  | .node l x r, q => by
    have h1 := l.ops_len (q ++ [false])
    have h2 := r.ops_len (q ++ [true])
    show (l.ops (q ++ [false]) ++ r.ops (q ++ [true])).length = l.size + 1 + r.size + 1
    rw [List.length_append]
    omega
theorem B.nds_mem : ∀ (t : B) (q p : List Bool), p ∈ t.nds q ↔ ∃ s u, p = q ++ s ∧ t.at s = some u ∧ u ≠ .nil
  | .nil, q, p => by
    constructor
    · intro h
      cases (show p ∈ ([] : List (List Bool)) from h)
    rintro ⟨s, u, _, h, n⟩
    cases s with
    | nil => cases h; exact absurd rfl n
    | cons _ _ => cases h
  | .node l x r, q, p => by
    show p ∈ q :: (l.nds (q ++ [false]) ++ r.nds (q ++ [true])) ↔ _
    rw [List.mem_cons, List.mem_append, l.nds_mem, r.nds_mem]
    constructor
    · rintro (rfl | ⟨s, u, rfl, h, n⟩ | ⟨s, u, rfl, h, n⟩)
      · exact ⟨[], _, (List.append_nil _).symm, rfl, fun z => nomatch z⟩
      · exact ⟨false :: s, u, by rw [List.append_assoc]; rfl, h, n⟩
      · exact ⟨true :: s, u, by rw [List.append_assoc]; rfl, h, n⟩
    · rintro ⟨s, u, rfl, h, n⟩
      cases s with
      | nil => exact .inl (List.append_nil _)
      | cons b s => cases b with
        | false => exact .inr (.inl ⟨s, u, by rw [List.append_assoc]; rfl, h, n⟩)
        | true => exact .inr (.inr ⟨s, u, by rw [List.append_assoc]; rfl, h, n⟩)
theorem B.ops_mem : ∀ (t : B) (q p : List Bool), p ∈ t.ops q ↔ ∃ s, p = q ++ s ∧ t.at s = some .nil
  | .nil, q, p => by
    show p ∈ [q] ↔ _
    rw [List.mem_singleton]
    refine ⟨fun h => ⟨[], by rw [h, List.append_nil], rfl⟩, fun ⟨s, e, h⟩ => ?_⟩
    cases s with
    | nil => rw [e, List.append_nil]
    | cons _ _ => cases h
  | .node l x r, q, p => by
    show p ∈ l.ops (q ++ [false]) ++ r.ops (q ++ [true]) ↔ _
    rw [List.mem_append, l.ops_mem, r.ops_mem]
    constructor
    · rintro (⟨s, rfl, h⟩ | ⟨s, rfl, h⟩)
      · exact ⟨false :: s, by rw [List.append_assoc]; rfl, h⟩
      · exact ⟨true :: s, by rw [List.append_assoc]; rfl, h⟩
    · rintro ⟨s, rfl, h⟩
      cases s with
      | nil => cases h
      | cons b s => cases b with
        | false => exact .inl ⟨s, by rw [List.append_assoc]; rfl, h⟩
        | true => exact .inr ⟨s, by rw [List.append_assoc]; rfl, h⟩
theorem B.nds_at {t : B} {p : List Bool} : p ∈ t.nds [] ↔ ∃ u, t.at p = some u ∧ u ≠ .nil := by
  rw [B.nds_mem]
  exact ⟨fun ⟨s, u, e, h⟩ => ⟨u, by rw [e]; exact h⟩, fun ⟨u, h⟩ => ⟨p, u, rfl, h⟩⟩
theorem B.ops_at {t : B} {p : List Bool} : p ∈ t.ops [] ↔ t.at p = some .nil := by
  rw [B.ops_mem]
  exact ⟨fun ⟨s, e, h⟩ => by rw [e]; exact h, fun h => ⟨p, rfl, h⟩⟩
def spPaths : Sp := fun vs H Q _ => ∃ (v : V) (t : B), vs = [v] ∧ BAt H v t ∧ t.size ≤ 12 ∧ ∀ (p A B' : Addr) (H' : Hp), Same H H' → H p = none → H A = none → H B' = none → H' p = some (.tup [.ref A, .ref B']) → H' A = some (.lst ((t.nds []).map fun p => V.str (px p))) → H' B' = some (.lst ((t.ops []).map fun p => V.str (px p))) → Q (.ref p) H'
inductive WtAt (H : Hp) : List V → List (List Bool × B) → Prop
  | nil : WtAt H [] []
  | cons {a : Addr} {q : List Bool} {v : V} {t : B} {vs : List V} {ss : List (List Bool × B)} : H a = some (.tup [.str (px q), v]) → BAt H v t → WtAt H vs ss → WtAt H (.ref a :: vs) ((q, t) :: ss)
theorem WtAt.keep {H H' : Hp} (k : KeepT H H') {vs : List V} {ss : List (List Bool × B)} (h : WtAt H vs ss) : WtAt H' vs ss := by
  induction h with
  | nil => exact .nil
  | cons e b _ ih => exact .cons (k _ _ e) (b.keep k) ih
theorem WtAt.app {H : Hp} {vs us : List V} {ss ts : List (List Bool × B)} (h : WtAt H vs ss) (g : WtAt H us ts) : WtAt H (vs ++ us) (ss ++ ts) := by
  induction h with
  | nil => exact g
  | cons e b _ ih => exact .cons e b ih
theorem WtAt.last {H : Hp} {vs : List V} {ss : List (List Bool × B)} (h : WtAt H vs ss) : vs ≠ [] → ∃ a q v t ts, vs[vs.length - 1]? = some (.ref a) ∧ ss = ts ++ [(q, t)] ∧ H a = some (.tup [.str (px q), v]) ∧ BAt H v t ∧ WtAt H vs.dropLast ts := by
  induction h with
  | nil => intro z; exact absurd rfl z
  | @cons a q v t vs ss e b hh ih =>
    intro _
    cases vs with
    | nil => cases hh; exact ⟨a, q, v, t, [], rfl, rfl, e, b, .nil⟩
    | cons u us =>
      obtain ⟨a', q', v', t', ts, e1, e2, e3, e4, e5⟩ := ih (by simp)
      exact ⟨a', q', v', t', (q, t) :: ts, e1, by rw [e2]; rfl, e3, e4, .cons e b e5⟩
def ndsS (ss : List (List Bool × B)) : List (List Bool) := ss.reverse.flatMap fun x => x.2.nds x.1
def opsS (ss : List (List Bool × B)) : List (List Bool) := ss.reverse.flatMap fun x => x.2.ops x.1
theorem ndsS_snoc (ss : List (List Bool × B)) (q : List Bool) (t : B) : ndsS (ss ++ [(q, t)]) = t.nds q ++ ndsS ss := by
  unfold ndsS
  rw [List.reverse_append]
  rfl
theorem opsS_snoc (ss : List (List Bool × B)) (q : List Bool) (t : B) : opsS (ss ++ [(q, t)]) = t.ops q ++ opsS ss := by
  unfold opsS
  rw [List.reverse_append]
  rfl
theorem WtAt.len {H : Hp} {vs : List V} {ss : List (List Bool × B)} (h : WtAt H vs ss) : vs.length = ss.length := by
  induction h with
  | nil => rfl
  | cons _ _ _ ih => rw [List.length_cons, List.length_cons, ih]
theorem ndsO (ss : List (List Bool × B)) : ss.length ≤ (opsS ss).length := by
  unfold opsS
  rw [← List.length_reverse]
  generalize ss.reverse = rs
  induction rs with
  | nil => exact Nat.le_refl _
  | cons x rs ih =>
    rw [List.flatMap_cons, List.length_append, B.ops_len, List.length_cons]
    omega
theorem px_snoc (q : List Bool) (b : Bool) : px q ++ tx [dir b] = px (q ++ [b]) := by
  unfold px
  rw [tx_app, List.map_append]
  rfl
def lenAt (σ : L2.St) (i : Nat) (H : Hp) : Nat := match σ[i]? with
  | some (some (V.ref a)) => (match H a with
    | some (.lst xs) => xs.length
    | _ => 0)
  | _ => 0
theorem lenAt_of {σ : L2.St} {i : Nat} {H : Hp} {a : Addr} {xs : List V} (h : σ[i]? = some (some (.ref a))) (e : H a = some (.lst xs)) : lenAt σ i H = xs.length := by
  unfold lenAt
  rw [h]
  show (match H a with
    | some (.lst xs) => xs.length
    | _ => 0) = _
  rw [e]
def PaI (H : Hp) (t : B) (v : V) (A B' W : Addr) (σ : L2.St) (H' : Hp) : Prop := ∃ (ws : List V) (ss : List (List Bool × B)) (N O : List (List Bool)) (y4 y5 : Option V), σ = [some v, some (.ref A), some (.ref B'), some (.ref W), y4, y5] ∧ Same H H' ∧ H' A = some (.lst (N.map fun p => V.str (px p))) ∧ H' B' = some (.lst (O.map fun p => V.str (px p))) ∧ H' W = some (.lst ws) ∧ WtAt H' ws ss ∧ N ++ ndsS ss = t.nds [] ∧ O ++ opsS ss = t.ops []
def Kd.num : Kd → Int
  | .first => 0
  | .between => 1
  | .last => 2
def spLabs (n : Nat) : Sp := fun vs H Q _ => ∃ (v : V) (t : B) (k : Kd), vs = [v, .int k.num] ∧ BAt H v t ∧ t.size < n ∧ t.size ≤ 100 ∧ ∀ (H' : Hp), Same H H' → Q (.str (tx (t.wk k))) H'
abbrev vp (p : List Bool) : V := .str (px p)
section
variable {P : Program} {w : World} {K : PySem.W.Frag} {mg : Str → Option Value} {base : Heap} {f : Addr} {fd : FuncData}
theorem ok_lgraft (F : Fun K "_law_grafted" "_law_grafted" s__law_grafted f fd) (b : Binds K fd ["_law_tree_here", "_law_path", "_law_part"] []) (g : mg "_law_grafted" = some (.ref f)) : ∀ n : Nat, FnOk P w K mg base CX0 n f fd ["_law_tree_here", "_law_path", "_law_part"] (spWith n)
  | 0 => by
    have no : ∀ vs H Q E, ¬ spWith 0 vs H Q E := fun vs H Q E h => by
      obtain ⟨v, vp, t, u, p, _, _, _, h1, _⟩ := h
      exact absurd h1 (Nat.not_lt_zero _)
    exact ⟨fun vs H Q E h => absurd h (no vs H Q E), fun A outer s H args us vs Q E _ _ _ _ h => absurd h (no vs H Q E)⟩
  | n + 1 => by
    have Dself : Df P w K mg base n "_law_grafted" ["_law_tree_here", "_law_path", "_law_part"] (spWith n) := ⟨f, fd, ok_lgraft F b g n, b, F.kp, g⟩
    refine F.ok sc__law_grafted (fun vs H Q E h => ?_) (fun cdv A outer s H vs Q E hr h => ?_)
    · obtain ⟨v, vp, t, u, p, rfl, _⟩ := h
      rfl
    obtain ⟨v, vp, t, u, p, rfl, ht, hu, hn, hp, hs, q⟩ := h
    refine ⟨_, (pss_cons (ps_if (pt_cmpR op_eq (pv 1) pe_str (nomark _))
      (pss_one (ps_ret (pv 2))) pss_nil)
    (pss_cons (ps_if (pt_cmpR op_eq (pe_ix ix_str (pv 1) pe_int (fun _ _ => rfl)) pe_str (nomark _))
      (pss_one (ps_ret (pe_tup (pa_cons (pe_call Dself.ok (hr.mono (by omega)) rfl Dself.g Dself.kp Dself.b .nil pass0 (pa_cons (pe_ix ix_tup (pv 0) pe_int (fun _ _ => rfl)) (pa_cons (pe_slice sl_str (pv 1) (po_some pe_int) po_none) (pa_cons (pv 2) pa_nil)))) (pa_cons (pe_ix ix_tup (pv 0) pe_int (fun _ _ => rfl)) (pa_cons (pe_ix ix_tup (pv 0) pe_int (fun _ _ => rfl)) pa_nil)))))) pss_nil)
    (pss_one (ps_ret (pe_tup (pa_cons (pe_ix ix_tup (pv 0) pe_int (fun _ _ => rfl)) (pa_cons (pe_ix ix_tup (pv 0) pe_int (fun _ _ => rfl)) (pa_cons (pe_call Dself.ok (hr.mono (by omega)) rfl Dself.g Dself.kp Dself.b .nil pass0 (pa_cons (pe_ix ix_tup (pv 0) pe_int (fun _ _ => rfl)) (pa_cons (pe_slice sl_str (pv 1) (po_some pe_int) po_none) (pa_cons (pv 2) pa_nil)))) pa_nil)))))))), ?_⟩
    have lp : (px p).length ≤ sizeLine := small (by rw [px_len]; omega)
    refine ⟨_, rfl, rfl, _, rfl, ?_⟩
    cases p with
    | nil =>
      refine iteS px_nil ⟨_, rfl, ?_⟩
      have e : t.put [] u = u := by cases t <;> rfl
      rw [e] at q
      exact q vp H (Same.refl H) hu
    | cons d p =>
      refine iteR (fun z => by rw [← px_nil] at z; cases px_inj z) ?_
      rcases ht.inv with ⟨rfl, rfl⟩ | ⟨a, vl, vr, x, tl, tr, rfl, rfl, ea, hl, hr'⟩
      · cases hs
      have hp' : p.length + 1 < n + 1 := hn
      have hp2 : p.length + 1 ≤ 100 := hp
      refine ⟨_, rfl, _, _, _, rfl, rfl, lp, atI_nat (j := 0) rfl, rfl, _, rfl, ?_⟩
      have ed : cutS (px (d :: p)) (some 1) none = px p := px_drop _
      cases d with
      | false =>
        refine iteS str_l.symm ⟨_, rfl, a, _, 0, vl, rfl, rfl, SqT.of ea, atI_nat (j := 0) rfl, _, rfl, _, rfl, _, rfl, lp, _, rfl, vl, vp, tl, u, p, by rw [ed]; rfl, hl, hu, by omega, by omega, hs, fun v' H1 s1 h1 => ?_⟩
        refine ⟨_, rfl, a, _, 1, _, rfl, rfl, SqT.of (s1 _ _ ea), atI_nat (j := 1) rfl, _, rfl, a, _, 2, vr, rfl, rfl, SqT.of (s1 _ _ ea), atI_nat (j := 2) rfl, (by show 3 ≤ sizeLine; decide), fun r nr => ?_⟩
        have k2 := same_new nr (.tup [v', .str (ch x), vr])
        exact q _ _ (s1.trans k2) (.node upd_same (h1.same k2) (hr'.same (s1.trans k2)))
      | true =>
        refine iteR (fun z => by rw [str_l] at z; have := tx_inj z; cases this) ⟨_, rfl, a, _, 0, vl, rfl, rfl, SqT.of ea, atI_nat (j := 0) rfl, _, rfl, a, _, 1, _, rfl, rfl, SqT.of ea, atI_nat (j := 1) rfl, _, rfl, a, _, 2, vr, rfl, rfl, SqT.of ea, atI_nat (j := 2) rfl, _, rfl, _, rfl, _, rfl, lp, _, rfl, vr, vp, tr, u, p, by rw [ed]; rfl, hr', hu, by omega, by omega, hs, fun v' H1 s1 h1 => ?_⟩
        refine ⟨(by show 3 ≤ sizeLine; decide), fun r nr => ?_⟩
        have k2 := same_new nr (.tup [vl, .str (ch x), v'])
        exact q _ _ (s1.trans k2) (.node upd_same (hl.same (s1.trans k2)) (h1.same k2))
theorem ok_lpaths {k : Nat} (F : Fun K "_law_paths" "_law_paths" s__law_paths f fd) : FnOk P w K mg base CX0 (k + 1) f fd ["_law_tree_here"] spPaths := by
  refine F.ok sc__law_paths (fun vs H Q E h => ?_) (fun cdv A outer s H vs Q E hr h => ?_)
  · obtain ⟨v, t, rfl, _⟩ := h
    rfl
  obtain ⟨v, t, rfl, ht, hz, q⟩ := h
  refine ⟨_, (pss_cons (ps_par3 (i := 1) (j := 2) (l := 3) (by rfl) sc__law_paths.nd rfl rfl rfl (by decide) (by decide) (by decide) rfl rfl rfl (pa_cons (pe_lst pa_nil) (pa_cons (pe_lst pa_nil) (pa_cons (pe_lst (pa_cons (pe_tup (pa_cons pe_str (pa_cons (pv 0) pa_nil))) pa_nil)) pa_nil))) (by rfl))
    (pss_cons (ps_while PassesOwn.never (pt_cmpR (op_neL hr.units0) (pv 3) (pe_lst pa_nil) (nomark _))
      (pss_cons (ps_asg (pe_bm0 PySem.F.plainAttrs_list PySem.F.slot_list_pop PySem.F.type_list_pop mt_pop (pv 3)) (pg_tup rfl (pgs_cons (pg_name (i := 4) sc__law_paths.nd rfl (.inl rfl)) (pgs_cons (pg_name (i := 5) sc__law_paths.nd rfl (.inl rfl)) pgs_nil))))
    (pss_one (ps_if (pt_cmpR op_isN (pv 5) pe_non (nomark _))
      (pss_one (ps_expr (pe_bm PySem.F.plainAttrs_list PySem.F.slot_list_append PySem.F.type_list_append mt_append (pv 2) (pa_cons (pv 4) pa_nil)))) (pss_cons (ps_expr (pe_bm PySem.F.plainAttrs_list PySem.F.slot_list_append PySem.F.type_list_append mt_append (pv 1) (pa_cons (pv 4) pa_nil)))
    (pss_one (ps_expr (pe_bm PySem.F.plainAttrs_list PySem.F.slot_list_extend PySem.F.type_list_extend mt_extend (pv 3) (pa_cons (pe_lst (pa_cons (pe_tup (pa_cons (pe_op op_add_str (pv 4) pe_str) (pa_cons (pe_ix ix_tup (pv 5) pe_int (fun _ _ => rfl)) pa_nil))) (pa_cons (pe_tup (pa_cons (pe_op op_add_str (pv 4) pe_str) (pa_cons (pe_ix ix_tup (pv 5) pe_int (fun _ _ => rfl)) pa_nil))) pa_nil))) pa_nil)))))))))
    (pss_one (ps_ret (pe_tup (pa_cons (pv 1) (pa_cons (pv 2) pa_nil))))))), ?_⟩
  have z0 : 0 ≤ sizeLine := by decide
  have z1 : 1 ≤ sizeLine := by decide
  have z2 : 2 ≤ sizeLine := by decide
  refine ⟨z0, fun A nA => ⟨z0, fun B' nB => ⟨_, rfl, z2, fun tp ntp => ⟨z1, fun W nW => ⟨_, _, _, rfl, ?_⟩⟩⟩⟩⟩
  have k1 := same_new nA (.lst [])
  have k2 := same_new nB (.lst [])
  have k3 := same_new ntp (.tup [.str "", v])
  have k4 := same_new nW (.lst [.ref tp])
  have eA := k4 _ _ (k3 _ _ (k2 _ _ (upd_same (H := H) (a := A) (o := .lst []))))
  have eB := k4 _ _ (k3 _ _ (upd_same (H := upd H A (.lst [])) (a := B') (o := .lst [])))
  have et := k4 _ _ (upd_same (H := upd (upd H A (.lst [])) B' (.lst [])) (a := tp) (o := .tup [.str "", v]))
  have eW := upd_same (H := upd (upd (upd H A (.lst [])) B' (.lst [])) tp (.tup [.str "", v])) (a := W) (o := .lst [.ref tp])
  have nAB : A ≠ B' := fun z => by rw [← z, upd_same] at nB; cases nB
  have nAW : A ≠ W := fun z => by rw [← z, k3 _ _ (k2 _ _ upd_same)] at nW; cases nW
  have nBW : B' ≠ W := fun z => by rw [← z, k3 _ _ upd_same] at nW; cases nW
  have s4 := k1.trans (k2.trans (k3.trans k4))
  have fB : H B' = none := by
    cases e : H B' with
    | none => rfl
    | some o => rw [k1 _ _ e] at nB; cases nB
  have fW : H W = none := by
    cases e : H W with
    | none => rfl
    | some o => rw [k3 _ _ (k2 _ _ (k1 _ _ e))] at nW; cases nW
  have ht4 := ht.same s4
  generalize upd (upd (upd (upd H A (.lst [])) B' (.lst [])) tp (.tup [.str "", v])) W (.lst [.ref tp]) = H4 at eA eB et eW s4 ht4 ⊢
  rw [← px_nil] at et
  refine while_by (PaI H t v A B' W) (fun σ H' => 100 - lenAt σ 1 H' - lenAt σ 2 H') ?_ (fun σ H' hp => ?_) ?_
  · exact ⟨[.ref tp], [([], t)], [], [], none, none, rfl, s4, eA, eB, eW, .cons et ht4 .nil, by simp [ndsS], by simp [opsS]⟩
  · obtain ⟨ws, ss, N, O, y4, y5, rfl, sm, hA, hB, hW, hw, hN, hO⟩ := hp
    refine ⟨_, rfl, z0, fun el ne => ?_⟩
    have k5 := same_new ne (.lst [])
    refine ⟨W, el, _, rfl, rfl, SqL.of (k5 _ _ hW), SqL.of upd_same, _, rfl, ?_⟩
    have lN : N.length ≤ 12 := by
      have := congrArg List.length hN
      rw [B.nds_len, List.length_append] at this
      omega
    have lO : O.length ≤ 13 := by
      have := congrArg List.length hO
      rw [B.ops_len, List.length_append] at this
      omega
    have m0 : lenAt [some v, some (V.ref A), some (.ref B'), some (.ref W), y4, y5] 1 H' = N.length := by rw [lenAt_of rfl hA, List.length_map]
    have m1 : lenAt [some v, some (V.ref A), some (.ref B'), some (.ref W), y4, y5] 2 H' = O.length := by rw [lenAt_of rfl hB, List.length_map]
    have sm := sm.trans k5
    have hA := k5 _ _ hA
    have hB := k5 _ _ hB
    have hW := k5 _ _ hW
    have hw := hw.keep (Tw.Same.keepT k5)
    rw [m0, m1]
    generalize upd H' el (.lst []) = H5 at sm hA hB hW hw ⊢
    cases ws with
    | nil =>
      cases hw
      rw [show ndsS [] = [] from rfl, List.append_nil] at hN
      rw [show opsS [] = [] from rfl, List.append_nil] at hO
      rw [hN] at hA
      rw [hO] at hB
      refine iteF ⟨_, rfl, _, rfl, z2, fun r nr => ?_⟩
      have k6 := same_new nr (.tup [.ref A, .ref B'])
      refine q r A B' _ (sm.trans k6) ?_ nA fB upd_same (k6 _ _ hA) (k6 _ _ hB)
      cases e : H r with
      | none => rfl
      | some o => rw [sm _ _ e] at nr; cases nr
    | cons w0 ws0 =>
      refine iteT ?_
      obtain ⟨a, qq, vv, tt, ts, e1, rfl, e3, e4, e5⟩ := hw.last (by simp)
      refine ⟨.ref W, rfl, .inl ⟨rfl, _, SqL.of hW⟩, W, _, _, rfl, rfl, hW, e1, ?_⟩
      have sm6 : Same H (upd H5 W (.lst (w0 :: ws0).dropLast)) := fun b o z => by
        rw [upd_ne (ne_of_none z fW)]
        exact sm _ _ z
      have kt : KeepT H5 (upd H5 W (.lst (w0 :: ws0).dropLast)) := fun b xs z => by
        rw [upd_ne (ne_of z hW (by intro z; cases z))]
        exact z
      have hA6 : (upd H5 W (.lst (w0 :: ws0).dropLast)) A = _ := (upd_ne nAW).trans hA
      have hB6 : (upd H5 W (.lst (w0 :: ws0).dropLast)) B' = _ := (upd_ne nBW).trans hB
      have hW6 : (upd H5 W (.lst (w0 :: ws0).dropLast)) W = _ := upd_same
      have e3 := kt _ _ e3
      have e4 := e4.keep kt
      have e5 := e5.keep kt
      generalize upd H5 W (.lst (w0 :: ws0).dropLast) = H6 at sm6 hA6 hB6 hW6 e3 e4 e5 ⊢
      generalize (w0 :: ws0).dropLast = W0 at hW6 e5
      rw [ndsS_snoc] at hN
      rw [opsS_snoc] at hO
      refine ⟨a, _, rfl, SqT.of e3, rfl, _, _, rfl, _, _, rfl, rfl, ?_⟩
      rcases e4.inv with ⟨rfl, rfl⟩ | ⟨b, vl, vr, x, tl, tr, rfl, rfl, eb, hl, hr'⟩
      · refine ⟨_, rfl, rfl, _, rfl, iteT ?_⟩
        refine ⟨_, rfl, .inl ⟨rfl, _, SqL.of hB6⟩, _, rfl, B', _, _, rfl, rfl, hB6, by rw [List.length_map]; exact small1000 (by omega), ?_⟩
        have kt7 : KeepT H6 (upd H6 B' (.lst (List.map (fun p => V.str (px p)) O ++ [V.str (px qq)]))) := fun b xs z => by
          rw [upd_ne (ne_of z hB6 (by intro z; cases z))]
          exact z
        have sm7 : Same H (upd H6 B' (.lst (List.map (fun p => V.str (px p)) O ++ [V.str (px qq)]))) := fun b o z => by
          rw [upd_ne (ne_of_none z fB)]
          exact sm6 _ _ z
        have hA7 := (upd_ne (o := .lst (List.map (fun p => V.str (px p)) O ++ [V.str (px qq)])) nAB).trans hA6
        have hW7 := (upd_ne (o := .lst (List.map (fun p => V.str (px p)) O ++ [V.str (px qq)])) (Ne.symm nBW)).trans hW6
        have hB7 : (upd H6 B' (.lst (List.map (fun p => V.str (px p)) O ++ [V.str (px qq)]))) B' = some (.lst ((O ++ [qq]).map fun p => V.str (px p))) := by rw [upd_same, List.map_append]; rfl
        refine ⟨⟨W0, ts, N, O ++ [qq], _, _, rfl, sm7, hA7, hB7, hW7, e5.keep kt7, hN, ?_⟩, ?_⟩
        · rw [List.append_assoc]; exact hO
        · rw [lenAt_of rfl hA7, lenAt_of rfl hB7, List.length_map, List.length_map, List.length_append]
          show 100 - N.length - (O.length + 1) < _
          omega
      · refine ⟨_, rfl, rfl, _, rfl, iteF ?_⟩
        refine ⟨_, rfl, .inl ⟨rfl, _, SqL.of hA6⟩, _, rfl, A, _, _, rfl, rfl, hA6, by rw [List.length_map]; exact small1000 (by omega), ?_⟩
        have kt7 : KeepT H6 (upd H6 A (.lst (List.map (fun p => V.str (px p)) N ++ [V.str (px qq)]))) := fun b xs z => by
          rw [upd_ne (ne_of z hA6 (by intro z; cases z))]
          exact z
        have sm7 : Same H (upd H6 A (.lst (List.map (fun p => V.str (px p)) N ++ [V.str (px qq)]))) := fun b o z => by
          rw [upd_ne (ne_of_none z nA)]
          exact sm6 _ _ z
        have hB7 := (upd_ne (o := .lst (List.map (fun p => V.str (px p)) N ++ [V.str (px qq)])) nAB.symm).trans hB6
        have hW7 := (upd_ne (o := .lst (List.map (fun p => V.str (px p)) N ++ [V.str (px qq)])) nAW.symm).trans hW6
        have hA7 : (upd H6 A (.lst (List.map (fun p => V.str (px p)) N ++ [V.str (px qq)]))) A = some (.lst ((N ++ [qq]).map fun p => V.str (px p))) := by rw [upd_same, List.map_append]; rfl
        have eb := kt7 _ _ eb
        have hl := hl.keep kt7
        have hr' := hr'.keep kt7
        have e5 := e5.keep kt7
        generalize upd H6 A (.lst (List.map (fun p => V.str (px p)) N ++ [V.str (px qq)])) = H7 at sm7 hB7 hW7 hA7 eb hl hr' e5 ⊢
        have hq : qq.length ≤ 12 := by
          have hm : qq ∈ t.nds [] := by rw [← hN]; exact List.mem_append_right _ (List.mem_append_left _ List.mem_cons_self)
          obtain ⟨u, hu, _⟩ := B.nds_at.mp hm
          have := t.at_size qq hu
          omega
        have cr : px qq ++ Str.ofString "r" = px (qq ++ [true]) := by rw [str_r]; exact px_snoc qq true
        have cl : px qq ++ Str.ofString "l" = px (qq ++ [false]) := by rw [str_l]; exact px_snoc qq false
        have cl1 : (px qq).length + (Str.ofString "r").length ≤ sizeLine := small (by rw [px_len, str_r, tx_len]; show _ + 1 ≤ 1000; omega)
        have cl2 : (px qq).length + (Str.ofString "l").length ≤ sizeLine := small (by rw [px_len, str_l, tx_len]; show _ + 1 ≤ 1000; omega)
        refine ⟨_, rfl, .inl ⟨rfl, _, SqL.of hW7⟩, _, rfl, _, _, rfl, rfl, cl1, _, rfl, b, _, 2, vr, rfl, rfl, SqT.of eb, atI_nat (j := 2) rfl, z2, fun t1 n1 => ?_⟩
        have k8 := same_new n1 (.tup [.str (px qq ++ Str.ofString "r"), vr])
        refine ⟨_, rfl, _, _, rfl, rfl, cl2, _, rfl, b, _, 0, vl, rfl, rfl, SqT.of (k8 _ _ eb), atI_nat (j := 0) rfl, z2, fun t2 n2 => ⟨z2, fun L nL => ?_⟩⟩
        have k9 := same_new n2 (.tup [.str (px qq ++ Str.ofString "l"), vl])
        have k10 := same_new nL (.lst [.ref t1, .ref t2])
        have kk := k8.trans (k9.trans k10)
        have f1 := k10 _ _ (k9 _ _ (upd_same (H := H7) (a := t1) (o := .tup [.str (px qq ++ Str.ofString "r"), vr])))
        have f2 := k10 _ _ (upd_same (H := upd H7 t1 (.tup [.str (px qq ++ Str.ofString "r"), vr])) (a := t2) (o := .tup [.str (px qq ++ Str.ofString "l"), vl]))
        have f3 := upd_same (H := upd (upd H7 t1 (.tup [.str (px qq ++ Str.ofString "r"), vr])) t2 (.tup [.str (px qq ++ Str.ofString "l"), vl])) (a := L) (o := .lst [.ref t1, .ref t2])
        generalize upd (upd (upd H7 t1 (.tup [.str (px qq ++ Str.ofString "r"), vr])) t2 (.tup [.str (px qq ++ Str.ofString "l"), vl])) L (.lst [.ref t1, .ref t2]) = H8 at kk f1 f2 f3 ⊢
        rw [cr] at f1
        rw [cl] at f2
        have hw8 : WtAt H8 (W0 ++ [.ref t1, .ref t2]) (ts ++ [(qq ++ [true], tr), (qq ++ [false], tl)]) := (e5.keep (Tw.Same.keepT kk)).app (.cons f1 (hr'.same kk) (.cons f2 (hl.same kk) .nil))
        have lW : W0.length ≤ 900 := by
          have h1 := e5.len
          have h2 := ndsO ts
          have h3 := congrArg List.length hO
          rw [B.ops_len, List.length_append, List.length_append] at h3
          omega
        refine ⟨W, L, _, _, rfl, rfl, kk _ _ hW7, f3, small (by show W0.length + 2 ≤ 1000; omega), ?_⟩
        have kt9 : KeepT H8 (upd H8 W (.lst (W0 ++ [.ref t1, .ref t2]))) := fun b xs z => by
          rw [upd_ne (ne_of z (kk _ _ hW7) (by intro z; cases z))]
          exact z
        have sm9 : Same H (upd H8 W (.lst (W0 ++ [.ref t1, .ref t2]))) := fun b o z => by
          rw [upd_ne (ne_of_none z fW)]
          exact kk _ _ (sm7 _ _ z)
        have hA9 := (upd_ne (o := .lst (W0 ++ [.ref t1, .ref t2])) nAW).trans (kk _ _ hA7)
        have hB9 := (upd_ne (o := .lst (W0 ++ [.ref t1, .ref t2])) nBW).trans (kk _ _ hB7)
        refine ⟨⟨W0 ++ [.ref t1, .ref t2], ts ++ [(qq ++ [true], tr), (qq ++ [false], tl)], N ++ [qq], O, _, _, rfl, sm9, hA9, hB9, upd_same, hw8.keep kt9, ?_, ?_⟩, ?_⟩
        · rw [show ts ++ [(qq ++ [true], tr), (qq ++ [false], tl)] = (ts ++ [(qq ++ [true], tr)]) ++ [(qq ++ [false], tl)] by rw [List.append_assoc]; rfl, ndsS_snoc, ndsS_snoc, List.append_assoc, ← hN, ← List.append_assoc (tl.nds _)]
          rfl
        · rw [show ts ++ [(qq ++ [true], tr), (qq ++ [false], tl)] = (ts ++ [(qq ++ [true], tr)]) ++ [(qq ++ [false], tl)] by rw [List.append_assoc]; rfl, opsS_snoc, opsS_snoc, ← hO, ← List.append_assoc (tl.ops _)]
          rfl
        · rw [lenAt_of rfl hA9, lenAt_of rfl hB9, List.length_map, List.length_map, List.length_append]
          show 100 - (N.length + 1) - O.length < _
          omega
  · intro σ H' Q1 Q2 hQ h
    obtain ⟨v', e, l0, h⟩ := h
    exact ⟨v', e, l0, fun el ne => by
      obtain ⟨a, b, xs, e1, e2, h1, h2, k, e3, h⟩ := h el ne
      exact ⟨a, b, xs, e1, e2, h1, h2, k, e3, hQ _ _ h⟩⟩
end
/-! ### sorted(xs), xs a list of (int, text) -/
section
variable {X : Cx}
def shIT : Nat → Bool := fun i => i == 1
def rSortIT (K : PySem.W.Frag) : List V → Hp → VK → Prop := fun vs H Q => ∃ (a : Addr) (xs : List V), vs = [V.ref a] ∧ SqL K H a xs ∧ (∀ x ∈ xs, ∃ (t : Addr) (i : Int) (k : Str), x = .ref t ∧ H t = some (.tup [.int i, .str k])) ∧
  ∀ (ys : List V) (p : Addr), ys.Perm xs → H p = none → Q (.ref p) (upd H p (.lst ys))
theorem tups_of {h : Heap} {shape : Nat → Bool} : ∀ {vs : List Value}, (∀ v ∈ vs, ∃ f, PyProof.Rows.TupOf h shape v f) → ∃ fs, PyProof.Rows.TupsOf h shape vs fs
  | [], _ => ⟨[], .nil⟩
  | v :: vs, H => by
    obtain ⟨f, hf⟩ := H v List.mem_cons_self
    obtain ⟨fs, hfs⟩ := tups_of (vs := vs) fun u hu => H u (List.mem_cons_of_mem _ hu)
    exact ⟨f :: fs, .cons hf hfs⟩
theorem cr_sortIT : CallR X (.builtin "sorted") (rSortIT X.K) := by
  intro pins s σ H vs us Q I r h
  obtain ⟨a, xs, rfl, hs, hx, q⟩ := h
  obtain ⟨its, rv, hl, hz⟩ := I.list hs
  obtain ⟨u, rfl, ru⟩ := vals1 r
  obtain rfl : u = Value.ref a := ru
  obtain ⟨e1, e2⟩ := refs_back rv fun x m => by
    obtain ⟨t, _, _, e, _⟩ := hx x m
    exact ⟨t, e⟩
  have raw : ∀ v ∈ its, ∃ (t : Addr) (o : Obj) (i : Int) (k : Str) (t1 t2 : Tok) (n : Nat), v = .ref t ∧ s.heap.get? t = some o ∧ o.cls = .type "tuple" ∧ o.data = .seq #[.int i t1, .str k t2] n := fun v hv => by
    obtain ⟨t, rfl⟩ := e2 v hv
    have hm : V.ref t ∈ xs := by rw [e1]; exact List.mem_map.mpr ⟨_, hv, rfl⟩
    obtain ⟨t', i, k, e, ht⟩ := hx _ hm
    cases e
    obtain ⟨_, its2, r2, o, ho, hc, n, hd⟩ := I.hok _ _ ht
    obtain ⟨u1, u2, rfl, ri, rj⟩ := vals2 r2
    obtain ⟨t1, rfl⟩ := ri
    obtain ⟨t2, rfl⟩ := rj
    exact ⟨t, o, i, k, t1, t2, n, rfl, ho, hc, hd⟩
  obtain ⟨fs, hfs⟩ := tups_of (h := s.heap) (shape := shIT) (vs := its) fun v hv => by
    obtain ⟨t, o, i, k, t1, t2, n, rfl, ho, hc, hd⟩ := raw v hv
    exact ⟨.int i t1, t, o, _, n, rfl, ho, hc, hd, rfl, fun _ => ⟨i, t1, rfl⟩, (fun e => absurd e (by decide))⟩
  refine PyProof.Rows.G.sorted_tups (shape := shIT) hl.isList hfs (fun v hv => ?_) (by rw [← rv.length]; exact hz) fun st' hp _ _ => ?_
  · obtain ⟨t, o, i, k, t1, t2, n, rfl, ho, hc, hd⟩ := raw v hv
    exact ⟨[Sum.inl i, Sum.inr k.cps.toList], PyProof.Rows.G.tupKeyC_of ho hc hd rfl⟩
  · generalize hout : (arrOf st').map (·.2) = out
    have hp' : out.toList.Perm its := by
      rw [← hout, Array.toList_map]
      have e := (Array.perm_iff_toList_perm.mp hp).map Prod.snd
      rw [pairsOf_toList, List.map_snd_zip (Nat.le_refl _)] at e
      exact e
    have h3 : ∀ u ∈ out.toList, ∃ a, u = Value.ref a := fun u hu => e2 u (hp'.mem_iff.mp hu)
    obtain ⟨ep, he'⟩ := PyProof.Rows.sortedAll_at s.heap its out
    have hpp : (out.toList.map backV).Perm xs := by rw [e1]; exact hp'.map backV
    have hlen : (out.toList.map backV).length ≤ sizeLine := by rw [hpp.length_eq]; exact hz
    exact ⟨.ref _, upd H (s.heap.objs.size + 1) (.lst (out.toList.map backV)), I.laid (t' := s.toks) (fun _ _ => PyProof.Rows.sortedAll_old) (Nat.le_succ _) ⟨hlen, out.toList, ep, vals_back h3, he'⟩, rfl, q _ _ hpp (I.hok.fresh (Nat.le_succ _))⟩
end
theorem B.at_snoc : ∀ (t : B) (q : List Bool) (b : Bool) {u : B}, t.at q = some u → t.at (q ++ [b]) = u.at [b]
  | t, [], b, u, h => by cases t <;> (cases h; rfl)
  | .nil, _ :: _, _, _, h => by cases h
  | .node l x r, false :: q, b, u, h => l.at_snoc q b (show l.at q = some u from h)
  | .node l x r, true :: q, b, u, h => r.at_snoc q b (show r.at q = some u from h)
def spSpot : Sp := fun vs H Q _ => ∃ (v : V) (t : B) (c : Nat), vs = [v, .str (ch c)] ∧ BAt H v t ∧ t.size ≤ 30 ∧ ∀ (p : List Bool) (H' : Hp), Same H H' → t.at p = some .nil → Q (.str (px p)) H'
def spSTree : Sp := fun vs H Q _ => ∃ (s : Addr) (n m : Nat), vs = [.ref s, .int (m : Int)] ∧ Strm H s n ∧ n ≤ 900000 ∧ m ≤ 12 ∧ ∀ (v : V) (t : B) (n' : Nat) (H' : Hp), BAt H' v t → t.size = m → t.lts → Strm H' s n' → n' ≤ n + m → But s H H' → Q v H'
theorem lts_one {c : Nat} (h : isLow c = true) : (B.node .nil c .nil).lts := B.lts_node.mpr ⟨h, B.lts_nil, B.lts_nil⟩
theorem alph_mem : ∀ c ∈ alph, isLow c = true := by decide +kernel
theorem lts_of_mem {l : List Nat} (h : ∀ c ∈ l, isLow c = true) {i c : Nat} (e : l[i]? = some c) : isLow c = true := h c (List.mem_of_getElem? e)
def stLen (σ : L2.St) : Nat := match σ[2]? with
  | some (some (V.str x)) => 200 - x.length
  | _ => 0
section
variable {P : Program} {w : World} {K : PySem.W.Frag} {mg : Str → Option Value} {base : Heap} {f : Addr} {fd : FuncData}
theorem ok_spot1 {k : Nat} (F : Fun K "_law_spot" "_law_spot" s__law_spot f fd) : FnOk P w K mg base CX0 (k + 1) f fd ["_law_tree_here", "_law_letter_here"] spSpot := by
  refine F.ok sc__law_spot (fun vs H Q E h => ?_) (fun cdv A outer s H vs Q E hr h => ?_)
  · obtain ⟨v, t, c, rfl, _⟩ := h
    rfl
  obtain ⟨v, t, c, rfl, ht, hz, q⟩ := h
  refine ⟨_, (pss_cons (ps_set (i := 2) sc__law_spot.nd rfl (.inl rfl) pe_str)
    (pss_cons (ps_while PassesOwn.never (pt_cmpR op_notN (pv 0) pe_non (nomark _))
      (pss_one (ps_asg (pe_ifExp (pt_cmpR op_lt_str (pv 1) (pe_ix ix_tup (pv 0) pe_int (fun _ _ => rfl)) (nomark _)) (pe_tup (pa_cons (pe_op op_add_str (pv 2) pe_str) (pa_cons (pe_ix ix_tup (pv 0) pe_int (fun _ _ => rfl)) pa_nil))) (pe_tup (pa_cons (pe_op op_add_str (pv 2) pe_str) (pa_cons (pe_ix ix_tup (pv 0) pe_int (fun _ _ => rfl)) pa_nil)))) (pg_tup rfl (pgs_cons (pg_name (i := 2) sc__law_spot.nd rfl (.inl rfl)) (pgs_cons (pg_name (i := 0) sc__law_spot.nd rfl (.inl rfl)) pgs_nil))))))
    (pss_one (ps_ret (pv 2))))), ?_⟩
  refine while_by (fun σ H' => ∃ (p : List Bool) (vi : V) (ti : B), σ = [some vi, some (.str (ch c)), some (.str (px p))] ∧ Same H H' ∧ BAt H' vi ti ∧ t.at p = some ti) (fun σ _ => stLen σ) ⟨[], v, t, by rw [px_nil]; rfl, Same.refl H, ht, by cases t <;> rfl⟩ (fun σ H' hp => ?_) ?_
  · obtain ⟨p, vi, ti, rfl, sm, hi, ei⟩ := hp
    have hsz := t.at_size p ei
    rcases hi.inv with ⟨rfl, rfl⟩ | ⟨b, vl, vr, x, tl, tr, rfl, rfl, eb, hl, hr'⟩
    · exact ⟨_, rfl, rfl, _, rfl, iteF ⟨_, rfl, q p H' sm ei⟩⟩
    have cl : px p ++ Str.ofString "l" = px (p ++ [false]) := by rw [str_l]; exact px_snoc p false
    have cr : px p ++ Str.ofString "r" = px (p ++ [true]) := by rw [str_r]; exact px_snoc p true
    have cl1 : (px p).length + (Str.ofString "r").length ≤ sizeLine := small (by rw [px_len, str_r, tx_len]; show _ + 1 ≤ 1000; omega)
    have cl2 : (px p).length + (Str.ofString "l").length ≤ sizeLine := small (by rw [px_len, str_l, tx_len]; show _ + 1 ≤ 1000; omega)
    have ms : ∀ (d : Bool) (y : Option V), stLen [y, some (.str (ch c)), some (.str (px (p ++ [d])))] < stLen [some (.ref b), some (.str (ch c)), some (.str (px p))] := fun b y => by
      show 200 - (px (p ++ [_])).length < 200 - (px p).length
      rw [px_len, px_len, List.length_append]
      show 200 - (p.length + 1) < _
      omega
    refine ⟨_, rfl, rfl, _, rfl, iteT ?_⟩
    refine ⟨_, rfl, _, rfl, b, _, 1, _, rfl, rfl, SqT.of eb, atI_nat (j := 1) rfl, _, _, rfl, rfl, _, rfl, ite2 (fun _ => ?_) (fun _ => ?_)⟩
    · refine ⟨_, rfl, _, _, rfl, rfl, cl2, _, rfl, b, _, 0, vl, rfl, rfl, SqT.of eb, atI_nat (j := 0) rfl, (by show 2 ≤ sizeLine; decide), fun r nr => ?_⟩
      have k2 := same_new nr (.tup [.str (px p ++ Str.ofString "l"), vl])
      refine ⟨r, _, rfl, SqT.of upd_same, rfl, _, _, rfl, _, _, rfl, rfl, ?_⟩
      refine ⟨⟨p ++ [false], vl, tl, by rw [← cl]; rfl, sm.trans k2, hl.same k2, (t.at_snoc p false ei).trans (by cases tl <;> rfl)⟩, ?_⟩
      have := ms false (some vl)
      rw [← cl] at this
      exact this
    · refine ⟨_, rfl, _, _, rfl, rfl, cl1, _, rfl, b, _, 2, vr, rfl, rfl, SqT.of eb, atI_nat (j := 2) rfl, (by show 2 ≤ sizeLine; decide), fun r nr => ?_⟩
      have k2 := same_new nr (.tup [.str (px p ++ Str.ofString "r"), vr])
      refine ⟨r, _, rfl, SqT.of upd_same, rfl, _, _, rfl, _, _, rfl, rfl, ?_⟩
      refine ⟨⟨p ++ [true], vr, tr, by rw [← cr]; rfl, sm.trans k2, hr'.same k2, (t.at_snoc p true ei).trans (by cases tr <;> rfl)⟩, ?_⟩
      have := ms true (some vr)
      rw [← cr] at this
      exact this
  · intro σ H' Q1 Q2 hQ h
    obtain ⟨v', e, h1, k, e2, h⟩ := h
    exact ⟨v', e, h1, k, e2, hQ _ _ h⟩
theorem ok_sortedTree (F : Fun K "_law_sorted_tree" "_law_sorted_tree" s__law_sorted_tree f fd) (M : Mgs mg) (D_law_take : Df P w K mg base 1 "_law_take" ["_law_stream_here", "_law_many"] spTake1) (D_law_spot : Df P w K mg base 1 "_law_spot" ["_law_tree_here", "_law_letter_here"] spSpot) (D_law_grafted : Df P w K mg base 20 "_law_grafted" ["_law_tree_here", "_law_path", "_law_part"] (spWith 20)) :
    FnOk P w K mg base CX0 21 f fd ["_law_stream_here", "_law_size"] spSTree := by
  refine F.ok (k := 20) sc__law_sorted_tree (fun vs H Q E h => ?_) (fun cdv A outer s H vs Q E hr h => ?_)
  · obtain ⟨sa, n, m, rfl, _⟩ := h
    rfl
  obtain ⟨sa, n, m, rfl, h, hn, hm, q⟩ := h
  refine ⟨_, (pss_cons (ps_par (i := 2) (j := 3) (by rfl) sc__law_sorted_tree.nd rfl rfl (by decide) rfl rfl (pa_cons pe_non (pa_cons (pe_callTy (call_signs rfl) rfl M.list (by decide +kernel) (pa_cons pe_str pa_nil)) pa_nil)) (by rfl))
    (pss_cons (ps_for PassesOwn.never rfl (pi_range1 rfl M.range (pa_cons (pv 1) pa_nil)) (pg_name (i := 4) sc__law_sorted_tree.nd rfl (.inl rfl))
      (pss_cons (ps_set (i := 5) sc__law_sorted_tree.nd rfl (.inl rfl) (pe_bm PySem.F.plainAttrs_list PySem.F.slot_list_pop PySem.F.type_list_pop mt_popAt (pv 3) (pa_cons (pe_call D_law_take.ok (hr.mono (by omega)) rfl D_law_take.g D_law_take.kp D_law_take.b .nil pass0 (pa_cons (pv 0) (pa_cons (pe_callB call_len_seq rfl M.len PySem.boot_len (pa_cons (pv 3) pa_nil)) pa_nil))) pa_nil)))
    (pss_one (ps_set (i := 2) sc__law_sorted_tree.nd rfl (.inl rfl) (pe_call D_law_grafted.ok (hr.mono (by omega)) rfl D_law_grafted.g D_law_grafted.kp D_law_grafted.b .nil pass0 (pa_cons (pv 2) (pa_cons (pe_call D_law_spot.ok (hr.mono (by omega)) rfl D_law_spot.g D_law_spot.kp D_law_spot.b .nil pass0 (pa_cons (pv 2) (pa_cons (pv 5) pa_nil))) (pa_cons (pe_tup (pa_cons pe_non (pa_cons (pv 5) (pa_cons pe_non pa_nil)))) pa_nil))))))))
    (pss_one (ps_ret (pv 2))))), ?_⟩
  refine ⟨_, rfl, by decide +kernel, fun la nla => ?_⟩
  have k1 := same_new nla (.lst (alph.map vc))
  have h1 : Strm (upd H la (.lst (alph.map vc))) sa n := h.same k1
  have e1 : (upd H la (.lst (alph.map vc))) la = some (.lst (alph.map vc)) := upd_same
  have nls : la ≠ sa := fun z => by obtain ⟨xs, e⟩ := h.lst; rw [← z, nla] at e; cases e
  refine ⟨_, _, rfl, ?_⟩
  refine ⟨_, rfl, (m : Int), rfl, by omega, by omega, ?_⟩
  refine for_range (lo := 0) (n := m) (fun i σ H' => ∃ (vi : V) (ti : B) (n' : Nat) (ls : List Nat) (y4 y5 : Option V), σ = [some (.ref sa), some (.int (m : Int)), some vi, some (.ref la), y4, y5] ∧ BAt H' vi ti ∧ ti.size = i ∧ ti.lts ∧ Strm H' sa n' ∧ n' ≤ n + i ∧ H' la = some (.lst (ls.map vc)) ∧ ls.length = 26 - i ∧ (∀ c ∈ ls, isLow c = true) ∧ But sa H H')
    ⟨.non, .nil, n, alph, none, none, rfl, .nil, rfl, B.lts_nil, h1, by omega, e1, by decide +kernel, alph_mem, But.of k1⟩ (fun i σ H2 hi hp => ?_) (fun σ H2 hp => ?_)
  · obtain ⟨vi, ti, n', ls, y4, y5, rfl, b1, z1, l1, st1, hn1, e2, hl1, al, bu⟩ := hp
    refine ⟨_, rfl, .inl ⟨rfl, _, SqL.of e2⟩, _, rfl, _, rfl, la, _, rfl, .inl (SqL.of e2), sa, n', _, rfl, st1, by omega, by rw [List.length_map]; omega, by rw [List.length_map]; omega, fun j n2 H3 lj st3 hn2 bu3 => ?_⟩
    rw [List.length_map] at lj
    have lj' : j < ls.length := by omega
    have e3 := bu3 _ _ nls e2
    obtain ⟨xs0, es0⟩ := st1.lst
    have b3 := b1.keep (But.keepL es0 bu3)
    refine ⟨la, _, (j : Int), j, vc (ls[j]'lj'), rfl, rfl, e3, by omega, by omega, by rw [PyProof.Rows.seqIndex_at (by omega) (by rw [List.length_map]; omega)]; rfl, by rw [List.getElem?_map, List.getElem?_eq_getElem lj']; rfl, ?_⟩
    have hc := al _ (List.getElem_mem lj')
    generalize ls[j]'lj' = c at hc ⊢
    have e4 : (upd H3 la (.lst ((ls.map vc).eraseIdx j))) la = some (.lst ((ls.eraseIdx j).map vc)) := by rw [upd_same, erase_map]
    have bu4 : But sa H (upd H3 la (.lst ((ls.map vc).eraseIdx j))) := fun b o hb e => by
      rw [upd_ne (ne_of_none e nla)]
      exact bu3 _ _ hb (bu _ _ hb e)
    have b4 : BAt (upd H3 la (.lst ((ls.map vc).eraseIdx j))) vi ti := b3.keep fun b xs e => by
      rw [upd_ne (ne_of e e3 (by intro z; cases z))]
      exact e
    have st4 : Strm (upd H3 la (.lst ((ls.map vc).eraseIdx j))) sa n2 := by
      obtain ⟨r, c', er, cc⟩ := st3
      exact ⟨r, c', by rw [upd_ne nls.symm]; exact er, cc⟩
    generalize upd H3 la (.lst ((ls.map vc).eraseIdx j)) = H4 at e4 bu4 b4 st4 ⊢
    refine ⟨_, rfl, _, rfl, _, rfl, vi, ti, c, rfl, b4, by omega, fun p H5 s5 hp => ?_⟩
    have hpl := ti.at_size p hp
    refine ⟨_, rfl, (by show 3 ≤ sizeLine; decide), fun r nr => ?_⟩
    have k6 := same_new nr (.tup [.non, .str (ch c), .non])
    have b6 := b4.same (s5.trans k6)
    refine ⟨vi, .ref r, ti, .node .nil c .nil, p, rfl, b6, .node upd_same .nil .nil, by omega, by omega, by rw [hp]; rfl, fun v' H7 s7 b7 => ?_⟩
    have s47 := s5.trans (k6.trans s7)
    have zz := ti.put_size p (.node .nil c .nil) hp
    refine ⟨v', _, n2, ls.eraseIdx j, _, _, rfl, b7, ?_, ti.put_lts p l1 (lts_one hc), st4.same s47, by omega, s47 _ _ e4, ?_, fun d hd => al d (List.mem_of_mem_eraseIdx hd), bu4.trans (But.of s47)⟩
    · have e0 : (B.node .nil c .nil).size = 1 := rfl
      have e1 : B.nil.size = 0 := rfl
      omega
    · rw [List.length_eraseIdx_of_lt lj']
      omega
  · obtain ⟨vi, ti, n', ls, y4, y5, rfl, b1, z1, l1, st1, hn1, e2, hl1, al, bu⟩ := hp
    exact ⟨_, rfl, q vi ti n' H2 b1 z1 l1 st1 hn1 bu⟩
end
/-! ### the drawn tree -/
theorem at_any {xs : List V} {z : Int} (h1 : -(xs.length : Int) ≤ z) (h2 : z < xs.length) : ∃ x ∈ xs, atI xs z = some x := by
  unfold atI ixN
  by_cases h : 0 ≤ z
  · rw [if_pos h, if_pos (by omega)]
    refine ⟨xs[z.toNat]'(by omega), List.getElem_mem _, ?_⟩
    exact List.getElem?_eq_getElem _
  · rw [if_neg h, if_pos (by omega)]
    refine ⟨xs[(z + xs.length).toNat]'(by omega), List.getElem_mem _, ?_⟩
    exact List.getElem?_eq_getElem _
def spTreeL : Sp := fun vs H Q _ => ∃ (s : Addr) (n m : Nat), vs = [.ref s, .int (m : Int)] ∧ Strm H s n ∧ n ≤ 800000 ∧ 0 < m ∧ m ≤ 12 ∧ ∀ (v : V) (t : B) (n' : Nat) (H' : Hp), BAt H' v t → 1 ≤ t.size → t.size ≤ m → t.lts → Strm H' s n' → n' ≤ n + 200 → But s H H' → Q v H'
def OpAt (H : Hp) (t : B) (x : V) : Prop := ∃ (a : Addr) (q : List Bool), x = .ref a ∧ t.at q = some .nil ∧ H a = some (.tup [.int (q.length : Int), .str (px q)])
theorem OpAt.keep {H H' : Hp} (k : KeepT H H') {t : B} {x : V} (h : OpAt H t x) : OpAt H' t x := by
  obtain ⟨a, q, e, h1, h2⟩ := h
  exact ⟨a, q, e, h1, k _ _ h2⟩
section
variable {P : Program} {w : World} {K : PySem.W.Frag} {mg : Str → Option Value} {base : Heap} {f : Addr} {fd : FuncData}
theorem ok_treeL (F : Fun K "_law_tree" "_law_tree" s__law_tree f fd) (M : Mgs mg) (D_law_take : Df P w K mg base 1 "_law_take" ["_law_stream_here", "_law_many"] spTake1) (D_law_letter : Df P w K mg base 2 "_law_letter" ["_law_stream_here"] spLetter1) (D_law_sorted_tree : Df P w K mg base 21 "_law_sorted_tree" ["_law_stream_here", "_law_size"] spSTree) (D_law_paths : Df P w K mg base 1 "_law_paths" ["_law_tree_here"] spPaths) (D_law_grafted : Df P w K mg base 20 "_law_grafted" ["_law_tree_here", "_law_path", "_law_part"] (spWith 20)) :
    FnOk P w K mg base CX0 22 f fd ["_law_stream_here", "_law_top"] spTreeL := by
  refine F.ok (k := 21) sc__law_tree (fun vs H Q E h => ?_) (fun cdv A outer s H vs Q E hr h => ?_)
  · obtain ⟨sa, n, m, rfl, _⟩ := h
    rfl
  obtain ⟨sa, n, m, rfl, h, hn, m0, m1, q⟩ := h
  refine ⟨_, (pss_cons (ps_par3 (i := 2) (j := 3) (l := 4) (by rfl) sc__law_tree.nd rfl rfl rfl (by decide) (by decide) (by decide) rfl rfl rfl (pa_cons (pe_op op_add pe_int (pe_call D_law_take.ok (hr.mono (by omega)) rfl D_law_take.g D_law_take.kp D_law_take.b .nil pass0 (pa_cons (pv 0) (pa_cons (pv 1) pa_nil)))) (pa_cons (pe_call D_law_take.ok (hr.mono (by omega)) rfl D_law_take.g D_law_take.kp D_law_take.b .nil pass0 (pa_cons (pv 0) (pa_cons pe_int pa_nil))) (pa_cons pe_non pa_nil))) (by rfl))
    (pss_cons (ps_if (pt_cmpR op_eq (pv 3) pe_int (nomark _))
      (pss_one (ps_ret (pe_call D_law_sorted_tree.ok (hr.mono (by omega)) rfl D_law_sorted_tree.g D_law_sorted_tree.kp D_law_sorted_tree.b .nil pass0 (pa_cons (pv 0) (pa_cons (pv 2) pa_nil))))) pss_nil)
    (pss_cons (ps_for PassesOwn.never rfl (pi_range1 rfl M.range (pa_cons (pv 2) pa_nil)) (pg_name (i := 5) sc__law_tree.nd rfl (.inl rfl))
      (pss_cons (ps_set (i := 7) sc__law_tree.nd rfl (.inl rfl) (pe_callB cr_sortIT rfl M.sorted (by decide +kernel) (pa_cons (pe_lc (own := [("_law_path", 6)]) (g := gName 6) (tt := tYes) rfl sc__law_tree.nd (pi_list (pe_ix ix_tup (pe_call D_law_paths.ok (hr.mono (by omega)) rfl D_law_paths.g D_law_paths.kp D_law_paths.b .nil pass0 (pa_cons (pv 4) pa_nil)) pe_int (fun _ _ => rfl))) (blkOk_by (N := ["_law_stream_here", "_law_top", "_law_size", "_law_way", "_law_tree_here", "_law_k", "_law_path", "_law_opens", "_law_spot_here"]) (sc := defScope s__law_tree) (by decide +kernel)) (fun _ _ _ _ _ => (pg_name (i := 6) sc__law_tree.nd rfl (.inl rfl))) (fun _ _ _ _ _ => pts_nil) (fun _ _ _ _ _ => (pe_tup (pa_cons (pe_callB call_len_str rfl M.len PySem.boot_len (pa_cons (pv 6) pa_nil)) (pa_cons (pv 6) pa_nil))))) pa_nil)))
    (pss_cons (ps_set (i := 8) sc__law_tree.nd rfl (.inl rfl) (pe_ix ix_list (pe_lst (pa_cons (pe_call D_law_take.ok (hr.mono (by omega)) rfl D_law_take.g D_law_take.kp D_law_take.b .nil pass0 (pa_cons (pv 0) (pa_cons (pe_callB call_len_seq rfl M.len PySem.boot_len (pa_cons (pv 7) pa_nil)) pa_nil))) (pa_cons pe_int (pa_cons (pe_un un_neg pe_int) (pa_cons (pe_op op_sub (pe_un un_neg pe_int) (pe_call D_law_take.ok (hr.mono (by omega)) rfl D_law_take.g D_law_take.kp D_law_take.b .nil pass0 (pa_cons (pv 0) (pa_cons (pe_callB (call_min2 rfl) rfl M.min (by decide +kernel) (pa_cons pe_int (pa_cons (pe_callB call_len_seq rfl M.len PySem.boot_len (pa_cons (pv 7) pa_nil)) pa_nil))) pa_nil)))) pa_nil))))) (pv 3) (fun _ _ => rfl)))
    (pss_one (ps_set (i := 4) sc__law_tree.nd rfl (.inl rfl) (pe_call D_law_grafted.ok (hr.mono (by omega)) rfl D_law_grafted.g D_law_grafted.kp D_law_grafted.b .nil pass0 (pa_cons (pv 4) (pa_cons (pe_ix ix_tup (pe_ix ix_list (pv 7) (pv 8) (fun _ _ => rfl)) pe_int (fun _ _ => rfl)) (pa_cons (pe_tup (pa_cons pe_non (pa_cons (pe_call D_law_letter.ok (hr.mono (by omega)) rfl D_law_letter.g D_law_letter.kp D_law_letter.b .nil pass0 (pa_cons (pv 0) pa_nil)) (pa_cons pe_non pa_nil)))) pa_nil)))))))))
    (pss_one (ps_ret (pv 4)))))), ?_⟩
  refine ⟨_, rfl, _, rfl, sa, n, (m : Int), rfl, h, by omega, by omega, by omega, fun j n1 H1 l1 st1 hn1 bu1 => ?_⟩
  refine ⟨_, _, rfl, rfl, _, rfl, sa, n1, 5, rfl, st1, by omega, by decide, by decide, fun wy n2 H2 l2 st2 hn2 bu2 => ?_⟩
  have bu2 := bu1.trans bu2
  refine ⟨_, _, _, rfl, ?_⟩
  have hw : wy < 5 := by omega
  have hj : j < m := by omega
  refine ⟨_, rfl, rfl, _, rfl, ?_⟩
  by_cases h4 : wy = 4
  · subst h4
    refine iteT ⟨_, rfl, _, rfl, sa, n2, 1 + j, by rw [Int.natCast_add]; rfl, st2, by omega, by omega, fun v t n' H' b z l st hn' bu => ?_⟩
    exact q v t n' H' b (by omega) (by omega) l st (by omega) (bu2.trans bu)
  have e4 : decide (V.int (wy : Int) = V.int 4) = false := decide_eq_false fun z => h4 (by have := V.int.inj z; omega)
  rw [e4]
  refine iteF ?_
  refine ⟨_, rfl, (1 + (j : Int)), rfl, by omega, by omega, ?_⟩
  have es : (1 + (j : Int)) = ((1 + j : Nat) : Int) := by omega
  rw [es]
  refine for_range (lo := 0) (n := 1 + j) (fun i σ H' => ∃ (vi : V) (ti : B) (n' : Nat) (y5 y6 y7 y8 : Option V), σ = [some (.ref sa), some (.int (m : Int)), some (.int (1 + (j : Int))), some (.int (wy : Int)), some vi, y5, y6, y7, y8] ∧ BAt H' vi ti ∧ ti.size = i ∧ ti.lts ∧ Strm H' sa n' ∧ n' ≤ n2 + 4 * i ∧ But sa H2 H')
    ⟨.non, .nil, n2, none, none, none, none, rfl, .nil, rfl, B.lts_nil, st2, by omega, But.refl _ _⟩ (fun i' σ H3 hi hp => ?_) (fun σ H3 hp => ?_)
  · obtain ⟨vi, ti, n', y5, y6, y7, y8, rfl, b3, z3, l3, st3, hn3, bu3⟩ := hp
    refine ⟨_, rfl, vi, ti, rfl, b3, by omega, fun p A B' H4 s4 np nA nB ep eA eB => ?_⟩
    refine ⟨p, _, 1, _, rfl, rfl, SqT.of ep, atI_nat (j := 1) rfl, ?_⟩
    refine ⟨B', rfl, ⟨_, SqL.of eB⟩, fun D nD => ?_⟩
    have k5 := same_new nD (.lst [])
    refine lc_list (K := K) (a := B') (xs := (ti.ops []).map fun p => V.str (px p)) (fun i H' => Same H4 H' ∧ ∃ us, H' D = some (.lst us) ∧ us.length = i ∧ ∀ x ∈ us, OpAt H' ti x) ⟨k5, [], upd_same, rfl, fun x hx => nomatch hx⟩ (fun i H' _ hp => SqL.of (hp.1 _ _ eB)) (fun i x H' hx hp => ?_) (fun H' hp => ?_)
    · obtain ⟨sm, us, eu, lu, hu⟩ := hp
      obtain ⟨qq, hq, rfl⟩ : ∃ qq, (ti.ops [])[i]? = some qq ∧ V.str (px qq) = x := by
        rw [List.getElem?_map] at hx
        cases e : (ti.ops [])[i]? with
        | none => rw [e] at hx; cases hx
        | some qq => rw [e] at hx; exact ⟨qq, rfl, Option.some.inj hx⟩
      have hat := B.ops_at.mp (List.mem_of_getElem? hq)
      have hql := ti.at_size qq hat
      have hil := (List.getElem?_eq_some_iff.mp hq).1
      rw [B.ops_len] at hil
      refine ⟨rfl, kept ?_⟩
      refine ⟨_, rfl, px qq, rfl, small (by rw [px_len]; omega), _, rfl, (by show 2 ≤ sizeLine; decide), fun r nr => ?_⟩
      have k6 := same_new nr (.tup [.int ((px qq).length : Int), .str (px qq)])
      have ner : D ≠ r := fun z => by rw [← z, eu] at nr; cases nr
      have eu' := k6 _ _ eu
      have kt : KeepT H' (upd (upd H' r (.tup [.int ((px qq).length : Int), .str (px qq)])) D (.lst (us ++ [.ref r]))) := fun b xs z => by
        rw [upd_ne (ne_of (k6 _ _ z) eu' (by intro z; cases z))]
        exact k6 _ _ z
      refine ⟨us, eu', small1000 (by omega), fun b o z => ?_, us ++ [.ref r], upd_same, by rw [List.length_append, lu]; rfl, fun x hx => ?_⟩
      · rw [upd_ne (ne_of_none z nD)]
        exact k6 _ _ (sm _ _ z)
      · rcases List.mem_append.mp hx with hx | hx
        · exact (hu x hx).keep kt
        · rw [List.mem_singleton.mp hx]
          refine ⟨r, qq, rfl, hat, ?_⟩
          rw [upd_ne ner.symm, upd_same, px_len]
    · obtain ⟨sm, us, eu, lu, hu⟩ := hp
      refine ⟨D, us, rfl, SqL.of eu, fun x hx => ?_, fun ys so pm nso => ?_⟩
      · obtain ⟨a, qq, e, _, h⟩ := hu x hx
        exact ⟨a, _, _, e, h⟩
      have k7 := same_new nso (.lst ys)
      have eso := upd_same (H := H') (a := so) (o := .lst ys)
      have s37 := s4.trans (sm.trans k7)
      have hys : ∀ x ∈ ys, OpAt (upd H' so (.lst ys)) ti x := fun x hx => (hu x (pm.mem_iff.mp hx)).keep (Tw.Same.keepT k7)
      have lys : ys.length = i' + 1 := by rw [pm.length_eq, lu, List.length_map, B.ops_len, z3]
      have st7 := st3.same s37
      have b7 := b3.same s37
      have neS : so ≠ sa := fun z => by obtain ⟨xs, e⟩ := st3.lst; rw [z, (s4.trans sm) _ _ e] at nso; cases nso
      generalize upd H' so (.lst ys) = H7 at s37 eso hys st7 b7 ⊢
      refine ⟨_, rfl, _, rfl, so, _, rfl, .inl (SqL.of eso), sa, n', _, rfl, st7, by omega, by omega, by omega, fun j1 n8 H8 l8 st8 hn8 bu8 => ?_⟩
      have eso8 := bu8 _ _ neS eso
      refine ⟨_, rfl, _, rfl, _, rfl, _, rfl, so, _, rfl, .inl (SqL.of eso8), 2, _, rfl, ?_⟩
      have mn : ∃ mm : Int, (if (ys.length : Int) < 2 then (ys.length : Int) else 2) = mm ∧ 0 < mm ∧ mm ≤ 2 ∧ mm ≤ ys.length := by
        by_cases hc : (ys.length : Int) < 2
        · exact ⟨_, if_pos hc, by omega, by omega, by omega⟩
        · exact ⟨_, if_neg hc, by omega, by omega, by omega⟩
      obtain ⟨mm, emm, mm0, mm2, mml⟩ := mn
      rw [emm]
      refine ⟨sa, n8, mm, rfl, st8, by omega, mm0, by omega, fun j2 n9 H9 l9 st9 hn9 bu9 => ?_⟩
      refine ⟨_, _, rfl, rfl, (by show 4 ≤ sizeLine; decide), fun L nL => ?_⟩
      have kA := same_new nL (.lst [.int (j1 : Int), .int 0, .int (-1), .int (-1 - (j2 : Int))])
      have eL := upd_same (H := H9) (a := L) (o := .lst [.int (j1 : Int), .int 0, .int (-1), .int (-1 - (j2 : Int))])
      have esoA := kA _ _ (bu9 _ _ neS eso8)
      have buA := bu8.trans (bu9.trans (But.of kA))
      have stA := st9.same kA
      obtain ⟨xs7, es7⟩ := st7.lst
      have ktA : KeepT H7 (upd H9 L (.lst [.int (j1 : Int), .int 0, .int (-1), .int (-1 - (j2 : Int))])) := But.keepL es7 buA
      have bA := b7.keep ktA
      have hysA : ∀ x ∈ ys, OpAt (upd H9 L (.lst [.int (j1 : Int), .int 0, .int (-1), .int (-1 - (j2 : Int))])) ti x := fun x hx => (hys x hx).keep ktA
      generalize upd H9 L (.lst [.int (j1 : Int), .int 0, .int (-1), .int (-1 - (j2 : Int))]) = HA at eL esoA buA stA bA hysA ⊢
      have hv : ∃ z : Int, atI [V.int (j1 : Int), .int 0, .int (-1), .int (-1 - (j2 : Int))] (wy : Int) = some (.int z) ∧ -(ys.length : Int) ≤ z ∧ z < ys.length := by
        match wy, hw, h4 with
        | 0, _, _ => exact ⟨j1, rfl, by omega, by omega⟩
        | 1, _, _ => exact ⟨0, rfl, by omega, by omega⟩
        | 2, _, _ => exact ⟨-1, rfl, by omega, by omega⟩
        | 3, _, _ => exact ⟨-1 - (j2 : Int), rfl, by omega, by omega⟩
        | 4, _, h => exact absurd rfl h
      obtain ⟨z, hz, z1, z2⟩ := hv
      refine ⟨_, rfl, L, _, _, _, rfl, rfl, SqL.of eL, hz, ?_⟩
      obtain ⟨x, hx, ex⟩ := at_any z1 z2
      obtain ⟨ta, qq, rfl, hat, eta⟩ := hysA x hx
      have hql := ti.at_size qq hat
      refine ⟨_, rfl, _, rfl, _, rfl, so, _, z, _, rfl, rfl, SqL.of esoA, ex, ta, _, 1, _, rfl, rfl, SqT.of eta, atI_nat (j := 1) rfl, _, rfl, sa, n9, rfl, stA, by omega, fun c nB HB hlow stB hnB buB => ?_⟩
      refine ⟨(by show 3 ≤ sizeLine; decide), fun r nr => ?_⟩
      have kC := same_new nr (.tup [.non, .str (ch c), .non])
      obtain ⟨xsA, esA⟩ := stA.lst
      have bC := (bA.keep (But.keepL esA buB)).same kC
      refine ⟨vi, .ref r, ti, .node .nil c .nil, qq, rfl, bC, .node upd_same .nil .nil, by omega, by omega, by rw [hat]; rfl, fun v' HD sD bD => ?_⟩
      have zz := ti.put_size qq (.node .nil c .nil) hat
      have e0 : (B.node .nil c .nil).size = 1 := rfl
      have e1 : B.nil.size = 0 := rfl
      exact ⟨v', _, nB, _, _, _, _, rfl, bD, by omega, ti.put_lts qq l3 (lts_one hlow), (stB.same kC).same sD, by omega, bu3.trans ((But.of s37).trans (buA.trans (buB.trans ((But.of kC).trans (But.of sD)))))⟩
  · obtain ⟨vi, ti, n', y5, y6, y7, y8, rfl, b1, z1, l1, st1', hn1', bu⟩ := hp
    exact ⟨_, rfl, q vi ti n' H3 b1 (by omega) (by omega) l1 st1' (by omega) (bu2.trans bu)⟩
end
/-! ### what is due -/
theorem flat_px (L : List (List Bool)) : (L.map fun p => V.str (px p)).all flatV = true := by
  rw [List.all_eq_true]
  intro x hx
  obtain ⟨k, _, rfl⟩ := List.mem_map.mp hx
  rfl
theorem inV_px (p : List Bool) (L : List (List Bool)) : inV (V.str (px p)) (L.map fun p => V.str (px p)) = decide (p ∈ L) := by
  unfold inV
  by_cases h : p ∈ L
  · rw [decide_eq_true h, List.any_eq_true]
    exact ⟨V.str (px p), List.mem_map.mpr ⟨p, h, rfl⟩, by show eqV (.str _) (.str _) = true; simp [eqV]⟩
  · rw [decide_eq_false h, Bool.eq_false_iff]
    intro e
    obtain ⟨y, hy, e⟩ := List.any_eq_true.mp e
    obtain ⟨k, hk, rfl⟩ := List.mem_map.mp hy
    have e : eqV (.str (px k)) (.str (px p)) = true := e
    simp only [eqV, beq_iff_eq] at e
    exact h (px_inj e ▸ hk)
theorem Does.same {t t' u : B} {e : Ed} (h : Does t e t') (g : Does t e u) : u = t' := by
  cases h with
  | put h1 _ _ => cases g; rfl
  | cut h1 _ _ => cases g; rfl
  | label h1 _ =>
    cases g with
    | label g1 _ => rw [h1] at g1; cases g1; rfl
  | turn h1 _ =>
    cases g with
    | turn g1 _ => rw [h1] at g1; cases g1; rfl
/-- an edit as the law draws it -/
def Drawn (t : B) : Ed → Prop
  | .put p c => t.at p = some .nil ∧ isLow c = true
  | .cut p => ∃ u, t.at p = some u ∧ u ≠ .nil
  | .label p c => (∃ u, t.at p = some u ∧ u ≠ .nil) ∧ isLow c = true
  | .turn p => ∃ u, t.at p = some u ∧ u ≠ .nil
theorem w1 : Str.ofString "cut" ≠ Str.ofString "put" := by decide +kernel
theorem w2 : Str.ofString "label" ≠ Str.ofString "put" := by decide +kernel
theorem w3 : Str.ofString "turn" ≠ Str.ofString "put" := by decide +kernel
theorem w4 : Str.ofString "label" ≠ Str.ofString "cut" := by decide +kernel
theorem w5 : Str.ofString "turn" ≠ Str.ofString "cut" := by decide +kernel
theorem w6 : Str.ofString "label" ≠ Str.ofString "turn" := by decide +kernel
theorem w7 : Str.ofString "TooLarge" ≠ Str.ofString "state" := by decide +kernel
theorem w8 : Str.ofString "LastNode" ≠ Str.ofString "state" := by decide +kernel
theorem w9 : Str.ofString "turn" ≠ Str.ofString "label" := by decide +kernel
/-! ### an edit done, an edit drawn -/
def spSome : Sp := fun vs H Q _ => ∃ (s : Addr) (n : Nat) (v : V) (t : B), vs = [.ref s, v, .int 13] ∧ Strm H s n ∧ n ≤ 900000 ∧ BAt H v t ∧ 1 ≤ t.size ∧ t.size ≤ 12 ∧ ∀ (q : Addr) (e : Ed) (n' : Nat) (H' : Hp), H' q = some (.tup e.vals) → Drawn t e → Strm H' s n' → n' ≤ n + 10 → But s H H' → Q (.ref q) H'
theorem okN {P : Program} {w : World} {K : PySem.W.Frag} {mg : Str → Option Value} {base : Heap} {x qual : Str} {params : Arguments} {body : List Stmt} {scope : Scope} {dvs : List V} {kws : List (Str × V)} {f : Addr} {fd : FuncData} {N ps : List Str} {k : Nat} {sp : Sp} (F : FunD K x qual params body scope dvs kws f fd) (S : FnScope N ps scope) (len : ∀ vs H Q E, sp vs H Q E → vs.length = ps.length)
    (hbody : ∀ (cdv : Value) (A : Around) (outer : List Env) (s : Shared) (H : Hp) (vs : List V) (Q : VK) (E : XK), Room k (A.deeper (envOfC qual scope s.heap.objs.size f cdv)) → sp vs H Q E →
      ∃ t, PSs (cxOf CX0 P w K mg base N qual scope f cdv A outer s H E).nox body t ∧ t { nx := fun _ H' => Q .non H', rt := Q } (start N vs) H) : FnOk P w K mg base CX0 (k + 1) f fd ps sp :=
  F.ok (CX := CX0) S len fun cdv A outer s H vs Q E hr h => by
    obtain ⟨t, h1, h2⟩ := hbody cdv A outer s H vs Q E hr h
    exact ⟨t, h1.nox, h2⟩
section
variable {P : Program} {w : World} {K : PySem.W.Frag} {mg : Str → Option Value} {base : Heap} {f : Addr} {fd : FuncData} {C : Addr}
theorem ok_some (F : FunD K "_law_some_edit" "_law_some_edit" (defArgs s__law_some_edit) (defBody s__law_some_edit) (defScope s__law_some_edit) [.int 13] [] f fd) (M : Mgs mg) (D_law_take : Df P w K mg base 1 "_law_take" ["_law_stream_here", "_law_many"] spTake1) (D_law_letter : Df P w K mg base 2 "_law_letter" ["_law_stream_here"] spLetter1) (D_law_paths : Df P w K mg base 1 "_law_paths" ["_law_tree_here"] spPaths) :
    FnOk P w K mg base CX0 3 f fd ["_law_stream_here", "_law_tree_here", "_law_top"] spSome := by
  refine okN F (k := 2) sc__law_some_edit (fun vs H Q E h => ?_) (fun cdv A outer s H vs Q E hr h => ?_)
  · obtain ⟨sa, n, v, t, rfl, _⟩ := h
    rfl
  obtain ⟨sa, n, v, t, rfl, st, hn, ht, z0, z1, q⟩ := h
  refine ⟨_, (pss_cons (ps_asg (pe_tup (pa_cons (pe_call D_law_paths.ok (hr.mono (by omega)) rfl D_law_paths.g D_law_paths.kp D_law_paths.b .nil pass0 (pa_cons (pv 1) pa_nil)) (pa_cons (pe_call D_law_take.ok (hr.mono (by omega)) rfl D_law_take.g D_law_take.kp D_law_take.b .nil pass0 (pa_cons (pv 0) (pa_cons pe_int pa_nil))) pa_nil))) (pg_tup rfl (pgs_cons (pg_tup rfl (pgs_cons (pg_name (i := 3) sc__law_some_edit.nd rfl (.inl rfl)) (pgs_cons (pg_name (i := 4) sc__law_some_edit.nd rfl (.inl rfl)) pgs_nil))) (pgs_cons (pg_name (i := 5) sc__law_some_edit.nd rfl (.inl rfl)) pgs_nil))))
    (pss_cons (ps_par (i := 6) (j := 7) (by rfl) sc__law_some_edit.nd rfl rfl (by decide) rfl rfl (pa_cons (pe_ix ix_list (pv 3) (pe_call D_law_take.ok (hr.mono (by omega)) rfl D_law_take.g D_law_take.kp D_law_take.b .nil pass0 (pa_cons (pv 0) (pa_cons (pe_callB call_len_seq rfl M.len PySem.boot_len (pa_cons (pv 3) pa_nil)) pa_nil))) (fun _ _ => rfl)) (pa_cons (pe_call D_law_letter.ok (hr.mono (by omega)) rfl D_law_letter.g D_law_letter.kp D_law_letter.b .nil pass0 (pa_cons (pv 0) pa_nil)) pa_nil)) (by rfl))
    (pss_cons (ps_if (PW.pt (pw_and (pt_cmpR op_lt (pv 5) pe_int (nomark _)) (pw_and1 (pt_cmpR op_lt (pe_callB call_len_seq rfl M.len PySem.boot_len (pa_cons (pv 3) pa_nil)) (pv 2) (nomark _)))))
      (pss_one (ps_ret (pe_tup (pa_cons pe_str (pa_cons (pe_ix ix_list (pv 4) (pe_call D_law_take.ok (hr.mono (by omega)) rfl D_law_take.g D_law_take.kp D_law_take.b .nil pass0 (pa_cons (pv 0) (pa_cons (pe_callB call_len_seq rfl M.len PySem.boot_len (pa_cons (pv 4) pa_nil)) pa_nil))) (fun _ _ => rfl)) (pa_cons (pv 7) pa_nil)))))) pss_nil)
    (pss_cons (ps_if (pt_cmpR op_eq (pv 5) pe_int (nomark _))
      (pss_one (ps_ret (pe_tup (pa_cons pe_str (pa_cons (pv 6) pa_nil))))) pss_nil)
    (pss_one (ps_ret (pe_ifExp (pt_cmpR op_lt (pv 5) pe_int (nomark _)) (pe_tup (pa_cons pe_str (pa_cons (pv 6) (pa_cons (pv 7) pa_nil)))) (pe_tup (pa_cons pe_str (pa_cons (pv 6) pa_nil)))))))))), ?_⟩
  refine ⟨_, rfl, v, t, rfl, ht, z1, fun pa A B' H1 s1 np nA nB ep eA eB => ?_⟩
  have st1 := st.same s1
  refine ⟨_, rfl, sa, n, 8, rfl, st1, by omega, by decide, by decide, fun wy n2 H2 l2 st2 hn2 bu2 => ⟨(by show 2 ≤ sizeLine; decide), fun tp ntp => ?_⟩⟩
  obtain ⟨xs0, es0⟩ := st.lst
  have ne : ∀ {x : Addr}, H x = none → x ≠ sa := fun e z => by rw [z, es0] at e; cases e
  have k3 := same_new ntp (.tup [.ref pa, .int (wy : Int)])
  have et := upd_same (H := H2) (a := tp) (o := .tup [.ref pa, .int (wy : Int)])
  have ep3 := k3 _ _ (bu2 _ _ (ne np) ep)
  have eA3 := k3 _ _ (bu2 _ _ (ne nA) eA)
  have eB3 := k3 _ _ (bu2 _ _ (ne nB) eB)
  have st3 := st2.same k3
  have bu3 : But sa H _ := (But.of s1).trans (bu2.trans (But.of k3))
  generalize upd H2 tp (.tup [.ref pa, .int (wy : Int)]) = H3 at et ep3 eA3 eB3 st3 bu3 ⊢
  refine ⟨tp, _, rfl, SqT.of et, rfl, _, _, rfl, pa, _, rfl, SqT.of ep3, rfl, _, _, rfl, _, _, rfl, rfl, _, _, rfl, rfl, ?_⟩
  refine ⟨_, rfl, _, rfl, _, rfl, A, _, rfl, .inl (SqL.of eA3), sa, n2, _, rfl, st3, by omega, by rw [List.length_map, B.nds_len]; omega, by rw [List.length_map, B.nds_len]; omega, fun j n4 H4 l4 st4 hn4 bu4 => ?_⟩
  rw [List.length_map, B.nds_len] at l4
  have hj : j < (t.nds []).length := by rw [B.nds_len]; omega
  have eA4 := bu4 _ _ (ne nA) eA3
  have eB4 := bu4 _ _ (ne nB) eB3
  refine ⟨A, _, _, V.str (px ((t.nds [])[j]'hj)), rfl, rfl, SqL.of eA4, atI_nat (by rw [List.getElem?_map, List.getElem?_eq_getElem hj]; rfl), ?_⟩
  have hnode := B.nds_at.mp (List.getElem_mem hj)
  generalize (t.nds [])[j]'hj = p at hnode ⊢
  refine ⟨_, rfl, sa, n4, rfl, st4, by omega, fun c n5 H5 hc st5 hn5 bu5 => ⟨_, _, rfl, ?_⟩⟩
  have eA5 := bu5 _ _ (ne nA) eA4
  have eB5 := bu5 _ _ (ne nB) eB4
  have bu := bu3.trans (bu4.trans bu5)
  have fin : ∀ (e : Ed) (r : Addr), H5 r = none → Drawn t e → Q (.ref r) (upd H5 r (.tup e.vals)) := fun e r nr d => q r e n5 _ upd_same d (st5.same (same_new nr _)) (by omega) (bu.trans (But.of (same_new nr _)))
  refine ⟨_, rfl, _, _, rfl, rfl, _, rfl, ite2 (fun _ => ?_) (fun _ => ?_)⟩
  · refine ⟨_, rfl, A, _, rfl, .inl (SqL.of eA5), _, rfl, _, _, rfl, rfl, _, rfl, ?_⟩
    rw [List.length_map, B.nds_len, decide_eq_true (show ((t.size : Int) < 13) by omega)]
    refine iteT ⟨_, rfl, _, rfl, _, rfl, B', _, rfl, .inl (SqL.of eB5), sa, n5, _, rfl, st5, by omega, by rw [List.length_map, B.ops_len]; omega, by rw [List.length_map, B.ops_len]; omega, fun i n6 H6 l6 st6 hn6 bu6 => ?_⟩
    rw [List.length_map, B.ops_len] at l6
    have hi : i < (t.ops []).length := by rw [B.ops_len]; omega
    have eB6 := bu6 _ _ (ne nB) eB5
    refine ⟨B', _, _, V.str (px ((t.ops [])[i]'hi)), rfl, rfl, SqL.of eB6, atI_nat (by rw [List.getElem?_map, List.getElem?_eq_getElem hi]; rfl), ?_⟩
    have hop := B.ops_at.mp (List.getElem_mem hi)
    generalize (t.ops [])[i]'hi = p2 at hop ⊢
    refine ⟨_, rfl, (by show 3 ≤ sizeLine; decide), fun r nr => ?_⟩
    exact q r (.put p2 c) n6 _ upd_same ⟨hop, hc⟩ (st6.same (same_new nr _)) (by omega) (bu.trans (bu6.trans (But.of (same_new nr _))))
  · refine ⟨_, rfl, rfl, _, rfl, ite2 (fun _ => ?_) (fun _ => ?_)⟩
    · exact ⟨_, rfl, (by show 2 ≤ sizeLine; decide), fun r nr => fin (.cut p) r nr hnode⟩
    · refine ⟨_, rfl, _, _, rfl, rfl, _, rfl, ite2 (fun _ => ?_) (fun _ => ?_)⟩
      · exact ⟨_, rfl, _, rfl, (by show 3 ≤ sizeLine; decide), fun r nr => fin (.label p c) r nr ⟨hnode, hc⟩⟩
      · exact ⟨_, rfl, (by show 2 ≤ sizeLine; decide), fun r nr => fin (.turn p) r nr hnode⟩
end
/-! ### an edit asked of a desk -/
def Out.isE : Out → Prop
  | .st _ => False
  | _ => True
/-- its dict -/
def Out.told : Out → List V
  | .noPath v => [.str "NoPath", v]
  | .notOpen v => [.str "NotOpen", v]
  | .noLabel v => [.str "NoLabel", v]
  | .large => [.str "TooLarge", .int 12]
  | .last => [.str "LastNode"]
  | .st _ => []
def spOneOf (K : PySem.W.Frag) : Sp := fun vs H Q _ => ∃ (l t : Addr), vs = [.ref l] ∧ H l = some (.lst [.ref t]) ∧ ∀ H', Same H H' → Q (.ref t) H'
structure ErrW (K : PySem.W.Frag) (mg : Str → Option Value) (c : DE) (cW : Addr) : Prop where
  NP : mg "NoPath" = some (.ref c.NP)
  gW : mg "WalkError" = some (.ref cW)
  eNP : PySem.W.exmAny K (.ref c.NP) [.ref cW, .ref c.NP] = some true
  eNO : PySem.W.exmAny K (.ref c.NO) [.ref cW, .ref c.NP] = some true
  eNL : PySem.W.exmAny K (.ref c.NL) [.ref cW, .ref c.NP] = some true
  eTL : PySem.W.exmAny K (.ref c.TL) [.ref cW, .ref c.NP] = some true
  eLN : PySem.W.exmAny K (.ref c.LN) [.ref cW, .ref c.NP] = some true
section
variable {P : Program} {w : World} {K : PySem.W.Frag} {mg : Str → Option Value} {base : Heap} {f : Addr} {fd : FuncData} {C cW : Addr} {c : DE}
theorem ok_doX (F : Fun K "_law_do" "_law_do" s__law_do f fd) (TD : DeskC K mg C) (Dput : MDfX P w K mg base C 26 "put" ["self", "path", "label"] (spDoX C c egPut)) (Dcut : MDfX P w K mg base C 26 "cut" ["self", "path"] (spDoX C c egCut)) (Dlabel : MDfX P w K mg base C 26 "label" ["self", "path", "label"] (spDoX C c egLab)) (Dturn : MDfX P w K mg base C 26 "turn" ["self", "path"] (spDoX C c egTur)) :
    FnOk P w K mg base (L2.CX P w) 27 f fd ["_law_desk", "_law_edit"] (spCalledX C c) := by
  refine F.okX (k := 26) sc__law_do (fun vs H Q E h => ?_) (fun cdv A outer s H vs Q E hr h => ?_)
  · obtain ⟨a, q, ts, t, es, D, e, r, rfl, _⟩ := h
    rfl
  obtain ⟨a, qe, ts, t, es, D, e, r, rfl, dk, he, hat, hg, hd, h60, hts, hz, x, q⟩ := h
  obtain ⟨dx, ta, td, vs, u, ds, h1, _⟩ := id dk
  refine ⟨_, (pss_cons (ps_if (pt_cmpR op_eq (pe_ix ix_tup (pv 1) pe_int (fun _ _ => rfl)) pe_str (nomark _))
      (pss_one (ps_ret (pe_methX (pv 0) TD.cl Dput.at_ Dput.ok (hr.mono (by omega)) Dput.b (fun σ => passAt (takes_of rfl rfl rfl rfl) σ) (pa_cons (pe_ix ix_tup (pv 1) pe_int (fun _ _ => rfl)) (pa_cons (pe_ix ix_tup (pv 1) pe_int (fun _ _ => rfl)) pa_nil))))) pss_nil)
    (pss_cons (ps_if (pt_cmpR op_eq (pe_ix ix_tup (pv 1) pe_int (fun _ _ => rfl)) pe_str (nomark _))
      (pss_one (ps_ret (pe_methX (pv 0) TD.cl Dcut.at_ Dcut.ok (hr.mono (by omega)) Dcut.b (fun σ => passAt (takes_of rfl rfl rfl rfl) σ) (pa_cons (pe_ix ix_tup (pv 1) pe_int (fun _ _ => rfl)) pa_nil)))) pss_nil)
    (pss_one (ps_ret (pe_ifExp (pt_cmpR op_eq (pe_ix ix_tup (pv 1) pe_int (fun _ _ => rfl)) pe_str (nomark _)) (pe_methX (pv 0) TD.cl Dlabel.at_ Dlabel.ok (hr.mono (by omega)) Dlabel.b (fun σ => passAt (takes_of rfl rfl rfl rfl) σ) (pa_cons (pe_ix ix_tup (pv 1) pe_int (fun _ _ => rfl)) (pa_cons (pe_ix ix_tup (pv 1) pe_int (fun _ _ => rfl)) pa_nil))) (pe_methX (pv 0) TD.cl Dturn.at_ Dturn.ok (hr.mono (by omega)) Dturn.b (fun σ => passAt (takes_of rfl rfl rfl rfl) σ) (pa_cons (pe_ix ix_tup (pv 1) pe_int (fun _ _ => rfl)) pa_nil))))))), ?_⟩
  have nl : ∀ {m : Str} (vt vd vb : V), (m == ("trees" : Str)) = false → (m == ("done" : Str)) = false → (m == ("busy" : Str)) = false → (deskF vt vd vb).lookup m = none := no_look
  have he : H qe = some (.tup (.str e.word :: e.args)) := he
  refine ⟨_, rfl, qe, _, 0, _, rfl, rfl, SqT.of he, atI_nat (j := 0) rfl, rfl, _, rfl, ?_⟩
  cases e with
  | put vp vl dp dl =>
    exact iteS rfl ⟨_, rfl, a, dx, _, rfl, h1, nl _ _ _ (by decide +kernel) (by decide +kernel) (by decide +kernel), _, rfl, qe, _, 1, _, rfl, rfl, SqT.of he, atI_nat (j := 1) rfl, _, rfl, qe, _, 2, _, rfl, rfl, SqT.of he, atI_nat (j := 2) rfl, a, ts, t, es, D, .put vp vl dp dl, r, rfl, trivial, dk, hat, hg, hd, h60, hts, hz, x, q⟩
  | cut vp dp =>
    refine iteR w1 ⟨_, rfl, qe, _, 0, _, rfl, rfl, SqT.of he, atI_nat (j := 0) rfl, rfl, _, rfl, ?_⟩
    exact iteS rfl ⟨_, rfl, a, dx, _, rfl, h1, nl _ _ _ (by decide +kernel) (by decide +kernel) (by decide +kernel), _, rfl, qe, _, 1, _, rfl, rfl, SqT.of he, atI_nat (j := 1) rfl, a, ts, t, es, D, .cut vp dp, r, rfl, trivial, dk, hat, hg, hd, h60, hts, hz, x, q⟩
  | label vp vl dp dl =>
    refine iteR w2 ⟨_, rfl, qe, _, 0, _, rfl, rfl, SqT.of he, atI_nat (j := 0) rfl, rfl, _, rfl, ?_⟩
    refine iteR w4 ⟨_, rfl, qe, _, 0, _, rfl, rfl, SqT.of he, atI_nat (j := 0) rfl, rfl, _, rfl, ?_⟩
    exact iteS rfl ⟨_, rfl, a, dx, _, rfl, h1, nl _ _ _ (by decide +kernel) (by decide +kernel) (by decide +kernel), _, rfl, qe, _, 1, _, rfl, rfl, SqT.of he, atI_nat (j := 1) rfl, _, rfl, qe, _, 2, _, rfl, rfl, SqT.of he, atI_nat (j := 2) rfl, a, ts, t, es, D, .label vp vl dp dl, r, rfl, trivial, dk, hat, hg, hd, h60, hts, hz, x, q⟩
  | turn vp dp =>
    refine iteR w3 ⟨_, rfl, qe, _, 0, _, rfl, rfl, SqT.of he, atI_nat (j := 0) rfl, rfl, _, rfl, ?_⟩
    refine iteR w5 ⟨_, rfl, qe, _, 0, _, rfl, rfl, SqT.of he, atI_nat (j := 0) rfl, rfl, _, rfl, ?_⟩
    exact iteR w9 ⟨_, rfl, a, dx, _, rfl, h1, nl _ _ _ (by decide +kernel) (by decide +kernel) (by decide +kernel), _, rfl, qe, _, 1, _, rfl, rfl, SqT.of he, atI_nat (j := 1) rfl, a, ts, t, es, D, .turn vp dp, r, rfl, trivial, dk, hat, hg, hd, h60, hts, hz, x, q⟩
end
/-! ### what is seen of a desk -/
def Ed.data : Ed → PyData
  | .put p c => .tuple [.str "put", .str (px p), .str (ch c)]
  | .cut p => .tuple [.str "cut", .str (px p)]
  | .label p c => .tuple [.str "label", .str (px p), .str (ch c)]
  | .turn p => .tuple [.str "turn", .str (px p)]
def NoT (D : Deck) (H : Hp) : Prop := ∀ a, D a → ∃ o, H a = some o ∧ ∀ xs, o ≠ .tup xs
theorem NoT.tup {D : Deck} {H H' : Hp} (n : NoT D H) (s : Same H H') {p : Addr} {xs : List V} (e : H' p = some (.tup xs)) : Off D p := fun z => by
  obtain ⟨o, h1, h2⟩ := n p z
  rw [s _ _ h1] at e
  injection e with e
  exact h2 _ e
theorem NoT.new {D : Deck} {H : Hp} (n : NoT D H) {p : Addr} (e : H p = none) : Off D p := fun z => by
  obtain ⟨o, h1, h2⟩ := n p z
  rw [e] at h1
  cases h1
theorem NoT.same {D : Deck} {H H' : Hp} (n : NoT D H) (s : Same H H') : NoT D H' := fun a z => by
  obtain ⟨o, h1, h2⟩ := n a z
  exact ⟨o, s _ _ h1, h2⟩
theorem NoT.dq {D : Deck} {H : Hp} (n : NoT D H) {v : V} {t : B} (h : BAt H v t) : DQ D H v t.data := h.dq fun a z xs e => by
  obtain ⟨o, h1, h2⟩ := n a z
  rw [e] at h1
  injection h1 with h1
  exact h2 _ h1.symm
theorem NoT.ed {D : Deck} {H : Hp} (n : NoT D H) {q : Addr} {e : Ed} (h : H q = some (.tup e.vals)) : DQ D H (.ref q) e.data := by
  have o := n.tup (Same.refl H) h
  cases e <;> first | exact .tup o h (.cons (.str _) (.cons (.str _) (.cons (.str _) .nil))) | exact .tup o h (.cons (.str _) (.cons (.str _) .nil))
theorem NoT.es {D : Deck} {H : Hp} (n : NoT D H) {vs : List V} {es : List Ed} (h : EsAt H vs es) : DQAll D H vs (es.map Ed.data) := by
  induction h with
  | nil => exact .nil
  | snoc _ b ih =>
    rw [List.map_append]
    exact dqAll_app ih (.cons (n.ed b) .nil)
def dSeen (t : B) (es : List Ed) : PyData := .tuple [t.data, .tuple (es.map Ed.data), .int (es.length : Int), .str (dtext t.size es.length), .int (es.length : Int), .int (t.size : Int), .str (tx (t.wk .first)), .str (tx (t.wk .between)), .str (tx (t.wk .last))]
theorem dp_t (xs : List PyData) : (PyData.tuple xs).depth = PyData.depthAll xs + 1 := by simp only [PyData.depth]
theorem dp_c (x : PyData) (xs : List PyData) : PyData.depthAll (x :: xs) = max x.depth (PyData.depthAll xs) := by simp only [PyData.depthAll]
theorem dp_e : PyData.depthAll [] = 0 := by simp only [PyData.depthAll]
theorem dp_s (x : Str) : (PyData.str x).depth = 0 := by simp only [PyData.depth]
theorem dp_i (x : Int) : (PyData.int x).depth = 0 := by simp only [PyData.depth]
theorem low_lt {c : Nat} (h : isLow c = true) : c < 128 := by
  simp only [isLow, Bool.and_eq_true, decide_eq_true_eq] at h
  omega
theorem wk_low {t : B} (h : t.lts) (k : Kd) : ∀ c ∈ t.wk k, isLow c = true := by
  intro c hc
  refine h c ?_
  cases k with
  | first => exact hc
  | between => exact (t.mid_mem c).mp hc
  | last =>
    have post_mem : ∀ t : B, c ∈ t.post → c ∈ t.pre := by
      intro t
      induction t with
      | nil => exact id
      | node l x r h1 h2 =>
        intro hc
        have hc : c ∈ l.post ++ r.post ++ [x] := hc
        show c ∈ x :: (l.pre ++ r.pre)
        rcases List.mem_append.mp hc with hc | hc
        · rcases List.mem_append.mp hc with hc | hc
          · exact List.mem_cons_of_mem _ (List.mem_append_left _ (h1 hc))
          · exact List.mem_cons_of_mem _ (List.mem_append_right _ (h2 hc))
        · exact List.mem_cons.mpr (.inl (List.mem_singleton.mp hc))
    exact post_mem t hc
def spSeenL (C : Addr) : Sp := fun vs H Q _ => ∃ (a : Addr) (ts : List B) (t : B) (es : List Ed), vs = [.ref a] ∧ Dk C H a ts t es false ∧ t.size ≤ 12 ∧ es.length ≤ 40 ∧ ∀ (p : Addr) (H' : Hp), Same H H' → (∀ D, NoT D H' → DQ D H' (.ref p) (dSeen t es)) → Q (.ref p) H'
def spDueS : Sp := fun vs H Q _ => ∃ (v : V) (t : B) (d : Addr) (ds : List V) (es : List Ed), vs = [v, .ref d] ∧ BAt H v t ∧ H d = some (.tup ds) ∧ EsAt H ds es ∧ t.size ≤ 12 ∧ es.length ≤ 40 ∧ ∀ (p : Addr) (H' : Hp), Same H H' → (∀ D, NoT D H' → DQ D H' (.ref p) (dSeen t es)) → Q (.ref p) H'
section
variable {P : Program} {w : World} {K : PySem.W.Frag} {mg : Str → Option Value} {base : Heap} {f : Addr} {fd : FuncData} {C : Addr}
end
/-! ### bounds of what is made -/
theorem wt_tt (xs : List PyData) : wt (.tuple xs) = 3 + wts xs := by simp only [wt]
theorem wt_tc (x : PyData) (xs : List PyData) : wts (x :: xs) = wt x + 2 + wts xs := by simp only [wts]
theorem wt_te : wts [] = 0 := by simp only [wts]
theorem wt_ts (x : Str) : wt (.str x) = 902 := by simp only [wt]
theorem gd_t (xs : List PyData) : gd (.tuple xs) = gds xs := by simp only [gd]
theorem gd_c (x : PyData) (xs : List PyData) : gds (x :: xs) = (gd x && gds xs) := by simp only [gds]
theorem gd_e : gds [] = true := by simp only [gds]
theorem gd_ch {c : Nat} (h : isLow c = true) : gd (.str (ch c)) = true := by
  have := low_lt h
  simp only [gd, Bool.and_eq_true, decide_eq_true_eq, List.all_eq_true]
  refine ⟨by show 1 ≤ 90; decide, fun d hd => ?_⟩
  have : d = c := List.mem_singleton.mp hd
  subst this
  exact decide_eq_true (by assumption)
theorem lts_l {l r : B} {x : Nat} (h : (B.node l x r).lts) : l.lts := fun c hc => h c (List.mem_cons_of_mem _ (List.mem_append_left _ hc))
theorem lts_r {l r : B} {x : Nat} (h : (B.node l x r).lts) : r.lts := fun c hc => h c (List.mem_cons_of_mem _ (List.mem_append_right _ hc))
theorem lts_x {l r : B} {x : Nat} (h : (B.node l x r).lts) : isLow x = true := h x List.mem_cons_self
theorem tree_gd : ∀ t : B, t.lts → gd t.data = true ∧ wt t.data ≤ 915 * t.size + 4 ∧ t.data.depth ≤ t.size
  | .nil, _ => ⟨rfl, by decide, Nat.le_refl _⟩
  | .node l x r, h => by
    obtain ⟨a1, a2, a3⟩ := tree_gd l (lts_l h)
    obtain ⟨b1, b2, b3⟩ := tree_gd r (lts_r h)
    have hs : (B.node l x r).size = l.size + 1 + r.size := rfl
    show gd (.tuple [l.data, .str (ch x), r.data]) = true ∧ wt (.tuple [l.data, .str (ch x), r.data]) ≤ _ ∧ (PyData.tuple [l.data, .str (ch x), r.data]).depth ≤ _
    rw [gd_t, gd_c, gd_c, gd_c, gd_e, a1, b1, gd_ch (lts_x h), wt_tt, wt_tc, wt_tc, wt_tc, wt_te, wt_ts, dp_t, dp_c, dp_c, dp_c, dp_e, dp_s, hs]
    exact ⟨rfl, by omega, by omega⟩
/-! ### lists of good values; one more place that may change -/
def More (D : Deck) (W : Addr) : Deck := fun a => D a ∨ a = W
theorem off_more {D : Deck} {H : Hp} {W a : Addr} {o : HO} (n : H W = none) (f : Off D a) (e : H a = some o) : Off (More D W) a := fun z => by
  rcases z with z | z
  · exact f z
  · rw [z, n] at e; cases e
mutual
theorem dq_more {D : Deck} {H : Hp} {W : Addr} (n : H W = none) : ∀ {v : V} {d : PyData}, DQ D H v d → DQ (More D W) H v d
  | _, _, .non => .non
  | _, _, .bl b => .bl b
  | _, _, .int i => .int i
  | _, _, .str x => .str x
  | _, _, .tup o e al => .tup (off_more n o e) e (dqAll_more n al)
  | _, _, .lst o e al => .lst (off_more n o e) e (dqAll_more n al)
  | _, _, .emp o e => .emp (off_more n o e) e
theorem dqAll_more {D : Deck} {H : Hp} {W : Addr} (n : H W = none) : ∀ {vs : List V} {ds : List PyData}, DQAll D H vs ds → DQAll (More D W) H vs ds
  | _, _, .nil => .nil
  | _, _, .cons a b => .cons (dq_more n a) (dqAll_more n b)
end
theorem gd_l (xs : List PyData) : gd (.list xs) = gds xs := by simp only [gd]
theorem wt_l (xs : List PyData) : wt (.list xs) = 3 + wts xs := by simp only [wt]
theorem dp_l (xs : List PyData) : (PyData.list xs).depth = PyData.depthAll xs + 1 := by simp only [PyData.depth]
/-! ### the stream and one list more -/
def One (sa : Addr) : Deck := fun a => a = sa
theorem Strm.deck {H : Hp} {sa : Addr} {n : Nat} (st : Strm H sa n) : DeckOk H (One sa) ∧ ∀ a, One sa a → ∀ xs, H a ≠ some (.tup xs) := by
  obtain ⟨xs, e⟩ := st.lst
  refine ⟨fun a z h => ?_, fun a z ys h => ?_⟩
  · rw [show a = sa from z, e] at h; cases h
  · rw [show a = sa from z, e] at h; cases h
theorem off_one {H : Hp} {sa a : Addr} {n : Nat} {xs : List V} (st : Strm H sa n) (e : H a = some (.tup xs)) : Off (One sa) a := fun z => by
  obtain ⟨ys, e'⟩ := st.lst
  rw [show a = sa from z, e'] at e; cases e
theorem off_moreT {H : Hp} {sa W a : Addr} {n : Nat} {xs ws : List V} (st : Strm H sa n) (ew : H W = some (.lst ws)) (e : H a = some (.tup xs)) : Off (More (One sa) W) a := fun z => by
  rcases z with z | z
  · exact off_one st e z
  · rw [z, ew] at e; cases e
theorem deck_more {H : Hp} {sa W : Addr} {n : Nat} {ws : List V} (st : Strm H sa n) (ew : H W = some (.lst ws)) : DeckOk H (More (One sa) W) := fun a z e => by
  rcases z with z | z
  · exact st.deck.1 a z e
  · rw [z, ew] at e; cases e
theorem nD_more {H : Hp} {sa W : Addr} {n : Nat} {ws : List V} (st : Strm H sa n) (ew : H W = some (.lst ws)) : ∀ a, More (One sa) W a → ∀ xs, H a ≠ some (.tup xs) := fun a z xs e => off_moreT st ew e z
mutual
theorem dq_butI {D : Deck} {H H' : Hp} {ad C dx : Addr} {fs : List (Str × V)} (hi : H ad = some (.ins C dx fs)) (b : But ad H H') : ∀ {v : V} {d : PyData}, DQ D H v d → DQ D H' v d
  | _, _, .non => .non
  | _, _, .bl b => .bl b
  | _, _, .int i => .int i
  | _, _, .str x => .str x
  | _, _, .lst o e a => .lst o (b _ _ (ne_of e hi (by intro z; cases z)) e) (dqAll_butI hi b a)
  | _, _, .tup o e a => .tup o (b _ _ (ne_of e hi (by intro z; cases z)) e) (dqAll_butI hi b a)
  | _, _, .emp o e => .emp o (b _ _ (ne_of e hi (by intro z; cases z)) e)
theorem dqAll_butI {D : Deck} {H H' : Hp} {ad C dx : Addr} {fs : List (Str × V)} (hi : H ad = some (.ins C dx fs)) (b : But ad H H') : ∀ {vs : List V} {ds : List PyData}, DQAll D H vs ds → DQAll D H' vs ds
  | _, _, .nil => .nil
  | _, _, .cons h a => .cons (dq_butI hi b h) (dqAll_butI hi b a)
end
theorem Eg.At.keepI {D : Deck} {H H' : Hp} {e : Eg} {ad C dx : Addr} {fs : List (Str × V)} (h : e.At D H) (hi : H ad = some (.ins C dx fs)) (b : But ad H H') : e.At D H' := by
  cases e with
  | put => exact ⟨dq_butI hi b h.1, dq_butI hi b h.2⟩
  | cut => exact dq_butI hi b h
  | label => exact ⟨dq_butI hi b h.1, dq_butI hi b h.2⟩
  | turn => exact dq_butI hi b h
theorem gd_fin : ∀ n : Fin 64, gd (.int (n.val : Int)) = true := by decide +kernel
theorem gd_n {n : Nat} (h : n < 64) : gd (.int (n : Int)) = true := gd_fin ⟨n, h⟩
theorem told_head {r : Out} (h : r.isE) : ∃ x rest, r.told = .str x :: rest ∧ x ≠ Str.ofString "state" := by
  cases r with
  | st => exact h.elim
  | noPath v => exact ⟨_, _, rfl, by decide +kernel⟩
  | notOpen v => exact ⟨_, _, rfl, by decide +kernel⟩
  | noLabel v => exact ⟨_, _, rfl, by decide +kernel⟩
  | large => exact ⟨_, _, rfl, by decide +kernel⟩
  | last => exact ⟨_, _, rfl, by decide +kernel⟩
theorem Out.st_or (r : Out) : (∃ t, r = .st t) ∨ r.isE := by
  cases r with
  | st t => exact .inl ⟨t, rfl⟩
  | _ => exact .inr trivial
theorem e0 (x : Str) : (!decide (V.str x = V.str x)) = false := by rw [decide_eq_true rfl]; rfl
/-! ### the law -/
theorem catA_any {K : PySem.W.Frag} {H : Hp} {a b : Addr} {xs ys : List V} {Q : VK} (hx : H a = some (.tup xs)) (hy : H b = some (.tup ys)) (hz : xs.length + ys.length ≤ sizeLine)
    (q : ∀ (p : Addr) (H' : Hp), Same H H' → H' p = some (.tup (xs ++ ys)) → Q (.ref p) H') : rCatA K (.ref a) (.ref b) H Q :=
  ⟨a, b, xs, ys, rfl, rfl, SqT.of hx, SqT.of hy, hz, fun e => q b H (Same.refl H) (by rw [e]; exact hy), fun _ e => q a H (Same.refl H) (by rw [e, List.append_nil]; exact hx), fun _ _ p np => q p _ (same_new np _) upd_same⟩
theorem Dk.apart {C a b : Addr} {H H' : Hp} {ts : List B} {t : B} {es : List Ed} {bu : Bool} {xs : List V} (k : But b H H') (eb : H b = some (.lst xs)) (d : Dk C H a ts t es bu) : Dk C H' a ts t es bu := by
  obtain ⟨dx, ta, td, vs, v, ds, h1, h2, h3, h4, h5, h6⟩ := d
  have kt : KeepT H H' := But.keepL eb k
  exact ⟨dx, ta, td, vs, v, ds, k _ _ (ne_of h1 eb (by intro z; cases z)) h1, kt _ _ h2, kt _ _ h3, h4.keep kt, h5.keep kt, h6.keep kt⟩
def lit (d : PyData) : Prop := gd d = true ∧ wt d ≤ 3000 ∧ d.depth ≤ 3
def Eg.light : Eg → Prop
  | .put _ _ dp dl => lit dp ∧ lit dl
  | .cut _ dp => lit dp
  | .label _ _ dp dl => lit dp ∧ lit dl
  | .turn _ dp => lit dp
theorem Eg.light.gd {e : Eg} (h : e.light) : e.gd := by
  cases e with
  | put => exact ⟨h.1.1, h.2.1⟩
  | cut => exact h.1
  | label => exact ⟨h.1.1, h.2.1⟩
  | turn => exact h.1
def Ed.eg : Ed → Eg
  | .put p c => .put (.str (px p)) (.str (ch c)) (.str (px p)) (.str (ch c))
  | .cut p => .cut (.str (px p)) (.str (px p))
  | .label p c => .label (.str (px p)) (.str (ch c)) (.str (px p)) (.str (ch c))
  | .turn p => .turn (.str (px p)) (.str (px p))
theorem Ed.eg_vals (e : Ed) : e.eg.vals = e.vals := by cases e <;> rfl
theorem Ed.eg_at (e : Ed) (D : Deck) (H : Hp) : e.eg.At D H := by cases e <;> first | exact ⟨.str _, .str _⟩ | exact .str _
theorem lit_px {p : List Bool} (h : p.length ≤ 12) : lit (.str (px p)) := by
  refine ⟨?_, by rw [wt_ts]; decide, by rw [dp_s]; decide⟩
  have e : (px p).cps.toList = p.map dir := rfl
  simp only [gd, Bool.and_eq_true, decide_eq_true_eq, List.all_eq_true, px_len]
  refine ⟨by omega, fun c hc => ?_⟩
  rw [e] at hc
  obtain ⟨b, _, rfl⟩ := List.mem_map.mp hc
  cases b <;> decide
theorem lit_ch {c : Nat} (h : isLow c = true) : lit (.str (ch c)) := ⟨gd_ch h, by rw [wt_ts]; decide, by rw [dp_s]; decide⟩
theorem Ed.eg_light {t : B} {e : Ed} (h : Drawn t e) (z : t.size ≤ 12) : e.eg.light := by
  have pl : ∀ {p : List Bool} {u : B}, t.at p = some u → p.length ≤ 12 := fun h => by have := t.at_size _ h; omega
  cases e with
  | put p c => exact ⟨lit_px (pl h.1), lit_ch h.2⟩
  | cut p => obtain ⟨u, hp, _⟩ := h; exact lit_px (pl hp)
  | label p c => obtain ⟨⟨u, hp, _⟩, hc⟩ := h; exact ⟨lit_px (pl hp), lit_ch hc⟩
  | turn p => obtain ⟨u, hp, _⟩ := h; exact lit_px (pl hp)
theorem Does.drawn {t t' : B} {e : Ed} (h : Does t e t') : Drawn t e := by
  cases h with
  | put h1 h2 _ => exact ⟨h1, h2⟩
  | cut h1 h2 _ => exact ⟨_, h1, h2⟩
  | label h1 h2 => exact ⟨⟨_, h1, fun z => nomatch z⟩, h2⟩
  | turn h1 h2 => exact ⟨_, h1, h2⟩
def spEqualQ : Sp := fun vs H Q _ => ∃ (u v : V) (D : Deck) (d : PyData), vs = [u, v] ∧ DQ D H u d ∧ DQ D H v d ∧ gd d = true ∧ wt d ≤ 1000000 ∧ d.depth ≤ 60 ∧ Q (.bl true) H
section
variable {P : Program} {w : World} {K : PySem.W.Frag} {mg : Str → Option Value} {base : Heap} {f : Addr} {fd : FuncData}
theorem ok_equalQ {k : Nat} (F : Fun K "_law_equal" "_law_equal" s__law_equal f fd) (M : Mgs mg) : FnOkG P w K mg base (k + 1) f fd ["_law_one", "_law_other"] spEqualQ := by
  refine fnG F sc__law_equal (fun vs H Q E h => ?_) (fun cdv A outer s H vs Q E gs hr h => ?_)
  · obtain ⟨u, v, D, d, rfl, _⟩ := h
    rfl
  obtain ⟨u, v, D, d, rfl, h1, h2, h3, h4, h5, q⟩ := h
  refine ⟨_, (pss_one (ps_ret (pe_cmpR op_eq (pe_callB (call_reprQ gs hr.units) rfl M.repr (by decide +kernel) (pa_cons (pv 0) pa_nil)) (pe_callB (call_reprQ gs hr.units) rfl M.repr (by decide +kernel) (pa_cons (pv 1) pa_nil)) (nomark _)))), ?_⟩
  refine ⟨_, rfl, u, D, d, rfl, h1, h3, h4, h5, _, rfl, v, D, d, rfl, h2, h3, h4, h5, rfl, ?_⟩
  rw [decide_eq_true (rfl : V.str d.shown = V.str d.shown)]
  exact q
end
/-! ### undo, history -/
theorem cutV_init (ys : List V) (y : V) : cutV (ys ++ [y]) none (some (-1)) = ys := by
  unfold cutV
  have h1 : HT.sIx (ys ++ [y]).length 0 none = 0 := rfl
  have h2 : HT.sIx (ys ++ [y]).length (ys ++ [y]).length (some (-1)) = ys.length := by
    show (if (-1 : Int) < 0 then ((-1 : Int) + ((ys ++ [y]).length : Int)).toNat else min (-1 : Int).toNat (ys ++ [y]).length) = ys.length
    rw [if_pos (by decide), List.length_append]
    show ((-1 : Int) + ((ys.length + 1 : Nat) : Int)).toNat = ys.length
    omega
  rw [h1, h2, List.drop_zero, Nat.sub_zero, List.take_left' rfl]
theorem cutV_last3 (xs : List V) : cutV xs (some (-3)) none = xs.drop (xs.length - 3) := by
  unfold cutV
  have h1 : HT.sIx xs.length 0 (some (-3)) = xs.length - 3 := by
    show (if (-3 : Int) < 0 then ((-3 : Int) + (xs.length : Int)).toNat else min (-3 : Int).toNat xs.length) = xs.length - 3
    rw [if_pos (by decide)]
    omega
  have h2 : HT.sIx xs.length xs.length none = xs.length := rfl
  rw [h1, h2, List.take_of_length_le (by rw [List.length_drop]; exact Nat.le_refl _)]
theorem cutV_tk (xs : List V) (k : Nat) : cutV xs none (some (k : Int)) = xs.take k := by
  unfold cutV
  have h1 : HT.sIx xs.length 0 none = 0 := rfl
  rw [h1, HT.sIx_nat, List.drop_zero, Nat.sub_zero]
  by_cases h : k ≤ xs.length
  · rw [Nat.min_eq_left h]
  · rw [Nat.min_eq_right (by omega), List.take_length, List.take_of_length_le (by omega)]
theorem app1 {α : Type} {a b : List α} {x y : α} (h : a ++ [x] = b ++ [y]) : a = b ∧ x = y := by
  have := List.append_inj' h rfl
  exact ⟨this.1, List.singleton_inj.mp this.2⟩
theorem BsAt.unsnoc {H : Hp} {vs : List V} {us : List B} (h : BsAt H vs us) {ts : List B} {t : B} (e : us = ts ++ [t]) : ∃ vs' v, vs = vs' ++ [v] ∧ BsAt H vs' ts ∧ BAt H v t := by
  cases h with
  | nil => cases ts <;> cases e
  | snoc a b =>
    obtain ⟨rfl, rfl⟩ := app1 e
    exact ⟨_, _, rfl, a, b⟩
theorem EsAt.unsnoc {H : Hp} {vs : List V} {us : List Ed} (h : EsAt H vs us) {es : List Ed} {e : Ed} (he : us = es ++ [e]) : ∃ vs' v, vs = vs' ++ [v] ∧ EsAt H vs' es := by
  cases h with
  | nil => cases es <;> cases he
  | snoc a b =>
    obtain ⟨rfl, rfl⟩ := app1 he
    exact ⟨_, _, rfl, a⟩
theorem BsAt.get {H : Hp} {vs : List V} {ts : List B} (h : BsAt H vs ts) {i : Nat} {v : V} (e : vs[i]? = some v) : ∃ t, ts[i]? = some t ∧ BAt H v t := by
  induction h with
  | nil => simp at e
  | snoc a b ih =>
    rename_i vs ts x t
    have hl := a.len
    by_cases hi : i < vs.length
    · rw [List.getElem?_append_left hi] at e
      obtain ⟨t', h1, h2⟩ := ih e
      exact ⟨t', by rw [List.getElem?_append_left (by omega)]; exact h1, h2⟩
    · have hi2 : i = vs.length := by
        have := (List.getElem?_eq_some_iff.mp e).1
        rw [List.length_append] at this
        have : i < vs.length + 1 := this
        omega
      subst hi2
      rw [List.getElem?_append_right (Nat.le_refl _), Nat.sub_self] at e
      cases e
      exact ⟨t, by rw [hl, List.getElem?_append_right (Nat.le_refl _), Nat.sub_self]; rfl, b⟩
theorem slA_any {K : PySem.W.Frag} {H : Hp} {a : Addr} {xs : List V} {lo hi : Option Int} {Q : VK} (hx : H a = some (.tup xs)) (q : ∀ (p : Addr) (H' : Hp), Same H H' → H' p = some (.tup (cutV xs lo hi)) → Q (.ref p) H') : rSlA K (.ref a) lo hi H Q :=
  ⟨a, xs, rfl, SqT.of hx, fun hw => q a H (Same.refl H) (by rw [cut_whole hw]; exact hx), fun _ p np => q p _ (same_new np _) upd_same⟩
def spUndo (C : Addr) : Sp := fun vs H Q _ => ∃ (a : Addr) (ts : List B) (t t' : B) (es : List Ed) (e : Ed), vs = [.ref a] ∧ Dk C H a (ts ++ [t]) t' (es ++ [e]) false ∧ es.length ≤ 100 ∧ ts.length ≤ 100 ∧ ∀ H', But a H H' → Dk C H' a ts t es false → Q (.int (es.length : Int)) H'
def spUndoX (C cN : Addr) : Sp := fun vs H _ E => ∃ (a : Addr) (t : B), vs = [.ref a] ∧ Dk C H a [] t [] false ∧ E (.ref cN) none H
/-- what history hands out: (version, tree) -/
inductive HsAt (H : Hp) : List V → List B → Prop
  | nil : HsAt H [] []
  | snoc {ys : List V} {bs : List B} {p : Addr} {v : V} {b : B} {n : Int} : HsAt H ys bs → H p = some (.tup [.int n, v]) → n = (bs.length : Int) → BAt H v b → HsAt H (ys ++ [.ref p]) (bs ++ [b])
theorem HsAt.same {H H' : Hp} (k : Same H H') {ys : List V} {bs : List B} (h : HsAt H ys bs) : HsAt H' ys bs := by
  induction h with
  | nil => exact .nil
  | snoc _ e n b ih => exact .snoc ih (k _ _ e) n (b.same k)
theorem HsAt.len {H : Hp} {ys : List V} {bs : List B} (h : HsAt H ys bs) : ys.length = bs.length := by
  induction h with
  | nil => rfl
  | snoc _ _ _ _ ih => rw [List.length_append, List.length_append, ih]; rfl
section
variable {P : Program} {w : World} {K : PySem.W.Frag} {mg : Str → Option Value} {base : Heap} {f : Addr} {fd : FuncData} {C cN : Addr}
theorem ok_undo (F : Fun K "undo" "Desk.undo" s_Desk_undo f fd) (TD : DeskC K mg C) (Dcf : MDf P w K mg base C 1 "check_free" ["self"] (spFree C)) (Dtold : MDf P w K mg base C 1 "told" ["self", "name"] (spTold C)) :
    FnOk P w K mg base CX0 2 f fd ["self"] (spUndo C) := by
  refine F.ok (k := 1) sc_Desk_undo (fun vs H Q E h => ?_) (fun cdv A outer s H vs Q E hr h => ?_)
  · obtain ⟨a, ts, t, t', es, e, rfl, _⟩ := h
    rfl
  obtain ⟨a, ts, t, t', es, e, rfl, dk, h60, hts, q⟩ := h
  refine ⟨_, (pss_cons (ps_expr (pe_meth0 (pv 0) TD.cl Dcf.at_ Dcf.ok (hr.mono (by omega)) Dcf.b .nil pass0))
    (pss_cons (ps_if (pt_not (pt_truth (pe_fld (pv 0) rfl) (by intro _; rfl)))
      (pss_one ps_never) pss_nil)
    (pss_cons (ps_fld (pv 0) (pe_slice sl_tupA (pe_fld (pv 0) rfl) po_none (po_some (pe_un un_neg pe_int))) rfl)
    (pss_cons (ps_fld (pv 0) (pe_slice sl_tupA (pe_fld (pv 0) rfl) po_none (po_some (pe_un un_neg pe_int))) rfl)
    (pss_one (ps_ret (pe_meth (pv 0) TD.cl Dtold.at_ Dtold.ok (hr.mono (by omega)) Dtold.b .nil pass0 (pa_cons pe_str pa_nil)))))))), ?_⟩
  obtain ⟨dx, ta, td, vs, u, ds, h1, h2, h3, h4, h5, h6⟩ := id dk
  obtain ⟨vs', v, rfl, b4, b5⟩ := h4.unsnoc rfl
  obtain ⟨ds', y, rfl, e6⟩ := h6.unsnoc rfl
  have nl : ∀ {m : Str} (vt vd vb : V), (m == ("trees" : Str)) = false → (m == ("done" : Str)) = false → (m == ("busy" : Str)) = false → (deskF vt vd vb).lookup m = none := no_look
  refine ⟨_, rfl, a, dx, _, rfl, h1, nl _ _ _ (by decide +kernel) (by decide +kernel) (by decide +kernel), a, _, t', _, rfl, dk, ?_⟩
  have ne : (!(ds' ++ [y]).isEmpty) = true := by cases ds' <;> rfl
  refine ⟨_, rfl, a, C, dx, _, _, rfl, h1, TD.cl, TD.nD, look_d _ _ _, !(ds' ++ [y]).isEmpty, .inr (.inl ⟨_, SqT.of h3, rfl⟩), ?_⟩
  rw [ne]
  refine iteF ?_
  refine ⟨_, rfl, a, C, dx, _, _, rfl, h1, TD.cl, TD.nT, look_t _ _ _, ?_⟩
  dsimp only [tNoPart]
  refine ⟨1, rfl, -1, rfl, slA_any (hi := some (-1)) h2 fun tb H1 s1 et1 => ?_⟩
  rw [cutV_init] at et1
  have e1 := s1 _ _ h1
  refine ⟨_, rfl, a, C, dx, _, rfl, e1, TD.cl, TD.nT, (by show 3 < 1000; decide), ?_⟩
  rw [set_t]
  have bB : But a H1 (upd H1 a (.ins C dx (deskF (.ref tb) (.ref td) (.bl false)))) := fun b o hb e => by rw [upd_ne hb]; exact e
  have e2 := upd_same (H := H1) (a := a) (o := .ins C dx (deskF (.ref tb) (.ref td) (.bl false)))
  have k2 : KeepT H1 (upd H1 a (.ins C dx (deskF (.ref tb) (.ref td) (.bl false)))) := fun b xs e => bB b _ (ne_of e e1 (by intro z; cases z)) e
  generalize upd H1 a (.ins C dx (deskF (.ref tb) (.ref td) (.bl false))) = H2 at bB e2 k2 ⊢
  have kA : KeepT H H2 := (Tw.Same.keepT s1).trans k2
  refine ⟨_, rfl, a, C, dx, _, _, rfl, e2, TD.cl, TD.nD, look_d _ _ _, ?_⟩
  refine ⟨1, rfl, -1, rfl, slA_any (hi := some (-1)) (kA _ _ h3) fun tc H3 s3 et3 => ?_⟩
  rw [cutV_init] at et3
  have e3 := s3 _ _ e2
  refine ⟨_, rfl, a, C, dx, _, rfl, e3, TD.cl, TD.nD, (by show 3 < 1000; decide), ?_⟩
  rw [set_d]
  have bB4 : But a H3 (upd H3 a (.ins C dx (deskF (.ref tb) (.ref tc) (.bl false)))) := fun b o hb e => by rw [upd_ne hb]; exact e
  have e4 := upd_same (H := H3) (a := a) (o := .ins C dx (deskF (.ref tb) (.ref tc) (.bl false)))
  have k4 : KeepT H3 (upd H3 a (.ins C dx (deskF (.ref tb) (.ref tc) (.bl false)))) := fun b xs e => bB4 b _ (ne_of e e3 (by intro z; cases z)) e
  generalize upd H3 a (.ins C dx (deskF (.ref tb) (.ref tc) (.bl false))) = H4 at bB4 e4 k4 ⊢
  have kB : KeepT H1 H4 := k2.trans ((Tw.Same.keepT s3).trans k4)
  have kC : KeepT H H4 := (Tw.Same.keepT s1).trans kB
  have d4 : Dk C H4 a ts t es false := ⟨dx, tb, tc, vs', v, ds', e4, kB _ _ et1, k4 _ _ et3, b4.keep kC, b5.keep kC, e6.keep kC⟩
  refine ⟨_, rfl, a, dx, _, rfl, e4, nl _ _ _ (by decide +kernel) (by decide +kernel) (by decide +kernel), a, _, ts, t, es, false, rfl, d4, by omega, ?_⟩
  exact q H4 ((But.of s1).trans (bB.trans ((But.of s3).trans bB4))) d4
theorem ok_undoX (F : Fun K "undo" "Desk.undo" s_Desk_undo f fd) (TD : DeskC K mg C) (hNU : Err0 K mg "NothingToUndo" cN) (Dcf : MDf P w K mg base C 1 "check_free" ["self"] (spFree C)) (Dtold : MDf P w K mg base C 1 "told" ["self", "name"] (spTold C)) :
    FnOk P w K mg base (L2.CX P w) 2 f fd ["self"] (spUndoX C cN) := by
  refine F.okX (k := 1) sc_Desk_undo (fun vs H Q E h => ?_) (fun cdv A outer s H vs Q E hr h => ?_)
  · obtain ⟨a, t, rfl, _⟩ := h
    rfl
  obtain ⟨a, t, rfl, dk, q⟩ := h
  refine ⟨_, (pss_cons (ps_expr (pe_meth0 (pv 0) TD.cl Dcf.at_ Dcf.ok (hr.mono (by omega)) Dcf.b .nil pass0))
    (pss_cons (ps_if (pt_not (pt_truth (pe_fld (pv 0) rfl) (by intro _; rfl)))
      (pss_one (ps_raise rfl (takes_of rfl rfl rfl rfl) (pmk_own0 PySem.F.excBase_ValueError hNU.q hNU.g hNU.k (raises_own hNU.e hNU.t) rfl))) pss_nil)
    (pss_cons (ps_fld (pv 0) (pe_slice sl_tupA (pe_fld (pv 0) rfl) po_none (po_some (pe_un un_neg pe_int))) rfl)
    (pss_cons (ps_fld (pv 0) (pe_slice sl_tupA (pe_fld (pv 0) rfl) po_none (po_some (pe_un un_neg pe_int))) rfl)
    (pss_one (ps_ret (pe_meth (pv 0) TD.cl Dtold.at_ Dtold.ok (hr.mono (by omega)) Dtold.b .nil pass0 (pa_cons pe_str pa_nil)))))))), ?_⟩
  obtain ⟨dx, ta, td, vs, u, ds, h1, h2, h3, h4, h5, h6⟩ := id dk
  have nl : ∀ {m : Str} (vt vd vb : V), (m == ("trees" : Str)) = false → (m == ("done" : Str)) = false → (m == ("busy" : Str)) = false → (deskF vt vd vb).lookup m = none := no_look
  refine ⟨_, rfl, a, dx, _, rfl, h1, nl _ _ _ (by decide +kernel) (by decide +kernel) (by decide +kernel), a, _, t, _, rfl, dk, ?_⟩
  have z : ds = [] := List.eq_nil_of_length_eq_zero (by rw [h6.len]; rfl)
  subst z
  exact ⟨_, rfl, a, C, dx, _, _, rfl, h1, TD.cl, TD.nD, look_d _ _ _, false, .inr (.inl ⟨_, SqT.of h3, rfl⟩), iteT q⟩
end
/-! ### what a desk shows, as data -/
theorem all_gd {W B : Nat} : ∀ {ds : List PyData}, (∀ d ∈ ds, gd d = true ∧ wt d ≤ W ∧ d.depth ≤ B) → gds ds = true ∧ wts ds ≤ (W + 2) * ds.length ∧ PyData.depthAll ds ≤ B
  | [], _ => ⟨gd_e, by rw [wt_te]; exact Nat.zero_le _, by rw [dp_e]; exact Nat.zero_le _⟩
  | d :: ds, h => by
    obtain ⟨a1, a2, a3⟩ := all_gd (W := W) (B := B) (ds := ds) fun x hx => h x (List.mem_cons_of_mem _ hx)
    obtain ⟨b1, b2, b3⟩ := h d List.mem_cons_self
    rw [gd_c, wt_tc, dp_c, a1, b1, List.length_cons, Nat.mul_add]
    exact ⟨rfl, by omega, by omega⟩
def hsD (bs : List B) : List PyData := bs.zipIdx.map fun x => .tuple [.int (x.2 : Int), x.1.data]
theorem hsD_snoc (bs : List B) (b : B) : hsD (bs ++ [b]) = hsD bs ++ [.tuple [.int (bs.length : Int), b.data]] := by
  unfold hsD
  rw [List.zipIdx_append, List.map_append]
  simp
theorem HsAt.dq {D : Deck} {H : Hp} (n : NoT D H) {ys : List V} {bs : List B} (h : HsAt H ys bs) : DQAll D H ys (hsD bs) := by
  induction h with
  | nil => exact .nil
  | snoc _ e m b ih =>
    rw [hsD_snoc]
    subst m
    exact dqAll_app ih (.cons (.tup (n.tup (Same.refl _) e) e (.cons (.int _) (.cons (n.dq b) .nil))) .nil)
def hist3 (bs : List B) : List PyData := (hsD bs).drop ((hsD bs).length - 3)
def dSeenL (t : B) (es : List Ed) : List PyData := [t.data, .tuple (es.map Ed.data), .int (es.length : Int), .str (dtext t.size es.length), .int (es.length : Int), .int (t.size : Int), .str (tx (t.wk .first)), .str (tx (t.wk .between)), .str (tx (t.wk .last))]
theorem dSeen_eq (t : B) (es : List Ed) : dSeen t es = .tuple (dSeenL t es) := rfl
def dSh (ts : List B) (t : B) (es : List Ed) : PyData := .tuple (dSeenL t es ++ [.list (hist3 (ts ++ [t]))])
def Tg (t : B) : Prop := t.lts ∧ t.size ≤ 12 ∧ t ≠ .nil
theorem wt_ii (x : Int) : wt (.int x) = 62 := by simp only [wt]
theorem hist3_ok {bs : List B} (h : ∀ b ∈ bs, Tg b) (hl : bs.length ≤ 60) : gds (hist3 bs) = true ∧ wts (hist3 bs) ≤ 40000 ∧ PyData.depthAll (hist3 bs) ≤ 15 := by
  have hk : ∀ d ∈ hist3 bs, gd d = true ∧ wt d ≤ 12000 ∧ d.depth ≤ 15 := fun d hd => by
    have hd := List.mem_of_mem_drop hd
    obtain ⟨x, hx, rfl⟩ := List.mem_map.mp hd
    obtain ⟨b, i⟩ := x
    have hb : b ∈ bs := by
      have := List.mem_map_of_mem (f := Prod.fst) hx
      rw [List.zipIdx_map_fst] at this
      exact this
    have hi : i < bs.length := by
      have := List.mem_zipIdx hx
      omega
    obtain ⟨h1, h2, _⟩ := h b hb
    obtain ⟨a1, a2, a3⟩ := tree_gd b h1
    show gd (.tuple [.int (i : Int), b.data]) = true ∧ wt (.tuple [.int (i : Int), b.data]) ≤ _ ∧ (PyData.tuple [.int (i : Int), b.data]).depth ≤ _
    simp only [gd_t, gd_c, gd_e, wt_tt, wt_tc, wt_te, wt_ii, dp_t, dp_c, dp_e, dp_i, a1, gd_n (show i < 64 by omega), Bool.and_self, Bool.and_true, true_and]
    omega
  obtain ⟨r1, r2, r3⟩ := all_gd hk
  have : (hist3 bs).length ≤ 3 := by unfold hist3; rw [List.length_drop]; omega
  exact ⟨r1, by have := Nat.mul_le_mul_left (12000 + 2) this; omega, r3⟩
def Ed.okd (e : Ed) : Prop := gd e.data = true ∧ wt e.data ≤ 3000 ∧ e.data.depth ≤ 2
theorem Ed.okd_of {t : B} {e : Ed} (h : Drawn t e) (z : t.size ≤ 12) : e.okd := by
  have k1 : gd (.str "put") = true := by decide +kernel
  have k2 : gd (.str "cut") = true := by decide +kernel
  have k3 : gd (.str "label") = true := by decide +kernel
  have k4 : gd (.str "turn") = true := by decide +kernel
  have pl : ∀ {p : List Bool} {u : B}, t.at p = some u → p.length ≤ 12 := fun h => by have := t.at_size _ h; omega
  unfold Ed.okd
  cases e with
  | put p c =>
    have a1 := (lit_px (pl h.1)).1
    have b1 := (lit_ch h.2).1
    show gd (.tuple [_, _, _]) = true ∧ wt (.tuple [_, _, _]) ≤ _ ∧ (PyData.tuple [_, _, _]).depth ≤ _
    simp only [gd_t, gd_c, gd_e, wt_tt, wt_tc, wt_te, wt_ts, dp_t, dp_c, dp_e, dp_s, a1, b1, k1, Bool.and_self, Bool.and_true, true_and]
    omega
  | cut p =>
    obtain ⟨u, hp, _⟩ := h
    have a1 := (lit_px (pl hp)).1
    show gd (.tuple [_, _]) = true ∧ wt (.tuple [_, _]) ≤ _ ∧ (PyData.tuple [_, _]).depth ≤ _
    simp only [gd_t, gd_c, gd_e, wt_tt, wt_tc, wt_te, wt_ts, dp_t, dp_c, dp_e, dp_s, a1, k2, Bool.and_self, Bool.and_true, true_and]
    omega
  | label p c =>
    obtain ⟨⟨u, hp, _⟩, hc⟩ := h
    have a1 := (lit_px (pl hp)).1
    have b1 := (lit_ch hc).1
    show gd (.tuple [_, _, _]) = true ∧ wt (.tuple [_, _, _]) ≤ _ ∧ (PyData.tuple [_, _, _]).depth ≤ _
    simp only [gd_t, gd_c, gd_e, wt_tt, wt_tc, wt_te, wt_ts, dp_t, dp_c, dp_e, dp_s, a1, b1, k3, Bool.and_self, Bool.and_true, true_and]
    omega
  | turn p =>
    obtain ⟨u, hp, _⟩ := h
    have a1 := (lit_px (pl hp)).1
    show gd (.tuple [_, _]) = true ∧ wt (.tuple [_, _]) ≤ _ ∧ (PyData.tuple [_, _]).depth ≤ _
    simp only [gd_t, gd_c, gd_e, wt_tt, wt_tc, wt_te, wt_ts, dp_t, dp_c, dp_e, dp_s, a1, k4, Bool.and_self, Bool.and_true, true_and]
    omega
theorem eds_ok {es : List Ed} (h : ∀ e ∈ es, e.okd) (hl : es.length ≤ 40) : gds (es.map Ed.data) = true ∧ wts (es.map Ed.data) ≤ 130000 ∧ PyData.depthAll (es.map Ed.data) ≤ 2 := by
  obtain ⟨r1, r2, r3⟩ := all_gd (ds := es.map Ed.data) (W := 3000) (B := 2) fun d hd => by
    obtain ⟨e, he, rfl⟩ := List.mem_map.mp hd
    exact h e he
  rw [List.length_map] at r2
  exact ⟨r1, by omega, r3⟩
theorem dtext_gd : ∀ n : Fin 13, ∀ m : Fin 41, gd (.str (dtext n.val m.val)) = true := by decide +kernel
theorem gd_tx {l : List Nat} (h : l.length ≤ 12) (hl : ∀ c ∈ l, isLow c = true) : gd (.str (tx l)) = true := by
  have e : (tx l).cps.toList = l := rfl
  simp only [gd, Bool.and_eq_true, List.all_eq_true, tx_len]
  exact ⟨decide_eq_true (by show l.length ≤ 90; omega), fun c hc => decide_eq_true (low_lt (hl c hc))⟩
theorem seenL_gd {t : B} {es : List Ed} (ht : Tg t) (he : ∀ e ∈ es, e.okd) (hl : es.length ≤ 40) : gds (dSeenL t es) = true ∧ wts (dSeenL t es) ≤ 200000 ∧ PyData.depthAll (dSeenL t es) ≤ 20 := by
  obtain ⟨h1, h2, _⟩ := ht
  obtain ⟨a1, a2, a3⟩ := tree_gd t h1
  obtain ⟨b1, b2, b3⟩ := eds_ok he hl
  have c1 : gd (.str (dtext t.size es.length)) = true := dtext_gd ⟨t.size, by omega⟩ ⟨es.length, by omega⟩
  have w : ∀ k : Kd, gd (.str (tx (t.wk k))) = true := fun k => gd_tx (by rw [t.wk_len]; exact h2) (wk_low h1 k)
  unfold dSeenL
  simp only [gd_t, gd_c, gd_e, wt_tt, wt_tc, wt_te, wt_ts, wt_ii, dp_t, dp_c, dp_e, dp_s, dp_i, a1, b1, c1, w, gd_n (show es.length < 64 by omega), gd_n (show t.size < 64 by omega), Bool.and_self, true_and]
  omega
theorem gds_a {a b : List PyData} : gds (a ++ b) = (gds a && gds b) := gds_app
theorem sh_gd {ts : List B} {t : B} {es : List Ed} (h : ∀ b ∈ ts ++ [t], Tg b) (he : ∀ e ∈ es, e.okd) (hl : es.length ≤ 40) (hs : ts.length ≤ 50) : gd (dSh ts t es) = true ∧ wt (dSh ts t es) ≤ 1000000 ∧ (dSh ts t es).depth ≤ 60 := by
  obtain ⟨a1, a2, a3⟩ := seenL_gd (h t (List.mem_append_right _ (List.mem_singleton.mpr rfl))) he hl
  obtain ⟨b1, b2, b3⟩ := hist3_ok h (by rw [List.length_append]; show ts.length + 1 ≤ 60; omega)
  unfold dSh
  simp only [gd_t, gds_a, gd_c, gd_e, gd_l, wt_tt, wts_app, wt_tc, wt_te, wt_l, dp_t, depthAll_app, dp_c, dp_e, dp_l, a1, b1, Bool.and_self, true_and]
  omega
/-- edits read back from their data -/
theorem DQ.tupI {D : Deck} {H : Hp} {v : V} {ds : List PyData} (h : DQ D H v (.tuple ds)) : ∃ p vs, v = .ref p ∧ Off D p ∧ H p = some (.tup vs) ∧ DQAll D H vs ds := by
  cases h with
  | tup o e al => exact ⟨_, _, rfl, o, e, al⟩
/-! ### tried, nothing, shown -/
def tMethX0 (C : Addr) (m : Str) (sp : Sp) (E : L2.St → XK) (ta : TE) : TE := fun σ H Q => ta σ H fun x H1 => ∃ a dx fs, x = .ref a ∧ H1 a = some (.ins C dx fs) ∧ fs.lookup m = none ∧ sp [x] H1 Q (E σ)
theorem pe_methX0 {X : Cx} {CX : CXT} {k : Nat} {C f : Addr} {fd : FuncData} {ps : List Str} {sp : Sp} {E : L2.St → XK} {m : Str} {pos apos : Pos} {o : Expr} {ta : TE} {pl : Sem Bool} (he : PE X o ta) (c : Cls X.K C) (hm : Meth X.K C m f) (F : FnOk X.prog X.w X.K X.mg X.base CX k f fd ps sp) (hr : Room k X.A) (hb : Binds X.K fd ps [])
    (hx : ∀ σ, PassesAt CX X σ (E σ))
    (ht : eval (.Call (.Attribute o m apos) [] [] pos) X.env = (do
      let ov ← eval o X.env
      standAt apos.atName
      let (f, first) ← holding [ov] (getMethod ov m pl)
      callWith pos f first (backTo pos (starEach [] X.env)) (backToKw pos (keywordEach [] X.env))) := by rfl) :
    PE X (.Call (.Attribute o m apos) [] [] pos) (tMethX0 C m sp E ta) := by
  refine ⟨fun pins s σ H Q I h => ?_⟩
  refine PySem.W.methodCall_KW (pl := pl) (thn (he.run pins s σ H _ I h) fun u s1 ⟨x, H1, I1, rx, a, dx, fs, ex, ea, l, q⟩ => ?_) ht
  subst ex
  obtain rfl : u = Value.ref a := rx
  refine getmeth_ok I1 ea c hm l ?_
  exact PySem.W.callWith_K0 (first := [.ref a]) I1.kIn hm.kp (run_fnS (us := [.ref a]) (vs := [.ref a]) F hr hb (hx σ) I1 (.cons rfl .nil) q)
theorem noStop0 {K : PySem.W.Frag} : NoStop K E0 := by
  intro cls d H h
  exact h.elim
theorem passE0 {X : Cx} : Passes (L2.CX X.prog X.w) X E0 := fun pins σ H s e s' I c => by
  obtain ⟨a, B, H', cls, d, _, _, _, _, _, _, _, hW⟩ := c
  exact hW.elim
structure ErrN (K : PySem.W.Frag) (mg : Str → Option Value) (cN : Addr) : Prop where
  x0 : Err0 K mg "NothingToUndo" cN
  ex : PySem.W.exmOne K (.ref cN) (.ref cN) = some true
  mL : mg "LookupError" = none
  mV : mg "ValueError" = none
  wk : ∃ CW, mg "WalkError" = some (.ref CW) ∧ PySem.W.kitOne K (.ref cN) (.ref CW) = some true
  vk : PySem.W.kitOne K (.ref cN) (.type "ValueError") = some true
  more : ∃ c1 c2, mg "LastNode" = some (.ref c1) ∧ mg "BadEdits" = some (.ref c2) ∧ PySem.W.kitAny K (.ref cN) [.ref c1, .ref c2, .type "LookupError"] = some false
def spTriedX (C : Addr) : Sp := fun vs H Q _ => ∃ (a q : Addr) (ts : List B) (t : B) (es : List Ed) (D : Deck) (e : Eg) (r : Out), vs = [.ref a, .ref q] ∧ Dk C H a ts t es false ∧ H q = some (.tup e.vals) ∧ e.At D H ∧ e.gd ∧ Res t e r ∧ es.length < 60 ∧ ts.length ≤ 100 ∧ t.size ≤ 12 ∧
  (∀ t', r = .st t' → ∀ ed : Ed, Does t ed t' → ed.vals = e.vals → ∀ (H' : Hp), But a H H' → Dk C H' a (ts ++ [t]) t' (es ++ [ed]) false → Q (.int ((es.length + 1 : Nat) : Int)) H') ∧
  (r.isE → ∀ (H' : Hp), Same H H' → Q .non H')
section
variable {P : Program} {w : World} {K : PySem.W.Frag} {mg : Str → Option Value} {base : Heap} {f : Addr} {fd : FuncData} {C cW cN : Addr} {c : DE}
theorem ok_triedX (F : Fun K "_law_tried" "_law_tried" s__law_tried f fd) (GE : ErrW K mg c cW) (D_law_do : DfX P w K mg base 27 "_law_do" ["_law_desk", "_law_edit"] (spCalledX C c)) :
    FnOk P w K mg base CX0 28 f fd ["_law_desk", "_law_edit"] (spTriedX C) := by
  refine F.ok (k := 27) sc__law_tried (fun vs H Q E h => ?_) (fun cdv A outer s H vs Q E hr h => ?_)
  · obtain ⟨a, q, ts, t, es, D, e, r, rfl, _⟩ := h
    rfl
  obtain ⟨a, qe, ts, t, es, D, e, r, rfl, dk, he, hat, hg, hd, h60, hts, hz, q1, q2⟩ := h
  refine ⟨_, (pss_one (ps_try20 (c1 := .ref cW) (c2 := .ref c.NP) (Wout := fun _ _ _ _ => False) rfl rfl ⟨rfl, by decide, .inl GE.gW⟩ ⟨rfl, by decide, .inl GE.NP⟩ takes_none5
      (fun W pn xe tk _ => pss_one (ps_ret (pe_callS D_law_do.ok (hr.mono (by omega)) rfl D_law_do.g D_law_do.kp D_law_do.b (fun σ => passAt tk σ) (pa_cons (pv 0) (pa_cons (pv 1) pa_nil)))))
      (fun a oe cls d pn hz hf => pss_one (ps_ret pe_non)))), ?_⟩
  refine ⟨_, rfl, _, rfl, a, qe, ts, t, es, D, e, r, rfl, dk, he, hat, hg, hd, h60, hts, hz, ?_, fun t' hr' ed hed hev H1 b1 d1 => q1 t' hr' ed hed hev H1 b1 d1⟩
  cases r with
  | st t' => trivial
  | noPath v =>
    intro H1 p s1 np
    exact ⟨true, GE.eNP, fun _ a0 na => q2 trivial _ (s1.trans (same_new np _)), fun z => nomatch z⟩
  | notOpen v =>
    intro H1 p s1 np
    exact ⟨true, GE.eNO, fun _ a0 na => q2 trivial _ (s1.trans (same_new np _)), fun z => nomatch z⟩
  | noLabel v =>
    intro H1 p s1 np
    exact ⟨true, GE.eNL, fun _ a0 na => q2 trivial _ (s1.trans (same_new np _)), fun z => nomatch z⟩
  | large =>
    intro H1 p s1 np
    exact ⟨true, GE.eTL, fun _ a0 na => q2 trivial _ (s1.trans (same_new np _)), fun z => nomatch z⟩
  | last =>
    intro H1 s1
    exact ⟨true, GE.eLN, fun _ a0 na => q2 trivial _ s1, fun z => nomatch z⟩
end
/-! ### == of desks -/
def DT (K : PySem.W.Frag) : Nat → Eqv
  | 0 => DFlat
  | n + 1 => fun x y H => DFlat x y H ∨ DTup K (DT K n) x y H
theorem mon_DT {K : PySem.W.Frag} : ∀ {n : Nat}, Mon (DT K n)
  | 0 => mon_flat
  | n + 1 => Mon.or mon_flat (mon_tup (mon_DT (n := n)))
theorem eqG_DT {X : Cx} : ∀ {n : Nat}, EqG X n (DT X.K n)
  | 0 => eqG_flat
  | n + 1 => (eqG_flat.mono (Nat.zero_le _)).or (eqG_tup mon_DT (eqG_DT (n := n)))
theorem DFlat.non {H : Hp} : DFlat .non .non H := ⟨rfl, rfl, rfl⟩
theorem DFlat.str {H : Hp} (x : Str) : DFlat (.str x) (.str x) H := ⟨rfl, rfl, beq_self_eq_true x⟩
theorem DT.flat {K : PySem.W.Frag} {n : Nat} {x y : V} {H : Hp} (h : DFlat x y H) : DT K n x y H := by
  cases n with
  | zero => exact h
  | succ n => exact .inl h
theorem BAt.dt {K : PySem.W.Frag} {H : Hp} : ∀ (n : Nat) (t : B) (v w : V), BAt H v t → BAt H w t → t.size ≤ n → DT K n v w H := by
  intro n
  induction n with
  | zero =>
    intro t v w h1 h2 hz
    rcases h1.inv with ⟨rfl, rfl⟩ | ⟨a, vl, vr, x, tl, tr, rfl, rfl, ea, hvl, hvr⟩
    · rcases h2.inv with ⟨rfl, _⟩ | ⟨a', vl', vr', x', tl', tr', _, e, _⟩
      · exact DFlat.non
      · cases e
    · have : tl.size + 1 + tr.size ≤ 0 := hz
      omega
  | succ n ih =>
    intro t v w h1 h2 hz
    rcases h1.inv with ⟨rfl, rfl⟩ | ⟨a, vl, vr, x, tl, tr, rfl, rfl, ea, hvl, hvr⟩
    · rcases h2.inv with ⟨rfl, _⟩ | ⟨a', vl', vr', x', tl', tr', _, e, _⟩
      · exact .inl DFlat.non
      · cases e
    · rcases h2.inv with ⟨_, e⟩ | ⟨a', vl', vr', x', tl', tr', rfl, e, ea', hvl', hvr'⟩
      · cases e
      · cases e
        have : tl.size + 1 + tr.size ≤ n + 1 := hz
        exact .inr ⟨a, a', _, _, rfl, rfl, SqT.of ea, SqT.of ea', .cons (ih tl _ _ hvl hvl' (by omega)) (.cons (DT.flat (DFlat.str _)) (.cons (ih tr _ _ hvr hvr' (by omega)) .nil))⟩
/-- what isinstance asks of an own class -/
structure InsK (K : PySem.W.Frag) (C : Addr) : Prop where
  ha : PySem.W.findIn K (.ref C) "__class__" = some (some (.builtin "object.__class__"))
  hn : PySem.W.specialIn K (.builtin "object.__class__") "__get__" = some (some (.builtin "getset_descriptor.__get__"))
  htk : PySem.W.takesIn K (.builtin "object.__class__") = some true
  hm : PySem.W.mroIn K C (.type "object") = some true
  me : PySem.W.kitOne K (.ref C) (.ref C) = some true
def REq (C : Addr) (a b : Addr) (H : Hp) : Prop := ∃ ts ts' t es es', Dk C H a ts t es false ∧ Dk C H b ts' t es' false ∧ t ≠ .nil ∧ t.size ≤ 12
section
variable {P : Program} {w : World} {K : PySem.W.Frag} {mg : Str → Option Value} {base : Heap} {f : Addr} {fd : FuncData} {C : Addr}
theorem ok_eqD (F : Fun K "__eq__" "Desk.__eq__" s_Desk___eq__ f fd) (M : Mgs mg) (TD : DeskC K mg C) (IC : InsK K C) : FnOk P w K mg base CX0 14 f fd ["self", "other"] (spEq (REq C)) := by
  refine F.ok (k := 13) sc_Desk___eq__ (fun vs H Q E h => ?_) (fun cdv A outer s H vs Q E hr h => ?_)
  · obtain ⟨a, b, rfl, _⟩ := h
    rfl
  obtain ⟨a, b, rfl, ⟨ts, ts', t, es, es', d1, d2, tn, tz⟩, q⟩ := h
  have bu : bootBuiltins "isinstance" = some (.builtin "isinstance") := by decide +kernel
  refine ⟨_, (pss_one (ps_ret (pe_and (pe_callB call_isi rfl M.isinstance bu (pa_cons (pv 1) (pa_cons (pe_glob (v := .ref C) rfl TD.g rfl) pa_nil))) (pe_one (pe_cmpR (op_eqG (rcG_tup mon_DT (eqG_DT (n := 12))) (hr.mono (by omega))) (pe_ix ix_tup (pe_fld (pv 0) rfl) (pe_un un_neg pe_int) (fun _ _ => rfl)) (pe_ix ix_tup (pe_fld (pv 1) rfl) (pe_un un_neg pe_int) (fun _ _ => rfl)) (nomark _)))))), ?_⟩
  obtain ⟨dx, ta, td, vs, u, ds, h1, h2, h3, h4, h5, h6⟩ := id d1
  obtain ⟨dx', ta', td', vs', u', ds', g1, g2, g3, g4, g5, g6⟩ := id d2
  refine ⟨_, rfl, _, _, .ref C, .ref C, true, rfl, .own _, .base (.ins g1 TD.cl IC.ha IC.hn IC.htk IC.hm), IC.me, true, rfl, iteT ?_⟩
  refine ⟨_, rfl, a, C, dx, _, _, rfl, h1, TD.cl, TD.nT, look_t _ _ _, 1, rfl, ta, _, _, u, rfl, rfl, SqT.of h2, atI_last _ _, ?_⟩
  refine ⟨_, rfl, b, C, dx', _, _, rfl, g1, TD.cl, TD.nT, look_t _ _ _, 1, rfl, ta', _, _, u', rfl, rfl, SqT.of g2, atI_last _ _, ?_⟩
  refine ⟨?_, q⟩
  rcases h5.inv with ⟨rfl, rfl⟩ | ⟨x1, vl, vr, x, tl, tr, rfl, rfl, ea, hvl, hvr⟩
  · exact absurd rfl tn
  rcases g5.inv with ⟨_, e⟩ | ⟨a', vl', vr', x', tl', tr', rfl, e, ea', hvl', hvr'⟩
  · cases e
  cases e
  have : tl.size + 1 + tr.size ≤ 12 := tz
  exact ⟨_, _, _, _, rfl, rfl, SqT.of ea, SqT.of ea', .cons (BAt.dt 12 tl _ _ hvl hvl' (by omega)) (.cons (DT.flat (DFlat.str _)) (.cons (BAt.dt 12 tr _ _ hvr hvr' (by omega)) .nil))⟩
end
/-! ### texts of trees -/
theorem str_par1 : Str.ofString "(" = tx [40] := by decide +kernel
theorem str_par2 : Str.ofString ")" = tx [41] := by decide +kernel
theorem str_com : Str.ofString "," = tx [44] := by decide +kernel
theorem str_bar : Str.ofString "-" = tx [45] := by decide +kernel
def B.nl : B → Bool
  | .nil => true
  | .node _ _ _ => false
def B.cs : B → List Nat
  | .nil => [45]
  | .node l x r => if (l.nl && r.nl) = true then [x] else x :: 40 :: (l.cs ++ 44 :: (r.cs ++ [41]))
theorem nl_eq {t : B} : t.nl = true ↔ t = .nil := by
  cases t with
  | nil => exact ⟨fun _ => rfl, fun _ => rfl⟩
  | node l x r => exact ⟨(fun h => nomatch h), (fun h => nomatch h)⟩
theorem cs_leaf (x : Nat) : (B.node .nil x .nil).cs = [x] := rfl
theorem cs_node {l r : B} (x : Nat) (h : ¬ (l = .nil ∧ r = .nil)) : (B.node l x r).cs = x :: 40 :: (l.cs ++ 44 :: (r.cs ++ [41])) := by
  show (if (l.nl && r.nl) = true then _ else _) = _
  rw [if_neg]
  intro z
  rw [Bool.and_eq_true, nl_eq, nl_eq] at z
  exact h z
theorem cs_len : ∀ t : B, t.cs.length ≤ 6 * t.size + 1
  | .nil => Nat.le_refl _
  | .node l x r => by
    have a1 := cs_len l
    have a2 := cs_len r
    by_cases z : l = .nil ∧ r = .nil
    · obtain ⟨rfl, rfl⟩ := z
      rw [cs_leaf]
      exact Nat.le_add_left ..
    · rw [cs_node x z]
      show _ ≤ 6 * (l.size + 1 + r.size) + 1
      simp only [List.length_append, List.length_cons, List.length_nil]
      omega
def spText (n : Nat) : Sp := fun vs H Q _ => ∃ (v : V) (t : B), vs = [v] ∧ BAt H v t ∧ t ≠ .nil ∧ t.size ≤ 60 ∧ t.deep ≤ n ∧ Q (.str (tx t.cs)) H
def spSide (n : Nat) : Sp := fun vs H Q _ => ∃ (v : V) (t : B), vs = [v] ∧ BAt H v t ∧ t.size ≤ 60 ∧ t.deep ≤ n ∧ Q (.str (tx t.cs)) H
section
variable {P : Program} {w : World} {K : PySem.W.Frag} {mg : Str → Option Value} {base : Heap} {f : Addr} {fd : FuncData}
theorem ok_side (F : Fun K "side_text" "side_text" s_side_text f fd) {n k : Nat} (Dtree_text : Df P w K mg base k "tree_text" ["tree"] (spText n)) : FnOk P w K mg base CX0 (k + 1) f fd ["side"] (spSide n) := by
  refine F.ok sc_side_text (fun vs H Q E h => ?_) (fun cdv A outer s H vs Q E hr h => ?_)
  · obtain ⟨v, t, rfl, _⟩ := h
    rfl
  obtain ⟨v, t, rfl, hv, ts, hn, q⟩ := h
  refine ⟨_, (pss_one (ps_ret (pe_ifExp (pt_cmpR op_isN (pv 0) pe_non (nomark _)) pe_str (pe_call Dtree_text.ok (hr.mono (by omega)) rfl Dtree_text.g Dtree_text.kp Dtree_text.b .nil pass0 (pa_cons (pv 0) pa_nil))))), ?_⟩
  rcases hv.inv with ⟨rfl, rfl⟩ | ⟨a, l, r, x, tl, tr, rfl, rfl, ea, hl, hr'⟩
  · refine ⟨_, rfl, rfl, _, rfl, iteT ?_⟩
    exact q
  · refine ⟨_, rfl, rfl, _, rfl, iteF ?_⟩
    exact ⟨_, rfl, _, _, rfl, hv, (fun z => nomatch z), ts, hn, q⟩
theorem ok_text0 (F : Fun K "tree_text" "tree_text" s_tree_text f fd) {n k : Nat} (Dside_text : Df P w K mg base k "side_text" ["side"] (spSide n)) : FnOk P w K mg base CX0 (k + 1) f fd ["tree"] (spText (n + 1)) := by
  refine F.ok sc_tree_text (fun vs H Q E h => ?_) (fun cdv A outer s H vs Q E hr h => ?_)
  · obtain ⟨v, t, rfl, _⟩ := h
    rfl
  obtain ⟨v, t, rfl, hv, tn, ts, hn, q⟩ := h
  refine ⟨_, (pss_cons (ps_asg (pv 0) (pg_tup rfl (pgs_cons (pg_name (i := 1) sc_tree_text.nd rfl (.inl rfl)) (pgs_cons (pg_name (i := 2) sc_tree_text.nd rfl (.inl rfl)) (pgs_cons (pg_name (i := 3) sc_tree_text.nd rfl (.inl rfl)) pgs_nil)))))
    (pss_cons (ps_if (PW.pt (pw_and (pt_cmpR op_isN (pv 1) pe_non (nomark _)) (pw_and1 (pt_cmpR op_isN (pv 3) pe_non (nomark _)))))
      (pss_one (ps_ret (pv 2))) pss_nil)
    (pss_one (ps_ret (pe_joined (PJ.cons (pe_fmt (pv 2)) (PJ.cons pe_str (PJ.cons (pe_fmt (pe_call Dside_text.ok (hr.mono (by omega)) rfl Dside_text.g Dside_text.kp Dside_text.b .nil pass0 (pa_cons (pv 1) pa_nil))) (PJ.cons pe_str (PJ.cons (pe_fmt (pe_call Dside_text.ok (hr.mono (by omega)) rfl Dside_text.g Dside_text.kp Dside_text.b .nil pass0 (pa_cons (pv 3) pa_nil))) (PJ.cons pe_str PJ.nil))))))))))), ?_⟩
  rcases hv.inv with ⟨rfl, rfl⟩ | ⟨a, l, r, x, tl, tr, rfl, rfl, ea, hl, hr'⟩
  · exact absurd rfl tn
  · refine ⟨_, rfl, a, _, rfl, SqT.of ea, rfl, l, _, rfl, .str (ch x), _, rfl, r, _, rfl, rfl, ?_⟩
    have hd : 1 + max tl.deep tr.deep ≤ n + 1 := hn
    have hz : tl.size + 1 + tr.size ≤ 60 := ts
    have c1 := cs_len tl
    have c2 := cs_len tr
    have fin : ∀ (hnn : ¬ (tl = .nil ∧ tr = .nil)), Q (.str (((((Str.empty ++ ch x) ++ Str.ofString "(") ++ tx tl.cs) ++ Str.ofString ",") ++ tx tr.cs ++ Str.ofString ")")) H := fun hnn => by
      have e : ((((Str.empty ++ ch x) ++ Str.ofString "(") ++ tx tl.cs) ++ Str.ofString ",") ++ tx tr.cs ++ Str.ofString ")" = tx (B.node tl x tr).cs := by
        rw [cs_node x hnn, show Str.empty = tx [] from rfl, str_par1, str_com, str_par2, ← tx_one x, tx_app, tx_app, tx_app, tx_app, tx_app, tx_app]
        simp [tx]
      rw [e]
      exact q
    have ln : ∀ l : List Nat, l.length ≤ 1000 → (tx l).length ≤ sizeLine := fun l h => small h
    have fmt : ∀ (hnn : ¬ (tl = .nil ∧ tr = .nil)), tRet (fun σ H Q => tJs [tFmt (tVar 2), tC (.str (Str.ofString "(")), tFmt (tCall (spSide n) [] E0 (tCons (tVar 1) tNil)), tC (.str (Str.ofString ",")), tFmt (tCall (spSide n) [] E0 (tCons (tVar 3) tNil)), tC (.str (Str.ofString ")"))] Str.empty σ H fun out H1 => Q (.str out) H1) { nx := fun x H' => Q V.non H', rt := Q } [some (.ref a), some l, some (.str (ch x)), some r] H := fun hnn => by
      have f := fin hnn
      rw [show Str.empty = tx [] from rfl, str_par1, str_com, str_par2] at f ⊢
      rw [← tx_one x] at f ⊢
      refine ⟨_, rfl, .inl ⟨_, rfl, ln _ (by simp), _, rfl, by rw [tx_app]; exact ln _ (by simp), ?_⟩⟩
      refine ⟨_, rfl, by rw [tx_app, tx_app]; exact ln _ (by simp), ?_⟩
      refine ⟨_, rfl, l, tl, rfl, hl, by omega, by omega, .inl ⟨_, rfl, ln _ (by omega), _, rfl, by rw [tx_app, tx_app, tx_app]; exact ln _ (by simp only [List.length_append, List.length_cons, List.length_nil]; omega), ?_⟩⟩
      refine ⟨_, rfl, by rw [tx_app, tx_app, tx_app, tx_app]; exact ln _ (by simp only [List.length_append, List.length_cons, List.length_nil]; omega), ?_⟩
      refine ⟨_, rfl, r, tr, rfl, hr', by omega, by omega, .inl ⟨_, rfl, ln _ (by omega), _, rfl, by rw [tx_app, tx_app, tx_app, tx_app, tx_app]; exact ln _ (by simp only [List.length_append, List.length_cons, List.length_nil]; omega), ?_⟩⟩
      refine ⟨_, rfl, by rw [tx_app, tx_app, tx_app, tx_app, tx_app, tx_app]; exact ln _ (by simp only [List.length_append, List.length_cons, List.length_nil]; omega), ?_⟩
      exact f
    rcases hl.inv with ⟨rfl, rfl⟩ | ⟨a1, l1, r1, x1, tl1, tr1, rfl, rfl, ea1, hl1, hr1⟩
    · refine ⟨_, rfl, rfl, _, rfl, iteT ?_⟩
      rcases hr'.inv with ⟨rfl, rfl⟩ | ⟨a2, l2, r2, x2, tl2, tr2, rfl, rfl, ea2, hl2, hr2⟩
      · refine ⟨_, rfl, rfl, _, rfl, iteT ?_⟩
        exact ⟨_, rfl, q⟩
      · refine ⟨_, rfl, rfl, _, rfl, iteF ?_⟩
        exact fmt (fun z => nomatch z.2)
    · refine ⟨_, rfl, rfl, _, rfl, iteF ?_⟩
      exact fmt (fun z => nomatch z.1)
theorem ok_texts {f1 f2 : Addr} {fd1 fd2 : FuncData} (F1 : Fun K "tree_text" "tree_text" s_tree_text f1 fd1) (b1 : Binds K fd1 ["tree"] []) (g1 : mg "tree_text" = some (.ref f1)) (F2 : Fun K "side_text" "side_text" s_side_text f2 fd2) (b2 : Binds K fd2 ["side"] []) (g2 : mg "side_text" = some (.ref f2)) :
    ∀ n : Nat, FnOk P w K mg base CX0 (2 * n) f1 fd1 ["tree"] (spText n)
  | 0 => by
    have no : ∀ vs H Q E, ¬ spText 0 vs H Q E := fun vs H Q E h => by
      obtain ⟨v, t, _, _, tn, _, h1, _⟩ := h
      cases t with
      | nil => exact tn rfl
      | node l x r =>
        have h2 : 1 + max l.deep r.deep ≤ 0 := h1
        omega
    exact ⟨fun vs H Q E h => absurd h (no vs H Q E), fun A outer s H args us vs Q E _ _ _ _ h => absurd h (no vs H Q E)⟩
  | n + 1 => ok_text0 F1 (n := n) (k := 2 * n + 1) ⟨f2, fd2, ok_side F2 ⟨f1, fd1, ok_texts F1 b1 g1 F2 b2 g2 n, b1, F1.kp, g1⟩, b2, F2.kp, g2⟩
end
/-! ### a tree's own text read -/
theorem iteI {i j : Int} {A B : Prop} (h : i = j) (a : A) : if decide (V.int i = V.int j) = true then A else B := by
  rw [if_pos (decide_eq_true (congrArg V.int h))]; exact a
theorem iteJ {i j : Int} {A B : Prop} (h : i ≠ j) (b : B) : if decide (V.int i = V.int j) = true then A else B := by
  rw [if_neg (fun z => h (V.int.inj (of_decide_eq_true z)))]; exact b
def sg (t : List Nat) (i : Nat) : List Nat := (t.drop i).take 1
theorem sg_hd {t : List Nat} {i c : Nat} {R : List Nat} (h : t.drop i = c :: R) : sg t i = [c] := by
  unfold sg
  rw [h]
  rfl
theorem sg_eq {l : List Nat} {c d : Nat} {y : Str} (hy : y = tx [c]) (h : l = [d]) : decide (V.str (tx l) = V.str y) = decide (d = c) := by
  subst hy h
  by_cases e : d = c
  · subst e
    rw [decide_eq_true rfl, decide_eq_true rfl]
  · rw [decide_eq_false (fun z => e (by have := tx_inj (V.str.inj z); injection this)), decide_eq_false e]
theorem sg_no {l : List Nat} {c : Nat} {y : Str} (hy : y = tx [c]) (h : l.head? ≠ some c) : decide (V.str (tx l) = V.str y) = false := by
  subst hy
  refine decide_eq_false fun z => h ?_
  rw [tx_inj (V.str.inj z)]
  rfl
theorem dr_app {t a R : List Nat} {i : Nat} (h : t.drop i = a ++ R) : t.drop (i + a.length) = R := by
  rw [← List.drop_drop, h, List.drop_left]
theorem dr_one {t R : List Nat} {i c : Nat} (h : t.drop i = c :: R) : t.drop (i + 1) = R := dr_app (a := [c]) h
theorem tx_sl (l : List Nat) (i j : Nat) (h : i ≤ j) : cutS (tx l) (some (i : Int)) (some (j : Int)) = tx ((l.drop i).take (j - i)) := by
  unfold cutS tx
  show (⟨_⟩ : Str) = ⟨_⟩
  rw [HT.sIx_nat, HT.sIx_nat]
  show (⟨((l.drop (min i l.length)).take (min j l.length - min i l.length)).toArray⟩ : Str) = _
  by_cases hi : i ≤ l.length
  · rw [Nat.min_eq_left hi]
    by_cases hj : j ≤ l.length
    · rw [Nat.min_eq_left hj]
    · rw [Nat.min_eq_right (by omega), List.take_of_length_le (by rw [List.length_drop]; omega), List.take_of_length_le (by rw [List.length_drop]; omega)]
  · rw [Nat.min_eq_right (show l.length ≤ i by omega), List.drop_eq_nil_of_le (Nat.le_refl _), List.drop_eq_nil_of_le (by omega), List.take_nil, List.take_nil]
theorem cs_hd {t : B} (h : t ≠ .nil) : ∃ c R, t.cs = c :: R ∧ (t.lts → isLow c = true) := by
  cases t with
  | nil => exact absurd rfl h
  | node l x r =>
    by_cases z : l = .nil ∧ r = .nil
    · obtain ⟨rfl, rfl⟩ := z
      exact ⟨x, [], rfl, fun h => (B.lts_node.mp h).1⟩
    · exact ⟨x, _, cs_node x z, fun h => (B.lts_node.mp h).1⟩
theorem low_not {c : Nat} (h : isLow c = true) : c ≠ 40 ∧ c ≠ 41 ∧ c ≠ 44 ∧ c ≠ 45 := by
  unfold isLow at h
  rw [Bool.and_eq_true, decide_eq_true_eq, decide_eq_true_eq] at h
  omega
def spSgn : Sp := fun vs H Q _ => ∃ (t : List Nat) (i : Nat), vs = [.str (tx t), .int (i : Int)] ∧ t.length ≤ 5000 ∧ Q (.str (tx (sg t i))) H
def RdB (H : Hp) (Q : VK) (i : Nat) (x : B) : Prop := ∀ (v : V) (p : Addr) (H' : Hp), Same H H' → BAt H' v x → H' p = some (.tup [v, .int ((i + x.cs.length : Nat) : Int)]) → Q (.ref p) H'
def spRead (n : Nat) : Sp := fun vs H Q _ => ∃ (t : List Nat) (i room : Nat) (x : B) (R : List Nat), vs = [.str (tx t), .int (i : Int), .int (room : Int)] ∧ t.length ≤ 5000 ∧ t.drop i = x.cs ++ R ∧ R.head? ≠ some 40 ∧ x ≠ .nil ∧ x.lts ∧ x.size ≤ room ∧ room < n ∧ n ≤ 13 ∧ RdB H Q i x
def spSideR (n : Nat) : Sp := fun vs H Q _ => ∃ (t : List Nat) (i room : Nat) (x : B) (R : List Nat), vs = [.str (tx t), .int (i : Int), .int (room : Int)] ∧ t.length ≤ 5000 ∧ t.drop i = x.cs ++ R ∧ R.head? ≠ some 40 ∧ x.lts ∧ x.size ≤ room ∧ room < n ∧ n ≤ 13 ∧ RdB H Q i x
def spLeftR (n : Nat) : Sp := fun vs H Q _ => ∃ (t : List Nat) (i room : Nat) (x : B) (R : List Nat), vs = [.str (tx t), .int (i : Int), .int (room : Int)] ∧ t.length ≤ 5000 ∧ t.drop i = x.cs ++ 44 :: R ∧ x.lts ∧ x.size ≤ room ∧ room < n ∧ n ≤ 13 ∧ RdB H Q i x
section
variable {P : Program} {w : World} {K : PySem.W.Frag} {mg : Str → Option Value} {base : Heap} {f : Addr} {fd : FuncData}
theorem ok_sign {k : Nat} (F : Fun K "sign_at" "sign_at" s_sign_at f fd) : FnOk P w K mg base CX0 (k + 1) f fd ["text", "at"] spSgn := by
  refine F.ok sc_sign_at (fun vs H Q E h => ?_) (fun cdv A outer s H vs Q E hr h => ?_)
  · obtain ⟨t, i, rfl, _⟩ := h
    rfl
  obtain ⟨t, i, rfl, ht, q⟩ := h
  refine ⟨_, (pss_one (ps_ret (pe_slice sl_str (pv 0) (po_some (pv 1)) (po_some (pe_op op_add (pv 1) pe_int))))), ?_⟩
  refine ⟨_, rfl, _, rfl, _, rfl, _, rfl, _, _, rfl, rfl, _, rfl, _, rfl, Nat.le_trans (show (tx t).length ≤ 5000 from ht) (by decide), ?_⟩
  have e : (i : Int) + 1 = ((i + 1 : Nat) : Int) := by omega
  rw [e, tx_sl t i (i + 1) (by omega), show i + 1 - i = 1 by omega]
  exact q
theorem ok_sideR (F : Fun K "read_side" "read_side" s_read_side f fd) {n k : Nat} (Dsign_at : Df P w K mg base 1 "sign_at" ["text", "at"] spSgn) (Dread_tree : Df P w K mg base k "read_tree" ["text", "at", "room"] (spRead n)) (hk : 1 ≤ k) : FnOk P w K mg base CX0 (k + 1) f fd ["text", "at", "room"] (spSideR n) := by
  refine F.ok sc_read_side (fun vs H Q E h => ?_) (fun cdv A outer s H vs Q E hr h => ?_)
  · obtain ⟨t, i, room, x, R, rfl, _⟩ := h
    rfl
  obtain ⟨t, i, room, x, R, rfl, ht, hd, hR, xl, xz, hn, h13, q⟩ := h
  refine ⟨_, (pss_cons (ps_if (pt_cmpR op_eq (pe_call Dsign_at.ok (hr.mono (by omega)) rfl Dsign_at.g Dsign_at.kp Dsign_at.b .nil pass0 (pa_cons (pv 0) (pa_cons (pv 1) pa_nil))) pe_str (nomark _))
      (pss_one (ps_ret (pe_tup (pa_cons pe_non (pa_cons (pe_op op_add (pv 1) pe_int) pa_nil))))) pss_nil)
    (pss_one (ps_ret (pe_call Dread_tree.ok (hr.mono (by omega)) rfl Dread_tree.g Dread_tree.kp Dread_tree.b .nil pass0 (pa_cons (pv 0) (pa_cons (pv 1) (pa_cons (pv 2) pa_nil))))))), ?_⟩
  refine ⟨_, rfl, _, rfl, t, i, rfl, ht, rfl, _, rfl, ?_⟩
  cases x with
  | nil =>
    rw [sg_eq str_bar (sg_hd hd)]
    refine iteT ⟨_, rfl, _, _, rfl, rfl, (by show 2 ≤ sizeLine; decide), fun p np => ?_⟩
    have e : (i : Int) + 1 = ((i + 1 : Nat) : Int) := by omega
    refine q .non p _ (same_new np _) .nil ?_
    show upd H p (.tup [V.non, V.int ((i : Int) + 1)]) p = _
    rw [upd_same, e]
    rfl
  | node l c r =>
    have xn : B.node l c r ≠ .nil := fun z => nomatch z
    obtain ⟨d, R', e1, e2⟩ := cs_hd xn
    have hd' := hd
    rw [e1] at hd'
    rw [sg_eq str_bar (sg_hd hd'), decide_eq_false (low_not (e2 xl)).2.2.2]
    exact iteF ⟨_, rfl, _, rfl, _, rfl, t, i, room, _, R, rfl, ht, hd, hR, xn, xl, xz, hn, h13, q⟩
theorem ok_leftR (F : Fun K "read_left" "read_left" s_read_left f fd) {n k : Nat} (Dsign_at : Df P w K mg base 1 "sign_at" ["text", "at"] spSgn) (Dread_side : Df P w K mg base k "read_side" ["text", "at", "room"] (spSideR n)) (hk : 1 ≤ k) :
    FnOk P w K mg base CX0 (k + 1) f fd ["text", "at", "room"] (spLeftR n) := by
  refine F.ok sc_read_left (fun vs H Q E h => ?_) (fun cdv A outer s H vs Q E hr h => ?_)
  · obtain ⟨t, i, room, x, R, rfl, _⟩ := h
    rfl
  obtain ⟨t, i, room, x, R, rfl, ht, hd, xl, xz, hn, h13, q⟩ := h
  refine ⟨_, (pss_cons (ps_asg (pe_call Dread_side.ok (hr.mono (by omega)) rfl Dread_side.g Dread_side.kp Dread_side.b .nil pass0 (pa_cons (pv 0) (pa_cons (pv 1) (pa_cons (pv 2) pa_nil)))) (pg_tup rfl (pgs_cons (pg_name (i := 3) sc_read_left.nd rfl (.inl rfl)) (pgs_cons (pg_name (i := 4) sc_read_left.nd rfl (.inl rfl)) pgs_nil))))
    (pss_cons (ps_if (pt_cmpR op_ne (pe_call Dsign_at.ok (hr.mono (by omega)) rfl Dsign_at.g Dsign_at.kp Dsign_at.b .nil pass0 (pa_cons (pv 0) (pa_cons (pv 4) pa_nil))) pe_str (nomark _))
      (pss_one ps_never) pss_nil)
    (pss_one (ps_ret (pe_tup (pa_cons (pv 3) (pa_cons (pv 4) pa_nil))))))), ?_⟩
  refine ⟨_, rfl, _, rfl, _, rfl, t, i, room, x, _, rfl, ht, hd, (by simp), xl, xz, hn, h13, fun v p H1 s1 a1 ep => ?_⟩
  refine ⟨p, _, rfl, SqT.of ep, rfl, v, _, rfl, .int _, _, rfl, rfl, ?_⟩
  refine ⟨_, rfl, _, rfl, t, i + x.cs.length, rfl, ht, rfl, _, rfl, ?_⟩
  rw [sg_eq str_com (sg_hd (dr_app hd))]
  refine iteF ⟨_, rfl, _, rfl, (by show 2 ≤ sizeLine; decide), fun r nr => ?_⟩
  have q1 := same_new nr (.tup [v, .int ((i + x.cs.length : Nat) : Int)])
  exact q v r _ (s1.trans q1) (a1.same q1) upd_same
theorem ok_read0 (F : Fun K "read_tree" "read_tree" s_read_tree f fd) (M : Mgs mg) {n k : Nat} (hk : 20 ≤ k) (Dsign_at : Df P w K mg base 1 "sign_at" ["text", "at"] spSgn) (Dis_letter : Df P w K mg base 1 "is_letter" ["value"] spLow)
    (Dsize_of : Df P w K mg base 20 "size_of" ["tree"] (spSz 20)) (Dself : Df P w K mg base k "read_tree" ["text", "at", "room"] (spRead n)) (Dread_side : Df P w K mg base (k + 1) "read_side" ["text", "at", "room"] (spSideR n)) (Dread_left : Df P w K mg base (k + 2) "read_left" ["text", "at", "room"] (spLeftR n)) :
    FnOk P w K mg base CX0 (k + 3) f fd ["text", "at", "room"] (spRead (n + 1)) := by
  refine F.ok sc_read_tree (fun vs H Q E h => ?_) (fun cdv A outer s H vs Q E hr h => ?_)
  · obtain ⟨t, i, room, x, R, rfl, _⟩ := h
    rfl
  obtain ⟨t, i, room, x, R, rfl, ht, hd, hR, xn, xl, xz, hn, h13, q⟩ := h
  refine ⟨_, (pss_cons (ps_set (i := 3) sc_read_tree.nd rfl (.inl rfl) (pe_call Dsign_at.ok (hr.mono (by omega)) rfl Dsign_at.g Dsign_at.kp Dsign_at.b .nil pass0 (pa_cons (pv 0) (pa_cons (pv 1) pa_nil))))
    (pss_cons (ps_if (PW.pt (pw_or (pt_cmpR op_eq (pv 2) pe_int (nomark _)) (pw_or1 (pt_not (pt_val (pe_call Dis_letter.ok (hr.mono (by omega)) rfl Dis_letter.g Dis_letter.kp Dis_letter.b .nil pass0 (pa_cons (pv 3) pa_nil)))))))
      (pss_one ps_never) pss_nil)
    (pss_cons (ps_if (pt_cmpR op_ne (pe_call Dsign_at.ok (hr.mono (by omega)) rfl Dsign_at.g Dsign_at.kp Dsign_at.b .nil pass0 (pa_cons (pv 0) (pa_cons (pe_op op_add (pv 1) pe_int) pa_nil))) pe_str (nomark _))
      (pss_one (ps_ret (pe_tup (pa_cons (pe_tup (pa_cons pe_non (pa_cons (pv 3) (pa_cons pe_non pa_nil)))) (pa_cons (pe_op op_add (pv 1) pe_int) pa_nil))))) pss_nil)
    (pss_cons (ps_if (pt_cmpR op_eq (pv 2) pe_int (nomark _))
      (pss_one ps_never) pss_nil)
    (pss_cons (ps_asg (pe_call Dread_left.ok (hr.mono (by omega)) rfl Dread_left.g Dread_left.kp Dread_left.b .nil pass0 (pa_cons (pv 0) (pa_cons (pe_op op_add (pv 1) pe_int) (pa_cons (pe_op op_sub (pv 2) pe_int) pa_nil)))) (pg_tup rfl (pgs_cons (pg_name (i := 4) sc_read_tree.nd rfl (.inl rfl)) (pgs_cons (pg_name (i := 5) sc_read_tree.nd rfl (.inl rfl)) pgs_nil))))
    (pss_cons (ps_set (i := 6) sc_read_tree.nd rfl (.inl rfl) (pe_op op_sub (pe_op op_sub (pv 2) pe_int) (pe_call Dsize_of.ok (hr.mono (by omega)) rfl Dsize_of.g Dsize_of.kp Dsize_of.b .nil pass0 (pa_cons (pv 4) pa_nil))))
    (pss_cons (ps_asg (pe_ifExp (pt_cmpR op_isN (pv 4) pe_non (nomark _)) (pe_call Dself.ok (hr.mono (by omega)) rfl Dself.g Dself.kp Dself.b .nil pass0 (pa_cons (pv 0) (pa_cons (pe_op op_add (pv 5) pe_int) (pa_cons (pv 6) pa_nil)))) (pe_call Dread_side.ok (hr.mono (by omega)) rfl Dread_side.g Dread_side.kp Dread_side.b .nil pass0 (pa_cons (pv 0) (pa_cons (pe_op op_add (pv 5) pe_int) (pa_cons (pv 6) pa_nil))))) (pg_tup rfl (pgs_cons (pg_name (i := 7) sc_read_tree.nd rfl (.inl rfl)) (pgs_cons (pg_name (i := 8) sc_read_tree.nd rfl (.inl rfl)) pgs_nil))))
    (pss_cons (ps_if (pt_cmpR op_ne (pe_call Dsign_at.ok (hr.mono (by omega)) rfl Dsign_at.g Dsign_at.kp Dsign_at.b .nil pass0 (pa_cons (pv 0) (pa_cons (pv 8) pa_nil))) pe_str (nomark _))
      (pss_one ps_never) pss_nil)
    (pss_one (ps_ret (pe_tup (pa_cons (pe_tup (pa_cons (pv 4) (pa_cons (pv 3) (pa_cons (pv 7) pa_nil)))) (pa_cons (pe_op op_add (pv 8) pe_int) pa_nil))))))))))))), ?_⟩
  refine ⟨_, rfl, _, rfl, t, i, rfl, ht, _, rfl, rfl, _, rfl, ?_⟩
  have x1 := B.size_pos xn
  refine iteJ (by omega) ⟨_, rfl, sg t i, rfl, List.length_take_le _ _, _, rfl, ?_⟩
  cases x with
  | nil => exact absurd rfl xn
  | node l c r =>
  obtain ⟨hc, ll, rl⟩ := B.lts_node.mp xl
  have xz' : l.size + 1 + r.size ≤ room := xz
  have e1 : (i : Int) + 1 = ((i + 1 : Nat) : Int) := by omega
  by_cases z : l = .nil ∧ r = .nil
  · obtain ⟨rfl, rfl⟩ := z
    have hd : t.drop i = c :: R := hd
    rw [sg_hd hd, show isLt [c] = true from hc]
    refine iteF ⟨_, rfl, _, rfl, _, _, rfl, rfl, t, i + 1, (by show [V.str (tx t), V.int ((i : Int) + 1)] = _; rw [e1]), ht, rfl, _, rfl, ?_⟩
    rw [sg_no str_par1 (by unfold sg; rw [dr_one hd, List.head?_take]; simpa using hR)]
    refine iteT ⟨_, rfl, (by show 3 ≤ sizeLine; decide), fun p np => ?_⟩
    have q1 := same_new np (.tup [V.non, V.str (tx [c]), V.non])
    refine ⟨_, rfl, _, _, rfl, rfl, (by show 2 ≤ sizeLine; decide), fun p2 np2 => ?_⟩
    have q2 := same_new np2 (.tup [V.ref p, V.int ((i : Int) + 1)])
    refine q (.ref p) p2 _ (q1.trans q2) (BAt.same q2 (.node (x := c) upd_same .nil .nil)) ?_
    exact upd_same
  · rw [cs_node c z] at hd
    have hd : t.drop i = c :: 40 :: (l.cs ++ 44 :: (r.cs ++ 41 :: R)) := by rw [hd]; simp
    have h1 := dr_one hd
    have h2 : t.drop (i + 2) = l.cs ++ 44 :: (r.cs ++ 41 :: R) := dr_one h1
    have h3 : t.drop (i + 2 + l.cs.length + 1) = r.cs ++ 41 :: R := dr_one (dr_app h2)
    have h4 : t.drop (i + 2 + l.cs.length + 1 + r.cs.length) = 41 :: R := dr_app h3
    have hs2 : l.size + r.size ≥ 1 := by
      by_cases zl : l = .nil
      · have := B.size_pos (t := r) (fun zr => z ⟨zl, zr⟩)
        omega
      · have := B.size_pos zl
        omega
    rw [sg_hd hd, show isLt [c] = true from hc]
    refine iteF ⟨_, rfl, _, rfl, _, _, rfl, rfl, t, i + 1, (by show [V.str (tx t), V.int ((i : Int) + 1)] = _; rw [e1]), ht, rfl, _, rfl, ?_⟩
    rw [sg_eq str_par1 (sg_hd h1)]
    refine iteF ⟨_, rfl, rfl, _, rfl, ?_⟩
    have e2 : (i : Int) + 2 = ((i + 2 : Nat) : Int) := by omega
    have e3 : (room : Int) - 1 = ((room - 1 : Nat) : Int) := by omega
    refine iteJ (by omega) ⟨_, rfl, _, rfl, _, _, rfl, rfl, _, rfl, _, _, rfl, rfl, t, i + 2, room - 1, l, _, (by show [V.str (tx t), V.int ((i : Int) + 2), V.int ((room : Int) - 1)] = _; rw [e2, e3]), ht, h2, ll, by omega, by omega, by omega, ?_⟩
    intro vl p1 H1 s1 a1 ep1
    refine ⟨p1, _, rfl, SqT.of ep1, rfl, vl, _, rfl, .int _, _, rfl, rfl, ?_⟩
    refine ⟨_, rfl, _, _, rfl, rfl, _, rfl, vl, l, rfl, a1, by omega, _, _, rfl, rfl, ?_⟩
    have e4 : (room : Int) - 1 - (l.size : Int) = ((room - 1 - l.size : Nat) : Int) := by omega
    have e5 : ((i + 2 + l.cs.length : Nat) : Int) + 1 = ((i + 2 + l.cs.length + 1 : Nat) : Int) := by omega
    refine ⟨_, rfl, rfl, _, rfl, ?_⟩
    have fin : ∀ (vr : V) (p2 : Addr) (H2 : Hp), Same H1 H2 → BAt H2 vr r → ∀ p3, H2 p3 = none → ∀ p4, (upd H2 p3 (.tup [vl, V.str (tx [c]), vr])) p4 = none → Q (.ref p4) (upd (upd H2 p3 (.tup [vl, V.str (tx [c]), vr])) p4 (.tup [V.ref p3, V.int (((i + 2 + l.cs.length + 1 + r.cs.length : Nat) : Int) + 1)])) := fun vr p2 H2 s2 a2 p3 np3 p4 np4 => by
      have q3 := same_new np3 (.tup [vl, V.str (tx [c]), vr])
      have q4 := same_new np4 (.tup [V.ref p3, V.int (((i + 2 + l.cs.length + 1 + r.cs.length : Nat) : Int) + 1)])
      refine q (.ref p3) p4 _ ((s1.trans s2).trans (q3.trans q4)) (BAt.same q4 (.node (x := c) upd_same ((a1.same s2).same q3) (a2.same q3))) ?_
      have e6 : i + (B.node l c r).cs.length = i + 2 + l.cs.length + 1 + r.cs.length + 1 := by
        rw [cs_node c z]
        simp only [List.length_append, List.length_cons, List.length_nil]
        omega
      rw [e6, show (((i + 2 + l.cs.length + 1 + r.cs.length + 1 : Nat)) : Int) = ((i + 2 + l.cs.length + 1 + r.cs.length : Nat) : Int) + 1 by omega]
      exact upd_same
    rcases a1.inv with ⟨rfl, rfl⟩ | ⟨al, l1, l2, lx, t1, t2, rfl, rfl, eal, hl1, hl2⟩
    · refine iteT ⟨_, rfl, _, rfl, _, _, rfl, rfl, _, rfl, t, i + 2 + B.nil.cs.length + 1, room - 1 - B.nil.size, r, _, (by show [V.str (tx t), V.int (((i + 2 + B.nil.cs.length : Nat) : Int) + 1), V.int ((room : Int) - 1 - (B.nil.size : Int))] = _; rw [e5, e4]), ht, h3, (by simp), (fun zr => z ⟨rfl, zr⟩), rl, by omega, by omega, by omega, ?_⟩
      intro vr p2 H2 s2 a2 ep2
      refine ⟨p2, _, rfl, SqT.of ep2, rfl, vr, _, rfl, .int _, _, rfl, rfl, ?_⟩
      refine ⟨_, rfl, _, rfl, t, _, rfl, ht, rfl, _, rfl, ?_⟩
      rw [sg_eq str_par2 (sg_hd h4)]
      refine iteF ⟨_, rfl, _, rfl, _, rfl, (by show 3 ≤ sizeLine; decide), fun p3 np3 => ?_⟩
      exact ⟨_, rfl, _, _, rfl, rfl, (by show 2 ≤ sizeLine; decide), fun p4 np4 => fin vr p2 H2 s2 a2 p3 np3 p4 np4⟩
    · refine iteF ⟨_, rfl, _, rfl, _, _, rfl, rfl, _, rfl, t, i + 2 + (B.node t1 lx t2).cs.length + 1, room - 1 - (B.node t1 lx t2).size, r, _, (by show [V.str (tx t), V.int (((i + 2 + (B.node t1 lx t2).cs.length : Nat) : Int) + 1), V.int ((room : Int) - 1 - ((B.node t1 lx t2).size : Int))] = _; rw [e5, e4]), ht, h3, (by simp), rl, by omega, by omega, by omega, ?_⟩
      intro vr p2 H2 s2 a2 ep2
      refine ⟨p2, _, rfl, SqT.of ep2, rfl, vr, _, rfl, .int _, _, rfl, rfl, ?_⟩
      refine ⟨_, rfl, _, rfl, t, _, rfl, ht, rfl, _, rfl, ?_⟩
      rw [sg_eq str_par2 (sg_hd h4)]
      refine iteF ⟨_, rfl, _, rfl, _, rfl, (by show 3 ≤ sizeLine; decide), fun p3 np3 => ?_⟩
      exact ⟨_, rfl, _, _, rfl, rfl, (by show 2 ≤ sizeLine; decide), fun p4 np4 => fin vr p2 H2 s2 a2 p3 np3 p4 np4⟩
theorem ok_reads {f1 f2 f3 : Addr} {fd1 fd2 fd3 : FuncData} (F1 : Fun K "read_tree" "read_tree" s_read_tree f1 fd1) (b1 : Binds K fd1 ["text", "at", "room"] []) (g1 : mg "read_tree" = some (.ref f1)) (F2 : Fun K "read_side" "read_side" s_read_side f2 fd2) (b2 : Binds K fd2 ["text", "at", "room"] []) (g2 : mg "read_side" = some (.ref f2))
    (F3 : Fun K "read_left" "read_left" s_read_left f3 fd3) (b3 : Binds K fd3 ["text", "at", "room"] []) (g3 : mg "read_left" = some (.ref f3)) (M : Mgs mg)
    (Dsign_at : Df P w K mg base 1 "sign_at" ["text", "at"] spSgn) (Dis_letter : Df P w K mg base 1 "is_letter" ["value"] spLow) (Dsize_of : Df P w K mg base 20 "size_of" ["tree"] (spSz 20)) :
    ∀ n : Nat, FnOk P w K mg base CX0 (20 + 3 * n) f1 fd1 ["text", "at", "room"] (spRead n)
  | 0 => by
    have no : ∀ vs H Q E, ¬ spRead 0 vs H Q E := fun vs H Q E h => by
      obtain ⟨t, i, room, x, R, _, _, _, _, _, _, _, h1, _⟩ := h
      omega
    exact ⟨fun vs H Q E h => absurd h (no vs H Q E), fun A outer s H args us vs Q E _ _ _ _ h => absurd h (no vs H Q E)⟩
  | n + 1 => by
    have DT : Df P w K mg base (20 + 3 * n) "read_tree" ["text", "at", "room"] (spRead n) := ⟨f1, fd1, ok_reads F1 b1 g1 F2 b2 g2 F3 b3 g3 M Dsign_at Dis_letter Dsize_of n, b1, F1.kp, g1⟩
    have DS : Df P w K mg base (20 + 3 * n + 1) "read_side" ["text", "at", "room"] (spSideR n) := ⟨f2, fd2, ok_sideR F2 Dsign_at DT (by omega), b2, F2.kp, g2⟩
    have DL : Df P w K mg base (20 + 3 * n + 2) "read_left" ["text", "at", "room"] (spLeftR n) := ⟨f3, fd3, ok_leftR F3 Dsign_at DS (by omega), b3, F3.kp, g3⟩
    exact ok_read0 F1 M (k := 20 + 3 * n) (by omega) Dsign_at Dis_letter Dsize_of DT DS DL
def spParse : Sp := fun vs H Q _ => ∃ x : B, vs = [.str (tx x.cs)] ∧ x ≠ .nil ∧ x.lts ∧ x.size ≤ 12 ∧ ∀ (v : V) (H' : Hp), Same H H' → BAt H' v x → Q v H'
theorem ok_parse {tM : Tok} (F : Fun K "parse_tree" "parse_tree" s_parse_tree f fd) (M : Mgs mg) (mMAX : mg "MAX_NODES" = some (.int 12 tM)) (Dread_tree : Df P w K mg base 59 "read_tree" ["text", "at", "room"] (spRead 13)) :
    FnOk P w K mg base CX0 60 f fd ["text"] spParse := by
  refine F.ok sc_parse_tree (fun vs H Q E h => ?_) (fun cdv A outer s H vs Q E hr h => ?_)
  · obtain ⟨x, rfl, _⟩ := h
    rfl
  refine ⟨_, (pss_cons (ps_if (pt_not (pt_val (pe_callB call_isi rfl M.isinstance (by decide +kernel) (pa_cons (pv 0) (pa_cons (pe_bltn (v := .ty "str") rfl M.str (by decide +kernel) rfl) pa_nil)))))
      (pss_one ps_never) pss_nil)
    (pss_cons (ps_asg (pe_call Dread_tree.ok (hr.mono (by omega)) rfl Dread_tree.g Dread_tree.kp Dread_tree.b .nil pass0 (pa_cons (pv 0) (pa_cons pe_int (pa_cons (pe_glob (v := .int _) rfl mMAX ⟨_, rfl⟩) pa_nil)))) (pg_tup rfl (pgs_cons (pg_name (i := 1) sc_parse_tree.nd rfl (.inl rfl)) (pgs_cons (pg_name (i := 2) sc_parse_tree.nd rfl (.inl rfl)) pgs_nil))))
    (pss_cons (ps_if (pt_cmpR op_lt (pv 2) (pe_callB call_len_str rfl M.len PySem.boot_len (pa_cons (pv 0) pa_nil)) (nomark _))
      (pss_one ps_never) pss_nil)
    (pss_one (ps_ret (pv 1)))))), ?_⟩
  obtain ⟨x, rfl, xn, xl, xz, q⟩ := h
  have hl := cs_len x
  refine ⟨_, rfl, _, _, _, _, true, rfl, .ty _, .base (.str (tx x.cs)), kit_ty (by decide +kernel), _, rfl, iteF ?_⟩
  refine ⟨_, rfl, x.cs, 0, 12, x, [], rfl, by omega, (by rw [List.append_nil]; rfl), (by simp), xn, xl, xz, by omega, Nat.le_refl _, ?_⟩
  intro v p H1 s1 a1 ep
  rw [Nat.zero_add] at ep
  refine ⟨p, _, rfl, SqT.of ep, rfl, v, _, rfl, .int _, _, rfl, rfl, ?_⟩
  refine ⟨_, rfl, _, rfl, tx x.cs, rfl, small (by rw [tx_len]; omega), _, _, rfl, rfl, _, rfl, ?_⟩
  rw [decide_eq_false (show ¬ ((x.cs.length : Nat) : Int) < ((tx x.cs).length : Nat) by rw [tx_len]; omega)]
  exact iteF ⟨_, rfl, q v H1 s1 a1⟩
end
end Tw --
/-! ### a method whose first statement calls super().m(..) -/
namespace SuX
open PySem PySem.Spec PyProof.Rows L2 ClX
structure ScopeS (N : List Str) (sc : Scope) : Prop where
  kind : sc.kind = .function
  co : sc.isCoroutine = false
  gen : sc.isGenerator = false
  nd : N.Nodup
  nocell : ∀ y ∈ sc.names, y.2 ≠ .cell
  free : ∀ y ∈ sc.names, y.2 = .free → y.1 = ("__class__" : Str)
  su : sc.names.lookup ("super" : Str) = some .globalImplicit
  cls : sc.names.lookup ("__class__" : Str) = some .free
/-- the context of such a body -/
def cxS (CX : CXT) (P : Program) (w : World) (K : PySem.W.Frag) (mg : Str → Option Value) (base : Heap) (N : List Str) (qual : Str) (scope : Scope) (f : Addr) (cd : Value) (cc : Addr) (A : Around) (outer : List Env) (s : Shared) (H : Hp) (E : XK) : Cx where
  prog := P
  w := w
  K := K
  mg := mg
  base := base
  A := A.deeper (PySem.W.ksEnv qual scope s.heap.objs.size f cd cc)
  N := N
  s_0 := s
  H_0 := H
  env := PySem.W.ksEnv qual scope s.heap.objs.size f cd cc
  outer := outer
  stack := PySem.W.ksEnv qual scope s.heap.objs.size f cd cc :: outer
  ex := []
  calm := true
  fn := fun x => !(x == ("__class__" : Str))
  pn := []
  xe := fun e s' => wpAny (model P w) (A.deeper (PySem.W.ksEnv qual scope s.heap.objs.size f cd cc)) (leaving (PySem.W.ksEnv qual scope s.heap.objs.size f cd cc) e) (fun _ s'' => CX outer H s E e s'') (fun e' s'' => CX outer H s E e' s'') s'
section
variable {CX : CXT} {P : Program} {w : World} {K : PySem.W.Frag} {mg : Str → Option Value} {base : Heap} {N : List Str} {qual : Str} {scope : Scope} {f cc D : Addr} {cd : Value} {A : Around} {outer : List Env} {s : Shared} {H : Hp} {E : XK}
theorem cell_one {x : Str} {cc c : Addr} (h : ([(("__class__" : Str), cc)] : List (Str × Addr)).lookup x = some c) : x = ("__class__" : Str) ∧ c = cc := by
  simp only [List.lookup] at h
  split at h
  · rename_i e
    exact ⟨eq_of_beq e, (Option.some.inj h).symm⟩
  · cases h
theorem look_two {p1 p2 : Str} {u1 u2 : Value} (h : p1 ≠ p2) : ([(p1, u1), (p2, u2)] : List (Str × Value)).reverse.lookup p1 = some u1 ∧ ([(p1, u1), (p2, u2)] : List (Str × Value)).reverse.lookup p2 = some u2 := by
  have e : (p1 == p2) = false := beq_eq_false_iff_ne.mpr h
  constructor
  · show List.lookup p1 [(p2, u2), (p1, u1)] = some u1
    simp [List.lookup, e]
  · show List.lookup p2 [(p2, u2), (p1, u1)] = some u2
    simp [List.lookup]
theorem inv_startS {p1 p2 : Str} {v1 v2 : V} {u1 u2 : Value} {cl : Value} {cld : Option Addr} {csl : Array (Option Value)} {h1 : Heap} {tk : Nat} (S : ScopeS N scope) (hN : N.take 2 = [p1, p2]) (l1 : scope.names.lookup p1 = some .local) (l2 : scope.names.lookup p2 = some .local) (hne : p1 ≠ p2) (hd : A.handled = none) (e0 : Env0 P w K mg base A outer s H)
    (hc : K.lookup cc = some ⟨cl, cld, .cell (some (.ref D)), csl⟩) (r1 : RelV v1 u1) (r2 : RelV v2 u2) (ns : h1.Ns s.heap.objs.size (fun x => ([(p1, u1), (p2, u2)] : List (Str × Value)).reverse.lookup x)) (hk : ∀ b o, s.heap.get? b = some o → h1.get? b = some o) :
    Inv (cxS CX P w K mg base N qual scope f cd cc A outer s H E) [] (start N [v1, v2]) H { s with heap := h1, toks := tk } := by
  have hcb : base.get? cc = some ⟨cl, cld, .cell (some (.ref D)), csl⟩ := e0.mod.kin _ _ hc
  have hcs := (e0.bs _ _ hcb).1
  have noA : ∀ b : Addr, b ∉ (cxS CX P w K mg base N qual scope f cd cc A outer s H E).ex := fun b z => absurd (show b ∈ ([] : List Addr) from z) (by simp)
  have n0 : N[0]? = some p1 ∧ N[1]? = some p2 ∧ 2 ≤ N.length := by
    match N, hN with
    | [], h => cases h
    | [_], h => cases h
    | a :: b :: r, h => cases h; exact ⟨rfl, rfl, by simp⟩
  refine ⟨⟨e0.mod, S.kind, rfl, rfl, Nat.le_refl _, fun y z c h1 h2 => (cell_one h1).1.trans (cell_one h2).1.symm, fun y hy => ?_, fun y c hf h => ?_, fun _ => hd, Around.frames_deeper e0.frames, .inr ⟨rfl, rfl⟩, fun b z => absurd z (noA b), e0.bs, e0.bsz, fun b _ _ => noA b, fun b z => absurd z (noA b), e0.funs, e0.frf⟩,
    rfl, e0.bare, Un.kept hk, ⟨_, ns, fun i y v h1 h2 h3 => ?_⟩, fun y c h => ?_, e0.hok.fresh (Nat.le_refl _), fun y c h => ?_, fun p hp => absurd (show p ∈ ([] : List (Addr × Obj)) from hp) (by simp), e0.hok.kept hk, ?_⟩
  · have hy : scope.names.lookup y = some .cell ∨ scope.names.lookup y = some .free := hy
    rcases hy with hy | hy
    · exact absurd rfl (S.nocell _ (PySem.mem_of_lookup hy))
    · have := S.free _ (PySem.mem_of_lookup hy) rfl
      subst this
      exact ⟨cc, by show ([(("__class__" : Str), cc)] : List (Str × Addr)).lookup ("__class__" : Str) = some cc; simp⟩
  · obtain ⟨rfl, _⟩ := cell_one h
    have hf : (!((("__class__" : Str)) == ("__class__" : Str))) = true := hf
    rw [beq_self_eq_true] at hf
    cases hf
  · obtain ⟨a, b⟩ := look_two (u1 := u1) (u2 := u2) hne
    match i with
    | 0 =>
      have e1 : y = p1 := by have h1 : N[0]? = some y := h1; rw [n0.1] at h1; exact (Option.some.inj h1).symm
      have e2 : v = v1 := by
        have h2 : some (some v1) = some (some v) := h2
        exact (Option.some.inj (Option.some.inj h2)).symm
      subst e1 e2
      exact ⟨u1, r1, .inl ⟨l1, a⟩⟩
    | 1 =>
      have e1 : y = p2 := by have h1 : N[1]? = some y := h1; rw [n0.2.1] at h1; exact (Option.some.inj h1).symm
      have e2 : v = v2 := by
        have h2 : some (some v2) = some (some v) := h2
        exact (Option.some.inj (Option.some.inj h2)).symm
      subst e1 e2
      exact ⟨u2, r2, .inl ⟨l2, b⟩⟩
    | i + 2 =>
      unfold L2.start at h2
      rw [List.getElem?_append_right (by simp)] at h2
      rw [List.getElem?_replicate] at h2
      split at h2 <;> cases h2
  · obtain ⟨_, rfl⟩ := cell_one h
    exact ⟨_, ⟨_, hk _ _ hcs, rfl⟩⟩
  · obtain ⟨_, rfl⟩ := cell_one h
    exact (e0.bs _ _ hcb).2
  · unfold L2.start
    show _ = N.length
    rw [List.length_append, List.length_map, List.length_replicate]
    show 2 + (N.length - 2) = N.length
    omega
end
/-- what super() asks of the classes: C's instance, the class D of the text, m found behind D -/
structure Sup (K : PySem.W.Frag) (C D : Addr) (m : Str) (f2 : Addr) : Prop where
  cls : (PySem.W.clsIn K C).isSome = true
  clsD : (PySem.W.clsIn K D).isSome = true
  sub : PySem.W.mroIn K C (.ref D) = some true
  no : PySem.W.nsIn K cStatics "thirdparty.any" = some none
  m : PySem.W.ks_superIn K C D m = some (some (.ref f2))
  ty : PySem.W.typeIn K (.ref f2) = some (.type "function")
  fi : PySem.W.fnIn K f2 = true
/-- what it asks of the def's own code -/
structure SupF (P : Program) (K : PySem.W.Frag) (mg : Str → Option Value) (cda cc D : Addr) : Prop where
  code : ∃ ccl cdd vs ccs file tf, K.lookup cda = some ⟨ccl, cdd, .fields vs, ccs⟩ ∧ vs[2]? = some (.str file tf) ∧ ((P.main.file : Str) == file) = true
  cell : ∃ cl cld csl, K.lookup cc = some ⟨cl, cld, .cell (some (.ref D)), csl⟩
  top : (P.main.scope.names.lookup ("super" : Str)).isSome = false
  mg : mg "super" = none
section
variable {CX : CXT} {P : Program} {w : World} {K : PySem.W.Frag} {mg : Str → Option Value} {base : Heap} {N : List Str} {name qual : Str} {params : Arguments} {scope : Scope} {body : List Stmt} {f cda cc C D f2 a dx : Addr} {dV kV doc pm ct oc : Value} {an od : Option Addr} {osl : Array (Option Value)} {A : Around} {outer : List Env} {s s1 : Shared} {H H1 : Hp} {E : XK}
theorem inst_keep {h h' : Heap} {x C : Addr} {ox : Obj} {od : Option Obj} (J : PySem.W.InstAt h x ox C od) (k : ∀ b o, h.get? b = some o → h'.get? b = some o) : PySem.W.InstAt h' x ox C od := by
  refine ⟨k _ _ J.at_, J.cls, J.no, ?_⟩
  have q := J.dict
  cases hd : ox.dict with
  | none =>
    rw [hd] at q
    cases od with
    | none => trivial
    | some o => exact q
  | some dx =>
    rw [hd] at q
    cases od with
    | none => exact q
    | some o => exact k _ _ q
/-- super().m(e, ..) -/
theorem eval_super {pins : List (Addr × Obj)} {σ : L2.St} {fs : List (Str × V)} {ar : Arg} {m : Str} {k : Nat} {CX' : CXT} {sp : Sp} {E' : XK} {e : Expr} {es : List Expr} {t : TA} {Q : VK} {apos pos p0 p1 : Pos} {pl : Sem Bool}
    (I : Inv (cxS CX P w K mg base N qual scope f (.ref cda) cc A outer s H E) pins σ H1 s1) (S : ScopeS N scope) (U : SupF P K mg cda cc D) (T : Sup K C D m f2)
    (lk : K.lookup f = some ⟨oc, od, .func (PySem.W.ksFn name qual params body scope dV kV doc pm an (.ref cda) ct cc), osl⟩) (hp : (params.posonlyargs ++ params.args).head? = some ar) (hN : N[0]? = some ar.arg) (hl : scope.names.lookup ar.arg = some .local)
    (hx : H1 a = some (.ins C dx fs)) (hs0 : σ[0]? = some (some (.ref a))) (hm : (m == ("__class__" : Str)) = false)
    (F : FnR P w K mg base CX' k f2 sp) (hr : Room k (cxS CX P w K mg base N qual scope f (.ref cda) cc A outer s H E).A) (hxE : Passes CX' (cxS CX P w K mg base N qual scope f (.ref cda) cc A outer s H E) E')
    (ha : PA (cxS CX P w K mg base N qual scope f (.ref cda) cc A outer s H E) (e :: es) t) (q : t σ H1 fun vs H2 => sp (.ref a :: vs) H2 Q E')
    (hst : starEach (e :: es) (PySem.W.ksEnv qual scope s.heap.objs.size f (.ref cda) cc) = (false, eval e (PySem.W.ksEnv qual scope s.heap.objs.size f (.ref cda) cc)) :: starEach es (PySem.W.ksEnv qual scope s.heap.objs.size f (.ref cda) cc) := by rfl)
    (hpl : (backTo pos (starEach es (PySem.W.ksEnv qual scope s.heap.objs.size f (.ref cda) cc))).any (·.1) = false := by rfl)
    (he : eval (.Call (.Attribute (.Call (.Name "super" p0) [] [] p1) m apos) (e :: es) [] pos) (PySem.W.ksEnv qual scope s.heap.objs.size f (.ref cda) cc) = (do
      let ov ← attributeBase (.Call (.Name "super" p0) [] [] p1) m (PySem.W.ksEnv qual scope s.heap.objs.size f (.ref cda) cc) (eval (.Call (.Name "super" p0) [] [] p1) (PySem.W.ksEnv qual scope s.heap.objs.size f (.ref cda) cc))
      standAt apos.atName
      let (g0, first) ← holding [ov] (getMethod ov m pl)
      callWith pos g0 first (backTo pos (starEach (e :: es) (PySem.W.ksEnv qual scope s.heap.objs.size f (.ref cda) cc))) []) := by rfl) :
    _root_.PySem.wpAt (model P w) (cxS CX P w K mg base N qual scope f (.ref cda) cc A outer s H E).A (.func body (PySem.W.ksEnv qual scope s.heap.objs.size f (.ref cda) cc)) (eval (.Call (.Attribute (.Call (.Name "super" p0) [] [] p1) m apos) (e :: es) [] pos) (PySem.W.ksEnv qual scope s.heap.objs.size f (.ref cda) cc))
      (EP (cxS CX P w K mg base N qual scope f (.ref cda) cc A outer s H E) pins σ Q) (cxS CX P w K mg base N qual scope f (.ref cda) cc A outer s H E).xe s1 := by
  obtain ⟨ccl, cdd, vs, ccs, file, tf, hcda, hvs, hfile⟩ := U.code
  obtain ⟨cl, cld, csl, hcell⟩ := U.cell
  have X1 : K.In s1.heap := I.kIn
  obtain ⟨mA, O, _, _, _, _⟩ := ins_get I.hok hx
  obtain ⟨od', J, _⟩ := O.look
  obtain ⟨cdC, hC⟩ := Option.isSome_iff_exists.mp T.cls
  obtain ⟨cdD, hD⟩ := Option.isSome_iff_exists.mp T.clsD
  obtain ⟨oD, hD1, hD2⟩ : ∃ oD, s1.heap.get? D = some oD ∧ oD.data = .cls cdD := by
    unfold PySem.W.clsIn at hD
    split at hD
    · rename_i c d cd' sl ho
      cases hD
      exact ⟨_, X1 _ _ ho, rfl⟩
    · cases hD
  obtain ⟨mL, hn, hl'⟩ := id I.loc
  obtain ⟨u, ru, lku⟩ := hl' 0 ar.arg (.ref a) hN hs0 (.inl hl)
  obtain rfl : u = Value.ref a := ru
  have hv : mL ar.arg = some (.ref a) := by
    rcases lku with ⟨_, h⟩ | ⟨h, _⟩
    · exact h
    · have h : scope.names.lookup ar.arg = some .cell ∨ scope.names.lookup ar.arg = some .free := h
      rw [hl] at h
      rcases h with h | h <;> cases h
  obtain ⟨mb, hb1, hb2⟩ := I.mod.blt
  refine PySem.ks_wpAt_MethodCall (pl := pl) ?_ he
  refine PySem.ks_wpAt_super_base (env := PySem.W.ksEnv qual scope s.heap.objs.size f (.ref cda) cc) S.su S.cls hm rfl (X1 _ _ lk) rfl hp rfl (X1 _ _ hcda) rfl hvs hfile U.top ?_
  refine PySem.W.ks_loadName_global S.kind S.su (Calls.loadGlobal_builtin (by first | exact I.mod.glob.keeps I.bk | (rw [I.ok.glob]; exact I.mod.glob.keeps I.bk)) U.mg (by first | exact hb1.keeps I.bk | (rw [I.ok.blt]; exact hb1.keeps I.bk)) ((hb2 "super" (by decide +kernel)).trans (by decide +kernel)) ⟨rfl, ?_⟩)
  refine wpAny_loadName_free S.kind S.cls rfl ⟨_, X1 _ _ hcell, rfl⟩ ?_
  refine wpAny_loadName_local S.kind hl hn hv ?_
  obtain ⟨hh, g, d, tk, os⟩ := s1
  refine PySem.ks_wpAny_isType_cls hD1 hD2 ⟨rfl, ?_⟩
  refine PySem.ks_wpAny_call_super hD1 hD2 J.at_ J.cls (fun c e => ?_) (PySem.W.looks_mroIn X1 T.sub) (fun h' e' k' => ?_)
  · have := J.no
    unfold PySem.W.notCls at this
    rw [e] at this
    exact Bool.noConfusion this
  · have I2 : Inv (cxS CX P w K mg base N qual scope f (.ref cda) cc A outer s H E) pins σ H1 ⟨h', g, d, tk, os⟩ := I.kept (t' := tk) k'
    have J2 := inst_keep J k'
    have hmm := T.m
    unfold PySem.W.ks_superIn at hmm
    rw [hC] at hmm
    obtain ⟨of, hof, hofc⟩ : ∃ of, h'.get? f2 = some of ∧ of.cls = .type "function" := by
      have ht' : (K.lookup f2).map (·.cls) = some (.type "function") := T.ty
      cases z : K.lookup f2 with
      | none => rw [z] at ht'; cases ht'
      | some of => rw [z] at ht'; exact ⟨of, I2.kIn _ _ z, Option.some.inj ht'⟩
    refine PySem.ks_wpAny_getMethod_super e' (PySem.W.looks_opaque I2.kIn T.no) (l₀ := cdC.mro) ?_ rfl I2.kIn hmm hof hofc (PySem.W.ks_ne I2.kIn J2 hC) hm ?_
    · exact fun A Q E s k q => wpAny_bind ((PySem.W.looks_clsIn I2.kIn hC) A _ E s k (wpAny_pure q))
    · have I3 := met_new (g := f2) (C := a) I2
      refine callwith_cm I3 (base_none I2 (Nat.le_refl _)) T.fi (thn (ha.run pos _ _ σ H1 _ I3 q) fun us s3 ⟨vs, H2, I4, rv, q2⟩ => ⟨⟨pin_at I4, I4.kIn⟩, ?_⟩) hst hpl
      exact run_cm F hr hxE I4 rv q2
end
section
variable {CX : CXT} {P : Program} {w : World} {K : PySem.W.Frag} {mg : Str → Option Value} {base : Heap} {N : List Str} {name qual : Str} {params : Arguments} {scope : Scope} {f cda cc D : Addr} {dV kV doc pm ct oc : Value} {an od : Option Addr} {osl : Array (Option Value)}
/-- super().m(..), then the rest -/
theorem fn_superE {k : Nat} {p1 p2 : Str} {ar : Arg} {m : Str} {e : Expr} {es : List Expr} {apos pos q0 q1 spos : Pos} {rest : List Stmt} {pl : Sem Bool} {sp : Sp} (lk : K.lookup f = some ⟨oc, od, .func (PySem.W.ksFn name qual params (.Expr (.Call (.Attribute (.Call (.Name "super" q0) [] [] q1) m apos) (e :: es) [] pos) spos :: rest) scope dV kV doc pm an (.ref cda) ct cc), osl⟩)
    (hcd : PySem.W.codeIn K (.ref cda) qual = true) (S : ScopeS N scope) (hN : N.take 2 = [p1, p2]) (l1 : scope.names.lookup p1 = some .local) (l2 : scope.names.lookup p2 = some .local) (hne : p1 ≠ p2) (hp : (params.posonlyargs ++ params.args).head? = some ar) (har : ar.arg = p1) (U : SupF P K mg cda cc D) (hm : (m == ("__class__" : Str)) = false)
    (len : ∀ vs H Q E, sp vs H Q E → vs.length = [p1, p2].length)
    (hst : ∀ env : Env, starEach (e :: es) env = (false, eval e env) :: starEach es env) (hpl : ∀ env : Env, (backTo pos (starEach es env)).any (·.1) = false)
    (he : ∀ env : Env, eval (.Call (.Attribute (.Call (.Name "super" q0) [] [] q1) m apos) (e :: es) [] pos) env = (do
      let ov ← attributeBase (.Call (.Name "super" q0) [] [] q1) m env (eval (.Call (.Name "super" q0) [] [] q1) env)
      standAt apos.atName
      let (g0, first) ← holding [ov] (getMethod ov m pl)
      callWith pos g0 first (backTo pos (starEach (e :: es) env)) []))
    (hbody : ∀ (A : Around) (outer : List Env) (s : Shared) (H : Hp) (vs : List V) (Q : VK) (E : XK), Room k (A.deeper (PySem.W.ksEnv qual scope s.heap.objs.size f (.ref cda) cc)) → sp vs H Q E →
      ∃ (a : Addr) (v2 : V) (C dx : Addr) (fs : List (Str × V)) (f2 : Addr) (k' : Nat) (CX' : CXT) (sp2 : Sp) (E' : XK) (t : TA) (tr : TS), vs = [.ref a, v2] ∧ H a = some (.ins C dx fs) ∧ Sup K C D m f2 ∧ FnR P w K mg base CX' k' f2 sp2 ∧ Room k' (cxS CX P w K mg base N qual scope f (.ref cda) cc A outer s H E).A ∧
        Passes CX' (cxS CX P w K mg base N qual scope f (.ref cda) cc A outer s H E) E' ∧ PA (cxS CX P w K mg base N qual scope f (.ref cda) cc A outer s H E) (e :: es) t ∧ PSs (cxS CX P w K mg base N qual scope f (.ref cda) cc A outer s H E) rest tr ∧
        t (L2.start N vs) H fun vs' H2 => sp2 (.ref a :: vs') H2 (fun v H3 => tr { nx := fun _ H' => Q .non H', rt := Q } (L2.start N vs) H3) E') :
    FnOk P w K mg base CX (k + 1) f (PySem.W.ksFn name qual params (.Expr (.Call (.Attribute (.Call (.Name "super" q0) [] [] q1) m apos) (e :: es) [] pos) spos :: rest) scope dV kV doc pm an (.ref cda) ct cc) [p1, p2] sp := by
  refine ⟨len, fun A outer s H args us vs Q E hr e0 hb r hsp => ?_⟩
  obtain ⟨a, v2, C, dx, fs, f2, k', CX', sp2, E', t, tr, rfl, hx, T, F, hr', hxE, ha, hrest, q⟩ := hbody A outer s H vs Q E (hr.deeper _) hsp
  obtain ⟨u1, u2, rfl, r1, r2⟩ := vals2 r
  subst har
  have KX : K.In s.heap := e0.mod.kin.keeps fun b o e => (e0.bs b o e).1
  have lim : s.heap.NoLimit := e0.mod.nolimit.keeps fun b o e => (e0.bs b o e).1
  obtain ⟨cl, cld, csl, hcell⟩ := U.cell
  have n0 : N[0]? = some ar.arg := by
    match N, hN with
    | [], h => cases h
    | [_], h => cases h
    | a :: b :: r, h => cases h; rfl
  refine PySem.ks_codeAny_call_defAt (fd := PySem.W.ksFn name qual params (.Expr (.Call (.Attribute (.Call (.Name "super" q0) [] [] q1) m apos) (e :: es) [] pos) spos :: rest) scope dV kV doc pm an (.ref cda) ct cc) (body := .Expr (.Call (.Attribute (.Call (.Name "super" q0) [] [] q1) m apos) (e :: es) [] pos) spos :: rest) (binds := [ar.arg, p2].zip [u1, u2]) hr.depth (KX _ _ lk) rfl lim (PySem.W.codeRec_of KX hcd) rfl hb (fun y hy => S.nocell y hy) (fun y hy => ?_) (fun h₁ hns hk₁ => ?_) S.co S.gen S.kind
  · rcases List.mem_cons.mp hy with rfl | hy
    · exact l1
    · rw [List.mem_singleton.mp hy]; exact l2
  have I : Inv (cxS CX P w K mg base N qual scope f (.ref cda) cc A outer s H E) [] (L2.start N [.ref a, v2]) H { s with heap := h₁, toks := s.toks + ([ar.arg, p2].zip [u1, u2]).length } := inv_startS S hN l1 l2 hne hr.hd e0 hcell r1 r2 hns hk₁
  show _root_.PySem.wpAt (model P w) (A.deeper (PySem.W.ksEnv qual scope s.heap.objs.size f (.ref cda) cc)) (.func (.Expr (.Call (.Attribute (.Call (.Name "super" q0) [] [] q1) m apos) (e :: es) [] pos) spos :: rest) (PySem.W.ksEnv qual scope s.heap.objs.size f (.ref cda) cc)) (execs (.Expr (.Call (.Attribute (.Call (.Name "super" q0) [] [] q1) m apos) (e :: es) [] pos) spos :: rest) (PySem.W.ksEnv qual scope s.heap.objs.size f (.ref cda) cc)) _ _ _
  refine PySem.ks_wpAt_execs_cons ?_
  refine PySem.ks_wpAt_Expr_any (PySem.ks_wpAt_mono (eval_super I S U T lk hp n0 l1 hx rfl hm F hr' hxE ha q (hst _) (hpl _) (he _)) (fun u s2 hv => ?_) fun e s' hx => hx) (by show (scope.kind == .module && _) = false; rw [S.kind]; rfl) rfl
  obtain ⟨v, H3, I3, rv, q3⟩ := hv
  refine PySem.wpAt_of_wpAny (wpAny_mono (hrest.run [] _ _ H3 _ I3 q3) (fun fl s' hs => ?_) fun e s' hs => hs)
  have fin : ∀ {σ' : L2.St} {H' : Hp} {v : V} {u : Value}, Inv (cxS CX P w K mg base N qual scope f (.ref cda) cc A outer s H E) [] σ' H' s' → RelV v u → Q v H' → CE outer P w H s Q u s' :=
    fun {σ' H' v u} J rv q => ⟨v, H', J.os, J.bare, J.base, J.hok, rv, q⟩
  cases fl with
  | ret u =>
    obtain ⟨v, σ', H', J, rv, q⟩ := hs
    exact fin J rv q
  | next =>
    obtain ⟨σ', H', J, q⟩ := hs
    exact fin (v := V.non) (u := Value.none) J rfl q
  | brk =>
    obtain ⟨_, _, _, q⟩ := hs
    exact False.elim q
  | cont =>
    obtain ⟨_, _, _, q⟩ := hs
    exact False.elim q
/-- x = super().m(..), then the rest -/
theorem fn_superA {k : Nat} {p1 p2 : Str} {ar : Arg} {m : Str} {e : Expr} {es : List Expr} {apos pos q0 q1 spos : Pos} {rest : List Stmt} {pl : Sem Bool} {i : Nat} {x : Str} {xpos : Pos} {sp : Sp} (lk : K.lookup f = some ⟨oc, od, .func (PySem.W.ksFn name qual params (.Assign [.Name x xpos] (.Call (.Attribute (.Call (.Name "super" q0) [] [] q1) m apos) (e :: es) [] pos) spos :: rest) scope dV kV doc pm an (.ref cda) ct cc), osl⟩)
    (hcd : PySem.W.codeIn K (.ref cda) qual = true) (S : ScopeS N scope) (hN : N.take 2 = [p1, p2]) (l1 : scope.names.lookup p1 = some .local) (l2 : scope.names.lookup p2 = some .local) (hne : p1 ≠ p2) (hp : (params.posonlyargs ++ params.args).head? = some ar) (har : ar.arg = p1) (U : SupF P K mg cda cc D) (hm : (m == ("__class__" : Str)) = false) (hi : N[i]? = some x) (lx : scope.names.lookup x = some .local)
    (len : ∀ vs H Q E, sp vs H Q E → vs.length = [p1, p2].length)
    (hst : ∀ env : Env, starEach (e :: es) env = (false, eval e env) :: starEach es env) (hpl : ∀ env : Env, (backTo pos (starEach es env)).any (·.1) = false)
    (he : ∀ env : Env, eval (.Call (.Attribute (.Call (.Name "super" q0) [] [] q1) m apos) (e :: es) [] pos) env = (do
      let ov ← attributeBase (.Call (.Name "super" q0) [] [] q1) m env (eval (.Call (.Name "super" q0) [] [] q1) env)
      standAt apos.atName
      let (g0, first) ← holding [ov] (getMethod ov m pl)
      callWith pos g0 first (backTo pos (starEach (e :: es) env)) []))
    (hbody : ∀ (A : Around) (outer : List Env) (s : Shared) (H : Hp) (vs : List V) (Q : VK) (E : XK), Room k (A.deeper (PySem.W.ksEnv qual scope s.heap.objs.size f (.ref cda) cc)) → sp vs H Q E →
      ∃ (a : Addr) (v2 : V) (C dx : Addr) (fs : List (Str × V)) (f2 : Addr) (k' : Nat) (CX' : CXT) (sp2 : Sp) (E' : XK) (t : TA) (tr : TS), vs = [.ref a, v2] ∧ H a = some (.ins C dx fs) ∧ Sup K C D m f2 ∧ FnR P w K mg base CX' k' f2 sp2 ∧ Room k' (cxS CX P w K mg base N qual scope f (.ref cda) cc A outer s H E).A ∧
        Passes CX' (cxS CX P w K mg base N qual scope f (.ref cda) cc A outer s H E) E' ∧ PA (cxS CX P w K mg base N qual scope f (.ref cda) cc A outer s H E) (e :: es) t ∧ PSs (cxS CX P w K mg base N qual scope f (.ref cda) cc A outer s H E) rest tr ∧
        t (L2.start N vs) H fun vs' H2 => sp2 (.ref a :: vs') H2 (fun v H3 => tr { nx := fun _ H' => Q .non H', rt := Q } ((L2.start N vs).set i (some v)) H3) E') :
    FnOk P w K mg base CX (k + 1) f (PySem.W.ksFn name qual params (.Assign [.Name x xpos] (.Call (.Attribute (.Call (.Name "super" q0) [] [] q1) m apos) (e :: es) [] pos) spos :: rest) scope dV kV doc pm an (.ref cda) ct cc) [p1, p2] sp := by
  refine ⟨len, fun A outer s H args us vs Q E hr e0 hb r hsp => ?_⟩
  obtain ⟨a, v2, C, dx, fs, f2, k', CX', sp2, E', t, tr, rfl, hx, T, F, hr', hxE, ha, hrest, q⟩ := hbody A outer s H vs Q E (hr.deeper _) hsp
  obtain ⟨u1, u2, rfl, r1, r2⟩ := vals2 r
  subst har
  have KX : K.In s.heap := e0.mod.kin.keeps fun b o e => (e0.bs b o e).1
  have lim : s.heap.NoLimit := e0.mod.nolimit.keeps fun b o e => (e0.bs b o e).1
  obtain ⟨cl, cld, csl, hcell⟩ := U.cell
  have n0 : N[0]? = some ar.arg := by
    match N, hN with
    | [], h => cases h
    | [_], h => cases h
    | a :: b :: r, h => cases h; rfl
  refine PySem.ks_codeAny_call_defAt (fd := PySem.W.ksFn name qual params (.Assign [.Name x xpos] (.Call (.Attribute (.Call (.Name "super" q0) [] [] q1) m apos) (e :: es) [] pos) spos :: rest) scope dV kV doc pm an (.ref cda) ct cc) (body := .Assign [.Name x xpos] (.Call (.Attribute (.Call (.Name "super" q0) [] [] q1) m apos) (e :: es) [] pos) spos :: rest) (binds := [ar.arg, p2].zip [u1, u2]) hr.depth (KX _ _ lk) rfl lim (PySem.W.codeRec_of KX hcd) rfl hb (fun y hy => S.nocell y hy) (fun y hy => ?_) (fun h₁ hns hk₁ => ?_) S.co S.gen S.kind
  · rcases List.mem_cons.mp hy with rfl | hy
    · exact l1
    · rw [List.mem_singleton.mp hy]; exact l2
  have I : Inv (cxS CX P w K mg base N qual scope f (.ref cda) cc A outer s H E) [] (L2.start N [.ref a, v2]) H { s with heap := h₁, toks := s.toks + ([ar.arg, p2].zip [u1, u2]).length } := inv_startS S hN l1 l2 hne hr.hd e0 hcell r1 r2 hns hk₁
  show _root_.PySem.wpAt (model P w) (A.deeper (PySem.W.ksEnv qual scope s.heap.objs.size f (.ref cda) cc)) (.func (.Assign [.Name x xpos] (.Call (.Attribute (.Call (.Name "super" q0) [] [] q1) m apos) (e :: es) [] pos) spos :: rest) (PySem.W.ksEnv qual scope s.heap.objs.size f (.ref cda) cc)) (execs (.Assign [.Name x xpos] (.Call (.Attribute (.Call (.Name "super" q0) [] [] q1) m apos) (e :: es) [] pos) spos :: rest) (PySem.W.ksEnv qual scope s.heap.objs.size f (.ref cda) cc)) _ _ _
  refine PySem.ks_wpAt_execs_cons ?_
  refine PySem.ks_wpAt_Assign_Name (PySem.ks_wpAt_mono (eval_super I S U T lk hp n0 l1 hx rfl hm F hr' hxE ha q (hst _) (hpl _) (he _)) (fun u s2 hv => ?_) fun e s' hx => hx) rfl
  obtain ⟨v, H3, I3', rv, q3⟩ := hv
  refine store_ok2 I3' S.nd hi (.inl lx) rv (fun s3 I3 _ => ?_) (.inr lx)
  refine PySem.wpAt_of_wpAny (wpAny_mono (hrest.run [] _ _ H3 _ I3 q3) (fun fl s' hs => ?_) fun e s' hs => hs)
  have fin : ∀ {σ' : L2.St} {H' : Hp} {v : V} {u : Value}, Inv (cxS CX P w K mg base N qual scope f (.ref cda) cc A outer s H E) [] σ' H' s' → RelV v u → Q v H' → CE outer P w H s Q u s' :=
    fun {σ' H' v u} J rv q => ⟨v, H', J.os, J.bare, J.base, J.hok, rv, q⟩
  cases fl with
  | ret u =>
    obtain ⟨v, σ', H', J, rv, q⟩ := hs
    exact fin J rv q
  | next =>
    obtain ⟨σ', H', J, q⟩ := hs
    exact fin (v := V.non) (u := Value.none) J rfl q
  | brk =>
    obtain ⟨_, _, _, q⟩ := hs
    exact False.elim q
  | cont =>
    obtain ⟨_, _, _, q⟩ := hs
    exact False.elim q
end
end SuX
namespace Tw
open PySem PySem.Spec PyProof.Rows L2
/-! ### desks of two classes: made, read from a text, asked, compared -/
/-- x(e, ..), the slot holds the class at C -/
def tMakeV (i : Nat) (C : Addr) (sp : Sp) (dvs : List V) (E : XK) (t : TA) : TE := fun σ H Q => σ[i]? = some (some (.ref C)) ∧ tMake C sp dvs E t σ H Q
theorem pe_makeV {X : Cx} {CX : CXT} {k i : Nat} {C f : Addr} {fd : FuncData} {ps : List Str} {sp : Sp} {dvs : List V} {ds : List Value} {E : XK} {x : Str} {p pos : Pos} {e : Expr} {es : List Expr} {t : TA}
    (M : Mk X.K C f) (F : FnOk X.prog X.w X.K X.mg X.base CX k f fd ps sp) (hr : Room (k + 1) X.A) (hN : X.N[i]? = some x) (hv : Vis X.env.scope x) (hb : Binds X.K fd ps ds) (hd : Vals dvs ds) (hx : Passes CX X E)
    (ha : PA X (e :: es) t) (hdb : (x == ("__debug__" : Str)) = false := by decide) (hcd : (x == ("__classdict__" : Str)) = false := by decide) (he : starEach (e :: es) X.env = (false, eval e X.env) :: starEach es X.env := by rfl) (hpl : (backTo pos (starEach es X.env)).any (·.1) = false := by rfl) :
    PE X (.Call (.Name x p) (e :: es) [] pos) (tMakeV i C sp dvs E t) := by
  refine ⟨fun pins s σ H Q I h => ?_⟩
  obtain ⟨hs, ht⟩ := h
  refine wpAny_Call_Name_kw (thn ((pe_var (pos := p) hN hv hdb hcd).run pins s σ H (fun v H1 => v = .ref C ∧ H1 = H) I ⟨.ref C, hs, rfl, rfl⟩) fun u s1 ⟨v, H1, I1, r1, q1⟩ => ?_)
  obtain ⟨rfl, rfl⟩ := q1
  cases r1
  refine PySem.W.callWith_K (h₀ := X.base) I.ok.mod.kin M.kp (thn (ha.run pos pins s1 σ _ _ I1 ht) fun us s2 ⟨vs, H2, I2, r, q⟩ => ⟨I2.kIn, ?_⟩) he hpl
  exact run_make M F hr hb hd hx I2 r q
/-- a class whose instances have the fields of a desk -/
structure DkC (K : PySem.W.Frag) (C : Addr) : Prop where
  cl : Cls K C
  nT : NoAttr K C "trees"
  nD : NoAttr K C "done"
  nB : NoAttr K C "busy"
/-- an instance of the class C whose last tree is t -/
def Ds (C : Addr) (H : Hp) (a : Addr) (t : B) : Prop := ∃ (dx : Addr) (fs : List (Str × V)) (ta : Addr) (vs : List V) (u : V), H a = some (.ins C dx fs) ∧ fs.lookup ("trees" : Str) = some (.ref ta) ∧ H ta = some (.tup (vs ++ [u])) ∧ BAt H u t
theorem Dk.ds {C a : Addr} {H : Hp} {ts : List B} {t : B} {es : List Ed} {bu : Bool} (d : Dk C H a ts t es bu) : Ds C H a t := by
  obtain ⟨dx, ta, td, vs, u, ds, h1, h2, h3, h4, h5, h6⟩ := d
  exact ⟨dx, _, ta, vs, u, h1, look_t _ _ _, h2, h5⟩
theorem Ds.same {C a : Addr} {H H' : Hp} {t : B} (s : Same H H') (d : Ds C H a t) : Ds C H' a t := by
  obtain ⟨dx, fs, ta, vs, u, h1, h2, h3, h4⟩ := d
  exact ⟨dx, fs, ta, vs, u, s _ _ h1, h2, s _ _ h3, h4.same s⟩
def lgF (vt vd vb vc : V) : List (Str × V) := [("trees", vt), ("done", vd), ("busy", vb), ("calls", vc)]
theorem put_c (vt vd vb vc : V) : putF "calls" vc (deskF vt vd vb) = lgF vt vd vb vc := by
  have n1 : ¬ (("trees" : Str) = "calls") := by decide +kernel
  have n2 : ¬ (("done" : Str) = "calls") := by decide +kernel
  have n3 : ¬ (("busy" : Str) = "calls") := by decide +kernel
  show (if ("trees" : Str) = "calls" then (("trees" : Str), vc) :: _ else (("trees" : Str), vt) :: (if ("done" : Str) = "calls" then (("done" : Str), vc) :: _ else (("done" : Str), vd) :: (if ("busy" : Str) = "calls" then (("busy" : Str), vc) :: _ else (("busy" : Str), vb) :: putF "calls" vc []))) = lgF vt vd vb vc
  rw [if_neg n1, if_neg n2, if_neg n3]
  rfl
theorem lg_t (vt vd vb vc : V) : (lgF vt vd vb vc).lookup ("trees" : Str) = some vt := rfl
theorem lg_c (vt vd vb vc : V) : (lgF vt vd vb vc).lookup ("calls" : Str) = some vc := by
  have h1 : (("calls" : Str) == ("trees" : Str)) = false := by decide +kernel
  have h2 : (("calls" : Str) == ("done" : Str)) = false := by decide +kernel
  have h3 : (("calls" : Str) == ("busy" : Str)) = false := by decide +kernel
  unfold lgF
  simp only [List.lookup, h1, h2, h3]
  rfl
/-- a logged desk that nobody has edited -/
def Lg (C : Addr) (H : Hp) (a : Addr) (t : B) : Prop := ∃ (dx ta td tc : Addr) (v : V), H a = some (.ins C dx (lgF (.ref ta) (.ref td) (.bl false) (.ref tc))) ∧ H ta = some (.tup [v]) ∧ H tc = some (.tup []) ∧ BAt H v t
theorem Lg.ds {C a : Addr} {H : Hp} {t : B} (d : Lg C H a t) : Ds C H a t := by
  obtain ⟨dx, ta, td, tc, v, h1, h2, h3, h4⟩ := d
  exact ⟨dx, _, ta, [], v, h1, lg_t _ _ _ _, h2, h4⟩
theorem Lg.same {C a : Addr} {H H' : Hp} {t : B} (s : Same H H') (d : Lg C H a t) : Lg C H' a t := by
  obtain ⟨dx, ta, td, tc, v, h1, h2, h3, h4⟩ := d
  exact ⟨dx, ta, td, tc, v, s _ _ h1, s _ _ h2, s _ _ h3, h4.same s⟩
def spInitG (C : Addr) (At : Hp → Addr → B → Prop) : Sp := fun vs H Q _ => ∃ (p dx : Addr) (v : V) (t : B), vs = [.ref p, v] ∧ H p = some (.ins C dx []) ∧ BAt H v t ∧ t ≠ .nil ∧ t.lts ∧ t.size ≤ 12 ∧ ∀ H', But p H H' → At H' p t → Q .non H'
abbrev AtD (C : Addr) : Hp → Addr → B → Prop := fun H a t => Dk C H a [] t [] false
def spReadD (C : Addr) (At : Hp → Addr → B → Prop) : Sp := fun vs H Q _ => ∃ x : B, vs = [.ref C, .str (tx x.cs)] ∧ x ≠ .nil ∧ x.lts ∧ x.size ≤ 12 ∧ ∀ (a : Addr) (H' : Hp), Same H H' → H a = none → At H' a x → Q (.ref a) H'
def spWalkA (C : Addr) (k : Kd) : Sp := fun vs H Q _ => ∃ (a : Addr) (t : B), vs = [.ref a] ∧ Ds C H a t ∧ t.size ≤ 12 ∧ ∀ H', Same H H' → Q (.str (tx (t.wk k))) H'
def spLog (C : Addr) : Sp := fun vs H Q _ => ∃ (a : Addr) (t : B), vs = [.ref a] ∧ Lg C H a t ∧ ∀ tc, H tc = some (.tup []) → Q (.ref tc) H
section
variable {P : Program} {w : World} {K : PySem.W.Frag} {mg : Str → Option Value} {base : Heap} {f : Addr} {fd : FuncData} {C : Addr}
theorem ok_initG (F : Fun K "__init__" "Desk.__init__" s_Desk___init__ f fd) (TD : DkC K C) (Dis_tree : Df P w K mg base 3 "is_tree" ["value"] spTreeT) : FnOk P w K mg base CX0 4 f fd ["self", "tree"] (spInitG C (AtD C)) := by
  refine F.ok sc_Desk___init__ (fun vs H Q E h => ?_) (fun cdv A outer s H vs Q E hr h => ?_)
  · obtain ⟨p, dx, v, x, rfl, _⟩ := h
    rfl
  obtain ⟨p, dx, v, x, rfl, hp, ht, hn, hl, hz, q⟩ := h
  refine ⟨_, (pss_cons (ps_if (pt_not (pt_val (pe_call Dis_tree.ok (hr.mono (by omega)) rfl Dis_tree.g Dis_tree.kp Dis_tree.b .nil pass0 (pa_cons (pv 1) pa_nil))))
      (pss_one ps_never) pss_nil)
    (pss_cons (ps_fld (pv 0) (pe_tup (pa_cons (pv 1) pa_nil)) rfl)
    (pss_cons (ps_fld (pv 0) (pe_tup pa_nil) rfl)
    (pss_one (ps_fld (pv 0) pe_bl rfl))))), ?_⟩
  refine ⟨_, rfl, v, x, rfl, ht, hn, hl, hz, fun H1 s1 => ⟨_, rfl, iteF ?_⟩⟩
  refine ⟨_, rfl, (by show 1 ≤ sizeLine; decide), fun ta nta => ?_⟩
  have k2 := same_new nta (.tup [v])
  have hp2 := k2 _ _ (s1 _ _ hp)
  have npt : p ≠ ta := ne_of_none (s1 _ _ hp) nta
  refine ⟨_, rfl, p, C, dx, [], rfl, hp2, TD.cl, TD.nT, (by show 0 < 1000; decide), ?_⟩
  refine ⟨(by show 0 ≤ sizeLine; decide), fun td ntd => ?_⟩
  have npd : p ≠ td := fun z => by rw [← z, upd_same] at ntd; cases ntd
  rw [upd_ne npd.symm] at ntd
  have ntt : ta ≠ td := ne_of_none (H := upd H1 ta (.tup [v])) upd_same ntd
  refine ⟨_, rfl, p, C, dx, deskF1 (.ref ta), rfl, (by rw [upd_ne npd, upd_same]; rfl), TD.cl, TD.nD, (by show 1 < 1000; decide), ?_⟩
  refine ⟨_, rfl, p, C, dx, deskF2 (.ref ta) (.ref td), rfl, (by rw [upd_same, put_d]), TD.cl, TD.nB, (by show 2 < 1000; decide), ?_⟩
  refine q _ (fun b o hb e => ?_) ⟨dx, ta, td, [], v, [], (by rw [upd_same, put_b]), (by rw [upd_ne npt.symm, upd_ne npt.symm, upd_ne ntt, upd_ne npt.symm, upd_same]; rfl), (by rw [upd_ne npd.symm, upd_ne npd.symm, upd_same]), .nil, ?_, .nil⟩
  · have e1 := k2 _ _ (s1 _ _ e)
    have n1 : b ≠ td := ne_of_none e1 ntd
    rw [upd_ne hb, upd_ne hb, upd_ne n1, upd_ne hb]
    exact e1
  · refine (ht.same (s1.trans k2)).keep fun b xs e => ?_
    have hb : b ≠ p := ne_of e hp2 (by intro z; cases z)
    have n1 : b ≠ td := ne_of_none e ntd
    rw [upd_ne hb, upd_ne hb, upd_ne n1, upd_ne hb]
    exact e
/-- __init__ of a logged desk -/
theorem ok_initL {f2 cda cc : Addr} {oc dV kV doc pm ct : Value} {od an : Option Addr} {osl : Array (Option Value)} (lk : K.lookup f = some ⟨oc, od, .func (PySem.W.ksFn "__init__" "LoggedDesk.__init__" (defArgs s_LoggedDesk___init__) (defBody s_LoggedDesk___init__) (defScope s_LoggedDesk___init__) dV kV doc pm an (.ref cda) ct cc), osl⟩)
    (hcd : PySem.W.codeIn K (.ref cda) "LoggedDesk.__init__" = true) (U : SuX.SupF P K mg cda cc C) (T : SuX.Sup K C C "__init__" f2) (F2 : FnR P w K mg base CX0 4 f2 (spInitG C (AtD C))) (cl : Cls K C) (nC : NoAttr K C "calls") :
    FnOk P w K mg base CX0 5 f (PySem.W.ksFn "__init__" "LoggedDesk.__init__" (defArgs s_LoggedDesk___init__) (defBody s_LoggedDesk___init__) (defScope s_LoggedDesk___init__) dV kV doc pm an (.ref cda) ct cc) ["self", "tree"] (spInitG C (Lg C)) := by
  refine SuX.fn_superE (N := ["self", "tree"]) (k := 4) lk hcd ⟨rfl, rfl, rfl, by decide +kernel, by decide +kernel, by decide +kernel, by decide +kernel, by decide +kernel⟩ rfl (by decide +kernel) (by decide +kernel) (by decide +kernel) rfl rfl U (by decide +kernel) (fun vs H Q E h => ?_) (fun _ => rfl) (fun _ => rfl) (fun _ => rfl) (fun A outer s H vs Q E hr h => ?_)
  · obtain ⟨p, dx, v, x, rfl, _⟩ := h
    rfl
  obtain ⟨p, dx, v, x, rfl, hp, ht, hn, hl, hz, q⟩ := h
  refine ⟨p, v, C, dx, [], f2, 4, CX0, _, E0, _, _, rfl, hp, T, F2, hr, pass0, pa_cons (pv 1) pa_nil, pss_one (ps_fld (pv 0) (pe_tup pa_nil) rfl), ?_⟩
  refine ⟨_, rfl, p, dx, v, x, rfl, hp, ht, hn, hl, hz, fun H1 b1 d1 => ?_⟩
  obtain ⟨dx', ta, td, vs, u, ds, h1, h2, h3, h4, h5, h6⟩ := d1
  have zv : vs = [] := List.eq_nil_of_length_eq_zero h4.len
  subst zv
  refine ⟨(by show 0 ≤ sizeLine; decide), fun tc ntc => ?_⟩
  have k2 := same_new ntc (.tup [])
  have e2 := k2 _ _ h1
  refine ⟨_, rfl, p, C, dx', _, rfl, e2, cl, nC, (by show 3 < 1000; decide), ?_⟩
  rw [put_c]
  have ne3 : ∀ {b xs}, upd H1 tc (.tup []) b = some (.tup xs) → b ≠ p := fun {b xs} e => ne_of e e2 (by intro z; cases z)
  refine q _ (fun b o hb e => ?_) ⟨dx', ta, td, tc, u, upd_same, ?_, ?_, ?_⟩
  · rw [upd_ne hb]
    exact k2 _ _ (b1 _ _ hb e)
  · rw [upd_ne (ne3 (k2 _ _ h2))]
    exact k2 _ _ h2
  · rw [upd_ne (ne3 upd_same)]
    exact upd_same
  · refine (h5.same k2).keep fun b xs e => ?_
    rw [upd_ne (ne3 e)]
    exact e
/-- the classmethod read -/
theorem ok_readD {fi : Addr} {fdi : FuncData} {ki : Nat} {At : Hp → Addr → B → Prop} (F : Fun K "read" "Desk.read" s_Desk_read f fd) (MK : Mk K C fi) (hki : ki ≤ 59) (Di : FnOk P w K mg base CX0 ki fi fdi ["self", "tree"] (spInitG C At)) (bi : Binds K fdi ["self", "tree"] []) (Dparse_tree : Df P w K mg base 60 "parse_tree" ["text"] spParse) :
    FnOk P w K mg base CX0 61 f fd ["cls", "text"] (spReadD C At) := by
  refine F.ok (k := 60) sc_Desk_read (fun vs H Q E h => ?_) (fun cdv A outer s H vs Q E hr h => ?_)
  · obtain ⟨x, rfl, _⟩ := h
    rfl
  obtain ⟨x, rfl, xn, xl, xz, q⟩ := h
  refine ⟨_, pss_one (ps_ret (pe_makeV (i := 0) MK Di (hr.mono (by omega)) rfl (.inl rfl) bi .nil pass0 (pa_cons (pe_call Dparse_tree.ok (hr.mono (by omega)) rfl Dparse_tree.g Dparse_tree.kp Dparse_tree.b .nil pass0 (pa_cons (pv 1) pa_nil)) pa_nil))), ?_⟩
  refine ⟨rfl, ?_⟩
  refine ⟨_, rfl, x, rfl, xn, xl, xz, fun v H1 s1 a1 => ?_⟩
  intro a dx na ndx ne
  have ndx' : (upd (upd H1 dx (.own a)) a (.ins C dx [])) a = some (.ins C dx []) := upd_same
  have k1 : Same H1 (upd (upd H1 dx (.own a)) a (.ins C dx [])) := fun b o e => by
    rw [upd_ne (ne_of_none e na), upd_ne (ne_of_none e ndx)]
    exact e
  refine ⟨a, dx, v, x, rfl, ndx', a1.same k1, xn, xl, xz, fun H2 k2 d2 => ⟨rfl, ?_⟩⟩
  have nH : H a = none := by
    cases e : H a with
    | none => rfl
    | some o => rw [s1 _ _ e] at na; cases na
  refine q a H2 (fun b o e => ?_) nH d2
  have e1 := s1 _ _ e
  exact k2 b o (ne_of_none e1 na) (k1 b o e1)
theorem ok_firstA (F : Fun K "first" "Desk.first" s_Desk_first f fd) (TD : DkC K C) (Dwalk : Df P w K mg base 62 "walk" ["tree", "kind"] spWalk) : FnOk P w K mg base CX0 63 f fd ["self"] (spWalkA C .first) := by
  refine F.ok (k := 62) sc_Desk_first (fun vs H Q E h => ?_) (fun cdv A outer s H vs Q E hr h => ?_)
  · obtain ⟨a, t, rfl, _⟩ := h
    rfl
  obtain ⟨a, t, rfl, ⟨dx, fs, ta, vs, u, h1, h2, h3, h4⟩, hz, q⟩ := h
  refine ⟨_, (pss_one (ps_ret (pe_call Dwalk.ok (hr.mono (by omega)) rfl Dwalk.g Dwalk.kp Dwalk.b .nil pass0 (pa_cons (pe_ix ix_tup (pe_fld (pv 0) rfl) (pe_un un_neg pe_int) (fun _ _ => rfl)) (pa_cons pe_str pa_nil))))), ?_⟩
  exact ⟨_, rfl, a, C, dx, _, _, rfl, h1, TD.cl, TD.nT, h2, _, rfl, ta, _, _, u, rfl, rfl, SqT.of h3, atI_last _ _, u, t, .first, rfl, h4, by omega, q⟩
theorem ok_betwA (F : Fun K "between" "Desk.between" s_Desk_between f fd) (TD : DkC K C) (Dwalk : Df P w K mg base 62 "walk" ["tree", "kind"] spWalk) : FnOk P w K mg base CX0 63 f fd ["self"] (spWalkA C .between) := by
  refine F.ok (k := 62) sc_Desk_between (fun vs H Q E h => ?_) (fun cdv A outer s H vs Q E hr h => ?_)
  · obtain ⟨a, t, rfl, _⟩ := h
    rfl
  obtain ⟨a, t, rfl, ⟨dx, fs, ta, vs, u, h1, h2, h3, h4⟩, hz, q⟩ := h
  refine ⟨_, (pss_one (ps_ret (pe_call Dwalk.ok (hr.mono (by omega)) rfl Dwalk.g Dwalk.kp Dwalk.b .nil pass0 (pa_cons (pe_ix ix_tup (pe_fld (pv 0) rfl) (pe_un un_neg pe_int) (fun _ _ => rfl)) (pa_cons pe_str pa_nil))))), ?_⟩
  exact ⟨_, rfl, a, C, dx, _, _, rfl, h1, TD.cl, TD.nT, h2, _, rfl, ta, _, _, u, rfl, rfl, SqT.of h3, atI_last _ _, u, t, .between, rfl, h4, by omega, q⟩
theorem ok_lastA (F : Fun K "last" "Desk.last" s_Desk_last f fd) (TD : DkC K C) (Dwalk : Df P w K mg base 62 "walk" ["tree", "kind"] spWalk) : FnOk P w K mg base CX0 63 f fd ["self"] (spWalkA C .last) := by
  refine F.ok (k := 62) sc_Desk_last (fun vs H Q E h => ?_) (fun cdv A outer s H vs Q E hr h => ?_)
  · obtain ⟨a, t, rfl, _⟩ := h
    rfl
  obtain ⟨a, t, rfl, ⟨dx, fs, ta, vs, u, h1, h2, h3, h4⟩, hz, q⟩ := h
  refine ⟨_, (pss_one (ps_ret (pe_call Dwalk.ok (hr.mono (by omega)) rfl Dwalk.g Dwalk.kp Dwalk.b .nil pass0 (pa_cons (pe_ix ix_tup (pe_fld (pv 0) rfl) (pe_un un_neg pe_int) (fun _ _ => rfl)) (pa_cons pe_str pa_nil))))), ?_⟩
  exact ⟨_, rfl, a, C, dx, _, _, rfl, h1, TD.cl, TD.nT, h2, _, rfl, ta, _, _, u, rfl, rfl, SqT.of h3, atI_last _ _, u, t, .last, rfl, h4, by omega, q⟩
theorem ok_log {k : Nat} (F : Fun K "log" "LoggedDesk.log" s_LoggedDesk_log f fd) (cl : Cls K C) (nC : NoAttr K C "calls") : FnOk P w K mg base CX0 (k + 1) f fd ["self"] (spLog C) := by
  refine F.ok sc_LoggedDesk_log (fun vs H Q E h => ?_) (fun cdv A outer s H vs Q E hr h => ?_)
  · obtain ⟨a, t, rfl, _⟩ := h
    rfl
  obtain ⟨a, t, rfl, ⟨dx, ta, td, tc, v, h1, h2, h3, h4⟩, q⟩ := h
  refine ⟨_, (pss_one (ps_ret (pe_fld (pv 0) rfl))), ?_⟩
  exact ⟨_, rfl, a, C, dx, _, _, rfl, h1, cl, nC, lg_c _ _ _ _, q tc h3⟩
end
/-- instances of two classes, the left one with the text's own == -/
def DIns2 (C D : Addr) (R : Addr → Addr → Hp → Prop) : Eqv := fun x y H => ∃ a b dx dy fs gs, x = .ref a ∧ y = .ref b ∧ H a = some (.ins C dx fs) ∧ H b = some (.ins D dy gs) ∧ R a b H
theorem rcG_ins2 {X : Cx} {CX : CXT} {n : Nat} {C D f : Addr} {fd : FuncData} {ps : List Str} {R : Addr → Addr → Hp → Prop} {E : XK} (F : FnOk X.prog X.w X.K X.mg X.base CX n f fd ps (spEq R))
    (hs : PySem.W.findIn X.K (.ref C) "__eq__" = some (some (.ref f))) (hf : PySem.W.isFn X.K (.ref f) = true) (hn : PySem.W.notFirst X.K C (.ref D) = true) (hb : Binds X.K fd ps []) (hx : Passes CX X E) : RcG X n (DIns2 C D R) := by
  intro A pins s σ H x y u v sb I rx ry d
  obtain ⟨a, b, dx, dy, fs, gs, rfl, rfl, ha, hb', hr⟩ := d
  cases rx
  cases ry
  obtain ⟨mA, J, _⟩ := ins_get I.hok ha
  obtain ⟨mB, J', _⟩ := ins_get I.hok hb'
  obtain ⟨od, J, _⟩ := J.look
  obtain ⟨od', J', _⟩ := J'.look
  obtain ⟨m, hF⟩ := I.fr
  refine PySem.W.cmp_K (op := .Eq) (tb := .ref D) sb.room.units0 hF I.ok.mod.kin J J'.type hn hs hf ?_
  have hsp : spEq R [.ref a, .ref b] H (fun v H' => v = .bl true ∧ Ext H H') E := ⟨a, b, rfl, hr, fun H' e => ⟨rfl, e⟩⟩
  have e0 : Env0 X.prog X.w X.K X.mg X.base A X.stack s H := by
    have e := I.env0
    exact ⟨by rw [sb.fr]; exact e.frames, e.mod, e.bs, e.bsz, e.funs, e.frf, e.hok, e.bare⟩
  have hl := F.len _ _ _ _ hsp
  have r2 : Vals [V.ref a, V.ref b] [Value.ref a, Value.ref b] := .cons rfl (.cons rfl .nil)
  refine wpAny_call (codeAny_mono (F.run A X.stack s H ⟨[.ref a, .ref b], []⟩ [.ref a, .ref b] [.ref a, .ref b] _ E sb.room e0 (by
    have := hb s [.ref a, .ref b] I.kIn (by simpa using hl)
    simpa using this) r2 hsp) fun r s' hq => ?_)
  cases r with
  | error e => exact hx pins σ H s e s' I hq
  | ok fl =>
    cases fl with
    | ret w =>
      obtain ⟨z, H', I', rz, ez, ex⟩ := I.after hq
      subst ez
      cases rz
      exact ⟨rfl, H', I', ex⟩
    | next => exact False.elim hq
    | brk => exact False.elim hq
    | cont => exact False.elim hq
def REq2 (C D : Addr) (a b : Addr) (H : Hp) : Prop := ∃ t, Ds C H a t ∧ Ds D H b t ∧ t ≠ .nil ∧ t.size ≤ 12
section
variable {P : Program} {w : World} {K : PySem.W.Frag} {mg : Str → Option Value} {base : Heap} {f : Addr} {fd : FuncData} {C D : Addr}
theorem ok_eqG2 (F : Fun K "__eq__" "Desk.__eq__" s_Desk___eq__ f fd) (M : Mgs mg) (hgD : mg "Desk" = some (.ref D)) (TC : DkC K C) (TD : DkC K D) (IC : InsK K D) : FnOk P w K mg base CX0 14 f fd ["self", "other"] (spEq (REq2 C D)) := by
  refine F.ok (k := 13) sc_Desk___eq__ (fun vs H Q E h => ?_) (fun cdv A outer s H vs Q E hr h => ?_)
  · obtain ⟨a, b, rfl, _⟩ := h
    rfl
  obtain ⟨a, b, rfl, ⟨t, d1, d2, tn, tz⟩, q⟩ := h
  have bu : bootBuiltins "isinstance" = some (.builtin "isinstance") := by decide +kernel
  refine ⟨_, (pss_one (ps_ret (pe_and (pe_callB call_isi rfl M.isinstance bu (pa_cons (pv 1) (pa_cons (pe_glob (v := .ref D) rfl hgD rfl) pa_nil))) (pe_one (pe_cmpR (op_eqG (rcG_tup mon_DT (eqG_DT (n := 12))) (hr.mono (by omega))) (pe_ix ix_tup (pe_fld (pv 0) rfl) (pe_un un_neg pe_int) (fun _ _ => rfl)) (pe_ix ix_tup (pe_fld (pv 1) rfl) (pe_un un_neg pe_int) (fun _ _ => rfl)) (nomark _)))))), ?_⟩
  obtain ⟨dx, fs, ta, vs, u, h1, h2, h3, h4⟩ := d1
  obtain ⟨dx', fs', ta', vs', u', g1, g2, g3, g4⟩ := d2
  refine ⟨_, rfl, _, _, .ref D, .ref D, true, rfl, .own _, .base (.ins g1 TD.cl IC.ha IC.hn IC.htk IC.hm), IC.me, true, rfl, iteT ?_⟩
  refine ⟨_, rfl, a, C, dx, _, _, rfl, h1, TC.cl, TC.nT, h2, 1, rfl, ta, _, _, u, rfl, rfl, SqT.of h3, atI_last _ _, ?_⟩
  refine ⟨_, rfl, b, D, dx', _, _, rfl, g1, TD.cl, TD.nT, g2, 1, rfl, ta', _, _, u', rfl, rfl, SqT.of g3, atI_last _ _, ?_⟩
  refine ⟨?_, q⟩
  rcases h4.inv with ⟨rfl, rfl⟩ | ⟨x1, vl, vr, x, tl, tr, rfl, rfl, ea, hvl, hvr⟩
  · exact absurd rfl tn
  rcases g4.inv with ⟨_, e⟩ | ⟨a', vl', vr', x', tl', tr', rfl, e, ea', hvl', hvr'⟩
  · cases e
  cases e
  have : tl.size + 1 + tr.size ≤ 12 := tz
  exact ⟨_, _, _, _, rfl, rfl, SqT.of ea, SqT.of ea', .cons (BAt.dt 12 tl _ _ hvl hvl' (by omega)) (.cons (DT.flat (DFlat.str _)) (.cons (BAt.dt 12 tr _ _ hvr hvr' (by omega)) .nil))⟩
end
/-! ### _law_right -/
def spRight (C : Addr) : Sp := fun vs H Q _ => ∃ (a : Addr) (ts : List B) (t : B) (es : List Ed), vs = [.ref a] ∧ Dk C H a ts t es false ∧ Tg t ∧ ∀ H', Same H H' → Q (.bl true) H'
def nF : Deck := fun _ => False
theorem nf {H : Hp} : NoT nF H := fun _ z => z.elim
theorem tree_ok {t : B} (ht : Tg t) : gd t.data = true ∧ wt t.data ≤ 1000000 ∧ t.data.depth ≤ 60 := by
  obtain ⟨h1, h2, _⟩ := ht
  obtain ⟨a1, a2, a3⟩ := tree_gd t h1
  exact ⟨a1, by omega, by omega⟩
section
variable {P : Program} {w : World} {K : PySem.W.Frag} {mg : Str → Option Value} {base : Heap} {f : Addr} {fd : FuncData} {C CL : Addr}
theorem ok_right {ft fe gr pm : Addr} {fdt fde : FuncData} {dn : List Value} {mc : Value} (F : Fun K "_law_right" "_law_right" s__law_right f fd) (TD : DeskC K mg C) (LC : DkC K CL) (gCL : mg "LoggedDesk" = some (.ref CL)) (D_law_equal : DfG P w K mg base 1 "_law_equal" ["_law_one", "_law_other"] spEqualQ)
    (MT : Meth K C "tree" ft) (Ft : FnOk P w K mg base CX0 1 ft fdt ["self", "version"] (spTreeM C)) (bt : Binds K fdt ["self", "version"] dn) (vt : Vals [.non] dn)
    (Dtree_text : Df P w K mg base 26 "tree_text" ["tree"] (spText 13)) (Dparse_tree : Df P w K mg base 60 "parse_tree" ["text"] spParse)
    (CR : ClX.CRead K CL mc) (CM : ClX.CMet K CL mc "read" pm gr) (FR : FnR P w K mg base CX0 61 gr (spReadD CL (Lg CL)))
    (Feq : FnOk P w K mg base CX0 14 fe fde ["self", "other"] (spEq (REq2 CL C))) (eE : PySem.W.findIn K (.ref CL) "__eq__" = some (some (.ref fe))) (fE : PySem.W.isFn K (.ref fe) = true) (nE : PySem.W.notFirst K CL (.ref C) = true) (bE : Binds K fde ["self", "other"] [])
    (Plog : PDf P w K mg base CL 1 "log" (spLog CL)) (PLf : PDf P w K mg base CL 63 "first" (spWalkA CL .first)) (PLb : PDf P w K mg base CL 63 "between" (spWalkA CL .between)) (PLl : PDf P w K mg base CL 63 "last" (spWalkA CL .last))
    (Pfirst : PDf P w K mg base C 63 "first" (spWalkP C .first)) (Pbetw : PDf P w K mg base C 63 "between" (spWalkP C .between)) (Plast : PDf P w K mg base C 63 "last" (spWalkP C .last)) :
    FnOkG P w K mg base 66 f fd ["_law_desk"] (spRight C) := by
  refine fnG F (k := 65) sc__law_right (fun vs H Q E h => ?_) (fun cdv A outer s H vs Q E gs hr h => ?_)
  · obtain ⟨a, ts, t, es, rfl, _⟩ := h
    rfl
  obtain ⟨a, ts, t, es, rfl, dk, tg, q⟩ := h
  refine ⟨_, (pss_cons (ps_set (i := 1) sc__law_right.nd rfl (.inl rfl) (pe_call Dtree_text.ok (hr.mono (by omega)) rfl Dtree_text.g Dtree_text.kp Dtree_text.b .nil pass0 (pa_cons (pe_meth0 (pv 0) TD.cl MT Ft (hr.mono (by omega)) bt vt pass0) pa_nil)))
    (pss_cons (ps_if (pt_not (pt_val (pe_callG D_law_equal.ok gs (hr.mono (by omega)) rfl D_law_equal.g D_law_equal.kp D_law_equal.b (pa_cons (pe_call Dparse_tree.ok (hr.mono (by omega)) rfl Dparse_tree.g Dparse_tree.kp Dparse_tree.b .nil pass0 (pa_cons (pv 1) pa_nil)) (pa_cons (pe_meth0 (pv 0) TD.cl MT Ft (hr.mono (by omega)) bt vt pass0) pa_nil)))))
      (pss_one (ps_ret pe_bl)) pss_nil)
    (pss_cons (ps_set (i := 2) sc__law_right.nd rfl (.inl rfl) (ClX.pe_cmeth (pe_glob (v := .ref CL) rfl gCL rfl) CR CM FR (hr.mono (by omega)) pass0 (pa_cons (pv 1) pa_nil)))
    (pss_cons (ps_if (PW.pt (pw_or (pt_not (pt_cmpR (op_eqG (rcG_ins2 Feq eE fE nE bE pass0) (hr.mono (by omega))) (pv 2) (pv 0) (nomark _))) (pw_or1 (pt_cmpR (show OpR _ (compareOp .NotEq) (rNeD K) from op_neD hr.units) (pe_prop (pv 2) LC.cl Plog.pr Plog.ok (hr.mono (by omega)) Plog.b .nil (E := E0) (fun _ _ _ _ _ _ _ h => h.elim) rfl) (pe_tup pa_nil) (nomark _)))))
      (pss_one (ps_ret pe_bl)) pss_nil)
    (pss_one (ps_ret (pe_callG D_law_equal.ok gs (hr.mono (by omega)) rfl D_law_equal.g D_law_equal.kp D_law_equal.b (pa_cons (pe_tup (pa_cons (pe_prop (pv 2) LC.cl PLf.pr PLf.ok (hr.mono (by omega)) PLf.b .nil (E := E0) (fun _ _ _ _ _ _ _ h => h.elim) rfl) (pa_cons (pe_prop (pv 2) LC.cl PLb.pr PLb.ok (hr.mono (by omega)) PLb.b .nil (E := E0) (fun _ _ _ _ _ _ _ h => h.elim) rfl) (pa_cons (pe_prop (pv 2) LC.cl PLl.pr PLl.ok (hr.mono (by omega)) PLl.b .nil (E := E0) (fun _ _ _ _ _ _ _ h => h.elim) rfl) pa_nil)))) (pa_cons (pe_tup (pa_cons (pe_prop (pv 0) TD.cl Pfirst.pr Pfirst.ok (hr.mono (by omega)) Pfirst.b .nil (E := E0) (fun _ _ _ _ _ _ _ h => h.elim) rfl) (pa_cons (pe_prop (pv 0) TD.cl Pbetw.pr Pbetw.ok (hr.mono (by omega)) Pbetw.b .nil (E := E0) (fun _ _ _ _ _ _ _ h => h.elim) rfl) (pa_cons (pe_prop (pv 0) TD.cl Plast.pr Plast.ok (hr.mono (by omega)) Plast.b .nil (E := E0) (fun _ _ _ _ _ _ _ h => h.elim) rfl) pa_nil)))) pa_nil))))))))), ?_⟩
  have nl : ∀ {m : Str} (vt vd vb : V), (m == ("trees" : Str)) = false → (m == ("done" : Str)) = false → (m == ("busy" : Str)) = false → (deskF vt vd vb).lookup m = none := no_look
  obtain ⟨tl, tz, tn⟩ := id tg
  have td := t.deep_le
  obtain ⟨m1, m2, m3⟩ := tree_ok tg
  obtain ⟨dx, ta, td', vs, u, ds, h1, _⟩ := id dk
  refine ⟨_, rfl, a, dx, _, rfl, h1, nl _ _ _ (by decide +kernel) (by decide +kernel) (by decide +kernel), a, ts, t, es, false, rfl, dk, fun v hv => ?_⟩
  refine ⟨v, t, rfl, hv, tn, by omega, by omega, ?_⟩
  refine ⟨_, rfl, t, rfl, tn, tl, tz, fun v2 H2 s2 hv2 => ?_⟩
  have dk2 := dk.same s2
  refine ⟨_, rfl, a, dx, _, rfl, s2 _ _ h1, nl _ _ _ (by decide +kernel) (by decide +kernel) (by decide +kernel), a, ts, t, es, false, rfl, dk2, fun v3 hv3 => ?_⟩
  refine ⟨_, _, nF, _, rfl, nf.dq hv2, nf.dq hv3, m1, m2, m3, true, rfl, iteF ?_⟩
  refine ⟨rfl, _, rfl, t, rfl, tn, tl, tz, fun b H3 s3 nb lg => ?_⟩
  have dk3 := dk2.same s3
  obtain ⟨dx3, _, _, _, _, _, h3, _⟩ := id dk3
  obtain ⟨dxl, _, _, _, _, hl1, _⟩ := id lg
  refine ⟨_, rfl, _, rfl, ⟨b, a, dxl, dx3, _, _, rfl, rfl, hl1, h3, t, lg.ds, dk3.ds, tn, tz⟩, fun H4 s4 => ⟨_, rfl, iteF ?_⟩⟩
  have lg4 := lg.same s4
  have dk4 := dk3.same s4
  obtain ⟨dxl4, _, _, _, _, hl4, _⟩ := id lg4
  refine ⟨_, rfl, b, dxl4, _, rfl, hl4, b, t, rfl, lg4, fun tc htc => ?_⟩
  refine ⟨(by show 0 ≤ sizeLine; decide), fun p0 np0 => ?_⟩
  have s5 := same_new np0 (.tup [])
  refine ⟨.tuple [], .tuple [], .tup (SqT.of (s5 _ _ htc)) .nil, .tup (SqT.of upd_same) .nil, rfl, rfl, _, rfl, iteF ?_⟩
  have lg5 := lg4.same s5
  have dk5 := dk4.same s5
  have s25 := s2.trans (s3.trans (s4.trans s5))
  generalize upd H4 p0 (.tup []) = H5 at lg5 dk5 s25 ⊢
  clear lg4 dk4 hl4 htc np0 s5 hl1 h3 lg dk3 dk2 hv2 hv3 hv h1 dk
  obtain ⟨e1, _, _, _, _, k1, _⟩ := id lg5
  refine ⟨_, rfl, b, e1, _, rfl, k1, b, t, rfl, lg5.ds, tz, fun H6 s6 => ?_⟩
  refine ⟨_, rfl, b, e1, _, rfl, s6 _ _ k1, b, t, rfl, lg5.ds.same s6, tz, fun H7 s7 => ?_⟩
  refine ⟨_, rfl, b, e1, _, rfl, s7 _ _ (s6 _ _ k1), b, t, rfl, (lg5.ds.same s6).same s7, tz, fun H8 s8 => ?_⟩
  have s58 := s6.trans (s7.trans s8)
  have dk8 := dk5.same s58
  have s28 := s25.trans s58
  refine ⟨(by show 3 ≤ sizeLine; decide), fun p1 np1 => ?_⟩
  have s9 := same_new np1 (.tup [.str (tx (t.wk .first)), .str (tx (t.wk .between)), .str (tx (t.wk .last))])
  have ep1 := upd_same (H := H8) (a := p1) (o := .tup [.str (tx (t.wk .first)), .str (tx (t.wk .between)), .str (tx (t.wk .last))])
  have dk9 := dk8.same s9
  have s29 := s28.trans s9
  generalize upd H8 p1 (.tup [.str (tx (t.wk .first)), .str (tx (t.wk .between)), .str (tx (t.wk .last))]) = H9 at ep1 dk9 s29 ⊢
  clear s9 dk8 np1
  obtain ⟨e2, _, _, _, _, _, k2, _⟩ := id dk9
  refine ⟨_, rfl, a, e2, _, rfl, k2, a, ts, t, es, false, rfl, dk9, tz, fun Ha sa => ?_⟩
  refine ⟨_, rfl, a, e2, _, rfl, sa _ _ k2, a, ts, t, es, false, rfl, dk9.same sa, tz, fun Hb sb => ?_⟩
  refine ⟨_, rfl, a, e2, _, rfl, sb _ _ (sa _ _ k2), a, ts, t, es, false, rfl, (dk9.same sa).same sb, tz, fun Hc sc => ?_⟩
  have s9c := sa.trans (sb.trans sc)
  refine ⟨(by show 3 ≤ sizeLine; decide), fun p2 np2 => ?_⟩
  have sd := same_new np2 (.tup [.str (tx (t.wk .first)), .str (tx (t.wk .between)), .str (tx (t.wk .last))])
  have g1 := gd_tx (show (t.wk .first).length ≤ 12 by rw [t.wk_len]; exact tz) (wk_low tl .first)
  have g2 := gd_tx (show (t.wk .between).length ≤ 12 by rw [t.wk_len]; exact tz) (wk_low tl .between)
  have g3 := gd_tx (show (t.wk .last).length ≤ 12 by rw [t.wk_len]; exact tz) (wk_low tl .last)
  refine ⟨_, _, nF, .tuple [.str (tx (t.wk .first)), .str (tx (t.wk .between)), .str (tx (t.wk .last))], rfl, .tup (fun z => z) (sd _ _ (s9c _ _ ep1)) (.cons (.str _) (.cons (.str _) (.cons (.str _) .nil))), .tup (fun z => z) upd_same (.cons (.str _) (.cons (.str _) (.cons (.str _) .nil))), ?_, ?_, ?_, q _ (s29.trans (s9c.trans sd))⟩
  · simp only [gd_t, gd_c, gd_e, g1, g2, g3, Bool.and_self]
  · simp only [wt_tt, wt_tc, wt_te, wt_ts]
    decide
  · simp only [dp_t, dp_c, dp_e, dp_s]
    decide
end
/-! ### the law -/
theorem iteE {x y : V} {A B : Prop} (h : x = y) (b : B) : if (!decide (x = y)) = true then A else B := by
  rw [decide_eq_true h]
  exact b
theorem rd_same {H H' : Hp} {a : Addr} {u : HO} (k : Same H H') (h : Rd H a u) : Rd H' a u := by
  rcases h with h | ⟨o, h⟩
  · exact .inl (k _ _ h)
  · exact .inr ⟨o, k _ _ h⟩
theorem sqL_same {K : PySem.W.Frag} {H H' : Hp} {a : Addr} {xs : List V} (k : Same H H') (h : SqL K H a xs) : SqL K H' a xs := h.imp (rd_same k) id
theorem same_but {Hs H H' : Hp} {a : Addr} (s : Same Hs H) (n : Hs a = none) (b : But a H H') : Same Hs H' := fun x o e => b x o (ne_of_none e n) (s x o e)
theorem none_of {Hs H : Hp} {a : Addr} (s : Same Hs H) (n : H a = none) : Hs a = none := by
  cases e : Hs a with
  | none => rfl
  | some o => rw [s _ _ e] at n; cases n
theorem Dk.other {C a b : Addr} {H H' : Hp} {ts us : List B} {t u : B} {es fs : List Ed} {bu bv : Bool} (k : But b H H') (ne : a ≠ b) (db : Dk C H b us u fs bv) (d : Dk C H a ts t es bu) : Dk C H' a ts t es bu := by
  obtain ⟨dx, ta, td, vs, v, ds, h1, h2, h3, h4, h5, h6⟩ := d
  have kt := k.keepT db
  exact ⟨dx, ta, td, vs, v, ds, k _ _ ne h1, kt _ _ h2, kt _ _ h3, h4.keep kt, h5.keep kt, h6.keep kt⟩
theorem Dk.ins {C b : Addr} {H : Hp} {ts : List B} {t : B} {fs : List Ed} {bv : Bool} (db : Dk C H b ts t fs bv) : ∃ dx fs, H b = some (.ins C dx fs) := by
  obtain ⟨dx, ta, td, vs, v, ds, h1, _⟩ := db
  exact ⟨dx, _, h1⟩
section
variable {P : Program} {w : World} {K : PySem.W.Frag} {mg : Str → Option Value} {base : Heap} {f : Addr} {fd : FuncData} {C : Addr}
theorem run_law {s : Shared} {H : Hp} {a fi fs ft gL gr pm fe : Addr} {ns : List Int} {fdi fds fdt fde : FuncData} {dv dn : List Value} {mc : Value} (F : Fun K "law" "law" s_law f fd) (bd : BindsTo s fd ⟨[.ref a], []⟩ [("_law_script", .ref a)]) (en : Env0 P w K mg base callerA [] s H) (hS : SqL K H a (ns.map V.int))
    (M : Mgs mg) (TD : DeskC K mg C) (D_law_stream : Df P w K mg base 1 "_law_stream" ["_law_script", "_law_turn"] (spStream K)) (D_law_tree : Df P w K mg base 22 "_law_tree" ["_law_stream_here", "_law_top"] spTreeL) (D_law_take : Df P w K mg base 1 "_law_take" ["_law_stream_here", "_law_many"] spTake1)
    (MK : Mk K C fi) (Fi : FnOk P w K mg base CX0 4 fi fdi ["self", "tree"] (spInitG C (AtD C))) (bi : Binds K fdi ["self", "tree"] [])
    (Dundo : MDf P w K mg base C 2 "undo" ["self"] (spUndo C)) (cL : PySem.W.findIn K (.ref C) "__len__" = some (some (.ref gL))) (fL : PySem.W.isFn K (.ref gL) = true) (FL : FnR P w K mg base CX0 1 gL (spVer C))
    (MT : Meth K C "tree" ft) (Ft : FnOk P w K mg base CX0 1 ft fdt ["self", "version"] (spTreeM C)) (bt : Binds K fdt ["self", "version"] dn) (vt : Vals [.non] dn)
    (Fs : FnOk P w K mg base CX0 3 fs fds ["_law_stream_here", "_law_tree_here", "_law_top"] spSome) (gsm : mg "_law_some_edit" = some (.ref fs)) (ksm : PySem.W.keepIn K (.ref fs) = true) (bsm : Binds K fds ["_law_stream_here", "_law_tree_here", "_law_top"] dv) (vsm : Vals [.int 13] dv)
    (Dtree_text : Df P w K mg base 26 "tree_text" ["tree"] (spText 13)) (CRd : ClX.CRead K C mc) (CM : ClX.CMet K C mc "read" pm gr) (FR : FnR P w K mg base CX0 61 gr (spReadD C (AtD C)))
    (D_law_tried : Df P w K mg base 28 "_law_tried" ["_law_desk", "_law_edit"] (spTriedX C)) (D_law_right : DfG P w K mg base 66 "_law_right" ["_law_desk"] (spRight C))
    (Feq : FnOk P w K mg base CX0 14 fe fde ["self", "other"] (spEq (REq C))) (eE : PySem.W.findIn K (.ref C) "__eq__" = some (some (.ref fe))) (fE : PySem.W.isFn K (.ref fe) = true) (bE : Binds K fde ["self", "other"] []) :
    codeAny (model P w) callerA (.call (.ref f) ⟨[.ref a], []⟩) (CR CX0 [] P w H s (fun v _ => v = .bl true) fun _ _ _ => False) s := by
  refine enter_def (k := 68) (vs := [.ref a]) (us := [.ref a]) F sc_law ⟨rfl, by decide, by decide⟩ en bd (.cons rfl .nil) rfl fun cdv hr => ?_
  refine ⟨_, (pss_cons (ps_for PassesOwn.never rfl (pi_range1 rfl M.range (pa_cons pe_int pa_nil)) (pg_name (i := 1) sc_law.nd rfl (.inl rfl))
      (pss_cons (ps_set (i := 2) sc_law.nd rfl (.inl rfl) (pe_call D_law_stream.ok (hr.mono (by omega)) rfl D_law_stream.g D_law_stream.kp D_law_stream.b .nil pass0 (pa_cons (pv 0) (pa_cons (pv 1) pa_nil))))
    (pss_cons (ps_set (i := 3) sc_law.nd rfl (.inl rfl) (pe_make MK Fi (hr.mono (by omega)) rfl TD.g bi .nil pass0 (pa_cons (pe_call D_law_tree.ok (hr.mono (by omega)) rfl D_law_tree.g D_law_tree.kp D_law_tree.b .nil pass0 (pa_cons (pv 2) (pa_cons pe_int pa_nil))) pa_nil)))
    (pss_one (ps_for PassesOwn.never rfl (pi_range1 rfl M.range (pa_cons (pe_op op_add pe_int (pe_call D_law_take.ok (hr.mono (by omega)) rfl D_law_take.g D_law_take.kp D_law_take.b .nil pass0 (pa_cons (pv 2) (pa_cons pe_int pa_nil)))) pa_nil)) (pg_name (i := 4) sc_law.nd rfl (.inl rfl))
      (pss_cons (ps_if (PW.pt (pw_and (pt_cmpR op_gt (pe_callB (call_lenOwn cL fL FL (hr.mono (by omega))) rfl M.len PySem.boot_len (pa_cons (pv 3) pa_nil)) pe_int (nomark _)) (pw_and1 (pt_cmpR op_eq (pe_call D_law_take.ok (hr.mono (by omega)) rfl D_law_take.g D_law_take.kp D_law_take.b .nil pass0 (pa_cons (pv 2) (pa_cons pe_int pa_nil))) pe_int (nomark _)))))
      (pss_cons (ps_set (i := 5) sc_law.nd rfl (.inl rfl) (pe_callB (call_lenOwn cL fL FL (hr.mono (by omega))) rfl M.len PySem.boot_len (pa_cons (pv 3) pa_nil)))
    (pss_one (ps_if (pt_cmpR op_ne (pe_meth0 (pv 3) TD.cl Dundo.at_ Dundo.ok (hr.mono (by omega)) Dundo.b .nil pass0) (pe_op op_sub (pv 5) pe_int) (nomark _))
      (pss_one (ps_ret pe_bl)) pss_nil))) pss_nil)
    (pss_cons (ps_set (i := 6) sc_law.nd rfl (.inl rfl) (pe_call Fs (hr.mono (by omega)) rfl gsm ksm bsm vsm pass0 (pa_cons (pv 2) (pa_cons (pe_meth0 (pv 3) TD.cl MT Ft (hr.mono (by omega)) bt vt pass0) pa_nil))))
    (pss_cons (ps_set (i := 7) sc_law.nd rfl (.inl rfl) (ClX.pe_cmeth (pe_glob (v := .ref C) rfl TD.g rfl) CRd CM FR (hr.mono (by omega)) pass0 (pa_cons (pe_call Dtree_text.ok (hr.mono (by omega)) rfl Dtree_text.g Dtree_text.kp Dtree_text.b .nil pass0 (pa_cons (pe_meth0 (pv 3) TD.cl MT Ft (hr.mono (by omega)) bt vt pass0) pa_nil)) pa_nil)))
    (pss_cons (ps_par (i := 8) (j := 9) (by rfl) sc_law.nd rfl rfl (by decide) rfl rfl (pa_cons (pe_call D_law_tried.ok (hr.mono (by omega)) rfl D_law_tried.g D_law_tried.kp D_law_tried.b .nil pass0 (pa_cons (pv 3) (pa_cons (pv 6) pa_nil))) (pa_cons (pe_call D_law_tried.ok (hr.mono (by omega)) rfl D_law_tried.g D_law_tried.kp D_law_tried.b .nil pass0 (pa_cons (pv 7) (pa_cons (pv 6) pa_nil))) pa_nil)) (by rfl))
    (pss_cons (ps_if (PW.pt (pw_or (pt_cmpR op_ne (pe_cmpR op_isN (pv 8) pe_non (nomark _)) (pe_cmpR op_isN (pv 9) pe_non (nomark _)) (nomark _)) (pw_or1 (pt_not (pt_cmpR (op_eqG (rcG_ins Feq eE fE bE pass0) (hr.mono (by omega))) (pv 7) (pv 3) (nomark _))))))
      (pss_one (ps_ret pe_bl)) pss_nil)
    (pss_one (ps_if (pt_not (pt_val (pe_callG D_law_right.ok rfl (hr.mono (by omega)) rfl D_law_right.g D_law_right.kp D_law_right.b (pa_cons (pv 3) pa_nil))))
      (pss_one (ps_ret pe_bl)) pss_nil))))))))))))
    (pss_one (ps_ret pe_bl))), ?_⟩
  have nl : ∀ {m : Str} (vt vd vb : V), (m == ("trees" : Str)) = false → (m == ("done" : Str)) = false → (m == ("busy" : Str)) = false → (deskF vt vd vb).lookup m = none := no_look
  refine ⟨2, rfl, by decide, by decide, ?_⟩
  refine for_range (lo := 0) (n := 2) (fun i σ H' => ∃ y1 y2 y3 y4 y5 y6 y7 y8 y9 : Option V, σ = [some (.ref a), y1, y2, y3, y4, y5, y6, y7, y8, y9] ∧ Same H H') ⟨none, none, none, none, none, none, none, none, none, rfl, Same.refl _⟩ (fun i σ H1 hi hp => ?_) (fun σ H1 hp => ?_)
  · obtain ⟨y1, y2, y3, y4, y5, y6, y7, y8, y9, rfl, s1⟩ := hp
    refine ⟨_, rfl, _, rfl, a, ns, i, (by rw [Int.zero_add]; rfl), sqL_same s1 hS, by omega, fun sa H2 nsa s2 st2 => ?_⟩
    have nsH := none_of s1 nsa
    have s02 := s1.trans s2
    refine ⟨_, rfl, sa, 0, 12, rfl, st2, by decide, by decide, by decide, fun v t n3 H3 b3 z0 z1 l3 st3 hn3 bu3 => ?_⟩
    have s13 : Same H H3 := same_but s02 nsH bu3
    refine fun ad dx nad ndx ndd => ?_
    have kA := same_new ndx (.own ad)
    have nad' : (upd H3 dx (.own ad)) ad = none := by rw [upd_ne ndd.symm]; exact nad
    have k5 := kA.trans (same_new nad' (.ins C dx []))
    have hn0 : t ≠ .nil := nd_nil.mpr z0
    refine ⟨ad, dx, v, t, rfl, upd_same, b3.same k5, hn0, l3, by omega, fun H5 b5 dk5 => ?_⟩
    have bu45 : Same H3 H5 := fun b o e => b5 b o (fun z => by rw [z, nad] at e; cases e) (k5 b o e)
    have nadH := none_of s13 nad
    have st5 := st3.same bu45
    have s15 := s13.trans bu45
    have hT0 : Tg t := ⟨l3, by omega, hn0⟩
    clear kA nad' k5 b5 st3 b3 st2 bu3
    refine ⟨rfl, _, rfl, sa, n3, 12, rfl, st5, by omega, by decide, by decide, fun mj n6 H6 l6 st6 hn6 bu6 => ?_⟩
    obtain ⟨xs5, es5⟩ := st5.lst
    have D6 : Dk C H6 ad [] t [] false := Dk.apart bu6 es5 dk5
    have s16 := same_but s15 nsH bu6
    refine ⟨_, _, rfl, rfl, 1 + (mj : Int), rfl, by omega, by omega, ?_⟩
    rw [show (1 + (mj : Int)) = ((1 + mj : Nat) : Int) by omega]
    refine for_range (lo := 0) (n := 1 + mj) (fun j σ H' => ∃ (ts : List B) (t1 : B) (es : List Ed) (n : Nat) (y4 y5 y6 y7 y8 y9 : Option V), σ = [some (.ref a), some (.int (0 + (i : Int))), some (.ref sa), some (.ref ad), y4, y5, y6, y7, y8, y9] ∧ Dk C H' ad ts t1 es false ∧ Strm H' sa n ∧ n ≤ 1000 + 200 * j ∧ es.length ≤ j ∧ ts.length = es.length ∧ (∀ b ∈ ts ++ [t1], Tg b) ∧ Same H H')
      ⟨[], t, [], n6, _, _, _, _, _, _, rfl, D6, st6, by omega, Nat.le_refl _, rfl, (fun b hb => by rw [List.mem_singleton.mp hb]; exact hT0), s16⟩ (fun j σ Ha hj hp => ?_) (fun σ Ha hp => ?_)
    · obtain ⟨ts, t1, es, n, y4, y5, y6, y7, y8, y9, rfl, dk, st, hn, hl, hrl, tg, sH⟩ := hp
      obtain ⟨dx1, ta, td, vs, u, ds, h1, _⟩ := id dk
      dsimp only [gName]
      refine seq_cut (fun σ H' => ∃ (ts : List B) (t1 : B) (es : List Ed) (n : Nat) (y5 : Option V), σ = [some (.ref a), some (.int (0 + (i : Int))), some (.ref sa), some (.ref ad), some (.int (0 + (j : Int))), y5, y6, y7, y8, y9] ∧ Dk C H' ad ts t1 es false ∧ Strm H' sa n ∧ n ≤ 1000 + 200 * j + 100 ∧ es.length ≤ j ∧ ts.length = es.length ∧ (∀ b ∈ ts ++ [t1], Tg b) ∧ Same H H') (fun σ Hb hp => ?_) (fun rest => ?_)
      · clear dk st hn hl hrl tg sH h1
        obtain ⟨ts, t1, es, n, y5, rfl, dk, st, hn, hl, hrl, tg, sH⟩ := hp
        obtain ⟨dx1, ta, td, vs, u, ds, h1, _⟩ := id dk
        obtain ⟨lt, lz, ln⟩ := tg t1 (List.mem_append_right _ (List.mem_singleton.mpr rfl))
        have z0' := nd_nil.mp ln
        have dp := t1.deep_le
        refine ⟨_, rfl, _, rfl, ad, dx1, _, rfl, h1, nl _ _ _ (by decide +kernel) (by decide +kernel) (by decide +kernel), ad, ts, t1, es, false, rfl, dk, fun vw hvw => ?_⟩
        refine ⟨sa, _, vw, t1, rfl, st, by omega, hvw, z0', lz, fun q e nb Hd he hd stb hnb bub => ?_⟩
        obtain ⟨xsX, esX⟩ := st.lst
        have dkd := dk.apart bub esX
        have sd := same_but sH nsH bub
        have nsad : sa ≠ ad := fun z => by rw [z, h1] at esX; cases esX
        obtain ⟨dx2, _, _, _, _, _, h2, _⟩ := id dkd
        refine ⟨rfl, _, rfl, ad, dx2, _, rfl, h2, nl _ _ _ (by decide +kernel) (by decide +kernel) (by decide +kernel), ad, ts, t1, es, false, rfl, dkd, fun vx hvx => ?_⟩
        refine ⟨vx, t1, rfl, hvx, ln, by omega, by omega, t1, rfl, ln, lt, lz, fun fr He se nfr dkf => ?_⟩
        have dke := dkd.same se
        have ste := stb.same se
        have sHe := sd.trans se
        have hee := se _ _ he
        have nfa : fr ≠ ad := fun z => by rw [z, h2] at nfr; cases nfr
        have nfH := none_of sd nfr
        have nfs : sa ≠ fr := fun z => by obtain ⟨xs, e⟩ := stb.lst; rw [z, nfr] at e; cases e
        clear dkd stb sd he se dk st h1 h2 hvx hvw bub esX
        refine seq_cutN (fun σ H' => ∃ (ts' us : List B) (t' : B) (es' fs' : List Ed) (x y : V), σ = [some (.ref a), some (.int (0 + (i : Int))), some (.ref sa), some (.ref ad), some (.int (0 + (j : Int))), y5, some (.ref q), some (.ref fr), some x, some y] ∧ decide (x = .non) = decide (y = .non) ∧ Dk C H' ad ts' t' es' false ∧ Dk C H' fr us t' fs' false ∧ Strm H' sa nb ∧ es'.length ≤ j + 1 ∧ ts'.length = es'.length ∧ (∀ b ∈ ts' ++ [t'], Tg b) ∧ Same H H') (fun σ Hf hp => ?_) (fun rest => ?_)
        · obtain ⟨ts', us, t', es', fs', x, y, rfl, hxy, da, df, stf, hl', hrl', tg', sHf⟩ := hp
          have hT := tg' t' (List.mem_append_right _ (List.mem_singleton.mpr rfl))
          obtain ⟨dxa, _, _, _, _, _, ga, _⟩ := id da
          obtain ⟨dxf, _, _, _, _, _, gf, _⟩ := id df
          refine ⟨_, rfl, rfl, _, rfl, rfl, rfl, _, rfl, ?_⟩
          rw [hxy, decide_eq_true (rfl : V.bl _ = V.bl _)]
          refine iteF ⟨_, rfl, _, rfl, ⟨fr, ad, dxf, dxa, _, _, rfl, rfl, gf, ga, us, ts', t', fs', es', df, da, hT.2.2, hT.2.1⟩, fun Hg sg => ⟨_, rfl, iteF ?_⟩⟩
          refine ⟨_, rfl, ad, ts', t', es', rfl, da.same sg, hT, fun Hh sh => ⟨true, rfl, iteF ?_⟩⟩
          have sgh := sg.trans sh
          exact ⟨ts', t', es', nb, _, _, _, _, _, _, rfl, da.same sgh, stf.same sgh, by omega, hl', hrl', tg', sHf.trans sgh⟩
        · obtain ⟨r, hres⟩ := Res.total t1 z0' lz e.eg
          refine ⟨_, rfl, _, rfl, ad, q, ts, t1, es, One sa, e.eg, r, rfl, dke, (by rw [Ed.eg_vals]; exact hee), Ed.eg_at e _ _, (Ed.eg_light hd lz).gd, hres, by omega, by omega, lz, fun t' hr ed does hev Hf bf df => ?_, fun hE Hf sf => ?_⟩
          · have ktf := bf.keepT dke
            have dff := Dk.other bf nfa dke dkf
            have stf := ste.but bf nsad
            have sHf := same_but sHe nadH bf
            refine ⟨_, rfl, _, rfl, fr, q, [], t1, [], One sa, e.eg, r, rfl, dff, (by rw [Ed.eg_vals]; exact ktf _ _ hee), Ed.eg_at e _ _, (Ed.eg_light hd lz).gd, hres, by decide, by decide, lz, fun t2 hr2 ed2 does2 hev2 Hg bg dg => ?_, fun hE => ?_⟩
            · rw [hr] at hr2
              injection hr2 with hr2
              subst hr2
              have da := Dk.other bg nfa.symm dff df
              have stg := stf.but bg nfs
              have sHg := same_but sHf nfH bg
              refine ⟨_, _, rfl, rest _ _ ⟨ts ++ [t1], _, t', es ++ [ed], _, _, _, rfl, rfl, da, dg, stg, ?_, ?_, fun b hb => ?_, sHg⟩⟩
              · rw [List.length_append]; show es.length + 1 ≤ j + 1; omega
              · rw [List.length_append, List.length_append, hrl]; rfl
              · rcases List.mem_append.mp hb with h | h
                · exact tg b h
                · rw [List.mem_singleton.mp h]
                  exact does.good lt lz ln
            · rw [hr] at hE
              exact hE.elim
          · refine ⟨_, rfl, _, rfl, fr, q, [], t1, [], One sa, e.eg, r, rfl, dkf.same sf, (by rw [Ed.eg_vals]; exact sf _ _ hee), Ed.eg_at e _ _, (Ed.eg_light hd lz).gd, hres, by decide, by decide, lz, fun t2 hr2 ed2 does2 hev2 Hg bg dg => ?_, fun _ Hg sg => ?_⟩
            · rw [hr2] at hE
              exact hE.elim
            · have sfg := sf.trans sg
              exact ⟨_, _, rfl, rest _ _ ⟨ts, _, t1, es, _, _, _, rfl, rfl, dke.same sfg, dkf.same sfg, ste.same sfg, by omega, hrl, tg, sHe.trans sfg⟩⟩
      · refine ⟨_, rfl, ad, dx1, _, rfl, h1, ad, ts, t1, es, false, rfl, dk, by omega, _, rfl, by omega, by omega, _, _, rfl, rfl, _, rfl, ite2 (fun hc => ?_) (fun hc => iteF ?_)⟩
        · have hc : (0 : Int) < (es.length : Int) := of_decide_eq_true hc
          refine ⟨_, rfl, sa, n, 5, rfl, st, by omega, by decide, by decide, fun j2 n2 Hb l2 st2 hn2 bu2 => ⟨rfl, _, rfl, ite2 (fun _ => ?_) (fun _ => ?_)⟩⟩
          · obtain ⟨xs1, es1⟩ := st.lst
            have dkb := dk.apart bu2 es1
            have sHb := same_but sH nsH bu2
            rcases List.eq_nil_or_concat es with z | ⟨es', e, z⟩
            · rw [z] at hc
              exact absurd hc (by decide)
            rcases List.eq_nil_or_concat ts with y | ⟨ts', t2, y⟩
            · rw [y, z, List.concat_eq_append, List.length_append] at hrl
              have hrl : 0 = es'.length + 1 := hrl
              omega
            rw [List.concat_eq_append] at y z
            subst y z
            have hrl' : ts'.length = es'.length := by rw [List.length_append, List.length_append] at hrl; exact Nat.succ.inj hrl
            have hl' : es'.length + 1 ≤ j := by rw [List.length_append] at hl; exact hl
            obtain ⟨dx2, ta2, td2, vs2, u2, ds2, g1, _⟩ := id dkb
            refine ⟨_, rfl, ad, dx2, _, rfl, g1, ad, _, t1, _, false, rfl, dkb, by rw [List.length_append]; show es'.length + 1 ≤ 1000; omega, _, rfl, by omega, by rw [List.length_append]; show ((es'.length + 1 : Nat) : Int) < _; omega, ?_⟩
            refine ⟨_, rfl, ad, dx2, _, rfl, g1, nl _ _ _ (by decide +kernel) (by decide +kernel) (by decide +kernel), ad, ts', t2, t1, es', e, rfl, dkb, by omega, by omega, fun Hc bc dc => ?_⟩
            refine ⟨_, rfl, _, _, rfl, rfl, ?_⟩
            have e1 : (((es' ++ [e]).length : Int) - 1) = (es'.length : Int) := by rw [List.length_append]; show (((es'.length + 1 : Nat) : Int) - 1) = _; omega
            have nsad : sa ≠ ad := fun z => by obtain ⟨xs, e⟩ := st2.lst; rw [z, g1] at e; cases e
            refine ⟨rfl, _, rfl, ?_⟩
            refine iteE (by show V.int _ = V.int (((es' ++ [e]).length : Int) - 1); rw [e1]) (rest _ _ ⟨ts', t2, es', n2, _, rfl, dc, st2.but bc nsad, by omega, by omega, hrl', (fun b hb => tg b (List.mem_append_left _ hb)), same_but sHb nadH bc⟩)
          · obtain ⟨xs1, es1⟩ := st.lst
            exact rest _ _ ⟨ts, t1, es, n2, _, rfl, dk.apart bu2 es1, st2, by omega, hl, hrl, tg, same_but sH nsH bu2⟩
        · exact rest _ _ ⟨ts, t1, es, n, _, rfl, dk, st, by omega, hl, hrl, tg, sH⟩
    · obtain ⟨ts, t1, es, n, y4, y5, y6, y7, y8, y9, rfl, _, _, _, _, _, _, sH⟩ := hp
      exact ⟨_, _, _, _, _, _, _, _, _, rfl, sH⟩
  · exact rfl
end
/-! ### what the end needs of classmethods and of methods with super -/
def cmB (K : PySem.W.Frag) (C : Addr) (nm : Str) (p : Addr) : Bool := match PySem.W.findCls K (.ref C) (.type "type") nm with
  | some (.get g q .none c) => decide (g = .builtin "classmethod.__get__") && (decide (q = .ref p) && decide (c = .ref C))
  | _ => false
theorem cmB_ok {K : PySem.W.Frag} {C p : Addr} {nm : Str} (h : cmB K C nm p = true) : PySem.W.findCls K (.ref C) (.type "type") nm = some (.get (.builtin "classmethod.__get__") (.ref p) .none (.ref C)) := by
  unfold cmB at h
  split at h
  · rename_i g q c e
    rw [Bool.and_eq_true, Bool.and_eq_true] at h
    obtain ⟨h1, h2, h3⟩ := h
    rw [e, of_decide_eq_true h1, of_decide_eq_true h2, of_decide_eq_true h3]
  · cases h
def SupC (K : PySem.W.Frag) (P : Program) (cda cc C : Addr) : Prop := (∃ ccl cdd vs ccs file tf, K.lookup cda = some ⟨ccl, cdd, .fields vs, ccs⟩ ∧ vs[2]? = some (.str file tf) ∧ ((P.main.file : Str) == file) = true) ∧ ∃ cl cld csl, K.lookup cc = some ⟨cl, cld, .cell (some (.ref C)), csl⟩
def SupD (K : PySem.W.Frag) (P : Program) (C f : Addr) (name qual : Str) (params : Arguments) (body : List Stmt) (scope : Scope) : Prop := ∃ oc od osl kV doc pm an cda ct cc,
  K.lookup f = some ⟨oc, od, .func (PySem.W.ksFn name qual params body scope .none kV doc pm an (.ref cda) ct cc), osl⟩ ∧ PySem.W.codeIn K (.ref cda) qual = true ∧ SupC K P cda cc C
theorem init_of {P : Program} {w : World} {K : PySem.W.Frag} {mg : Str → Option Value} {base : Heap} {f C f2 : Addr} (S : SupD K P C f "__init__" "LoggedDesk.__init__" (defArgs s_LoggedDesk___init__) (defBody s_LoggedDesk___init__) (defScope s_LoggedDesk___init__))
    (top : (P.main.scope.names.lookup ("super" : Str)).isSome = false) (m : mg "super" = none) (T : SuX.Sup K C C "__init__" f2) (F2 : FnR P w K mg base CX0 4 f2 (spInitG C (AtD C))) (cl : Cls K C) (nC : NoAttr K C "calls") :
    ∃ fd, FnOk P w K mg base CX0 5 f fd ["self", "tree"] (spInitG C (Lg C)) ∧ Binds K fd ["self", "tree"] [] := by
  obtain ⟨oc, od, osl, kV, doc, pm, an, cda, ct, cc, lk, hcd, hc, hcell⟩ := S
  exact ⟨_, ok_initL lk hcd ⟨hc, hcell, top, m⟩ T F2 cl nC, .all fun us hl => match us, hl with | [_, _], _ => rfl⟩
theorem bd_of_law_some_edit {K : PySem.W.Frag} {g : Addr} {fd : FuncData} (FD : FunD K "_law_some_edit" "_law_some_edit" (defArgs s__law_some_edit) (defBody s__law_some_edit) (defScope s__law_some_edit) [.int 13] [] g fd) : ∃ ds, Vals [.int 13] ds ∧ Binds K fd ["_law_stream_here", "_law_tree_here", "_law_top"] ds := FD.binds1 (ps := ["_law_stream_here", "_law_tree_here", "_law_top"]) 2 0 (by simp) rfl (fun T kV doc pm an cdv ct us its h1 h2 => match us, its, h1, h2 with | [_, _], [_], _, _ => ⟨_, rfl, rfl⟩)
theorem b_of_law_some_edit {K : PySem.W.Frag} {g : Addr} {fd : FuncData} (FD : FunD K "_law_some_edit" "_law_some_edit" (defArgs s__law_some_edit) (defBody s__law_some_edit) (defScope s__law_some_edit) [.int 13] [] g fd) : Binds K fd ["_law_stream_here", "_law_tree_here", "_law_top"] [] := by
  obtain ⟨dz, vz, bz⟩ := FD.binds1 (ps := ["_law_stream_here", "_law_tree_here", "_law_top"]) 3 1 (by simp) rfl (fun T kV doc pm an cdv ct us its h1 h2 => match us, its, h1, h2 with | [_, _, _], [_], _, _ => ⟨_, rfl, rfl⟩)
  cases vz
  exact bz
/-! ### what the top has left -/
theorem all_mk {l : PySem.W.OpenLaw} {w : World} {K : PySem.W.Frag} {h : Heap} {mg : Str → Option Value} {fa f1 f2 f3 f4 f5 f6 f7 f8 f9 f10 f11 f12 f13 f14 f15 f16 f17 f18 f19 f20 f21 f22 f23 f24 f25 f26 f27 f28 f29 f30 f31 f32 f33 f34 f35 f36 f37 f38 f39 C_NoPath C_NotOpen C_NoLabel C_TooLarge C_LastNode C_WalkError i_NoPath i_NotOpen i_NoLabel i_TooLarge : Addr} (X : K.In h) (G : h.Ns mainGlobals mg) (hfa : mg "law" = some (.ref fa))
    {od1 an1 od2 an2 od3 an3 od4 an4 od5 an5 od6 an6 od7 an7 od8 an8 od9 an9 od10 an10 od11 an11 od12 an12 od13 an13 od14 an14 od15 an15 od16 an16 od17 an17 od18 an18 od19 an19 od20 an20 od21 an21 od22 an22 od23 an23 od24 an24 od25 an25 od26 an26 od27 an27 od28 an28 od29 an29 od30 an30 od31 an31 od32 an32 od33 an33 od34 an34 od35 an35 od36 an36 od37 an37 od38 an38 od39 an39 : Option Addr} {sl1 sl2 sl3 sl4 sl5 sl6 sl7 sl8 sl9 sl10 sl11 sl12 sl13 sl14 sl15 sl16 sl17 sl18 sl19 sl20 sl21 sl22 sl23 sl24 sl25 sl26 sl27 sl28 sl29 sl30 sl31 sl32 sl33 sl34 sl35 sl36 sl37 sl38 sl39 : Array (Option Value)}
    {oc1 kV1 dc1 pm1 cd1 ct1 oc2 kV2 dc2 pm2 cd2 ct2 oc3 kV3 dc3 pm3 cd3 ct3 oc4 kV4 dc4 pm4 cd4 ct4 oc5 kV5 dc5 pm5 cd5 ct5 oc6 kV6 dc6 pm6 cd6 ct6 oc7 kV7 dc7 pm7 cd7 ct7 oc8 kV8 dc8 pm8 cd8 ct8 oc9 kV9 dc9 pm9 cd9 ct9 oc10 kV10 dc10 pm10 cd10 ct10 oc11 kV11 dc11 pm11 cd11 ct11 oc12 kV12 dc12 pm12 cd12 ct12 oc13 kV13 dc13 pm13 cd13 ct13 oc14 kV14 dc14 pm14 cd14 ct14 oc15 kV15 dc15 pm15 cd15 ct15 oc16 kV16 dc16 pm16 cd16 ct16 oc17 kV17 dc17 pm17 cd17 ct17 oc18 kV18 dc18 pm18 cd18 ct18 oc19 kV19 dc19 pm19 cd19 ct19 oc20 kV20 dc20 pm20 cd20 ct20 oc21 kV21 dc21 pm21 cd21 ct21 oc22 kV22 dc22 pm22 cd22 ct22 oc23 kV23 dc23 pm23 cd23 ct23 oc24 kV24 dc24 pm24 cd24 ct24 oc25 kV25 dc25 pm25 cd25 ct25 oc26 kV26 dc26 pm26 cd26 ct26 oc27 kV27 dc27 pm27 cd27 ct27 oc28 kV28 dc28 pm28 cd28 ct28 oc29 kV29 dc29 pm29 cd29 ct29 oc30 kV30 dc30 pm30 cd30 ct30 oc31 kV31 dc31 pm31 cd31 ct31 oc32 kV32 dc32 pm32 cd32 ct32 oc33 kV33 dc33 pm33 cd33 ct33 oc34 kV34 dc34 pm34 cd34 ct34 oc35 kV35 dc35 pm35 cd35 ct35 oc36 kV36 dc36 pm36 cd36 ct36 oc37 kV37 dc37 pm37 cd37 ct37 oc38 kV38 dc38 pm38 cd38 ct38 oc39 kV39 dc39 pm39 cd39 ct39 : Value} {t1 : Tok}
     {CD : Addr} {tME : Tok} {aA : Addr} {esA : Array DictEntry} {nA : Nat} {aK : Addr} {oK : Option Addr} {tK1 tK2 tK3 tK4 : Tok} {nK : Nat} {sK : Array (Option Value)} {g_init : Addr} {oc_init kw_init dc_init pm_init cd_init ct_init : Value} {od_init an_init : Option Addr} {sl_init : Array (Option Value)} {g_check_free : Addr} {oc_check_free kw_check_free dc_check_free pm_check_free cd_check_free ct_check_free : Value} {od_check_free an_check_free : Option Addr} {sl_check_free : Array (Option Value)} {g_check_tree : Addr} {oc_check_tree kw_check_tree dc_check_tree pm_check_tree cd_check_tree ct_check_tree : Value} {od_check_tree an_check_tree : Option Addr} {sl_check_tree : Array (Option Value)} {g_told : Addr} {oc_told kw_told dc_told pm_told cd_told ct_told : Value} {od_told an_told : Option Addr} {sl_told : Array (Option Value)} {g_take : Addr} {oc_take kw_take dc_take pm_take cd_take ct_take : Value} {od_take an_take : Option Addr} {sl_take : Array (Option Value)} {g_called : Addr} {oc_called kw_called dc_called pm_called cd_called ct_called : Value} {od_called an_called : Option Addr} {sl_called : Array (Option Value)} {g_put : Addr} {oc_put kw_put dc_put pm_put cd_put ct_put : Value} {od_put an_put : Option Addr} {sl_put : Array (Option Value)} {g_cut : Addr} {oc_cut kw_cut dc_cut pm_cut cd_cut ct_cut : Value} {od_cut an_cut : Option Addr} {sl_cut : Array (Option Value)} {g_label : Addr} {oc_label kw_label dc_label pm_label cd_label ct_label : Value} {od_label an_label : Option Addr} {sl_label : Array (Option Value)} {g_turn : Addr} {oc_turn kw_turn dc_turn pm_turn cd_turn ct_turn : Value} {od_turn an_turn : Option Addr} {sl_turn : Array (Option Value)} {g_undo : Addr} {oc_undo kw_undo dc_undo pm_undo cd_undo ct_undo : Value} {od_undo an_undo : Option Addr} {sl_undo : Array (Option Value)} {g_len : Addr} {oc_len kw_len dc_len pm_len cd_len ct_len : Value} {od_len an_len : Option Addr} {sl_len : Array (Option Value)} {g_eq : Addr} {oc_eq kw_eq dc_eq pm_eq cd_eq ct_eq : Value} {od_eq an_eq : Option Addr} {sl_eq : Array (Option Value)} {g_tree : Addr} {oc_tree  dc_tree pm_tree cd_tree ct_tree : Value} {od_tree an_tree : Option Addr} {sl_tree : Array (Option Value)} {DK_tree : Addr} {g_first : Addr} {oc_first kw_first dc_first pm_first cd_first ct_first : Value} {od_first an_first : Option Addr} {sl_first : Array (Option Value)} {p_first : Addr} {rs_first : List Value} {g_between : Addr} {oc_between kw_between dc_between pm_between cd_between ct_between : Value} {od_between an_between : Option Addr} {sl_between : Array (Option Value)} {p_between : Addr} {rs_between : List Value} {g_last : Addr} {oc_last kw_last dc_last pm_last cd_last ct_last : Value} {od_last an_last : Option Addr} {sl_last : Array (Option Value)} {p_last : Addr} {rs_last : List Value} {g_law_some_edit T_law_some_edit : Addr} {oc_law_some_edit kw_law_some_edit dc_law_some_edit pm_law_some_edit cd_law_some_edit ct_law_some_edit : Value} {od_law_some_edit an_law_some_edit : Option Addr} {sl_law_some_edit : Array (Option Value)} {to_law_some_edit : Option Addr} {tn_law_some_edit : Nat} {ts_law_some_edit : Array (Option Value)} {tt_law_some_edit : Tok} {CL : Addr} {g_log : Addr} {oc_log kw_log dc_log pm_log cd_log ct_log : Value} {od_log an_log : Option Addr} {sl_log : Array (Option Value)} {p_log : Addr} {rs_log : List Value} {g_initL : Addr} {g_read pmD pmL : Addr} {rs_read rs_readL : List Value} {oc_read kw_read dc_read pm_read cd_read ct_read : Value} {od_read an_read : Option Addr} {sl_read : Array (Option Value)}
    {nm_NoPath q_NoPath : Str} {N_NoPath : Addr} {bs_NoPath sub_NoPath : List Value} {sn_NoPath : List Str} {ab_NoPath : Bool} {col_NoPath : Option Bool} {dd_NoPath : Option Addr} {m0_NoPath m1_NoPath m2_NoPath m3_NoPath m5_NoPath : Option Value}  {oc_NoPath dc_NoPath pm_NoPath cd_NoPath ct_NoPath : Value} {od_NoPath an_NoPath : Option Addr} {sl_NoPath : Array (Option Value)}
    {nm_NotOpen q_NotOpen : Str} {N_NotOpen : Addr} {bs_NotOpen sub_NotOpen : List Value} {sn_NotOpen : List Str} {ab_NotOpen : Bool} {col_NotOpen : Option Bool} {dd_NotOpen : Option Addr} {m0_NotOpen m1_NotOpen m2_NotOpen m3_NotOpen m5_NotOpen : Option Value}  {oc_NotOpen dc_NotOpen pm_NotOpen cd_NotOpen ct_NotOpen : Value} {od_NotOpen an_NotOpen : Option Addr} {sl_NotOpen : Array (Option Value)}
    {nm_NoLabel q_NoLabel : Str} {N_NoLabel : Addr} {bs_NoLabel sub_NoLabel : List Value} {sn_NoLabel : List Str} {ab_NoLabel : Bool} {col_NoLabel : Option Bool} {dd_NoLabel : Option Addr} {m0_NoLabel m1_NoLabel m2_NoLabel m3_NoLabel m5_NoLabel : Option Value}  {oc_NoLabel dc_NoLabel pm_NoLabel cd_NoLabel ct_NoLabel : Value} {od_NoLabel an_NoLabel : Option Addr} {sl_NoLabel : Array (Option Value)}
    {nm_TooLarge q_TooLarge : Str} {N_TooLarge : Addr} {bs_TooLarge sub_TooLarge : List Value} {sn_TooLarge : List Str} {ab_TooLarge : Bool} {col_TooLarge : Option Bool} {dd_TooLarge : Option Addr} {m0_TooLarge m1_TooLarge m2_TooLarge m3_TooLarge m5_TooLarge : Option Value}  {oc_TooLarge dc_TooLarge pm_TooLarge cd_TooLarge ct_TooLarge : Value} {od_TooLarge an_TooLarge : Option Addr} {sl_TooLarge : Array (Option Value)}
    {nm_LastNode q_LastNode : Str} {N_LastNode : Addr} {bs_LastNode sub_LastNode : List Value} {sn_LastNode : List Str} {ab_LastNode : Bool} {col_LastNode : Option Bool} {dd_LastNode : Option Addr} {m0_LastNode m1_LastNode m2_LastNode m3_LastNode m5_LastNode : Option Value} 
    (a_NoPath : PySem.W.nsIn K mainGlobals "NoPath" = some (some (.ref C_NoPath)))
    (a_NotOpen : PySem.W.nsIn K mainGlobals "NotOpen" = some (some (.ref C_NotOpen)))
    (a_NoLabel : PySem.W.nsIn K mainGlobals "NoLabel" = some (some (.ref C_NoLabel)))
    (a_TooLarge : PySem.W.nsIn K mainGlobals "TooLarge" = some (some (.ref C_TooLarge)))
    (a_LastNode : PySem.W.nsIn K mainGlobals "LastNode" = some (some (.ref C_LastNode)))
    (a_WalkError : PySem.W.nsIn K mainGlobals "WalkError" = some (some (.ref C_WalkError)))
    (x_NoPath : K.lookup C_NoPath = some (excClassObj nm_NoPath q_NoPath C_NoPath N_NoPath bs_NoPath [.type "LookupError", .type "Exception", .type "BaseException", .type "object"] true sn_NoPath sub_NoPath ab_NoPath col_NoPath dd_NoPath m0_NoPath m1_NoPath m2_NoPath m3_NoPath m5_NoPath "LookupError.__new__"))
    (sa_NoPath : PySem.W.findIn K (.ref C_NoPath) "__setattr__" = some (some (.builtin "object.__setattr__")))
    (ga_NoPath : PySem.W.findIn K (.ref C_NoPath) "__getattribute__" = some (some (.builtin "BaseException.__getattribute__")))
    (gg_NoPath : PySem.W.findIn K (.ref C_NoPath) "__getattr__" = some none)
    (nb_NoPath : PySem.W.findIn K (.ref C_NoPath) "value" = some none)
    (ii_NoPath : PySem.W.findIn K (.ref C_NoPath) "__init__" = some (some (.ref i_NoPath)))
    (ti_NoPath : PySem.W.typeIn K (.ref i_NoPath) = some (.type "function"))
    (li_NoPath : K.lookup i_NoPath = some ⟨oc_NoPath, od_NoPath, .func (PySem.W.fnOf "__init__" "NoPath.__init__" (iA_value ⟨47, 17, 47, 21⟩ ⟨47, 23, 47, 28⟩) (iB_value ⟨48, 8, 48, 12⟩ ⟨48, 8, 48, 18⟩ ⟨48, 21, 48, 26⟩ ⟨48, 8, 48, 26⟩) iS_value .none .none dc_NoPath pm_NoPath an_NoPath cd_NoPath ct_NoPath), sl_NoPath⟩)
    (ci_NoPath : PySem.W.codeIn K cd_NoPath "NoPath.__init__" = true)
    (kC_NoPath : PySem.W.keepIn K (.ref C_NoPath) = true)
    (eC_NoPath : PySem.W.subIn K (.ref C_NoPath) (.type "BaseException") = some true)
    (tC_NoPath : PySem.W.typeIn K (.ref C_NoPath) = some (.type "type"))
    (hC_NoPath : PySem.W.hasDictIn K C_NoPath = true)
    (h1_NoPath : PySem.W.findIn K (.ref C_NoPath) "__class__" = some (some (.builtin "object.__class__")))
    (h2_NoPath : PySem.W.specialIn K (.builtin "object.__class__") "__get__" = some (some (.builtin "getset_descriptor.__get__")))
    (h3_NoPath : PySem.W.takesIn K (.builtin "object.__class__") = some true)
    (h4_NoPath : PySem.W.mroIn K C_NoPath (.type "object") = some true)
    (x_NotOpen : K.lookup C_NotOpen = some (excClassObj nm_NotOpen q_NotOpen C_NotOpen N_NotOpen bs_NotOpen (.ref C_WalkError :: [.type "ValueError", .type "Exception", .type "BaseException", .type "object"]) true sn_NotOpen sub_NotOpen ab_NotOpen col_NotOpen dd_NotOpen m0_NotOpen m1_NotOpen m2_NotOpen m3_NotOpen m5_NotOpen "ValueError.__new__"))
    (sa_NotOpen : PySem.W.findIn K (.ref C_NotOpen) "__setattr__" = some (some (.builtin "object.__setattr__")))
    (ga_NotOpen : PySem.W.findIn K (.ref C_NotOpen) "__getattribute__" = some (some (.builtin "BaseException.__getattribute__")))
    (gg_NotOpen : PySem.W.findIn K (.ref C_NotOpen) "__getattr__" = some none)
    (nb_NotOpen : PySem.W.findIn K (.ref C_NotOpen) "path" = some none)
    (ii_NotOpen : PySem.W.findIn K (.ref C_NotOpen) "__init__" = some (some (.ref i_NotOpen)))
    (ti_NotOpen : PySem.W.typeIn K (.ref i_NotOpen) = some (.type "function"))
    (li_NotOpen : K.lookup i_NotOpen = some ⟨oc_NotOpen, od_NotOpen, .func (PySem.W.fnOf "__init__" "NotOpen.__init__" (iA_path ⟨17, 17, 17, 21⟩ ⟨17, 23, 17, 27⟩) (iB_path ⟨18, 8, 18, 12⟩ ⟨18, 8, 18, 17⟩ ⟨18, 20, 18, 24⟩ ⟨18, 8, 18, 24⟩) iS_path .none .none dc_NotOpen pm_NotOpen an_NotOpen cd_NotOpen ct_NotOpen), sl_NotOpen⟩)
    (ci_NotOpen : PySem.W.codeIn K cd_NotOpen "NotOpen.__init__" = true)
    (kC_NotOpen : PySem.W.keepIn K (.ref C_NotOpen) = true)
    (eC_NotOpen : PySem.W.subIn K (.ref C_NotOpen) (.type "BaseException") = some true)
    (tC_NotOpen : PySem.W.typeIn K (.ref C_NotOpen) = some (.type "type"))
    (hC_NotOpen : PySem.W.hasDictIn K C_NotOpen = true)
    (h1_NotOpen : PySem.W.findIn K (.ref C_NotOpen) "__class__" = some (some (.builtin "object.__class__")))
    (h2_NotOpen : PySem.W.specialIn K (.builtin "object.__class__") "__get__" = some (some (.builtin "getset_descriptor.__get__")))
    (h3_NotOpen : PySem.W.takesIn K (.builtin "object.__class__") = some true)
    (h4_NotOpen : PySem.W.mroIn K C_NotOpen (.type "object") = some true)
    (x_NoLabel : K.lookup C_NoLabel = some (excClassObj nm_NoLabel q_NoLabel C_NoLabel N_NoLabel bs_NoLabel (.ref C_WalkError :: [.type "ValueError", .type "Exception", .type "BaseException", .type "object"]) true sn_NoLabel sub_NoLabel ab_NoLabel col_NoLabel dd_NoLabel m0_NoLabel m1_NoLabel m2_NoLabel m3_NoLabel m5_NoLabel "ValueError.__new__"))
    (sa_NoLabel : PySem.W.findIn K (.ref C_NoLabel) "__setattr__" = some (some (.builtin "object.__setattr__")))
    (ga_NoLabel : PySem.W.findIn K (.ref C_NoLabel) "__getattribute__" = some (some (.builtin "BaseException.__getattribute__")))
    (gg_NoLabel : PySem.W.findIn K (.ref C_NoLabel) "__getattr__" = some none)
    (nb_NoLabel : PySem.W.findIn K (.ref C_NoLabel) "letter" = some none)
    (ii_NoLabel : PySem.W.findIn K (.ref C_NoLabel) "__init__" = some (some (.ref i_NoLabel)))
    (ti_NoLabel : PySem.W.typeIn K (.ref i_NoLabel) = some (.type "function"))
    (li_NoLabel : K.lookup i_NoLabel = some ⟨oc_NoLabel, od_NoLabel, .func (PySem.W.fnOf "__init__" "NoLabel.__init__" (iA_letter ⟨21, 17, 21, 21⟩ ⟨21, 23, 21, 29⟩) (iB_letter ⟨22, 8, 22, 12⟩ ⟨22, 8, 22, 19⟩ ⟨22, 22, 22, 28⟩ ⟨22, 8, 22, 28⟩) iS_letter .none .none dc_NoLabel pm_NoLabel an_NoLabel cd_NoLabel ct_NoLabel), sl_NoLabel⟩)
    (ci_NoLabel : PySem.W.codeIn K cd_NoLabel "NoLabel.__init__" = true)
    (kC_NoLabel : PySem.W.keepIn K (.ref C_NoLabel) = true)
    (eC_NoLabel : PySem.W.subIn K (.ref C_NoLabel) (.type "BaseException") = some true)
    (tC_NoLabel : PySem.W.typeIn K (.ref C_NoLabel) = some (.type "type"))
    (hC_NoLabel : PySem.W.hasDictIn K C_NoLabel = true)
    (h1_NoLabel : PySem.W.findIn K (.ref C_NoLabel) "__class__" = some (some (.builtin "object.__class__")))
    (h2_NoLabel : PySem.W.specialIn K (.builtin "object.__class__") "__get__" = some (some (.builtin "getset_descriptor.__get__")))
    (h3_NoLabel : PySem.W.takesIn K (.builtin "object.__class__") = some true)
    (h4_NoLabel : PySem.W.mroIn K C_NoLabel (.type "object") = some true)
    (x_TooLarge : K.lookup C_TooLarge = some (excClassObj nm_TooLarge q_TooLarge C_TooLarge N_TooLarge bs_TooLarge (.ref C_WalkError :: [.type "ValueError", .type "Exception", .type "BaseException", .type "object"]) true sn_TooLarge sub_TooLarge ab_TooLarge col_TooLarge dd_TooLarge m0_TooLarge m1_TooLarge m2_TooLarge m3_TooLarge m5_TooLarge "ValueError.__new__"))
    (sa_TooLarge : PySem.W.findIn K (.ref C_TooLarge) "__setattr__" = some (some (.builtin "object.__setattr__")))
    (ga_TooLarge : PySem.W.findIn K (.ref C_TooLarge) "__getattribute__" = some (some (.builtin "BaseException.__getattribute__")))
    (gg_TooLarge : PySem.W.findIn K (.ref C_TooLarge) "__getattr__" = some none)
    (nb_TooLarge : PySem.W.findIn K (.ref C_TooLarge) "limit" = some none)
    (ii_TooLarge : PySem.W.findIn K (.ref C_TooLarge) "__init__" = some (some (.ref i_TooLarge)))
    (ti_TooLarge : PySem.W.typeIn K (.ref i_TooLarge) = some (.type "function"))
    (li_TooLarge : K.lookup i_TooLarge = some ⟨oc_TooLarge, od_TooLarge, .func (PySem.W.fnOf "__init__" "TooLarge.__init__" (iA_limit ⟨11, 17, 11, 21⟩ ⟨11, 23, 11, 28⟩) (iB_limit ⟨12, 8, 12, 12⟩ ⟨12, 8, 12, 18⟩ ⟨12, 21, 12, 26⟩ ⟨12, 8, 12, 26⟩) iS_limit .none .none dc_TooLarge pm_TooLarge an_TooLarge cd_TooLarge ct_TooLarge), sl_TooLarge⟩)
    (ci_TooLarge : PySem.W.codeIn K cd_TooLarge "TooLarge.__init__" = true)
    (kC_TooLarge : PySem.W.keepIn K (.ref C_TooLarge) = true)
    (eC_TooLarge : PySem.W.subIn K (.ref C_TooLarge) (.type "BaseException") = some true)
    (tC_TooLarge : PySem.W.typeIn K (.ref C_TooLarge) = some (.type "type"))
    (hC_TooLarge : PySem.W.hasDictIn K C_TooLarge = true)
    (h1_TooLarge : PySem.W.findIn K (.ref C_TooLarge) "__class__" = some (some (.builtin "object.__class__")))
    (h2_TooLarge : PySem.W.specialIn K (.builtin "object.__class__") "__get__" = some (some (.builtin "getset_descriptor.__get__")))
    (h3_TooLarge : PySem.W.takesIn K (.builtin "object.__class__") = some true)
    (h4_TooLarge : PySem.W.mroIn K C_TooLarge (.type "object") = some true)
    (x_LastNode : K.lookup C_LastNode = some (excClassObj nm_LastNode q_LastNode C_LastNode N_LastNode bs_LastNode (.ref C_WalkError :: [.type "ValueError", .type "Exception", .type "BaseException", .type "object"]) true sn_LastNode sub_LastNode ab_LastNode col_LastNode dd_LastNode m0_LastNode m1_LastNode m2_LastNode m3_LastNode m5_LastNode "ValueError.__new__"))
    (sa_LastNode : PySem.W.findIn K (.ref C_LastNode) "__setattr__" = some (some (.builtin "object.__setattr__")))
    (ga_LastNode : PySem.W.findIn K (.ref C_LastNode) "__getattribute__" = some (some (.builtin "BaseException.__getattribute__")))
    (gg_LastNode : PySem.W.findIn K (.ref C_LastNode) "__getattr__" = some none)
    (kC_LastNode : PySem.W.keepIn K (.ref C_LastNode) = true)
    (eC_LastNode : PySem.W.subIn K (.ref C_LastNode) (.type "BaseException") = some true)
    (tC_LastNode : PySem.W.typeIn K (.ref C_LastNode) = some (.type "type"))
    (hC_LastNode : PySem.W.hasDictIn K C_LastNode = true)
    (h1_LastNode : PySem.W.findIn K (.ref C_LastNode) "__class__" = some (some (.builtin "object.__class__")))
    (h2_LastNode : PySem.W.specialIn K (.builtin "object.__class__") "__get__" = some (some (.builtin "getset_descriptor.__get__")))
    (h3_LastNode : PySem.W.takesIn K (.builtin "object.__class__") = some true)
    (h4_LastNode : PySem.W.mroIn K C_LastNode (.type "object") = some true)
    (aDK : PySem.W.nsIn K mainGlobals "Desk" = some (some (.ref CD)))
    (pg : PySem.W.plainGet K CD Str.empty = true)
    (hd : PySem.W.hasDictIn K CD = true)
    (po : PySem.W.plainOver K CD = true)
    (sa : PySem.W.findIn K (.ref CD) "__setattr__" = some (some (.builtin "object.__setattr__")))
    (mk : PySem.W.makesIn K CD = true)
    (kc : PySem.W.keepIn K (.ref CD) = true)
    (nT : PySem.W.findIn K (.ref CD) "trees" = some none)
    (nD : PySem.W.findIn K (.ref CD) "done" = some none)
    (nB : PySem.W.findIn K (.ref CD) "busy" = some none)
    (moA : PySem.W.findIn K (.ref CD) "MOST_EDITS" = some (some (.int 60 tME)))
    (moG : PySem.W.specialIn K (.int 60 tME) "__get__" = some none)
    (q_LastNode : PySem.W.excIn K C_LastNode [.type "ValueError", .type "Exception", .type "BaseException", .type "object"] "ValueError.__new__" = true)
    (e1_NoPath : PySem.W.exmOne K (.ref C_NoPath) (.ref C_NoPath) = some true)
    (eNP : PySem.W.exmAny K (.ref C_NoPath) [.ref C_WalkError, .ref C_NoPath] = some true)
    (eNO : PySem.W.exmAny K (.ref C_NotOpen) [.ref C_WalkError, .ref C_NoPath] = some true)
    (eNL : PySem.W.exmAny K (.ref C_NoLabel) [.ref C_WalkError, .ref C_NoPath] = some true)
    (eTL : PySem.W.exmAny K (.ref C_TooLarge) [.ref C_WalkError, .ref C_NoPath] = some true)
    (eLN : PySem.W.exmAny K (.ref C_LastNode) [.ref C_WalkError, .ref C_NoPath] = some true)
    (iha : PySem.W.findIn K (.ref CD) "__class__" = some (some (.builtin "object.__class__")))
    (ihn : PySem.W.specialIn K (.builtin "object.__class__") "__get__" = some (some (.builtin "getset_descriptor.__get__")))
    (ihtk : PySem.W.takesIn K (.builtin "object.__class__") = some true)
    (ihm : PySem.W.mroIn K CD (.type "object") = some true)
    (ime : PySem.W.kitOne K (.ref CD) (.ref CD) = some true)
    (aAn : PySem.W.nsIn K mainGlobals "ACTIONS" = some (some (.ref aA)))
    (aAl : K.lookup aA = some ⟨.type "dict", none, .dict esA nA, #[]⟩)
    (aAk : PySem.W.KeysLit w.params esA.toList)
    (aA_put : PySem.W.nsIn K aA "put" = some (some (.ref f11)))
    (aA_cut : PySem.W.nsIn K aA "cut" = some (some (.ref f12)))
    (aA_label : PySem.W.nsIn K aA "label" = some (some (.ref f13)))
    (aA_turn : PySem.W.nsIn K aA "turn" = some (some (.ref f14)))
    (aKn : PySem.W.nsIn K mainGlobals "KINDS" = some (some (.ref aK)))
    (aKl : K.lookup aK = some ⟨.type "tuple", oK, .seq #[.str "first" tK1, .str "between" tK2, .str "last" tK3, .str "level" tK4] nK, sK⟩)
    (at_init : PySem.W.findIn K (.ref CD) "__init__" = some (some (.ref g_init)))
    (fn_init : PySem.W.isFn K (.ref g_init) = true)
    (kp_init : PySem.W.keepIn K (.ref g_init) = true)
    (lk_init : K.lookup g_init = some ⟨oc_init, od_init, .func (PySem.W.fnOf "__init__" "Desk.__init__" (defArgs s_Desk___init__) (defBody s_Desk___init__) (defScope s_Desk___init__) .none kw_init dc_init pm_init an_init cd_init ct_init), sl_init⟩)
    (cd_f_init : PySem.W.codeIn K cd_init "Desk.__init__" = true)
    (at_check_free : PySem.W.findIn K (.ref CD) "check_free" = some (some (.ref g_check_free)))
    (fn_check_free : PySem.W.isFn K (.ref g_check_free) = true)
    (kp_check_free : PySem.W.keepIn K (.ref g_check_free) = true)
    (lk_check_free : K.lookup g_check_free = some ⟨oc_check_free, od_check_free, .func (PySem.W.fnOf "check_free" "Desk.check_free" (defArgs s_Desk_check_free) (defBody s_Desk_check_free) (defScope s_Desk_check_free) .none kw_check_free dc_check_free pm_check_free an_check_free cd_check_free ct_check_free), sl_check_free⟩)
    (cd_f_check_free : PySem.W.codeIn K cd_check_free "Desk.check_free" = true)
    (at_check_tree : PySem.W.findIn K (.ref CD) "check_tree" = some (some (.ref g_check_tree)))
    (fn_check_tree : PySem.W.isFn K (.ref g_check_tree) = true)
    (kp_check_tree : PySem.W.keepIn K (.ref g_check_tree) = true)
    (lk_check_tree : K.lookup g_check_tree = some ⟨oc_check_tree, od_check_tree, .func (PySem.W.fnOf "check_tree" "Desk.check_tree" (defArgs s_Desk_check_tree) (defBody s_Desk_check_tree) (defScope s_Desk_check_tree) .none kw_check_tree dc_check_tree pm_check_tree an_check_tree cd_check_tree ct_check_tree), sl_check_tree⟩)
    (cd_f_check_tree : PySem.W.codeIn K cd_check_tree "Desk.check_tree" = true)
    (at_told : PySem.W.findIn K (.ref CD) "told" = some (some (.ref g_told)))
    (fn_told : PySem.W.isFn K (.ref g_told) = true)
    (kp_told : PySem.W.keepIn K (.ref g_told) = true)
    (lk_told : K.lookup g_told = some ⟨oc_told, od_told, .func (PySem.W.fnOf "told" "Desk.told" (defArgs s_Desk_told) (defBody s_Desk_told) (defScope s_Desk_told) .none kw_told dc_told pm_told an_told cd_told ct_told), sl_told⟩)
    (cd_f_told : PySem.W.codeIn K cd_told "Desk.told" = true)
    (at_take : PySem.W.findIn K (.ref CD) "take" = some (some (.ref g_take)))
    (fn_take : PySem.W.isFn K (.ref g_take) = true)
    (kp_take : PySem.W.keepIn K (.ref g_take) = true)
    (lk_take : K.lookup g_take = some ⟨oc_take, od_take, .func (PySem.W.fnOf "take" "Desk.take" (defArgs s_Desk_take) (defBody s_Desk_take) (defScope s_Desk_take) .none kw_take dc_take pm_take an_take cd_take ct_take), sl_take⟩)
    (cd_f_take : PySem.W.codeIn K cd_take "Desk.take" = true)
    (at_called : PySem.W.findIn K (.ref CD) "called" = some (some (.ref g_called)))
    (fn_called : PySem.W.isFn K (.ref g_called) = true)
    (kp_called : PySem.W.keepIn K (.ref g_called) = true)
    (lk_called : K.lookup g_called = some ⟨oc_called, od_called, .func (PySem.W.fnOf "called" "Desk.called" (defArgs s_Desk_called) (defBody s_Desk_called) (defScope s_Desk_called) .none kw_called dc_called pm_called an_called cd_called ct_called), sl_called⟩)
    (cd_f_called : PySem.W.codeIn K cd_called "Desk.called" = true)
    (at_put : PySem.W.findIn K (.ref CD) "put" = some (some (.ref g_put)))
    (fn_put : PySem.W.isFn K (.ref g_put) = true)
    (kp_put : PySem.W.keepIn K (.ref g_put) = true)
    (lk_put : K.lookup g_put = some ⟨oc_put, od_put, .func (PySem.W.fnOf "put" "Desk.put" (defArgs s_Desk_put) (defBody s_Desk_put) (defScope s_Desk_put) .none kw_put dc_put pm_put an_put cd_put ct_put), sl_put⟩)
    (cd_f_put : PySem.W.codeIn K cd_put "Desk.put" = true)
    (at_cut : PySem.W.findIn K (.ref CD) "cut" = some (some (.ref g_cut)))
    (fn_cut : PySem.W.isFn K (.ref g_cut) = true)
    (kp_cut : PySem.W.keepIn K (.ref g_cut) = true)
    (lk_cut : K.lookup g_cut = some ⟨oc_cut, od_cut, .func (PySem.W.fnOf "cut" "Desk.cut" (defArgs s_Desk_cut) (defBody s_Desk_cut) (defScope s_Desk_cut) .none kw_cut dc_cut pm_cut an_cut cd_cut ct_cut), sl_cut⟩)
    (cd_f_cut : PySem.W.codeIn K cd_cut "Desk.cut" = true)
    (at_label : PySem.W.findIn K (.ref CD) "label" = some (some (.ref g_label)))
    (fn_label : PySem.W.isFn K (.ref g_label) = true)
    (kp_label : PySem.W.keepIn K (.ref g_label) = true)
    (lk_label : K.lookup g_label = some ⟨oc_label, od_label, .func (PySem.W.fnOf "label" "Desk.label" (defArgs s_Desk_label) (defBody s_Desk_label) (defScope s_Desk_label) .none kw_label dc_label pm_label an_label cd_label ct_label), sl_label⟩)
    (cd_f_label : PySem.W.codeIn K cd_label "Desk.label" = true)
    (at_turn : PySem.W.findIn K (.ref CD) "turn" = some (some (.ref g_turn)))
    (fn_turn : PySem.W.isFn K (.ref g_turn) = true)
    (kp_turn : PySem.W.keepIn K (.ref g_turn) = true)
    (lk_turn : K.lookup g_turn = some ⟨oc_turn, od_turn, .func (PySem.W.fnOf "turn" "Desk.turn" (defArgs s_Desk_turn) (defBody s_Desk_turn) (defScope s_Desk_turn) .none kw_turn dc_turn pm_turn an_turn cd_turn ct_turn), sl_turn⟩)
    (cd_f_turn : PySem.W.codeIn K cd_turn "Desk.turn" = true)
    (at_undo : PySem.W.findIn K (.ref CD) "undo" = some (some (.ref g_undo)))
    (fn_undo : PySem.W.isFn K (.ref g_undo) = true)
    (kp_undo : PySem.W.keepIn K (.ref g_undo) = true)
    (lk_undo : K.lookup g_undo = some ⟨oc_undo, od_undo, .func (PySem.W.fnOf "undo" "Desk.undo" (defArgs s_Desk_undo) (defBody s_Desk_undo) (defScope s_Desk_undo) .none kw_undo dc_undo pm_undo an_undo cd_undo ct_undo), sl_undo⟩)
    (cd_f_undo : PySem.W.codeIn K cd_undo "Desk.undo" = true)
    (at_len : PySem.W.findIn K (.ref CD) "__len__" = some (some (.ref g_len)))
    (fn_len : PySem.W.isFn K (.ref g_len) = true)
    (kp_len : PySem.W.keepIn K (.ref g_len) = true)
    (lk_len : K.lookup g_len = some ⟨oc_len, od_len, .func (PySem.W.fnOf "__len__" "Desk.__len__" (defArgs s_Desk___len__) (defBody s_Desk___len__) (defScope s_Desk___len__) .none kw_len dc_len pm_len an_len cd_len ct_len), sl_len⟩)
    (cd_f_len : PySem.W.codeIn K cd_len "Desk.__len__" = true)
    (at_eq : PySem.W.findIn K (.ref CD) "__eq__" = some (some (.ref g_eq)))
    (fn_eq : PySem.W.isFn K (.ref g_eq) = true)
    (kp_eq : PySem.W.keepIn K (.ref g_eq) = true)
    (lk_eq : K.lookup g_eq = some ⟨oc_eq, od_eq, .func (PySem.W.fnOf "__eq__" "Desk.__eq__" (defArgs s_Desk___eq__) (defBody s_Desk___eq__) (defScope s_Desk___eq__) .none kw_eq dc_eq pm_eq an_eq cd_eq ct_eq), sl_eq⟩)
    (cd_f_eq : PySem.W.codeIn K cd_eq "Desk.__eq__" = true)
    (at_tree : PySem.W.findIn K (.ref CD) "tree" = some (some (.ref g_tree)))
    (fn_tree : PySem.W.isFn K (.ref g_tree) = true)
    (kp_tree : PySem.W.keepIn K (.ref g_tree) = true)
    (lk_tree : K.lookup g_tree = some ⟨oc_tree, od_tree, .func (PySem.W.fnOf "tree" "Desk.tree" (defArgs s_Desk_tree) (defBody s_Desk_tree) (defScope s_Desk_tree) .none (.ref DK_tree) dc_tree pm_tree an_tree cd_tree ct_tree), sl_tree⟩)
    (cd_f_tree : PySem.W.codeIn K cd_tree "Desk.tree" = true)
    (ns_tree_version : PySem.W.nsIn K DK_tree "version" = some (some .none))
    (at_first : PySem.W.findIn K (.ref CD) "first" = some (some (.ref p_first)))
    (gt_first : PySem.W.specialIn K (.ref p_first) "__get__" = some (some (.builtin "property.__get__")))
    (tk_first : PySem.W.takesIn K (.ref p_first) = some true)
    (rc_first : PySem.W.recIn K p_first "property" = some (.ref g_first :: rs_first))
    (kp_first : PySem.W.keepIn K (.ref g_first) = true)
    (lk_first : K.lookup g_first = some ⟨oc_first, od_first, .func (PySem.W.fnOf "first" "Desk.first" (defArgs s_Desk_first) (defBody s_Desk_first) (defScope s_Desk_first) .none kw_first dc_first pm_first an_first cd_first ct_first), sl_first⟩)
    (cd_f_first : PySem.W.codeIn K cd_first "Desk.first" = true)
    (at_between : PySem.W.findIn K (.ref CD) "between" = some (some (.ref p_between)))
    (gt_between : PySem.W.specialIn K (.ref p_between) "__get__" = some (some (.builtin "property.__get__")))
    (tk_between : PySem.W.takesIn K (.ref p_between) = some true)
    (rc_between : PySem.W.recIn K p_between "property" = some (.ref g_between :: rs_between))
    (kp_between : PySem.W.keepIn K (.ref g_between) = true)
    (lk_between : K.lookup g_between = some ⟨oc_between, od_between, .func (PySem.W.fnOf "between" "Desk.between" (defArgs s_Desk_between) (defBody s_Desk_between) (defScope s_Desk_between) .none kw_between dc_between pm_between an_between cd_between ct_between), sl_between⟩)
    (cd_f_between : PySem.W.codeIn K cd_between "Desk.between" = true)
    (at_last : PySem.W.findIn K (.ref CD) "last" = some (some (.ref p_last)))
    (gt_last : PySem.W.specialIn K (.ref p_last) "__get__" = some (some (.builtin "property.__get__")))
    (tk_last : PySem.W.takesIn K (.ref p_last) = some true)
    (rc_last : PySem.W.recIn K p_last "property" = some (.ref g_last :: rs_last))
    (kp_last : PySem.W.keepIn K (.ref g_last) = true)
    (lk_last : K.lookup g_last = some ⟨oc_last, od_last, .func (PySem.W.fnOf "last" "Desk.last" (defArgs s_Desk_last) (defBody s_Desk_last) (defScope s_Desk_last) .none kw_last dc_last pm_last an_last cd_last ct_last), sl_last⟩)
    (cd_f_last : PySem.W.codeIn K cd_last "Desk.last" = true)
    (a_law_some_edit : PySem.W.nsIn K mainGlobals "_law_some_edit" = some (some (.ref g_law_some_edit)))
    (kp_law_some_edit : PySem.W.keepIn K (.ref g_law_some_edit) = true)
    (lk_law_some_edit : K.lookup g_law_some_edit = some ⟨oc_law_some_edit, od_law_some_edit, .func (PySem.W.fnOf "_law_some_edit" "_law_some_edit" (defArgs s__law_some_edit) (defBody s__law_some_edit) (defScope s__law_some_edit) (.ref T_law_some_edit) kw_law_some_edit dc_law_some_edit pm_law_some_edit an_law_some_edit cd_law_some_edit ct_law_some_edit), sl_law_some_edit⟩)
    (cd_f_law_some_edit : PySem.W.codeIn K cd_law_some_edit "_law_some_edit" = true)
    (tl_law_some_edit : K.lookup T_law_some_edit = some ⟨.type "tuple", to_law_some_edit, .seq #[.int 13 tt_law_some_edit] tn_law_some_edit, ts_law_some_edit⟩)
    (aLD : PySem.W.nsIn K mainGlobals "LoggedDesk" = some (some (.ref CL)))
    (pgL : PySem.W.plainGet K CL Str.empty = true)
    (hdL : PySem.W.hasDictIn K CL = true)
    (poL : PySem.W.plainOver K CL = true)
    (saL : PySem.W.findIn K (.ref CL) "__setattr__" = some (some (.builtin "object.__setattr__")))
    (mkL : PySem.W.makesIn K CL = true)
    (kcL : PySem.W.keepIn K (.ref CL) = true)
    (nTL : PySem.W.findIn K (.ref CL) "trees" = some none)
    (nDL : PySem.W.findIn K (.ref CL) "done" = some none)
    (nBL : PySem.W.findIn K (.ref CL) "busy" = some none)
    (nCL : PySem.W.findIn K (.ref CL) "calls" = some none)
    (eqL : PySem.W.findIn K (.ref CL) "__eq__" = some (some (.ref g_eq)))
    (nfL : PySem.W.notFirst K CL (.ref CD) = true)
    (atL_first : PySem.W.findIn K (.ref CL) "first" = some (some (.ref p_first)))
    (atL_between : PySem.W.findIn K (.ref CL) "between" = some (some (.ref p_between)))
    (atL_last : PySem.W.findIn K (.ref CL) "last" = some (some (.ref p_last)))
    (at_log : PySem.W.findIn K (.ref CL) "log" = some (some (.ref p_log)))
    (gt_log : PySem.W.specialIn K (.ref p_log) "__get__" = some (some (.builtin "property.__get__")))
    (tk_log : PySem.W.takesIn K (.ref p_log) = some true)
    (rc_log : PySem.W.recIn K p_log "property" = some (.ref g_log :: rs_log))
    (kp_log : PySem.W.keepIn K (.ref g_log) = true)
    (lk_log : K.lookup g_log = some ⟨oc_log, od_log, .func (PySem.W.fnOf "log" "LoggedDesk.log" (defArgs s_LoggedDesk_log) (defBody s_LoggedDesk_log) (defScope s_LoggedDesk_log) .none kw_log dc_log pm_log an_log cd_log ct_log), sl_log⟩)
    (cd_f_log : PySem.W.codeIn K cd_log "LoggedDesk.log" = true)
    (at_initL : PySem.W.findIn K (.ref CL) "__init__" = some (some (.ref g_initL)))
    (fn_initL : PySem.W.isFn K (.ref g_initL) = true)
    (S_initL : SupD K l.prog CL g_initL "__init__" "LoggedDesk.__init__" (defArgs s_LoggedDesk___init__) (defBody s_LoggedDesk___init__) (defScope s_LoggedDesk___init__))
    (tpS : (l.prog.main.scope.names.lookup ("super" : Str)).isSome = false)
    (suC : (PySem.W.clsIn K CL).isSome = true)
    (suM : PySem.W.mroIn K CL (.ref CL) = some true)
    (suN : PySem.W.nsIn K cStatics "thirdparty.any" = some none)
    (suI : PySem.W.ks_superIn K CL CL "__init__" = some (some (.ref g_init)))
    (suT : PySem.W.typeIn K (.ref g_init) = some (.type "function"))
    (suF : PySem.W.fnIn K g_init = true)
    (rc_read : PySem.W.recIn K pmD "classmethod" = some (.ref g_read :: rs_read))
    (rc_readL : PySem.W.recIn K pmL "classmethod" = some (.ref g_read :: rs_readL))
    (cm_D : cmB K CD "read" pmD = true)
    (cm_L : cmB K CL "read" pmL = true)
    (rdD : PySem.W.readsIn K CD (.type "type") = true)
    (gaD : PySem.W.specialIn K (.ref CD) "__getattribute__" = some (some (.builtin "type.__getattribute__")))
    (rdL : PySem.W.readsIn K CL (.type "type") = true)
    (gaL : PySem.W.specialIn K (.ref CL) "__getattribute__" = some (some (.builtin "type.__getattribute__")))
    (fi_read : PySem.W.fnIn K g_read = true)
    (kp_read : PySem.W.keepIn K (.ref g_read) = true)
    (lk_read : K.lookup g_read = some ⟨oc_read, od_read, .func (PySem.W.fnOf "read" "Desk.read" (defArgs s_Desk_read) (defBody s_Desk_read) (defScope s_Desk_read) .none kw_read dc_read pm_read an_read cd_read ct_read), sl_read⟩)
    (cd_f_read : PySem.W.codeIn K cd_read "Desk.read" = true)
    (a1 : PySem.W.nsIn K mainGlobals "is_letter" = some (some (.ref f1)))
    (l1 : K.lookup f1 = some ⟨oc1, od1, .func (PySem.W.fnOf "is_letter" "is_letter" (defArgs s_is_letter) (defBody s_is_letter) (defScope s_is_letter) .none kV1 dc1 pm1 an1 cd1 ct1), sl1⟩)
    (c1 : PySem.W.codeIn K cd1 "is_letter" = true)
    (k1 : PySem.W.keepIn K (.ref f1) = true)
    (a2 : PySem.W.nsIn K mainGlobals "is_node" = some (some (.ref f2)))
    (l2 : K.lookup f2 = some ⟨oc2, od2, .func (PySem.W.fnOf "is_node" "is_node" (defArgs s_is_node) (defBody s_is_node) (defScope s_is_node) .none kV2 dc2 pm2 an2 cd2 ct2), sl2⟩)
    (c2 : PySem.W.codeIn K cd2 "is_node" = true)
    (k2 : PySem.W.keepIn K (.ref f2) = true)
    (a3 : PySem.W.nsIn K mainGlobals "is_tree" = some (some (.ref f3)))
    (l3 : K.lookup f3 = some ⟨oc3, od3, .func (PySem.W.fnOf "is_tree" "is_tree" (defArgs s_is_tree) (defBody s_is_tree) (defScope s_is_tree) .none kV3 dc3 pm3 an3 cd3 ct3), sl3⟩)
    (c3 : PySem.W.codeIn K cd3 "is_tree" = true)
    (k3 : PySem.W.keepIn K (.ref f3) = true)
    (a4 : PySem.W.nsIn K mainGlobals "size_of" = some (some (.ref f4)))
    (l4 : K.lookup f4 = some ⟨oc4, od4, .func (PySem.W.fnOf "size_of" "size_of" (defArgs s_size_of) (defBody s_size_of) (defScope s_size_of) .none kV4 dc4 pm4 an4 cd4 ct4), sl4⟩)
    (c4 : PySem.W.codeIn K cd4 "size_of" = true)
    (k4 : PySem.W.keepIn K (.ref f4) = true)
    (a5 : PySem.W.nsIn K mainGlobals "part_at" = some (some (.ref f5)))
    (l5 : K.lookup f5 = some ⟨oc5, od5, .func (PySem.W.fnOf "part_at" "part_at" (defArgs s_part_at) (defBody s_part_at) (defScope s_part_at) .none kV5 dc5 pm5 an5 cd5 ct5), sl5⟩)
    (c5 : PySem.W.codeIn K cd5 "part_at" = true)
    (k5 : PySem.W.keepIn K (.ref f5) = true)
    (a6 : PySem.W.nsIn K mainGlobals "is_open" = some (some (.ref f6)))
    (l6 : K.lookup f6 = some ⟨oc6, od6, .func (PySem.W.fnOf "is_open" "is_open" (defArgs s_is_open) (defBody s_is_open) (defScope s_is_open) .none kV6 dc6 pm6 an6 cd6 ct6), sl6⟩)
    (c6 : PySem.W.codeIn K cd6 "is_open" = true)
    (k6 : PySem.W.keepIn K (.ref f6) = true)
    (a7 : PySem.W.nsIn K mainGlobals "replaced" = some (some (.ref f7)))
    (l7 : K.lookup f7 = some ⟨oc7, od7, .func (PySem.W.fnOf "replaced" "replaced" (defArgs s_replaced) (defBody s_replaced) (defScope s_replaced) .none kV7 dc7 pm7 an7 cd7 ct7), sl7⟩)
    (c7 : PySem.W.codeIn K cd7 "replaced" = true)
    (k7 : PySem.W.keepIn K (.ref f7) = true)
    (a8 : PySem.W.nsIn K mainGlobals "with_part" = some (some (.ref f8)))
    (l8 : K.lookup f8 = some ⟨oc8, od8, .func (PySem.W.fnOf "with_part" "with_part" (defArgs s_with_part) (defBody s_with_part) (defScope s_with_part) .none kV8 dc8 pm8 an8 cd8 ct8), sl8⟩)
    (c8 : PySem.W.codeIn K cd8 "with_part" = true)
    (k8 : PySem.W.keepIn K (.ref f8) = true)
    (a9 : PySem.W.nsIn K mainGlobals "mirrored" = some (some (.ref f9)))
    (l9 : K.lookup f9 = some ⟨oc9, od9, .func (PySem.W.fnOf "mirrored" "mirrored" (defArgs s_mirrored) (defBody s_mirrored) (defScope s_mirrored) .none kV9 dc9 pm9 an9 cd9 ct9), sl9⟩)
    (c9 : PySem.W.codeIn K cd9 "mirrored" = true)
    (k9 : PySem.W.keepIn K (.ref f9) = true)
    (a10 : PySem.W.nsIn K mainGlobals "node_at" = some (some (.ref f10)))
    (l10 : K.lookup f10 = some ⟨oc10, od10, .func (PySem.W.fnOf "node_at" "node_at" (defArgs s_node_at) (defBody s_node_at) (defScope s_node_at) .none kV10 dc10 pm10 an10 cd10 ct10), sl10⟩)
    (c10 : PySem.W.codeIn K cd10 "node_at" = true)
    (k10 : PySem.W.keepIn K (.ref f10) = true)
    (a11 : PySem.W.nsIn K mainGlobals "with_node" = some (some (.ref f11)))
    (l11 : K.lookup f11 = some ⟨oc11, od11, .func (PySem.W.fnOf "with_node" "with_node" (defArgs s_with_node) (defBody s_with_node) (defScope s_with_node) .none kV11 dc11 pm11 an11 cd11 ct11), sl11⟩)
    (c11 : PySem.W.codeIn K cd11 "with_node" = true)
    (k11 : PySem.W.keepIn K (.ref f11) = true)
    (a12 : PySem.W.nsIn K mainGlobals "without_node" = some (some (.ref f12)))
    (l12 : K.lookup f12 = some ⟨oc12, od12, .func (PySem.W.fnOf "without_node" "without_node" (defArgs s_without_node) (defBody s_without_node) (defScope s_without_node) .none kV12 dc12 pm12 an12 cd12 ct12), sl12⟩)
    (c12 : PySem.W.codeIn K cd12 "without_node" = true)
    (k12 : PySem.W.keepIn K (.ref f12) = true)
    (a13 : PySem.W.nsIn K mainGlobals "with_label" = some (some (.ref f13)))
    (l13 : K.lookup f13 = some ⟨oc13, od13, .func (PySem.W.fnOf "with_label" "with_label" (defArgs s_with_label) (defBody s_with_label) (defScope s_with_label) .none kV13 dc13 pm13 an13 cd13 ct13), sl13⟩)
    (c13 : PySem.W.codeIn K cd13 "with_label" = true)
    (k13 : PySem.W.keepIn K (.ref f13) = true)
    (a14 : PySem.W.nsIn K mainGlobals "turned" = some (some (.ref f14)))
    (l14 : K.lookup f14 = some ⟨oc14, od14, .func (PySem.W.fnOf "turned" "turned" (defArgs s_turned) (defBody s_turned) (defScope s_turned) .none kV14 dc14 pm14 an14 cd14 ct14), sl14⟩)
    (c14 : PySem.W.codeIn K cd14 "turned" = true)
    (k14 : PySem.W.keepIn K (.ref f14) = true)
    (a15 : PySem.W.nsIn K mainGlobals "edited" = some (some (.ref f15)))
    (l15 : K.lookup f15 = some ⟨oc15, od15, .func (PySem.W.fnOf "edited" "edited" (defArgs s_edited) (defBody s_edited) (defScope s_edited) .none kV15 dc15 pm15 an15 cd15 ct15), sl15⟩)
    (c15 : PySem.W.codeIn K cd15 "edited" = true)
    (k15 : PySem.W.keepIn K (.ref f15) = true)
    (a16 : PySem.W.nsIn K mainGlobals "is_kind" = some (some (.ref f16)))
    (l16 : K.lookup f16 = some ⟨oc16, od16, .func (PySem.W.fnOf "is_kind" "is_kind" (defArgs s_is_kind) (defBody s_is_kind) (defScope s_is_kind) .none kV16 dc16 pm16 an16 cd16 ct16), sl16⟩)
    (c16 : PySem.W.codeIn K cd16 "is_kind" = true)
    (k16 : PySem.W.keepIn K (.ref f16) = true)
    (a17 : PySem.W.nsIn K mainGlobals "ordered_steps" = some (some (.ref f17)))
    (l17 : K.lookup f17 = some ⟨oc17, od17, .func (PySem.W.fnOf "ordered_steps" "ordered_steps" (defArgs s_ordered_steps) (defBody s_ordered_steps) (defScope s_ordered_steps) .none kV17 dc17 pm17 an17 cd17 ct17), sl17⟩)
    (c17 : PySem.W.codeIn K cd17 "ordered_steps" = true)
    (k17 : PySem.W.keepIn K (.ref f17) = true)
    (a18 : PySem.W.nsIn K mainGlobals "deep_steps" = some (some (.ref f18)))
    (l18 : K.lookup f18 = some ⟨oc18, od18, .func (PySem.W.fnOf "deep_steps" "deep_steps" (defArgs s_deep_steps) (defBody s_deep_steps) (defScope s_deep_steps) .none kV18 dc18 pm18 an18 cd18 ct18), sl18⟩)
    (c18 : PySem.W.codeIn K cd18 "deep_steps" = true)
    (k18 : PySem.W.keepIn K (.ref f18) = true)
    (a19 : PySem.W.nsIn K mainGlobals "walk" = some (some (.ref f19)))
    (l19 : K.lookup f19 = some ⟨oc19, od19, .func (PySem.W.fnOf "walk" "walk" (defArgs s_walk) (defBody s_walk) (defScope s_walk) .none kV19 dc19 pm19 an19 cd19 ct19), sl19⟩)
    (c19 : PySem.W.codeIn K cd19 "walk" = true)
    (k19 : PySem.W.keepIn K (.ref f19) = true)
    (a20 : PySem.W.nsIn K mainGlobals "tree_text" = some (some (.ref f20)))
    (l20 : K.lookup f20 = some ⟨oc20, od20, .func (PySem.W.fnOf "tree_text" "tree_text" (defArgs s_tree_text) (defBody s_tree_text) (defScope s_tree_text) .none kV20 dc20 pm20 an20 cd20 ct20), sl20⟩)
    (c20 : PySem.W.codeIn K cd20 "tree_text" = true)
    (k20 : PySem.W.keepIn K (.ref f20) = true)
    (a21 : PySem.W.nsIn K mainGlobals "side_text" = some (some (.ref f21)))
    (l21 : K.lookup f21 = some ⟨oc21, od21, .func (PySem.W.fnOf "side_text" "side_text" (defArgs s_side_text) (defBody s_side_text) (defScope s_side_text) .none kV21 dc21 pm21 an21 cd21 ct21), sl21⟩)
    (c21 : PySem.W.codeIn K cd21 "side_text" = true)
    (k21 : PySem.W.keepIn K (.ref f21) = true)
    (a22 : PySem.W.nsIn K mainGlobals "parse_tree" = some (some (.ref f22)))
    (l22 : K.lookup f22 = some ⟨oc22, od22, .func (PySem.W.fnOf "parse_tree" "parse_tree" (defArgs s_parse_tree) (defBody s_parse_tree) (defScope s_parse_tree) .none kV22 dc22 pm22 an22 cd22 ct22), sl22⟩)
    (c22 : PySem.W.codeIn K cd22 "parse_tree" = true)
    (k22 : PySem.W.keepIn K (.ref f22) = true)
    (a23 : PySem.W.nsIn K mainGlobals "sign_at" = some (some (.ref f23)))
    (l23 : K.lookup f23 = some ⟨oc23, od23, .func (PySem.W.fnOf "sign_at" "sign_at" (defArgs s_sign_at) (defBody s_sign_at) (defScope s_sign_at) .none kV23 dc23 pm23 an23 cd23 ct23), sl23⟩)
    (c23 : PySem.W.codeIn K cd23 "sign_at" = true)
    (k23 : PySem.W.keepIn K (.ref f23) = true)
    (a24 : PySem.W.nsIn K mainGlobals "read_tree" = some (some (.ref f24)))
    (l24 : K.lookup f24 = some ⟨oc24, od24, .func (PySem.W.fnOf "read_tree" "read_tree" (defArgs s_read_tree) (defBody s_read_tree) (defScope s_read_tree) .none kV24 dc24 pm24 an24 cd24 ct24), sl24⟩)
    (c24 : PySem.W.codeIn K cd24 "read_tree" = true)
    (k24 : PySem.W.keepIn K (.ref f24) = true)
    (a25 : PySem.W.nsIn K mainGlobals "read_left" = some (some (.ref f25)))
    (l25 : K.lookup f25 = some ⟨oc25, od25, .func (PySem.W.fnOf "read_left" "read_left" (defArgs s_read_left) (defBody s_read_left) (defScope s_read_left) .none kV25 dc25 pm25 an25 cd25 ct25), sl25⟩)
    (c25 : PySem.W.codeIn K cd25 "read_left" = true)
    (k25 : PySem.W.keepIn K (.ref f25) = true)
    (a26 : PySem.W.nsIn K mainGlobals "read_side" = some (some (.ref f26)))
    (l26 : K.lookup f26 = some ⟨oc26, od26, .func (PySem.W.fnOf "read_side" "read_side" (defArgs s_read_side) (defBody s_read_side) (defScope s_read_side) .none kV26 dc26 pm26 an26 cd26 ct26), sl26⟩)
    (c26 : PySem.W.codeIn K cd26 "read_side" = true)
    (k26 : PySem.W.keepIn K (.ref f26) = true)
    (a27 : PySem.W.nsIn K mainGlobals "_law_stream" = some (some (.ref f27)))
    (l27 : K.lookup f27 = some ⟨oc27, od27, .func (PySem.W.fnOf "_law_stream" "_law_stream" (defArgs s__law_stream) (defBody s__law_stream) (defScope s__law_stream) .none kV27 dc27 pm27 an27 cd27 ct27), sl27⟩)
    (c27 : PySem.W.codeIn K cd27 "_law_stream" = true)
    (k27 : PySem.W.keepIn K (.ref f27) = true)
    (a28 : PySem.W.nsIn K mainGlobals "_law_take" = some (some (.ref f28)))
    (l28 : K.lookup f28 = some ⟨oc28, od28, .func (PySem.W.fnOf "_law_take" "_law_take" (defArgs s__law_take) (defBody s__law_take) (defScope s__law_take) .none kV28 dc28 pm28 an28 cd28 ct28), sl28⟩)
    (c28 : PySem.W.codeIn K cd28 "_law_take" = true)
    (k28 : PySem.W.keepIn K (.ref f28) = true)
    (a29 : PySem.W.nsIn K mainGlobals "_law_equal" = some (some (.ref f29)))
    (l29 : K.lookup f29 = some ⟨oc29, od29, .func (PySem.W.fnOf "_law_equal" "_law_equal" (defArgs s__law_equal) (defBody s__law_equal) (defScope s__law_equal) .none kV29 dc29 pm29 an29 cd29 ct29), sl29⟩)
    (c29 : PySem.W.codeIn K cd29 "_law_equal" = true)
    (k29 : PySem.W.keepIn K (.ref f29) = true)
    (a30 : PySem.W.nsIn K mainGlobals "_law_letter" = some (some (.ref f30)))
    (l30 : K.lookup f30 = some ⟨oc30, od30, .func (PySem.W.fnOf "_law_letter" "_law_letter" (defArgs s__law_letter) (defBody s__law_letter) (defScope s__law_letter) .none kV30 dc30 pm30 an30 cd30 ct30), sl30⟩)
    (c30 : PySem.W.codeIn K cd30 "_law_letter" = true)
    (k30 : PySem.W.keepIn K (.ref f30) = true)
    (a31 : PySem.W.nsIn K mainGlobals "_law_paths" = some (some (.ref f31)))
    (l31 : K.lookup f31 = some ⟨oc31, od31, .func (PySem.W.fnOf "_law_paths" "_law_paths" (defArgs s__law_paths) (defBody s__law_paths) (defScope s__law_paths) .none kV31 dc31 pm31 an31 cd31 ct31), sl31⟩)
    (c31 : PySem.W.codeIn K cd31 "_law_paths" = true)
    (k31 : PySem.W.keepIn K (.ref f31) = true)
    (a32 : PySem.W.nsIn K mainGlobals "_law_grafted" = some (some (.ref f32)))
    (l32 : K.lookup f32 = some ⟨oc32, od32, .func (PySem.W.fnOf "_law_grafted" "_law_grafted" (defArgs s__law_grafted) (defBody s__law_grafted) (defScope s__law_grafted) .none kV32 dc32 pm32 an32 cd32 ct32), sl32⟩)
    (c32 : PySem.W.codeIn K cd32 "_law_grafted" = true)
    (k32 : PySem.W.keepIn K (.ref f32) = true)
    (a33 : PySem.W.nsIn K mainGlobals "_law_spot" = some (some (.ref f33)))
    (l33 : K.lookup f33 = some ⟨oc33, od33, .func (PySem.W.fnOf "_law_spot" "_law_spot" (defArgs s__law_spot) (defBody s__law_spot) (defScope s__law_spot) .none kV33 dc33 pm33 an33 cd33 ct33), sl33⟩)
    (c33 : PySem.W.codeIn K cd33 "_law_spot" = true)
    (k33 : PySem.W.keepIn K (.ref f33) = true)
    (a34 : PySem.W.nsIn K mainGlobals "_law_sorted_tree" = some (some (.ref f34)))
    (l34 : K.lookup f34 = some ⟨oc34, od34, .func (PySem.W.fnOf "_law_sorted_tree" "_law_sorted_tree" (defArgs s__law_sorted_tree) (defBody s__law_sorted_tree) (defScope s__law_sorted_tree) .none kV34 dc34 pm34 an34 cd34 ct34), sl34⟩)
    (c34 : PySem.W.codeIn K cd34 "_law_sorted_tree" = true)
    (k34 : PySem.W.keepIn K (.ref f34) = true)
    (a35 : PySem.W.nsIn K mainGlobals "_law_tree" = some (some (.ref f35)))
    (l35 : K.lookup f35 = some ⟨oc35, od35, .func (PySem.W.fnOf "_law_tree" "_law_tree" (defArgs s__law_tree) (defBody s__law_tree) (defScope s__law_tree) .none kV35 dc35 pm35 an35 cd35 ct35), sl35⟩)
    (c35 : PySem.W.codeIn K cd35 "_law_tree" = true)
    (k35 : PySem.W.keepIn K (.ref f35) = true)
    (a36 : PySem.W.nsIn K mainGlobals "_law_do" = some (some (.ref f36)))
    (l36 : K.lookup f36 = some ⟨oc36, od36, .func (PySem.W.fnOf "_law_do" "_law_do" (defArgs s__law_do) (defBody s__law_do) (defScope s__law_do) .none kV36 dc36 pm36 an36 cd36 ct36), sl36⟩)
    (c36 : PySem.W.codeIn K cd36 "_law_do" = true)
    (k36 : PySem.W.keepIn K (.ref f36) = true)
    (a37 : PySem.W.nsIn K mainGlobals "_law_tried" = some (some (.ref f37)))
    (l37 : K.lookup f37 = some ⟨oc37, od37, .func (PySem.W.fnOf "_law_tried" "_law_tried" (defArgs s__law_tried) (defBody s__law_tried) (defScope s__law_tried) .none kV37 dc37 pm37 an37 cd37 ct37), sl37⟩)
    (c37 : PySem.W.codeIn K cd37 "_law_tried" = true)
    (k37 : PySem.W.keepIn K (.ref f37) = true)
    (a38 : PySem.W.nsIn K mainGlobals "_law_right" = some (some (.ref f38)))
    (l38 : K.lookup f38 = some ⟨oc38, od38, .func (PySem.W.fnOf "_law_right" "_law_right" (defArgs s__law_right) (defBody s__law_right) (defScope s__law_right) .none kV38 dc38 pm38 an38 cd38 ct38), sl38⟩)
    (c38 : PySem.W.codeIn K cd38 "_law_right" = true)
    (k38 : PySem.W.keepIn K (.ref f38) = true)
    (a39 : PySem.W.nsIn K mainGlobals "law" = some (some (.ref f39)))
    (l39 : K.lookup f39 = some ⟨oc39, od39, .func (PySem.W.fnOf "law" "law" (defArgs s_law) (defBody s_law) (defScope s_law) .none kV39 dc39 pm39 an39 cd39 ct39), sl39⟩)
    (c39 : PySem.W.codeIn K cd39 "law" = true)
    (k39 : PySem.W.keepIn K (.ref f39) = true)
    (z1 : PySem.W.nsIn K mainGlobals "zip" = some none)
    (z2 : PySem.W.nsIn K mainGlobals "all" = some none)
    (z3 : PySem.W.nsIn K mainGlobals "repr" = some none)
    (z4 : PySem.W.nsIn K mainGlobals "len" = some none)
    (z5 : PySem.W.nsIn K mainGlobals "isinstance" = some none)
    (z6 : PySem.W.nsIn K mainGlobals "list" = some none)
    (z7 : PySem.W.nsIn K mainGlobals "tuple" = some none)
    (z8 : PySem.W.nsIn K mainGlobals "str" = some none)
    (z9 : PySem.W.nsIn K mainGlobals "int" = some none)
    (z10 : PySem.W.nsIn K mainGlobals "bool" = some none)
    (z11 : PySem.W.nsIn K mainGlobals "dict" = some none)
    (z12 : PySem.W.nsIn K mainGlobals "range" = some none)
    (z13 : PySem.W.nsIn K mainGlobals "sorted" = some none)
    (z14 : PySem.W.nsIn K mainGlobals "abs" = some none)
    (z15 : PySem.W.nsIn K mainGlobals "min" = some none)
    (z16 : PySem.W.nsIn K mainGlobals "max" = some none)
    (z17 : PySem.W.nsIn K mainGlobals "super" = some none)
    (z18 : PySem.W.nsIn K mainGlobals "LookupError" = some none)
    (z19 : PySem.W.nsIn K mainGlobals "ValueError" = some none)
    (v1 : PySem.W.nsIn K mainGlobals "MAX_NODES" = some (some (.int 12 t1)))
    : ∀ (base : Heap) (H : Hp) (s : Shared) (a : Addr) (ns : List Int), K.In base → base.Ns mainGlobals mg → Env0 l.prog w K mg base callerA [] s H → SqL K H a (ns.map V.int) → ns.length ≤ 63 →
      codeAny (model l.prog w) callerA (.call (.ref fa) ⟨[.ref a], []⟩) (CR CX0 [] l.prog w H s (fun v _ => v = .bl true) fun _ _ _ => False) s := by
  intro base H s a ns _ _ en hS hn
  have e := hfa.symm.trans (PySem.W.mg_of X G a39)
  cases e
  have gC_NoPath := PySem.W.mg_of X G a_NoPath
  have gC_NotOpen := PySem.W.mg_of X G a_NotOpen
  have gC_NoLabel := PySem.W.mg_of X G a_NoLabel
  have gC_TooLarge := PySem.W.mg_of X G a_TooLarge
  have gC_LastNode := PySem.W.mg_of X G a_LastNode
  have gC_WalkError := PySem.W.mg_of X G a_WalkError
  have F1 := fun_mk (st := s_is_letter) l1 c1 k1
  have g1 := PySem.W.mg_of X G a1
  have F2 := fun_mk (st := s_is_node) l2 c2 k2
  have g2 := PySem.W.mg_of X G a2
  have F3 := fun_mk (st := s_is_tree) l3 c3 k3
  have g3 := PySem.W.mg_of X G a3
  have F4 := fun_mk (st := s_size_of) l4 c4 k4
  have g4 := PySem.W.mg_of X G a4
  have F5 := fun_mk (st := s_part_at) l5 c5 k5
  have g5 := PySem.W.mg_of X G a5
  have F6 := fun_mk (st := s_is_open) l6 c6 k6
  have g6 := PySem.W.mg_of X G a6
  have F7 := fun_mk (st := s_replaced) l7 c7 k7
  have g7 := PySem.W.mg_of X G a7
  have F8 := fun_mk (st := s_with_part) l8 c8 k8
  have g8 := PySem.W.mg_of X G a8
  have F9 := fun_mk (st := s_mirrored) l9 c9 k9
  have g9 := PySem.W.mg_of X G a9
  have F10 := fun_mk (st := s_node_at) l10 c10 k10
  have g10 := PySem.W.mg_of X G a10
  have F11 := fun_mk (st := s_with_node) l11 c11 k11
  have g11 := PySem.W.mg_of X G a11
  have F12 := fun_mk (st := s_without_node) l12 c12 k12
  have g12 := PySem.W.mg_of X G a12
  have F13 := fun_mk (st := s_with_label) l13 c13 k13
  have g13 := PySem.W.mg_of X G a13
  have F14 := fun_mk (st := s_turned) l14 c14 k14
  have g14 := PySem.W.mg_of X G a14
  have F15 := fun_mk (st := s_edited) l15 c15 k15
  have g15 := PySem.W.mg_of X G a15
  have F16 := fun_mk (st := s_is_kind) l16 c16 k16
  have g16 := PySem.W.mg_of X G a16
  have F17 := fun_mk (st := s_ordered_steps) l17 c17 k17
  have g17 := PySem.W.mg_of X G a17
  have F18 := fun_mk (st := s_deep_steps) l18 c18 k18
  have g18 := PySem.W.mg_of X G a18
  have F19 := fun_mk (st := s_walk) l19 c19 k19
  have g19 := PySem.W.mg_of X G a19
  have F20 := fun_mk (st := s_tree_text) l20 c20 k20
  have g20 := PySem.W.mg_of X G a20
  have F21 := fun_mk (st := s_side_text) l21 c21 k21
  have g21 := PySem.W.mg_of X G a21
  have F22 := fun_mk (st := s_parse_tree) l22 c22 k22
  have g22 := PySem.W.mg_of X G a22
  have F23 := fun_mk (st := s_sign_at) l23 c23 k23
  have g23 := PySem.W.mg_of X G a23
  have F24 := fun_mk (st := s_read_tree) l24 c24 k24
  have g24 := PySem.W.mg_of X G a24
  have F25 := fun_mk (st := s_read_left) l25 c25 k25
  have g25 := PySem.W.mg_of X G a25
  have F26 := fun_mk (st := s_read_side) l26 c26 k26
  have g26 := PySem.W.mg_of X G a26
  have F27 := fun_mk (st := s__law_stream) l27 c27 k27
  have g27 := PySem.W.mg_of X G a27
  have F28 := fun_mk (st := s__law_take) l28 c28 k28
  have g28 := PySem.W.mg_of X G a28
  have F29 := fun_mk (st := s__law_equal) l29 c29 k29
  have g29 := PySem.W.mg_of X G a29
  have F30 := fun_mk (st := s__law_letter) l30 c30 k30
  have g30 := PySem.W.mg_of X G a30
  have F31 := fun_mk (st := s__law_paths) l31 c31 k31
  have g31 := PySem.W.mg_of X G a31
  have F32 := fun_mk (st := s__law_grafted) l32 c32 k32
  have g32 := PySem.W.mg_of X G a32
  have F33 := fun_mk (st := s__law_spot) l33 c33 k33
  have g33 := PySem.W.mg_of X G a33
  have F34 := fun_mk (st := s__law_sorted_tree) l34 c34 k34
  have g34 := PySem.W.mg_of X G a34
  have F35 := fun_mk (st := s__law_tree) l35 c35 k35
  have g35 := PySem.W.mg_of X G a35
  have F36 := fun_mk (st := s__law_do) l36 c36 k36
  have g36 := PySem.W.mg_of X G a36
  have F37 := fun_mk (st := s__law_tried) l37 c37 k37
  have g37 := PySem.W.mg_of X G a37
  have F38 := fun_mk (st := s__law_right) l38 c38 k38
  have g38 := PySem.W.mg_of X G a38
  have F39 := fun_mk (st := s_law) l39 c39 k39
  have m_zip := PySem.W.mg_none_of X G z1
  have m_all := PySem.W.mg_none_of X G z2
  have m_repr := PySem.W.mg_none_of X G z3
  have m_len := PySem.W.mg_none_of X G z4
  have m_isinstance := PySem.W.mg_none_of X G z5
  have m_list := PySem.W.mg_none_of X G z6
  have m_tuple := PySem.W.mg_none_of X G z7
  have m_str := PySem.W.mg_none_of X G z8
  have m_int := PySem.W.mg_none_of X G z9
  have m_bool := PySem.W.mg_none_of X G z10
  have m_dict := PySem.W.mg_none_of X G z11
  have m_range := PySem.W.mg_none_of X G z12
  have m_sorted := PySem.W.mg_none_of X G z13
  have m_abs := PySem.W.mg_none_of X G z14
  have m_min := PySem.W.mg_none_of X G z15
  have m_max := PySem.W.mg_none_of X G z16
  have m_super := PySem.W.mg_none_of X G z17
  have m_LookupError := PySem.W.mg_none_of X G z18
  have m_ValueError := PySem.W.mg_none_of X G z19
  have m1 := PySem.W.mg_of X G v1
  have b1 := F1.binds (ps := ["value"]) fun _ _ _ _ _ _ us hl => match us, hl with | [_], _ => rfl
  have b2 := F2.binds (ps := ["value"]) fun _ _ _ _ _ _ us hl => match us, hl with | [_], _ => rfl
  have b3 := F3.binds (ps := ["value"]) fun _ _ _ _ _ _ us hl => match us, hl with | [_], _ => rfl
  have b4 := F4.binds (ps := ["tree"]) fun _ _ _ _ _ _ us hl => match us, hl with | [_], _ => rfl
  have b5 := F5.binds (ps := ["tree", "path"]) fun _ _ _ _ _ _ us hl => match us, hl with | [_, _], _ => rfl
  have b6 := F6.binds (ps := ["tree", "path"]) fun _ _ _ _ _ _ us hl => match us, hl with | [_, _], _ => rfl
  have b7 := F7.binds (ps := ["tree", "path", "part"]) fun _ _ _ _ _ _ us hl => match us, hl with | [_, _, _], _ => rfl
  have b8 := F8.binds (ps := ["tree", "path", "part"]) fun _ _ _ _ _ _ us hl => match us, hl with | [_, _, _], _ => rfl
  have b9 := F9.binds (ps := ["tree"]) fun _ _ _ _ _ _ us hl => match us, hl with | [_], _ => rfl
  have b10 := F10.binds (ps := ["tree", "path"]) fun _ _ _ _ _ _ us hl => match us, hl with | [_, _], _ => rfl
  have b11 := F11.binds (ps := ["tree", "path", "label"]) fun _ _ _ _ _ _ us hl => match us, hl with | [_, _, _], _ => rfl
  have b12 := F12.binds (ps := ["tree", "path"]) fun _ _ _ _ _ _ us hl => match us, hl with | [_, _], _ => rfl
  have b13 := F13.binds (ps := ["tree", "path", "label"]) fun _ _ _ _ _ _ us hl => match us, hl with | [_, _, _], _ => rfl
  have b14 := F14.binds (ps := ["tree", "path"]) fun _ _ _ _ _ _ us hl => match us, hl with | [_, _], _ => rfl
  have b15 := F15.binds (ps := ["tree", "edit"]) fun _ _ _ _ _ _ us hl => match us, hl with | [_, _], _ => rfl
  have b16 := F16.binds (ps := ["value"]) fun _ _ _ _ _ _ us hl => match us, hl with | [_], _ => rfl
  have b17 := F17.binds (ps := ["tree", "kind"]) fun _ _ _ _ _ _ us hl => match us, hl with | [_, _], _ => rfl
  have b18 := F18.binds (ps := ["tree", "kind", "path"]) fun _ _ _ _ _ _ us hl => match us, hl with | [_, _, _], _ => rfl
  have b19 := F19.binds (ps := ["tree", "kind"]) fun _ _ _ _ _ _ us hl => match us, hl with | [_, _], _ => rfl
  have b20 := F20.binds (ps := ["tree"]) fun _ _ _ _ _ _ us hl => match us, hl with | [_], _ => rfl
  have b21 := F21.binds (ps := ["side"]) fun _ _ _ _ _ _ us hl => match us, hl with | [_], _ => rfl
  have b22 := F22.binds (ps := ["text"]) fun _ _ _ _ _ _ us hl => match us, hl with | [_], _ => rfl
  have b23 := F23.binds (ps := ["text", "at"]) fun _ _ _ _ _ _ us hl => match us, hl with | [_, _], _ => rfl
  have b24 := F24.binds (ps := ["text", "at", "room"]) fun _ _ _ _ _ _ us hl => match us, hl with | [_, _, _], _ => rfl
  have b25 := F25.binds (ps := ["text", "at", "room"]) fun _ _ _ _ _ _ us hl => match us, hl with | [_, _, _], _ => rfl
  have b26 := F26.binds (ps := ["text", "at", "room"]) fun _ _ _ _ _ _ us hl => match us, hl with | [_, _, _], _ => rfl
  have b27 := F27.binds (ps := ["_law_script", "_law_turn"]) fun _ _ _ _ _ _ us hl => match us, hl with | [_, _], _ => rfl
  have b28 := F28.binds (ps := ["_law_stream_here", "_law_many"]) fun _ _ _ _ _ _ us hl => match us, hl with | [_, _], _ => rfl
  have b29 := F29.binds (ps := ["_law_one", "_law_other"]) fun _ _ _ _ _ _ us hl => match us, hl with | [_, _], _ => rfl
  have b30 := F30.binds (ps := ["_law_stream_here"]) fun _ _ _ _ _ _ us hl => match us, hl with | [_], _ => rfl
  have b31 := F31.binds (ps := ["_law_tree_here"]) fun _ _ _ _ _ _ us hl => match us, hl with | [_], _ => rfl
  have b32 := F32.binds (ps := ["_law_tree_here", "_law_path", "_law_part"]) fun _ _ _ _ _ _ us hl => match us, hl with | [_, _, _], _ => rfl
  have b33 := F33.binds (ps := ["_law_tree_here", "_law_letter_here"]) fun _ _ _ _ _ _ us hl => match us, hl with | [_, _], _ => rfl
  have b34 := F34.binds (ps := ["_law_stream_here", "_law_size"]) fun _ _ _ _ _ _ us hl => match us, hl with | [_, _], _ => rfl
  have b35 := F35.binds (ps := ["_law_stream_here", "_law_top"]) fun _ _ _ _ _ _ us hl => match us, hl with | [_, _], _ => rfl
  have b36 := F36.binds (ps := ["_law_desk", "_law_edit"]) fun _ _ _ _ _ _ us hl => match us, hl with | [_, _], _ => rfl
  have b37 := F37.binds (ps := ["_law_desk", "_law_edit"]) fun _ _ _ _ _ _ us hl => match us, hl with | [_, _], _ => rfl
  have b38 := F38.binds (ps := ["_law_desk"]) fun _ _ _ _ _ _ us hl => match us, hl with | [_], _ => rfl
  have E_NoPath : Err_value K mg "LookupError.__new__" leT "NoPath" "NoPath.__init__" C_NoPath i_NoPath :=
    { gC := gC_NoPath, nd := by decide +kernel, cls := ⟨nm_NoPath, q_NoPath, N_NoPath, bs_NoPath, _, sn_NoPath, sub_NoPath, ab_NoPath, col_NoPath, dd_NoPath, m0_NoPath, m1_NoPath, m2_NoPath, m3_NoPath, m5_NoPath, x_NoPath, by first | rfl | decide +kernel⟩, sa := sa_NoPath, ga := ga_NoPath, gg := gg_NoPath, noN := nb_NoPath, iC := ii_NoPath, tC := ti_NoPath, kC := kC_NoPath, exC := eC_NoPath, tyC := tC_NoPath, hdC := hC_NoPath,
      fn := ⟨_, _, _, _, _, _, _, _, _, _, _, _, _, _, li_NoPath, ci_NoPath⟩ }
  have E_NotOpen : Err_path K mg "ValueError.__new__" veT "NotOpen" "NotOpen.__init__" C_NotOpen i_NotOpen :=
    { gC := gC_NotOpen, nd := by decide +kernel, cls := ⟨nm_NotOpen, q_NotOpen, N_NotOpen, bs_NotOpen, _, sn_NotOpen, sub_NotOpen, ab_NotOpen, col_NotOpen, dd_NotOpen, m0_NotOpen, m1_NotOpen, m2_NotOpen, m3_NotOpen, m5_NotOpen, x_NotOpen, by first | rfl | decide +kernel⟩, sa := sa_NotOpen, ga := ga_NotOpen, gg := gg_NotOpen, noN := nb_NotOpen, iC := ii_NotOpen, tC := ti_NotOpen, kC := kC_NotOpen, exC := eC_NotOpen, tyC := tC_NotOpen, hdC := hC_NotOpen,
      fn := ⟨_, _, _, _, _, _, _, _, _, _, _, _, _, _, li_NotOpen, ci_NotOpen⟩ }
  have E_NoLabel : Err_letter K mg "ValueError.__new__" veT "NoLabel" "NoLabel.__init__" C_NoLabel i_NoLabel :=
    { gC := gC_NoLabel, nd := by decide +kernel, cls := ⟨nm_NoLabel, q_NoLabel, N_NoLabel, bs_NoLabel, _, sn_NoLabel, sub_NoLabel, ab_NoLabel, col_NoLabel, dd_NoLabel, m0_NoLabel, m1_NoLabel, m2_NoLabel, m3_NoLabel, m5_NoLabel, x_NoLabel, by first | rfl | decide +kernel⟩, sa := sa_NoLabel, ga := ga_NoLabel, gg := gg_NoLabel, noN := nb_NoLabel, iC := ii_NoLabel, tC := ti_NoLabel, kC := kC_NoLabel, exC := eC_NoLabel, tyC := tC_NoLabel, hdC := hC_NoLabel,
      fn := ⟨_, _, _, _, _, _, _, _, _, _, _, _, _, _, li_NoLabel, ci_NoLabel⟩ }
  have E_TooLarge : Err_limit K mg "ValueError.__new__" veT "TooLarge" "TooLarge.__init__" C_TooLarge i_TooLarge :=
    { gC := gC_TooLarge, nd := by decide +kernel, cls := ⟨nm_TooLarge, q_TooLarge, N_TooLarge, bs_TooLarge, _, sn_TooLarge, sub_TooLarge, ab_TooLarge, col_TooLarge, dd_TooLarge, m0_TooLarge, m1_TooLarge, m2_TooLarge, m3_TooLarge, m5_TooLarge, x_TooLarge, by first | rfl | decide +kernel⟩, sa := sa_TooLarge, ga := ga_TooLarge, gg := gg_TooLarge, noN := nb_TooLarge, iC := ii_TooLarge, tC := ti_TooLarge, kC := kC_TooLarge, exC := eC_TooLarge, tyC := tC_TooLarge, hdC := hC_TooLarge,
      fn := ⟨_, _, _, _, _, _, _, _, _, _, _, _, _, _, li_TooLarge, ci_TooLarge⟩ }
  have X_NoPath : ExcC K C_NoPath := ⟨ga_NoPath, gg_NoPath, eC_NoPath, hC_NoPath, h1_NoPath, h2_NoPath, h3_NoPath, h4_NoPath⟩
  have X_NotOpen : ExcC K C_NotOpen := ⟨ga_NotOpen, gg_NotOpen, eC_NotOpen, hC_NotOpen, h1_NotOpen, h2_NotOpen, h3_NotOpen, h4_NotOpen⟩
  have X_NoLabel : ExcC K C_NoLabel := ⟨ga_NoLabel, gg_NoLabel, eC_NoLabel, hC_NoLabel, h1_NoLabel, h2_NoLabel, h3_NoLabel, h4_NoLabel⟩
  have X_TooLarge : ExcC K C_TooLarge := ⟨ga_TooLarge, gg_TooLarge, eC_TooLarge, hC_TooLarge, h1_TooLarge, h2_TooLarge, h3_TooLarge, h4_TooLarge⟩
  have X_LastNode : ExcC K C_LastNode := ⟨ga_LastNode, gg_LastNode, eC_LastNode, hC_LastNode, h1_LastNode, h2_LastNode, h3_LastNode, h4_LastNode⟩
  have M : Mgs mg := ⟨m_zip, m_all, m_repr, m_len, m_isinstance, m_list, m_tuple, m_str, m_int, m_bool, m_dict, m_range, m_sorted, m_abs, m_min, m_max⟩
  have TD : DeskC K mg CD := ⟨⟨pg, hd, po, sa⟩, nT, nD, nB, PySem.W.mg_of X G aDK, ⟨_, moA, moG, ⟨_, rfl⟩, by decide +kernel⟩⟩
  have x0LN : Err0 K mg "LastNode" C_LastNode := ⟨gC_LastNode, kC_LastNode, q_LastNode, eC_LastNode, tC_LastNode, X_LastNode⟩
  have EW : ErrW K mg ((⟨C_NoPath, C_NotOpen, C_NoLabel, C_TooLarge, C_LastNode⟩ : DE)) C_WalkError := ⟨gC_NoPath, gC_WalkError, eNP, eNO, eNL, eTL, eLN⟩
  have IC : InsK K CD := ⟨iha, ihn, ihtk, ihm, ime⟩
  have Dis_letter : Df l.prog w K mg base 1 "is_letter" ["value"] spLow := ⟨f1, _, ok_low (k := 0) F1 M, b1, k1, g1⟩
  have Dis_node : Df l.prog w K mg base 2 "is_node" ["value"] spNodeT := ⟨f2, _, ok_node (k := 0) F2 M Dis_letter, b2, k2, g2⟩
  have Dis_tree : Df l.prog w K mg base 3 "is_tree" ["value"] spTreeT := ⟨f3, _, ok_isTree F3 m1 Dis_node, b3, k3, g3⟩
  have Dsize_of : Df l.prog w K mg base 20 "size_of" ["tree"] (spSz 20) := ⟨f4, _, ok_size F4 b4 g4 20, b4, k4, g4⟩
  have Dpart_at : Df l.prog w K mg base 1 "part_at" ["tree", "path"] spPart := ⟨f5, _, ok_part (k := 0) F5 M, b5, k5, g5⟩
  have Dis_open : Df l.prog w K mg base 2 "is_open" ["tree", "path"] spOpen := ⟨f6, _, ok_open (k := 0) F6 Dpart_at, b6, k6, g6⟩
  have Dwith_part : Df l.prog w K mg base 20 "with_part" ["tree", "path", "part"] (spWith 20) := ⟨f8, _, ok_with F8 b8 g8 20, b8, k8, g8⟩
  have Dreplaced : Df l.prog w K mg base 21 "replaced" ["tree", "path", "part"] spRepl := ⟨f7, _, ok_repl F7 m1 Dpart_at Dsize_of Dwith_part, b7, k7, g7⟩
  have Dmirrored : Df l.prog w K mg base 20 "mirrored" ["tree"] (spMir 20) := ⟨f9, _, ok_mir F9 b9 g9 20, b9, k9, g9⟩
  have Dnode_at : Df l.prog w K mg base 2 "node_at" ["tree", "path"] spNodeAt := ⟨f10, _, ok_nodeAt (k := 0) F10 Dpart_at, b10, k10, g10⟩
  have AC : Acts K w mg aA f11 f12 f13 f14 := ⟨PySem.W.mg_of X G aAn, ⟨_, _, _, aAl, aAk, aA_put, rfl⟩, ⟨_, _, _, aAl, aAk, aA_cut, rfl⟩, ⟨_, _, _, aAl, aAk, aA_label, rfl⟩, ⟨_, _, _, aAl, aAk, aA_turn, rfl⟩⟩
  have R1 : FnR l.prog w K mg base CX0 22 f11 (spAct isPut) := (FnOk.raw (ok_withNode F11 Dis_open Dis_letter Dreplaced) b11 .nil).imp fun vs H Q E h => by rw [List.append_nil]; exact h
  have R2 : FnR l.prog w K mg base CX0 22 f12 (spAct isCut) := (FnOk.raw (ok_without F12 Dnode_at Dreplaced) b12 .nil).imp fun vs H Q E h => by rw [List.append_nil]; exact h
  have R3 : FnR l.prog w K mg base CX0 22 f13 (spAct isLab) := (FnOk.raw (ok_withLabel F13 Dnode_at Dis_letter Dreplaced) b13 .nil).imp fun vs H Q E h => by rw [List.append_nil]; exact h
  have R4 : FnR l.prog w K mg base CX0 22 f14 (spAct isTur) := (FnOk.raw (ok_turned F14 Dnode_at Dmirrored Dreplaced) b14 .nil).imp fun vs H Q E h => by rw [List.append_nil]; exact h
  have Dedited : Df l.prog w K mg base 23 "edited" ["tree", "edit"] spEdited := ⟨f15, _, ok_edited F15 AC ⟨R1, k11⟩ ⟨R2, k12⟩ ⟨R3, k13⟩ ⟨R4, k14⟩, b15, k15, g15⟩
  have DXis_letter : Df l.prog w K mg base 1 "is_letter" ["value"] spLowX := ⟨f1, _, ok_lowX (k := 0) F1 M, b1, k1, g1⟩
  have DXpart_at : DfX l.prog w K mg base 1 "part_at" ["tree", "path"] (spPartX C_NoPath) := ⟨f5, _, ok_partX (k := 0) F5 M E_NoPath, b5, k5, g5⟩
  have DXnode_at : DfX l.prog w K mg base 2 "node_at" ["tree", "path"] (spNodeX C_NoPath) := ⟨f10, _, ok_nodeX (k := 0) F10 E_NoPath DXpart_at, b10, k10, g10⟩
  have DXis_open : Df l.prog w K mg base 2 "is_open" ["tree", "path"] spOpenX := ⟨f6, _, ok_openX (k := 0) F6 gC_NoPath e1_NoPath DXpart_at, b6, k6, g6⟩
  have DXreplaced : DfX l.prog w K mg base 21 "replaced" ["tree", "path", "part"] (spReplX C_TooLarge) := ⟨f7, _, ok_replX (c := ((⟨C_NoPath, C_NotOpen, C_NoLabel, C_TooLarge, C_LastNode⟩ : DE))) F7 m1 E_TooLarge Dpart_at Dsize_of Dwith_part, b7, k7, g7⟩
  have HX1 : HeldX l.prog w K mg base 22 f11 (spActX ((⟨C_NoPath, C_NotOpen, C_NoLabel, C_TooLarge, C_LastNode⟩ : DE)) egPut) := ⟨⟨_, _, ok_withNodeX (c := ((⟨C_NoPath, C_NotOpen, C_NoLabel, C_TooLarge, C_LastNode⟩ : DE))) F11 E_NotOpen E_NoLabel DXis_open DXis_letter DXreplaced, b11⟩, k11⟩
  have HX2 : HeldX l.prog w K mg base 22 f12 (spActX ((⟨C_NoPath, C_NotOpen, C_NoLabel, C_TooLarge, C_LastNode⟩ : DE)) egCut) := ⟨⟨_, _, ok_withoutX (c := ((⟨C_NoPath, C_NotOpen, C_NoLabel, C_TooLarge, C_LastNode⟩ : DE))) F12 x0LN DXnode_at DXreplaced, b12⟩, k12⟩
  have HX3 : HeldX l.prog w K mg base 22 f13 (spActX ((⟨C_NoPath, C_NotOpen, C_NoLabel, C_TooLarge, C_LastNode⟩ : DE)) egLab) := ⟨⟨_, _, ok_withLabelX (c := ((⟨C_NoPath, C_NotOpen, C_NoLabel, C_TooLarge, C_LastNode⟩ : DE))) F13 E_NoLabel DXnode_at DXis_letter Dreplaced, b13⟩, k13⟩
  have HX4 : HeldX l.prog w K mg base 22 f14 (spActX ((⟨C_NoPath, C_NotOpen, C_NoLabel, C_TooLarge, C_LastNode⟩ : DE)) egTur) := ⟨⟨_, _, ok_turnedX (c := ((⟨C_NoPath, C_NotOpen, C_NoLabel, C_TooLarge, C_LastNode⟩ : DE))) F14 DXnode_at Dmirrored Dreplaced, b14⟩, k14⟩
  have DXedited : DfX l.prog w K mg base 23 "edited" ["tree", "edit"] (spEditedX ((⟨C_NoPath, C_NotOpen, C_NoLabel, C_TooLarge, C_LastNode⟩ : DE))) := ⟨f15, _, ok_editedX F15 AC HX1 HX2 HX3 HX4, b15, k15, g15⟩
  have Kk : KindsT K mg aK := ⟨PySem.W.mg_of X G aKn, fun H => .inr ⟨_, _, _, aKl, rfl, rfl, (by show 4 ≤ sizeLine; decide), .cons ⟨_, rfl⟩ (.cons ⟨_, rfl⟩ (.cons ⟨_, rfl⟩ (.cons ⟨_, rfl⟩ .nil)))⟩⟩
  have Dis_kind : Df l.prog w K mg base 1 "is_kind" ["value"] spKind := ⟨f16, _, ok_kind (k := 0) F16 M Kk, b16, k16, g16⟩
  have Ddeep_steps : Df l.prog w K mg base 60 "deep_steps" ["tree", "kind", "path"] (spDeep 60) := ⟨f18, _, ok_deep F18 b18 g18 60, b18, k18, g18⟩
  have Dordered_steps : Df l.prog w K mg base 61 "ordered_steps" ["tree", "kind"] spSteps := ⟨f17, _, ok_steps F17 Dis_kind Ddeep_steps, b17, k17, g17⟩
  have Dwalk : Df l.prog w K mg base 62 "walk" ["tree", "kind"] spWalk := ⟨f19, _, ok_walk F19 Dordered_steps, b19, k19, g19⟩
  have D_law_stream : Df l.prog w K mg base 1 "_law_stream" ["_law_script", "_law_turn"] (spStream K) := ⟨f27, _, ok_stream (k := 0) F27 M, b27, k27, g27⟩
  have D_law_take : Df l.prog w K mg base 1 "_law_take" ["_law_stream_here", "_law_many"] spTake1 := ⟨f28, _, ok_take1 (k := 0) F28, b28, k28, g28⟩
  have D_law_letter : Df l.prog w K mg base 2 "_law_letter" ["_law_stream_here"] spLetter1 := ⟨f30, _, ok_letter1 F30 D_law_take, b30, k30, g30⟩
  have D_law_paths : Df l.prog w K mg base 1 "_law_paths" ["_law_tree_here"] spPaths := ⟨f31, _, ok_lpaths (k := 0) F31, b31, k31, g31⟩
  have D_law_grafted : Df l.prog w K mg base 20 "_law_grafted" ["_law_tree_here", "_law_path", "_law_part"] (spWith 20) := ⟨f32, _, ok_lgraft F32 b32 g32 20, b32, k32, g32⟩
  have D_law_spot : Df l.prog w K mg base 1 "_law_spot" ["_law_tree_here", "_law_letter_here"] spSpot := ⟨f33, _, ok_spot1 (k := 0) F33, b33, k33, g33⟩
  have D_law_sorted_tree : Df l.prog w K mg base 21 "_law_sorted_tree" ["_law_stream_here", "_law_size"] spSTree := ⟨f34, _, ok_sortedTree F34 M D_law_take D_law_spot D_law_grafted, b34, k34, g34⟩
  have D_law_tree : Df l.prog w K mg base 22 "_law_tree" ["_law_stream_here", "_law_top"] spTreeL := ⟨f35, _, ok_treeL F35 M D_law_take D_law_letter D_law_sorted_tree D_law_paths D_law_grafted, b35, k35, g35⟩
  have F_init := fun_mk (st := s_Desk___init__) lk_init cd_f_init kp_init
  have b_init := F_init.binds (ps := ["self", "tree"]) fun _ _ _ _ _ _ us hl => match us, hl with | [_, _], _ => rfl
  have F_check_free := fun_mk (st := s_Desk_check_free) lk_check_free cd_f_check_free kp_check_free
  have b_check_free := F_check_free.binds (ps := ["self"]) fun _ _ _ _ _ _ us hl => match us, hl with | [_], _ => rfl
  have F_check_tree := fun_mk (st := s_Desk_check_tree) lk_check_tree cd_f_check_tree kp_check_tree
  have b_check_tree := F_check_tree.binds (ps := ["self", "tree"]) fun _ _ _ _ _ _ us hl => match us, hl with | [_, _], _ => rfl
  have F_told := fun_mk (st := s_Desk_told) lk_told cd_f_told kp_told
  have b_told := F_told.binds (ps := ["self", "name"]) fun _ _ _ _ _ _ us hl => match us, hl with | [_, _], _ => rfl
  have F_take := fun_mk (st := s_Desk_take) lk_take cd_f_take kp_take
  have b_take := F_take.binds (ps := ["self", "edit"]) fun _ _ _ _ _ _ us hl => match us, hl with | [_, _], _ => rfl
  have F_called := fun_mk (st := s_Desk_called) lk_called cd_f_called kp_called
  have b_called := F_called.binds (ps := ["self", "edit"]) fun _ _ _ _ _ _ us hl => match us, hl with | [_, _], _ => rfl
  have F_put := fun_mk (st := s_Desk_put) lk_put cd_f_put kp_put
  have b_put := F_put.binds (ps := ["self", "path", "label"]) fun _ _ _ _ _ _ us hl => match us, hl with | [_, _, _], _ => rfl
  have F_cut := fun_mk (st := s_Desk_cut) lk_cut cd_f_cut kp_cut
  have b_cut := F_cut.binds (ps := ["self", "path"]) fun _ _ _ _ _ _ us hl => match us, hl with | [_, _], _ => rfl
  have F_label := fun_mk (st := s_Desk_label) lk_label cd_f_label kp_label
  have b_label := F_label.binds (ps := ["self", "path", "label"]) fun _ _ _ _ _ _ us hl => match us, hl with | [_, _, _], _ => rfl
  have F_turn := fun_mk (st := s_Desk_turn) lk_turn cd_f_turn kp_turn
  have b_turn := F_turn.binds (ps := ["self", "path"]) fun _ _ _ _ _ _ us hl => match us, hl with | [_, _], _ => rfl
  have F_undo := fun_mk (st := s_Desk_undo) lk_undo cd_f_undo kp_undo
  have b_undo := F_undo.binds (ps := ["self"]) fun _ _ _ _ _ _ us hl => match us, hl with | [_], _ => rfl
  have F_len := fun_mk (st := s_Desk___len__) lk_len cd_f_len kp_len
  have b_len := F_len.binds (ps := ["self"]) fun _ _ _ _ _ _ us hl => match us, hl with | [_], _ => rfl
  have F_eq := fun_mk (st := s_Desk___eq__) lk_eq cd_f_eq kp_eq
  have b_eq := F_eq.binds (ps := ["self", "other"]) fun _ _ _ _ _ _ us hl => match us, hl with | [_, _], _ => rfl
  have F_tree := fun_mk (st := s_Desk_tree) lk_tree cd_f_tree kp_tree
  have FD_tree : FunD K "tree" "Desk.tree" (defArgs s_Desk_tree) (defBody s_Desk_tree) (defScope s_Desk_tree) [] [("version", .non)] g_tree _ := ⟨⟨_, _, _, _, _, _, _, _, _, _, rfl, lk_tree, cd_f_tree, .inl ⟨rfl, rfl⟩, .inr ⟨DK_tree, rfl, fun q hq => by rw [List.mem_singleton.mp hq]; exact ⟨_, ns_tree_version, rfl⟩⟩⟩, kp_tree⟩
  obtain ⟨dn_tree, vd_tree, b_tree⟩ := FD_tree.binds0 (ps := ["self", "version"]) 1 (by simp) rfl (fun D doc pm an cdv ct us ks h1 h2 => match us, ks, h1, h2 with | [_], [_], _, _ => ⟨_, _, _, _, _, _, rfl, rfl, rfl⟩)
  have F_first := fun_mk (st := s_Desk_first) lk_first cd_f_first kp_first
  have b_first := F_first.binds (ps := ["self"]) fun _ _ _ _ _ _ us hl => match us, hl with | [_], _ => rfl
  have F_between := fun_mk (st := s_Desk_between) lk_between cd_f_between kp_between
  have b_between := F_between.binds (ps := ["self"]) fun _ _ _ _ _ _ us hl => match us, hl with | [_], _ => rfl
  have F_last := fun_mk (st := s_Desk_last) lk_last cd_f_last kp_last
  have b_last := F_last.binds (ps := ["self"]) fun _ _ _ _ _ _ us hl => match us, hl with | [_], _ => rfl
  have Dcf : MDf l.prog w K mg base CD 1 "check_free" ["self"] (spFree CD) := ⟨g_check_free, _, ok_free (k := 0) F_check_free TD, b_check_free, ⟨at_check_free, fn_check_free, kp_check_free⟩⟩
  have Dct : MDf l.prog w K mg base CD 1 "check_tree" ["self", "tree"] spCT := ⟨g_check_tree, _, ok_ct (k := 0) F_check_tree, b_check_tree, ⟨at_check_tree, fn_check_tree, kp_check_tree⟩⟩
  have Dtold : MDf l.prog w K mg base CD 1 "told" ["self", "name"] (spTold CD) := ⟨g_told, _, ok_told (k := 0) F_told TD M, b_told, ⟨at_told, fn_told, kp_told⟩⟩
  have MXtake : MDfX l.prog w K mg base CD 24 "take" ["self", "edit"] (spTakeX CD ((⟨C_NoPath, C_NotOpen, C_NoLabel, C_TooLarge, C_LastNode⟩ : DE))) := ⟨g_take, _, ok_takeX F_take TD M DXedited Dct, b_take, ⟨at_take, fn_take, kp_take⟩⟩
  have MXcalled : MDfX l.prog w K mg base CD 25 "called" ["self", "edit"] (spCalledX CD ((⟨C_NoPath, C_NotOpen, C_NoLabel, C_TooLarge, C_LastNode⟩ : DE))) := ⟨g_called, _, ok_calledX F_called TD Dcf MXtake Dtold, b_called, ⟨at_called, fn_called, kp_called⟩⟩
  have MXput : MDfX l.prog w K mg base CD 26 "put" ["self", "path", "label"] (spDoX CD ((⟨C_NoPath, C_NotOpen, C_NoLabel, C_TooLarge, C_LastNode⟩ : DE)) egPut) := ⟨g_put, _, ok_putX F_put TD MXcalled, b_put, ⟨at_put, fn_put, kp_put⟩⟩
  have MXcut : MDfX l.prog w K mg base CD 26 "cut" ["self", "path"] (spDoX CD ((⟨C_NoPath, C_NotOpen, C_NoLabel, C_TooLarge, C_LastNode⟩ : DE)) egCut) := ⟨g_cut, _, ok_cutX F_cut TD MXcalled, b_cut, ⟨at_cut, fn_cut, kp_cut⟩⟩
  have MXlabel : MDfX l.prog w K mg base CD 26 "label" ["self", "path", "label"] (spDoX CD ((⟨C_NoPath, C_NotOpen, C_NoLabel, C_TooLarge, C_LastNode⟩ : DE)) egLab) := ⟨g_label, _, ok_labelX F_label TD MXcalled, b_label, ⟨at_label, fn_label, kp_label⟩⟩
  have MXturn : MDfX l.prog w K mg base CD 26 "turn" ["self", "path"] (spDoX CD ((⟨C_NoPath, C_NotOpen, C_NoLabel, C_TooLarge, C_LastNode⟩ : DE)) egTur) := ⟨g_turn, _, ok_turnX F_turn TD MXcalled, b_turn, ⟨at_turn, fn_turn, kp_turn⟩⟩
  have Dundo : MDf l.prog w K mg base CD 2 "undo" ["self"] (spUndo CD) := ⟨g_undo, _, ok_undo F_undo TD Dcf Dtold, b_undo, ⟨at_undo, fn_undo, kp_undo⟩⟩
  have Pfirst : PDf l.prog w K mg base CD 63 "first" (spWalkP CD .first) := ⟨g_first, _, p_first, ok_first F_first TD Dwalk, b_first, ⟨at_first, gt_first, tk_first, ⟨_, rc_first⟩⟩⟩
  have Pbetw : PDf l.prog w K mg base CD 63 "between" (spWalkP CD .between) := ⟨g_between, _, p_between, ok_betw F_between TD Dwalk, b_between, ⟨at_between, gt_between, tk_between, ⟨_, rc_between⟩⟩⟩
  have Plast : PDf l.prog w K mg base CD 63 "last" (spWalkP CD .last) := ⟨g_last, _, p_last, ok_last F_last TD Dwalk, b_last, ⟨at_last, gt_last, tk_last, ⟨_, rc_last⟩⟩⟩
  have FL : FnR l.prog w K mg base CX0 1 g_len (spVer CD) := (FnOk.raw (ok_len (k := 0) F_len TD M) b_len .nil).imp fun vs H Q E h => by rw [List.append_nil]; exact h
  have MT : Meth K CD "tree" g_tree := ⟨at_tree, fn_tree, kp_tree⟩
  have D_law_do : DfX l.prog w K mg base 27 "_law_do" ["_law_desk", "_law_edit"] (spCalledX CD ((⟨C_NoPath, C_NotOpen, C_NoLabel, C_TooLarge, C_LastNode⟩ : DE))) := ⟨f36, _, ok_doX F36 TD MXput MXcut MXlabel MXturn, b36, k36, g36⟩
  have gm_law_some_edit := PySem.W.mg_of X G a_law_some_edit
  have FD_law_some_edit : FunD K "_law_some_edit" "_law_some_edit" (defArgs s__law_some_edit) (defBody s__law_some_edit) (defScope s__law_some_edit) [.int 13] [] g_law_some_edit _ := ⟨⟨_, _, _, _, _, _, _, _, _, _, rfl, lk_law_some_edit, cd_f_law_some_edit, .inr ⟨by simp, T_law_some_edit, _, [.int 13 tt_law_some_edit], _, rfl, tl_law_some_edit, rfl, .cons ⟨_, rfl⟩ .nil⟩, .inl rfl⟩, kp_law_some_edit⟩
  obtain ⟨dn_law_some_edit, vd_law_some_edit, bd_law_some_edit⟩ := bd_of_law_some_edit FD_law_some_edit
  have b_law_some_edit := b_of_law_some_edit FD_law_some_edit
  have Fs := ok_some (P := l.prog) (w := w) (mg := mg) (base := base) FD_law_some_edit M D_law_take D_law_letter D_law_paths
  have D_law_equal : DfG l.prog w K mg base 1 "_law_equal" ["_law_one", "_law_other"] spEqualQ := ⟨f29, _, ok_equalQ (k := 0) F29 M, b29, k29, g29⟩
  have D_law_tried : Df l.prog w K mg base 28 "_law_tried" ["_law_desk", "_law_edit"] (spTriedX CD) := ⟨f37, _, ok_triedX F37 EW D_law_do, b37, k37, g37⟩
  have LC : DkC K CL := ⟨⟨pgL, hdL, poL, saL⟩, nTL, nDL, nBL⟩
  have DC : DkC K CD := ⟨TD.cl, TD.nT, TD.nD, TD.nB⟩
  have gCL : mg "LoggedDesk" = some (.ref CL) := PySem.W.mg_of X G aLD
  have PLfirst : PDf l.prog w K mg base CL 63 "first" (spWalkA CL .first) := ⟨g_first, _, p_first, ok_firstA F_first LC Dwalk, b_first, ⟨atL_first, gt_first, tk_first, ⟨_, rc_first⟩⟩⟩
  have PLbetween : PDf l.prog w K mg base CL 63 "between" (spWalkA CL .between) := ⟨g_between, _, p_between, ok_betwA F_between LC Dwalk, b_between, ⟨atL_between, gt_between, tk_between, ⟨_, rc_between⟩⟩⟩
  have PLlast : PDf l.prog w K mg base CL 63 "last" (spWalkA CL .last) := ⟨g_last, _, p_last, ok_lastA F_last LC Dwalk, b_last, ⟨atL_last, gt_last, tk_last, ⟨_, rc_last⟩⟩⟩
  have F_log := fun_mk (st := s_LoggedDesk_log) lk_log cd_f_log kp_log
  have b_log := F_log.binds (ps := ["self"]) fun _ _ _ _ _ _ us hl => match us, hl with | [_], _ => rfl
  have Plog : PDf l.prog w K mg base CL 1 "log" (spLog CL) := ⟨g_log, _, p_log, ok_log (k := 0) F_log LC.cl nCL, b_log, ⟨at_log, gt_log, tk_log, ⟨_, rc_log⟩⟩⟩
  have TS : SuX.Sup K CL CL "__init__" g_init := ⟨suC, suC, suM, suN, suI, suT, suF⟩
  have RI : FnR l.prog w K mg base CX0 4 g_init (spInitG CL (AtD CL)) := (FnOk.raw (ok_initG F_init LC Dis_tree) b_init .nil).imp fun vs H Q E h => by rw [List.append_nil]; exact h
  obtain ⟨fdL, FiL, biL⟩ := init_of (w := w) (base := base) S_initL tpS m_super TS RI LC.cl nCL
  have F_read := fun_mk (st := s_Desk_read) lk_read cd_f_read kp_read
  have b_read := F_read.binds (ps := ["cls", "text"]) fun _ _ _ _ _ _ us hl => match us, hl with | [_, _], _ => rfl
  have MK : Mk K CD g_init := ⟨mk, at_init, fn_init, kc⟩
  have MKL : Mk K CL g_initL := ⟨mkL, at_initL, fn_initL, kcL⟩
  have Dtree_text : Df l.prog w K mg base 26 "tree_text" ["tree"] (spText 13) := ⟨f20, _, ok_texts F20 b20 g20 F21 b21 g21 13, b20, k20, g20⟩
  have Dsign_at : Df l.prog w K mg base 1 "sign_at" ["text", "at"] spSgn := ⟨f23, _, ok_sign (k := 0) F23, b23, k23, g23⟩
  have Dread_tree : Df l.prog w K mg base 59 "read_tree" ["text", "at", "room"] (spRead 13) := ⟨f24, _, ok_reads F24 b24 g24 F26 b26 g26 F25 b25 g25 M Dsign_at Dis_letter Dsize_of 13, b24, k24, g24⟩
  have Dparse_tree : Df l.prog w K mg base 60 "parse_tree" ["text"] spParse := ⟨f22, _, ok_parse F22 M m1 Dread_tree, b22, k22, g22⟩
  have Fi := ok_initG (P := l.prog) (w := w) (mg := mg) (base := base) F_init DC Dis_tree
  have FRD : FnR l.prog w K mg base CX0 61 g_read (spReadD CD (AtD CD)) := (FnOk.raw (ok_readD (At := AtD CD) F_read MK (by decide) Fi b_init Dparse_tree) b_read .nil).imp fun vs H Q E h => by rw [List.append_nil]; exact h
  have FRL : FnR l.prog w K mg base CX0 61 g_read (spReadD CL (Lg CL)) := (FnOk.raw (ok_readD (At := Lg CL) F_read MKL (by decide) FiL biL Dparse_tree) b_read .nil).imp fun vs H Q E h => by rw [List.append_nil]; exact h
  have Feq := ok_eqD (P := l.prog) (w := w) (mg := mg) (base := base) F_eq M TD IC
  have FeqL := ok_eqG2 (P := l.prog) (w := w) (mg := mg) (base := base) F_eq M TD.g LC DC IC
  have D_law_right : DfG l.prog w K mg base 66 "_law_right" ["_law_desk"] (spRight CD) := ⟨f38, _, ok_right F38 TD LC gCL D_law_equal MT (ok_treeM (k := 0) F_tree TD) b_tree vd_tree Dtree_text Dparse_tree ⟨rdL, gaL⟩ ⟨cmB_ok cm_L, ⟨_, rc_readL⟩, fi_read⟩ FRL FeqL eqL fn_eq nfL b_eq Plog PLfirst PLbetween PLlast Pfirst Pbetw Plast, b38, k38, g38⟩
  exact run_law F39 (.of_eq rfl) en hS M TD D_law_stream D_law_tree D_law_take MK Fi b_init Dundo at_len fn_len FL MT (ok_treeM (k := 0) F_tree TD) b_tree vd_tree Fs gm_law_some_edit kp_law_some_edit bd_law_some_edit vd_law_some_edit Dtree_text ⟨rdD, gaD⟩ ⟨cmB_ok cm_D, ⟨_, rc_read⟩, fi_read⟩ FRD D_law_tried D_law_right Feq at_eq fn_eq b_eq
end Tw
/-! ### the head by one run: what is read of the heap -/
namespace Hx
open PySem PySem.Spec PyProof.Rows L2
def adrV : Value → Addr
  | .ref a => a
  | _ => 0
def tokV : Option (Option Value) → Tok
  | some (some (.int _ t)) => t
  | some (some (.str _ t)) => t
  | _ => 0
def hdV : Option (List Value) → Addr
  | some (.ref a :: _) => a
  | _ => 0
def tlV : Option (List Value) → List Value
  | some (_ :: r) => r
  | _ => []
def dflA (K : PySem.W.Frag) (a : Addr) : Value := match K.lookup a with
  | some ⟨_, _, .func fd, _⟩ => fd.defaults
  | _ => .none
def kwdA (K : PySem.W.Frag) (a : Addr) : Value := match K.lookup a with
  | some ⟨_, _, .func fd, _⟩ => fd.kwdefaults
  | _ => .none
def codeB (K : PySem.W.Frag) (a : Addr) (q : Str) : Bool := match K.lookup a with
  | some ⟨_, _, .func fd, _⟩ => PySem.W.codeIn K fd.code q
  | _ => false
abbrev FnV : Type := Option (Str × Str × Arguments × FuncBody × Scope × Addr × List Str × Addr)
def fnQ (K : PySem.W.Frag) (a : Addr) : FnV := match K.lookup a with
  | some ⟨_, _, .func fd, _⟩ => some (fd.name, fd.qualname, fd.params, fd.body, fd.scope, fd.globals, fd.closure.map (·.1), fd.builtins)
  | _ => none
structure DefQ where
  a : PySem.W.Frag → Addr
  name : Str
  qual : Str
  params : Arguments
  body : List Stmt
  scope : Scope
  clo : List Str
def DefQ.val (d : DefQ) : FnV := some (d.name, d.qual, d.params, .stmts d.body, d.scope, mainGlobals, d.clo, builtinsNs)
theorem fnq_ok {K : PySem.W.Frag} {a : Addr} {d : DefQ} (hn : d.clo = []) (e : fnQ K a = d.val) (c : codeB K a d.qual = true) :
    ∃ oc od osl doc pm an cdv ct, K.lookup a = some ⟨oc, od, .func (PySem.W.fnOf d.name d.qual d.params d.body d.scope (dflA K a) (kwdA K a) doc pm an cdv ct), osl⟩ ∧ PySem.W.codeIn K cdv d.qual = true := by
  unfold codeB at c
  unfold fnQ at e
  unfold dflA kwdA
  cases q : K.lookup a with
  | none =>
    rw [q] at c
    cases c
  | some o =>
    obtain ⟨oc, od, dt, osl⟩ := o
    rw [q] at c e
    cases dt with
    | func fd =>
      obtain ⟨n1, n2, n3, n4, n5, n6, n7, n8, n9, n10, n11, n12, n13, n14, n15⟩ := fd
      have e2 : (some (n1, n2, n3, n4, n5, n6, n7.map (·.1), n15) : FnV) = some (d.name, d.qual, d.params, .stmts d.body, d.scope, mainGlobals, d.clo, builtinsNs) := e
      simp only [Option.some.injEq, Prod.mk.injEq] at e2
      obtain ⟨h1, h2, h3, h4, h5, h6, h7, h8⟩ := e2
      rw [hn] at h7
      have h7 : n7 = [] := List.map_eq_nil_iff.mp h7
      subst h1 h2 h3 h4 h5 h6 h7 h8
      exact ⟨oc, od, osl, n10, n11, n12, n13, n14, rfl, c⟩
    | _ => cases c
theorem fn_at {K : PySem.W.Frag} {fq : List DefQ} (e : fq.map (fun d => fnQ K (d.a K)) = fq.map DefQ.val) (i : Nat) {d : DefQ} (h : fq[i]? = some d) : fnQ K (d.a K) = d.val := by
  have e2 : (fq.map fun d => fnQ K (d.a K))[i]? = (fq.map DefQ.val)[i]? := by rw [e]
  rw [List.getElem?_map, List.getElem?_map, h] at e2
  exact Option.some.inj e2
def excB (K : PySem.W.Frag) (C : Addr) (tail : List Value) (new : String) : Bool := match K.lookup C with
  | some ⟨.type t, _, .cls cd, sl⟩ => (match cd.mro, sl.toList with
    | .ref C' :: bm, [_, _, _, _, some (.builtin n), _] => decide (t = "type") && (decide (C' = C) && (decide (bm = tail) && (decide (n = new) && (cd.hasDict && !cd.hasDel))))
    | _, _ => false)
  | _ => false
theorem excB_ok {K : PySem.W.Frag} {C : Addr} {tail : List Value} {new : String} (h : excB K C tail new = true) :
    ∃ nm q N bs sn sub ab col dd k0 k1 k2 k3 k5, K.lookup C = some (excClassObj nm q C N bs tail true sn sub ab col dd k0 k1 k2 k3 k5 new) := by
  unfold excB at h
  split at h
  · rename_i t dd cd sl ho
    split at h
    · rename_i C' bm k0 k1 k2 k3 n k5 hm hs
      simp only [Bool.and_eq_true, decide_eq_true_eq, Bool.not_eq_true'] at h
      obtain ⟨rfl, rfl, rfl, rfl, hd, hl⟩ := h
      obtain ⟨nm, bs, mro, ns, qn, hdc, sn, sub, ab, col, del⟩ := cd
      dsimp only at hm hd hl
      subst hm hd hl
      have hsl : sl = #[k0, k1, k2, k3, some (.builtin n), k5] := by
        obtain ⟨l⟩ := sl
        simp only at hs
        rw [hs]
      subst hsl
      exact ⟨_, _, _, _, _, _, _, _, _, _, _, _, _, _, ho⟩
    · cases h
  · cases h
inductive Lit where
  | int (i : Int)
  | str (x : Str)
def Lit.is : Lit → Value → Bool
  | .int i, .int j _ => decide (j = i)
  | .str x, .str y _ => decide (y = x)
  | _, _ => false
def Lit.rel : Lit → Value → Prop
  | .int i, v => ∃ t, v = .int i t
  | .str x, v => ∃ t, v = .str x t
theorem Lit.is_ok {l : Lit} {v : Value} (h : l.is v = true) : l.rel v := by
  cases l <;> cases v <;> first | (cases h; done) | (rename_i a b t; exact ⟨t, by rw [of_decide_eq_true h]⟩)
def litsB : List Lit → List Value → Bool
  | [], [] => true
  | l :: ls, v :: vs => l.is v && litsB ls vs
  | _, _ => false
def litsR : List Lit → List Value → Prop
  | [], [] => True
  | l :: ls, v :: vs => l.rel v ∧ litsR ls vs
  | _, _ => False
theorem litsB_ok : ∀ {ls : List Lit} {vs : List Value}, litsB ls vs = true → litsR ls vs
  | [], [], _ => trivial
  | [], _ :: _, h => by cases h
  | _ :: _, [], h => by cases h
  | l :: ls, v :: vs, h => by
    obtain ⟨h1, h2⟩ := He.ba (show (l.is v && litsB ls vs) = true from h)
    exact ⟨Lit.is_ok h1, litsB_ok h2⟩
def cmA (K : PySem.W.Frag) (C : Addr) (nm : Str) : Addr := match PySem.W.findCls K (.ref C) (.type "type") nm with
  | some (.get _ (.ref p) _ _) => p
  | _ => 0
def supB (K : PySem.W.Frag) (a C : Addr) (file : Str) : Bool := match K.lookup a with
  | some ⟨_, _, .func fd, _⟩ => (match fd.code, fd.closure with
    | .ref cda, (_, cc) :: _ => (match K.lookup cda with
        | some ⟨_, _, .fields vs, _⟩ => (match (vs[2]? : Option Value) with
          | some (Value.str f _) => file == f
          | _ => false)
        | _ => false) && (match K.lookup cc with
        | some ⟨_, _, .cell (some (.ref c)), _⟩ => decide (c = C)
        | _ => false)
    | _, _ => false)
  | _ => false
theorem sup_ok {K : PySem.W.Frag} {P : Program} {a C : Addr} {d : DefQ} (hn : d.clo = [("__class__" : Str)]) (e : fnQ K a = d.val) (c : codeB K a d.qual = true) (f : dflA K a = .none) (b : supB K a C P.main.file = true) : Tw.SupD K P C a d.name d.qual d.params d.body d.scope := by
  unfold codeB at c
  unfold fnQ at e
  unfold dflA at f
  unfold supB at b
  cases q : K.lookup a with
  | none =>
    rw [q] at c
    cases c
  | some o =>
    obtain ⟨oc, od, dt, osl⟩ := o
    rw [q] at c e f b
    cases dt with
    | func fd =>
      obtain ⟨n1, n2, n3, n4, n5, n6, n7, n8, n9, n10, n11, n12, n13, n14, n15⟩ := fd
      have e2 : (some (n1, n2, n3, n4, n5, n6, n7.map (·.1), n15) : FnV) = some (d.name, d.qual, d.params, .stmts d.body, d.scope, mainGlobals, d.clo, builtinsNs) := e
      simp only [Option.some.injEq, Prod.mk.injEq] at e2
      obtain ⟨h1, h2, h3, h4, h5, h6, h7, h8⟩ := e2
      rw [hn] at h7
      have h9 : n8 = .none := f
      subst h1 h2 h3 h4 h5 h6 h8 h9
      cases n7 with
      | nil => cases h7
      | cons x r =>
      obtain ⟨y, cc⟩ := x
      cases r with
      | cons _ _ => cases h7
      | nil =>
      have h7 : y = "__class__" := by
        have := List.cons.inj h7
        exact this.1
      subst h7
      have hcd : ∃ cda, n13 = .ref cda := by
        cases n13 with
        | ref cda => exact ⟨cda, rfl⟩
        | _ => cases b
      obtain ⟨cda, rfl⟩ := hcd
      dsimp only at b
      rw [Bool.and_eq_true] at b
      obtain ⟨b1, b2⟩ := b
      refine ⟨oc, od, osl, n9, n10, n11, n12, cda, n14, cc, q, c, ?_, ?_⟩
      · split at b1
        · rename_i ccl cdd vs ccs hl
          split at b1
          · rename_i fl tf hv
            exact ⟨_, _, _, _, _, _, hl, hv, b1⟩
          · cases b1
        · cases b1
      · split at b2
        · rename_i cl cld c' csl hl
          rw [of_decide_eq_true b2] at hl
          exact ⟨_, _, _, hl⟩
        · cases b2
    | _ => cases c
def tupL (K : PySem.W.Frag) (a : Addr) (ls : List Lit) : Bool := match K.lookup a with
  | some ⟨.type c, _, .seq its _, _⟩ => decide (c = "tuple") && litsB ls its.toList
  | _ => false
theorem tupL_ok {K : PySem.W.Frag} {a : Addr} {ls : List Lit} (h : tupL K a ls = true) : ∃ o vs n s, K.lookup a = some ⟨.type "tuple", o, .seq (Array.mk vs) n, s⟩ ∧ litsR ls vs := by
  unfold tupL at h
  cases q : K.lookup a with
  | none =>
    rw [q] at h
    cases h
  | some o =>
    obtain ⟨oc, od, dt, osl⟩ := o
    rw [q] at h
    cases oc with
    | type c =>
      cases dt with
      | seq its n =>
        obtain ⟨h1, h2⟩ := He.ba (show (decide (c = "tuple") && litsB ls its.toList) = true from h)
        obtain ⟨vs⟩ := its
        rw [of_decide_eq_true h1]
        exact ⟨_, vs, n, _, rfl, litsB_ok h2⟩
      | _ => cases h
    | _ => cases dt <;> cases h
theorem lits1 {l0 : Lit} {vs : List Value} (h : litsR [l0] vs) : ∃ v0 : Value, vs = [v0] ∧ l0.rel v0 := by
  cases vs with
  | nil => exact h.elim
  | cons v0 r0 =>
  obtain ⟨h0, k0⟩ := h
  cases r0 with
  | cons _ _ => exact k0.elim
  | nil => exact ⟨v0, rfl, h0⟩
theorem lits2 {l0 l1 : Lit} {vs : List Value} (h : litsR [l0, l1] vs) : ∃ v0 v1 : Value, vs = [v0, v1] ∧ l0.rel v0 ∧ l1.rel v1 := by
  cases vs with
  | nil => exact h.elim
  | cons v0 r0 =>
  obtain ⟨h0, k0⟩ := h
  cases r0 with
  | nil => exact k0.elim
  | cons v1 r1 =>
  obtain ⟨h1, k1⟩ := k0
  cases r1 with
  | cons _ _ => exact k1.elim
  | nil => exact ⟨v0, v1, rfl, h0, h1⟩
theorem lits3 {l0 l1 l2 : Lit} {vs : List Value} (h : litsR [l0, l1, l2] vs) : ∃ v0 v1 v2 : Value, vs = [v0, v1, v2] ∧ l0.rel v0 ∧ l1.rel v1 ∧ l2.rel v2 := by
  cases vs with
  | nil => exact h.elim
  | cons v0 r0 =>
  obtain ⟨h0, k0⟩ := h
  cases r0 with
  | nil => exact k0.elim
  | cons v1 r1 =>
  obtain ⟨h1, k1⟩ := k0
  cases r1 with
  | nil => exact k1.elim
  | cons v2 r2 =>
  obtain ⟨h2, k2⟩ := k1
  cases r2 with
  | cons _ _ => exact k2.elim
  | nil => exact ⟨v0, v1, v2, rfl, h0, h1, h2⟩
theorem lits4 {l0 l1 l2 l3 : Lit} {vs : List Value} (h : litsR [l0, l1, l2, l3] vs) : ∃ v0 v1 v2 v3 : Value, vs = [v0, v1, v2, v3] ∧ l0.rel v0 ∧ l1.rel v1 ∧ l2.rel v2 ∧ l3.rel v3 := by
  cases vs with
  | nil => exact h.elim
  | cons v0 r0 =>
  obtain ⟨h0, k0⟩ := h
  cases r0 with
  | nil => exact k0.elim
  | cons v1 r1 =>
  obtain ⟨h1, k1⟩ := k0
  cases r1 with
  | nil => exact k1.elim
  | cons v2 r2 =>
  obtain ⟨h2, k2⟩ := k1
  cases r2 with
  | nil => exact k2.elim
  | cons v3 r3 =>
  obtain ⟨h3, k3⟩ := k2
  cases r3 with
  | cons _ _ => exact k3.elim
  | nil => exact ⟨v0, v1, v2, v3, rfl, h0, h1, h2, h3⟩
theorem lits5 {l0 l1 l2 l3 l4 : Lit} {vs : List Value} (h : litsR [l0, l1, l2, l3, l4] vs) : ∃ v0 v1 v2 v3 v4 : Value, vs = [v0, v1, v2, v3, v4] ∧ l0.rel v0 ∧ l1.rel v1 ∧ l2.rel v2 ∧ l3.rel v3 ∧ l4.rel v4 := by
  cases vs with
  | nil => exact h.elim
  | cons v0 r0 =>
  obtain ⟨h0, k0⟩ := h
  cases r0 with
  | nil => exact k0.elim
  | cons v1 r1 =>
  obtain ⟨h1, k1⟩ := k0
  cases r1 with
  | nil => exact k1.elim
  | cons v2 r2 =>
  obtain ⟨h2, k2⟩ := k1
  cases r2 with
  | nil => exact k2.elim
  | cons v3 r3 =>
  obtain ⟨h3, k3⟩ := k2
  cases r3 with
  | nil => exact k3.elim
  | cons v4 r4 =>
  obtain ⟨h4, k4⟩ := k3
  cases r4 with
  | cons _ _ => exact k4.elim
  | nil => exact ⟨v0, v1, v2, v3, v4, rfl, h0, h1, h2, h3, h4⟩
theorem lits6 {l0 l1 l2 l3 l4 l5 : Lit} {vs : List Value} (h : litsR [l0, l1, l2, l3, l4, l5] vs) : ∃ v0 v1 v2 v3 v4 v5 : Value, vs = [v0, v1, v2, v3, v4, v5] ∧ l0.rel v0 ∧ l1.rel v1 ∧ l2.rel v2 ∧ l3.rel v3 ∧ l4.rel v4 ∧ l5.rel v5 := by
  cases vs with
  | nil => exact h.elim
  | cons v0 r0 =>
  obtain ⟨h0, k0⟩ := h
  cases r0 with
  | nil => exact k0.elim
  | cons v1 r1 =>
  obtain ⟨h1, k1⟩ := k0
  cases r1 with
  | nil => exact k1.elim
  | cons v2 r2 =>
  obtain ⟨h2, k2⟩ := k1
  cases r2 with
  | nil => exact k2.elim
  | cons v3 r3 =>
  obtain ⟨h3, k3⟩ := k2
  cases r3 with
  | nil => exact k3.elim
  | cons v4 r4 =>
  obtain ⟨h4, k4⟩ := k3
  cases r4 with
  | nil => exact k4.elim
  | cons v5 r5 =>
  obtain ⟨h5, k5⟩ := k4
  cases r5 with
  | cons _ _ => exact k5.elim
  | nil => exact ⟨v0, v1, v2, v3, v4, v5, rfl, h0, h1, h2, h3, h4, h5⟩
abbrev AlQ : Type := Bool × List FnV × List (Option (List (Option (Str × Int))))
/-- force an address -/
def frN {α : Type} (n : Nat) (k : Nat → α) : α := match n with
  | 0 => k 0
  | n + 1 => k (n + 1)
theorem frN_eq {α : Type} (n : Nat) (k : Nat → α) : frN n k = k n := by cases n <;> rfl
def frA {α : Type} : List Addr → (List Addr → α) → α
  | [], k => k []
  | a :: r, k => frN a fun a' => frA r fun r' => k (a' :: r')
theorem frA_eq {α : Type} : ∀ (l : List Addr) (k : List Addr → α), frA l k = k l
  | [], _ => rfl
  | a :: r, k => by
    show (frN a fun a' => frA r fun r' => k (a' :: r')) = _
    rw [frN_eq, frA_eq r]
def frK {α : Type} (g : Addr → Option Obj) : List Addr → (PySem.W.Frag → α) → α
  | [], k => k []
  | a :: r, k => match g a with
    | some o => frK g r fun K => k ((a, o) :: K)
    | none => frK g r k
theorem frK_eq {α : Type} (g : Addr → Option Obj) : ∀ (l : List Addr) (k : PySem.W.Frag → α), frK g l k = k (He.frG g l)
  | [], _ => rfl
  | a :: r, k => by
    show (match g a with
      | some o => frK g r fun K => k ((a, o) :: K)
      | none => frK g r k) = _
    unfold He.frG
    cases h : g a with
    | none => rw [List.filterMap_cons, h]; exact frK_eq g r k
    | some o => rw [List.filterMap_cons, h]; exact frK_eq g r fun K => k ((a, o) :: K)
/-- what an object names: a function's code, defaults; a class's dict; the values of a dict, the parts of an instance -/
def nm1 (g : Addr → Option Obj) (a : Addr) : List Addr := match g a with
  | some o => (match o.data with
    | .func fd => He.refV fd.code ++ (He.refV fd.defaults ++ (He.refV fd.kwdefaults ++ fd.closure.map (·.2)))
    | .cls cd => [cd.ns]
    | .fields vs => vs.toList.flatMap He.refV
    | .dict es _ => es.toList.flatMap fun e => He.refV e.val
    | .seq its _ => its.toList.flatMap He.refV
    | _ => [])
  | none => []
def gNames {α : Type} (g : Addr → Option Obj) (xs : List Str) (k : List Addr → α) : α := frK g [mainGlobals] fun K => frA (xs.map (He.ga K)) k
structure Q where
  xs : List Str
  cs : List Str
  b : PySem.W.Frag → Bool
  fq : List DefQ
  ts : List He.Tab
def Q.on (q : Q) (K : PySem.W.Frag) : AlQ := (q.b K, q.fq.map (fun d => fnQ K (d.a K)), q.ts.map fun t => He.dicW K (t.1 K))
/-- the names xs with what they name; the classes cs with their dicts, methods, and what these name, twice -/
def Q.obs (q : Q) (g : Addr → Option Obj) : AlQ :=
  gNames g q.cs fun C => frA (C.flatMap (nm1 g)) fun N => frA (N.flatMap (nm1 g)) fun M => frA (M.flatMap (nm1 g)) fun M1 => frA (M1.flatMap (nm1 g)) fun M2 =>
  gNames g q.xs fun F => frA (F.flatMap (nm1 g)) fun F1 => frK g (mainGlobals :: cStatics :: (C ++ (N ++ (F ++ (M ++ (M1 ++ (M2 ++ F1))))))) q.on
def asQ (xs cs : List Str) (g : Addr → Option Obj) : List Addr :=
  (fun C : List Addr => (fun N : List Addr => (fun M : List Addr => (fun M1 : List Addr => (fun M2 : List Addr => (fun F : List Addr => mainGlobals :: cStatics :: (C ++ (N ++ (F ++ (M ++ (M1 ++ (M2 ++ F.flatMap (nm1 g)))))))) (xs.map (He.ga (He.frG g [mainGlobals])))) (M1.flatMap (nm1 g))) (M.flatMap (nm1 g))) (N.flatMap (nm1 g))) (C.flatMap (nm1 g))) (cs.map (He.ga (He.frG g [mainGlobals])))
theorem Q.obs_K (q : Q) (g : Addr → Option Obj) : q.obs g = q.on (He.frG g (asQ q.xs q.cs g)) := by
  unfold Q.obs gNames asQ
  simp only [frK_eq, frA_eq]
def Q.val (q : Q) (w : World) : AlQ := (true, q.fq.map DefQ.val, q.ts.map fun t => some (He.keysIn w.params t.2))
def Q.says (q : Q) (w : World) (K : PySem.W.Frag) : Prop := q.b K = true ∧ q.fq.map (fun d => fnQ K (d.a K)) = q.fq.map DefQ.val ∧ q.ts.map (fun t => He.dicW K (t.1 K)) = q.ts.map fun t => some (He.keysIn w.params t.2)
def Q.hook (q : Q) : PySem.W.Hook where
  α := AlQ
  obs := fun s => q.obs s.heap.get?
  val := fun w => q.val w
  says := fun w h => ∃ K : PySem.W.Frag, K.In h ∧ q.says w K
  of := fun w s e => by
    have h := q.obs_K s.heap.get?
    have e : q.on (He.frG s.heap.get? (asQ q.xs q.cs s.heap.get?)) = q.val w := h.symm.trans e
    exact ⟨_, He.frG_in, congrArg (fun z : AlQ => z.1) e, congrArg (fun z : AlQ => z.2.1) e, congrArg (fun z : AlQ => z.2.2) e⟩
  keeps := fun _ _ _ ⟨K, hK, c⟩ k => ⟨K, PySem.W.Frag.In.keeps hK k, c⟩
theorem Q.obs_eq (q : Q) {g : Addr → Option Obj} {s : Shared} (h : ∀ a, g a = s.heap.get? a) : q.obs g = q.hook.obs s := by
  have e : g = s.heap.get? := funext h
  rw [e] <;> rfl
theorem Q.comb {r : PySem.W.OpenRow} {v : Program} {M : Nat} {loose xs cs : List Str} {b1 b2 : PySem.W.Frag → Bool} {fq : List DefQ} {ts : List He.Tab} {w : World}
    (h1 : HandSHeadRun.RunEq r v (Q.mk xs cs b1 [] []).hook (fun s => (Q.mk xs cs b1 [] []).obs (HandSHeadRun.getT s)) M loose w)
    (h2 : HandSHeadRun.RunEq r v (Q.mk xs cs b2 fq ts).hook (fun s => (Q.mk xs cs b2 fq ts).obs (HandSHeadRun.getT s)) M loose w) :
    HandSHeadRun.RunEq r v (Q.mk xs cs (fun K => b1 K && b2 K) fq ts).hook (fun s => (Q.mk xs cs (fun K => b1 K && b2 K) fq ts).obs (HandSHeadRun.getT s)) M loose w := by
  intro os
  have z1 := h1 os
  have z2 := h2 os
  generalize HandSHeadRun.endF (HandSHeadRun.stepQ (HandSHeadRun.denQ HandSHeadRun.tabQ) r.prog w) M r.prog w os = e at z1 z2 ⊢
  cases e with
  | none => cases z1
  | some s =>
    have a1 := Option.some.inj z1
    have a2 := Option.some.inj z2
    obtain ⟨p1, p2⟩ := Prod.mk.inj a1
    obtain ⟨p3, p4⟩ := Prod.mk.inj p2
    obtain ⟨q1, q2⟩ := Prod.mk.inj a2
    obtain ⟨q3, q4⟩ := Prod.mk.inj q2
    have k1 : (Q.mk xs cs b1 [] []).on (He.frG (HandSHeadRun.getT s) (asQ xs cs (HandSHeadRun.getT s))) = (Q.mk xs cs b1 [] []).val w := (Q.obs_K _ _).symm.trans p4
    have k2 : (Q.mk xs cs b2 fq ts).on (He.frG (HandSHeadRun.getT s) (asQ xs cs (HandSHeadRun.getT s))) = (Q.mk xs cs b2 fq ts).val w := (Q.obs_K _ _).symm.trans q4
    have k3 : (Q.mk xs cs (fun K => b1 K && b2 K) fq ts).obs (HandSHeadRun.getT s) = (Q.mk xs cs (fun K => b1 K && b2 K) fq ts).val w := by
      refine (Q.obs_K _ _).trans ?_
      generalize He.frG (HandSHeadRun.getT s) (asQ xs cs (HandSHeadRun.getT s)) = K at k1 k2
      have t1 : b1 K = true := congrArg (fun z : AlQ => z.1) k1
      have t2 : b2 K = true := congrArg (fun z : AlQ => z.1) k2
      show ((b1 K && b2 K, _, _) : AlQ) = _
      rw [t1]
      show ((b2 K, _, _) : AlQ) = _
      exact k2
    show some (HandSHeadRun.looksF r.prog (PySem.W.boot_heap w.params) s.abs, _, _) = some (true, _, _)
    rw [p1, p3]
    exact congrArg (fun z => some (true, _, z)) k3
theorem Q.says.tab {q : Q} {w : World} {K : PySem.W.Frag} (c : q.says w K) (i : Nat) {t : He.Tab} (h : q.ts[i]? = some t) : He.dicW K (t.1 K) = some (He.keysIn w.params t.2) := by
  have e2 : (q.ts.map fun t => He.dicW K (t.1 K))[i]? = (q.ts.map fun t => some (He.keysIn w.params t.2))[i]? := by rw [c.2.2]
  rw [List.getElem?_map, List.getElem?_map, h] at e2
  exact Option.some.inj e2
theorem walk_x {l : PySem.W.OpenLaw} {q : Program} {loose : List Str} {XP : (Str → Option Value) → Heap → Prop} {YP : World → Heap → Prop} {d : DefRec} (most : l.most = some 63) (noDf : d.params.defaults = [])
    (F : ∀ (w : World) (mg : Str → Option Value) (fa : Addr) (h : Heap), YP w h → h.Ns mainGlobals mg → mg d.name = some (.ref fa) → ∃ K : PySem.W.Frag, K.In h ∧
      ∀ (base : Heap) (H : Hp) (s : Shared) (a : Addr) (ns : List Int), K.In base → base.Ns mainGlobals mg → Env0 l.prog w K mg base callerA [] s H → SqL K H a (ns.map V.int) → ns.length ≤ 63 →
        codeAny (model l.prog w) callerA (.call (.ref fa) ⟨[.ref a], []⟩) (CR CX0 [] l.prog w H s (fun v _ => v = .bl true) fun _ _ _ => False) s) :
    PySem.W.WalkO q loose XP YP l.row.toRowW d [] (fun f vs => PySem.call f vs) := by
  refine Att.attach_call most noDf ?_
  intro w s₀ s₁ mg mb fa o pm cd doc a vs ns G Y ho hd hcd hmg hobj hints hlen hg
  obtain ⟨K, KX, hF⟩ := F w mg fa _ Y G.T.g hmg
  exact Tw.law_at KX G.T.g G.T.b G.T.builtins G.T.nolimit hg hobj hints (Nat.le_trans hlen (by decide)) fun base H h1 h2 en hS => hF base H s₁ a ns h1 h2 en hS hlen
end Hx
namespace Tw
open PySem PySem.Spec PyProof.Rows L2

abbrev PB0 (K : PySem.W.Frag) : Prop := (Hx.codeB K (He.ma K (He.ga K "NoPath") "__init__") "NoPath.__init__" = true) ∧ (Hx.dflA K (He.ma K (He.ga K "NoPath") "__init__") = .none) ∧ (Hx.kwdA K (He.ma K (He.ga K "NoPath") "__init__") = .none) ∧ (Hx.codeB K (He.ma K (He.ga K "NotOpen") "__init__") "NotOpen.__init__" = true) ∧ (Hx.dflA K (He.ma K (He.ga K "NotOpen") "__init__") = .none) ∧ (Hx.kwdA K (He.ma K (He.ga K "NotOpen") "__init__") = .none) ∧ (Hx.codeB K (He.ma K (He.ga K "NoLabel") "__init__") "NoLabel.__init__" = true) ∧ (Hx.dflA K (He.ma K (He.ga K "NoLabel") "__init__") = .none) ∧ (Hx.kwdA K (He.ma K (He.ga K "NoLabel") "__init__") = .none) ∧ (Hx.codeB K (He.ma K (He.ga K "TooLarge") "__init__") "TooLarge.__init__" = true) ∧ (Hx.dflA K (He.ma K (He.ga K "TooLarge") "__init__") = .none) ∧ (Hx.kwdA K (He.ma K (He.ga K "TooLarge") "__init__") = .none) ∧ (Hx.codeB K (He.ma K (He.ga K "Desk") "__init__") "Desk.__init__" = true) ∧ (Hx.dflA K (He.ma K (He.ga K "Desk") "__init__") = .none) ∧ (Hx.codeB K (He.ma K (He.ga K "Desk") "check_free") "Desk.check_free" = true) ∧ (Hx.dflA K (He.ma K (He.ga K "Desk") "check_free") = .none) ∧ (Hx.codeB K (He.ma K (He.ga K "Desk") "check_tree") "Desk.check_tree" = true) ∧ (Hx.dflA K (He.ma K (He.ga K "Desk") "check_tree") = .none) ∧ (Hx.codeB K (He.ma K (He.ga K "Desk") "told") "Desk.told" = true) ∧ (Hx.dflA K (He.ma K (He.ga K "Desk") "told") = .none) ∧ True
abbrev PB1 (K : PySem.W.Frag) : Prop := (Hx.codeB K (He.ma K (He.ga K "Desk") "take") "Desk.take" = true) ∧ (Hx.dflA K (He.ma K (He.ga K "Desk") "take") = .none) ∧ (Hx.codeB K (He.ma K (He.ga K "Desk") "called") "Desk.called" = true) ∧ (Hx.dflA K (He.ma K (He.ga K "Desk") "called") = .none) ∧ (Hx.codeB K (He.ma K (He.ga K "Desk") "put") "Desk.put" = true) ∧ (Hx.dflA K (He.ma K (He.ga K "Desk") "put") = .none) ∧ (Hx.codeB K (He.ma K (He.ga K "Desk") "cut") "Desk.cut" = true) ∧ (Hx.dflA K (He.ma K (He.ga K "Desk") "cut") = .none) ∧ (Hx.codeB K (He.ma K (He.ga K "Desk") "label") "Desk.label" = true) ∧ (Hx.dflA K (He.ma K (He.ga K "Desk") "label") = .none) ∧ (Hx.codeB K (He.ma K (He.ga K "Desk") "turn") "Desk.turn" = true) ∧ (Hx.dflA K (He.ma K (He.ga K "Desk") "turn") = .none) ∧ (Hx.codeB K (He.ma K (He.ga K "Desk") "undo") "Desk.undo" = true) ∧ (Hx.dflA K (He.ma K (He.ga K "Desk") "undo") = .none) ∧ (Hx.codeB K (He.ma K (He.ga K "Desk") "__len__") "Desk.__len__" = true) ∧ (Hx.dflA K (He.ma K (He.ga K "Desk") "__len__") = .none) ∧ (Hx.codeB K (He.ma K (He.ga K "Desk") "__eq__") "Desk.__eq__" = true) ∧ (Hx.dflA K (He.ma K (He.ga K "Desk") "__eq__") = .none) ∧ (Hx.codeB K (He.ma K (He.ga K "Desk") "tree") "Desk.tree" = true) ∧ (Hx.dflA K (He.ma K (He.ga K "Desk") "tree") = .none) ∧ True
abbrev PB2 (K : PySem.W.Frag) : Prop := (Hx.kwdA K (He.ma K (He.ga K "Desk") "tree") = .ref (Hx.adrV (Hx.kwdA K (He.ma K (He.ga K "Desk") "tree")))) ∧ (Hx.codeB K (Hx.hdV (PySem.W.recIn K (He.ma K (He.ga K "Desk") "first") "property")) "Desk.first" = true) ∧ (Hx.dflA K (Hx.hdV (PySem.W.recIn K (He.ma K (He.ga K "Desk") "first") "property")) = .none) ∧ (Hx.codeB K (Hx.hdV (PySem.W.recIn K (He.ma K (He.ga K "Desk") "between") "property")) "Desk.between" = true) ∧ (Hx.dflA K (Hx.hdV (PySem.W.recIn K (He.ma K (He.ga K "Desk") "between") "property")) = .none) ∧ (Hx.codeB K (Hx.hdV (PySem.W.recIn K (He.ma K (He.ga K "Desk") "last") "property")) "Desk.last" = true) ∧ (Hx.dflA K (Hx.hdV (PySem.W.recIn K (He.ma K (He.ga K "Desk") "last") "property")) = .none) ∧ (Hx.codeB K (He.ga K "_law_some_edit") "_law_some_edit" = true) ∧ (Hx.dflA K (He.ga K "_law_some_edit") = .ref (Hx.adrV (Hx.dflA K (He.ga K "_law_some_edit")))) ∧ (Hx.codeB K (Hx.hdV (PySem.W.recIn K (He.ma K (He.ga K "LoggedDesk") "log") "property")) "LoggedDesk.log" = true) ∧ (Hx.dflA K (Hx.hdV (PySem.W.recIn K (He.ma K (He.ga K "LoggedDesk") "log") "property")) = .none) ∧ (Hx.codeB K (Hx.hdV (PySem.W.recIn K (Hx.cmA K (He.ga K "Desk") "read") "classmethod")) "Desk.read" = true) ∧ (Hx.dflA K (Hx.hdV (PySem.W.recIn K (Hx.cmA K (He.ga K "Desk") "read") "classmethod")) = .none) ∧ (Hx.codeB K (He.ga K "is_letter") "is_letter" = true) ∧ (Hx.dflA K (He.ga K "is_letter") = .none) ∧ (Hx.codeB K (He.ga K "is_node") "is_node" = true) ∧ (Hx.dflA K (He.ga K "is_node") = .none) ∧ (Hx.codeB K (He.ga K "is_tree") "is_tree" = true) ∧ (Hx.dflA K (He.ga K "is_tree") = .none) ∧ (Hx.codeB K (He.ga K "size_of") "size_of" = true) ∧ True
abbrev PB3 (K : PySem.W.Frag) : Prop := (Hx.dflA K (He.ga K "size_of") = .none) ∧ (Hx.codeB K (He.ga K "part_at") "part_at" = true) ∧ (Hx.dflA K (He.ga K "part_at") = .none) ∧ (Hx.codeB K (He.ga K "is_open") "is_open" = true) ∧ (Hx.dflA K (He.ga K "is_open") = .none) ∧ (Hx.codeB K (He.ga K "replaced") "replaced" = true) ∧ (Hx.dflA K (He.ga K "replaced") = .none) ∧ (Hx.codeB K (He.ga K "with_part") "with_part" = true) ∧ (Hx.dflA K (He.ga K "with_part") = .none) ∧ (Hx.codeB K (He.ga K "mirrored") "mirrored" = true) ∧ (Hx.dflA K (He.ga K "mirrored") = .none) ∧ (Hx.codeB K (He.ga K "node_at") "node_at" = true) ∧ (Hx.dflA K (He.ga K "node_at") = .none) ∧ (Hx.codeB K (He.ga K "with_node") "with_node" = true) ∧ (Hx.dflA K (He.ga K "with_node") = .none) ∧ (Hx.codeB K (He.ga K "without_node") "without_node" = true) ∧ (Hx.dflA K (He.ga K "without_node") = .none) ∧ (Hx.codeB K (He.ga K "with_label") "with_label" = true) ∧ (Hx.dflA K (He.ga K "with_label") = .none) ∧ (Hx.codeB K (He.ga K "turned") "turned" = true) ∧ True
abbrev PB4 (K : PySem.W.Frag) : Prop := (Hx.dflA K (He.ga K "turned") = .none) ∧ (Hx.codeB K (He.ga K "edited") "edited" = true) ∧ (Hx.dflA K (He.ga K "edited") = .none) ∧ (Hx.codeB K (He.ga K "is_kind") "is_kind" = true) ∧ (Hx.dflA K (He.ga K "is_kind") = .none) ∧ (Hx.codeB K (He.ga K "ordered_steps") "ordered_steps" = true) ∧ (Hx.dflA K (He.ga K "ordered_steps") = .none) ∧ (Hx.codeB K (He.ga K "deep_steps") "deep_steps" = true) ∧ (Hx.dflA K (He.ga K "deep_steps") = .none) ∧ (Hx.codeB K (He.ga K "walk") "walk" = true) ∧ (Hx.dflA K (He.ga K "walk") = .none) ∧ (Hx.codeB K (He.ga K "tree_text") "tree_text" = true) ∧ (Hx.dflA K (He.ga K "tree_text") = .none) ∧ (Hx.codeB K (He.ga K "side_text") "side_text" = true) ∧ (Hx.dflA K (He.ga K "side_text") = .none) ∧ (Hx.codeB K (He.ga K "parse_tree") "parse_tree" = true) ∧ (Hx.dflA K (He.ga K "parse_tree") = .none) ∧ (Hx.codeB K (He.ga K "sign_at") "sign_at" = true) ∧ (Hx.dflA K (He.ga K "sign_at") = .none) ∧ (Hx.codeB K (He.ga K "read_tree") "read_tree" = true) ∧ True
abbrev PB5 (K : PySem.W.Frag) : Prop := (Hx.dflA K (He.ga K "read_tree") = .none) ∧ (Hx.codeB K (He.ga K "read_left") "read_left" = true) ∧ (Hx.dflA K (He.ga K "read_left") = .none) ∧ (Hx.codeB K (He.ga K "read_side") "read_side" = true) ∧ (Hx.dflA K (He.ga K "read_side") = .none) ∧ (Hx.codeB K (He.ga K "_law_stream") "_law_stream" = true) ∧ (Hx.dflA K (He.ga K "_law_stream") = .none) ∧ (Hx.codeB K (He.ga K "_law_take") "_law_take" = true) ∧ (Hx.dflA K (He.ga K "_law_take") = .none) ∧ (Hx.codeB K (He.ga K "_law_equal") "_law_equal" = true) ∧ (Hx.dflA K (He.ga K "_law_equal") = .none) ∧ (Hx.codeB K (He.ga K "_law_letter") "_law_letter" = true) ∧ (Hx.dflA K (He.ga K "_law_letter") = .none) ∧ (Hx.codeB K (He.ga K "_law_paths") "_law_paths" = true) ∧ (Hx.dflA K (He.ga K "_law_paths") = .none) ∧ (Hx.codeB K (He.ga K "_law_grafted") "_law_grafted" = true) ∧ (Hx.dflA K (He.ga K "_law_grafted") = .none) ∧ (Hx.codeB K (He.ga K "_law_spot") "_law_spot" = true) ∧ (Hx.dflA K (He.ga K "_law_spot") = .none) ∧ (Hx.codeB K (He.ga K "_law_sorted_tree") "_law_sorted_tree" = true) ∧ True
abbrev PB6 (K : PySem.W.Frag) : Prop := (Hx.dflA K (He.ga K "_law_sorted_tree") = .none) ∧ (Hx.codeB K (He.ga K "_law_tree") "_law_tree" = true) ∧ (Hx.dflA K (He.ga K "_law_tree") = .none) ∧ (Hx.codeB K (He.ga K "_law_do") "_law_do" = true) ∧ (Hx.dflA K (He.ga K "_law_do") = .none) ∧ (Hx.codeB K (He.ga K "_law_tried") "_law_tried" = true) ∧ (Hx.dflA K (He.ga K "_law_tried") = .none) ∧ (Hx.codeB K (He.ga K "_law_right") "_law_right" = true) ∧ (Hx.dflA K (He.ga K "_law_right") = .none) ∧ (Hx.codeB K (He.ga K "law") "law" = true) ∧ (Hx.dflA K (He.ga K "law") = .none) ∧ (Hx.codeB K (He.ma K (He.ga K "LoggedDesk") "__init__") "LoggedDesk.__init__" = true) ∧ (Hx.dflA K (He.ma K (He.ga K "LoggedDesk") "__init__") = .none) ∧ (Hx.supB K (He.ma K (He.ga K "LoggedDesk") "__init__") (He.ga K "LoggedDesk") (PySem.Challenge.rw_treewalks_k96_whole_desks_by_texts).prog.main.file = true) ∧ (Hx.excB K (He.ga K "NoPath") [.type "LookupError", .type "Exception", .type "BaseException", .type "object"] "LookupError.__new__" = true) ∧ (Hx.excB K (He.ga K "NotOpen") (.ref (He.ga K "WalkError") :: [.type "ValueError", .type "Exception", .type "BaseException", .type "object"]) "ValueError.__new__" = true) ∧ (Hx.excB K (He.ga K "NoLabel") (.ref (He.ga K "WalkError") :: [.type "ValueError", .type "Exception", .type "BaseException", .type "object"]) "ValueError.__new__" = true) ∧ (Hx.excB K (He.ga K "TooLarge") (.ref (He.ga K "WalkError") :: [.type "ValueError", .type "Exception", .type "BaseException", .type "object"]) "ValueError.__new__" = true) ∧ (Hx.excB K (He.ga K "LastNode") (.ref (He.ga K "WalkError") :: [.type "ValueError", .type "Exception", .type "BaseException", .type "object"]) "ValueError.__new__" = true) ∧ (Hx.tupL K (He.ga K "KINDS") [.str "first", .str "between", .str "last", .str "level"] = true) ∧ True
abbrev PB7 (K : PySem.W.Frag) : Prop := (Hx.tupL K (Hx.adrV (Hx.dflA K (He.ga K "_law_some_edit"))) [.int 13] = true) ∧ (PySem.W.nsIn K mainGlobals "NoPath" = some (some (.ref (He.ga K "NoPath")))) ∧ (PySem.W.nsIn K mainGlobals "NotOpen" = some (some (.ref (He.ga K "NotOpen")))) ∧ (PySem.W.nsIn K mainGlobals "NoLabel" = some (some (.ref (He.ga K "NoLabel")))) ∧ (PySem.W.nsIn K mainGlobals "TooLarge" = some (some (.ref (He.ga K "TooLarge")))) ∧ (PySem.W.nsIn K mainGlobals "LastNode" = some (some (.ref (He.ga K "LastNode")))) ∧ (PySem.W.nsIn K mainGlobals "WalkError" = some (some (.ref (He.ga K "WalkError")))) ∧ (PySem.W.findIn K (.ref (He.ga K "NoPath")) "__setattr__" = some (some (.builtin "object.__setattr__"))) ∧ (PySem.W.findIn K (.ref (He.ga K "NoPath")) "__getattribute__" = some (some (.builtin "BaseException.__getattribute__"))) ∧ (PySem.W.findIn K (.ref (He.ga K "NoPath")) "__getattr__" = some none) ∧ (PySem.W.findIn K (.ref (He.ga K "NoPath")) "value" = some none) ∧ (PySem.W.findIn K (.ref (He.ga K "NoPath")) "__init__" = some (some (.ref (He.ma K (He.ga K "NoPath") "__init__")))) ∧ (PySem.W.typeIn K (.ref (He.ma K (He.ga K "NoPath") "__init__")) = some (.type "function")) ∧ (PySem.W.keepIn K (.ref (He.ga K "NoPath")) = true) ∧ (PySem.W.subIn K (.ref (He.ga K "NoPath")) (.type "BaseException") = some true) ∧ (PySem.W.typeIn K (.ref (He.ga K "NoPath")) = some (.type "type")) ∧ (PySem.W.hasDictIn K (He.ga K "NoPath") = true) ∧ (PySem.W.findIn K (.ref (He.ga K "NoPath")) "__class__" = some (some (.builtin "object.__class__"))) ∧ (PySem.W.specialIn K (.builtin "object.__class__") "__get__" = some (some (.builtin "getset_descriptor.__get__"))) ∧ (PySem.W.takesIn K (.builtin "object.__class__") = some true) ∧ True
abbrev PB8 (K : PySem.W.Frag) : Prop := (PySem.W.mroIn K (He.ga K "NoPath") (.type "object") = some true) ∧ (PySem.W.findIn K (.ref (He.ga K "NotOpen")) "__setattr__" = some (some (.builtin "object.__setattr__"))) ∧ (PySem.W.findIn K (.ref (He.ga K "NotOpen")) "__getattribute__" = some (some (.builtin "BaseException.__getattribute__"))) ∧ (PySem.W.findIn K (.ref (He.ga K "NotOpen")) "__getattr__" = some none) ∧ (PySem.W.findIn K (.ref (He.ga K "NotOpen")) "path" = some none) ∧ (PySem.W.findIn K (.ref (He.ga K "NotOpen")) "__init__" = some (some (.ref (He.ma K (He.ga K "NotOpen") "__init__")))) ∧ (PySem.W.typeIn K (.ref (He.ma K (He.ga K "NotOpen") "__init__")) = some (.type "function")) ∧ (PySem.W.keepIn K (.ref (He.ga K "NotOpen")) = true) ∧ (PySem.W.subIn K (.ref (He.ga K "NotOpen")) (.type "BaseException") = some true) ∧ (PySem.W.typeIn K (.ref (He.ga K "NotOpen")) = some (.type "type")) ∧ (PySem.W.hasDictIn K (He.ga K "NotOpen") = true) ∧ (PySem.W.findIn K (.ref (He.ga K "NotOpen")) "__class__" = some (some (.builtin "object.__class__"))) ∧ (PySem.W.specialIn K (.builtin "object.__class__") "__get__" = some (some (.builtin "getset_descriptor.__get__"))) ∧ (PySem.W.takesIn K (.builtin "object.__class__") = some true) ∧ (PySem.W.mroIn K (He.ga K "NotOpen") (.type "object") = some true) ∧ (PySem.W.findIn K (.ref (He.ga K "NoLabel")) "__setattr__" = some (some (.builtin "object.__setattr__"))) ∧ (PySem.W.findIn K (.ref (He.ga K "NoLabel")) "__getattribute__" = some (some (.builtin "BaseException.__getattribute__"))) ∧ (PySem.W.findIn K (.ref (He.ga K "NoLabel")) "__getattr__" = some none) ∧ (PySem.W.findIn K (.ref (He.ga K "NoLabel")) "letter" = some none) ∧ (PySem.W.findIn K (.ref (He.ga K "NoLabel")) "__init__" = some (some (.ref (He.ma K (He.ga K "NoLabel") "__init__")))) ∧ True
abbrev PB9 (K : PySem.W.Frag) : Prop := (PySem.W.typeIn K (.ref (He.ma K (He.ga K "NoLabel") "__init__")) = some (.type "function")) ∧ (PySem.W.keepIn K (.ref (He.ga K "NoLabel")) = true) ∧ (PySem.W.subIn K (.ref (He.ga K "NoLabel")) (.type "BaseException") = some true) ∧ (PySem.W.typeIn K (.ref (He.ga K "NoLabel")) = some (.type "type")) ∧ (PySem.W.hasDictIn K (He.ga K "NoLabel") = true) ∧ (PySem.W.findIn K (.ref (He.ga K "NoLabel")) "__class__" = some (some (.builtin "object.__class__"))) ∧ (PySem.W.specialIn K (.builtin "object.__class__") "__get__" = some (some (.builtin "getset_descriptor.__get__"))) ∧ (PySem.W.takesIn K (.builtin "object.__class__") = some true) ∧ (PySem.W.mroIn K (He.ga K "NoLabel") (.type "object") = some true) ∧ (PySem.W.findIn K (.ref (He.ga K "TooLarge")) "__setattr__" = some (some (.builtin "object.__setattr__"))) ∧ (PySem.W.findIn K (.ref (He.ga K "TooLarge")) "__getattribute__" = some (some (.builtin "BaseException.__getattribute__"))) ∧ (PySem.W.findIn K (.ref (He.ga K "TooLarge")) "__getattr__" = some none) ∧ (PySem.W.findIn K (.ref (He.ga K "TooLarge")) "limit" = some none) ∧ (PySem.W.findIn K (.ref (He.ga K "TooLarge")) "__init__" = some (some (.ref (He.ma K (He.ga K "TooLarge") "__init__")))) ∧ (PySem.W.typeIn K (.ref (He.ma K (He.ga K "TooLarge") "__init__")) = some (.type "function")) ∧ (PySem.W.keepIn K (.ref (He.ga K "TooLarge")) = true) ∧ (PySem.W.subIn K (.ref (He.ga K "TooLarge")) (.type "BaseException") = some true) ∧ (PySem.W.typeIn K (.ref (He.ga K "TooLarge")) = some (.type "type")) ∧ (PySem.W.hasDictIn K (He.ga K "TooLarge") = true) ∧ (PySem.W.findIn K (.ref (He.ga K "TooLarge")) "__class__" = some (some (.builtin "object.__class__"))) ∧ True
abbrev PB10 (K : PySem.W.Frag) : Prop := (PySem.W.specialIn K (.builtin "object.__class__") "__get__" = some (some (.builtin "getset_descriptor.__get__"))) ∧ (PySem.W.takesIn K (.builtin "object.__class__") = some true) ∧ (PySem.W.mroIn K (He.ga K "TooLarge") (.type "object") = some true) ∧ (PySem.W.findIn K (.ref (He.ga K "LastNode")) "__setattr__" = some (some (.builtin "object.__setattr__"))) ∧ (PySem.W.findIn K (.ref (He.ga K "LastNode")) "__getattribute__" = some (some (.builtin "BaseException.__getattribute__"))) ∧ (PySem.W.findIn K (.ref (He.ga K "LastNode")) "__getattr__" = some none) ∧ (PySem.W.keepIn K (.ref (He.ga K "LastNode")) = true) ∧ (PySem.W.subIn K (.ref (He.ga K "LastNode")) (.type "BaseException") = some true) ∧ (PySem.W.typeIn K (.ref (He.ga K "LastNode")) = some (.type "type")) ∧ (PySem.W.hasDictIn K (He.ga K "LastNode") = true) ∧ (PySem.W.findIn K (.ref (He.ga K "LastNode")) "__class__" = some (some (.builtin "object.__class__"))) ∧ (PySem.W.specialIn K (.builtin "object.__class__") "__get__" = some (some (.builtin "getset_descriptor.__get__"))) ∧ (PySem.W.takesIn K (.builtin "object.__class__") = some true) ∧ (PySem.W.mroIn K (He.ga K "LastNode") (.type "object") = some true) ∧ (PySem.W.nsIn K mainGlobals "Desk" = some (some (.ref (He.ga K "Desk")))) ∧ (PySem.W.plainGet K (He.ga K "Desk") Str.empty = true) ∧ (PySem.W.hasDictIn K (He.ga K "Desk") = true) ∧ (PySem.W.plainOver K (He.ga K "Desk") = true) ∧ (PySem.W.findIn K (.ref (He.ga K "Desk")) "__setattr__" = some (some (.builtin "object.__setattr__"))) ∧ (PySem.W.makesIn K (He.ga K "Desk") = true) ∧ True
abbrev PB11 (K : PySem.W.Frag) : Prop := (PySem.W.keepIn K (.ref (He.ga K "Desk")) = true) ∧ (PySem.W.findIn K (.ref (He.ga K "Desk")) "trees" = some none) ∧ (PySem.W.findIn K (.ref (He.ga K "Desk")) "done" = some none) ∧ (PySem.W.findIn K (.ref (He.ga K "Desk")) "busy" = some none) ∧ (PySem.W.findIn K (.ref (He.ga K "Desk")) "MOST_EDITS" = some (some (.int 60 (Hx.tokV (PySem.W.findIn K (.ref (He.ga K "Desk")) "MOST_EDITS"))))) ∧ (PySem.W.specialIn K (.int 60 (Hx.tokV (PySem.W.findIn K (.ref (He.ga K "Desk")) "MOST_EDITS"))) "__get__" = some none) ∧ (PySem.W.excIn K (He.ga K "LastNode") [.type "ValueError", .type "Exception", .type "BaseException", .type "object"] "ValueError.__new__" = true) ∧ (PySem.W.exmOne K (.ref (He.ga K "NoPath")) (.ref (He.ga K "NoPath")) = some true) ∧ (PySem.W.exmAny K (.ref (He.ga K "NoPath")) [.ref (He.ga K "WalkError"), .ref (He.ga K "NoPath")] = some true) ∧ (PySem.W.exmAny K (.ref (He.ga K "NotOpen")) [.ref (He.ga K "WalkError"), .ref (He.ga K "NoPath")] = some true) ∧ (PySem.W.exmAny K (.ref (He.ga K "NoLabel")) [.ref (He.ga K "WalkError"), .ref (He.ga K "NoPath")] = some true) ∧ (PySem.W.exmAny K (.ref (He.ga K "TooLarge")) [.ref (He.ga K "WalkError"), .ref (He.ga K "NoPath")] = some true) ∧ (PySem.W.exmAny K (.ref (He.ga K "LastNode")) [.ref (He.ga K "WalkError"), .ref (He.ga K "NoPath")] = some true) ∧ (PySem.W.findIn K (.ref (He.ga K "Desk")) "__class__" = some (some (.builtin "object.__class__"))) ∧ (PySem.W.specialIn K (.builtin "object.__class__") "__get__" = some (some (.builtin "getset_descriptor.__get__"))) ∧ (PySem.W.takesIn K (.builtin "object.__class__") = some true) ∧ (PySem.W.mroIn K (He.ga K "Desk") (.type "object") = some true) ∧ (PySem.W.kitOne K (.ref (He.ga K "Desk")) (.ref (He.ga K "Desk")) = some true) ∧ (PySem.W.nsIn K mainGlobals "ACTIONS" = some (some (.ref (He.ga K "ACTIONS")))) ∧ (PySem.W.nsIn K (He.ga K "ACTIONS") "put" = some (some (.ref (He.ga K "with_node")))) ∧ True
abbrev PB12 (K : PySem.W.Frag) : Prop := (PySem.W.nsIn K (He.ga K "ACTIONS") "cut" = some (some (.ref (He.ga K "without_node")))) ∧ (PySem.W.nsIn K (He.ga K "ACTIONS") "label" = some (some (.ref (He.ga K "with_label")))) ∧ (PySem.W.nsIn K (He.ga K "ACTIONS") "turn" = some (some (.ref (He.ga K "turned")))) ∧ (PySem.W.nsIn K mainGlobals "KINDS" = some (some (.ref (He.ga K "KINDS")))) ∧ (PySem.W.findIn K (.ref (He.ga K "Desk")) "__init__" = some (some (.ref (He.ma K (He.ga K "Desk") "__init__")))) ∧ (PySem.W.isFn K (.ref (He.ma K (He.ga K "Desk") "__init__")) = true) ∧ (PySem.W.keepIn K (.ref (He.ma K (He.ga K "Desk") "__init__")) = true) ∧ (PySem.W.findIn K (.ref (He.ga K "Desk")) "check_free" = some (some (.ref (He.ma K (He.ga K "Desk") "check_free")))) ∧ (PySem.W.isFn K (.ref (He.ma K (He.ga K "Desk") "check_free")) = true) ∧ (PySem.W.keepIn K (.ref (He.ma K (He.ga K "Desk") "check_free")) = true) ∧ (PySem.W.findIn K (.ref (He.ga K "Desk")) "check_tree" = some (some (.ref (He.ma K (He.ga K "Desk") "check_tree")))) ∧ (PySem.W.isFn K (.ref (He.ma K (He.ga K "Desk") "check_tree")) = true) ∧ (PySem.W.keepIn K (.ref (He.ma K (He.ga K "Desk") "check_tree")) = true) ∧ (PySem.W.findIn K (.ref (He.ga K "Desk")) "told" = some (some (.ref (He.ma K (He.ga K "Desk") "told")))) ∧ (PySem.W.isFn K (.ref (He.ma K (He.ga K "Desk") "told")) = true) ∧ (PySem.W.keepIn K (.ref (He.ma K (He.ga K "Desk") "told")) = true) ∧ (PySem.W.findIn K (.ref (He.ga K "Desk")) "take" = some (some (.ref (He.ma K (He.ga K "Desk") "take")))) ∧ (PySem.W.isFn K (.ref (He.ma K (He.ga K "Desk") "take")) = true) ∧ (PySem.W.keepIn K (.ref (He.ma K (He.ga K "Desk") "take")) = true) ∧ (PySem.W.findIn K (.ref (He.ga K "Desk")) "called" = some (some (.ref (He.ma K (He.ga K "Desk") "called")))) ∧ True
abbrev PB13 (K : PySem.W.Frag) : Prop := (PySem.W.isFn K (.ref (He.ma K (He.ga K "Desk") "called")) = true) ∧ (PySem.W.keepIn K (.ref (He.ma K (He.ga K "Desk") "called")) = true) ∧ (PySem.W.findIn K (.ref (He.ga K "Desk")) "put" = some (some (.ref (He.ma K (He.ga K "Desk") "put")))) ∧ (PySem.W.isFn K (.ref (He.ma K (He.ga K "Desk") "put")) = true) ∧ (PySem.W.keepIn K (.ref (He.ma K (He.ga K "Desk") "put")) = true) ∧ (PySem.W.findIn K (.ref (He.ga K "Desk")) "cut" = some (some (.ref (He.ma K (He.ga K "Desk") "cut")))) ∧ (PySem.W.isFn K (.ref (He.ma K (He.ga K "Desk") "cut")) = true) ∧ (PySem.W.keepIn K (.ref (He.ma K (He.ga K "Desk") "cut")) = true) ∧ (PySem.W.findIn K (.ref (He.ga K "Desk")) "label" = some (some (.ref (He.ma K (He.ga K "Desk") "label")))) ∧ (PySem.W.isFn K (.ref (He.ma K (He.ga K "Desk") "label")) = true) ∧ (PySem.W.keepIn K (.ref (He.ma K (He.ga K "Desk") "label")) = true) ∧ (PySem.W.findIn K (.ref (He.ga K "Desk")) "turn" = some (some (.ref (He.ma K (He.ga K "Desk") "turn")))) ∧ (PySem.W.isFn K (.ref (He.ma K (He.ga K "Desk") "turn")) = true) ∧ (PySem.W.keepIn K (.ref (He.ma K (He.ga K "Desk") "turn")) = true) ∧ (PySem.W.findIn K (.ref (He.ga K "Desk")) "undo" = some (some (.ref (He.ma K (He.ga K "Desk") "undo")))) ∧ (PySem.W.isFn K (.ref (He.ma K (He.ga K "Desk") "undo")) = true) ∧ (PySem.W.keepIn K (.ref (He.ma K (He.ga K "Desk") "undo")) = true) ∧ (PySem.W.findIn K (.ref (He.ga K "Desk")) "__len__" = some (some (.ref (He.ma K (He.ga K "Desk") "__len__")))) ∧ (PySem.W.isFn K (.ref (He.ma K (He.ga K "Desk") "__len__")) = true) ∧ (PySem.W.keepIn K (.ref (He.ma K (He.ga K "Desk") "__len__")) = true) ∧ True
abbrev PB14 (K : PySem.W.Frag) : Prop := (PySem.W.findIn K (.ref (He.ga K "Desk")) "__eq__" = some (some (.ref (He.ma K (He.ga K "Desk") "__eq__")))) ∧ (PySem.W.isFn K (.ref (He.ma K (He.ga K "Desk") "__eq__")) = true) ∧ (PySem.W.keepIn K (.ref (He.ma K (He.ga K "Desk") "__eq__")) = true) ∧ (PySem.W.findIn K (.ref (He.ga K "Desk")) "tree" = some (some (.ref (He.ma K (He.ga K "Desk") "tree")))) ∧ (PySem.W.isFn K (.ref (He.ma K (He.ga K "Desk") "tree")) = true) ∧ (PySem.W.keepIn K (.ref (He.ma K (He.ga K "Desk") "tree")) = true) ∧ (PySem.W.nsIn K (Hx.adrV (Hx.kwdA K (He.ma K (He.ga K "Desk") "tree"))) "version" = some (some .none)) ∧ (PySem.W.findIn K (.ref (He.ga K "Desk")) "first" = some (some (.ref (He.ma K (He.ga K "Desk") "first")))) ∧ (PySem.W.specialIn K (.ref (He.ma K (He.ga K "Desk") "first")) "__get__" = some (some (.builtin "property.__get__"))) ∧ (PySem.W.takesIn K (.ref (He.ma K (He.ga K "Desk") "first")) = some true) ∧ (PySem.W.recIn K (He.ma K (He.ga K "Desk") "first") "property" = some (.ref (Hx.hdV (PySem.W.recIn K (He.ma K (He.ga K "Desk") "first") "property")) :: (Hx.tlV (PySem.W.recIn K (He.ma K (He.ga K "Desk") "first") "property")))) ∧ (PySem.W.keepIn K (.ref (Hx.hdV (PySem.W.recIn K (He.ma K (He.ga K "Desk") "first") "property"))) = true) ∧ (PySem.W.findIn K (.ref (He.ga K "Desk")) "between" = some (some (.ref (He.ma K (He.ga K "Desk") "between")))) ∧ (PySem.W.specialIn K (.ref (He.ma K (He.ga K "Desk") "between")) "__get__" = some (some (.builtin "property.__get__"))) ∧ (PySem.W.takesIn K (.ref (He.ma K (He.ga K "Desk") "between")) = some true) ∧ (PySem.W.recIn K (He.ma K (He.ga K "Desk") "between") "property" = some (.ref (Hx.hdV (PySem.W.recIn K (He.ma K (He.ga K "Desk") "between") "property")) :: (Hx.tlV (PySem.W.recIn K (He.ma K (He.ga K "Desk") "between") "property")))) ∧ (PySem.W.keepIn K (.ref (Hx.hdV (PySem.W.recIn K (He.ma K (He.ga K "Desk") "between") "property"))) = true) ∧ (PySem.W.findIn K (.ref (He.ga K "Desk")) "last" = some (some (.ref (He.ma K (He.ga K "Desk") "last")))) ∧ (PySem.W.specialIn K (.ref (He.ma K (He.ga K "Desk") "last")) "__get__" = some (some (.builtin "property.__get__"))) ∧ (PySem.W.takesIn K (.ref (He.ma K (He.ga K "Desk") "last")) = some true) ∧ True
abbrev PB15 (K : PySem.W.Frag) : Prop := (PySem.W.recIn K (He.ma K (He.ga K "Desk") "last") "property" = some (.ref (Hx.hdV (PySem.W.recIn K (He.ma K (He.ga K "Desk") "last") "property")) :: (Hx.tlV (PySem.W.recIn K (He.ma K (He.ga K "Desk") "last") "property")))) ∧ (PySem.W.keepIn K (.ref (Hx.hdV (PySem.W.recIn K (He.ma K (He.ga K "Desk") "last") "property"))) = true) ∧ (PySem.W.nsIn K mainGlobals "_law_some_edit" = some (some (.ref (He.ga K "_law_some_edit")))) ∧ (PySem.W.keepIn K (.ref (He.ga K "_law_some_edit")) = true) ∧ (PySem.W.nsIn K mainGlobals "LoggedDesk" = some (some (.ref (He.ga K "LoggedDesk")))) ∧ (PySem.W.plainGet K (He.ga K "LoggedDesk") Str.empty = true) ∧ (PySem.W.hasDictIn K (He.ga K "LoggedDesk") = true) ∧ (PySem.W.plainOver K (He.ga K "LoggedDesk") = true) ∧ (PySem.W.findIn K (.ref (He.ga K "LoggedDesk")) "__setattr__" = some (some (.builtin "object.__setattr__"))) ∧ (PySem.W.makesIn K (He.ga K "LoggedDesk") = true) ∧ (PySem.W.keepIn K (.ref (He.ga K "LoggedDesk")) = true) ∧ (PySem.W.findIn K (.ref (He.ga K "LoggedDesk")) "trees" = some none) ∧ (PySem.W.findIn K (.ref (He.ga K "LoggedDesk")) "done" = some none) ∧ (PySem.W.findIn K (.ref (He.ga K "LoggedDesk")) "busy" = some none) ∧ (PySem.W.findIn K (.ref (He.ga K "LoggedDesk")) "calls" = some none) ∧ (PySem.W.findIn K (.ref (He.ga K "LoggedDesk")) "__eq__" = some (some (.ref (He.ma K (He.ga K "Desk") "__eq__")))) ∧ (PySem.W.notFirst K (He.ga K "LoggedDesk") (.ref (He.ga K "Desk")) = true) ∧ (PySem.W.findIn K (.ref (He.ga K "LoggedDesk")) "first" = some (some (.ref (He.ma K (He.ga K "Desk") "first")))) ∧ (PySem.W.findIn K (.ref (He.ga K "LoggedDesk")) "between" = some (some (.ref (He.ma K (He.ga K "Desk") "between")))) ∧ (PySem.W.findIn K (.ref (He.ga K "LoggedDesk")) "last" = some (some (.ref (He.ma K (He.ga K "Desk") "last")))) ∧ True
abbrev PB16 (K : PySem.W.Frag) : Prop := (PySem.W.findIn K (.ref (He.ga K "LoggedDesk")) "log" = some (some (.ref (He.ma K (He.ga K "LoggedDesk") "log")))) ∧ (PySem.W.specialIn K (.ref (He.ma K (He.ga K "LoggedDesk") "log")) "__get__" = some (some (.builtin "property.__get__"))) ∧ (PySem.W.takesIn K (.ref (He.ma K (He.ga K "LoggedDesk") "log")) = some true) ∧ (PySem.W.recIn K (He.ma K (He.ga K "LoggedDesk") "log") "property" = some (.ref (Hx.hdV (PySem.W.recIn K (He.ma K (He.ga K "LoggedDesk") "log") "property")) :: (Hx.tlV (PySem.W.recIn K (He.ma K (He.ga K "LoggedDesk") "log") "property")))) ∧ (PySem.W.keepIn K (.ref (Hx.hdV (PySem.W.recIn K (He.ma K (He.ga K "LoggedDesk") "log") "property"))) = true) ∧ (PySem.W.findIn K (.ref (He.ga K "LoggedDesk")) "__init__" = some (some (.ref (He.ma K (He.ga K "LoggedDesk") "__init__")))) ∧ (PySem.W.isFn K (.ref (He.ma K (He.ga K "LoggedDesk") "__init__")) = true) ∧ (((PySem.Challenge.rw_treewalks_k96_whole_desks_by_texts).prog.main.scope.names.lookup ("super" : Str)).isSome = false) ∧ ((PySem.W.clsIn K (He.ga K "LoggedDesk")).isSome = true) ∧ (PySem.W.mroIn K (He.ga K "LoggedDesk") (.ref (He.ga K "LoggedDesk")) = some true) ∧ (PySem.W.nsIn K cStatics "thirdparty.any" = some none) ∧ (PySem.W.ks_superIn K (He.ga K "LoggedDesk") (He.ga K "LoggedDesk") "__init__" = some (some (.ref (He.ma K (He.ga K "Desk") "__init__")))) ∧ (PySem.W.typeIn K (.ref (He.ma K (He.ga K "Desk") "__init__")) = some (.type "function")) ∧ (PySem.W.fnIn K (He.ma K (He.ga K "Desk") "__init__") = true) ∧ (PySem.W.recIn K (Hx.cmA K (He.ga K "Desk") "read") "classmethod" = some (.ref (Hx.hdV (PySem.W.recIn K (Hx.cmA K (He.ga K "Desk") "read") "classmethod")) :: (Hx.tlV (PySem.W.recIn K (Hx.cmA K (He.ga K "Desk") "read") "classmethod")))) ∧ (PySem.W.recIn K (Hx.cmA K (He.ga K "LoggedDesk") "read") "classmethod" = some (.ref (Hx.hdV (PySem.W.recIn K (Hx.cmA K (He.ga K "Desk") "read") "classmethod")) :: (Hx.tlV (PySem.W.recIn K (Hx.cmA K (He.ga K "LoggedDesk") "read") "classmethod")))) ∧ (cmB K (He.ga K "Desk") "read" (Hx.cmA K (He.ga K "Desk") "read") = true) ∧ (cmB K (He.ga K "LoggedDesk") "read" (Hx.cmA K (He.ga K "LoggedDesk") "read") = true) ∧ (PySem.W.readsIn K (He.ga K "Desk") (.type "type") = true) ∧ (PySem.W.specialIn K (.ref (He.ga K "Desk")) "__getattribute__" = some (some (.builtin "type.__getattribute__"))) ∧ True
abbrev PB17 (K : PySem.W.Frag) : Prop := (PySem.W.readsIn K (He.ga K "LoggedDesk") (.type "type") = true) ∧ (PySem.W.specialIn K (.ref (He.ga K "LoggedDesk")) "__getattribute__" = some (some (.builtin "type.__getattribute__"))) ∧ (PySem.W.fnIn K (Hx.hdV (PySem.W.recIn K (Hx.cmA K (He.ga K "Desk") "read") "classmethod")) = true) ∧ (PySem.W.keepIn K (.ref (Hx.hdV (PySem.W.recIn K (Hx.cmA K (He.ga K "Desk") "read") "classmethod"))) = true) ∧ (PySem.W.nsIn K mainGlobals "is_letter" = some (some (.ref (He.ga K "is_letter")))) ∧ (PySem.W.keepIn K (.ref (He.ga K "is_letter")) = true) ∧ (PySem.W.nsIn K mainGlobals "is_node" = some (some (.ref (He.ga K "is_node")))) ∧ (PySem.W.keepIn K (.ref (He.ga K "is_node")) = true) ∧ (PySem.W.nsIn K mainGlobals "is_tree" = some (some (.ref (He.ga K "is_tree")))) ∧ (PySem.W.keepIn K (.ref (He.ga K "is_tree")) = true) ∧ (PySem.W.nsIn K mainGlobals "size_of" = some (some (.ref (He.ga K "size_of")))) ∧ (PySem.W.keepIn K (.ref (He.ga K "size_of")) = true) ∧ (PySem.W.nsIn K mainGlobals "part_at" = some (some (.ref (He.ga K "part_at")))) ∧ (PySem.W.keepIn K (.ref (He.ga K "part_at")) = true) ∧ (PySem.W.nsIn K mainGlobals "is_open" = some (some (.ref (He.ga K "is_open")))) ∧ (PySem.W.keepIn K (.ref (He.ga K "is_open")) = true) ∧ (PySem.W.nsIn K mainGlobals "replaced" = some (some (.ref (He.ga K "replaced")))) ∧ (PySem.W.keepIn K (.ref (He.ga K "replaced")) = true) ∧ (PySem.W.nsIn K mainGlobals "with_part" = some (some (.ref (He.ga K "with_part")))) ∧ (PySem.W.keepIn K (.ref (He.ga K "with_part")) = true) ∧ True
abbrev PB18 (K : PySem.W.Frag) : Prop := (PySem.W.nsIn K mainGlobals "mirrored" = some (some (.ref (He.ga K "mirrored")))) ∧ (PySem.W.keepIn K (.ref (He.ga K "mirrored")) = true) ∧ (PySem.W.nsIn K mainGlobals "node_at" = some (some (.ref (He.ga K "node_at")))) ∧ (PySem.W.keepIn K (.ref (He.ga K "node_at")) = true) ∧ (PySem.W.nsIn K mainGlobals "with_node" = some (some (.ref (He.ga K "with_node")))) ∧ (PySem.W.keepIn K (.ref (He.ga K "with_node")) = true) ∧ (PySem.W.nsIn K mainGlobals "without_node" = some (some (.ref (He.ga K "without_node")))) ∧ (PySem.W.keepIn K (.ref (He.ga K "without_node")) = true) ∧ (PySem.W.nsIn K mainGlobals "with_label" = some (some (.ref (He.ga K "with_label")))) ∧ (PySem.W.keepIn K (.ref (He.ga K "with_label")) = true) ∧ (PySem.W.nsIn K mainGlobals "turned" = some (some (.ref (He.ga K "turned")))) ∧ (PySem.W.keepIn K (.ref (He.ga K "turned")) = true) ∧ (PySem.W.nsIn K mainGlobals "edited" = some (some (.ref (He.ga K "edited")))) ∧ (PySem.W.keepIn K (.ref (He.ga K "edited")) = true) ∧ (PySem.W.nsIn K mainGlobals "is_kind" = some (some (.ref (He.ga K "is_kind")))) ∧ (PySem.W.keepIn K (.ref (He.ga K "is_kind")) = true) ∧ (PySem.W.nsIn K mainGlobals "ordered_steps" = some (some (.ref (He.ga K "ordered_steps")))) ∧ (PySem.W.keepIn K (.ref (He.ga K "ordered_steps")) = true) ∧ (PySem.W.nsIn K mainGlobals "deep_steps" = some (some (.ref (He.ga K "deep_steps")))) ∧ (PySem.W.keepIn K (.ref (He.ga K "deep_steps")) = true) ∧ True
abbrev PB19 (K : PySem.W.Frag) : Prop := (PySem.W.nsIn K mainGlobals "walk" = some (some (.ref (He.ga K "walk")))) ∧ (PySem.W.keepIn K (.ref (He.ga K "walk")) = true) ∧ (PySem.W.nsIn K mainGlobals "tree_text" = some (some (.ref (He.ga K "tree_text")))) ∧ (PySem.W.keepIn K (.ref (He.ga K "tree_text")) = true) ∧ (PySem.W.nsIn K mainGlobals "side_text" = some (some (.ref (He.ga K "side_text")))) ∧ (PySem.W.keepIn K (.ref (He.ga K "side_text")) = true) ∧ (PySem.W.nsIn K mainGlobals "parse_tree" = some (some (.ref (He.ga K "parse_tree")))) ∧ (PySem.W.keepIn K (.ref (He.ga K "parse_tree")) = true) ∧ (PySem.W.nsIn K mainGlobals "sign_at" = some (some (.ref (He.ga K "sign_at")))) ∧ (PySem.W.keepIn K (.ref (He.ga K "sign_at")) = true) ∧ (PySem.W.nsIn K mainGlobals "read_tree" = some (some (.ref (He.ga K "read_tree")))) ∧ (PySem.W.keepIn K (.ref (He.ga K "read_tree")) = true) ∧ (PySem.W.nsIn K mainGlobals "read_left" = some (some (.ref (He.ga K "read_left")))) ∧ (PySem.W.keepIn K (.ref (He.ga K "read_left")) = true) ∧ (PySem.W.nsIn K mainGlobals "read_side" = some (some (.ref (He.ga K "read_side")))) ∧ (PySem.W.keepIn K (.ref (He.ga K "read_side")) = true) ∧ (PySem.W.nsIn K mainGlobals "_law_stream" = some (some (.ref (He.ga K "_law_stream")))) ∧ (PySem.W.keepIn K (.ref (He.ga K "_law_stream")) = true) ∧ (PySem.W.nsIn K mainGlobals "_law_take" = some (some (.ref (He.ga K "_law_take")))) ∧ (PySem.W.keepIn K (.ref (He.ga K "_law_take")) = true) ∧ True
abbrev PB20 (K : PySem.W.Frag) : Prop := (PySem.W.nsIn K mainGlobals "_law_equal" = some (some (.ref (He.ga K "_law_equal")))) ∧ (PySem.W.keepIn K (.ref (He.ga K "_law_equal")) = true) ∧ (PySem.W.nsIn K mainGlobals "_law_letter" = some (some (.ref (He.ga K "_law_letter")))) ∧ (PySem.W.keepIn K (.ref (He.ga K "_law_letter")) = true) ∧ (PySem.W.nsIn K mainGlobals "_law_paths" = some (some (.ref (He.ga K "_law_paths")))) ∧ (PySem.W.keepIn K (.ref (He.ga K "_law_paths")) = true) ∧ (PySem.W.nsIn K mainGlobals "_law_grafted" = some (some (.ref (He.ga K "_law_grafted")))) ∧ (PySem.W.keepIn K (.ref (He.ga K "_law_grafted")) = true) ∧ (PySem.W.nsIn K mainGlobals "_law_spot" = some (some (.ref (He.ga K "_law_spot")))) ∧ (PySem.W.keepIn K (.ref (He.ga K "_law_spot")) = true) ∧ (PySem.W.nsIn K mainGlobals "_law_sorted_tree" = some (some (.ref (He.ga K "_law_sorted_tree")))) ∧ (PySem.W.keepIn K (.ref (He.ga K "_law_sorted_tree")) = true) ∧ (PySem.W.nsIn K mainGlobals "_law_tree" = some (some (.ref (He.ga K "_law_tree")))) ∧ (PySem.W.keepIn K (.ref (He.ga K "_law_tree")) = true) ∧ (PySem.W.nsIn K mainGlobals "_law_do" = some (some (.ref (He.ga K "_law_do")))) ∧ (PySem.W.keepIn K (.ref (He.ga K "_law_do")) = true) ∧ (PySem.W.nsIn K mainGlobals "_law_tried" = some (some (.ref (He.ga K "_law_tried")))) ∧ (PySem.W.keepIn K (.ref (He.ga K "_law_tried")) = true) ∧ (PySem.W.nsIn K mainGlobals "_law_right" = some (some (.ref (He.ga K "_law_right")))) ∧ (PySem.W.keepIn K (.ref (He.ga K "_law_right")) = true) ∧ True
abbrev PB21 (K : PySem.W.Frag) : Prop := (PySem.W.nsIn K mainGlobals "law" = some (some (.ref (He.ga K "law")))) ∧ (PySem.W.keepIn K (.ref (He.ga K "law")) = true) ∧ (PySem.W.nsIn K mainGlobals "zip" = some none) ∧ (PySem.W.nsIn K mainGlobals "all" = some none) ∧ (PySem.W.nsIn K mainGlobals "repr" = some none) ∧ (PySem.W.nsIn K mainGlobals "len" = some none) ∧ (PySem.W.nsIn K mainGlobals "isinstance" = some none) ∧ (PySem.W.nsIn K mainGlobals "list" = some none) ∧ (PySem.W.nsIn K mainGlobals "tuple" = some none) ∧ (PySem.W.nsIn K mainGlobals "str" = some none) ∧ (PySem.W.nsIn K mainGlobals "int" = some none) ∧ (PySem.W.nsIn K mainGlobals "bool" = some none) ∧ (PySem.W.nsIn K mainGlobals "dict" = some none) ∧ (PySem.W.nsIn K mainGlobals "range" = some none) ∧ (PySem.W.nsIn K mainGlobals "sorted" = some none) ∧ (PySem.W.nsIn K mainGlobals "abs" = some none) ∧ (PySem.W.nsIn K mainGlobals "min" = some none) ∧ (PySem.W.nsIn K mainGlobals "max" = some none) ∧ (PySem.W.nsIn K mainGlobals "super" = some none) ∧ (PySem.W.nsIn K mainGlobals "LookupError" = some none) ∧ True
abbrev PB22 (K : PySem.W.Frag) : Prop := (PySem.W.nsIn K mainGlobals "ValueError" = some none) ∧ (PySem.W.nsIn K mainGlobals "MAX_NODES" = some (some (.int 12 (Hx.tokV (PySem.W.nsIn K mainGlobals "MAX_NODES"))))) ∧ True
def pg0 (K : PySem.W.Frag) : Bool := decide (PB0 K) && (decide (PB1 K) && (decide (PB2 K) && (decide (PB3 K) && (decide (PB4 K) && (decide (PB5 K) && (decide (PB6 K)))))))
def pg1 (K : PySem.W.Frag) : Bool := decide (PB7 K) && (decide (PB8 K) && (decide (PB9 K) && (decide (PB10 K) && (decide (PB11 K) && (decide (PB12 K) && (decide (PB13 K)))))))
def pg2 (K : PySem.W.Frag) : Bool := decide (PB14 K) && (decide (PB15 K) && (decide (PB16 K) && (decide (PB17 K) && (decide (PB18 K) && (decide (PB19 K) && (decide (PB20 K)))))))
def pg3 (K : PySem.W.Frag) : Bool := decide (PB21 K) && (decide (PB22 K))
def pb : PySem.W.Frag → Bool := fun K => pg0 K && (( fun K => pg1 K && (( fun K => pg2 K && (( fun K => pg3 K && ((fun _ => true) K)) K)) K)) K)
def fq0 : List Hx.DefQ := [
  ⟨fun K => (He.ma K (He.ga K "NoPath") "__init__"), "__init__", "NoPath.__init__", (iA_value ⟨47, 17, 47, 21⟩ ⟨47, 23, 47, 28⟩), (iB_value ⟨48, 8, 48, 12⟩ ⟨48, 8, 48, 18⟩ ⟨48, 21, 48, 26⟩ ⟨48, 8, 48, 26⟩), iS_value, []⟩,
  ⟨fun K => (He.ma K (He.ga K "NotOpen") "__init__"), "__init__", "NotOpen.__init__", (iA_path ⟨17, 17, 17, 21⟩ ⟨17, 23, 17, 27⟩), (iB_path ⟨18, 8, 18, 12⟩ ⟨18, 8, 18, 17⟩ ⟨18, 20, 18, 24⟩ ⟨18, 8, 18, 24⟩), iS_path, []⟩,
  ⟨fun K => (He.ma K (He.ga K "NoLabel") "__init__"), "__init__", "NoLabel.__init__", (iA_letter ⟨21, 17, 21, 21⟩ ⟨21, 23, 21, 29⟩), (iB_letter ⟨22, 8, 22, 12⟩ ⟨22, 8, 22, 19⟩ ⟨22, 22, 22, 28⟩ ⟨22, 8, 22, 28⟩), iS_letter, []⟩,
  ⟨fun K => (He.ma K (He.ga K "TooLarge") "__init__"), "__init__", "TooLarge.__init__", (iA_limit ⟨11, 17, 11, 21⟩ ⟨11, 23, 11, 28⟩), (iB_limit ⟨12, 8, 12, 12⟩ ⟨12, 8, 12, 18⟩ ⟨12, 21, 12, 26⟩ ⟨12, 8, 12, 26⟩), iS_limit, []⟩,
  ⟨fun K => (He.ma K (He.ga K "Desk") "__init__"), "__init__", "Desk.__init__", (defArgs s_Desk___init__), (defBody s_Desk___init__), (defScope s_Desk___init__), []⟩,
  ⟨fun K => (He.ma K (He.ga K "Desk") "check_free"), "check_free", "Desk.check_free", (defArgs s_Desk_check_free), (defBody s_Desk_check_free), (defScope s_Desk_check_free), []⟩,
  ⟨fun K => (He.ma K (He.ga K "Desk") "check_tree"), "check_tree", "Desk.check_tree", (defArgs s_Desk_check_tree), (defBody s_Desk_check_tree), (defScope s_Desk_check_tree), []⟩,
  ⟨fun K => (He.ma K (He.ga K "Desk") "told"), "told", "Desk.told", (defArgs s_Desk_told), (defBody s_Desk_told), (defScope s_Desk_told), []⟩,
  ⟨fun K => (He.ma K (He.ga K "Desk") "take"), "take", "Desk.take", (defArgs s_Desk_take), (defBody s_Desk_take), (defScope s_Desk_take), []⟩,
  ⟨fun K => (He.ma K (He.ga K "Desk") "called"), "called", "Desk.called", (defArgs s_Desk_called), (defBody s_Desk_called), (defScope s_Desk_called), []⟩,
  ⟨fun K => (He.ma K (He.ga K "Desk") "put"), "put", "Desk.put", (defArgs s_Desk_put), (defBody s_Desk_put), (defScope s_Desk_put), []⟩,
  ⟨fun K => (He.ma K (He.ga K "Desk") "cut"), "cut", "Desk.cut", (defArgs s_Desk_cut), (defBody s_Desk_cut), (defScope s_Desk_cut), []⟩,
  ⟨fun K => (He.ma K (He.ga K "Desk") "label"), "label", "Desk.label", (defArgs s_Desk_label), (defBody s_Desk_label), (defScope s_Desk_label), []⟩,
  ⟨fun K => (He.ma K (He.ga K "Desk") "turn"), "turn", "Desk.turn", (defArgs s_Desk_turn), (defBody s_Desk_turn), (defScope s_Desk_turn), []⟩,
  ⟨fun K => (He.ma K (He.ga K "Desk") "undo"), "undo", "Desk.undo", (defArgs s_Desk_undo), (defBody s_Desk_undo), (defScope s_Desk_undo), []⟩,
  ⟨fun K => (He.ma K (He.ga K "Desk") "__len__"), "__len__", "Desk.__len__", (defArgs s_Desk___len__), (defBody s_Desk___len__), (defScope s_Desk___len__), []⟩,
  ⟨fun K => (He.ma K (He.ga K "Desk") "__eq__"), "__eq__", "Desk.__eq__", (defArgs s_Desk___eq__), (defBody s_Desk___eq__), (defScope s_Desk___eq__), []⟩,
  ⟨fun K => (He.ma K (He.ga K "Desk") "tree"), "tree", "Desk.tree", (defArgs s_Desk_tree), (defBody s_Desk_tree), (defScope s_Desk_tree), []⟩,
  ⟨fun K => (Hx.hdV (PySem.W.recIn K (He.ma K (He.ga K "Desk") "first") "property")), "first", "Desk.first", (defArgs s_Desk_first), (defBody s_Desk_first), (defScope s_Desk_first), []⟩,
  ⟨fun K => (Hx.hdV (PySem.W.recIn K (He.ma K (He.ga K "Desk") "between") "property")), "between", "Desk.between", (defArgs s_Desk_between), (defBody s_Desk_between), (defScope s_Desk_between), []⟩,
  ⟨fun K => (Hx.hdV (PySem.W.recIn K (He.ma K (He.ga K "Desk") "last") "property")), "last", "Desk.last", (defArgs s_Desk_last), (defBody s_Desk_last), (defScope s_Desk_last), []⟩,
  ⟨fun K => (He.ga K "_law_some_edit"), "_law_some_edit", "_law_some_edit", (defArgs s__law_some_edit), (defBody s__law_some_edit), (defScope s__law_some_edit), []⟩,
  ⟨fun K => (Hx.hdV (PySem.W.recIn K (He.ma K (He.ga K "LoggedDesk") "log") "property")), "log", "LoggedDesk.log", (defArgs s_LoggedDesk_log), (defBody s_LoggedDesk_log), (defScope s_LoggedDesk_log), []⟩,
  ⟨fun K => (Hx.hdV (PySem.W.recIn K (Hx.cmA K (He.ga K "Desk") "read") "classmethod")), "read", "Desk.read", (defArgs s_Desk_read), (defBody s_Desk_read), (defScope s_Desk_read), []⟩,
  ⟨fun K => (He.ga K "is_letter"), "is_letter", "is_letter", (defArgs s_is_letter), (defBody s_is_letter), (defScope s_is_letter), []⟩,
  ⟨fun K => (He.ga K "is_node"), "is_node", "is_node", (defArgs s_is_node), (defBody s_is_node), (defScope s_is_node), []⟩,
  ⟨fun K => (He.ga K "is_tree"), "is_tree", "is_tree", (defArgs s_is_tree), (defBody s_is_tree), (defScope s_is_tree), []⟩,
  ⟨fun K => (He.ga K "size_of"), "size_of", "size_of", (defArgs s_size_of), (defBody s_size_of), (defScope s_size_of), []⟩,
  ⟨fun K => (He.ga K "part_at"), "part_at", "part_at", (defArgs s_part_at), (defBody s_part_at), (defScope s_part_at), []⟩,
  ⟨fun K => (He.ga K "is_open"), "is_open", "is_open", (defArgs s_is_open), (defBody s_is_open), (defScope s_is_open), []⟩]
def fq1 : List Hx.DefQ := [
  ⟨fun K => (He.ga K "replaced"), "replaced", "replaced", (defArgs s_replaced), (defBody s_replaced), (defScope s_replaced), []⟩,
  ⟨fun K => (He.ga K "with_part"), "with_part", "with_part", (defArgs s_with_part), (defBody s_with_part), (defScope s_with_part), []⟩,
  ⟨fun K => (He.ga K "mirrored"), "mirrored", "mirrored", (defArgs s_mirrored), (defBody s_mirrored), (defScope s_mirrored), []⟩,
  ⟨fun K => (He.ga K "node_at"), "node_at", "node_at", (defArgs s_node_at), (defBody s_node_at), (defScope s_node_at), []⟩,
  ⟨fun K => (He.ga K "with_node"), "with_node", "with_node", (defArgs s_with_node), (defBody s_with_node), (defScope s_with_node), []⟩,
  ⟨fun K => (He.ga K "without_node"), "without_node", "without_node", (defArgs s_without_node), (defBody s_without_node), (defScope s_without_node), []⟩,
  ⟨fun K => (He.ga K "with_label"), "with_label", "with_label", (defArgs s_with_label), (defBody s_with_label), (defScope s_with_label), []⟩,
  ⟨fun K => (He.ga K "turned"), "turned", "turned", (defArgs s_turned), (defBody s_turned), (defScope s_turned), []⟩,
  ⟨fun K => (He.ga K "edited"), "edited", "edited", (defArgs s_edited), (defBody s_edited), (defScope s_edited), []⟩,
  ⟨fun K => (He.ga K "is_kind"), "is_kind", "is_kind", (defArgs s_is_kind), (defBody s_is_kind), (defScope s_is_kind), []⟩,
  ⟨fun K => (He.ga K "ordered_steps"), "ordered_steps", "ordered_steps", (defArgs s_ordered_steps), (defBody s_ordered_steps), (defScope s_ordered_steps), []⟩,
  ⟨fun K => (He.ga K "deep_steps"), "deep_steps", "deep_steps", (defArgs s_deep_steps), (defBody s_deep_steps), (defScope s_deep_steps), []⟩,
  ⟨fun K => (He.ga K "walk"), "walk", "walk", (defArgs s_walk), (defBody s_walk), (defScope s_walk), []⟩,
  ⟨fun K => (He.ga K "tree_text"), "tree_text", "tree_text", (defArgs s_tree_text), (defBody s_tree_text), (defScope s_tree_text), []⟩,
  ⟨fun K => (He.ga K "side_text"), "side_text", "side_text", (defArgs s_side_text), (defBody s_side_text), (defScope s_side_text), []⟩,
  ⟨fun K => (He.ga K "parse_tree"), "parse_tree", "parse_tree", (defArgs s_parse_tree), (defBody s_parse_tree), (defScope s_parse_tree), []⟩,
  ⟨fun K => (He.ga K "sign_at"), "sign_at", "sign_at", (defArgs s_sign_at), (defBody s_sign_at), (defScope s_sign_at), []⟩,
  ⟨fun K => (He.ga K "read_tree"), "read_tree", "read_tree", (defArgs s_read_tree), (defBody s_read_tree), (defScope s_read_tree), []⟩,
  ⟨fun K => (He.ga K "read_left"), "read_left", "read_left", (defArgs s_read_left), (defBody s_read_left), (defScope s_read_left), []⟩,
  ⟨fun K => (He.ga K "read_side"), "read_side", "read_side", (defArgs s_read_side), (defBody s_read_side), (defScope s_read_side), []⟩,
  ⟨fun K => (He.ga K "_law_stream"), "_law_stream", "_law_stream", (defArgs s__law_stream), (defBody s__law_stream), (defScope s__law_stream), []⟩,
  ⟨fun K => (He.ga K "_law_take"), "_law_take", "_law_take", (defArgs s__law_take), (defBody s__law_take), (defScope s__law_take), []⟩,
  ⟨fun K => (He.ga K "_law_equal"), "_law_equal", "_law_equal", (defArgs s__law_equal), (defBody s__law_equal), (defScope s__law_equal), []⟩,
  ⟨fun K => (He.ga K "_law_letter"), "_law_letter", "_law_letter", (defArgs s__law_letter), (defBody s__law_letter), (defScope s__law_letter), []⟩,
  ⟨fun K => (He.ga K "_law_paths"), "_law_paths", "_law_paths", (defArgs s__law_paths), (defBody s__law_paths), (defScope s__law_paths), []⟩,
  ⟨fun K => (He.ga K "_law_grafted"), "_law_grafted", "_law_grafted", (defArgs s__law_grafted), (defBody s__law_grafted), (defScope s__law_grafted), []⟩,
  ⟨fun K => (He.ga K "_law_spot"), "_law_spot", "_law_spot", (defArgs s__law_spot), (defBody s__law_spot), (defScope s__law_spot), []⟩,
  ⟨fun K => (He.ga K "_law_sorted_tree"), "_law_sorted_tree", "_law_sorted_tree", (defArgs s__law_sorted_tree), (defBody s__law_sorted_tree), (defScope s__law_sorted_tree), []⟩,
  ⟨fun K => (He.ga K "_law_tree"), "_law_tree", "_law_tree", (defArgs s__law_tree), (defBody s__law_tree), (defScope s__law_tree), []⟩,
  ⟨fun K => (He.ga K "_law_do"), "_law_do", "_law_do", (defArgs s__law_do), (defBody s__law_do), (defScope s__law_do), []⟩]
def fq2 : List Hx.DefQ := [
  ⟨fun K => (He.ga K "_law_tried"), "_law_tried", "_law_tried", (defArgs s__law_tried), (defBody s__law_tried), (defScope s__law_tried), []⟩,
  ⟨fun K => (He.ga K "_law_right"), "_law_right", "_law_right", (defArgs s__law_right), (defBody s__law_right), (defScope s__law_right), []⟩,
  ⟨fun K => (He.ga K "law"), "law", "law", (defArgs s_law), (defBody s_law), (defScope s_law), []⟩,
  ⟨fun K => (He.ma K (He.ga K "LoggedDesk") "__init__"), "__init__", "LoggedDesk.__init__", (defArgs s_LoggedDesk___init__), (defBody s_LoggedDesk___init__), (defScope s_LoggedDesk___init__), ["__class__"]⟩]
def fqs : List Hx.DefQ := fq0 ++ fq1 ++ fq2
def hx0 : List Str := ["_law_some_edit", "is_letter", "is_node", "is_tree", "size_of", "part_at", "is_open", "replaced", "with_part", "mirrored", "node_at", "with_node", "without_node", "with_label", "turned", "edited", "is_kind", "ordered_steps", "deep_steps", "walk", "tree_text", "side_text", "parse_tree", "sign_at", "read_tree", "read_left", "read_side", "_law_stream", "_law_take", "_law_equal"]
def hx1 : List Str := ["_law_letter", "_law_paths", "_law_grafted", "_law_spot", "_law_sorted_tree", "_law_tree", "_law_do", "_law_tried", "_law_right", "law", "KINDS", "ACTIONS"]
def hxs : List Str := hx0 ++ hx1
def hcs : List Str := ["WalkError", "TooLarge", "NotOpen", "NoLabel", "LastNode", "NoPath", "Desk", "LoggedDesk"]
def hq : Hx.Q := ⟨hxs, hcs, pb, fqs, [(fun K => (He.ga K "ACTIONS"), ["put", "cut", "label", "turn"])]⟩
def nm0 : List Str := ["_wall", "MAX_NODES", "BATCH", "WalkError", "TooLarge", "BadTree", "NotOpen", "NoLabel", "LastNode", "TooManyEdits", "NothingToUndo", "BadEdits", "BadEdit", "Rejected", "Busy", "BadText", "NoPath", "NoKind", "NoVersion", "is_letter", "is_whole_number", "is_index", "is_node", "is_tree", "size_of", "part_at", "is_open", "replaced", "with_part", "mirrored"]
def nm1 : List Str := ["node_at", "with_node", "without_node", "with_label", "turned", "ACTIONS", "LENGTHS", "has_form_of_edit", "edited", "KINDS", "is_kind", "ordered_steps", "deep_steps", "level_steps", "walk", "tree_text", "side_text", "parse_tree", "sign_at", "read_tree", "read_left", "read_side", "Desk", "LoggedDesk", "_law_stream", "_law_take", "_law_equal", "_law_letter", "_law_paths", "_law_grafted"]
def nm2 : List Str := ["_law_spot", "_law_sorted_tree", "_law_tree", "_law_do", "_law_tried", "_law_some_edit", "_law_right"]
def nms : List Str := nm0 ++ nm1 ++ nm2
abbrev RR : PySem.W.OpenRow := PySem.W.OpenLaw.row PySem.Challenge.rw_treewalks_k96_whole_desks_by_texts
def obq (s : PySem.W.SharedT) : Hx.AlQ := hq.obs (HandSHeadRun.getT s)
theorem obq_eq (s : PySem.W.SharedT) : obq s = hq.hook.obs s.abs := hq.obs_eq (HandSHeadRun.getT_eq s)
set_option maxHeartbeats 0 in
theorem run_0a (w : World) : HandSHeadRun.RunEq RR (PySem.W.view RR.prog [75]) (Hx.Q.mk hxs hcs pg0 [] []).hook (fun s => (Hx.Q.mk hxs hcs pg0 [] []).obs (HandSHeadRun.getT s)) 30000 nms (w.withFollow "special-get-raises" false) := by intro os; kernel_rfl
set_option maxHeartbeats 0 in
theorem run_0b (w : World) : HandSHeadRun.RunEq RR (PySem.W.view RR.prog [75]) (Hx.Q.mk hxs hcs pg0 [] []).hook (fun s => (Hx.Q.mk hxs hcs pg0 [] []).obs (HandSHeadRun.getT s)) 30000 nms (w.withFollow "special-get-raises" true) := by intro os; kernel_rfl
theorem run_0 (w : World) : HandSHeadRun.RunEq RR (PySem.W.view RR.prog [75]) (Hx.Q.mk hxs hcs pg0 [] []).hook (fun s => (Hx.Q.mk hxs hcs pg0 [] []).obs (HandSHeadRun.getT s)) 30000 nms w :=
  PySem.W.byRow2 "special-get-raises" (P := fun w => HandSHeadRun.RunEq RR (PySem.W.view RR.prog [75]) (Hx.Q.mk hxs hcs pg0 [] []).hook (fun s => (Hx.Q.mk hxs hcs pg0 [] []).obs (HandSHeadRun.getT s)) 30000 nms w) run_0a run_0b w
set_option maxHeartbeats 0 in
theorem run_1a (w : World) : HandSHeadRun.RunEq RR (PySem.W.view RR.prog [75]) (Hx.Q.mk hxs hcs pg1 [] []).hook (fun s => (Hx.Q.mk hxs hcs pg1 [] []).obs (HandSHeadRun.getT s)) 30000 nms (w.withFollow "special-get-raises" false) := by intro os; kernel_rfl
set_option maxHeartbeats 0 in
theorem run_1b (w : World) : HandSHeadRun.RunEq RR (PySem.W.view RR.prog [75]) (Hx.Q.mk hxs hcs pg1 [] []).hook (fun s => (Hx.Q.mk hxs hcs pg1 [] []).obs (HandSHeadRun.getT s)) 30000 nms (w.withFollow "special-get-raises" true) := by intro os; kernel_rfl
theorem run_1 (w : World) : HandSHeadRun.RunEq RR (PySem.W.view RR.prog [75]) (Hx.Q.mk hxs hcs pg1 [] []).hook (fun s => (Hx.Q.mk hxs hcs pg1 [] []).obs (HandSHeadRun.getT s)) 30000 nms w :=
  PySem.W.byRow2 "special-get-raises" (P := fun w => HandSHeadRun.RunEq RR (PySem.W.view RR.prog [75]) (Hx.Q.mk hxs hcs pg1 [] []).hook (fun s => (Hx.Q.mk hxs hcs pg1 [] []).obs (HandSHeadRun.getT s)) 30000 nms w) run_1a run_1b w
set_option maxHeartbeats 0 in
theorem run_2a (w : World) : HandSHeadRun.RunEq RR (PySem.W.view RR.prog [75]) (Hx.Q.mk hxs hcs pg2 [] []).hook (fun s => (Hx.Q.mk hxs hcs pg2 [] []).obs (HandSHeadRun.getT s)) 30000 nms (w.withFollow "special-get-raises" false) := by intro os; kernel_rfl
set_option maxHeartbeats 0 in
theorem run_2b (w : World) : HandSHeadRun.RunEq RR (PySem.W.view RR.prog [75]) (Hx.Q.mk hxs hcs pg2 [] []).hook (fun s => (Hx.Q.mk hxs hcs pg2 [] []).obs (HandSHeadRun.getT s)) 30000 nms (w.withFollow "special-get-raises" true) := by intro os; kernel_rfl
theorem run_2 (w : World) : HandSHeadRun.RunEq RR (PySem.W.view RR.prog [75]) (Hx.Q.mk hxs hcs pg2 [] []).hook (fun s => (Hx.Q.mk hxs hcs pg2 [] []).obs (HandSHeadRun.getT s)) 30000 nms w :=
  PySem.W.byRow2 "special-get-raises" (P := fun w => HandSHeadRun.RunEq RR (PySem.W.view RR.prog [75]) (Hx.Q.mk hxs hcs pg2 [] []).hook (fun s => (Hx.Q.mk hxs hcs pg2 [] []).obs (HandSHeadRun.getT s)) 30000 nms w) run_2a run_2b w
set_option maxHeartbeats 0 in
theorem run_3a (w : World) : HandSHeadRun.RunEq RR (PySem.W.view RR.prog [75]) (Hx.Q.mk hxs hcs pg3 [] []).hook (fun s => (Hx.Q.mk hxs hcs pg3 [] []).obs (HandSHeadRun.getT s)) 30000 nms (w.withFollow "special-get-raises" false) := by intro os; kernel_rfl
set_option maxHeartbeats 0 in
theorem run_3b (w : World) : HandSHeadRun.RunEq RR (PySem.W.view RR.prog [75]) (Hx.Q.mk hxs hcs pg3 [] []).hook (fun s => (Hx.Q.mk hxs hcs pg3 [] []).obs (HandSHeadRun.getT s)) 30000 nms (w.withFollow "special-get-raises" true) := by intro os; kernel_rfl
theorem run_3 (w : World) : HandSHeadRun.RunEq RR (PySem.W.view RR.prog [75]) (Hx.Q.mk hxs hcs pg3 [] []).hook (fun s => (Hx.Q.mk hxs hcs pg3 [] []).obs (HandSHeadRun.getT s)) 30000 nms w :=
  PySem.W.byRow2 "special-get-raises" (P := fun w => HandSHeadRun.RunEq RR (PySem.W.view RR.prog [75]) (Hx.Q.mk hxs hcs pg3 [] []).hook (fun s => (Hx.Q.mk hxs hcs pg3 [] []).obs (HandSHeadRun.getT s)) 30000 nms w) run_3a run_3b w
set_option maxHeartbeats 0 in
theorem run_fa (w : World) : HandSHeadRun.RunEq RR (PySem.W.view RR.prog [75]) (Hx.Q.mk hxs hcs (fun _ => true) fqs [(fun K => (He.ga K "ACTIONS"), ["put", "cut", "label", "turn"])]).hook (fun s => (Hx.Q.mk hxs hcs (fun _ => true) fqs [(fun K => (He.ga K "ACTIONS"), ["put", "cut", "label", "turn"])]).obs (HandSHeadRun.getT s)) 30000 nms (w.withFollow "special-get-raises" false) := by intro os; kernel_rfl
set_option maxHeartbeats 0 in
theorem run_fb (w : World) : HandSHeadRun.RunEq RR (PySem.W.view RR.prog [75]) (Hx.Q.mk hxs hcs (fun _ => true) fqs [(fun K => (He.ga K "ACTIONS"), ["put", "cut", "label", "turn"])]).hook (fun s => (Hx.Q.mk hxs hcs (fun _ => true) fqs [(fun K => (He.ga K "ACTIONS"), ["put", "cut", "label", "turn"])]).obs (HandSHeadRun.getT s)) 30000 nms (w.withFollow "special-get-raises" true) := by intro os; kernel_rfl
theorem run_f (w : World) : HandSHeadRun.RunEq RR (PySem.W.view RR.prog [75]) (Hx.Q.mk hxs hcs (fun _ => true) fqs [(fun K => (He.ga K "ACTIONS"), ["put", "cut", "label", "turn"])]).hook (fun s => (Hx.Q.mk hxs hcs (fun _ => true) fqs [(fun K => (He.ga K "ACTIONS"), ["put", "cut", "label", "turn"])]).obs (HandSHeadRun.getT s)) 30000 nms w :=
  PySem.W.byRow2 "special-get-raises" (P := fun w => HandSHeadRun.RunEq RR (PySem.W.view RR.prog [75]) (Hx.Q.mk hxs hcs (fun _ => true) fqs [(fun K => (He.ga K "ACTIONS"), ["put", "cut", "label", "turn"])]).hook (fun s => (Hx.Q.mk hxs hcs (fun _ => true) fqs [(fun K => (He.ga K "ACTIONS"), ["put", "cut", "label", "turn"])]).obs (HandSHeadRun.getT s)) 30000 nms w) run_fa run_fb w
theorem run_top (w : World) : HandSHeadRun.RunEq RR (PySem.W.view RR.prog [75]) hq.hook obq 30000 nms w := (Hx.Q.comb (run_0 w) (Hx.Q.comb (run_1 w) (Hx.Q.comb (run_2 w) (Hx.Q.comb (run_3 w) (run_f w)))))
theorem of_top {w : World} {K : PySem.W.Frag} {h : Heap} {mg : Str → Option Value} {fa : Addr} (X : K.In h) (G : h.Ns mainGlobals mg) (hfa : mg "law" = some (.ref fa)) (c : hq.says w K) :
    ∀ (base : Heap) (H : Hp) (s : Shared) (a : Addr) (ns : List Int), K.In base → base.Ns mainGlobals mg → Env0 (PySem.Challenge.rw_treewalks_k96_whole_desks_by_texts).prog w K mg base callerA [] s H → SqL K H a (ns.map V.int) → ns.length ≤ 63 →
      codeAny (model (PySem.Challenge.rw_treewalks_k96_whole_desks_by_texts).prog w) callerA (.call (.ref fa) ⟨[.ref a], []⟩) (CR CX0 [] (PySem.Challenge.rw_treewalks_k96_whole_desks_by_texts).prog w H s (fun v _ => v = .bl true) fun _ _ _ => False) s := by
  have z := c.1
  obtain ⟨zg0, z⟩ := He.ba z
  obtain ⟨z0, zg0⟩ := He.ba zg0
  have y0 : PB0 K := of_decide_eq_true z0
  obtain ⟨cb0, df0, kf0, cb1, df1, kf1, cb2, df2, kf2, cb3, df3, kf3, cb4, df4, cb5, df5, cb6, df6, cb7, df7, _⟩ := y0
  obtain ⟨z1, zg0⟩ := He.ba zg0
  have y1 : PB1 K := of_decide_eq_true z1
  obtain ⟨cb8, df8, cb9, df9, cb10, df10, cb11, df11, cb12, df12, cb13, df13, cb14, df14, cb15, df15, cb16, df16, cb17, df17, _⟩ := y1
  obtain ⟨z2, zg0⟩ := He.ba zg0
  have y2 : PB2 K := of_decide_eq_true z2
  obtain ⟨kf17, cb18, df18, cb19, df19, cb20, df20, cb21, df21, cb22, df22, cb23, df23, cb24, df24, cb25, df25, cb26, df26, cb27, _⟩ := y2
  obtain ⟨z3, zg0⟩ := He.ba zg0
  have y3 : PB3 K := of_decide_eq_true z3
  obtain ⟨df27, cb28, df28, cb29, df29, cb30, df30, cb31, df31, cb32, df32, cb33, df33, cb34, df34, cb35, df35, cb36, df36, cb37, _⟩ := y3
  obtain ⟨z4, zg0⟩ := He.ba zg0
  have y4 : PB4 K := of_decide_eq_true z4
  obtain ⟨df37, cb38, df38, cb39, df39, cb40, df40, cb41, df41, cb42, df42, cb43, df43, cb44, df44, cb45, df45, cb46, df46, cb47, _⟩ := y4
  obtain ⟨z5, zg0⟩ := He.ba zg0
  have y5 : PB5 K := of_decide_eq_true z5
  obtain ⟨df47, cb48, df48, cb49, df49, cb50, df50, cb51, df51, cb52, df52, cb53, df53, cb54, df54, cb55, df55, cb56, df56, cb57, _⟩ := y5
  have z6 := zg0
  have y6 : PB6 K := of_decide_eq_true z6
  obtain ⟨df57, cb58, df58, cb59, df59, cb60, df60, cb61, df61, cb62, df62, cb63, df63, sb63, xb_x_NoPath, xb_x_NotOpen, xb_x_NoLabel, xb_x_TooLarge, xb_x_LastNode, tb_aKl, _⟩ := y6
  obtain ⟨zg1, z⟩ := He.ba z
  obtain ⟨z7, zg1⟩ := He.ba zg1
  have y7 : PB7 K := of_decide_eq_true z7
  obtain ⟨tb_tl_law_some_edit, p_a_NoPath, p_a_NotOpen, p_a_NoLabel, p_a_TooLarge, p_a_LastNode, p_a_WalkError, p_sa_NoPath, p_ga_NoPath, p_gg_NoPath, p_nb_NoPath, p_ii_NoPath, p_ti_NoPath, p_kC_NoPath, p_eC_NoPath, p_tC_NoPath, p_hC_NoPath, p_h1_NoPath, p_h2_NoPath, p_h3_NoPath, _⟩ := y7
  obtain ⟨z8, zg1⟩ := He.ba zg1
  have y8 : PB8 K := of_decide_eq_true z8
  obtain ⟨p_h4_NoPath, p_sa_NotOpen, p_ga_NotOpen, p_gg_NotOpen, p_nb_NotOpen, p_ii_NotOpen, p_ti_NotOpen, p_kC_NotOpen, p_eC_NotOpen, p_tC_NotOpen, p_hC_NotOpen, p_h1_NotOpen, p_h2_NotOpen, p_h3_NotOpen, p_h4_NotOpen, p_sa_NoLabel, p_ga_NoLabel, p_gg_NoLabel, p_nb_NoLabel, p_ii_NoLabel, _⟩ := y8
  obtain ⟨z9, zg1⟩ := He.ba zg1
  have y9 : PB9 K := of_decide_eq_true z9
  obtain ⟨p_ti_NoLabel, p_kC_NoLabel, p_eC_NoLabel, p_tC_NoLabel, p_hC_NoLabel, p_h1_NoLabel, p_h2_NoLabel, p_h3_NoLabel, p_h4_NoLabel, p_sa_TooLarge, p_ga_TooLarge, p_gg_TooLarge, p_nb_TooLarge, p_ii_TooLarge, p_ti_TooLarge, p_kC_TooLarge, p_eC_TooLarge, p_tC_TooLarge, p_hC_TooLarge, p_h1_TooLarge, _⟩ := y9
  obtain ⟨z10, zg1⟩ := He.ba zg1
  have y10 : PB10 K := of_decide_eq_true z10
  obtain ⟨p_h2_TooLarge, p_h3_TooLarge, p_h4_TooLarge, p_sa_LastNode, p_ga_LastNode, p_gg_LastNode, p_kC_LastNode, p_eC_LastNode, p_tC_LastNode, p_hC_LastNode, p_h1_LastNode, p_h2_LastNode, p_h3_LastNode, p_h4_LastNode, p_aDK, p_pg, p_hd, p_po, p_sa, p_mk, _⟩ := y10
  obtain ⟨z11, zg1⟩ := He.ba zg1
  have y11 : PB11 K := of_decide_eq_true z11
  obtain ⟨p_kc, p_nT, p_nD, p_nB, p_moA, p_moG, p_q_LastNode, p_e1_NoPath, p_eNP, p_eNO, p_eNL, p_eTL, p_eLN, p_iha, p_ihn, p_ihtk, p_ihm, p_ime, p_aAn, p_aA_put, _⟩ := y11
  obtain ⟨z12, zg1⟩ := He.ba zg1
  have y12 : PB12 K := of_decide_eq_true z12
  obtain ⟨p_aA_cut, p_aA_label, p_aA_turn, p_aKn, p_at_init, p_fn_init, p_kp_init, p_at_check_free, p_fn_check_free, p_kp_check_free, p_at_check_tree, p_fn_check_tree, p_kp_check_tree, p_at_told, p_fn_told, p_kp_told, p_at_take, p_fn_take, p_kp_take, p_at_called, _⟩ := y12
  have z13 := zg1
  have y13 : PB13 K := of_decide_eq_true z13
  obtain ⟨p_fn_called, p_kp_called, p_at_put, p_fn_put, p_kp_put, p_at_cut, p_fn_cut, p_kp_cut, p_at_label, p_fn_label, p_kp_label, p_at_turn, p_fn_turn, p_kp_turn, p_at_undo, p_fn_undo, p_kp_undo, p_at_len, p_fn_len, p_kp_len, _⟩ := y13
  obtain ⟨zg2, z⟩ := He.ba z
  obtain ⟨z14, zg2⟩ := He.ba zg2
  have y14 : PB14 K := of_decide_eq_true z14
  obtain ⟨p_at_eq, p_fn_eq, p_kp_eq, p_at_tree, p_fn_tree, p_kp_tree, p_ns_tree_version, p_at_first, p_gt_first, p_tk_first, p_rc_first, p_kp_first, p_at_between, p_gt_between, p_tk_between, p_rc_between, p_kp_between, p_at_last, p_gt_last, p_tk_last, _⟩ := y14
  obtain ⟨z15, zg2⟩ := He.ba zg2
  have y15 : PB15 K := of_decide_eq_true z15
  obtain ⟨p_rc_last, p_kp_last, p_a_law_some_edit, p_kp_law_some_edit, p_aLD, p_pgL, p_hdL, p_poL, p_saL, p_mkL, p_kcL, p_nTL, p_nDL, p_nBL, p_nCL, p_eqL, p_nfL, p_atL_first, p_atL_between, p_atL_last, _⟩ := y15
  obtain ⟨z16, zg2⟩ := He.ba zg2
  have y16 : PB16 K := of_decide_eq_true z16
  obtain ⟨p_at_log, p_gt_log, p_tk_log, p_rc_log, p_kp_log, p_at_initL, p_fn_initL, p_tpS, p_suC, p_suM, p_suN, p_suI, p_suT, p_suF, p_rc_read, p_rc_readL, p_cm_D, p_cm_L, p_rdD, p_gaD, _⟩ := y16
  obtain ⟨z17, zg2⟩ := He.ba zg2
  have y17 : PB17 K := of_decide_eq_true z17
  obtain ⟨p_rdL, p_gaL, p_fi_read, p_kp_read, p_a1, p_k1, p_a2, p_k2, p_a3, p_k3, p_a4, p_k4, p_a5, p_k5, p_a6, p_k6, p_a7, p_k7, p_a8, p_k8, _⟩ := y17
  obtain ⟨z18, zg2⟩ := He.ba zg2
  have y18 : PB18 K := of_decide_eq_true z18
  obtain ⟨p_a9, p_k9, p_a10, p_k10, p_a11, p_k11, p_a12, p_k12, p_a13, p_k13, p_a14, p_k14, p_a15, p_k15, p_a16, p_k16, p_a17, p_k17, p_a18, p_k18, _⟩ := y18
  obtain ⟨z19, zg2⟩ := He.ba zg2
  have y19 : PB19 K := of_decide_eq_true z19
  obtain ⟨p_a19, p_k19, p_a20, p_k20, p_a21, p_k21, p_a22, p_k22, p_a23, p_k23, p_a24, p_k24, p_a25, p_k25, p_a26, p_k26, p_a27, p_k27, p_a28, p_k28, _⟩ := y19
  have z20 := zg2
  have y20 : PB20 K := of_decide_eq_true z20
  obtain ⟨p_a29, p_k29, p_a30, p_k30, p_a31, p_k31, p_a32, p_k32, p_a33, p_k33, p_a34, p_k34, p_a35, p_k35, p_a36, p_k36, p_a37, p_k37, p_a38, p_k38, _⟩ := y20
  obtain ⟨zg3, z⟩ := He.ba z
  obtain ⟨z21, zg3⟩ := He.ba zg3
  have y21 : PB21 K := of_decide_eq_true z21
  obtain ⟨p_a39, p_k39, p_z1, p_z2, p_z3, p_z4, p_z5, p_z6, p_z7, p_z8, p_z9, p_z10, p_z11, p_z12, p_z13, p_z14, p_z15, p_z16, p_z17, p_z18, _⟩ := y21
  have z22 := zg3
  have y22 : PB22 K := of_decide_eq_true z22
  obtain ⟨p_z19, p_v1, _⟩ := y22
  obtain ⟨_, _, _, _, _, _, _, _, lk0, ck0⟩ := Hx.fnq_ok rfl (Hx.fn_at c.2.1 0 (d := ⟨fun K => (He.ma K (He.ga K "NoPath") "__init__"), "__init__", "NoPath.__init__", (iA_value ⟨47, 17, 47, 21⟩ ⟨47, 23, 47, 28⟩), (iB_value ⟨48, 8, 48, 12⟩ ⟨48, 8, 48, 18⟩ ⟨48, 21, 48, 26⟩ ⟨48, 8, 48, 26⟩), iS_value, []⟩) rfl) cb0
  rw [df0, kf0] at lk0
  obtain ⟨_, _, _, _, _, _, _, _, lk1, ck1⟩ := Hx.fnq_ok rfl (Hx.fn_at c.2.1 1 (d := ⟨fun K => (He.ma K (He.ga K "NotOpen") "__init__"), "__init__", "NotOpen.__init__", (iA_path ⟨17, 17, 17, 21⟩ ⟨17, 23, 17, 27⟩), (iB_path ⟨18, 8, 18, 12⟩ ⟨18, 8, 18, 17⟩ ⟨18, 20, 18, 24⟩ ⟨18, 8, 18, 24⟩), iS_path, []⟩) rfl) cb1
  rw [df1, kf1] at lk1
  obtain ⟨_, _, _, _, _, _, _, _, lk2, ck2⟩ := Hx.fnq_ok rfl (Hx.fn_at c.2.1 2 (d := ⟨fun K => (He.ma K (He.ga K "NoLabel") "__init__"), "__init__", "NoLabel.__init__", (iA_letter ⟨21, 17, 21, 21⟩ ⟨21, 23, 21, 29⟩), (iB_letter ⟨22, 8, 22, 12⟩ ⟨22, 8, 22, 19⟩ ⟨22, 22, 22, 28⟩ ⟨22, 8, 22, 28⟩), iS_letter, []⟩) rfl) cb2
  rw [df2, kf2] at lk2
  obtain ⟨_, _, _, _, _, _, _, _, lk3, ck3⟩ := Hx.fnq_ok rfl (Hx.fn_at c.2.1 3 (d := ⟨fun K => (He.ma K (He.ga K "TooLarge") "__init__"), "__init__", "TooLarge.__init__", (iA_limit ⟨11, 17, 11, 21⟩ ⟨11, 23, 11, 28⟩), (iB_limit ⟨12, 8, 12, 12⟩ ⟨12, 8, 12, 18⟩ ⟨12, 21, 12, 26⟩ ⟨12, 8, 12, 26⟩), iS_limit, []⟩) rfl) cb3
  rw [df3, kf3] at lk3
  obtain ⟨_, _, _, _, _, _, _, _, lk4, ck4⟩ := Hx.fnq_ok rfl (Hx.fn_at c.2.1 4 (d := ⟨fun K => (He.ma K (He.ga K "Desk") "__init__"), "__init__", "Desk.__init__", (defArgs s_Desk___init__), (defBody s_Desk___init__), (defScope s_Desk___init__), []⟩) rfl) cb4
  rw [df4] at lk4
  obtain ⟨_, _, _, _, _, _, _, _, lk5, ck5⟩ := Hx.fnq_ok rfl (Hx.fn_at c.2.1 5 (d := ⟨fun K => (He.ma K (He.ga K "Desk") "check_free"), "check_free", "Desk.check_free", (defArgs s_Desk_check_free), (defBody s_Desk_check_free), (defScope s_Desk_check_free), []⟩) rfl) cb5
  rw [df5] at lk5
  obtain ⟨_, _, _, _, _, _, _, _, lk6, ck6⟩ := Hx.fnq_ok rfl (Hx.fn_at c.2.1 6 (d := ⟨fun K => (He.ma K (He.ga K "Desk") "check_tree"), "check_tree", "Desk.check_tree", (defArgs s_Desk_check_tree), (defBody s_Desk_check_tree), (defScope s_Desk_check_tree), []⟩) rfl) cb6
  rw [df6] at lk6
  obtain ⟨_, _, _, _, _, _, _, _, lk7, ck7⟩ := Hx.fnq_ok rfl (Hx.fn_at c.2.1 7 (d := ⟨fun K => (He.ma K (He.ga K "Desk") "told"), "told", "Desk.told", (defArgs s_Desk_told), (defBody s_Desk_told), (defScope s_Desk_told), []⟩) rfl) cb7
  rw [df7] at lk7
  obtain ⟨_, _, _, _, _, _, _, _, lk8, ck8⟩ := Hx.fnq_ok rfl (Hx.fn_at c.2.1 8 (d := ⟨fun K => (He.ma K (He.ga K "Desk") "take"), "take", "Desk.take", (defArgs s_Desk_take), (defBody s_Desk_take), (defScope s_Desk_take), []⟩) rfl) cb8
  rw [df8] at lk8
  obtain ⟨_, _, _, _, _, _, _, _, lk9, ck9⟩ := Hx.fnq_ok rfl (Hx.fn_at c.2.1 9 (d := ⟨fun K => (He.ma K (He.ga K "Desk") "called"), "called", "Desk.called", (defArgs s_Desk_called), (defBody s_Desk_called), (defScope s_Desk_called), []⟩) rfl) cb9
  rw [df9] at lk9
  obtain ⟨_, _, _, _, _, _, _, _, lk10, ck10⟩ := Hx.fnq_ok rfl (Hx.fn_at c.2.1 10 (d := ⟨fun K => (He.ma K (He.ga K "Desk") "put"), "put", "Desk.put", (defArgs s_Desk_put), (defBody s_Desk_put), (defScope s_Desk_put), []⟩) rfl) cb10
  rw [df10] at lk10
  obtain ⟨_, _, _, _, _, _, _, _, lk11, ck11⟩ := Hx.fnq_ok rfl (Hx.fn_at c.2.1 11 (d := ⟨fun K => (He.ma K (He.ga K "Desk") "cut"), "cut", "Desk.cut", (defArgs s_Desk_cut), (defBody s_Desk_cut), (defScope s_Desk_cut), []⟩) rfl) cb11
  rw [df11] at lk11
  obtain ⟨_, _, _, _, _, _, _, _, lk12, ck12⟩ := Hx.fnq_ok rfl (Hx.fn_at c.2.1 12 (d := ⟨fun K => (He.ma K (He.ga K "Desk") "label"), "label", "Desk.label", (defArgs s_Desk_label), (defBody s_Desk_label), (defScope s_Desk_label), []⟩) rfl) cb12
  rw [df12] at lk12
  obtain ⟨_, _, _, _, _, _, _, _, lk13, ck13⟩ := Hx.fnq_ok rfl (Hx.fn_at c.2.1 13 (d := ⟨fun K => (He.ma K (He.ga K "Desk") "turn"), "turn", "Desk.turn", (defArgs s_Desk_turn), (defBody s_Desk_turn), (defScope s_Desk_turn), []⟩) rfl) cb13
  rw [df13] at lk13
  obtain ⟨_, _, _, _, _, _, _, _, lk14, ck14⟩ := Hx.fnq_ok rfl (Hx.fn_at c.2.1 14 (d := ⟨fun K => (He.ma K (He.ga K "Desk") "undo"), "undo", "Desk.undo", (defArgs s_Desk_undo), (defBody s_Desk_undo), (defScope s_Desk_undo), []⟩) rfl) cb14
  rw [df14] at lk14
  obtain ⟨_, _, _, _, _, _, _, _, lk15, ck15⟩ := Hx.fnq_ok rfl (Hx.fn_at c.2.1 15 (d := ⟨fun K => (He.ma K (He.ga K "Desk") "__len__"), "__len__", "Desk.__len__", (defArgs s_Desk___len__), (defBody s_Desk___len__), (defScope s_Desk___len__), []⟩) rfl) cb15
  rw [df15] at lk15
  obtain ⟨_, _, _, _, _, _, _, _, lk16, ck16⟩ := Hx.fnq_ok rfl (Hx.fn_at c.2.1 16 (d := ⟨fun K => (He.ma K (He.ga K "Desk") "__eq__"), "__eq__", "Desk.__eq__", (defArgs s_Desk___eq__), (defBody s_Desk___eq__), (defScope s_Desk___eq__), []⟩) rfl) cb16
  rw [df16] at lk16
  obtain ⟨_, _, _, _, _, _, _, _, lk17, ck17⟩ := Hx.fnq_ok rfl (Hx.fn_at c.2.1 17 (d := ⟨fun K => (He.ma K (He.ga K "Desk") "tree"), "tree", "Desk.tree", (defArgs s_Desk_tree), (defBody s_Desk_tree), (defScope s_Desk_tree), []⟩) rfl) cb17
  rw [df17, kf17] at lk17
  obtain ⟨_, _, _, _, _, _, _, _, lk18, ck18⟩ := Hx.fnq_ok rfl (Hx.fn_at c.2.1 18 (d := ⟨fun K => (Hx.hdV (PySem.W.recIn K (He.ma K (He.ga K "Desk") "first") "property")), "first", "Desk.first", (defArgs s_Desk_first), (defBody s_Desk_first), (defScope s_Desk_first), []⟩) rfl) cb18
  rw [df18] at lk18
  obtain ⟨_, _, _, _, _, _, _, _, lk19, ck19⟩ := Hx.fnq_ok rfl (Hx.fn_at c.2.1 19 (d := ⟨fun K => (Hx.hdV (PySem.W.recIn K (He.ma K (He.ga K "Desk") "between") "property")), "between", "Desk.between", (defArgs s_Desk_between), (defBody s_Desk_between), (defScope s_Desk_between), []⟩) rfl) cb19
  rw [df19] at lk19
  obtain ⟨_, _, _, _, _, _, _, _, lk20, ck20⟩ := Hx.fnq_ok rfl (Hx.fn_at c.2.1 20 (d := ⟨fun K => (Hx.hdV (PySem.W.recIn K (He.ma K (He.ga K "Desk") "last") "property")), "last", "Desk.last", (defArgs s_Desk_last), (defBody s_Desk_last), (defScope s_Desk_last), []⟩) rfl) cb20
  rw [df20] at lk20
  obtain ⟨_, _, _, _, _, _, _, _, lk21, ck21⟩ := Hx.fnq_ok rfl (Hx.fn_at c.2.1 21 (d := ⟨fun K => (He.ga K "_law_some_edit"), "_law_some_edit", "_law_some_edit", (defArgs s__law_some_edit), (defBody s__law_some_edit), (defScope s__law_some_edit), []⟩) rfl) cb21
  rw [df21] at lk21
  obtain ⟨_, _, _, _, _, _, _, _, lk22, ck22⟩ := Hx.fnq_ok rfl (Hx.fn_at c.2.1 22 (d := ⟨fun K => (Hx.hdV (PySem.W.recIn K (He.ma K (He.ga K "LoggedDesk") "log") "property")), "log", "LoggedDesk.log", (defArgs s_LoggedDesk_log), (defBody s_LoggedDesk_log), (defScope s_LoggedDesk_log), []⟩) rfl) cb22
  rw [df22] at lk22
  obtain ⟨_, _, _, _, _, _, _, _, lk23, ck23⟩ := Hx.fnq_ok rfl (Hx.fn_at c.2.1 23 (d := ⟨fun K => (Hx.hdV (PySem.W.recIn K (Hx.cmA K (He.ga K "Desk") "read") "classmethod")), "read", "Desk.read", (defArgs s_Desk_read), (defBody s_Desk_read), (defScope s_Desk_read), []⟩) rfl) cb23
  rw [df23] at lk23
  obtain ⟨_, _, _, _, _, _, _, _, lk24, ck24⟩ := Hx.fnq_ok rfl (Hx.fn_at c.2.1 24 (d := ⟨fun K => (He.ga K "is_letter"), "is_letter", "is_letter", (defArgs s_is_letter), (defBody s_is_letter), (defScope s_is_letter), []⟩) rfl) cb24
  rw [df24] at lk24
  obtain ⟨_, _, _, _, _, _, _, _, lk25, ck25⟩ := Hx.fnq_ok rfl (Hx.fn_at c.2.1 25 (d := ⟨fun K => (He.ga K "is_node"), "is_node", "is_node", (defArgs s_is_node), (defBody s_is_node), (defScope s_is_node), []⟩) rfl) cb25
  rw [df25] at lk25
  obtain ⟨_, _, _, _, _, _, _, _, lk26, ck26⟩ := Hx.fnq_ok rfl (Hx.fn_at c.2.1 26 (d := ⟨fun K => (He.ga K "is_tree"), "is_tree", "is_tree", (defArgs s_is_tree), (defBody s_is_tree), (defScope s_is_tree), []⟩) rfl) cb26
  rw [df26] at lk26
  obtain ⟨_, _, _, _, _, _, _, _, lk27, ck27⟩ := Hx.fnq_ok rfl (Hx.fn_at c.2.1 27 (d := ⟨fun K => (He.ga K "size_of"), "size_of", "size_of", (defArgs s_size_of), (defBody s_size_of), (defScope s_size_of), []⟩) rfl) cb27
  rw [df27] at lk27
  obtain ⟨_, _, _, _, _, _, _, _, lk28, ck28⟩ := Hx.fnq_ok rfl (Hx.fn_at c.2.1 28 (d := ⟨fun K => (He.ga K "part_at"), "part_at", "part_at", (defArgs s_part_at), (defBody s_part_at), (defScope s_part_at), []⟩) rfl) cb28
  rw [df28] at lk28
  obtain ⟨_, _, _, _, _, _, _, _, lk29, ck29⟩ := Hx.fnq_ok rfl (Hx.fn_at c.2.1 29 (d := ⟨fun K => (He.ga K "is_open"), "is_open", "is_open", (defArgs s_is_open), (defBody s_is_open), (defScope s_is_open), []⟩) rfl) cb29
  rw [df29] at lk29
  obtain ⟨_, _, _, _, _, _, _, _, lk30, ck30⟩ := Hx.fnq_ok rfl (Hx.fn_at c.2.1 30 (d := ⟨fun K => (He.ga K "replaced"), "replaced", "replaced", (defArgs s_replaced), (defBody s_replaced), (defScope s_replaced), []⟩) rfl) cb30
  rw [df30] at lk30
  obtain ⟨_, _, _, _, _, _, _, _, lk31, ck31⟩ := Hx.fnq_ok rfl (Hx.fn_at c.2.1 31 (d := ⟨fun K => (He.ga K "with_part"), "with_part", "with_part", (defArgs s_with_part), (defBody s_with_part), (defScope s_with_part), []⟩) rfl) cb31
  rw [df31] at lk31
  obtain ⟨_, _, _, _, _, _, _, _, lk32, ck32⟩ := Hx.fnq_ok rfl (Hx.fn_at c.2.1 32 (d := ⟨fun K => (He.ga K "mirrored"), "mirrored", "mirrored", (defArgs s_mirrored), (defBody s_mirrored), (defScope s_mirrored), []⟩) rfl) cb32
  rw [df32] at lk32
  obtain ⟨_, _, _, _, _, _, _, _, lk33, ck33⟩ := Hx.fnq_ok rfl (Hx.fn_at c.2.1 33 (d := ⟨fun K => (He.ga K "node_at"), "node_at", "node_at", (defArgs s_node_at), (defBody s_node_at), (defScope s_node_at), []⟩) rfl) cb33
  rw [df33] at lk33
  obtain ⟨_, _, _, _, _, _, _, _, lk34, ck34⟩ := Hx.fnq_ok rfl (Hx.fn_at c.2.1 34 (d := ⟨fun K => (He.ga K "with_node"), "with_node", "with_node", (defArgs s_with_node), (defBody s_with_node), (defScope s_with_node), []⟩) rfl) cb34
  rw [df34] at lk34
  obtain ⟨_, _, _, _, _, _, _, _, lk35, ck35⟩ := Hx.fnq_ok rfl (Hx.fn_at c.2.1 35 (d := ⟨fun K => (He.ga K "without_node"), "without_node", "without_node", (defArgs s_without_node), (defBody s_without_node), (defScope s_without_node), []⟩) rfl) cb35
  rw [df35] at lk35
  obtain ⟨_, _, _, _, _, _, _, _, lk36, ck36⟩ := Hx.fnq_ok rfl (Hx.fn_at c.2.1 36 (d := ⟨fun K => (He.ga K "with_label"), "with_label", "with_label", (defArgs s_with_label), (defBody s_with_label), (defScope s_with_label), []⟩) rfl) cb36
  rw [df36] at lk36
  obtain ⟨_, _, _, _, _, _, _, _, lk37, ck37⟩ := Hx.fnq_ok rfl (Hx.fn_at c.2.1 37 (d := ⟨fun K => (He.ga K "turned"), "turned", "turned", (defArgs s_turned), (defBody s_turned), (defScope s_turned), []⟩) rfl) cb37
  rw [df37] at lk37
  obtain ⟨_, _, _, _, _, _, _, _, lk38, ck38⟩ := Hx.fnq_ok rfl (Hx.fn_at c.2.1 38 (d := ⟨fun K => (He.ga K "edited"), "edited", "edited", (defArgs s_edited), (defBody s_edited), (defScope s_edited), []⟩) rfl) cb38
  rw [df38] at lk38
  obtain ⟨_, _, _, _, _, _, _, _, lk39, ck39⟩ := Hx.fnq_ok rfl (Hx.fn_at c.2.1 39 (d := ⟨fun K => (He.ga K "is_kind"), "is_kind", "is_kind", (defArgs s_is_kind), (defBody s_is_kind), (defScope s_is_kind), []⟩) rfl) cb39
  rw [df39] at lk39
  obtain ⟨_, _, _, _, _, _, _, _, lk40, ck40⟩ := Hx.fnq_ok rfl (Hx.fn_at c.2.1 40 (d := ⟨fun K => (He.ga K "ordered_steps"), "ordered_steps", "ordered_steps", (defArgs s_ordered_steps), (defBody s_ordered_steps), (defScope s_ordered_steps), []⟩) rfl) cb40
  rw [df40] at lk40
  obtain ⟨_, _, _, _, _, _, _, _, lk41, ck41⟩ := Hx.fnq_ok rfl (Hx.fn_at c.2.1 41 (d := ⟨fun K => (He.ga K "deep_steps"), "deep_steps", "deep_steps", (defArgs s_deep_steps), (defBody s_deep_steps), (defScope s_deep_steps), []⟩) rfl) cb41
  rw [df41] at lk41
  obtain ⟨_, _, _, _, _, _, _, _, lk42, ck42⟩ := Hx.fnq_ok rfl (Hx.fn_at c.2.1 42 (d := ⟨fun K => (He.ga K "walk"), "walk", "walk", (defArgs s_walk), (defBody s_walk), (defScope s_walk), []⟩) rfl) cb42
  rw [df42] at lk42
  obtain ⟨_, _, _, _, _, _, _, _, lk43, ck43⟩ := Hx.fnq_ok rfl (Hx.fn_at c.2.1 43 (d := ⟨fun K => (He.ga K "tree_text"), "tree_text", "tree_text", (defArgs s_tree_text), (defBody s_tree_text), (defScope s_tree_text), []⟩) rfl) cb43
  rw [df43] at lk43
  obtain ⟨_, _, _, _, _, _, _, _, lk44, ck44⟩ := Hx.fnq_ok rfl (Hx.fn_at c.2.1 44 (d := ⟨fun K => (He.ga K "side_text"), "side_text", "side_text", (defArgs s_side_text), (defBody s_side_text), (defScope s_side_text), []⟩) rfl) cb44
  rw [df44] at lk44
  obtain ⟨_, _, _, _, _, _, _, _, lk45, ck45⟩ := Hx.fnq_ok rfl (Hx.fn_at c.2.1 45 (d := ⟨fun K => (He.ga K "parse_tree"), "parse_tree", "parse_tree", (defArgs s_parse_tree), (defBody s_parse_tree), (defScope s_parse_tree), []⟩) rfl) cb45
  rw [df45] at lk45
  obtain ⟨_, _, _, _, _, _, _, _, lk46, ck46⟩ := Hx.fnq_ok rfl (Hx.fn_at c.2.1 46 (d := ⟨fun K => (He.ga K "sign_at"), "sign_at", "sign_at", (defArgs s_sign_at), (defBody s_sign_at), (defScope s_sign_at), []⟩) rfl) cb46
  rw [df46] at lk46
  obtain ⟨_, _, _, _, _, _, _, _, lk47, ck47⟩ := Hx.fnq_ok rfl (Hx.fn_at c.2.1 47 (d := ⟨fun K => (He.ga K "read_tree"), "read_tree", "read_tree", (defArgs s_read_tree), (defBody s_read_tree), (defScope s_read_tree), []⟩) rfl) cb47
  rw [df47] at lk47
  obtain ⟨_, _, _, _, _, _, _, _, lk48, ck48⟩ := Hx.fnq_ok rfl (Hx.fn_at c.2.1 48 (d := ⟨fun K => (He.ga K "read_left"), "read_left", "read_left", (defArgs s_read_left), (defBody s_read_left), (defScope s_read_left), []⟩) rfl) cb48
  rw [df48] at lk48
  obtain ⟨_, _, _, _, _, _, _, _, lk49, ck49⟩ := Hx.fnq_ok rfl (Hx.fn_at c.2.1 49 (d := ⟨fun K => (He.ga K "read_side"), "read_side", "read_side", (defArgs s_read_side), (defBody s_read_side), (defScope s_read_side), []⟩) rfl) cb49
  rw [df49] at lk49
  obtain ⟨_, _, _, _, _, _, _, _, lk50, ck50⟩ := Hx.fnq_ok rfl (Hx.fn_at c.2.1 50 (d := ⟨fun K => (He.ga K "_law_stream"), "_law_stream", "_law_stream", (defArgs s__law_stream), (defBody s__law_stream), (defScope s__law_stream), []⟩) rfl) cb50
  rw [df50] at lk50
  obtain ⟨_, _, _, _, _, _, _, _, lk51, ck51⟩ := Hx.fnq_ok rfl (Hx.fn_at c.2.1 51 (d := ⟨fun K => (He.ga K "_law_take"), "_law_take", "_law_take", (defArgs s__law_take), (defBody s__law_take), (defScope s__law_take), []⟩) rfl) cb51
  rw [df51] at lk51
  obtain ⟨_, _, _, _, _, _, _, _, lk52, ck52⟩ := Hx.fnq_ok rfl (Hx.fn_at c.2.1 52 (d := ⟨fun K => (He.ga K "_law_equal"), "_law_equal", "_law_equal", (defArgs s__law_equal), (defBody s__law_equal), (defScope s__law_equal), []⟩) rfl) cb52
  rw [df52] at lk52
  obtain ⟨_, _, _, _, _, _, _, _, lk53, ck53⟩ := Hx.fnq_ok rfl (Hx.fn_at c.2.1 53 (d := ⟨fun K => (He.ga K "_law_letter"), "_law_letter", "_law_letter", (defArgs s__law_letter), (defBody s__law_letter), (defScope s__law_letter), []⟩) rfl) cb53
  rw [df53] at lk53
  obtain ⟨_, _, _, _, _, _, _, _, lk54, ck54⟩ := Hx.fnq_ok rfl (Hx.fn_at c.2.1 54 (d := ⟨fun K => (He.ga K "_law_paths"), "_law_paths", "_law_paths", (defArgs s__law_paths), (defBody s__law_paths), (defScope s__law_paths), []⟩) rfl) cb54
  rw [df54] at lk54
  obtain ⟨_, _, _, _, _, _, _, _, lk55, ck55⟩ := Hx.fnq_ok rfl (Hx.fn_at c.2.1 55 (d := ⟨fun K => (He.ga K "_law_grafted"), "_law_grafted", "_law_grafted", (defArgs s__law_grafted), (defBody s__law_grafted), (defScope s__law_grafted), []⟩) rfl) cb55
  rw [df55] at lk55
  obtain ⟨_, _, _, _, _, _, _, _, lk56, ck56⟩ := Hx.fnq_ok rfl (Hx.fn_at c.2.1 56 (d := ⟨fun K => (He.ga K "_law_spot"), "_law_spot", "_law_spot", (defArgs s__law_spot), (defBody s__law_spot), (defScope s__law_spot), []⟩) rfl) cb56
  rw [df56] at lk56
  obtain ⟨_, _, _, _, _, _, _, _, lk57, ck57⟩ := Hx.fnq_ok rfl (Hx.fn_at c.2.1 57 (d := ⟨fun K => (He.ga K "_law_sorted_tree"), "_law_sorted_tree", "_law_sorted_tree", (defArgs s__law_sorted_tree), (defBody s__law_sorted_tree), (defScope s__law_sorted_tree), []⟩) rfl) cb57
  rw [df57] at lk57
  obtain ⟨_, _, _, _, _, _, _, _, lk58, ck58⟩ := Hx.fnq_ok rfl (Hx.fn_at c.2.1 58 (d := ⟨fun K => (He.ga K "_law_tree"), "_law_tree", "_law_tree", (defArgs s__law_tree), (defBody s__law_tree), (defScope s__law_tree), []⟩) rfl) cb58
  rw [df58] at lk58
  obtain ⟨_, _, _, _, _, _, _, _, lk59, ck59⟩ := Hx.fnq_ok rfl (Hx.fn_at c.2.1 59 (d := ⟨fun K => (He.ga K "_law_do"), "_law_do", "_law_do", (defArgs s__law_do), (defBody s__law_do), (defScope s__law_do), []⟩) rfl) cb59
  rw [df59] at lk59
  obtain ⟨_, _, _, _, _, _, _, _, lk60, ck60⟩ := Hx.fnq_ok rfl (Hx.fn_at c.2.1 60 (d := ⟨fun K => (He.ga K "_law_tried"), "_law_tried", "_law_tried", (defArgs s__law_tried), (defBody s__law_tried), (defScope s__law_tried), []⟩) rfl) cb60
  rw [df60] at lk60
  obtain ⟨_, _, _, _, _, _, _, _, lk61, ck61⟩ := Hx.fnq_ok rfl (Hx.fn_at c.2.1 61 (d := ⟨fun K => (He.ga K "_law_right"), "_law_right", "_law_right", (defArgs s__law_right), (defBody s__law_right), (defScope s__law_right), []⟩) rfl) cb61
  rw [df61] at lk61
  obtain ⟨_, _, _, _, _, _, _, _, lk62, ck62⟩ := Hx.fnq_ok rfl (Hx.fn_at c.2.1 62 (d := ⟨fun K => (He.ga K "law"), "law", "law", (defArgs s_law), (defBody s_law), (defScope s_law), []⟩) rfl) cb62
  rw [df62] at lk62
  have su63 := Hx.sup_ok rfl (Hx.fn_at c.2.1 63 (d := ⟨fun K => (He.ma K (He.ga K "LoggedDesk") "__init__"), "__init__", "LoggedDesk.__init__", (defArgs s_LoggedDesk___init__), (defBody s_LoggedDesk___init__), (defScope s_LoggedDesk___init__), ["__class__"]⟩) rfl) cb63 df63 sb63
  obtain ⟨_, _, _, _, _, _, _, _, _, _, _, _, _, _, x_NoPath⟩ := Hx.excB_ok xb_x_NoPath
  obtain ⟨_, _, _, _, _, _, _, _, _, _, _, _, _, _, x_NotOpen⟩ := Hx.excB_ok xb_x_NotOpen
  obtain ⟨_, _, _, _, _, _, _, _, _, _, _, _, _, _, x_NoLabel⟩ := Hx.excB_ok xb_x_NoLabel
  obtain ⟨_, _, _, _, _, _, _, _, _, _, _, _, _, _, x_TooLarge⟩ := Hx.excB_ok xb_x_TooLarge
  obtain ⟨_, _, _, _, _, _, _, _, _, _, _, _, _, _, x_LastNode⟩ := Hx.excB_ok xb_x_LastNode
  obtain ⟨_, _, aAl, kl_aAl, _⟩ := He.dicW_ok (c.tab 0 rfl)
  obtain ⟨_, vs_aKl, _, _, aKl, r_aKl⟩ := Hx.tupL_ok tb_aKl
  obtain ⟨_, _, _, _, rfl, ⟨_, rfl⟩, ⟨_, rfl⟩, ⟨_, rfl⟩, ⟨_, rfl⟩⟩ := Hx.lits4 r_aKl
  obtain ⟨_, vs_tl_law_some_edit, _, _, tl_law_some_edit, r_tl_law_some_edit⟩ := Hx.tupL_ok tb_tl_law_some_edit
  obtain ⟨_, rfl, ⟨_, rfl⟩⟩ := Hx.lits1 r_tl_law_some_edit
  exact all_mk (l := PySem.Challenge.rw_treewalks_k96_whole_desks_by_texts) (w := w) X G hfa p_a_NoPath p_a_NotOpen p_a_NoLabel p_a_TooLarge p_a_LastNode p_a_WalkError x_NoPath p_sa_NoPath p_ga_NoPath p_gg_NoPath p_nb_NoPath p_ii_NoPath p_ti_NoPath lk0 ck0 p_kC_NoPath p_eC_NoPath p_tC_NoPath p_hC_NoPath p_h1_NoPath p_h2_NoPath p_h3_NoPath p_h4_NoPath x_NotOpen p_sa_NotOpen p_ga_NotOpen p_gg_NotOpen p_nb_NotOpen p_ii_NotOpen p_ti_NotOpen lk1 ck1 p_kC_NotOpen p_eC_NotOpen p_tC_NotOpen p_hC_NotOpen p_h1_NotOpen p_h2_NotOpen p_h3_NotOpen p_h4_NotOpen x_NoLabel p_sa_NoLabel p_ga_NoLabel p_gg_NoLabel p_nb_NoLabel p_ii_NoLabel p_ti_NoLabel lk2 ck2 p_kC_NoLabel p_eC_NoLabel p_tC_NoLabel p_hC_NoLabel p_h1_NoLabel p_h2_NoLabel p_h3_NoLabel p_h4_NoLabel x_TooLarge p_sa_TooLarge p_ga_TooLarge p_gg_TooLarge p_nb_TooLarge p_ii_TooLarge p_ti_TooLarge lk3 ck3 p_kC_TooLarge p_eC_TooLarge p_tC_TooLarge p_hC_TooLarge p_h1_TooLarge p_h2_TooLarge p_h3_TooLarge p_h4_TooLarge x_LastNode p_sa_LastNode p_ga_LastNode p_gg_LastNode p_kC_LastNode p_eC_LastNode p_tC_LastNode p_hC_LastNode p_h1_LastNode p_h2_LastNode p_h3_LastNode p_h4_LastNode p_aDK p_pg p_hd p_po p_sa p_mk p_kc p_nT p_nD p_nB p_moA p_moG p_q_LastNode p_e1_NoPath p_eNP p_eNO p_eNL p_eTL p_eLN p_iha p_ihn p_ihtk p_ihm p_ime p_aAn aAl kl_aAl p_aA_put p_aA_cut p_aA_label p_aA_turn p_aKn aKl p_at_init p_fn_init p_kp_init lk4 ck4 p_at_check_free p_fn_check_free p_kp_check_free lk5 ck5 p_at_check_tree p_fn_check_tree p_kp_check_tree lk6 ck6 p_at_told p_fn_told p_kp_told lk7 ck7 p_at_take p_fn_take p_kp_take lk8 ck8 p_at_called p_fn_called p_kp_called lk9 ck9 p_at_put p_fn_put p_kp_put lk10 ck10 p_at_cut p_fn_cut p_kp_cut lk11 ck11 p_at_label p_fn_label p_kp_label lk12 ck12 p_at_turn p_fn_turn p_kp_turn lk13 ck13 p_at_undo p_fn_undo p_kp_undo lk14 ck14 p_at_len p_fn_len p_kp_len lk15 ck15 p_at_eq p_fn_eq p_kp_eq lk16 ck16 p_at_tree p_fn_tree p_kp_tree lk17 ck17 p_ns_tree_version p_at_first p_gt_first p_tk_first p_rc_first p_kp_first lk18 ck18 p_at_between p_gt_between p_tk_between p_rc_between p_kp_between lk19 ck19 p_at_last p_gt_last p_tk_last p_rc_last p_kp_last lk20 ck20 p_a_law_some_edit p_kp_law_some_edit lk21 ck21 tl_law_some_edit p_aLD p_pgL p_hdL p_poL p_saL p_mkL p_kcL p_nTL p_nDL p_nBL p_nCL p_eqL p_nfL p_atL_first p_atL_between p_atL_last p_at_log p_gt_log p_tk_log p_rc_log p_kp_log lk22 ck22 p_at_initL p_fn_initL su63 p_tpS p_suC p_suM p_suN p_suI p_suT p_suF p_rc_read p_rc_readL p_cm_D p_cm_L p_rdD p_gaD p_rdL p_gaL p_fi_read p_kp_read lk23 ck23 p_a1 lk24 ck24 p_k1 p_a2 lk25 ck25 p_k2 p_a3 lk26 ck26 p_k3 p_a4 lk27 ck27 p_k4 p_a5 lk28 ck28 p_k5 p_a6 lk29 ck29 p_k6 p_a7 lk30 ck30 p_k7 p_a8 lk31 ck31 p_k8 p_a9 lk32 ck32 p_k9 p_a10 lk33 ck33 p_k10 p_a11 lk34 ck34 p_k11 p_a12 lk35 ck35 p_k12 p_a13 lk36 ck36 p_k13 p_a14 lk37 ck37 p_k14 p_a15 lk38 ck38 p_k15 p_a16 lk39 ck39 p_k16 p_a17 lk40 ck40 p_k17 p_a18 lk41 ck41 p_k18 p_a19 lk42 ck42 p_k19 p_a20 lk43 ck43 p_k20 p_a21 lk44 ck44 p_k21 p_a22 lk45 ck45 p_k22 p_a23 lk46 ck46 p_k23 p_a24 lk47 ck47 p_k24 p_a25 lk48 ck48 p_k25 p_a26 lk49 ck49 p_k26 p_a27 lk50 ck50 p_k27 p_a28 lk51 ck51 p_k28 p_a29 lk52 ck52 p_k29 p_a30 lk53 ck53 p_k30 p_a31 lk54 ck54 p_k31 p_a32 lk55 ck55 p_k32 p_a33 lk56 ck56 p_k33 p_a34 lk57 ck57 p_k34 p_a35 lk58 ck58 p_k35 p_a36 lk59 ck59 p_k36 p_a37 lk60 ck60 p_k37 p_a38 lk61 ck61 p_k38 p_a39 lk62 ck62 p_k39 p_z1 p_z2 p_z3 p_z4 p_z5 p_z6 p_z7 p_z8 p_z9 p_z10 p_z11 p_z12 p_z13 p_z14 p_z15 p_z16 p_z17 p_z18 p_z19 p_v1
end Tw
open PySem PySem.W PySem.Calls PyProof.Rows
set_option maxRecDepth 100000 in
set_option maxHeartbeats 0 in
theorem PySem.Challenge.cw_treewalks_k96_whole_desks_by_texts_holds : PySem.Challenge.rw_treewalks_k96_whole_desks_by_texts.Holds := by
  w_on; o_law
  refine HandSHeadRun.head_any (r := OpenLaw.row PySem.Challenge.rw_treewalks_k96_whole_desks_by_texts) (q := view (OpenLaw.row PySem.Challenge.rw_treewalks_k96_whole_desks_by_texts).prog [75]) (H := Tw.hq.hook) (ob := Tw.obq) (M := 30000) (loose := Tw.nms) (d := HandSHeadRun.topDef (OpenLaw.row PySem.Challenge.rw_treewalks_k96_whole_desks_by_texts).prog 75) (kwd := []) Tw.obq_eq
    (by kernel_rfl) (fun s => by kernel_rfl) Tw.run_top (by kernel_rfl) (by kernel_rfl) (by kernel_rfl) (by rfl) (by first | assumption | decide +kernel) (by decide +kernel) ⟨rfl, rfl, rfl, rfl, rfl, by decide +kernel⟩ ?hw ?hc
  case hw => w_witness2
  case hc =>
    refine Hx.walk_x (l := PySem.Challenge.rw_treewalks_k96_whole_desks_by_texts) rfl (by kernel_rfl) ?F
    intro w mg fa h Y G hmg0
    obtain ⟨K, KX, c⟩ := Y
    have hmg : mg ("law" : PySem.Str) = some (.ref fa) := by
      have e : (HandSHeadRun.topDef (OpenLaw.row PySem.Challenge.rw_treewalks_k96_whole_desks_by_texts).prog 75).name = ("law" : PySem.Str) := by kernel_rfl
      rw [← e]
      exact hmg0
    exact ⟨K, KX, Tw.of_top KX G hmg c⟩
