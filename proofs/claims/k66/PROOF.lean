import PyProof.Rows.All
import Wide.All
import OpenK.AllK
import Wide.FinOn
import HandS.ForMost
import HandS.ForExc
import HandS.Wide
import HandS.IsInst
import HandS.Flow
import HandS.FStrTup
import HandS.NoneIn
import HandS.TupAny
import HandS.Style
import HandS.TryMany
import HandS.ExcIs
import HandS.ExcField
import HandS.ExcOwn
import KE.KExcInit
import KE.KExcIs
import HandS.Walk
import HandS.Zip
import HandS.Star
import HandS.Style
import PyProof.Rows.SortShellAny
import KE.GoesZip
import KE.GoesMore
import KE.SortKeyHeap
import HandS.Lambda
import HandS.EndTab
import PyProof.CollectStr
import PyProof.P3Eq
import HandS.Sort
import HandS.Set
import HandS.SetFor
import HandS.Strs
import HandS.SetTxt0
import HandS.TupSets
import HandS.DictComp
import KE.KSortTupG
import KE.KSortTupUse
import HandS.More
import HandS.Replace
import HandS.ClsMeth
import HandS.Defaults
import HandS.CallSlots
import HandS.Property
import HandS.CallLocal
import HandS.FStr
import HandS.SlotsOwn
import KE.KCallOwn
import KE.KStateDown
import HandS.Head0
import HandS.Head1
import HandS.Head2
import HandS.HeadHook1
import HandS.HeadHook2
import HandS.HeadHook3
import HandS.GenYield
import HandS.GenCall
import HandS.GenList
import HandS.Iter
import HandS.OwnEq
import PyProof.GenComp
import KE.GoesEnum
import PySem.Challenge.RW_treewalks_k66_versions
set_option Elab.async false
set_option maxRecDepth 100000
set_option maxHeartbeats 4000000
namespace Tw
open PySem PySem.Spec PyProof.Rows L2
/-! ### trees over signs -/
abbrev ch (c : Nat) : Str := ⟨#[c]⟩
def tx (l : List Nat) : Str := ⟨l.toArray⟩
theorem tx_cps (l : List Nat) : (tx l).cps.toList = l := rfl
theorem tx_size (l : List Nat) : (tx l).cps.size = l.length := rfl
theorem tx_len (l : List Nat) : (tx l).length = l.length := rfl
theorem tx_one (c : Nat) : tx [c] = ch c := rfl
theorem tx_app (a b : List Nat) : tx a ++ tx b = tx (a ++ b) := by
  show (⟨(tx a).cps ++ (tx b).cps⟩ : Str) = _
  simp [tx]
theorem ch_app (c : Nat) (b : List Nat) : ch c ++ tx b = tx (c :: b) := tx_app [c] b
theorem tx_inj {a b : List Nat} (h : tx a = tx b) : a = b := congrArg (fun z : Str => z.cps.toList) h
theorem ch_inj {a b : Nat} (h : ch a = ch b) : a = b := by have := tx_inj (a := [a]) (b := [b]) h; simpa using this
theorem ch_lt (a b : Nat) : decide ((ch a).cps.toList < (ch b).cps.toList) = decide (a < b) := by
  have : ((ch a).cps.toList < (ch b).cps.toList) ↔ a < b := by
    show [a] < [b] ↔ _
    simp [List.cons_lt_cons_iff]
  simp only [this]
theorem tx_to (l : List Nat) (k : Nat) : cutS (tx l) none (some (k : Int)) = tx (l.take k) := by
  unfold cutS tx
  show (⟨_⟩ : Str) = ⟨_⟩
  rw [HT.sIx_nat, HT.sIx_none]
  show (⟨((l.drop 0).take (min k l.length - 0)).toArray⟩ : Str) = ⟨(l.take k).toArray⟩
  rw [List.drop_zero, Nat.sub_zero, Nat.min_def]
  split
  · rfl
  · rw [List.take_of_length_le (Nat.le_refl _), List.take_of_length_le (by omega)]
theorem tx_from (l : List Nat) (k : Nat) : cutS (tx l) (some (k : Int)) none = tx (l.drop k) := by
  unfold cutS tx
  show (⟨_⟩ : Str) = ⟨_⟩
  rw [HT.sIx_nat, HT.sIx_none]
  show (⟨((l.drop (min k l.length)).take (l.length - min k l.length)).toArray⟩ : Str) = ⟨(l.drop k).toArray⟩
  by_cases h : k ≤ l.length
  · rw [Nat.min_eq_left h, List.take_of_length_le (by rw [List.length_drop]; omega)]
  · rw [Nat.min_eq_right (by omega), List.drop_eq_nil_of_le (Nat.le_refl _), List.drop_eq_nil_of_le (by omega), List.take_nil]
theorem joinL_ones : ∀ l : List Nat, TL.joinL [] (l.map fun c => [c]) = l
  | [] => rfl
  | [c] => rfl
  | c :: d :: r => by
    have := joinL_ones (d :: r)
    show [c] ++ ([] ++ TL.joinL [] ((d :: r).map fun c => [c])) = _
    rw [this]; rfl
theorem tx_join (l : List Nat) : Txt.join (Str.ofString "") (l.map ch) = tx l := by
  rw [TL.join_eq]
  have e := TL.tl_join (Str.ofString "") (l.map ch)
  refine TL.ext_tl (e.trans ?_)
  rw [List.map_map]
  exact joinL_ones l
theorem tx_joinOk (l : List Nat) (h : l.length ≤ 1000) : ((l.map ch).map (·.length)).sum + (l.map ch).length * (Str.ofString "").length ≤ 16777216 := by
  have e0 : (Str.ofString "").length = 0 := by decide +kernel
  have e1 : ∀ l : List Nat, ((l.map ch).map (·.length)).sum = l.length := by
    intro l
    induction l with
    | nil => rfl
    | cons c r ih =>
      rw [List.map_cons, List.map_cons, List.sum_cons, ih, List.length_cons]
      show 1 + r.length = _
      omega
  rw [e0, e1]
  omega
inductive B where
  | nil
  | node (l : B) (x : Nat) (r : B)
  deriving DecidableEq
def B.size : B → Nat
  | .nil => 0
  | .node l _ r => l.size + 1 + r.size
def B.deep : B → Nat
  | .nil => 0
  | .node l _ r => 1 + max l.deep r.deep
def B.data : B → PyData
  | .nil => .none
  | .node l x r => .tuple [l.data, .str (ch x), r.data]
def B.pre : B → List Nat
  | .nil => []
  | .node l x r => x :: (l.pre ++ r.pre)
def B.mid : B → List Nat
  | .nil => []
  | .node l x r => l.mid ++ x :: r.mid
theorem B.deep_le : ∀ t : B, t.deep ≤ t.size
  | .nil => Nat.le_refl _
  | .node l _ r => by
    have h1 := l.deep_le
    have h2 := r.deep_le
    show 1 + max l.deep r.deep ≤ l.size + 1 + r.size
    omega
theorem B.pre_len : ∀ t : B, t.pre.length = t.size
  | .nil => rfl
  | .node l x r => by
    have h1 := l.pre_len
    have h2 := r.pre_len
    show (x :: (l.pre ++ r.pre)).length = l.size + 1 + r.size
    rw [List.length_cons, List.length_append]
    omega
theorem B.mid_len : ∀ t : B, t.mid.length = t.size
  | .nil => rfl
  | .node l x r => by
    have h1 := l.mid_len
    have h2 := r.mid_len
    show (l.mid ++ x :: r.mid).length = l.size + 1 + r.size
    rw [List.length_append, List.length_cons]
    omega
theorem B.mid_mem (t : B) (c : Nat) : c ∈ t.mid ↔ c ∈ t.pre := by
  induction t with
  | nil => exact Iff.rfl
  | node l x r h1 h2 =>
    show c ∈ l.mid ++ x :: r.mid ↔ c ∈ x :: (l.pre ++ r.pre)
    rw [List.mem_append, List.mem_cons, List.mem_cons, List.mem_append, h1, h2]
    constructor
    · rintro (h | h | h)
      · exact .inr (.inl h)
      · exact .inl h
      · exact .inr (.inr h)
    · rintro (h | h | h)
      · exact .inr (.inl h)
      · exact .inl h
      · exact .inr (.inr h)
/-- the tree t lies at v -/
inductive BAt (H : Hp) : V → B → Prop
  | nil : BAt H .non .nil
  | node {a : Addr} {l r : V} {x : Nat} {tl tr : B} : H a = some (.tup [l, .str (ch x), r]) → BAt H l tl → BAt H r tr → BAt H (.ref a) (.node tl x tr)
/-- tuples stand still -/
def KeepT (H H' : Hp) : Prop := ∀ b xs, H b = some (.tup xs) → H' b = some (.tup xs)
theorem KeepT.refl (H : Hp) : KeepT H H := fun _ _ h => h
theorem KeepT.trans {H H1 H2 : Hp} (a : KeepT H H1) (b : KeepT H1 H2) : KeepT H H2 := fun c xs h => b c xs (a c xs h)
theorem Same.keepT {H H' : Hp} (h : Same H H') : KeepT H H' := fun b xs e => h b _ e
theorem BAt.keep {H H' : Hp} (k : KeepT H H') {v : V} {t : B} (h : BAt H v t) : BAt H' v t := by
  induction h with
  | nil => exact .nil
  | node e _ _ h1 h2 => exact .node (k _ _ e) h1 h2
theorem BAt.same {H H' : Hp} (k : Same H H') {v : V} {t : B} (h : BAt H v t) : BAt H' v t := h.keep (Tw.Same.keepT k)
theorem BAt.dp {K : PySem.W.Frag} {H : Hp} {v : V} {t : B} (h : BAt H v t) : Dp K H v t.data := by
  induction h with
  | nil => exact .non
  | node e _ _ h1 h2 => exact .tup (SqT.of e) (.cons h1 (.cons (.str _) (.cons h2 .nil)))
theorem BAt.inv {H : Hp} {v : V} {t : B} (h : BAt H v t) : (v = .non ∧ t = .nil) ∨ ∃ a l r x tl tr, v = .ref a ∧ t = .node tl x tr ∧ H a = some (.tup [l, .str (ch x), r]) ∧ BAt H l tl ∧ BAt H r tr := by
  cases h with
  | nil => exact .inl ⟨rfl, rfl⟩
  | node e h1 h2 => exact .inr ⟨_, _, _, _, _, _, rfl, rfl, e, h1, h2⟩
theorem same_new {H : Hp} {p : Addr} (h : H p = none) (o : HO) : Same H (upd H p o) := fun b u q => by rw [upd_ne (ne_of_none q h)]; exact q
theorem small {n : Nat} (h : n ≤ 1000) : n ≤ sizeLine := Nat.le_of_lt (small1000 h)
theorem at_map {α : Type} {f : α → V} {ns : List α} {i : Int} {v : α} (h0 : 0 ≤ i) (h : ns[i.toNat]? = some v) : atI (ns.map f) i = some (f v) := by
  have e : i = ((i.toNat : Nat) : Int) := by omega
  rw [e]
  exact atI_nat (by rw [List.getElem?_map, h]; rfl)
theorem ixN_nat {n : Nat} {i : Int} (h0 : 0 ≤ i) (h : i < n) : ixN n i = some i.toNat := by
  unfold ixN
  first
    | rw [if_pos h0, if_pos h]
    | (rw [if_pos h0]; rw [if_pos (by omega)])
    | simp [h0, h]
theorem cut_to (xs : List V) (k : Nat) : cutV xs none (some (k : Int)) = xs.take k := by
  unfold cutV
  rw [HT.sIx_nat, HT.sIx_none, List.drop_zero, Nat.sub_zero]
  rw [Nat.min_def]
  split
  · rfl
  · rw [List.take_of_length_le (Nat.le_refl _), List.take_of_length_le (by omega)]
theorem cut_from (xs : List V) (k : Nat) : cutV xs (some (k : Int)) none = xs.drop k := by
  unfold cutV
  rw [HT.sIx_nat, HT.sIx_none]
  by_cases h : k ≤ xs.length
  · rw [Nat.min_eq_left h, List.take_of_length_le (by rw [List.length_drop]; omega)]
  · rw [Nat.min_eq_right (by omega), List.drop_eq_nil_of_le (Nat.le_refl _), List.drop_eq_nil_of_le (by omega), List.take_nil]
theorem kept {σ : L2.St} {H : Hp} {A B : Hp → Prop} (h : A H) : tYes σ H (fun b H3 => if b = true then A H3 else B H3) := by
  show if true = true then A H else B H
  exact iteT h
theorem erase_map {α β : Type} (f : α → β) : ∀ (l : List α) (i : Nat), (l.map f).eraseIdx i = (l.eraseIdx i).map f
  | [], _ => rfl
  | _ :: _, 0 => rfl
  | x :: l, i + 1 => congrArg (f x :: ·) (erase_map f l i)
/-- a def that stands at a name, with its promise -/
structure Df (P : Program) (w : World) (K : PySem.W.Frag) (mg : Str → Option Value) (base : Heap) (k : Nat) (nm : Str) (ps : List Str) (sp : Sp) where
  f : Addr
  fd : FuncData
  ok : FnOk P w K mg base CX0 k f fd ps sp
  b : Binds K fd ps []
  kp : PySem.W.keepIn K (.ref f) = true
  g : mg nm = some (.ref f)
structure Mgs (mg : Str → Option Value) : Prop where
  zip : mg "zip" = none
  all : mg "all" = none
  repr : mg "repr" = none
  len : mg "len" = none
  isinstance : mg "isinstance" = none
  list : mg "list" = none
  tuple : mg "tuple" = none
  str : mg "str" = none
  int : mg "int" = none
  bool : mg "bool" = none
  dict : mg "dict" = none
  range : mg "range" = none
  sorted : mg "sorted" = none
  abs : mg "abs" = none
  min : mg "min" = none
  max : mg "max" = none
theorem vals_signs : ∀ (l : List Nat) (vs : List Value), vs.length = l.length → (∀ (j : Nat) (v : Value), vs[j]? = some v → ∃ c u, l[j]? = some c ∧ v = .str ⟨#[c]⟩ u) → Vals (l.map fun c => V.str ⟨#[c]⟩) vs
  | [], [], _, _ => .nil
  | [], _ :: _, h, _ => by simp at h
  | _ :: _, [], h, _ => by simp at h
  | c :: l, v :: vs, h, k => by
    obtain ⟨c', u, e, rfl⟩ := k 0 v rfl
    cases e
    exact .cons ⟨u, rfl⟩ (vals_signs l vs (by simpa using h) fun j v e => k (j + 1) v e)
theorem call_signs {X : Cx} (hc : X.calm = true) : CallR X (.type "list") (fun xs H Q => ∃ x : Str, xs = [.str x] ∧ x.cps.size ≤ 1000 ∧ ∀ p, H p = none → Q (.ref p) (upd H p (.lst (x.cps.toList.map fun c => V.str ⟨#[c]⟩)))) := by
  intro pins s σ H xs us Q I r h
  obtain ⟨x, rfl, hz, q⟩ := h
  obtain ⟨u, rfl, t, rfl⟩ := vals1 r
  have hz' : x.cps.size ≤ sizeLine := small hz
  refine call_list_str (I.ok.hd hc) x t (fun h' tk acc' c' hk hS hacc => ?_) hz'
  have hv : Vals (x.cps.toList.map fun c => V.str ⟨#[c]⟩) acc'.toList := vals_signs _ _ (by rw [Array.length_toList, Array.length_toList]; exact hacc.1) fun j v e => by
    obtain ⟨c, u, h1, h2⟩ := hacc.2 j v (by rw [← Array.getElem?_toList]; exact e)
    exact ⟨c, u, by rw [Array.getElem?_toList]; exact h1, h2⟩
  exact ⟨.ref s.heap.objs.size, _, I.laid (t' := tk) hk (Nat.le_refl _) (show ObjOk X.prog X.w _ h' _ (.lst _) from ⟨by rw [List.length_map, Array.length_toList]; exact hz', acc'.toList, c', hv, by rw [Array.toArray_toList]; exact hS⟩), rfl, q _ (I.hok.fresh (Nat.le_refl _))⟩
/-- for c in text -/
theorem for_text {x : Str} {g : TG} {tb : TS} {D : Ends} {σ : L2.St} {H : Hp} (Pv : Nat → L2.St → Hp → Prop) (h0 : Pv 0 σ H)
    (hs : ∀ i c σ H, x.cps.toList[i]? = some c → Pv i σ H → g (.str ⟨#[c]⟩) σ H fun σ2 H2 => tb { D with nx := Pv (i + 1), ct := Pv (i + 1), bk := D.nx } σ2 H2)
    (hd : ∀ σ H, Pv x.cps.toList.length σ H → D.nx σ H) :
    ∃ W : Nat → Nat → L2.St → Hp → Prop, (∃ m, W 0 m σ H) ∧ ∀ i m σ H, W i m σ H →
      ((Its x).stop i H ∧ D.nx σ H) ∨ ((Its x).go i H ∧ ∃ N : L2.St → Hp → Prop, (∀ σ' H', N σ' H' → ∃ m', m' < m ∧ W (i + 1) m' σ' H') ∧ ∀ v H', (Its x).yld i H v H' → g v σ H' fun σ2 H2 => tb { D with nx := N, ct := N, bk := D.nx } σ2 H2) := by
  refine for_it walk_str Pv h0 (fun _ _ _ _ _ => trivial) (fun i v σ H H' hi hp hy => ?_) (fun σ H hp => hd σ H (by rw [Array.length_toList]; exact hp))
  obtain ⟨rfl, c, hc, rfl⟩ := hy
  exact hs i c σ H' (by rw [Array.getElem?_toList]; exact hc) hp
theorem lc_text {x : Str} {g : TG} {tt : TT} {te : TE} {vs : List Nat} {σ : L2.St} {H1 : Hp} {D : Addr} {Qd : Hp → Prop} (Pv : Nat → Hp → Prop) (h0 : Pv 0 (upd H1 D (.lst [])))
    (hs : ∀ i c H, x.cps.toList[i]? = some c → Pv i H → g (.str ⟨#[c]⟩) (wipe σ vs) H fun σ2 H2 => wipe σ2 vs = wipe σ vs ∧ tt σ2 H2 fun b H3 =>
      if b = true then te σ2 H3 fun y H4 => ∃ acc, H4 D = some (.lst acc) ∧ acc.length < sizeLine ∧ Pv (i + 1) (upd H4 D (.lst (acc ++ [y]))) else Pv (i + 1) H3) (hd : ∀ H, Pv x.cps.toList.length H → Qd H) :
    ∃ W : Nat → Nat → Hp → Prop, (∃ m, W 0 m (upd H1 D (.lst []))) ∧ ∀ i m H, W i m H →
      ((Its x).stop i H ∧ Qd H) ∨ ((Its x).go i H ∧ ∃ Nx : Hp → Prop, (∀ H', Nx H' → ∃ m', m' < m ∧ W (i + 1) m' H') ∧ ∀ v H', (Its x).yld i H v H' → g v (wipe σ vs) H' fun σ2 H2 => wipe σ2 vs = wipe σ vs ∧ tt σ2 H2 fun b H3 =>
        if b = true then te σ2 H3 fun y H4 => ∃ acc, H4 D = some (.lst acc) ∧ acc.length < sizeLine ∧ Nx (upd H4 D (.lst (acc ++ [y]))) else Nx H3) := by
  refine lc_it walk_str Pv h0 (fun _ _ _ _ => trivial) (fun i v H H' hi hp hy => ?_) (fun H hp => hd H (by rw [Array.length_toList]; exact hp))
  obtain ⟨rfl, c, hc, rfl⟩ := hy
  exact hs i c H' (by rw [Array.getElem?_toList]; exact hc) hp
/-! ### the text by places -/
def top (i : Nat) : Stmt := PySem.Challenge.pw_treewalks_k66_versions.main.body.getD i (.Pass ⟨0, 0, 0, 0⟩)
abbrev s_is_letter : Stmt := top 21
abbrev s_is_whole_number : Stmt := top 22
abbrev s_is_index : Stmt := top 23
abbrev s_is_node : Stmt := top 25
abbrev s_is_tree : Stmt := top 26
abbrev s_size_of : Stmt := top 27
abbrev s_part_at : Stmt := top 28
abbrev s_is_open : Stmt := top 29
abbrev s_replaced : Stmt := top 30
abbrev s_with_part : Stmt := top 31
abbrev s_mirrored : Stmt := top 32
abbrev s_node_at : Stmt := top 34
abbrev s_with_node : Stmt := top 35
abbrev s_without_node : Stmt := top 36
abbrev s_with_label : Stmt := top 37
abbrev s_turned : Stmt := top 38
abbrev s_has_form_of_edit : Stmt := top 41
abbrev s_edited : Stmt := top 42
abbrev s_is_kind : Stmt := top 45
abbrev s_ordered_steps : Stmt := top 46
abbrev s_deep_steps : Stmt := top 47
abbrev s_level_steps : Stmt := top 48
abbrev s_walk : Stmt := top 49
abbrev s_parse_tree : Stmt := top 51
abbrev s_sign_at : Stmt := top 52
abbrev s_read_tree : Stmt := top 53
abbrev s_read_left : Stmt := top 54
abbrev s_read_side : Stmt := top 55
abbrev s__law_stream : Stmt := top 59
abbrev s__law_take : Stmt := top 60
abbrev s__law_from : Stmt := top 61
abbrev s__law_equal : Stmt := top 62
abbrev s__law_odd : Stmt := top 63
abbrev s__law_letter : Stmt := top 64
abbrev s__law_paths : Stmt := top 65
abbrev s__law_part : Stmt := top 66
abbrev s__law_grafted : Stmt := top 67
abbrev s__law_swapped : Stmt := top 68
abbrev s__law_labels : Stmt := top 69
abbrev s__law_spot : Stmt := top 70
abbrev s__law_sorted_tree : Stmt := top 71
abbrev s__law_tree : Stmt := top 72
abbrev s__law_is_letter : Stmt := top 73
abbrev s__law_due_put : Stmt := top 74
abbrev s__law_due : Stmt := top 75
abbrev s__law_do : Stmt := top 76
abbrev s__law_some_edit : Stmt := top 77
abbrev s__law_valid_edit : Stmt := top 78
abbrev s__law_answer : Stmt := top 79
abbrev s__law_due_answer : Stmt := top 80
abbrev s__law_right : Stmt := top 81
abbrev s_law : Stmt := top 82
abbrev s_TooLarge___init__ : Stmt := inClass (top 4) 0
abbrev s_NotOpen___init__ : Stmt := inClass (top 6) 0
abbrev s_NoLabel___init__ : Stmt := inClass (top 7) 0
abbrev s_BadEdit___init__ : Stmt := inClass (top 12) 0
abbrev s_Rejected___init__ : Stmt := inClass (top 13) 0
abbrev s_BadText___init__ : Stmt := inClass (top 15) 0
abbrev s_NoPath___init__ : Stmt := inClass (top 16) 0
abbrev s_NoKind___init__ : Stmt := inClass (top 17) 0
abbrev s_NoIndex___init__ : Stmt := inClass (top 18) 0
abbrev s_NoVersion___init__ : Stmt := inClass (top 19) 0
abbrev s_Desk___init__ : Stmt := inClass (top 57) 2
abbrev s_Desk_read : Stmt := inClass (top 57) 3
abbrev s_Desk_is_edit : Stmt := inClass (top 57) 4
abbrev s_Desk_put : Stmt := inClass (top 57) 5
abbrev s_Desk_cut : Stmt := inClass (top 57) 6
abbrev s_Desk_label : Stmt := inClass (top 57) 7
abbrev s_Desk_turn : Stmt := inClass (top 57) 8
abbrev s_Desk_undo : Stmt := inClass (top 57) 9
abbrev s_Desk_run : Stmt := inClass (top 57) 10
abbrev s_Desk_version : Stmt := inClass (top 57) 11
abbrev s_Desk_size : Stmt := inClass (top 57) 12
abbrev s_Desk_first : Stmt := inClass (top 57) 13
abbrev s_Desk_between : Stmt := inClass (top 57) 14
abbrev s_Desk_last : Stmt := inClass (top 57) 15
abbrev s_Desk_tree : Stmt := inClass (top 57) 16
abbrev s_Desk_edits : Stmt := inClass (top 57) 17
abbrev s_Desk_history : Stmt := inClass (top 57) 18
abbrev s_Desk___len__ : Stmt := inClass (top 57) 19
abbrev s_Desk___str__ : Stmt := inClass (top 57) 20
abbrev s_Desk___eq__ : Stmt := inClass (top 57) 21
abbrev s_Desk_check_free : Stmt := inClass (top 57) 22
abbrev s_Desk_check_tree : Stmt := inClass (top 57) 23
abbrev s_Desk_checked_batch : Stmt := inClass (top 57) 24
abbrev s_Desk_take : Stmt := inClass (top 57) 25
abbrev s_Desk_could_take : Stmt := inClass (top 57) 26
abbrev s_Desk_called : Stmt := inClass (top 57) 27
abbrev s_Desk_told : Stmt := inClass (top 57) 28
theorem sc_is_letter : FnScope ["value"] ["value"] (defScope s_is_letter) := ⟨rfl, rfl, rfl, by decide +kernel, rfl, by decide +kernel, by decide +kernel⟩
theorem sc_is_whole_number : FnScope ["value"] ["value"] (defScope s_is_whole_number) := ⟨rfl, rfl, rfl, by decide +kernel, rfl, by decide +kernel, by decide +kernel⟩
theorem sc_is_index : FnScope ["value", "many"] ["value", "many"] (defScope s_is_index) := ⟨rfl, rfl, rfl, by decide +kernel, rfl, by decide +kernel, by decide +kernel⟩
theorem sc_is_node : FnScope ["value"] ["value"] (defScope s_is_node) := ⟨rfl, rfl, rfl, by decide +kernel, rfl, by decide +kernel, by decide +kernel⟩
theorem sc_is_tree : FnScope ["value", "count", "waiting", "part", "side"] ["value"] (defScope s_is_tree) := ⟨rfl, rfl, rfl, by decide +kernel, rfl, by decide +kernel, by decide +kernel⟩
theorem sc_size_of : FnScope ["tree"] ["tree"] (defScope s_size_of) := ⟨rfl, rfl, rfl, by decide +kernel, rfl, by decide +kernel, by decide +kernel⟩
theorem sc_part_at : FnScope ["tree", "path", "part", "step"] ["tree", "path"] (defScope s_part_at) := ⟨rfl, rfl, rfl, by decide +kernel, rfl, by decide +kernel, by decide +kernel⟩
theorem sc_is_open : FnScope ["tree", "path"] ["tree", "path"] (defScope s_is_open) := ⟨rfl, rfl, rfl, by decide +kernel, rfl, by decide +kernel, by decide +kernel⟩
theorem sc_replaced : FnScope ["tree", "path", "part", "old"] ["tree", "path", "part"] (defScope s_replaced) := ⟨rfl, rfl, rfl, by decide +kernel, rfl, by decide +kernel, by decide +kernel⟩
theorem sc_with_part : FnScope ["tree", "path", "part", "left", "label", "right"] ["tree", "path", "part"] (defScope s_with_part) := ⟨rfl, rfl, rfl, by decide +kernel, rfl, by decide +kernel, by decide +kernel⟩
theorem sc_mirrored : FnScope ["tree", "left", "label", "right"] ["tree"] (defScope s_mirrored) := ⟨rfl, rfl, rfl, by decide +kernel, rfl, by decide +kernel, by decide +kernel⟩
theorem sc_node_at : FnScope ["tree", "path", "part"] ["tree", "path"] (defScope s_node_at) := ⟨rfl, rfl, rfl, by decide +kernel, rfl, by decide +kernel, by decide +kernel⟩
theorem sc_with_node : FnScope ["tree", "path", "label"] ["tree", "path", "label"] (defScope s_with_node) := ⟨rfl, rfl, rfl, by decide +kernel, rfl, by decide +kernel, by decide +kernel⟩
theorem sc_without_node : FnScope ["tree", "path"] ["tree", "path"] (defScope s_without_node) := ⟨rfl, rfl, rfl, by decide +kernel, rfl, by decide +kernel, by decide +kernel⟩
theorem sc_with_label : FnScope ["tree", "path", "label", "left", "old", "right"] ["tree", "path", "label"] (defScope s_with_label) := ⟨rfl, rfl, rfl, by decide +kernel, rfl, by decide +kernel, by decide +kernel⟩
theorem sc_turned : FnScope ["tree", "path"] ["tree", "path"] (defScope s_turned) := ⟨rfl, rfl, rfl, by decide +kernel, rfl, by decide +kernel, by decide +kernel⟩
theorem sc_has_form_of_edit : FnScope ["value"] ["value"] (defScope s_has_form_of_edit) := ⟨rfl, rfl, rfl, by decide +kernel, rfl, by decide +kernel, by decide +kernel⟩
theorem sc_edited : FnScope ["tree", "edit", "word", "rest", "action"] ["tree", "edit"] (defScope s_edited) := ⟨rfl, rfl, rfl, by decide +kernel, rfl, by decide +kernel, by decide +kernel⟩
theorem sc_is_kind : FnScope ["value"] ["value"] (defScope s_is_kind) := ⟨rfl, rfl, rfl, by decide +kernel, rfl, by decide +kernel, by decide +kernel⟩
theorem sc_ordered_steps : FnScope ["tree", "kind"] ["tree", "kind"] (defScope s_ordered_steps) := ⟨rfl, rfl, rfl, by decide +kernel, rfl, by decide +kernel, by decide +kernel⟩
theorem sc_deep_steps : FnScope ["tree", "kind", "path", "left", "label", "right", "root", "lefts", "rights"] ["tree", "kind", "path"] (defScope s_deep_steps) := ⟨rfl, rfl, rfl, by decide +kernel, rfl, by decide +kernel, by decide +kernel⟩
theorem sc_level_steps : FnScope ["tree"] ["tree"] (defScope s_level_steps) := ⟨rfl, rfl, rfl, by decide +kernel, rfl, by decide +kernel, by decide +kernel⟩
theorem sc_walk : FnScope ["tree", "kind", "path", "label"] ["tree", "kind"] (defScope s_walk) := ⟨rfl, rfl, rfl, by decide +kernel, rfl, by decide +kernel, by decide +kernel⟩
theorem sc_parse_tree : FnScope ["text", "tree", "behind"] ["text"] (defScope s_parse_tree) := ⟨rfl, rfl, rfl, by decide +kernel, rfl, by decide +kernel, by decide +kernel⟩
theorem sc_sign_at : FnScope ["text", "at"] ["text", "at"] (defScope s_sign_at) := ⟨rfl, rfl, rfl, by decide +kernel, rfl, by decide +kernel, by decide +kernel⟩
theorem sc_read_tree : FnScope ["text", "at", "room", "label", "left", "comma", "rest", "right", "end"] ["text", "at", "room"] (defScope s_read_tree) := ⟨rfl, rfl, rfl, by decide +kernel, rfl, by decide +kernel, by decide +kernel⟩
theorem sc_read_left : FnScope ["text", "at", "room", "left", "comma"] ["text", "at", "room"] (defScope s_read_left) := ⟨rfl, rfl, rfl, by decide +kernel, rfl, by decide +kernel, by decide +kernel⟩
theorem sc_read_side : FnScope ["text", "at", "room"] ["text", "at", "room"] (defScope s_read_side) := ⟨rfl, rfl, rfl, by decide +kernel, rfl, by decide +kernel, by decide +kernel⟩
theorem sc__law_stream : FnScope ["_law_script", "_law_turn", "_law_cell", "_law_rest"] ["_law_script", "_law_turn"] (defScope s__law_stream) := ⟨rfl, rfl, rfl, by decide +kernel, rfl, by decide +kernel, by decide +kernel⟩
theorem sc__law_take : FnScope ["_law_stream_here", "_law_many", "_law_found", "_law_low", "_law_high", "_law_turn", "_law_mixed"] ["_law_stream_here", "_law_many"] (defScope s__law_take) := ⟨rfl, rfl, rfl, by decide +kernel, rfl, by decide +kernel, by decide +kernel⟩
theorem sc__law_from : FnScope ["_law_thing", "_law_low", "_law_high"] ["_law_thing", "_law_low", "_law_high"] (defScope s__law_from) := ⟨rfl, rfl, rfl, by decide +kernel, rfl, by decide +kernel, by decide +kernel⟩
theorem sc__law_equal : FnScope ["_law_one", "_law_other"] ["_law_one", "_law_other"] (defScope s__law_equal) := ⟨rfl, rfl, rfl, by decide +kernel, rfl, by decide +kernel, by decide +kernel⟩
theorem sc__law_odd : FnScope ["_law_stream_here", "_law_some"] ["_law_stream_here"] (defScope s__law_odd) := ⟨rfl, rfl, rfl, by decide +kernel, rfl, by decide +kernel, by decide +kernel⟩
theorem sc__law_letter : FnScope ["_law_stream_here"] ["_law_stream_here"] (defScope s__law_letter) := ⟨rfl, rfl, rfl, by decide +kernel, rfl, by decide +kernel, by decide +kernel⟩
theorem sc__law_paths : FnScope ["_law_tree_here", "_law_nodes", "_law_opens", "_law_waiting", "_law_path", "_law_part_here"] ["_law_tree_here"] (defScope s__law_paths) := ⟨rfl, rfl, rfl, by decide +kernel, rfl, by decide +kernel, by decide +kernel⟩
theorem sc__law_part : FnScope ["_law_tree_here", "_law_path", "_law_step"] ["_law_tree_here", "_law_path"] (defScope s__law_part) := ⟨rfl, rfl, rfl, by decide +kernel, rfl, by decide +kernel, by decide +kernel⟩
theorem sc__law_grafted : FnScope ["_law_tree_here", "_law_path", "_law_part_here"] ["_law_tree_here", "_law_path", "_law_part_here"] (defScope s__law_grafted) := ⟨rfl, rfl, rfl, by decide +kernel, rfl, by decide +kernel, by decide +kernel⟩
theorem sc__law_swapped : FnScope ["_law_tree_here"] ["_law_tree_here"] (defScope s__law_swapped) := ⟨rfl, rfl, rfl, by decide +kernel, rfl, by decide +kernel, by decide +kernel⟩
theorem sc__law_labels : FnScope ["_law_tree_here", "_law_kind", "_law_one", "_law_other"] ["_law_tree_here", "_law_kind"] (defScope s__law_labels) := ⟨rfl, rfl, rfl, by decide +kernel, rfl, by decide +kernel, by decide +kernel⟩
theorem sc__law_spot : FnScope ["_law_tree_here", "_law_letter_here", "_law_path"] ["_law_tree_here", "_law_letter_here"] (defScope s__law_spot) := ⟨rfl, rfl, rfl, by decide +kernel, rfl, by decide +kernel, by decide +kernel⟩
theorem sc__law_sorted_tree : FnScope ["_law_stream_here", "_law_size", "_law_tree_here", "_law_left", "_law_k", "_law_letter_here"] ["_law_stream_here", "_law_size"] (defScope s__law_sorted_tree) := ⟨rfl, rfl, rfl, by decide +kernel, rfl, by decide +kernel, by decide +kernel⟩
theorem sc__law_tree : FnScope ["_law_stream_here", "_law_top", "_law_size", "_law_way", "_law_tree_here", "_law_k", "_law_path", "_law_opens", "_law_spot_here"] ["_law_stream_here", "_law_top"] (defScope s__law_tree) := ⟨rfl, rfl, rfl, by decide +kernel, rfl, by decide +kernel, by decide +kernel⟩
theorem sc__law_is_letter : FnScope ["_law_value"] ["_law_value"] (defScope s__law_is_letter) := ⟨rfl, rfl, rfl, by decide +kernel, rfl, by decide +kernel, by decide +kernel⟩
theorem sc__law_due_put : FnScope ["_law_tree_here", "_law_edit", "_law_nodes", "_law_opens"] ["_law_tree_here", "_law_edit", "_law_nodes", "_law_opens"] (defScope s__law_due_put) := ⟨rfl, rfl, rfl, by decide +kernel, rfl, by decide +kernel, by decide +kernel⟩
theorem sc__law_due : FnScope ["_law_tree_here", "_law_edit", "_law_path", "_law_nodes", "_law_opens", "_law_part_here"] ["_law_tree_here", "_law_edit"] (defScope s__law_due) := ⟨rfl, rfl, rfl, by decide +kernel, rfl, by decide +kernel, by decide +kernel⟩
theorem sc__law_do : FnScope ["_law_desk", "_law_edit"] ["_law_desk", "_law_edit"] (defScope s__law_do) := ⟨rfl, rfl, rfl, by decide +kernel, rfl, by decide +kernel, by decide +kernel⟩
theorem sc__law_some_edit : FnScope ["_law_stream_here", "_law_tree_here", "_law_top", "_law_nodes", "_law_opens", "_law_way", "_law_path", "_law_letter_here"] ["_law_stream_here", "_law_tree_here", "_law_top"] (defScope s__law_some_edit) := ⟨rfl, rfl, rfl, by decide +kernel, rfl, by decide +kernel, by decide +kernel⟩
theorem sc__law_valid_edit : FnScope ["_law_stream_here", "_law_tree_here", "_law_top", "_law_again", "_law_edit"] ["_law_stream_here", "_law_tree_here", "_law_top"] (defScope s__law_valid_edit) := ⟨rfl, rfl, rfl, by decide +kernel, rfl, by decide +kernel, by decide +kernel⟩
theorem sc__law_answer : FnScope ["_law_desk", "_law_moment", "error"] ["_law_desk", "_law_moment"] (defScope s__law_answer) := ⟨rfl, rfl, rfl, by decide +kernel, rfl, by decide +kernel, by decide +kernel⟩
theorem sc__law_due_answer : FnScope ["_law_states", "_law_moment"] ["_law_states", "_law_moment"] (defScope s__law_due_answer) := ⟨rfl, rfl, rfl, by decide +kernel, rfl, by decide +kernel, by decide +kernel⟩
theorem sc__law_right : FnScope ["_law_stream_here", "_law_desk", "_law_states", "_law_many", "_law_again", "_law_moment", "_law_kind", "_law_walked", "_law_found"] ["_law_stream_here", "_law_desk", "_law_states", "_law_many"] (defScope s__law_right) := ⟨rfl, rfl, rfl, by decide +kernel, rfl, by decide +kernel, by decide +kernel⟩
theorem sc_law : FnScope ["_law_script", "_law_turn", "_law_stream_here", "_law_states", "_law_desk", "_law_k", "_law_edit", "_law_value"] ["_law_script"] (defScope s_law) := ⟨rfl, rfl, rfl, by decide +kernel, rfl, by decide +kernel, by decide +kernel⟩
theorem sc_TooLarge___init__ : FnScope ["self", "limit"] ["self", "limit"] (defScope s_TooLarge___init__) := ⟨rfl, rfl, rfl, by decide +kernel, rfl, by decide +kernel, by decide +kernel⟩
theorem sc_NotOpen___init__ : FnScope ["self", "path"] ["self", "path"] (defScope s_NotOpen___init__) := ⟨rfl, rfl, rfl, by decide +kernel, rfl, by decide +kernel, by decide +kernel⟩
theorem sc_NoLabel___init__ : FnScope ["self", "letter"] ["self", "letter"] (defScope s_NoLabel___init__) := ⟨rfl, rfl, rfl, by decide +kernel, rfl, by decide +kernel, by decide +kernel⟩
theorem sc_BadEdit___init__ : FnScope ["self", "index"] ["self", "index"] (defScope s_BadEdit___init__) := ⟨rfl, rfl, rfl, by decide +kernel, rfl, by decide +kernel, by decide +kernel⟩
theorem sc_Rejected___init__ : FnScope ["self", "index"] ["self", "index"] (defScope s_Rejected___init__) := ⟨rfl, rfl, rfl, by decide +kernel, rfl, by decide +kernel, by decide +kernel⟩
theorem sc_BadText___init__ : FnScope ["self", "index"] ["self", "index"] (defScope s_BadText___init__) := ⟨rfl, rfl, rfl, by decide +kernel, rfl, by decide +kernel, by decide +kernel⟩
theorem sc_NoPath___init__ : FnScope ["self", "value"] ["self", "value"] (defScope s_NoPath___init__) := ⟨rfl, rfl, rfl, by decide +kernel, rfl, by decide +kernel, by decide +kernel⟩
theorem sc_NoKind___init__ : FnScope ["self", "value"] ["self", "value"] (defScope s_NoKind___init__) := ⟨rfl, rfl, rfl, by decide +kernel, rfl, by decide +kernel, by decide +kernel⟩
theorem sc_NoIndex___init__ : FnScope ["self", "value"] ["self", "value"] (defScope s_NoIndex___init__) := ⟨rfl, rfl, rfl, by decide +kernel, rfl, by decide +kernel, by decide +kernel⟩
theorem sc_NoVersion___init__ : FnScope ["self", "value"] ["self", "value"] (defScope s_NoVersion___init__) := ⟨rfl, rfl, rfl, by decide +kernel, rfl, by decide +kernel, by decide +kernel⟩
theorem sc_Desk___init__ : FnScope ["self", "tree"] ["self", "tree"] (defScope s_Desk___init__) := ⟨rfl, rfl, rfl, by decide +kernel, rfl, by decide +kernel, by decide +kernel⟩
theorem sc_Desk_read : FnScope ["cls", "text"] ["cls", "text"] (defScope s_Desk_read) := ⟨rfl, rfl, rfl, by decide +kernel, rfl, by decide +kernel, by decide +kernel⟩
theorem sc_Desk_is_edit : FnScope ["value"] ["value"] (defScope s_Desk_is_edit) := ⟨rfl, rfl, rfl, by decide +kernel, rfl, by decide +kernel, by decide +kernel⟩
theorem sc_Desk_put : FnScope ["self", "path", "label"] ["self", "path", "label"] (defScope s_Desk_put) := ⟨rfl, rfl, rfl, by decide +kernel, rfl, by decide +kernel, by decide +kernel⟩
theorem sc_Desk_cut : FnScope ["self", "path"] ["self", "path"] (defScope s_Desk_cut) := ⟨rfl, rfl, rfl, by decide +kernel, rfl, by decide +kernel, by decide +kernel⟩
theorem sc_Desk_label : FnScope ["self", "path", "label"] ["self", "path", "label"] (defScope s_Desk_label) := ⟨rfl, rfl, rfl, by decide +kernel, rfl, by decide +kernel, by decide +kernel⟩
theorem sc_Desk_turn : FnScope ["self", "path"] ["self", "path"] (defScope s_Desk_turn) := ⟨rfl, rfl, rfl, by decide +kernel, rfl, by decide +kernel, by decide +kernel⟩
theorem sc_Desk_undo : FnScope ["self"] ["self"] (defScope s_Desk_undo) := ⟨rfl, rfl, rfl, by decide +kernel, rfl, by decide +kernel, by decide +kernel⟩
theorem sc_Desk_version : FnScope ["self"] ["self"] (defScope s_Desk_version) := ⟨rfl, rfl, rfl, by decide +kernel, rfl, by decide +kernel, by decide +kernel⟩
theorem sc_Desk_size : FnScope ["self"] ["self"] (defScope s_Desk_size) := ⟨rfl, rfl, rfl, by decide +kernel, rfl, by decide +kernel, by decide +kernel⟩
theorem sc_Desk_first : FnScope ["self"] ["self"] (defScope s_Desk_first) := ⟨rfl, rfl, rfl, by decide +kernel, rfl, by decide +kernel, by decide +kernel⟩
theorem sc_Desk_between : FnScope ["self"] ["self"] (defScope s_Desk_between) := ⟨rfl, rfl, rfl, by decide +kernel, rfl, by decide +kernel, by decide +kernel⟩
theorem sc_Desk_last : FnScope ["self"] ["self"] (defScope s_Desk_last) := ⟨rfl, rfl, rfl, by decide +kernel, rfl, by decide +kernel, by decide +kernel⟩
theorem sc_Desk_edits : FnScope ["self"] ["self"] (defScope s_Desk_edits) := ⟨rfl, rfl, rfl, by decide +kernel, rfl, by decide +kernel, by decide +kernel⟩
theorem sc_Desk___len__ : FnScope ["self"] ["self"] (defScope s_Desk___len__) := ⟨rfl, rfl, rfl, by decide +kernel, rfl, by decide +kernel, by decide +kernel⟩
theorem sc_Desk___str__ : FnScope ["self"] ["self"] (defScope s_Desk___str__) := ⟨rfl, rfl, rfl, by decide +kernel, rfl, by decide +kernel, by decide +kernel⟩
theorem sc_Desk___eq__ : FnScope ["self", "other"] ["self", "other"] (defScope s_Desk___eq__) := ⟨rfl, rfl, rfl, by decide +kernel, rfl, by decide +kernel, by decide +kernel⟩
theorem sc_Desk_check_free : FnScope ["self"] ["self"] (defScope s_Desk_check_free) := ⟨rfl, rfl, rfl, by decide +kernel, rfl, by decide +kernel, by decide +kernel⟩
theorem sc_Desk_check_tree : FnScope ["self", "tree"] ["self", "tree"] (defScope s_Desk_check_tree) := ⟨rfl, rfl, rfl, by decide +kernel, rfl, by decide +kernel, by decide +kernel⟩
theorem sc_Desk_checked_batch : FnScope ["self", "edits", "index", "edit"] ["self", "edits"] (defScope s_Desk_checked_batch) := ⟨rfl, rfl, rfl, by decide +kernel, rfl, by decide +kernel, by decide +kernel⟩
theorem sc_Desk_take : FnScope ["self", "edit", "tree"] ["self", "edit"] (defScope s_Desk_take) := ⟨rfl, rfl, rfl, by decide +kernel, rfl, by decide +kernel, by decide +kernel⟩
theorem sc_Desk_could_take : FnScope ["self", "edit"] ["self", "edit"] (defScope s_Desk_could_take) := ⟨rfl, rfl, rfl, by decide +kernel, rfl, by decide +kernel, by decide +kernel⟩
theorem sc_Desk_called : FnScope ["self", "edit"] ["self", "edit"] (defScope s_Desk_called) := ⟨rfl, rfl, rfl, by decide +kernel, rfl, by decide +kernel, by decide +kernel⟩
theorem sc_Desk_told : FnScope ["self", "name"] ["self", "name"] (defScope s_Desk_told) := ⟨rfl, rfl, rfl, by decide +kernel, rfl, by decide +kernel, by decide +kernel⟩
/-! ### xs != [], xs == [] -/
abbrev vc (c : Nat) : V := .str (ch c)
theorem map_vc (l : List Nat) : l.map vc = (l.map ch).map V.str := by rw [List.map_map]; rfl
section
variable {X : Cx}
theorem op_neL (hu : X.A.units < cLine) : OpR X (compareOp .NotEq) (fun x y H Q => ∃ a b xs, x = .ref a ∧ y = .ref b ∧ SqL X.K H a xs ∧ SqL X.K H b [] ∧ Q (.bl (!xs.isEmpty)) H) := by
  intro pins s σ H x y v u Q I rx ry h
  obtain ⟨a, b, xs, rfl, rfl, hx, hy, q⟩ := h
  cases rx
  cases ry
  obtain ⟨its, r1, t1, _⟩ := I.list hx
  obtain ⟨its2, r2, t2, _⟩ := I.list hy
  cases r2
  cases r1 with
  | nil =>
    have rc := SeqAt.RcNeAt.lists (A := X.A) (s := s) (items := ([] : List Value).toArray) (items2 := ([] : List Value).toArray) (e := fun _ => true) t1.isList t2.isList rfl hu (fun j h1 _ => absurd h1 (by simp))
    exact rc X.prog X.w X.xe _ ⟨.bl _, H, I, rfl, q⟩
  | cons _ _ =>
    have rc := SeqAt.RcNeAt.lists_lengths (A := X.A) (s := s) t1.isList t2.isList (by simp) hu
    exact rc X.prog X.w X.xe _ ⟨.bl _, H, I, rfl, q⟩
end
theorem op_eqL {X : Cx} (hu : X.A.units < cLine) : OpR X (compareOp .Eq) (fun x y H Q => ∃ a b xs, x = .ref a ∧ y = .ref b ∧ SqL X.K H a xs ∧ SqL X.K H b [] ∧ Q (.bl xs.isEmpty) H) := by
  intro pins s σ H x y v u Q I rx ry h
  obtain ⟨a, b, xs, rfl, rfl, hx, hy, q⟩ := h
  cases rx
  cases ry
  obtain ⟨its, r1, t1, _⟩ := I.list hx
  obtain ⟨its2, r2, t2, _⟩ := I.list hy
  cases r2
  cases r1 with
  | nil =>
    have rc := SeqAt.RcAt.lists (A := X.A) (s := s) (items := ([] : List Value).toArray) (items2 := ([] : List Value).toArray) (e := fun _ => true) t1.isList t2.isList rfl hu (fun j h1 _ => absurd h1 (by simp))
    exact rc X.prog X.w X.xe _ ⟨.bl _, H, I, rfl, q⟩
  | cons _ _ =>
    have rc := SeqAt.RcAt.lists_lengths (A := X.A) (s := s) t1.isList t2.isList (by simp) hu
    exact rc X.prog X.w X.xe _ ⟨.bl _, H, I, rfl, q⟩
/-! ### a def entered at one caller -/
theorem enter_def {P : Program} {w : World} {K : PySem.W.Frag} {mg : Str → Option Value} {base : Heap} {f : Addr} {fd : FuncData} {N ps : List Str} {k : Nat} {x qual : Str} {st : Stmt} (F : Fun K x qual st f fd) (S : FnScope N ps (defScope st))
    {A : Around} {outer : List Env} {s : Shared} {H : Hp} {args : Args} {us : List Value} {vs : List V} {Q : VK} {E : XK}
    (room : Room (k + 1) A) (en : Env0 P w K mg base A outer s H) (bd : BindsTo s fd args (ps.zip us)) (rel : Vals vs us) (hln : vs.length = ps.length)
    (body : ∀ cdv : Value, Room k (A.deeper (envOfC qual (defScope st) s.heap.objs.size f cdv)) →
      ∃ t, PSs (cxOf CX0 P w K mg base N qual (defScope st) f cdv A outer s H E).nox (defBody st) t ∧ t { nx := fun _ H' => Q .non H', rt := Q } (start N vs) H) :
    codeAny (model P w) A (.call (.ref f) args) (CR CX0 outer P w H s Q E) s := by
  obtain ⟨oc, od, kV, doc, pm, an, cdv, ct, osl, rfl, look, code⟩ := F.ex
  have still : ∀ b o, base.get? b = some o → s.heap.get? b = some o := fun b o e => (en.bs b o e).1
  have inK : K.In s.heap := en.mod.kin.keeps still
  have noL : s.heap.NoLimit := en.mod.nolimit.keeps still
  have kinds : ∀ y ∈ ps.zip us, (defScope st).names.lookup y.1 = some .local ∨
      ((defScope st).names.lookup y.1 = some .cell ∧ ((cellsFrom (s.heap.objs.size + 1) (defScope st).names []).lookup y.1).isSome = true) := by
    rintro ⟨nm, u⟩ hy
    cases S.par nm (List.of_mem_zip hy).1 with
    | inl z => exact .inl z
    | inr z => exact .inr ⟨z, PySem.W.cellsFrom_some _ _ _ (.inl z)⟩
  have step := codeAny_call_function (prog := P) (w := w) (A := A) (s := s) room.depth (inK _ _ look) rfl S.co S.gen rfl (PySem.W.codeRec_of inK code)
    (R := CR CX0 outer P w H s Q E) (args := args)
  refine step (bd _ _ _ _ ?_)
  refine wpAny_newFunctionEnv_cells S.kind kinds ?_
  intro env isEnv s1 inC
  subst isEnv
  refine ⟨noL.keeps inC.toInCall.keep, codeAny_func ?_⟩
  obtain ⟨t, ht, hq⟩ := body cdv (room.deeper _)
  have J : Inv (cxOf CX0 P w K mg base N qual (defScope st) f cdv A outer s H E) [] (start N vs) H s1 := inv_start S room.hd en hln rel inC
  refine wpAny_mono (ht.nox.run [] s1 (start N vs) H _ J hq) ?_ ?_
  · intro fl s' done
    cases fl with
    | ret u =>
      obtain ⟨v, σ', H', I', rv, qv⟩ := done
      exact ⟨v, H', I'.os, I'.bare, I'.base, I'.hok, rv, qv⟩
    | next =>
      obtain ⟨σ', H', I', qv⟩ := done
      exact ⟨V.non, H', I'.os, I'.bare, I'.base, I'.hok, rfl, qv⟩
    | brk => exact done.elim fun _ z => z.elim fun _ z => z.2.elim
    | cont => exact done.elim fun _ z => z.elim fun _ z => z.2.elim
  · intro e s' z
    exact z
/-! ### the law's own call -/
theorem law_at {P : Program} {w : World} {K : PySem.W.Frag} {mg mb : Str → Option Value} {fa a : Addr} {s₁ : Shared} {vs : List Value} {ns : List Int}
    (inK : K.In s₁.heap) (gl : s₁.heap.Ns mainGlobals mg) (bl : s₁.heap.Ns builtinsNs mb) (isB : ∀ x : Str, x ≠ "__name__" → mb x = bootBuiltins x) (lim : s₁.heap.NoLimit) (gens : s₁.gens = #[])
    (obj : s₁.heap.get? a = some { cls := .type "list", data := .seq vs.toArray }) (hints : IntsAre vs ns) (few : ns.length ≤ sizeLine)
    (run : ∀ (base : Heap) (H : Hp), K.In base → base.Ns mainGlobals mg → Env0 P w K mg base callerA [] s₁ H → SqL K H a (ns.map V.int) →
      codeAny (model P w) callerA (.call (.ref fa) ⟨[.ref a], []⟩) (CR CX0 [] P w H s₁ (fun v _ => v = .bl true) fun _ _ _ => False) s₁) :
    codeAny (model P w) callerA (.call (.ref fa) ⟨[.ref a], []⟩) (fun r s' => r = .ok (.ret (.bool true)) ∧ OldK s₁.heap s'.heap ∧ s'.os = s₁.os ∧ AllBare s'.gens) s₁ := by
  have rel := vals_ints hints
  have lens := hints.length
  have found : ∃ H : Hp, Only H ∧ SqL K H a (ns.map V.int) ∧ HOk P w H s₁.heap ∧ (∀ b u, H b = some u → b = a ∧ K.lookup a = none) := by
    cases inText : K.lookup a with
    | some o =>
      have same := inK a o inText
      rw [obj] at same
      cases same
      have never : ∀ (u : HO), (none : Option HO) ≠ some u := fun u z => by cases z
      refine ⟨fun _ => none, fun _ => .inl rfl, ?_, (fun b u z => (never u z).elim), (fun b u z => (never u z).elim)⟩
      refine .inr ⟨_, vs.toArray, _, inText, rfl, rfl, rfl, ?_, ?_⟩
      · rw [List.size_toArray, lens]
        exact few
      · rw [List.toList_toArray]
        exact rel
    | none =>
      let here : HO := .frz { cls := .type "list", data := .seq vs.toArray } (.lst (ns.map V.int))
      have only : ∀ b u, (if b = a then some here else none) = some u → b = a ∧ u = here := fun b u z => by
        by_cases hb : b = a
        · rw [if_pos hb] at z
          exact ⟨hb, (Option.some.inj z).symm⟩
        · rw [if_neg hb] at z
          cases z
      refine ⟨fun b => if b = a then some here else none, fun b => ?_, .inl (.inr ⟨{ cls := .type "list", data := .seq vs.toArray }, if_pos rfl⟩), fun b u z => ?_, fun b u z => ⟨(only b u z).1, rfl⟩⟩
      · by_cases hb : b = a
        · exact .inr ⟨_, _, if_pos hb⟩
        · exact .inl (if_neg hb)
      · obtain ⟨rfl, rfl⟩ := only b u z
        exact ⟨obj, by rw [List.length_map]; exact few, vs, _, rel, obj⟩
  obtain ⟨H, hO, hS, hok, hA⟩ := found
  have under : ∀ {b : Addr} {o : Obj}, s₁.heap.get? b = some o → H b = none → (hidT s₁.heap H).get? b = some o := fun e z => hidT_get e z
  have notDict : ∀ {b : Addr} {o : Obj} {es : Array DictEntry} {ep : Nat}, s₁.heap.get? b = some o → o.data = .dict es ep → H b = none := by
    intro b o es ep e isD
    cases z : H b with
    | none => rfl
    | some u =>
      obtain ⟨rfl, _⟩ := hA b u z
      rw [obj] at e
      cases e
      cases isD
  have ns' : ∀ {b : Addr} {m : Str → Option Value}, s₁.heap.Ns b m → (hidT s₁.heap H).Ns b m := by
    rintro b m ⟨o, es, ep, e, isD, r⟩
    exact ⟨o, es, ep, under e (notDict e isD), isD, r⟩
  have inK' : K.In (hidT s₁.heap H) := by
    intro b o e
    refine under (inK b o e) ?_
    cases z : H b with
    | none => rfl
    | some u =>
      obtain ⟨rfl, no⟩ := hA b u z
      rw [no] at e
      cases e
  obtain ⟨mc, l1, l2⟩ := lim
  have env : Env0 P w K mg (hidT s₁.heap H) callerA [] s₁ H :=
    ⟨rfl, ⟨inK', ns' gl, ⟨mb, ns' bl, isB⟩, ⟨mc, ns' l1, l2⟩⟩, fun _ _ e => of_hidT e, Nat.le_of_eq (hidT_size _ _), trivial, (fun _ hb => nomatch hb), hok, .of_eq gens⟩
  refine codeAny_mono (run _ H inK' (ns' gl) env hS) ?_
  intro r s' h
  cases r with
  | error e => exact h.elim
  | ok fl =>
    cases fl with
    | next => exact h.elim
    | brk => exact h.elim
    | cont => exact h.elim
    | ret u =>
      obtain ⟨v, H', os, bare, un, hok', rv, isT⟩ := h
      subst isT
      cases rv
      refine ⟨rfl, OldK.of_keep ?_, os, bare⟩
      intro b o e
      cases z : H b with
      | none => exact un.keep b o e z (fun y => nomatch y) (fun y => nomatch y)
      | some u =>
        rcases hO b with y | ⟨ob, xs, y⟩
        · rw [z] at y
          cases y
        · have y2 := un.frzs b ob _ y
          obtain ⟨e1, _⟩ := hok b _ y
          obtain ⟨e2, _⟩ := hok' b _ y2
          rw [e] at e1
          cases e1
          exact e2
/-! ### defs that ask for repr: the guards are carried -/
structure FnOkG (P : Program) (w : World) (K : PySem.W.Frag) (mg : Str → Option Value) (base : Heap) (k : Nat) (f : Addr) (fd : FuncData) (ps : List Str) (sp : Sp) : Prop where
  len : ∀ vs H Q E, sp vs H Q E → vs.length = ps.length
  run : ∀ (A : Around) (outer : List Env) (s : Shared) (H : Hp) (args : Args) (us : List Value) (vs : List V) (Q : VK) (E : XK), A.guards = some [] → Room k A → Env0 P w K mg base A outer s H →
    BindsTo s fd args (ps.zip us) → Vals vs us → sp vs H Q E → codeAny (model P w) A (.call (.ref f) args) (CR CX0 outer P w H s Q E) s
theorem fnG {P : Program} {w : World} {K : PySem.W.Frag} {mg : Str → Option Value} {base : Heap} {f : Addr} {fd : FuncData} {N ps : List Str} {k : Nat} {x qual : Str} {st : Stmt} {sp : Sp} (F : Fun K x qual st f fd) (S : FnScope N ps (defScope st))
    (len : ∀ vs H Q E, sp vs H Q E → vs.length = ps.length)
    (body : ∀ (cdv : Value) (A : Around) (outer : List Env) (s : Shared) (H : Hp) (vs : List V) (Q : VK) (E : XK), A.guards = some [] → Room k (A.deeper (envOfC qual (defScope st) s.heap.objs.size f cdv)) → sp vs H Q E →
      ∃ t, PSs (cxOf CX0 P w K mg base N qual (defScope st) f cdv A outer s H E).nox (defBody st) t ∧ t { nx := fun _ H' => Q .non H', rt := Q } (start N vs) H) :
    FnOkG P w K mg base (k + 1) f fd ps sp := by
  refine ⟨len, ?_⟩
  intro A outer s H args us vs Q E gs room en bd rel hsp
  exact enter_def F S room en bd rel (len _ _ _ _ hsp) fun cdv hr => body cdv A outer s H vs Q E gs hr hsp
theorem pe_callG {X : Cx} {k : Nat} {f : Addr} {fd : FuncData} {ps : List Str} {sp : Sp} {x : Str} {p pos : Pos} {e : Expr} {es : List Expr} {t : TA}
    (G : FnOkG X.prog X.w X.K X.mg X.base k f fd ps sp) (gs : X.A.guards = some []) (room : Room k X.A) (isG : Gl X x) (at0 : X.mg x = some (.ref f)) (kp : PySem.W.keepIn X.K (.ref f) = true) (bd : Binds X.K fd ps []) (args : PA X (e :: es) t)
    (nd : (x == ("__debug__" : Str)) = false := by decide) (he : starEach (e :: es) X.env = (false, eval e X.env) :: starEach es X.env := by rfl) (hp : (backTo pos (starEach es X.env)).any (·.1) = false := by rfl) :
    PE X (.Call (.Name x p) (e :: es) [] pos) (tCall sp [] E0 t) := by
  constructor
  intro pins s σ H Q I h
  refine wpAny_Call_Name_kw (ld_glob I isG at0 ?_ nd)
  refine PySem.W.callWith_K (h₀ := X.base) I.ok.mod.kin kp (thn (args.run pos pins s σ H _ I h) ?_) he hp
  rintro us s1 ⟨vs, H1, I1, rel, q⟩
  refine ⟨I1.kIn, ?_⟩
  have q' : sp vs H1 Q E0 := by
    rw [List.append_nil] at q
    exact q
  have hl : (us ++ []).length = ps.length := by
    rw [List.append_nil, ← rel.length]
    exact G.len _ _ _ _ q'
  have bd' := bd s1 us I1.kIn hl
  rw [List.append_nil] at bd'
  refine wpAny_call (codeAny_mono (G.run X.A X.stack s1 H1 ⟨us, []⟩ us vs Q E0 gs room I1.env0 bd' rel q') ?_)
  intro r s' done
  cases r with
  | error e => exact done.elim
  | ok fl =>
    cases fl with
    | ret u => exact I1.after done
    | next => exact done.elim
    | brk => exact done.elim
    | cont => exact done.elim
/-- a def that asks for repr, with its promise -/
structure DfG (P : Program) (w : World) (K : PySem.W.Frag) (mg : Str → Option Value) (base : Heap) (k : Nat) (nm : Str) (ps : List Str) (sp : Sp) where
  f : Addr
  fd : FuncData
  ok : FnOkG P w K mg base k f fd ps sp
  b : Binds K fd ps []
  kp : PySem.W.keepIn K (.ref f) = true
  g : mg nm = some (.ref f)
/-! ### repr of data without dicts -/
mutual
def okR : PyData → Bool
  | .none => true
  | .bool _ => true
  | .int i => decide (0 ≤ i) && decide (i < 64)
  | .str x => decide (x.length ≤ 64) && x.cps.toList.all (· < 128)
  | .list xs => okRs xs
  | .tuple xs => okRs xs
  | .dict _ => false
def okRs : List PyData → Bool
  | [] => true
  | x :: xs => okR x && okRs xs
end
mutual
def wtR : PyData → Nat
  | .none => 4
  | .bool _ => 5
  | .int _ => 31
  | .str x => 10 * x.length + 2
  | .list xs => 3 + wtRs xs
  | .tuple xs => 3 + wtRs xs
  | .dict _ => 0
def wtRs : List PyData → Nat
  | [] => 0
  | x :: xs => wtR x + 2 + wtRs xs
end
theorem small_shown : ∀ n : Nat, n < 64 → (Str.ofString (toString (n : Int))).length ≤ 31 ∧ (n : Int).natAbs.log2 < 1920 := by decide +kernel
theorem listText_leR (ts : List Str) : (listText ts).length ≤ piled ts + 3 := by
  have h := textFrom_len_le ts 0 "["
  have e : (listText ts).length = (textFrom 0 "[" ts).length + 1 := by
    show (textFrom 0 "[" ts ++ "]").length = _
    rw [strLen_append]
    rfl
  have z : ∀ l : List Str, (l.map (·.length)).sum + 2 * l.length = piled l := by
    intro l
    induction l with
    | nil => rfl
    | cons t l ih =>
      rw [piled_cons, List.map_cons, List.sum_cons, List.length_cons]
      omega
  have z2 := z ts
  have z3 : (("[" : String) : Str).length = 1 := rfl
  omega
mutual
theorem shownR : ∀ d : PyData, okR d = true → d.shown.length ≤ wtR d ∧ d.showable = true ∧ d.hasDict = false
  | .none, _ => by
    simp only [PyData.shown, wtR, PyData.showable, PyData.hasDict, and_true]
    decide +kernel
  | .bool b, _ => by
    simp only [PyData.shown, wtR, PyData.showable, PyData.hasDict, and_true]
    cases b <;> decide +kernel
  | .int i, h => by
    simp only [okR, Bool.and_eq_true, decide_eq_true_eq] at h
    obtain ⟨h1, h2⟩ := small_shown i.toNat (by omega)
    rw [show ((i.toNat : Nat) : Int) = i by omega] at h1 h2
    simp only [PyData.shown, wtR, PyData.showable, PyData.hasDict, decide_eq_true_eq, and_true]
    exact ⟨h1, h2⟩
  | .str x, h => by
    simp only [okR, Bool.and_eq_true, decide_eq_true_eq, List.all_eq_true] at h
    have h1 := StrLaws.reprText_len x (fun c hc => Nat.lt_of_lt_of_le (h.2 c hc) (by decide))
    simp only [PyData.shown, wtR, PyData.showable, PyData.hasDict, and_true]
    omega
  | .list xs, h => by
    simp only [okR] at h
    obtain ⟨h1, h2, h3⟩ := shownRs xs h
    simp only [PyData.shown, wtR, PyData.showable, PyData.hasDict]
    exact ⟨Nat.le_trans (listText_leR _) (by omega), h2, h3⟩
  | .tuple xs, h => by
    simp only [okR] at h
    obtain ⟨h1, h2, h3⟩ := shownRs xs h
    simp only [PyData.shown, wtR, PyData.showable, PyData.hasDict]
    exact ⟨Nat.le_trans (fmt_text _) (by omega), h2, h3⟩
  | .dict _, h => by
    simp only [okR] at h
    exact absurd h Bool.false_ne_true
theorem shownRs : ∀ ds : List PyData, okRs ds = true → piled (PyData.shownAll ds) ≤ wtRs ds ∧ PyData.showableAll ds = true ∧ PyData.hasDictAll ds = false
  | [], _ => by
    simp only [PyData.shownAll, wtRs, PyData.showableAll, PyData.hasDictAll, and_true]
    exact Nat.le_refl _
  | d :: ds, h => by
    simp only [okRs, Bool.and_eq_true] at h
    obtain ⟨h1, h2, h5⟩ := shownR d h.1
    obtain ⟨h3, h4, h6⟩ := shownRs ds h.2
    simp only [PyData.shownAll, wtRs, PyData.showableAll, PyData.hasDictAll, h2, h4, h5, h6, Bool.and_self, Bool.or_self, and_true]
    rw [piled_cons]
    omega
end
def rReprR (K : PySem.W.Frag) : List V → Hp → VK → Prop := fun xs H Q => ∃ (a : Addr) (d : PyData), xs = [.ref a] ∧ Dp K H (.ref a) d ∧ okR d = true ∧ wtR d ≤ 1000000 ∧ d.depth ≤ 60 ∧ Q (.str d.shown) H
theorem call_reprR {X : Cx} (hg : X.A.guards = some []) (hu : X.A.units + 64 < cLine) : CallR X (.builtin "repr") (rReprR X.K) := by
  intro pins s σ H xs us Q I r h
  obtain ⟨a, d, rfl, hd, hs, hw, hz, q⟩ := h
  obtain ⟨u, rfl, rx⟩ := vals1 r
  cases rx
  obtain ⟨h1, h2, h3⟩ := shownR d hs
  obtain ⟨as, rd⟩ := Dp.reads I d _ _ hd rfl
  exact repr_of_reads' rd h2 (PyData.noDict_hsm h3) hg (by omega) (fun _ _ e => e) (fun h' u tk hk => ⟨.str d.shown, H, I.kept (t' := tk) hk, ⟨u, rfl⟩, q⟩) (by show _ ≤ 16777216; omega)
/-! ### walks -/
inductive Kd where
  | first
  | between
  | last
def Kd.str : Kd → Str
  | .first => "first"
  | .between => "between"
  | .last => "last"
def B.post : B → List Nat
  | .nil => []
  | .node l x r => l.post ++ r.post ++ [x]
def B.wk (k : Kd) (t : B) : List Nat := match k with
  | .first => t.pre
  | .between => t.mid
  | .last => t.post
def B.steps (k : Kd) : B → List Nat → List (List Nat × Nat)
  | .nil, _ => []
  | .node l x r, q => match k with
    | .first => [(q, x)] ++ l.steps k (q ++ [108]) ++ r.steps k (q ++ [114])
    | .between => l.steps k (q ++ [108]) ++ [(q, x)] ++ r.steps k (q ++ [114])
    | .last => l.steps k (q ++ [108]) ++ r.steps k (q ++ [114]) ++ [(q, x)]
theorem B.steps_wk (k : Kd) (t : B) : ∀ q : List Nat, (t.steps k q).map (·.2) = t.wk k := by
  induction t with
  | nil => intro q; cases k <;> rfl
  | node l x r h1 h2 =>
    intro q
    have a := h1 (q ++ [108])
    have b := h2 (q ++ [114])
    cases k
    · show ([(q, x)] ++ l.steps .first (q ++ [108]) ++ r.steps .first (q ++ [114])).map (·.2) = x :: (l.pre ++ r.pre)
      rw [List.map_append, List.map_append, a, b]; rfl
    · show (l.steps .between (q ++ [108]) ++ [(q, x)] ++ r.steps .between (q ++ [114])).map (·.2) = l.mid ++ x :: r.mid
      rw [List.map_append, List.map_append, a, b]
      show l.mid ++ [x] ++ r.mid = _
      rw [List.append_assoc]; rfl
    · show (l.steps .last (q ++ [108]) ++ r.steps .last (q ++ [114]) ++ [(q, x)]).map (·.2) = l.post ++ r.post ++ [x]
      rw [List.map_append, List.map_append, a, b]; rfl
theorem B.wk_len (k : Kd) (t : B) : (t.wk k).length = t.size := by
  cases k
  · exact t.pre_len
  · exact t.mid_len
  · show t.post.length = t.size
    induction t with
    | nil => rfl
    | node l x r h1 h2 =>
      show (l.post ++ r.post ++ [x]).length = l.size + 1 + r.size
      rw [List.length_append, List.length_append, h1, h2, List.length_cons, List.length_nil]
      omega
theorem B.steps_len (k : Kd) (t : B) (q : List Nat) : (t.steps k q).length = t.size := by
  rw [← t.wk_len k, ← t.steps_wk k q, List.length_map]
inductive StAt (H : Hp) : List V → List (List Nat × Nat) → Prop
  | nil : StAt H [] []
  | cons {a : Addr} {q : List Nat} {x : Nat} {vs : List V} {ss : List (List Nat × Nat)} : H a = some (.tup [.str (tx q), .str (ch x)]) → StAt H vs ss → StAt H (.ref a :: vs) ((q, x) :: ss)
theorem StAt.keep {H H' : Hp} (k : KeepT H H') {vs : List V} {ss : List (List Nat × Nat)} (h : StAt H vs ss) : StAt H' vs ss := by
  induction h with
  | nil => exact .nil
  | cons e _ ih => exact .cons (k _ _ e) ih
theorem StAt.same {H H' : Hp} (k : Same H H') {vs : List V} {ss : List (List Nat × Nat)} (h : StAt H vs ss) : StAt H' vs ss := h.keep (Tw.Same.keepT k)
theorem StAt.app {H : Hp} {vs us : List V} {ss ts : List (List Nat × Nat)} (h : StAt H vs ss) (g : StAt H us ts) : StAt H (vs ++ us) (ss ++ ts) := by
  induction h with
  | nil => exact g
  | cons e _ ih => exact .cons e ih
theorem StAt.len {H : Hp} {vs : List V} {ss : List (List Nat × Nat)} (h : StAt H vs ss) : vs.length = ss.length := by
  induction h with
  | nil => rfl
  | cons _ _ ih => rw [List.length_cons, List.length_cons, ih]
theorem StAt.get {H : Hp} {vs : List V} {ss : List (List Nat × Nat)} (h : StAt H vs ss) : ∀ {i : Nat} {v : V}, vs[i]? = some v → ∃ a q x, v = .ref a ∧ ss[i]? = some (q, x) ∧ H a = some (.tup [.str (tx q), .str (ch x)]) := by
  induction h with
  | nil => intro i v e; simp at e
  | cons e _ ih =>
    intro i v he
    cases i with
    | zero => cases he; exact ⟨_, _, _, rfl, rfl, e⟩
    | succ i => exact ih he
theorem str_l : Str.ofString "l" = tx [108] := by decide +kernel
theorem str_r : Str.ofString "r" = tx [114] := by decide +kernel
theorem str_0 : Str.ofString "" = tx [] := by decide +kernel
def spDeep (n : Nat) : Sp := fun vs H Q _ => ∃ (v : V) (t : B) (k : Kd) (q : List Nat), vs = [v, .str k.str, .str (tx q)] ∧ BAt H v t ∧ t.size < n ∧ t.size + q.length ≤ 200 ∧
  ∀ (p : Addr) (us : List V) (H' : Hp), Same H H' → H' p = some (.lst us) → StAt H' us (t.steps k q) → Q (.ref p) H'
theorem iteS {x y : Str} {A B : Prop} (h : x = y) (a : A) : if decide (V.str x = V.str y) = true then A else B := by
  rw [if_pos (decide_eq_true (congrArg V.str h))]; exact a
theorem iteR {x y : Str} {A B : Prop} (h : x ≠ y) (b : B) : if decide (V.str x = V.str y) = true then A else B := by
  rw [if_neg (fun z => h (V.str.inj (of_decide_eq_true z)))]; exact b
section
variable {P : Program} {w : World} {K : PySem.W.Frag} {mg : Str → Option Value} {base : Heap} {f : Addr} {fd : FuncData}
theorem ok_deep (F : Fun K "deep_steps" "deep_steps" s_deep_steps f fd) (b : Binds K fd ["tree", "kind", "path"] []) (g : mg "deep_steps" = some (.ref f)) : ∀ n : Nat, FnOk P w K mg base CX0 n f fd ["tree", "kind", "path"] (spDeep n)
  | 0 => by
    have no : ∀ vs H Q E, ¬ spDeep 0 vs H Q E := fun vs H Q E h => by
      obtain ⟨v, t, k, q, _, _, h1, _⟩ := h
      omega
    exact ⟨fun vs H Q E h => absurd h (no vs H Q E), fun A outer s H args us vs Q E _ _ _ _ h => absurd h (no vs H Q E)⟩
  | n + 1 => by
    have Dself : Df P w K mg base n "deep_steps" ["tree", "kind", "path"] (spDeep n) := ⟨f, fd, ok_deep F b g n, b, F.kp, g⟩
    refine F.ok sc_deep_steps (fun vs H Q E h => ?_) (fun cdv A outer s H vs Q E hr h => ?_)
    · obtain ⟨v, t, k, q, rfl, _⟩ := h
      rfl
    obtain ⟨v, t, k, pth, rfl, hv, hn, hz, q⟩ := h
    refine ⟨_, (pss_cons (ps_if (pt_cmpR op_isN (pv 0) pe_non (nomark _))
      (pss_one (ps_ret (pe_lst pa_nil))) pss_nil)
    (pss_cons (ps_asg (pv 0) (pg_tup rfl (pgs_cons (pg_name (i := 3) sc_deep_steps.nd rfl (.inl rfl)) (pgs_cons (pg_name (i := 4) sc_deep_steps.nd rfl (.inl rfl)) (pgs_cons (pg_name (i := 5) sc_deep_steps.nd rfl (.inl rfl)) pgs_nil)))))
    (pss_cons (ps_set (i := 6) sc_deep_steps.nd rfl (.inl rfl) (pe_lst (pa_cons (pe_tup (pa_cons (pv 2) (pa_cons (pv 4) pa_nil))) pa_nil)))
    (pss_cons (ps_set (i := 7) sc_deep_steps.nd rfl (.inl rfl) (pe_call Dself.ok (hr.mono (by omega)) rfl Dself.g Dself.kp Dself.b .nil pass0 (pa_cons (pv 3) (pa_cons (pv 1) (pa_cons (pe_op op_add_str (pv 2) pe_str) pa_nil)))))
    (pss_cons (ps_set (i := 8) sc_deep_steps.nd rfl (.inl rfl) (pe_call Dself.ok (hr.mono (by omega)) rfl Dself.g Dself.kp Dself.b .nil pass0 (pa_cons (pv 5) (pa_cons (pv 1) (pa_cons (pe_op op_add_str (pv 2) pe_str) pa_nil)))))
    (pss_cons (ps_if (pt_cmpR op_eq (pv 1) pe_str (nomark _))
      (pss_one (ps_ret (pe_op op_cat (pe_op op_cat (pv 6) (pv 7)) (pv 8)))) pss_nil)
    (pss_cons (ps_if (pt_cmpR op_eq (pv 1) pe_str (nomark _))
      (pss_one (ps_ret (pe_op op_cat (pe_op op_cat (pv 7) (pv 6)) (pv 8)))) pss_nil)
    (pss_one (ps_ret (pe_op op_cat (pe_op op_cat (pv 7) (pv 8)) (pv 6))))))))))), ?_⟩
    rcases hv.inv with ⟨rfl, rfl⟩ | ⟨a, l, r, x, tl, tr, rfl, rfl, ea, hl, hr'⟩
    · refine ⟨_, rfl, rfl, _, rfl, iteT ⟨(by show 0 ≤ sizeLine; decide), fun p np => ?_⟩⟩
      exact q p [] _ (same_new np _) upd_same .nil
    · refine ⟨_, rfl, rfl, _, rfl, iteF ?_⟩
      refine ⟨_, rfl, a, _, rfl, SqT.of ea, rfl, _, _, rfl, _, _, rfl, _, _, rfl, rfl, ?_⟩
      have sz : tl.size + 1 + tr.size < n + 1 := hn
      have sz2 : tl.size + 1 + tr.size + pth.length ≤ 200 := hz
      -- root
      refine ⟨_, rfl, _, rfl, (by show 2 ≤ sizeLine; decide), fun tp ntp => ⟨(by show 1 ≤ sizeLine; decide), fun ro nro => ?_⟩⟩
      have q1 := same_new ntp (.tup [.str (tx pth), .str (ch x)])
      have q2 := same_new nro (.lst [.ref tp])
      have etp := q2 _ _ (upd_same (H := H) (a := tp) (o := .tup [.str (tx pth), .str (ch x)]))
      have ero := upd_same (H := upd H tp (.tup [.str (tx pth), .str (ch x)])) (a := ro) (o := .lst [.ref tp])
      have s1 := q1.trans q2
      generalize upd (upd H tp (.tup [.str (tx pth), .str (ch x)])) ro (.lst [.ref tp]) = H1 at etp ero s1
      -- lefts
      refine ⟨_, rfl, _, rfl, _, rfl, _, _, rfl, rfl, ?_, ?_⟩
      · rw [str_l, tx_len, tx_len]; exact small (by show _ + 1 ≤ 1000; omega)
      rw [str_l, tx_app]
      refine ⟨l, tl, k, pth ++ [108], rfl, hl.same s1, by omega, by rw [List.length_append]; show _ + (_ + 1) ≤ 200; omega, fun lp ul H2 s2 elp stl => ?_⟩
      -- rights
      refine ⟨_, rfl, _, rfl, _, rfl, _, _, rfl, rfl, ?_, ?_⟩
      · rw [str_r, tx_len, tx_len]; exact small (by show _ + 1 ≤ 1000; omega)
      rw [str_r, tx_app]
      refine ⟨r, tr, k, pth ++ [114], rfl, (hr'.same s1).same s2, by omega, by rw [List.length_append]; show _ + (_ + 1) ≤ 200; omega, fun rp ur H3 s3 erp str => ?_⟩
      have ero3 := s3 _ _ (s2 _ _ ero)
      have elp3 := s3 _ _ elp
      have strt : StAt H3 [.ref tp] [(pth, x)] := .cons (s3 _ _ (s2 _ _ etp)) .nil
      have stl3 := stl.same s3
      have sA := (s1.trans s2).trans s3
      have ll := stl.len
      have lr := str.len
      rw [B.steps_len] at ll lr
      cases k
      · refine ⟨_, rfl, rfl, _, rfl, iteS rfl ?_⟩
        refine ⟨_, rfl, _, rfl, ro, lp, _, _, rfl, rfl, ero3, elp3, small (by show 1 + _ ≤ 1000; omega), fun c1 n1 => ?_⟩
        have k1 := same_new n1 (.lst ([.ref tp] ++ ul))
        refine ⟨_, rfl, c1, rp, _, _, rfl, rfl, upd_same, k1 _ _ erp, small (by rw [List.length_append]; show 1 + _ + _ ≤ 1000; omega), fun c2 n2 => ?_⟩
        have k2 := same_new n2 (.lst ([.ref tp] ++ ul ++ ur))
        exact q c2 _ _ (sA.trans (k1.trans k2)) upd_same (((strt.app stl3).app str).same (k1.trans k2))
      · refine ⟨_, rfl, rfl, _, rfl, iteR (by decide +kernel) ?_⟩
        refine ⟨_, rfl, rfl, _, rfl, iteS rfl ?_⟩
        refine ⟨_, rfl, _, rfl, lp, ro, _, _, rfl, rfl, elp3, ero3, small (by show _ + 1 ≤ 1000; omega), fun c1 n1 => ?_⟩
        have k1 := same_new n1 (.lst (ul ++ [.ref tp]))
        refine ⟨_, rfl, c1, rp, _, _, rfl, rfl, upd_same, k1 _ _ erp, small (by rw [List.length_append]; show _ + 1 + _ ≤ 1000; omega), fun c2 n2 => ?_⟩
        have k2 := same_new n2 (.lst (ul ++ [.ref tp] ++ ur))
        exact q c2 _ _ (sA.trans (k1.trans k2)) upd_same (((stl3.app strt).app str).same (k1.trans k2))
      · refine ⟨_, rfl, rfl, _, rfl, iteR (by decide +kernel) ?_⟩
        refine ⟨_, rfl, rfl, _, rfl, iteR (by decide +kernel) ?_⟩
        refine ⟨_, rfl, _, rfl, lp, rp, _, _, rfl, rfl, elp3, erp, small (by omega), fun c1 n1 => ?_⟩
        have k1 := same_new n1 (.lst (ul ++ ur))
        refine ⟨_, rfl, c1, ro, _, _, rfl, rfl, upd_same, k1 _ _ ero3, small (by rw [List.length_append]; show _ + _ + 1 ≤ 1000; omega), fun c2 n2 => ?_⟩
        have k2 := same_new n2 (.lst (ul ++ ur ++ [.ref tp]))
        exact q c2 _ _ (sA.trans (k1.trans k2)) upd_same (((stl3.app str).app strt).same (k1.trans k2))
/-- the tuple KINDS of the text -/
structure KindsT (K : PySem.W.Frag) (mg : Str → Option Value) (a : Addr) : Prop where
  mg : mg "KINDS" = some (.ref a)
  sq : ∀ H : Hp, SqT K H a [.str "first", .str "between", .str "last", .str "level"]
def spKind : Sp := fun vs H Q _ => ∃ k : Kd, vs = [.str k.str] ∧ Q (.bl true) H
theorem ok_kind {k : Nat} {aK : Addr} (F : Fun K "is_kind" "is_kind" s_is_kind f fd) (M : Mgs mg) (Kk : KindsT K mg aK) : FnOk P w K mg base CX0 (k + 1) f fd ["value"] spKind := by
  refine F.ok sc_is_kind (fun vs H Q E h => ?_) (fun cdv A outer s H vs Q E hr h => ?_)
  · obtain ⟨k, rfl, _⟩ := h
    rfl
  obtain ⟨k, rfl, q⟩ := h
  refine ⟨_, (pss_one (ps_ret (pe_and (pe_callB call_isi rfl M.isinstance (by decide +kernel) (pa_cons (pv 0) (pa_cons (pe_bltn (v := .ty "str") rfl M.str (by decide +kernel) rfl) pa_nil))) (pe_one (pe_cmpR op_in_seq (pv 0) (pe_glob (v := .ref _) rfl Kk.mg rfl) (by rfl)))))), ?_⟩
  refine ⟨_, rfl, _, _, _, _, true, rfl, .ty _, .base (.str _), kit_ty (by decide +kernel), _, rfl, iteT ?_⟩
  refine ⟨_, rfl, aK, _, rfl, .inr (Kk.sq H), rfl, ?_, ?_⟩
  · rfl
  · have e : (if false = true then !inV (.str k.str) [.str "first", .str "between", .str "last", .str "level"] else inV (.str k.str) [.str "first", .str "between", .str "last", .str "level"]) = true := by
      cases k <;> decide +kernel
    rw [e]
    exact q
def spSteps : Sp := fun vs H Q _ => ∃ (v : V) (t : B) (k : Kd), vs = [v, .str k.str] ∧ BAt H v t ∧ t.size ≤ 50 ∧
  ∀ (p : Addr) (us : List V) (H' : Hp), Same H H' → H' p = some (.lst us) → StAt H' us (t.steps k []) → Q (.ref p) H'
theorem ok_steps (F : Fun K "ordered_steps" "ordered_steps" s_ordered_steps f fd) (Dis_kind : Df P w K mg base 1 "is_kind" ["value"] spKind) (Ddeep_steps : Df P w K mg base 60 "deep_steps" ["tree", "kind", "path"] (spDeep 60)) :
    FnOk P w K mg base CX0 61 f fd ["tree", "kind"] spSteps := by
  refine F.ok sc_ordered_steps (fun vs H Q E h => ?_) (fun cdv A outer s H vs Q E hr h => ?_)
  · obtain ⟨v, t, k, rfl, _⟩ := h
    rfl
  obtain ⟨v, t, k, rfl, hv, hz, q⟩ := h
  refine ⟨_, (pss_cons (ps_if (pt_not (pt_val (pe_call Dis_kind.ok (hr.mono (by omega)) rfl Dis_kind.g Dis_kind.kp Dis_kind.b .nil pass0 (pa_cons (pv 1) pa_nil))))
      (pss_one ps_never) pss_nil)
    (pss_cons (ps_if (pt_cmpR op_eq (pv 1) pe_str (nomark _))
      (pss_one ps_never) pss_nil)
    (pss_one (ps_ret (pe_call Ddeep_steps.ok (hr.mono (by omega)) rfl Ddeep_steps.g Ddeep_steps.kp Ddeep_steps.b .nil pass0 (pa_cons (pv 0) (pa_cons (pv 1) (pa_cons pe_str pa_nil)))))))), ?_⟩
  refine ⟨_, rfl, k, rfl, _, rfl, iteF ?_⟩
  refine ⟨_, rfl, rfl, _, rfl, iteR (by cases k <;> decide +kernel) ?_⟩
  refine ⟨_, rfl, _, rfl, v, t, k, [], ?_, hv, by omega, by show t.size + 0 ≤ 200; omega, q⟩
  rw [← str_0]
  rfl
def spWalk : Sp := fun vs H Q _ => ∃ (v : V) (t : B) (k : Kd), vs = [v, .str k.str] ∧ BAt H v t ∧ t.size ≤ 50 ∧ ∀ H', Same H H' → Q (.str (tx (t.wk k))) H'
theorem ok_walk (F : Fun K "walk" "walk" s_walk f fd) (Dordered_steps : Df P w K mg base 61 "ordered_steps" ["tree", "kind"] spSteps) : FnOk P w K mg base CX0 62 f fd ["tree", "kind"] spWalk := by
  refine F.ok sc_walk (fun vs H Q E h => ?_) (fun cdv A outer s H vs Q E hr h => ?_)
  · obtain ⟨v, t, k, rfl, _⟩ := h
    rfl
  obtain ⟨v, t, k, rfl, hv, hz, q⟩ := h
  refine ⟨_, (pss_one (ps_ret (pe_bm PySem.F.plainAttrs_str PySem.F.slot_str_join PySem.F.type_str_join mt_join pe_str (pa_cons (pe_lc (own := [("path", 2), ("label", 3)]) (g := gTup K 2 (gCons (gName 2) (gCons (gName 3) gNil))) (tt := tYes) rfl sc_walk.nd (pi_list (pe_call Dordered_steps.ok (hr.mono (by omega)) rfl Dordered_steps.g Dordered_steps.kp Dordered_steps.b .nil pass0 (pa_cons (pv 0) (pa_cons (pv 1) pa_nil)))) (blkOk_by (N := ["tree", "kind", "path", "label"]) (sc := defScope s_walk) (by decide +kernel)) (fun _ _ _ _ _ => (pg_tup rfl (pgs_cons (pg_name (i := 2) sc_walk.nd rfl (.inl rfl)) (pgs_cons (pg_name (i := 3) sc_walk.nd rfl (.inl rfl)) pgs_nil)))) (fun _ _ _ _ _ => pts_nil) (fun _ _ _ _ _ => (pv 3))) pa_nil)))), ?_⟩
  refine ⟨rfl, _, rfl, _, rfl, v, t, k, rfl, hv, hz, fun p us H1 s1 ep st => ?_⟩
  refine ⟨p, rfl, ⟨_, SqL.of ep⟩, fun D nD => ?_⟩
  have q1 := same_new nD (.lst [])
  have hl := st.len
  rw [B.steps_len] at hl
  have ez := t.steps_wk k []
  refine lc_list (K := K) (a := p) (xs := us) (fun i H' => Same H1 H' ∧ H' D = some (.lst (((t.wk k).take i).map vc))) ⟨q1, upd_same⟩ (fun i H' _ hp => SqL.of (hp.1 _ _ ep)) (fun i x H' hx hp => ?_) (fun H' hp => ?_)
  · obtain ⟨sm, ed⟩ := hp
    obtain ⟨a, pq, c, rfl, es, ea⟩ := st.get hx
    have hc : (t.wk k)[i]? = some c := by rw [← ez, List.getElem?_map, es]; rfl
    have hi := (List.getElem?_eq_some_iff.mp hx).1
    refine ⟨a, _, rfl, SqT.of (sm _ _ ea), rfl, _, _, rfl, _, _, rfl, rfl, rfl, kept ?_⟩
    refine ⟨_, rfl, _, ed, ?_, fun b o e => ?_, ?_⟩
    · rw [List.length_map, List.length_take]; exact small1000 (by omega)
    · rw [upd_ne (ne_of_none e nD)]; exact sm _ _ e
    · rw [upd_same, take_next hc, List.map_append]; rfl
  · obtain ⟨sm, ed⟩ := hp
    have tk : (t.wk k).take us.length = t.wk k := List.take_of_length_le (by rw [t.wk_len k]; omega)
    rw [tk, map_vc] at ed
    refine ⟨_, D, (t.wk k).map ch, rfl, rfl, .inl (SqL.of ed), tx_joinOk _ (by rw [t.wk_len k]; omega), ?_⟩
    rw [tx_join]
    exact q H' (s1.trans sm)
end
/-! ### is_letter, is_node, is_tree of a tree -/
def isLow (c : Nat) : Bool := decide (97 ≤ c) && decide (c ≤ 122)
def isLt : List Nat → Bool
  | [c] => isLow c
  | _ => false
def spLow : Sp := fun vs H Q _ => ∃ l : List Nat, vs = [.str (tx l)] ∧ l.length ≤ 1 ∧ Q (.bl (isLt l)) H
/-- all labels are letters -/
def B.lts (t : B) : Prop := ∀ c ∈ t.pre, isLow c = true
theorem B.lts_node {l r : B} {x : Nat} : (B.node l x r).lts ↔ isLow x = true ∧ l.lts ∧ r.lts := by
  unfold B.lts
  constructor
  · intro h
    exact ⟨h x List.mem_cons_self, fun c hc => h c (List.mem_cons_of_mem _ (List.mem_append_left _ hc)), fun c hc => h c (List.mem_cons_of_mem _ (List.mem_append_right _ hc))⟩
  · rintro ⟨h1, h2, h3⟩ c hc
    rcases List.mem_cons.mp hc with rfl | hc
    · exact h1
    · rcases List.mem_append.mp hc with hc | hc
      · exact h2 c hc
      · exact h3 c hc
theorem B.lts_nil : B.nil.lts := fun _ h => nomatch h
inductive FsAt (H : Hp) : List V → Nat → Prop
  | nil : FsAt H [] 0
  | cons {v : V} {t : B} {vs : List V} {n : Nat} : BAt H v t → t ≠ .nil → t.lts → FsAt H vs n → FsAt H (v :: vs) (t.size + n)
theorem B.size_pos {t : B} (h : t ≠ .nil) : 1 ≤ t.size := by
  cases t with
  | nil => exact absurd rfl h
  | node l x r => show 1 ≤ l.size + 1 + r.size; omega
theorem FsAt.same {H H' : Hp} (s : Same H H') {vs : List V} {n : Nat} (h : FsAt H vs n) : FsAt H' vs n := by
  induction h with
  | nil => exact .nil
  | cons a b c _ ih => exact .cons (a.same s) b c ih
theorem FsAt.keepT {H H' : Hp} (s : KeepT H H') {vs : List V} {n : Nat} (h : FsAt H vs n) : FsAt H' vs n := by
  induction h with
  | nil => exact .nil
  | cons a b c _ ih => exact .cons (a.keep s) b c ih
theorem FsAt.app {H : Hp} {vs ws : List V} {n m : Nat} (h : FsAt H vs n) (g : FsAt H ws m) : FsAt H (vs ++ ws) (n + m) := by
  induction h with
  | nil => rw [Nat.zero_add]; exact g
  | cons a b c _ ih => rw [Nat.add_assoc]; exact .cons a b c ih
theorem FsAt.len {H : Hp} {vs : List V} {n : Nat} (h : FsAt H vs n) : vs.length ≤ n := by
  induction h with
  | nil => exact Nat.le_refl _
  | cons _ b _ _ ih => have := B.size_pos b; rw [List.length_cons]; omega
theorem FsAt.last {H : Hp} {vs : List V} {n : Nat} (h : FsAt H vs n) : vs ≠ [] → ∃ v t m, vs[vs.length - 1]? = some v ∧ n = m + t.size ∧ BAt H v t ∧ t ≠ .nil ∧ t.lts ∧ FsAt H vs.dropLast m := by
  induction h with
  | nil => intro z; exact absurd rfl z
  | @cons v t vs n a b c hh ih =>
    intro _
    cases vs with
    | nil => cases hh; exact ⟨v, t, 0, rfl, by omega, a, b, c, .nil⟩
    | cons w ws =>
      obtain ⟨u, t', m, e1, e2, e3, e4, e5, e6⟩ := ih (by simp)
      refine ⟨u, t', t.size + m, ?_, by omega, e3, e4, e5, .cons a b c e6⟩
      show (w :: ws)[(w :: ws).length - 1]? = some u
      exact e1
def keepV : V → List V
  | .non => []
  | v => [v]
theorem keep_step {xs : List V} {j : Nat} {x : V} (h : xs[j]? = some x) : (xs.take (j + 1)).flatMap keepV = (xs.take j).flatMap keepV ++ keepV x := by
  rw [List.take_add_one, h, List.flatMap_append]
  congr 1
  show keepV x ++ [] = keepV x
  rw [List.append_nil]
theorem keep_len : ∀ xs : List V, (xs.flatMap keepV).length ≤ xs.length
  | [] => Nat.le_refl _
  | x :: xs => by
    have h := keep_len xs
    have h1 : (keepV x).length ≤ 1 := by cases x <;> first | exact Nat.zero_le _ | exact Nat.le_refl _
    rw [List.flatMap_cons, List.length_append, List.length_cons]
    omega
theorem FsAt.keep {H : Hp} {v : V} {t : B} (h : BAt H v t) (l : t.lts) : FsAt H (keepV v) t.size := by
  rcases h.inv with ⟨rfl, rfl⟩ | ⟨a, vl, vr, x, tl, tr, rfl, rfl, _⟩
  · exact .nil
  · exact .cons h (fun z => nomatch z) l .nil
def spNodeT : Sp := fun vs H Q _ => ∃ (v : V) (t : B), vs = [v] ∧ BAt H v t ∧ t ≠ .nil ∧ t.lts ∧ Q (.bl true) H
def spTreeT : Sp := fun vs H Q _ => ∃ (v : V) (t : B), vs = [v] ∧ BAt H v t ∧ t ≠ .nil ∧ t.lts ∧ t.size ≤ 12 ∧ ∀ H', Same H H' → Q (.bl true) H'
def toGo (σ : L2.St) : Nat := match σ[1]? with
  | some (some (V.int c)) => (13 - c).toNat
  | _ => 0
def spSz (n : Nat) : Sp := fun vs H Q _ => ∃ (v : V) (t : B), vs = [v] ∧ BAt H v t ∧ t.size < n ∧ Q (.int (t.size : Int)) H
section
variable {P : Program} {w : World} {K : PySem.W.Frag} {mg : Str → Option Value} {base : Heap} {f : Addr} {fd : FuncData}
theorem ok_low {k : Nat} (F : Fun K "is_letter" "is_letter" s_is_letter f fd) (M : Mgs mg) : FnOk P w K mg base CX0 (k + 1) f fd ["value"] spLow := by
  refine F.ok sc_is_letter (fun vs H Q E h => ?_) (fun cdv A outer s H vs Q E hr h => ?_)
  · obtain ⟨l, rfl, _⟩ := h
    rfl
  obtain ⟨l, rfl, hl, q⟩ := h
  refine ⟨_, (pss_one (ps_ret (pe_and (pe_callB call_isi rfl M.isinstance (by decide +kernel) (pa_cons (pv 0) (pa_cons (pe_bltn (v := .ty "str") rfl M.str (by decide +kernel) rfl) pa_nil))) (pe_and (pe_cmpR op_eq (pe_callB call_len_str rfl M.len PySem.boot_len (pa_cons (pv 0) pa_nil)) pe_int (nomark _)) (pe_one (pe_chain op_le_str op_le_str pe_str (pv 0) pe_str)))))), ?_⟩
  refine ⟨_, rfl, _, _, _, _, true, rfl, .ty _, .base (.str (tx l)), kit_ty (by decide +kernel), _, rfl, iteT ?_⟩
  refine ⟨_, rfl, tx l, rfl, small (by rw [tx_len]; omega), rfl, _, rfl, ?_⟩
  match l, hl, q with
  | [], _, q => exact iteF q
  | [c], _, q =>
    rw [show decide (V.int ((tx [c]).length : Nat) = V.int 1) = true from rfl]
    refine iteT ⟨_, rfl, _, _, rfl, rfl, _, rfl, ?_⟩
    have e1 : (!decide ((tx [c]).cps.toList < (Str.ofString "a").cps.toList)) = decide (97 ≤ c) := by
      rw [show (Str.ofString "a").cps.toList = [97] by decide +kernel, show (tx [c]).cps.toList = [c] from rfl]
      by_cases h : c < 97
      · rw [decide_eq_true (by simp [List.cons_lt_cons_iff, h]), decide_eq_false (by omega)]; rfl
      · rw [decide_eq_false (by simp [List.cons_lt_cons_iff, h]), decide_eq_true (by omega)]; rfl
    have e2 : (!decide ((Str.ofString "z").cps.toList < (tx [c]).cps.toList)) = decide (c ≤ 122) := by
      rw [show (Str.ofString "z").cps.toList = [122] by decide +kernel, show (tx [c]).cps.toList = [c] from rfl]
      by_cases h : 122 < c
      · rw [decide_eq_true (by simp [List.cons_lt_cons_iff, h]), decide_eq_false (by omega)]; rfl
      · rw [decide_eq_false (by simp [List.cons_lt_cons_iff, h]), decide_eq_true (by omega)]; rfl
    rw [e1]
    have q : Q (.bl (decide (97 ≤ c) && decide (c ≤ 122))) H := q
    by_cases h : 97 ≤ c
    · rw [decide_eq_true h] at q ⊢
      refine iteT ⟨_, _, rfl, rfl, ?_⟩
      rw [e2]
      exact q
    · rw [decide_eq_false h] at q ⊢
      exact iteF q
theorem ok_node {k : Nat} (F : Fun K "is_node" "is_node" s_is_node f fd) (M : Mgs mg) (Dis_letter : Df P w K mg base (k + 1) "is_letter" ["value"] spLow) : FnOk P w K mg base CX0 (k + 2) f fd ["value"] spNodeT := by
  refine F.ok sc_is_node (fun vs H Q E h => ?_) (fun cdv A outer s H vs Q E hr h => ?_)
  · obtain ⟨v, t, rfl, _⟩ := h
    rfl
  obtain ⟨v, t, rfl, ht, hn, hl, q⟩ := h
  refine ⟨_, (pss_one (ps_ret (pe_and (pe_callB call_isi rfl M.isinstance (by decide +kernel) (pa_cons (pv 0) (pa_cons (pe_bltn (v := .ty "tuple") rfl M.tuple (by decide +kernel) rfl) pa_nil))) (pe_and (pe_cmpR op_eq (pe_callB call_len_seq rfl M.len PySem.boot_len (pa_cons (pv 0) pa_nil)) pe_int (nomark _)) (pe_one (pe_call Dis_letter.ok (hr.mono (by omega)) rfl Dis_letter.g Dis_letter.kp Dis_letter.b .nil pass0 (pa_cons (pe_ix ix_tup (pv 0) pe_int (fun _ _ => rfl)) pa_nil))))))), ?_⟩
  rcases ht.inv with ⟨_, rfl⟩ | ⟨a, vl, vr, x, tl, tr, rfl, rfl, e, _⟩
  · exact absurd rfl hn
  have hx := (B.lts_node.mp hl).1
  refine ⟨_, rfl, _, _, _, _, true, rfl, .ty _, .base (.tup e), kit_ty (by decide +kernel), _, rfl, iteT ?_⟩
  refine ⟨_, rfl, a, _, rfl, .inr (SqT.of e), rfl, _, rfl, iteT ?_⟩
  refine ⟨_, rfl, a, _, 1, _, rfl, rfl, SqT.of e, atI_nat (j := 1) rfl, [x], rfl, Nat.le_refl _, ?_⟩
  have : isLt [x] = true := hx
  rw [this]
  exact q
theorem ok_isTree {tM : Tok} (F : Fun K "is_tree" "is_tree" s_is_tree f fd) (mMAX : mg "MAX_NODES" = some (.int 12 tM)) (Dis_node : Df P w K mg base 2 "is_node" ["value"] spNodeT) : FnOk P w K mg base CX0 3 f fd ["value"] spTreeT := by
  refine F.ok sc_is_tree (fun vs H Q E h => ?_) (fun cdv A outer s H vs Q E hr h => ?_)
  · obtain ⟨v, t, rfl, _⟩ := h
    rfl
  obtain ⟨v, t, rfl, ht, hn, hlt, hsz, q⟩ := h
  refine ⟨_, (pss_cons (ps_set (i := 1) sc_is_tree.nd rfl (.inl rfl) pe_int)
    (pss_cons (ps_set (i := 2) sc_is_tree.nd rfl (.inl rfl) (pe_lst (pa_cons (pv 0) pa_nil)))
    (pss_cons (ps_while PassesOwn.never (pt_truth (pv 2) (by intro _; rfl))
      (pss_cons (ps_set (i := 3) sc_is_tree.nd rfl (.inl rfl) (pe_bm0 PySem.F.plainAttrs_list PySem.F.slot_list_pop PySem.F.type_list_pop mt_pop (pv 2)))
    (pss_cons (ps_aug (i := 1) sc_is_tree.nd rfl (.inl rfl) pe_int ip_add)
    (pss_cons (ps_if (PW.pt (pw_or (pt_cmpR op_gt (pv 1) (pe_glob (v := .int _) rfl mMAX ⟨_, rfl⟩) (nomark _)) (pw_or1 (pt_not (pt_val (pe_call Dis_node.ok (hr.mono (by omega)) rfl Dis_node.g Dis_node.kp Dis_node.b .nil pass0 (pa_cons (pv 3) pa_nil)))))))
      (pss_one (ps_ret pe_bl)) pss_nil)
    (pss_one (ps_expr (pe_bm PySem.F.plainAttrs_list PySem.F.slot_list_extend PySem.F.type_list_extend mt_extend (pv 2) (pa_cons (pe_lc (own := [("side", 4)]) (g := gName 4) rfl sc_is_tree.nd (pi_tup (pe_tup (pa_cons (pe_ix ix_tup (pv 3) pe_int (fun _ _ => rfl)) (pa_cons (pe_ix ix_tup (pv 3) pe_int (fun _ _ => rfl)) pa_nil)))) (blkOk_by (N := ["value", "count", "waiting", "part", "side"]) (sc := defScope s_is_tree) (by decide +kernel)) (fun _ _ _ _ _ => (pg_name (i := 4) sc_is_tree.nd rfl (.inl rfl))) (fun _ _ _ _ _ => pts_one (pt_cmpR op_notN (pv 4) pe_non (nomark _))) (fun _ _ _ _ _ => (pv 4))) pa_nil))))))))
    (pss_one (ps_ret pe_bl))))), ?_⟩
  refine ⟨_, rfl, (by show 1 ≤ sizeLine; decide), fun wa nw => ?_⟩
  have q0 := same_new nw (.lst [v])
  refine while_by (c := fun σ H' Q' => tVar 2 σ H' fun x H2 => ∃ k, TruV K x H2 k ∧ Q' k H2) (fun σ H' => ∃ (c n : Nat) (y3 : Option V) (ws : List V), σ = [some v, some (.int (c : Int)), some (.ref wa), y3, none] ∧ Same H H' ∧ H' wa = some (.lst ws) ∧ FsAt H' ws n ∧ c + n ≤ 12)
    (fun σ _ => toGo σ)
    ?_ (fun σ H' hp => ?_) ?_
  · exact ⟨0, _, none, [v], rfl, q0, upd_same, .cons (ht.same q0) hn hlt .nil, by omega⟩
  · obtain ⟨c, n, y3, ws, rfl, sm, ew, fs, hc⟩ := hp
    refine ⟨_, rfl, !ws.isEmpty, .inl ⟨ws, SqL.of ew, rfl⟩, ?_⟩
    cases ws with
    | nil => exact iteF (q H' sm)
    | cons w0 ws0 =>
      refine iteT ?_
      obtain ⟨p, tp, n', ep, rfl, hp, hpn, hpl, fs'⟩ := fs.last (by simp)
      have hp1 := B.size_pos hpn
      refine ⟨.ref wa, rfl, .inl ⟨rfl, _, SqL.of ew⟩, wa, _, p, rfl, rfl, ew, ep, ?_⟩
      refine ⟨_, rfl, _, _, rfl, rfl, ?_⟩
      have sm2 : Same H (upd H' wa (.lst (w0 :: ws0).dropLast)) := fun b o z => by
        rw [upd_ne (ne_of_none z nw)]
        exact sm _ _ z
      have kt : KeepT H' (upd H' wa (.lst (w0 :: ws0).dropLast)) := fun b xs z => by
        rw [upd_ne (ne_of z ew (by intro z; cases z))]
        exact z
      have ew2 : (upd H' wa (.lst (w0 :: ws0).dropLast)) wa = some (.lst (w0 :: ws0).dropLast) := upd_same
      have hp2 := hp.keep kt
      have fs2 : FsAt (upd H' wa (.lst (w0 :: ws0).dropLast)) (w0 :: ws0).dropLast n' := fs'.keepT kt
      generalize upd H' wa (.lst (w0 :: ws0).dropLast) = H2 at sm2 ew2 hp2 fs2 ⊢
      have lw := fs2.len
      generalize (w0 :: ws0).dropLast = W at ew2 fs2 lw ⊢
      refine ⟨_, rfl, _, _, rfl, rfl, _, rfl, ?_⟩
      rw [decide_eq_false (show ¬ ((c : Int) + 1 > 12) by omega)]
      refine iteF ?_
      refine ⟨_, rfl, p, tp, rfl, hp2, hpn, hpl, _, rfl, iteF ?_⟩
      rcases hp2.inv with ⟨_, rfl⟩ | ⟨a, vl, vr, x, tl, tr, rfl, rfl, e3, aL, aR⟩
      · exact absurd rfl hpn
      obtain ⟨_, l1, l3⟩ := B.lts_node.mp hpl
      have hsp : (B.node tl x tr).size = tl.size + 1 + tr.size := rfl
      refine ⟨.ref wa, rfl, .inl ⟨rfl, _, SqL.of ew2⟩, _, rfl, a, _, 0, vl, rfl, rfl, SqT.of e3, atI_nat (j := 0) rfl, _, rfl, a, _, 2, vr, rfl, rfl, SqT.of e3, atI_nat (j := 2) rfl, (by show 2 ≤ sizeLine; decide), fun tp ntp => ?_⟩
      have q6 := same_new ntp (.tup [vl, vr])
      refine ⟨tp, rfl, ⟨_, SqT.of upd_same⟩, fun L nL => ?_⟩
      have q7 := same_new nL (.lst [])
      refine lc_tup (K := K) (a := tp) (xs := [vl, vr]) (fun j H'' => Same (upd H2 tp (.tup [vl, vr])) H'' ∧ H'' L = some (.lst ((([vl, vr] : List V).take j).flatMap keepV))) ⟨q7, upd_same⟩ (fun j H'' _ hp => SqT.of (hp.1 _ _ upd_same)) (fun j x H'' hx hp => ?_) (fun H'' hp => ?_)
      · obtain ⟨s7, eL⟩ := hp
        refine ⟨rfl, _, rfl, rfl, _, rfl, ?_⟩
        by_cases hxn : x = .non
        · refine iteNS hxn ⟨s7, ?_⟩
          rw [keep_step hx, hxn]
          show _ = some (HO.lst (_ ++ []))
          rw [List.append_nil]
          exact eL
        · rw [decide_eq_false hxn]
          refine iteT ⟨x, rfl, _, eL, ?_, fun b o z => ?_, ?_⟩
          · have := keep_len (([vl, vr] : List V).take j)
            have h2 : (([vl, vr] : List V).take j).length ≤ 2 := by rw [List.length_take]; exact Nat.min_le_right _ _
            exact small1000 (by omega)
          · rw [upd_ne (ne_of_none z nL)]
            exact s7 _ _ z
          · rw [upd_same, keep_step hx]
            cases x <;> first | rfl | exact absurd rfl hxn
      · obtain ⟨s7, eL⟩ := hp
        have s8 : Same H2 H'' := q6.trans s7
        have eL' : H'' L = some (.lst (keepV vl ++ keepV vr)) := by
          rw [eL]
          show some (HO.lst (keepV vl ++ (keepV vr ++ []))) = _
          rw [List.append_nil]
        have k1 : (keepV vl).length ≤ 1 := by cases vl <;> first | exact Nat.zero_le _ | exact Nat.le_refl _
        have k2 : (keepV vr).length ≤ 1 := by cases vr <;> first | exact Nat.zero_le _ | exact Nat.le_refl _
        refine ⟨wa, L, _, _, rfl, rfl, s8 _ _ ew2, eL', small (by rw [List.length_append]; omega), ?_⟩
        have kt2 : KeepT H'' (upd H'' wa (.lst (W ++ (keepV vl ++ keepV vr)))) := fun b xs z => by
          rw [upd_ne (ne_of z (s8 _ _ ew2) (by intro z; cases z))]
          exact z
        refine ⟨⟨c + 1, _, some (.ref a), _, rfl, fun b o z => ?_, upd_same, ((fs2.same s8).app ((FsAt.keep (aL.same s8) l1).app (FsAt.keep (aR.same s8) l3))).keepT kt2, by omega⟩, ?_⟩
        · rw [upd_ne (ne_of_none z nw)]
          exact s8 _ _ (sm2 _ _ z)
        · show (13 - ((c : Int) + 1)).toNat < (13 - (c : Int)).toNat
          omega
  · intro σ H' Q1 Q2 hQ h
    obtain ⟨v', e, k', t, q'⟩ := h
    exact ⟨v', e, k', t, hQ _ _ q'⟩
theorem ok_size (F : Fun K "size_of" "size_of" s_size_of f fd) (b : Binds K fd ["tree"] []) (g : mg "size_of" = some (.ref f)) : ∀ n : Nat, FnOk P w K mg base CX0 n f fd ["tree"] (spSz n)
  | 0 => by
    have no : ∀ vs H Q E, ¬ spSz 0 vs H Q E := fun vs H Q E h => by
      obtain ⟨v, t, _, _, h1, _⟩ := h
      omega
    exact ⟨fun vs H Q E h => absurd h (no vs H Q E), fun A outer s H args us vs Q E _ _ _ _ h => absurd h (no vs H Q E)⟩
  | n + 1 => by
    have Dself : Df P w K mg base n "size_of" ["tree"] (spSz n) := ⟨f, fd, ok_size F b g n, b, F.kp, g⟩
    refine F.ok sc_size_of (fun vs H Q E h => ?_) (fun cdv A outer s H vs Q E hr h => ?_)
    · obtain ⟨v, t, rfl, _⟩ := h
      rfl
    obtain ⟨v, t, rfl, hv, hn, q⟩ := h
    refine ⟨_, (pss_cons (ps_if (pt_cmpR op_isN (pv 0) pe_non (nomark _))
      (pss_one (ps_ret pe_int)) pss_nil)
    (pss_one (ps_ret (pe_op op_add (pe_op op_add (pe_call Dself.ok (hr.mono (by omega)) rfl Dself.g Dself.kp Dself.b .nil pass0 (pa_cons (pe_ix ix_tup (pv 0) pe_int (fun _ _ => rfl)) pa_nil)) pe_int) (pe_call Dself.ok (hr.mono (by omega)) rfl Dself.g Dself.kp Dself.b .nil pass0 (pa_cons (pe_ix ix_tup (pv 0) pe_int (fun _ _ => rfl)) pa_nil)))))), ?_⟩
    rcases hv.inv with ⟨rfl, rfl⟩ | ⟨a, l, r, x, tl, tr, rfl, rfl, ea, hl, hr'⟩
    · exact ⟨_, rfl, rfl, _, rfl, iteT q⟩
    · refine ⟨_, rfl, rfl, _, rfl, iteF ?_⟩
      have hz : tl.size + 1 + tr.size < n + 1 := hn
      refine ⟨_, rfl, a, _, 0, l, rfl, rfl, SqT.of ea, atI_nat (j := 0) rfl, l, tl, rfl, hl, by omega, _, _, rfl, rfl, _, rfl, a, _, 2, r, rfl, rfl, SqT.of ea, atI_nat (j := 2) rfl, r, tr, rfl, hr', by omega, _, _, rfl, rfl, ?_⟩
      have e : (tl.size : Int) + 1 + (tr.size : Int) = ((tl.size + 1 + tr.size : Nat) : Int) := by omega
      show Q (.int ((tl.size : Int) + 1 + (tr.size : Int))) H
      rw [e]
      exact q
end
/-! ### paths and parts -/
def dir : Bool → Nat
  | false => 108
  | true => 114
def px (p : List Bool) : Str := tx (p.map dir)
theorem dir_inj {a b : Bool} (h : dir a = dir b) : a = b := by cases a <;> cases b <;> first | rfl | cases h
theorem dirs_inj {p q : List Bool} (h : p.map dir = q.map dir) : p = q := by
  induction p generalizing q with
  | nil => cases q with
    | nil => rfl
    | cons b q => cases h
  | cons a p ih => cases q with
    | nil => cases h
    | cons b q =>
      rw [List.map_cons, List.map_cons] at h
      injection h with h1 h2
      rw [dir_inj h1, ih h2]
theorem px_inj {p q : List Bool} (h : px p = px q) : p = q := dirs_inj (tx_inj h)
theorem px_nil : px [] = Str.ofString "" := str_0.symm
theorem px_len (p : List Bool) : (px p).length = p.length := by
  show (p.map dir).length = _
  rw [List.length_map]
theorem px_drop (p : List Bool) : cutS (px p) (some 1) none = px (p.drop 1) := by
  have h := tx_from (p.map dir) 1
  rw [← List.map_drop] at h
  exact h
def B.at : B → List Bool → Option B
  | t, [] => some t
  | .nil, _ :: _ => none
  | .node l _ _, false :: p => l.at p
  | .node _ _ r, true :: p => r.at p
def B.put : B → List Bool → B → B
  | _, [], u => u
  | .nil, _ :: _, _ => .nil
  | .node l x r, false :: p, u => .node (l.put p u) x r
  | .node l x r, true :: p, u => .node l x (r.put p u)
def B.mir : B → B
  | .nil => .nil
  | .node l x r => .node r.mir x l.mir
theorem B.mir_size : ∀ t : B, t.mir.size = t.size
  | .nil => rfl
  | .node l x r => by
    have h1 := l.mir_size
    have h2 := r.mir_size
    show r.mir.size + 1 + l.mir.size = l.size + 1 + r.size
    omega
theorem B.at_size : ∀ (t : B) (p : List Bool) {o : B}, t.at p = some o → o.size + p.length ≤ t.size
  | t, [], o, h => by cases t <;> (cases h; exact Nat.le_refl _)
  | .nil, _ :: _, _, h => by cases h
  | .node l x r, false :: p, o, h => by
    have := l.at_size p (show l.at p = some o from h)
    show o.size + (p.length + 1) ≤ l.size + 1 + r.size
    omega
  | .node l x r, true :: p, o, h => by
    have := r.at_size p (show r.at p = some o from h)
    show o.size + (p.length + 1) ≤ l.size + 1 + r.size
    omega
theorem B.put_size : ∀ (t : B) (p : List Bool) (u : B) {o : B}, t.at p = some o → (t.put p u).size + o.size = t.size + u.size
  | t, [], u, o, h => by cases t <;> (cases h; exact Nat.add_comm _ _)
  | .nil, _ :: _, _, _, h => by cases h
  | .node l x r, false :: p, u, o, h => by
    have := l.put_size p u (show l.at p = some o from h)
    show (l.put p u).size + 1 + r.size + o.size = l.size + 1 + r.size + u.size
    omega
  | .node l x r, true :: p, u, o, h => by
    have := r.put_size p u (show r.at p = some o from h)
    show l.size + 1 + (r.put p u).size + o.size = l.size + 1 + r.size + u.size
    omega
theorem B.mir_lts : ∀ t : B, t.lts → t.mir.lts
  | .nil, h => h
  | .node l x r, h => by
    obtain ⟨h1, h2, h3⟩ := B.lts_node.mp h
    exact B.lts_node.mpr ⟨h1, r.mir_lts h3, l.mir_lts h2⟩
theorem B.at_lts : ∀ (t : B) (p : List Bool) {o : B}, t.at p = some o → t.lts → o.lts
  | t, [], o, h, k => by cases t <;> (cases h; exact k)
  | .nil, _ :: _, _, h, _ => by cases h
  | .node l x r, false :: p, o, h, k => l.at_lts p (show l.at p = some o from h) (B.lts_node.mp k).2.1
  | .node l x r, true :: p, o, h, k => r.at_lts p (show r.at p = some o from h) (B.lts_node.mp k).2.2
theorem B.put_lts : ∀ (t : B) (p : List Bool) {u : B}, t.lts → u.lts → (t.put p u).lts
  | t, [], u, _, k => by cases t <;> exact k
  | .nil, _ :: _, _, _, _ => B.lts_nil
  | .node l x r, false :: p, u, h, k => by
    obtain ⟨h1, h2, h3⟩ := B.lts_node.mp h
    exact B.lts_node.mpr ⟨h1, l.put_lts p h2 k, h3⟩
  | .node l x r, true :: p, u, h, k => by
    obtain ⟨h1, h2, h3⟩ := B.lts_node.mp h
    exact B.lts_node.mpr ⟨h1, h2, r.put_lts p h3 k⟩
def spPart : Sp := fun vs H Q _ => ∃ (v : V) (t u : B) (p : List Bool), vs = [v, .str (px p)] ∧ BAt H v t ∧ t.at p = some u ∧ p.length ≤ 100 ∧ ∀ (v' : V) (H' : Hp), Same H H' → BAt H' v' u → Q v' H'
def spWith (n : Nat) : Sp := fun vs H Q _ => ∃ (v vp : V) (t u : B) (p : List Bool), vs = [v, .str (px p), vp] ∧ BAt H v t ∧ BAt H vp u ∧ p.length < n ∧ p.length ≤ 100 ∧ (t.at p).isSome = true ∧ ∀ (v' : V) (H' : Hp), Same H H' → BAt H' v' (t.put p u) → Q v' H'
def spRepl : Sp := fun vs H Q _ => ∃ (v vp : V) (t u o : B) (p : List Bool), vs = [v, .str (px p), vp] ∧ BAt H v t ∧ BAt H vp u ∧ t.at p = some o ∧ t.size ≤ 12 ∧ (t.put p u).size ≤ 12 ∧ ∀ (v' : V) (H' : Hp), Same H H' → BAt H' v' (t.put p u) → Q v' H'
def spMir (n : Nat) : Sp := fun vs H Q _ => ∃ (v : V) (t : B), vs = [v] ∧ BAt H v t ∧ t.size < n ∧ ∀ (v' : V) (H' : Hp), Same H H' → BAt H' v' t.mir → Q v' H'
theorem dir_str (b : Bool) : decide (V.str (ch (dir b)) = V.str (Str.ofString "l")) = !b := by
  rw [str_l]
  cases b
  · exact decide_eq_true rfl
  · exact decide_eq_false fun z => absurd (tx_inj (V.str.inj z)) (by simp [dir])
theorem dir_in (b : Bool) : inV (.str (ch (dir b))) [.str (Str.ofString "l"), .str (Str.ofString "r")] = true := by
  rw [str_l, str_r]
  cases b <;> rfl
section
variable {P : Program} {w : World} {K : PySem.W.Frag} {mg : Str → Option Value} {base : Heap} {f : Addr} {fd : FuncData}
theorem ok_part {k : Nat} (F : Fun K "part_at" "part_at" s_part_at f fd) (M : Mgs mg) : FnOk P w K mg base CX0 (k + 1) f fd ["tree", "path"] spPart := by
  refine F.ok sc_part_at (fun vs H Q E h => ?_) (fun cdv A outer s H vs Q E hr h => ?_)
  · obtain ⟨v, t, u, p, rfl, _⟩ := h
    rfl
  obtain ⟨v, t, u, p, rfl, ht, hu, hp, q⟩ := h
  refine ⟨_, (pss_cons (ps_if (pt_not (pt_val (pe_callB call_isi rfl M.isinstance (by decide +kernel) (pa_cons (pv 1) (pa_cons (pe_bltn (v := .ty "str") rfl M.str (by decide +kernel) rfl) pa_nil)))))
      (pss_one ps_never) pss_nil)
    (pss_cons (ps_set (i := 2) sc_part_at.nd rfl (.inl rfl) (pv 0))
    (pss_cons (ps_for PassesOwn.never rfl (pi_str (pv 1)) (pg_name (i := 3) sc_part_at.nd rfl (.inl rfl))
      (pss_cons (ps_if (PW.pt (pw_or (pt_cmpR op_isN (pv 2) pe_non (nomark _)) (pw_or1 (pt_cmpR op_notIn_seq (pv 3) (pe_tup (pa_cons pe_str (pa_cons pe_str pa_nil))) (by rfl)))))
      (pss_one ps_never) pss_nil)
    (pss_one (ps_set (i := 2) sc_part_at.nd rfl (.inl rfl) (pe_ifExp (pt_cmpR op_eq (pv 3) pe_str (nomark _)) (pe_ix ix_tup (pv 2) pe_int (fun _ _ => rfl)) (pe_ix ix_tup (pv 2) pe_int (fun _ _ => rfl)))))))
    (pss_one (ps_ret (pv 2)))))), ?_⟩
  refine ⟨_, rfl, _, _, _, _, true, rfl, .ty _, .base (.str (px p)), kit_ty (by decide +kernel), _, rfl, iteF ?_⟩
  refine ⟨_, rfl, ?_⟩
  refine ⟨_, rfl, px p, rfl, ?_⟩
  refine for_text (x := px p) (fun i σ H' => ∃ (vi : V) (ti : B) (y3 : Option V), σ = [some v, some (.str (px p)), some vi, y3] ∧ Same H H' ∧ BAt H' vi ti ∧ ti.at (p.drop i) = some u) ⟨v, t, none, rfl, Same.refl _, ht, hu⟩ (fun i c σ H1 hc hq => ?_) (fun σ H1 hq => ?_)
  · obtain ⟨vi, ti, y3, rfl, s1, hi, ei⟩ := hq
    have hc' : (p.map dir)[i]? = some c := hc
    obtain ⟨b, hb, rfl⟩ : ∃ b, p[i]? = some b ∧ dir b = c := by
      rw [List.getElem?_map] at hc'
      cases e : p[i]? with
      | none => rw [e] at hc'; cases hc'
      | some b => rw [e] at hc'; exact ⟨b, rfl, Option.some.inj hc'⟩
    have hdr : p.drop i = b :: p.drop (i + 1) := by
      obtain ⟨h1, h2⟩ := List.getElem?_eq_some_iff.mp hb
      rw [List.drop_eq_getElem_cons h1, h2]
    rw [hdr] at ei
    rcases hi.inv with ⟨rfl, rfl⟩ | ⟨a, vl, vr, x, tl, tr, rfl, rfl, ea, hl, hr'⟩
    · cases ei
    refine ⟨_, rfl, rfl, _, rfl, iteF ?_⟩
    refine ⟨_, rfl, (by show 2 ≤ sizeLine; decide), fun tp ntp => ?_⟩
    have k2 := same_new ntp (.tup [.str "l", .str "r"])
    refine ⟨tp, _, rfl, .inr (SqT.of upd_same), rfl, (by decide +kernel), _, rfl, ?_⟩
    have hin : (!inV (V.str (ch (dir b))) [V.str "l", V.str "r"]) = false := by rw [dir_in]; rfl
    rw [hin]
    refine iteF ?_
    have s12 := s1.trans k2
    refine ⟨_, rfl, rfl, _, rfl, ?_⟩
    rw [dir_str]
    cases b with
    | false =>
      refine iteT ⟨_, rfl, a, _, 0, vl, rfl, rfl, SqT.of (k2 _ _ ea), atI_nat (j := 0) rfl, ?_⟩
      exact ⟨vl, tl, _, rfl, s12, hl.same k2, ei⟩
    | true =>
      refine iteF ⟨_, rfl, a, _, 2, vr, rfl, rfl, SqT.of (k2 _ _ ea), atI_nat (j := 2) rfl, ?_⟩
      exact ⟨vr, tr, _, rfl, s12, hr'.same k2, ei⟩
  · obtain ⟨vi, ti, y3, rfl, s1, hi, ei⟩ := hq
    rw [List.drop_eq_nil_of_le (by rw [show (px p).cps.toList = p.map dir from rfl, List.length_map]; exact Nat.le_refl _)] at ei
    have : ti = u := by cases ti <;> (cases ei; rfl)
    subst this
    exact ⟨_, rfl, q vi H1 s1 hi⟩
theorem ok_with (F : Fun K "with_part" "with_part" s_with_part f fd) (b : Binds K fd ["tree", "path", "part"] []) (g : mg "with_part" = some (.ref f)) : ∀ n : Nat, FnOk P w K mg base CX0 n f fd ["tree", "path", "part"] (spWith n)
  | 0 => by
    have no : ∀ vs H Q E, ¬ spWith 0 vs H Q E := fun vs H Q E h => by
      obtain ⟨v, vp, t, u, p, _, _, _, h1, _⟩ := h
      exact absurd h1 (Nat.not_lt_zero _)
    exact ⟨fun vs H Q E h => absurd h (no vs H Q E), fun A outer s H args us vs Q E _ _ _ _ h => absurd h (no vs H Q E)⟩
  | n + 1 => by
    have Dself : Df P w K mg base n "with_part" ["tree", "path", "part"] (spWith n) := ⟨f, fd, ok_with F b g n, b, F.kp, g⟩
    refine F.ok sc_with_part (fun vs H Q E h => ?_) (fun cdv A outer s H vs Q E hr h => ?_)
    · obtain ⟨v, vp, t, u, p, rfl, _⟩ := h
      rfl
    obtain ⟨v, vp, t, u, p, rfl, ht, hu, hn, hp, hs, q⟩ := h
    refine ⟨_, (pss_cons (ps_if (pt_cmpR op_eq (pv 1) pe_str (nomark _))
      (pss_one (ps_ret (pv 2))) pss_nil)
    (pss_cons (ps_asg (pv 0) (pg_tup rfl (pgs_cons (pg_name (i := 3) sc_with_part.nd rfl (.inl rfl)) (pgs_cons (pg_name (i := 4) sc_with_part.nd rfl (.inl rfl)) (pgs_cons (pg_name (i := 5) sc_with_part.nd rfl (.inl rfl)) pgs_nil)))))
    (pss_cons (ps_if (pt_cmpR op_eq (pe_ix ix_str (pv 1) pe_int (fun _ _ => rfl)) pe_str (nomark _))
      (pss_one (ps_ret (pe_tup (pa_cons (pe_call Dself.ok (hr.mono (by omega)) rfl Dself.g Dself.kp Dself.b .nil pass0 (pa_cons (pv 3) (pa_cons (pe_slice sl_str (pv 1) (po_some pe_int) po_none) (pa_cons (pv 2) pa_nil)))) (pa_cons (pv 4) (pa_cons (pv 5) pa_nil)))))) pss_nil)
    (pss_one (ps_ret (pe_tup (pa_cons (pv 3) (pa_cons (pv 4) (pa_cons (pe_call Dself.ok (hr.mono (by omega)) rfl Dself.g Dself.kp Dself.b .nil pass0 (pa_cons (pv 5) (pa_cons (pe_slice sl_str (pv 1) (po_some pe_int) po_none) (pa_cons (pv 2) pa_nil)))) pa_nil))))))))), ?_⟩
    have lp : (px p).length ≤ sizeLine := small (by rw [px_len]; omega)
    refine ⟨_, rfl, rfl, _, rfl, ?_⟩
    cases p with
    | nil =>
      refine iteS px_nil ⟨_, rfl, ?_⟩
      have e : t.put [] u = u := by cases t <;> rfl
      rw [e] at q
      exact q vp H (Same.refl H) hu
    | cons d p =>
      refine iteR (fun z => by rw [← px_nil] at z; cases px_inj z) ?_
      rcases ht.inv with ⟨rfl, rfl⟩ | ⟨a, vl, vr, x, tl, tr, rfl, rfl, ea, hl, hr'⟩
      · cases hs
      refine ⟨_, rfl, a, _, rfl, SqT.of ea, rfl, vl, _, rfl, .str (ch x), _, rfl, vr, _, rfl, rfl, ?_⟩
      have hp' : p.length + 1 < n + 1 := hn
      have hp2 : p.length + 1 ≤ 100 := hp
      refine ⟨_, rfl, _, _, _, rfl, rfl, lp, atI_nat (j := 0) rfl, rfl, _, rfl, ?_⟩
      have e0 : decide (V.str (ch (dir d)) = V.str (Str.ofString "l")) = !d := dir_str d
      have ed : cutS (px (d :: p)) (some 1) none = px p := px_drop _
      cases d with
      | false =>
        refine iteS str_l.symm ⟨_, rfl, _, rfl, _, rfl, _, rfl, lp, _, rfl, vl, vp, tl, u, p, by rw [ed]; rfl, hl, hu, by omega, by omega, hs, fun v' H1 s1 h1 => ?_⟩
        refine ⟨_, rfl, _, rfl, (by show 3 ≤ sizeLine; decide), fun r nr => ?_⟩
        have k2 := same_new nr (.tup [v', .str (ch x), vr])
        exact q _ _ (s1.trans k2) (.node upd_same (h1.same k2) (hr'.same (s1.trans k2)))
      | true =>
        refine iteR (fun z => by rw [str_l] at z; have := tx_inj z; cases this) ⟨_, rfl, _, rfl, _, rfl, _, rfl, _, rfl, _, rfl, lp, _, rfl, vr, vp, tr, u, p, by rw [ed]; rfl, hr', hu, by omega, by omega, hs, fun v' H1 s1 h1 => ?_⟩
        refine ⟨(by show 3 ≤ sizeLine; decide), fun r nr => ?_⟩
        have k2 := same_new nr (.tup [vl, .str (ch x), v'])
        exact q _ _ (s1.trans k2) (.node upd_same (hl.same (s1.trans k2)) (h1.same k2))
theorem ok_repl {tM : Tok} (F : Fun K "replaced" "replaced" s_replaced f fd) (mMAX : mg "MAX_NODES" = some (.int 12 tM)) (Dpart_at : Df P w K mg base 1 "part_at" ["tree", "path"] spPart) (Dsize_of : Df P w K mg base 20 "size_of" ["tree"] (spSz 20)) (Dwith_part : Df P w K mg base 20 "with_part" ["tree", "path", "part"] (spWith 20)) :
    FnOk P w K mg base CX0 21 f fd ["tree", "path", "part"] spRepl := by
  refine F.ok sc_replaced (fun vs H Q E h => ?_) (fun cdv A outer s H vs Q E hr h => ?_)
  · obtain ⟨v, vp, t, u, o, p, rfl, _⟩ := h
    rfl
  obtain ⟨v, vp, t, u, o, p, rfl, ht, hu, ho, h12, h12', q⟩ := h
  refine ⟨_, (pss_cons (ps_set (i := 3) sc_replaced.nd rfl (.inl rfl) (pe_call Dpart_at.ok (hr.mono (by omega)) rfl Dpart_at.g Dpart_at.kp Dpart_at.b .nil pass0 (pa_cons (pv 0) (pa_cons (pv 1) pa_nil))))
    (pss_cons (ps_if (pt_cmpR op_gt (pe_op op_add (pe_op op_sub (pe_call Dsize_of.ok (hr.mono (by omega)) rfl Dsize_of.g Dsize_of.kp Dsize_of.b .nil pass0 (pa_cons (pv 0) pa_nil)) (pe_call Dsize_of.ok (hr.mono (by omega)) rfl Dsize_of.g Dsize_of.kp Dsize_of.b .nil pass0 (pa_cons (pv 3) pa_nil))) (pe_call Dsize_of.ok (hr.mono (by omega)) rfl Dsize_of.g Dsize_of.kp Dsize_of.b .nil pass0 (pa_cons (pv 2) pa_nil))) (pe_glob (v := .int _) rfl mMAX ⟨_, rfl⟩) (nomark _))
      (pss_one ps_never) pss_nil)
    (pss_one (ps_ret (pe_call Dwith_part.ok (hr.mono (by omega)) rfl Dwith_part.g Dwith_part.kp Dwith_part.b .nil pass0 (pa_cons (pv 0) (pa_cons (pv 1) (pa_cons (pv 2) pa_nil)))))))), ?_⟩
  have z1 := t.at_size p ho
  have z2 := t.put_size p u ho
  refine ⟨_, rfl, _, rfl, v, t, o, p, rfl, ht, ho, by omega, fun vo H1 s1 ho1 => ?_⟩
  have ht1 := ht.same s1
  have hu1 := hu.same s1
  refine ⟨_, rfl, v, t, rfl, ht1, by omega, _, rfl, vo, o, rfl, ho1, by omega, _, _, rfl, rfl, _, rfl, vp, u, rfl, hu1, by omega, _, _, rfl, rfl, _, _, rfl, rfl, _, rfl, ?_⟩
  rw [decide_eq_false (show ¬ ((t.size : Int) - (o.size : Int) + (u.size : Int) > 12) by omega)]
  refine iteF ?_
  refine ⟨_, rfl, _, rfl, _, rfl, v, vp, t, u, p, rfl, ht1, hu1, by omega, by omega, by rw [ho]; rfl, fun v' H2 s2 h2 => q v' H2 (s1.trans s2) h2⟩
theorem ok_mir (F : Fun K "mirrored" "mirrored" s_mirrored f fd) (b : Binds K fd ["tree"] []) (g : mg "mirrored" = some (.ref f)) : ∀ n : Nat, FnOk P w K mg base CX0 n f fd ["tree"] (spMir n)
  | 0 => by
    have no : ∀ vs H Q E, ¬ spMir 0 vs H Q E := fun vs H Q E h => by
      obtain ⟨v, t, _, _, h1, _⟩ := h
      exact absurd h1 (Nat.not_lt_zero _)
    exact ⟨fun vs H Q E h => absurd h (no vs H Q E), fun A outer s H args us vs Q E _ _ _ _ h => absurd h (no vs H Q E)⟩
  | n + 1 => by
    have Dself : Df P w K mg base n "mirrored" ["tree"] (spMir n) := ⟨f, fd, ok_mir F b g n, b, F.kp, g⟩
    refine F.ok sc_mirrored (fun vs H Q E h => ?_) (fun cdv A outer s H vs Q E hr h => ?_)
    · obtain ⟨v, t, rfl, _⟩ := h
      rfl
    obtain ⟨v, t, rfl, ht, hn, q⟩ := h
    refine ⟨_, (pss_cons (ps_if (pt_cmpR op_isN (pv 0) pe_non (nomark _))
      (pss_one (ps_ret pe_non)) pss_nil)
    (pss_cons (ps_asg (pv 0) (pg_tup rfl (pgs_cons (pg_name (i := 1) sc_mirrored.nd rfl (.inl rfl)) (pgs_cons (pg_name (i := 2) sc_mirrored.nd rfl (.inl rfl)) (pgs_cons (pg_name (i := 3) sc_mirrored.nd rfl (.inl rfl)) pgs_nil)))))
    (pss_one (ps_ret (pe_tup (pa_cons (pe_call Dself.ok (hr.mono (by omega)) rfl Dself.g Dself.kp Dself.b .nil pass0 (pa_cons (pv 3) pa_nil)) (pa_cons (pv 2) (pa_cons (pe_call Dself.ok (hr.mono (by omega)) rfl Dself.g Dself.kp Dself.b .nil pass0 (pa_cons (pv 1) pa_nil)) pa_nil)))))))), ?_⟩
    rcases ht.inv with ⟨rfl, rfl⟩ | ⟨a, vl, vr, x, tl, tr, rfl, rfl, ea, hl, hr'⟩
    · exact ⟨_, rfl, rfl, _, rfl, iteT (q _ _ (Same.refl H) .nil)⟩
    have hz : tl.size + 1 + tr.size < n + 1 := hn
    refine ⟨_, rfl, rfl, _, rfl, iteF ?_⟩
    refine ⟨_, rfl, a, _, rfl, SqT.of ea, rfl, vl, _, rfl, .str (ch x), _, rfl, vr, _, rfl, rfl, ?_⟩
    refine ⟨_, rfl, vr, tr, rfl, hr', by omega, fun v1 H1 s1 h1 => ?_⟩
    refine ⟨_, rfl, _, rfl, vl, tl, rfl, hl.same s1, by omega, fun v2 H2 s2 h2 => ?_⟩
    refine ⟨(by show 3 ≤ sizeLine; decide), fun r nr => ?_⟩
    have k2 := same_new nr (.tup [v1, .str (ch x), v2])
    exact q _ _ (s1.trans (s2.trans k2)) (.node upd_same (h1.same (s2.trans k2)) (h2.same k2))
end
/-! ### first, *rest = a tuple -/
section
open PySem.W
theorem unpack_head {prog : Program} {w : World} {A : Around} {E : Value → Shared → Prop} {s : Shared} {l : Addr} {u : Value} {us : List Value} {Q : List Value → Shared → Prop} (hl : IsTup s.heap l (u :: us).toArray) (hh : A.handled = none) (hz : us.length ≤ 1000)
    (h : ∀ (h' : Heap) (tk : Tok), (∀ b o, s.heap.get? b = some o → h'.get? b = some o) → Q [u, .ref h'.objs.size] { s with heap := h'.push { cls := .type "list", data := .seq us.toArray }, toks := tk }) : wpAny (model prog w) A (unpackItems (.ref l) 2 (some 1)) Q E s := by
  have hlt : l ≠ s.heap.objs.size := by obtain ⟨o, ho, _⟩ := hl; exact Nat.ne_of_lt (Heap.lt_size ho)
  have sz : (u :: us).toArray.size = us.length + 1 := by simp
  unfold unpackItems
  refine wpAny_bind ?_
  unfold notIterableAtAll
  refine wpAny_bind (wpAny_specialOf hl.typeIs slot_tuple_iter.lookup ?_)
  refine wpAny_pure ?_
  simp only [Bool.false_eq_true, if_false]
  refine wpAny_bind (wpAny_holding (iter_tuple hl ?_))
  refine wpAny_bind (wpAny_holding (draw_tuple hlt 1 0 _ _ ⟨_, Heap.get?_push_size _ rfl, rfl, rfl⟩ (hl.push _) (by omega) fun h₁ it₁ b₁ => ?_))
  have hl₁ : IsTup h₁ l (u :: us).toArray := (hl.push _).extBut b₁.extBut hlt
  have it₁' := it₁
  obtain ⟨oi, hoi, _⟩ := it₁'
  have hl₁' := hl₁
  obtain ⟨ol, hol, _⟩ := hl₁'
  show wpAny _ _ (if ([u] : List Value).length < 1 then _ else _) _ _ _
  rw [if_neg (by show ¬ 1 < 1; omega)]
  refine wpAny_bind (wpAny_holding (kun_collect (s := { s with heap := h₁ }) (T := "tuple_iterator") (.inr (.inr (.inr rfl))) (Walks.tuple (A := A.in1) hh s.heap.objs.size l hlt (u :: us).toArray) (fun j u st => st.1.typeIs) (k := 1) (by omega) ⟨it₁, hl₁⟩ (Heap.lt_size hoi) (Heap.lt_size hol) (fun h₂ tk hk => ?_) (by rw [sz, sizeLine_eq]; omega)))
  show wpAny _ _ (if (us : List Value).length < 2 - 1 - 1 then _ else _) _ _ _
  rw [if_neg (by omega)]
  show wpAny _ _ (newList (us.take (us.length - 0)) >>= fun d => pure ([u] ++ [d] ++ us.drop (us.length - 0))) _ _ _
  rw [Nat.sub_zero, List.take_length, List.drop_length]
  refine wpAny_bind (wpAny_newList ?_ (by rw [sizeLine_eq]; omega))
  refine wpAny_pure ?_
  exact h h₂ tk fun b o e => hk b o (Nat.ne_of_lt (Heap.lt_size e)) (b₁.extBut b o (Nat.ne_of_lt (Heap.lt_size e)) (Heap.get?_push_of_some _ e))
end
def gHead (K : PySem.W.Frag) (t1 t2 : TG) : TG := fun v σ H Q => ∃ a x xs, v = .ref a ∧ SqT K H a (x :: xs) ∧ xs.length ≤ 1000 ∧ ∀ D, H D = none → t1 x σ (upd H D (.lst xs)) fun σ1 H1 => t2 (.ref D) σ1 H1 Q
theorem pg_head {X : Cx} {pos sp_ : Pos} {e1 e2 : Expr} {k : Nat} {t1 t2 : TG} (hc : X.calm = true) (h1 : PG X e1 t1) (h2 : PG X e2 t2)
    (hn : (assignEach [e1, .Starred e2 sp_] X.env).length = 2 := by rfl) (hst : (assignEach [e1, .Starred e2 sp_] X.env).findIdx? (·.1) = some 1 := by rfl)
    (hm : (assignEach [e1, .Starred e2 sp_] X.env).map (·.2) = [assign e1 X.env, assign e2 X.env] := by rfl) : PG X (.Tuple [e1, .Starred e2 sp_] k pos) (gHead X.K t1 t2) := by
  refine ⟨fun pins s σ H v u Q I r hw => ?_⟩
  obtain ⟨a, x, xs, e, hq, hz, hw⟩ := hw
  subst e
  cases r
  obtain ⟨its, rv, ht, _⟩ := I.tuple hq
  cases rv with
  | cons r1 rr =>
    rename_i y ys
    rw [PyProof.Rows.assign_Tuple]
    refine wpAny_bind (wpAny_standAt ?_)
    unfold unpack
    rw [hn, hst]
    refine wpAny_bind (wpAny_holding (unpack_head ht (I.ok.hd hc) (by rw [← rr.length]; exact hz) fun h' tk hk => ?_))
    have I1 : Inv X pins σ H { s with heap := h', toks := tk } := I.kept hk
    have I2 : Inv X pins σ (upd H h'.objs.size (.lst xs)) { s with heap := h'.push { cls := .type "list", data := .seq ys.toArray }, toks := tk } :=
      I1.laid (fun b o e => Heap.get?_push_of_some _ e) (Nat.le_refl _) ⟨small hz, ys, 0, rr, Heap.get?_push_size _ rfl⟩
    rw [hm]
    refine assignInOrder_cons (thn (h1.run pins _ σ _ x y _ I2 r1 (hw _ (I1.hok.fresh (Nat.le_refl _)))) fun _ s1 ⟨σ1, H1, I3, q1⟩ => ?_)
    refine assignInOrder_cons (thn (h2.run pins s1 σ1 H1 (.ref h'.objs.size) _ _ I3 rfl q1) fun _ s2 ⟨σ2, H2, I4, q2⟩ => ?_)
    exact assignInOrder_nil ⟨σ2, H2, I4, q2⟩
/-! ### a call with a star of a def that a name holds -/
structure HeldR (P : Program) (w : World) (K : PySem.W.Frag) (mg : Str → Option Value) (base : Heap) (k : Nat) (f : Addr) (sp : Sp) : Prop where
  ok : FnR P w K mg base CX0 k f sp
  kp : PySem.W.keepIn K (.ref f) = true
def tCallAS (i : Nat) (S : Addr → Sp → Prop) (t : TA) : TE := fun σ H Q => ∃ f sp, σ[i]? = some (some (.ref f)) ∧ S f sp ∧ t σ H fun vs H1 => sp vs H1 Q E0
theorem pe_callAS {X : Cx} {k i : Nat} {S : Addr → Sp → Prop} {x : Str} {p pos : Pos} {e : Expr} {es : List Expr} {t : TA} (A : ∀ f sp, S f sp → HeldR X.prog X.w X.K X.mg X.base k f sp) (hr : Room k X.A) (hN : X.N[i]? = some x) (hv : Vis X.env.scope x) (ha : PA X (e :: es) t)
    (hdb : (x == ("__debug__" : Str)) = false := by decide) (hcd : (x == ("__classdict__" : Str)) = false := by decide)
    (he : starEach (e :: es) X.env = (false, eval e X.env) :: starEach es X.env := by rfl) (hst : (backTo pos (starEach es X.env)).any (·.1) = true := by rfl) : PE X (.Call (.Name x p) (e :: es) [] pos) (tCallAS i S t) := by
  refine ⟨fun pins s σ H Q I h => ?_⟩
  obtain ⟨f, sp, hs, hS, ht⟩ := h
  obtain ⟨F, hk⟩ := A f sp hS
  refine wpAny_Call_Name_kw (thn ((pe_var (pos := p) hN hv hdb hcd).run pins s σ H (fun v H1 => v = .ref f ∧ H1 = H) I ⟨.ref f, hs, rfl, rfl⟩) fun u s1 ⟨v, H1, I1, r1, q1⟩ => ?_)
  obtain ⟨rfl, rfl⟩ := q1
  cases r1
  refine PySem.W.callWith_S2 (h₀ := X.base) I.ok.mod.kin hk (thn (ha.run pos pins s1 σ _ _ I1 ht) fun us s2 ⟨vs, H2, I2, r, q⟩ => ⟨I2.kIn, ?_⟩) he hst
  exact wpAny_call (run_fnR F hr pass0 I2 r q)
/-! ### the edits of a tree -/
/-- an edit that can be done -/
inductive Ed where
  | put (p : List Bool) (c : Nat)
  | cut (p : List Bool)
  | label (p : List Bool) (c : Nat)
  | turn (p : List Bool)
def Ed.word : Ed → Str
  | .put _ _ => "put"
  | .cut _ => "cut"
  | .label _ _ => "label"
  | .turn _ => "turn"
def Ed.args : Ed → List V
  | .put p c => [.str (px p), .str (ch c)]
  | .cut p => [.str (px p)]
  | .label p c => [.str (px p), .str (ch c)]
  | .turn p => [.str (px p)]
def Ed.vals (e : Ed) : List V := .str e.word :: e.args
/-- it can be done, and this becomes of the tree -/
inductive Does : B → Ed → B → Prop
  | put {t : B} {p : List Bool} {c : Nat} : t.at p = some .nil → isLow c = true → t.size ≤ 11 → Does t (.put p c) (t.put p (.node .nil c .nil))
  | cut {t u : B} {p : List Bool} : t.at p = some u → u ≠ .nil → p ≠ [] → Does t (.cut p) (t.put p .nil)
  | label {t l r : B} {p : List Bool} {y c : Nat} : t.at p = some (.node l y r) → isLow c = true → Does t (.label p c) (t.put p (.node l c r))
  | turn {t u : B} {p : List Bool} : t.at p = some u → u ≠ .nil → Does t (.turn p) (t.put p u.mir)
theorem nd_nil {t : B} : t ≠ .nil ↔ 1 ≤ t.size := by
  cases t with
  | nil => exact ⟨fun h => absurd rfl h, fun h => absurd h (by decide)⟩
  | node l x r => exact ⟨fun _ => by show 1 ≤ l.size + 1 + r.size; omega, fun _ z => nomatch z⟩
theorem put_ne {t : B} {p : List Bool} {u : B} (h : p ≠ []) (ht : (t.at p).isSome = true) : t.put p u ≠ .nil := by
  cases p with
  | nil => exact absurd rfl h
  | cons b p => cases t with
    | nil => cases ht
    | node l x r => cases b <;> exact fun z => nomatch z
theorem Does.good {t t' : B} {e : Ed} (d : Does t e t') (h1 : t.lts) (h2 : t.size ≤ 12) (h3 : t ≠ .nil) : t'.lts ∧ t'.size ≤ 12 ∧ t' ≠ .nil := by
  cases d with
  | @put p c ho hc hz =>
    have := t.put_size p (.node .nil c .nil) ho
    have e1 : (B.node .nil c .nil).size = 1 := rfl
    have e2 : B.nil.size = 0 := rfl
    exact ⟨B.put_lts _ _ h1 (B.lts_node.mpr ⟨hc, B.lts_nil, B.lts_nil⟩), by omega, nd_nil.mpr (by omega)⟩
  | @cut u p ho hu hp =>
    have := t.put_size p .nil ho
    have e2 : B.nil.size = 0 := rfl
    exact ⟨B.put_lts _ _ h1 B.lts_nil, by omega, put_ne hp (by rw [ho]; rfl)⟩
  | @label l r p y c ho hc =>
    have := t.put_size p (.node l c r) ho
    have e1 : (B.node l c r).size = (B.node l y r).size := rfl
    have hl := B.at_lts t p ho h1
    have hn := nd_nil.mp h3
    exact ⟨B.put_lts _ _ h1 (B.lts_node.mpr ⟨hc, (B.lts_node.mp hl).2⟩), by omega, nd_nil.mpr (by omega)⟩
  | @turn u p ho hu =>
    have := t.put_size p u.mir ho
    have e1 := u.mir_size
    have hl := B.at_lts t p ho h1
    have hn := nd_nil.mp h3
    exact ⟨B.put_lts _ _ h1 (u.mir_lts hl), by omega, nd_nil.mpr (by omega)⟩
def spOpen : Sp := fun vs H Q _ => ∃ (v : V) (t : B) (p : List Bool), vs = [v, .str (px p)] ∧ BAt H v t ∧ t.at p = some .nil ∧ p.length ≤ 100 ∧ ∀ H', Same H H' → Q (.bl true) H'
def spNodeAt : Sp := fun vs H Q _ => ∃ (v : V) (t u : B) (p : List Bool), vs = [v, .str (px p)] ∧ BAt H v t ∧ t.at p = some u ∧ u ≠ .nil ∧ p.length ≤ 100 ∧ ∀ (v' : V) (H' : Hp), Same H H' → BAt H' v' u → Q v' H'
/-- one of the four: the tree, then the edit's arguments -/
def spAct (mk : Ed → Prop) : Sp := fun vs H Q _ => ∃ (v : V) (t t' : B) (e : Ed), vs = v :: e.args ∧ mk e ∧ BAt H v t ∧ Does t e t' ∧ t.size ≤ 12 ∧ t.lts ∧ t ≠ .nil ∧ ∀ (v' : V) (H' : Hp), Same H H' → BAt H' v' t' → Q v' H'
def isPut : Ed → Prop | .put _ _ => True | _ => False
def isCut : Ed → Prop | .cut _ => True | _ => False
def isLab : Ed → Prop | .label _ _ => True | _ => False
def isTur : Ed → Prop | .turn _ => True | _ => False
def spEdited : Sp := fun vs H Q _ => ∃ (v : V) (t t' : B) (e : Ed) (a : Addr), vs = [v, .ref a] ∧ H a = some (.tup e.vals) ∧ BAt H v t ∧ Does t e t' ∧ t.size ≤ 12 ∧ t.lts ∧ t ≠ .nil ∧ ∀ (v' : V) (H' : Hp), Same H H' → BAt H' v' t' → Q v' H'
/-- the table of the actions -/
structure Acts (K : PySem.W.Frag) (w : World) (mg : Str → Option Value) (aA f1 f2 f3 f4 : Addr) : Prop where
  g : mg "ACTIONS" = some (.ref aA)
  put : L2.KDct K w aA "put" (.ref f1)
  cut : L2.KDct K w aA "cut" (.ref f2)
  label : L2.KDct K w aA "label" (.ref f3)
  turn : L2.KDct K w aA "turn" (.ref f4)
section
variable {P : Program} {w : World} {K : PySem.W.Frag} {mg : Str → Option Value} {base : Heap} {f : Addr} {fd : FuncData}
theorem ok_open {k : Nat} (F : Fun K "is_open" "is_open" s_is_open f fd) (Dpart_at : Df P w K mg base (k + 1) "part_at" ["tree", "path"] spPart) : FnOk P w K mg base CX0 (k + 2) f fd ["tree", "path"] spOpen := by
  refine F.ok sc_is_open (fun vs H Q E h => ?_) (fun cdv A outer s H vs Q E hr h => ?_)
  · obtain ⟨v, t, p, rfl, _⟩ := h
    rfl
  obtain ⟨v, t, p, rfl, ht, ho, hp, q⟩ := h
  refine ⟨_, (pss_one (ps_try_thru0 (pss_one (ps_ret (pe_cmpR op_isN (pe_call Dpart_at.ok (hr.mono (by omega)) rfl Dpart_at.g Dpart_at.kp Dpart_at.b .nil pass0 (pa_cons (pv 0) (pa_cons (pv 1) pa_nil))) pe_non (nomark _)))))), ?_⟩
  refine ⟨_, rfl, _, rfl, v, t, .nil, p, rfl, ht, ho, hp, fun v' H1 s1 h1 => ?_⟩
  cases h1
  exact ⟨rfl, q H1 s1⟩
theorem ok_nodeAt {k : Nat} (F : Fun K "node_at" "node_at" s_node_at f fd) (Dpart_at : Df P w K mg base (k + 1) "part_at" ["tree", "path"] spPart) : FnOk P w K mg base CX0 (k + 2) f fd ["tree", "path"] spNodeAt := by
  refine F.ok sc_node_at (fun vs H Q E h => ?_) (fun cdv A outer s H vs Q E hr h => ?_)
  · obtain ⟨v, t, u, p, rfl, _⟩ := h
    rfl
  obtain ⟨v, t, u, p, rfl, ht, ho, hu, hp, q⟩ := h
  refine ⟨_, (pss_cons (ps_set (i := 2) sc_node_at.nd rfl (.inl rfl) (pe_call Dpart_at.ok (hr.mono (by omega)) rfl Dpart_at.g Dpart_at.kp Dpart_at.b .nil pass0 (pa_cons (pv 0) (pa_cons (pv 1) pa_nil))))
    (pss_cons (ps_if (pt_cmpR op_isN (pv 2) pe_non (nomark _))
      (pss_one ps_never) pss_nil)
    (pss_one (ps_ret (pv 2))))), ?_⟩
  refine ⟨_, rfl, _, rfl, v, t, u, p, rfl, ht, ho, hp, fun v' H1 s1 h1 => ?_⟩
  rcases h1.inv with ⟨_, rfl⟩ | ⟨a, vl, vr, x, tl, tr, rfl, rfl, _⟩
  · exact absurd rfl hu
  · exact ⟨_, rfl, rfl, _, rfl, iteF ⟨_, rfl, q _ H1 s1 h1⟩⟩
end
/-! ### the four actions, edited -/
theorem Does.plen {t t' : B} {e : Ed} (d : Does t e t') : ∃ p o, t.at p = some o ∧ p.length ≤ t.size := by
  cases d with
  | put ho _ _ => exact ⟨_, _, ho, by have := B.at_size _ _ ho; omega⟩
  | cut ho _ _ => exact ⟨_, _, ho, by have := B.at_size _ _ ho; omega⟩
  | label ho _ => exact ⟨_, _, ho, by have := B.at_size _ _ ho; omega⟩
  | turn ho _ => exact ⟨_, _, ho, by have := B.at_size _ _ ho; omega⟩
section
variable {P : Program} {w : World} {K : PySem.W.Frag} {mg : Str → Option Value} {base : Heap} {f f1 f2 f3 f4 aA : Addr} {fd : FuncData}
theorem ok_withNode (F : Fun K "with_node" "with_node" s_with_node f fd) (Dis_open : Df P w K mg base 2 "is_open" ["tree", "path"] spOpen) (Dis_letter : Df P w K mg base 1 "is_letter" ["value"] spLow) (Dreplaced : Df P w K mg base 21 "replaced" ["tree", "path", "part"] spRepl) :
    FnOk P w K mg base CX0 22 f fd ["tree", "path", "label"] (spAct isPut) := by
  refine F.ok (k := 21) sc_with_node (fun vs H Q E h => ?_) (fun cdv A outer s H vs Q E hr h => ?_)
  · obtain ⟨v, t, t', e, rfl, he, _⟩ := h
    cases e <;> first | rfl | exact he.elim
  obtain ⟨v, t, t', e, rfl, he, ht, d, h12, hl, hn, q⟩ := h
  have gd := d.good hl h12 hn
  cases d with
  | cut _ _ _ => exact he.elim
  | label _ _ => exact he.elim
  | turn _ _ => exact he.elim
  | @put p c ho hc hz =>
    refine ⟨_, (pss_cons (ps_if (pt_not (pt_val (pe_call Dis_open.ok (hr.mono (by omega)) rfl Dis_open.g Dis_open.kp Dis_open.b .nil pass0 (pa_cons (pv 0) (pa_cons (pv 1) pa_nil)))))
      (pss_one ps_never) pss_nil)
    (pss_cons (ps_if (pt_not (pt_val (pe_call Dis_letter.ok (hr.mono (by omega)) rfl Dis_letter.g Dis_letter.kp Dis_letter.b .nil pass0 (pa_cons (pv 2) pa_nil))))
      (pss_one ps_never) pss_nil)
    (pss_one (ps_ret (pe_call Dreplaced.ok (hr.mono (by omega)) rfl Dreplaced.g Dreplaced.kp Dreplaced.b .nil pass0 (pa_cons (pv 0) (pa_cons (pv 1) (pa_cons (pe_tup (pa_cons pe_non (pa_cons (pv 2) (pa_cons pe_non pa_nil)))) pa_nil)))))))), ?_⟩
    have hp := t.at_size p ho
    refine ⟨_, rfl, _, rfl, v, t, p, rfl, ht, ho, by omega, fun H1 s1 => ⟨_, rfl, iteF ?_⟩⟩
    refine ⟨_, rfl, [c], rfl, Nat.le_refl _, _, rfl, ?_⟩
    have e1 : isLt [c] = true := hc
    rw [e1]
    refine iteF ⟨_, rfl, _, rfl, _, rfl, (by show 3 ≤ sizeLine; decide), fun r nr => ?_⟩
    have k2 := same_new nr (.tup [.non, .str (ch c), .non])
    exact ⟨v, .ref r, t, .node .nil c .nil, .nil, p, rfl, ht.same (s1.trans k2), .node upd_same .nil .nil, ho, h12, gd.2.1, fun v' H2 s2 h2 => q v' H2 (s1.trans (k2.trans s2)) h2⟩
theorem ok_without (F : Fun K "without_node" "without_node" s_without_node f fd) (Dnode_at : Df P w K mg base 2 "node_at" ["tree", "path"] spNodeAt) (Dreplaced : Df P w K mg base 21 "replaced" ["tree", "path", "part"] spRepl) :
    FnOk P w K mg base CX0 22 f fd ["tree", "path"] (spAct isCut) := by
  refine F.ok (k := 21) sc_without_node (fun vs H Q E h => ?_) (fun cdv A outer s H vs Q E hr h => ?_)
  · obtain ⟨v, t, t', e, rfl, he, _⟩ := h
    cases e <;> first | rfl | exact he.elim
  obtain ⟨v, t, t', e, rfl, he, ht, d, h12, hl, hn, q⟩ := h
  have gd := d.good hl h12 hn
  cases d with
  | put _ _ _ => exact he.elim
  | label _ _ => exact he.elim
  | turn _ _ => exact he.elim
  | @cut u p ho hu hpn =>
    refine ⟨_, (pss_cons (ps_expr (pe_call Dnode_at.ok (hr.mono (by omega)) rfl Dnode_at.g Dnode_at.kp Dnode_at.b .nil pass0 (pa_cons (pv 0) (pa_cons (pv 1) pa_nil))))
    (pss_cons (ps_if (pt_cmpR op_eq (pv 1) pe_str (nomark _))
      (pss_one ps_never) pss_nil)
    (pss_one (ps_ret (pe_call Dreplaced.ok (hr.mono (by omega)) rfl Dreplaced.g Dreplaced.kp Dreplaced.b .nil pass0 (pa_cons (pv 0) (pa_cons (pv 1) (pa_cons pe_non pa_nil)))))))), ?_⟩
    have hp := t.at_size p ho
    refine ⟨_, rfl, _, rfl, v, t, u, p, rfl, ht, ho, hu, by omega, fun v1 H1 s1 h1 => ?_⟩
    refine ⟨_, rfl, rfl, _, rfl, iteR (fun z => hpn (by rw [← px_nil] at z; exact px_inj z)) ?_⟩
    exact ⟨_, rfl, _, rfl, v, .non, t, .nil, u, p, rfl, ht.same s1, .nil, ho, h12, gd.2.1, fun v' H2 s2 h2 => q v' H2 (s1.trans s2) h2⟩
theorem ok_withLabel (F : Fun K "with_label" "with_label" s_with_label f fd) (Dnode_at : Df P w K mg base 2 "node_at" ["tree", "path"] spNodeAt) (Dis_letter : Df P w K mg base 1 "is_letter" ["value"] spLow) (Dreplaced : Df P w K mg base 21 "replaced" ["tree", "path", "part"] spRepl) :
    FnOk P w K mg base CX0 22 f fd ["tree", "path", "label"] (spAct isLab) := by
  refine F.ok (k := 21) sc_with_label (fun vs H Q E h => ?_) (fun cdv A outer s H vs Q E hr h => ?_)
  · obtain ⟨v, t, t', e, rfl, he, _⟩ := h
    cases e <;> first | rfl | exact he.elim
  obtain ⟨v, t, t', e, rfl, he, ht, d, h12, hl, hn, q⟩ := h
  have gd := d.good hl h12 hn
  cases d with
  | put _ _ _ => exact he.elim
  | cut _ _ _ => exact he.elim
  | turn _ _ => exact he.elim
  | @label l r p y c ho hc =>
    refine ⟨_, (pss_cons (ps_asg (pe_call Dnode_at.ok (hr.mono (by omega)) rfl Dnode_at.g Dnode_at.kp Dnode_at.b .nil pass0 (pa_cons (pv 0) (pa_cons (pv 1) pa_nil))) (pg_tup rfl (pgs_cons (pg_name (i := 3) sc_with_label.nd rfl (.inl rfl)) (pgs_cons (pg_name (i := 4) sc_with_label.nd rfl (.inl rfl)) (pgs_cons (pg_name (i := 5) sc_with_label.nd rfl (.inl rfl)) pgs_nil)))))
    (pss_cons (ps_if (pt_not (pt_val (pe_call Dis_letter.ok (hr.mono (by omega)) rfl Dis_letter.g Dis_letter.kp Dis_letter.b .nil pass0 (pa_cons (pv 2) pa_nil))))
      (pss_one ps_never) pss_nil)
    (pss_one (ps_ret (pe_call Dreplaced.ok (hr.mono (by omega)) rfl Dreplaced.g Dreplaced.kp Dreplaced.b .nil pass0 (pa_cons (pv 0) (pa_cons (pv 1) (pa_cons (pe_tup (pa_cons (pv 3) (pa_cons (pv 2) (pa_cons (pv 5) pa_nil)))) pa_nil)))))))), ?_⟩
    have hp := t.at_size p ho
    refine ⟨_, rfl, _, rfl, v, t, _, p, rfl, ht, ho, (fun z => nomatch z), by omega, fun v1 H1 s1 h1 => ?_⟩
    rcases h1.inv with ⟨_, z⟩ | ⟨a, vl, vr, x, tl, tr, rfl, e, ea, aL, aR⟩
    · cases z
    cases e
    refine ⟨a, _, rfl, SqT.of ea, rfl, vl, _, rfl, .str (ch y), _, rfl, vr, _, rfl, rfl, ?_⟩
    refine ⟨_, rfl, [c], rfl, Nat.le_refl _, _, rfl, ?_⟩
    have e1 : isLt [c] = true := hc
    rw [e1]
    refine iteF ⟨_, rfl, _, rfl, _, rfl, _, rfl, _, rfl, (by show 3 ≤ sizeLine; decide), fun r' nr => ?_⟩
    have k2 := same_new nr (.tup [vl, .str (ch c), vr])
    exact ⟨v, .ref r', t, .node l c r, _, p, rfl, ht.same (s1.trans k2), .node upd_same (aL.same k2) (aR.same k2), ho, h12, gd.2.1, fun v' H2 s2 h2 => q v' H2 (s1.trans (k2.trans s2)) h2⟩
theorem ok_turned (F : Fun K "turned" "turned" s_turned f fd) (Dnode_at : Df P w K mg base 2 "node_at" ["tree", "path"] spNodeAt) (Dmirrored : Df P w K mg base 20 "mirrored" ["tree"] (spMir 20)) (Dreplaced : Df P w K mg base 21 "replaced" ["tree", "path", "part"] spRepl) :
    FnOk P w K mg base CX0 22 f fd ["tree", "path"] (spAct isTur) := by
  refine F.ok (k := 21) sc_turned (fun vs H Q E h => ?_) (fun cdv A outer s H vs Q E hr h => ?_)
  · obtain ⟨v, t, t', e, rfl, he, _⟩ := h
    cases e <;> first | rfl | exact he.elim
  obtain ⟨v, t, t', e, rfl, he, ht, d, h12, hl, hn, q⟩ := h
  have gd := d.good hl h12 hn
  cases d with
  | put _ _ _ => exact he.elim
  | cut _ _ _ => exact he.elim
  | label _ _ => exact he.elim
  | @turn u p ho hu =>
    refine ⟨_, (pss_one (ps_ret (pe_call Dreplaced.ok (hr.mono (by omega)) rfl Dreplaced.g Dreplaced.kp Dreplaced.b .nil pass0 (pa_cons (pv 0) (pa_cons (pv 1) (pa_cons (pe_call Dmirrored.ok (hr.mono (by omega)) rfl Dmirrored.g Dmirrored.kp Dmirrored.b .nil pass0 (pa_cons (pe_call Dnode_at.ok (hr.mono (by omega)) rfl Dnode_at.g Dnode_at.kp Dnode_at.b .nil pass0 (pa_cons (pv 0) (pa_cons (pv 1) pa_nil))) pa_nil)) pa_nil)))))), ?_⟩
    have hp := t.at_size p ho
    refine ⟨_, rfl, _, rfl, _, rfl, _, rfl, v, t, u, p, rfl, ht, ho, hu, by omega, fun v1 H1 s1 h1 => ?_⟩
    refine ⟨v1, u, rfl, h1, by omega, fun v2 H2 s2 h2 => ?_⟩
    exact ⟨v, v2, t, u.mir, u, p, rfl, ht.same (s1.trans s2), h2, ho, h12, gd.2.1, fun v' H3 s3 h3 => q v' H3 (s1.trans (s2.trans s3)) h3⟩
theorem ok_edited (F : Fun K "edited" "edited" s_edited f fd) (AC : Acts K w mg aA f1 f2 f3 f4) (A1 : HeldR P w K mg base 22 f1 (spAct isPut)) (A2 : HeldR P w K mg base 22 f2 (spAct isCut)) (A3 : HeldR P w K mg base 22 f3 (spAct isLab)) (A4 : HeldR P w K mg base 22 f4 (spAct isTur)) :
    FnOk P w K mg base CX0 23 f fd ["tree", "edit"] spEdited := by
  refine F.ok (k := 22) sc_edited (fun vs H Q E h => ?_) (fun cdv A outer s H vs Q E hr h => ?_)
  · obtain ⟨v, t, t', e, a, rfl, _⟩ := h
    rfl
  obtain ⟨v, t, t', e, a, rfl, ea, ht, d, h12, hl, hn, q⟩ := h
  have AH : ∀ f sp, (fun (g : Addr) (sp : Sp) => (g = f1 ∧ sp = spAct isPut) ∨ (g = f2 ∧ sp = spAct isCut) ∨ (g = f3 ∧ sp = spAct isLab) ∨ (g = f4 ∧ sp = spAct isTur)) f sp → HeldR P w K mg base 22 f sp := by
    rintro f sp (⟨rfl, rfl⟩ | ⟨rfl, rfl⟩ | ⟨rfl, rfl⟩ | ⟨rfl, rfl⟩)
    · exact A1
    · exact A2
    · exact A3
    · exact A4
  refine ⟨_, (pss_cons (ps_asg (pv 1) (pg_head rfl (pg_name (i := 2) sc_edited.nd rfl (.inl rfl)) (pg_name (i := 3) sc_edited.nd rfl (.inl rfl))))
    (pss_cons (ps_set (i := 4) sc_edited.nd rfl (.inl rfl) (pe_ix ix_kdict (pe_glob (v := .ref _) rfl AC.g rfl) (pv 2) (fun _ _ => rfl)))
    (pss_one (ps_ret (pe_callAS (i := 4) AH (hr.mono (by omega)) rfl (.inl rfl) (pa_cons (pv 0) (StX.pa_star (pv 3) pa_nil))))))), ?_⟩
  refine ⟨_, rfl, a, .str e.word, e.args, rfl, SqT.of ea, by cases e <;> (show _ ≤ 1000; simp [Ed.args]), fun L nL => ?_⟩
  have k1 := same_new nL (.lst e.args)
  have eL := upd_same (H := H) (a := L) (o := .lst e.args)
  have ht1 := ht.same k1
  generalize upd H L (.lst e.args) = H1 at k1 eL ht1 ⊢
  cases e with
  | put p c =>
    refine ⟨_, rfl, aA, "put", .ref f1, rfl, rfl, AC.put, ?_⟩
    exact ⟨f1, _, rfl, .inl ⟨rfl, rfl⟩, _, rfl, _, rfl, L, _, rfl, .inr (SqL.of eL), v, t, t', .put p c, rfl, trivial, ht1, d, h12, hl, hn, fun v' H2 s2 h2 => q v' H2 (k1.trans s2) h2⟩
  | cut p =>
    refine ⟨_, rfl, aA, "cut", .ref f2, rfl, rfl, AC.cut, ?_⟩
    exact ⟨f2, _, rfl, .inr (.inl ⟨rfl, rfl⟩), _, rfl, _, rfl, L, _, rfl, .inr (SqL.of eL), v, t, t', .cut p, rfl, trivial, ht1, d, h12, hl, hn, fun v' H2 s2 h2 => q v' H2 (k1.trans s2) h2⟩
  | label p c =>
    refine ⟨_, rfl, aA, "label", .ref f3, rfl, rfl, AC.label, ?_⟩
    exact ⟨f3, _, rfl, .inr (.inr (.inl ⟨rfl, rfl⟩)), _, rfl, _, rfl, L, _, rfl, .inr (SqL.of eL), v, t, t', .label p c, rfl, trivial, ht1, d, h12, hl, hn, fun v' H2 s2 h2 => q v' H2 (k1.trans s2) h2⟩
  | turn p =>
    refine ⟨_, rfl, aA, "turn", .ref f4, rfl, rfl, AC.turn, ?_⟩
    exact ⟨f4, _, rfl, .inr (.inr (.inr ⟨rfl, rfl⟩)), _, rfl, _, rfl, L, _, rfl, .inr (SqL.of eL), v, t, t', .turn p, rfl, trivial, ht1, d, h12, hl, hn, fun v' H2 s2 h2 => q v' H2 (k1.trans s2) h2⟩
end
/-! ### an instance with a dict: constants of its class, len, str -/
structure ConD (K : PySem.W.Frag) (C : Addr) (f : Str) (v : V) (u : Value) : Prop where
  at_ : PySem.W.findIn K (.ref C) f = some (some u)
  get : PySem.W.specialIn K u "__get__" = some none
  rel : RelV v u
  cp : PySem.W.copiedNames.contains f = false
def tConD (K : PySem.W.Frag) (ta : TE) (f : Str) : TE := fun σ H Q => ta σ H fun x H1 => ∃ a C dx fs v u, x = .ref a ∧ H1 a = some (.ins C dx fs) ∧ Cls K C ∧ ConD K C f v u ∧ fs.lookup f = none ∧ Q v H1
theorem isCls_of {K : PySem.W.Frag} {C : Addr} (c : Cls K C) : PySem.W.isClsIn K C = true := by
  obtain ⟨cd, hc, _⟩ := PySem.W.any_some c.hd
  show (PySem.W.clsIn K C).isSome = true
  rw [hc]
  rfl
theorem pe_conD {X : Cx} {e : Expr} {f : Str} {pos : Pos} {ta : TE} (he : PE X e ta) (hb : attributeBase e f X.env (eval e X.env) = eval e X.env := by rfl) : PE X (.Attribute e f pos) (tConD X.K ta f) := by
  refine ⟨fun pins s σ H Q I h => ?_⟩
  refine attr_of hb (thn (he.run pins s σ H _ I h) fun w s1 ⟨x, H1, I1, rx, a, C, dx, fs, v, u, ex, ea, c, k, l, q⟩ => ?_)
  subst ex
  obtain rfl : w = Value.ref a := rx
  obtain ⟨mA, O, r, _, _, _⟩ := ins_get I1.hok ea
  have hn : mA f = none := RelO.none_of (by rw [← l]; exact r f)
  obtain ⟨od, J, hl⟩ := O.look
  exact PySem.W.get_value I1.kIn J (PySem.W.plainGet_of (c.get f)).1 (OwX.find_con (isCls_of c) k.at_ k.get (handed_of k.rel) k.cp (by rw [hl f, hn])) (handed_of k.rel) ⟨v, H1, I1.tok _, k.rel, q⟩
def rLenOwn (C : Addr) (sp : Sp) : List V → Hp → VK → Prop := fun xs H Q => ∃ a dx fs, xs = [.ref a] ∧ H a = some (.ins C dx fs) ∧ sp [.ref a] H (fun z H' => ∃ n : Int, z = .int n ∧ 0 ≤ n ∧ n < 2 ^ 63 ∧ Q z H') E0
theorem call_lenOwn {X : Cx} {C g : Addr} {n : Nat} {sp : Sp} (hs : PySem.W.findIn X.K (.ref C) "__len__" = some (some (.ref g))) (hf : PySem.W.isFn X.K (.ref g) = true) (F : FnR X.prog X.w X.K X.mg X.base CX0 n g sp) (hr : Room (n + 1) X.A) : CallR X (.builtin "len") (rLenOwn C sp) := by
  intro pins s σ H xs us Q I r h
  obtain ⟨a, dx, fs, rfl, ea, q⟩ := h
  obtain ⟨u, rfl, ru⟩ := r.one
  cases (show u = Value.ref a from ru)
  obtain ⟨mA, O, _, _, _, _⟩ := ins_get I.hok ea
  obtain ⟨od, J, _⟩ := O.look
  obtain ⟨m, hF⟩ := I.fr
  refine PySem.W.len_K hF I.ok.mod.kin J hs hf (wpAny_mono (wpAny_call (SlX.run_at (us := [.ref a]) (ws := [.ref a]) F hr.in1 I.env0.in1 pass0 I (.cons rfl .nil) q)) (fun v s' z => ?_) fun _ _ x => x)
  obtain ⟨z', H', I', rz, n, en, h0, h1, qz⟩ := z
  subst en
  obtain ⟨t, e⟩ := (show ∃ t, v = Value.int n t from rz)
  cases e
  exact ⟨⟨h0, h1⟩, .int n, H', I'.tok _, ⟨_, rfl⟩, qz⟩
def rStrOwn (C : Addr) (sp : Sp) : List V → Hp → VK → Prop := fun xs H Q => ∃ a dx fs, xs = [.ref a] ∧ H a = some (.ins C dx fs) ∧ sp [.ref a] H (fun z H' => ∃ x : Str, z = .str x ∧ Q z H') E0
theorem call_strOwn {X : Cx} {C g : Addr} {n : Nat} {sp : Sp} (hs : PySem.W.findIn X.K (.ref C) "__str__" = some (some (.ref g))) (hf : PySem.W.isFn X.K (.ref g) = true) (F : FnR X.prog X.w X.K X.mg X.base CX0 n g sp) (hr : Room (n + 2) X.A) : CallR X (.type "str") (rStrOwn C sp) := by
  intro pins s σ H xs us Q I r h
  obtain ⟨a, dx, fs, rfl, ea, q⟩ := h
  obtain ⟨u, rfl, ru⟩ := r.one
  cases (show u = Value.ref a from ru)
  obtain ⟨mA, O, _, _, _, _⟩ := ins_get I.hok ea
  obtain ⟨od, J, _⟩ := O.look
  have hr2 : Room n X.A.in1.in1 := (show Room (n + 1) X.A.in1 from Room.in1 hr).in1
  refine PySem.W.kso_call hr2.units0 I.kIn J hs hf (wpAny_mono (wpAny_call (SlX.run_at (us := [.ref a]) (ws := [.ref a]) F hr2 I.env0.in1.in1 pass0 I (.cons rfl .nil) q)) (fun v s' z => ?_) fun _ _ x => x)
  obtain ⟨z', H', I', rz, x, en, qz⟩ := z
  subst en
  obtain ⟨t, e⟩ := (show ∃ t, v = Value.str x t from rz)
  cases e
  exact ⟨.str x, H', I', ⟨_, rfl⟩, qz⟩
/-! ### Desk -/
structure DeskC (K : PySem.W.Frag) (mg : Str → Option Value) (C : Addr) : Prop where
  cl : Cls K C
  nT : NoAttr K C "trees"
  nD : NoAttr K C "done"
  nB : NoAttr K C "busy"
  g : mg "Desk" = some (.ref C)
  mo : ∃ u, ConD K C "MOST_EDITS" (.int 60) u
/-- a method of the class, with its promise -/
structure MDf (P : Program) (w : World) (K : PySem.W.Frag) (mg : Str → Option Value) (base : Heap) (C : Addr) (k : Nat) (m : Str) (ps : List Str) (sp : Sp) where
  f : Addr
  fd : FuncData
  ok : FnOk P w K mg base CX0 k f fd ps sp
  b : Binds K fd ps []
  at_ : Meth K C m f
/-- a property of the class -/
structure PDf (P : Program) (w : World) (K : PySem.W.Frag) (mg : Str → Option Value) (base : Heap) (C : Addr) (k : Nat) (m : Str) (sp : Sp) where
  f : Addr
  fd : FuncData
  p : Addr
  ok : FnOk P w K mg base CX0 k f fd ["self"] sp
  b : Binds K fd ["self"] []
  pr : PropOf K C m p f
def deskF (vt vd vb : V) : List (Str × V) := [("trees", vt), ("done", vd), ("busy", vb)]
abbrev deskF1 (vt : V) : List (Str × V) := [("trees", vt)]
abbrev deskF2 (vt vd : V) : List (Str × V) := [("trees", vt), ("done", vd)]
theorem dn1 : ¬ (("trees" : Str) = "done") := by decide +kernel
theorem dn2 : ¬ (("trees" : Str) = "busy") := by decide +kernel
theorem dn3 : ¬ (("done" : Str) = "busy") := by decide +kernel
theorem put_d (vt vd : V) : putF "done" vd (deskF1 vt) = deskF2 vt vd := by
  show (if ("trees" : Str) = "done" then (("trees" : Str), vd) :: [] else (("trees" : Str), vt) :: putF "done" vd []) = deskF2 vt vd
  rw [if_neg dn1]
  rfl
theorem put_b (vt vd vb : V) : putF "busy" vb (deskF2 vt vd) = deskF vt vd vb := by
  show (if ("trees" : Str) = "busy" then (("trees" : Str), vb) :: _ else (("trees" : Str), vt) :: (if ("done" : Str) = "busy" then (("done" : Str), vb) :: [] else (("done" : Str), vd) :: putF "busy" vb [])) = deskF vt vd vb
  rw [if_neg dn2, if_neg dn3]
  rfl
theorem set_t (vt vd vb vt' : V) : putF "trees" vt' (deskF vt vd vb) = deskF vt' vd vb := rfl
theorem set_d (vt vd vb vd' : V) : putF "done" vd' (deskF vt vd vb) = deskF vt vd' vb := by
  show (if ("trees" : Str) = "done" then _ else (("trees" : Str), vt) :: putF "done" vd' [("done", vd), ("busy", vb)]) = deskF vt vd' vb
  rw [if_neg dn1]
  rfl
theorem look_t (vt vd vb : V) : (deskF vt vd vb).lookup ("trees" : Str) = some vt := rfl
theorem look_d (vt vd vb : V) : (deskF vt vd vb).lookup ("done" : Str) = some vd := by
  have h : (("done" : Str) == ("trees" : Str)) = false := by decide +kernel
  unfold deskF
  simp only [List.lookup, h]
  rfl
theorem look_b (vt vd vb : V) : (deskF vt vd vb).lookup ("busy" : Str) = some vb := by
  have h : (("busy" : Str) == ("trees" : Str)) = false := by decide +kernel
  have h2 : (("busy" : Str) == ("done" : Str)) = false := by decide +kernel
  unfold deskF
  simp only [List.lookup, h, h2]
  rfl
theorem no_look {m : Str} (vt vd vb : V) (h1 : (m == ("trees" : Str)) = false) (h2 : (m == ("done" : Str)) = false) (h3 : (m == ("busy" : Str)) = false) : (deskF vt vd vb).lookup m = none := by
  unfold deskF
  simp only [List.lookup, h1, h2, h3]
/-- trees, one for each -/
inductive BsAt (H : Hp) : List V → List B → Prop
  | nil : BsAt H [] []
  | snoc {vs : List V} {ts : List B} {v : V} {t : B} : BsAt H vs ts → BAt H v t → BsAt H (vs ++ [v]) (ts ++ [t])
theorem BsAt.keep {H H' : Hp} (k : KeepT H H') {vs : List V} {ts : List B} (h : BsAt H vs ts) : BsAt H' vs ts := by
  induction h with
  | nil => exact .nil
  | snoc _ b ih => exact .snoc ih (b.keep k)
theorem BsAt.len {H : Hp} {vs : List V} {ts : List B} (h : BsAt H vs ts) : vs.length = ts.length := by
  induction h with
  | nil => rfl
  | snoc _ _ ih => rw [List.length_append, List.length_append, ih]; rfl
/-- edits, one for each -/
inductive EsAt (H : Hp) : List V → List Ed → Prop
  | nil : EsAt H [] []
  | snoc {vs : List V} {es : List Ed} {q : Addr} {e : Ed} : EsAt H vs es → H q = some (.tup e.vals) → EsAt H (vs ++ [.ref q]) (es ++ [e])
theorem EsAt.keep {H H' : Hp} (k : KeepT H H') {vs : List V} {es : List Ed} (h : EsAt H vs es) : EsAt H' vs es := by
  induction h with
  | nil => exact .nil
  | snoc _ b ih => exact .snoc ih (k _ _ b)
theorem EsAt.len {H : Hp} {vs : List V} {es : List Ed} (h : EsAt H vs es) : vs.length = es.length := by
  induction h with
  | nil => rfl
  | snoc _ _ ih => rw [List.length_append, List.length_append, ih]; rfl
/-- a desk: the trees before, the tree, the edits that stand -/
def Dk (C : Addr) (H : Hp) (a : Addr) (ts : List B) (t : B) (es : List Ed) (busy : Bool) : Prop :=
  ∃ (dx ta td : Addr) (vs : List V) (v : V) (ds : List V), H a = some (.ins C dx (deskF (.ref ta) (.ref td) (.bl busy))) ∧ H ta = some (.tup (vs ++ [v])) ∧ H td = some (.tup ds) ∧ BsAt H vs ts ∧ BAt H v t ∧ EsAt H ds es
/-- all but the object at a stands still -/
def But (a : Addr) (H H' : Hp) : Prop := ∀ b o, b ≠ a → H b = some o → H' b = some o
theorem But.refl (a : Addr) (H : Hp) : But a H H := fun _ _ _ h => h
theorem But.trans {a : Addr} {H H1 H2 : Hp} (x : But a H H1) (y : But a H1 H2) : But a H H2 := fun b o h e => y b o h (x b o h e)
theorem But.of {a : Addr} {H H' : Hp} (s : Same H H') : But a H H' := fun b o _ e => s b o e
theorem But.keepT {a C : Addr} {H H' : Hp} {ts : List B} {t : B} {es : List Ed} {bu : Bool} (x : But a H H') (d : Dk C H a ts t es bu) : KeepT H H' := fun b xs e => by
  obtain ⟨dx, ta, td, vs, v, ds, h1, _⟩ := d
  exact x b _ (ne_of e h1 (by intro z; cases z)) e
theorem Dk.same {C a : Addr} {H H' : Hp} {ts : List B} {t : B} {es : List Ed} {bu : Bool} (s : Same H H') (d : Dk C H a ts t es bu) : Dk C H' a ts t es bu := by
  obtain ⟨dx, ta, td, vs, v, ds, h1, h2, h3, h4, h5, h6⟩ := d
  exact ⟨dx, ta, td, vs, v, ds, s _ _ h1, s _ _ h2, s _ _ h3, h4.keep (Tw.Same.keepT s), h5.same s, h6.keep (Tw.Same.keepT s)⟩
theorem atI_last (xs : List V) (x : V) : atI (xs ++ [x]) (-1) = some x := by
  unfold atI ixN
  rw [List.length_append, List.length_singleton, if_neg (by omega), if_pos (by omega)]
  show (xs ++ [x])[((-1 : Int) + ((xs.length + 1 : Nat) : Int)).toNat]? = some x
  rw [show ((-1 : Int) + ((xs.length + 1 : Nat) : Int)).toNat = xs.length by omega]
  simp
/-! ### places that may change -/
abbrev Deck := Addr → Prop
def DeckOk (H : Hp) (D : Deck) : Prop := ∀ a, D a → H a ≠ none
def Off (D : Deck) (p : Addr) : Prop := ¬ D p
def SameD (D : Deck) (H H' : Hp) : Prop := ∀ b o, ¬ D b → H b = some o → H' b = some o
theorem SameD.of {D : Deck} {H H' : Hp} (h : Same H H') : SameD D H H' := fun b o _ e => h b o e
theorem SameD.trans {D : Deck} {H H1 H2 : Hp} (a : SameD D H H1) (b : SameD D H1 H2) : SameD D H H2 := fun c o n e => b c o n (a c o n e)
theorem SameD.at {D : Deck} {H H' : Hp} {p : Addr} {o : HO} (s : SameD D H H') (f : Off D p) (e : H p = some o) : H' p = some o := s p o f e
theorem DeckOk.new {H : Hp} {D : Deck} (d : DeckOk H D) {p : Addr} (e : H p = none) : Off D p := fun z => d p z e
theorem DeckOk.same {H H' : Hp} {D : Deck} (d : DeckOk H D) (s : Same H H') : DeckOk H' D := fun a z e => by
  cases h : H a with
  | none => exact d a z h
  | some o => rw [s _ _ h] at e; cases e
theorem But.sameD {D : Deck} {a : Addr} {H H' : Hp} (b : But a H H') (h : D a) : SameD D H H' := fun c o n e => b c o (fun z => n (z ▸ h)) e
/-! ### t[::-1] -/
section
variable {prog : Program} {w : World} {A : Around} {E : Value → Shared → Prop} {s : Shared}
open HT in
theorem back_bounds {sl : Addr} {vl vu vs : Value} {n : Nat} {Q : Int × Int × Nat → Shared → Prop} (hs : s.heap.IsSliceOf sl vl vu vs) (pl : IsPart vl none) (pu : IsPart vu none) (ps : IsPart vs (some (-1)))
    (h : Q ((n : Int) - 1, -1, n) s) : wpAny (model prog w) A (Builtin.Slice.sliceApplied (.ref sl) (pure (n : Int))) Q E s := by
  obtain ⟨ob, isOb, isCl, isDt⟩ := id hs
  unfold Builtin.Slice.sliceApplied Builtin.Slice.sliceFields
  refine wpAny_bind (wpAny_bind (wpAny_field isOb isDt (x := vl) rfl (wpAny_bind (wpAny_field isOb isDt (x := vu) rfl (wpAny_bind (wpAny_field isOb isDt (x := vs) rfl (wpAny_pure ?_)))))))
  refine wpAny_bind (slicePart_ ps ?_)
  show wpAny _ _ (if ((-1 : Int) == 0) = true then _ else _) _ _ s
  rw [if_neg (by decide)]
  refine wpAny_bind (slicePart_ pl (wpAny_bind (slicePart_ pu (wpAny_bind (wpAny_pure ?_)))))
  have e : Builtin.Slice.slicePlaces ((n : Int) - 1) (-1) (-1) = n := by
    unfold Builtin.Slice.slicePlaces
    rw [if_neg (by decide)]
    by_cases h0 : (n : Int) - 1 > -1
    · rw [if_pos h0, show (- -1 : Int) = 1 by decide, Int.ediv_one]
      omega
    · rw [if_neg h0]
      omega
  show wpAny _ _ (pure ((n : Int) - 1, (-1 : Int), Builtin.Slice.slicePlaces ((n : Int) - 1) (-1) (-1))) _ _ s
  rw [e]
  exact wpAny_pure h
theorem fm_congr {α β : Type} {f g : α → Option β} : ∀ (l : List α), (∀ k ∈ l, f k = g k) → l.filterMap f = l.filterMap g
  | [], _ => rfl
  | x :: l, h => by
    rw [List.filterMap_cons, List.filterMap_cons, h x (List.mem_cons_self ..), fm_congr l fun k hk => h k (List.mem_cons_of_mem _ hk)]
theorem back_pick (xs : Array Value) : ((List.range xs.size).filterMap fun (k : Nat) => xs[((xs.size : Int) - 1 + (k : Int) * (-1)).toNat]?).toArray = xs.toList.reverse.toArray := by
  congr 1
  have e1 : ((List.range xs.size).filterMap fun (k : Nat) => xs[((xs.size : Int) - 1 + (k : Int) * (-1)).toNat]?) = ((List.range xs.size).map fun k => xs.size - 1 - k).filterMap (xs[·]?) := by
    rw [List.filterMap_map]
    refine fm_congr _ fun k hk => ?_
    have := List.mem_range.mp hk
    show xs[((xs.size : Int) - 1 + (k : Int) * (-1)).toNat]? = xs[xs.size - 1 - k]?
    rw [show ((xs.size : Int) - 1 + (k : Int) * (-1)).toNat = xs.size - 1 - k by omega]
  rw [e1, PySem.W.krv_range, List.filterMap_reverse, PySem.W.krv_all]
open HT in
theorem getItem_back {t sl : Addr} {items : Array Value} {vl vu vs : Value} {Q : Value → Shared → Prop} (ht : IsTup s.heap t items) (hs : s.heap.IsSliceOf sl vl vu vs) (pl : IsPart vl none) (pu : IsPart vu none) (ps : IsPart vs (some (-1)))
    (h : Q (.ref s.heap.objs.size) { s with heap := s.heap.push { cls := .type "tuple", data := .seq items.toList.reverse.toArray } }) (hsz : items.size ≤ sizeLine) : wpAny (model prog w) A (getItem (.ref t) (.ref sl)) Q E s := by
  obtain ⟨ob, isOb, isCl, isDt⟩ := id hs
  have isSl : s.TypeIs (.ref sl) "slice" := ⟨ob, isOb, isCl⟩
  have fits : sizeOk (.seq items.toList.reverse.toArray) := by
    show items.toList.reverse.toArray.size ≤ sizeLine
    rw [List.size_toArray, List.length_reverse, Array.length_toList]
    exact hsz
  unfold getItem
  refine wpAny_holding ?_
  refine wpAny_bind (wpAny_sequenceKey ht.typeIs (by decide) ?_)
  have body : wpAny (model prog w) A.in1 (Builtin.«tuple.__getitem__» ⟨[.ref t, .ref sl], []⟩) (fun fin s' => ∃ v, fin = Fin.done (Flow.ret v) ∧ Q v s') E s := by
    show wpAny _ _ (Builtin.Tuple.tupleItemsOf (.ref t) >>= _) _ _ s
    refine wpAny_bind (tupleItemsOf_ ht (wpAny_bind (wpAny_typeOf isSl ?_)))
    rw [if_pos (by decide)]
    refine wpAny_bind (back_bounds hs pl pu ps ?_)
    have off : ¬ ((((items.size : Int) - 1) == 0 && (-1 : Int) == 1 && items.size == items.size) = true) := by
      rw [show ((-1 : Int) == 1) = false by decide, Bool.and_false, Bool.false_and]
      exact Bool.false_ne_true
    show wpAny _ _ (if (((items.size : Int) - 1) == 0 && (-1 : Int) == 1 && items.size == items.size) = true then _ else _) _ _ s
    rw [if_neg off, back_pick]
    first
      | exact wpAny_bind (m := Builtin.Tuple.tupleExact _) (wpAny_newObj_type (wpAny_pure ⟨_, rfl, h⟩) fits)
      | exact wpAny_bind (m := Builtin.Tuple.tupleExact _) (wpAny_newObj_type (wpAny_bind (wpAny_pure (wpAny_pure ⟨_, rfl, h⟩))) fits)
      | exact wpAny_bind (wpAny_bind (m := Builtin.Tuple.tupleExact _) (wpAny_newObj_type (wpAny_pure (wpAny_pure ⟨_, rfl, h⟩)) fits))
      | exact wpAny_bind (wpAny_bind (m := Builtin.Tuple.tupleExact _) (wpAny_newObj_type (wpAny_pure ⟨_, rfl, h⟩) fits))
  refine wpAny_bind (wpAny_callSpecial?_slot (name := Str.ofString "__getitem__") ht.typeIs PyProof.Rows.slot_tuple_getitem ?_)
  refine wpAny_call_entry PyProof.Rows.slot_tuple_getitem ht.typeIs entry_tuple_getitem (wpAny_mono body (fun fin s' z => ?_) fun _ _ z => z) (args_tuple_getitem _ _)
  obtain ⟨v, e, q⟩ := z
  exact ⟨v, e, wpAny_pure q⟩
end
/-- t[::-1], t a tuple -/
def tRevT (K : PySem.W.Frag) (te : TE) : TE := fun σ H Q => te σ H fun x H1 => ∃ a xs, x = .ref a ∧ SqT K H1 a xs ∧ ∀ p, H1 p = none → Q (.ref p) (upd H1 p (.tup xs.reverse))
theorem pe_revT {X : Cx} {e : Expr} {te : TE} {k : Nat} {p1 p2 p3 pos : Pos} (he : PE X e te) : PE X (.Subscript e (.Slice none none (some (.UnaryOp .USub (.Constant (.int 1) k p1) p2)) p3) pos) (tRevT X.K te) := by
  constructor
  intro pins s σ H Q I h
  refine Subscript_ (thn (he.run pins s σ H _ I h) ?_)
  rintro v s1 ⟨x, H1, I1, r1, a, xs, rfl, hx, q⟩
  cases r1
  have minus : PO X (some (.UnaryOp .USub (.Constant (.int 1) k p1) p2)) (tPart (tUn (rU fun i => .int (-i)) (tC (.int 1)))) := po_some (pe_un un_neg pe_int)
  refine wpAny_Slice (thn (po_none.run pins s1 σ H1 (fun o H2 => o = none ∧ H2 = H1) I1 ⟨rfl, rfl⟩) ?_)
  rintro vl s2 ⟨l, H2, I2, pl, rfl, rfl⟩
  refine thn (po_none.run pins s2 σ H2 (fun o H3 => o = none ∧ H3 = H2) I2 ⟨rfl, rfl⟩) ?_
  rintro vu s3 ⟨u, H3, I3, pu, rfl, rfl⟩
  refine thn (minus.run pins s3 σ H3 (fun o H4 => o = some (-1) ∧ H4 = H3) I3 ⟨1, rfl, -1, rfl, rfl, rfl⟩) ?_
  rintro vs s4 ⟨o, H4, I4, ps, rfl, rfl⟩
  have J : Inv X pins σ H4 { s4 with heap := s4.heap.push { cls := .type "slice", data := .fields #[vl, vu, vs] } } := I4.kept (t' := s4.toks) fun _ _ z => Heap.get?_push_of_some _ z
  obtain ⟨its, r, ht, hz⟩ := J.tuple hx
  have lens := r.length
  show wpAny (model X.prog X.w) X.A (subscriptTail e (.Slice none none (some (.UnaryOp .USub (.Constant (.int 1) k p1) p2)) p3) (.ref a) (.ref s4.heap.objs.size)) _ X.xe _
  refine tail_any (ops := [.ref a, .ref s4.heap.objs.size]) ht.typeIs (PyProof.Rows.slot_tuple_getitem.lookup) ?_ (by with_unfolding_all rfl)
  refine getItem_back ht (Heap.IsSliceOf.new _ vl vu vs) pl pu ps ?_ (by rw [List.size_toArray]; omega)
  refine ⟨.ref _, _, J.laid (t' := s4.toks) (o := .tup xs.reverse) (fun _ _ z => Heap.get?_push_of_some _ z) (Nat.le_refl _) ?_, rfl, q _ (J.hok.fresh (Nat.le_refl _))⟩
  exact ⟨by rw [List.length_reverse]; exact hz, _, r.reverse, ⟨_, Heap.get?_push_size _ rfl, rfl, _, rfl⟩⟩
/-! ### values of any kind, and how they are shown -/
mutual
inductive DQ (D : Deck) (H : Hp) : V → PyData → Prop
  | non : DQ D H .non .none
  | bl (b : Bool) : DQ D H (.bl b) (.bool b)
  | int (i : Int) : DQ D H (.int i) (.int i)
  | str (x : Str) : DQ D H (.str x) (.str x)
  | lst {a : Addr} {xs : List V} {ds : List PyData} : Off D a → H a = some (.lst xs) → DQAll D H xs ds → DQ D H (.ref a) (.list ds)
  | tup {a : Addr} {xs : List V} {ds : List PyData} : Off D a → H a = some (.tup xs) → DQAll D H xs ds → DQ D H (.ref a) (.tuple ds)
  | emp {a : Addr} : Off D a → H a = some (.dK []) → DQ D H (.ref a) (.dict [])
inductive DQAll (D : Deck) (H : Hp) : List V → List PyData → Prop
  | nil : DQAll D H [] []
  | cons {v : V} {vs : List V} {d : PyData} {ds : List PyData} : DQ D H v d → DQAll D H vs ds → DQAll D H (v :: vs) (d :: ds)
end
mutual
theorem dq_sameD {D : Deck} {H H' : Hp} (s : SameD D H H') : ∀ {v : V} {d : PyData}, DQ D H v d → DQ D H' v d
  | _, _, .non => .non
  | _, _, .bl b => .bl b
  | _, _, .int i => .int i
  | _, _, .str x => .str x
  | _, _, .lst o e a => .lst o (s.at o e) (dqAll_sameD s a)
  | _, _, .tup o e a => .tup o (s.at o e) (dqAll_sameD s a)
  | _, _, .emp o e => .emp o (s.at o e)
theorem dqAll_sameD {D : Deck} {H H' : Hp} (s : SameD D H H') : ∀ {vs : List V} {ds : List PyData}, DQAll D H vs ds → DQAll D H' vs ds
  | _, _, .nil => .nil
  | _, _, .cons h a => .cons (dq_sameD s h) (dqAll_sameD s a)
end
theorem dq_same {D : Deck} {H H' : Hp} (s : Same H H') {v : V} {d : PyData} (h : DQ D H v d) : DQ D H' v d := dq_sameD (SameD.of s) h
theorem dqAll_same {D : Deck} {H H' : Hp} (s : Same H H') {v : List V} {d : List PyData} (h : DQAll D H v d) : DQAll D H' v d := dqAll_sameD (SameD.of s) h
theorem dqAll_len {D : Deck} {H : Hp} : ∀ {vs : List V} {ds : List PyData}, DQAll D H vs ds → vs.length = ds.length
  | _, _, .nil => rfl
  | _, _, .cons _ a => congrArg (· + 1) (dqAll_len a)
theorem dqAll_get {D : Deck} {H : Hp} : ∀ {vs : List V} {ds : List PyData} {i : Nat} {v : V}, DQAll D H vs ds → vs[i]? = some v → ∃ d, ds[i]? = some d ∧ DQ D H v d
  | _, _, _, _, .nil, h => by simp at h
  | _, _, 0, _, .cons h _, e => by
    cases e
    exact ⟨_, rfl, h⟩
  | _, _, i + 1, _, .cons _ a, e => dqAll_get (i := i) a e
theorem dqAll_app {D : Deck} {H : Hp} : ∀ {vs vs' : List V} {ds ds' : List PyData}, DQAll D H vs ds → DQAll D H vs' ds' → DQAll D H (vs ++ vs') (ds ++ ds')
  | _, _, _, _, .nil, h => h
  | _, _, _, _, .cons h a, h' => .cons h (dqAll_app a h')
/-- the nodes of a tree lie off the places that may change -/
theorem BAt.dq {D : Deck} {H : Hp} (d : ∀ a, D a → ∀ xs, H a ≠ some (.tup xs)) {v : V} {t : B} (h : BAt H v t) : DQ D H v t.data := by
  induction h with
  | nil => exact .non
  | node e _ _ i1 i2 => exact .tup (fun z => d _ z _ e) e (.cons i1 (.cons (.str _) (.cons i2 .nil)))
def tyD : PyData → String
  | .none => "NoneType"
  | .bool _ => "bool"
  | .int _ => "int"
  | .str _ => "str"
  | .list _ => "list"
  | .tuple _ => "tuple"
  | .dict _ => "dict"
def okInts : List Int := ((List.range 70).map fun n : Nat => ((n : Int) - 1)) ++ [(10 : Int) ^ 29]
def isAl (c : Nat) : Bool := decide (c < 128)
mutual
def gd : PyData → Bool
  | .none => true
  | .bool _ => true
  | .int i => decide (i ∈ okInts)
  | .str x => decide (x.length ≤ 90) && x.cps.toList.all isAl
  | .list xs => gds xs
  | .tuple xs => gds xs
  | .dict kvs => kvs.isEmpty
def gds : List PyData → Bool
  | [] => true
  | x :: xs => gd x && gds xs
end
mutual
def wt : PyData → Nat
  | .none => 4
  | .bool _ => 5
  | .int _ => 62
  | .str _ => 902
  | .list xs => 3 + wts xs
  | .tuple xs => 3 + wts xs
  | .dict _ => 2
def wts : List PyData → Nat
  | [] => 0
  | x :: xs => wt x + 2 + wts xs
end
theorem isAl_lt {c : Nat} (h : isAl c = true) : c < 128 := of_decide_eq_true h
theorem gd_al {x : Str} (h : gd (.str x) = true) : x.length ≤ 90 ∧ ∀ c ∈ x.cps.toList, isAl c = true := by
  simp only [gd, Bool.and_eq_true, decide_eq_true_eq, List.all_eq_true] at h
  exact h
theorem gd_str {x : Str} (h : gd (.str x) = true) : x.length ≤ 90 ∧ ∀ c ∈ x.cps.toList, c < 128 := ⟨(gd_al h).1, fun c hc => isAl_lt ((gd_al h).2 c hc)⟩
theorem reprText_le {x : Str} (h : gd (.str x) = true) : (reprText x).length ≤ 902 := by
  obtain ⟨h1, h2⟩ := gd_str h
  have := StrLaws.reprText_len x (fun c hc => Nat.lt_of_lt_of_le (h2 c hc) (by decide))
  omega
theorem okInts_all : okInts.all (fun i => decide ((Str.ofString (toString i)).length ≤ 62) && decide (i.natAbs.log2 < 1920)) = true := by decide +kernel
theorem int_show {i : Int} (h : gd (.int i) = true) : (Str.ofString (toString i)).length ≤ 62 ∧ i.natAbs.log2 < 1920 := by
  simp only [gd, decide_eq_true_eq] at h
  have := List.all_eq_true.mp okInts_all i h
  rw [Bool.and_eq_true, decide_eq_true_eq, decide_eq_true_eq] at this
  exact this
theorem listText_le (ts : List Str) : (listText ts).length ≤ piled ts + 3 := by
  have h := textFrom_len_le ts 0 "["
  have e : (listText ts).length = (textFrom 0 "[" ts).length + 1 := by
    show (textFrom 0 "[" ts ++ "]").length = _
    rw [strLen_append]
    rfl
  have z : ∀ l : List Str, (l.map (·.length)).sum + 2 * l.length = piled l := by
    intro l
    induction l with
    | nil => rfl
    | cons t l ih =>
      rw [piled_cons, List.map_cons, List.sum_cons, List.length_cons]
      omega
  have z2 := z ts
  have z3 : (("[" : String) : Str).length = 1 := rfl
  omega
mutual
theorem shown_le : ∀ d : PyData, gd d = true → d.shown.length ≤ wt d ∧ d.showable = true
  | .none, _ => by
    simp only [PyData.shown, wt, PyData.showable, and_true]
    decide +kernel
  | .bool b, _ => by
    simp only [PyData.shown, wt, PyData.showable, and_true]
    cases b <;> decide +kernel
  | .int i, h => by
    obtain ⟨h1, h2⟩ := int_show h
    simp only [PyData.shown, wt, PyData.showable, decide_eq_true_eq]
    exact ⟨h1, h2⟩
  | .str x, h => by
    have h1 := reprText_le h
    simp only [PyData.shown, wt, PyData.showable, and_true]
    exact h1
  | .list xs, h => by
    simp only [gd] at h
    obtain ⟨h1, h2⟩ := showns_le xs h
    simp only [PyData.shown, wt, PyData.showable]
    exact ⟨Nat.le_trans (listText_le _) (by omega), h2⟩
  | .tuple xs, h => by
    simp only [gd] at h
    obtain ⟨h1, h2⟩ := showns_le xs h
    simp only [PyData.shown, wt, PyData.showable]
    exact ⟨Nat.le_trans (fmt_text _) (by omega), h2⟩
  | .dict kvs, h => by
    simp only [gd] at h
    cases kvs with
    | nil =>
      simp only [PyData.shown, PyData.shownKv, wt, PyData.showable, PyData.showableKv, and_true]
      decide +kernel
    | cons p r => exact absurd h Bool.false_ne_true
theorem showns_le : ∀ ds : List PyData, gds ds = true → piled (PyData.shownAll ds) ≤ wts ds ∧ PyData.showableAll ds = true
  | [], _ => by
    simp only [PyData.shownAll, wts, PyData.showableAll, and_true]
    exact Nat.le_refl _
  | d :: ds, h => by
    simp only [gds, Bool.and_eq_true] at h
    obtain ⟨h1, h2⟩ := shown_le d h.1
    obtain ⟨h3, h4⟩ := showns_le ds h.2
    simp only [PyData.shownAll, wts, PyData.showableAll, h2, h4, Bool.and_self, and_true]
    rw [piled_cons]
    omega
end
/-! ### repr of such a value -/
section
variable {X : Cx} {pins : List (Addr × Obj)} {σ : L2.St} {H : Hp} {s : Shared} {D : Deck}
theorem obj_lst (I : Inv X pins σ H s) {a : Addr} {xs : List V} (e : H a = some (.lst xs)) : ∃ (its : List Value) (o : Obj) (n : Nat), Vals xs its ∧ s.heap.get? a = some o ∧ o.cls = .type "list" ∧ o.data = .seq its.toArray n := by
  obtain ⟨_, its, n, r, h⟩ := (show ObjOk X.prog X.w H s.heap a (.lst xs) from I.hok a _ e)
  exact ⟨its, _, n, r, h, rfl, rfl⟩
theorem obj_tup (I : Inv X pins σ H s) {a : Addr} {xs : List V} (e : H a = some (.tup xs)) : ∃ (its : List Value) (o : Obj) (n : Nat), Vals xs its ∧ s.heap.get? a = some o ∧ o.cls = .type "tuple" ∧ o.data = .seq its.toArray n := by
  obtain ⟨_, its, r, o, h1, h2, n, h3⟩ := (show ObjOk X.prog X.w H s.heap a (.tup xs) from I.hok a _ e)
  exact ⟨its, o, n, r, h1, h2, h3⟩
theorem obj_emp (I : Inv X pins σ H s) {a : Addr} (e : H a = some (.dK [])) : ∃ (o : Obj) (n : Nat), s.heap.get? a = some o ∧ o.cls = .type "dict" ∧ o.data = .dict #[] n ∧ (a == sysModules) = false := by
  obtain ⟨_, ne, vs, kv, o, es, ep, h1, ex, h2, _, ps, _⟩ := (show ObjOk X.prog X.w H s.heap a (.dK []) from I.hok a _ e)
  cases kv
  have hes : es = #[] := by
    cases hl : es.toList with
    | nil => exact Array.toList_eq_nil_iff.mp hl
    | cons e l =>
      rw [hl] at ps
      cases ps
  subst hes
  exact ⟨o, ep, h1, ex.1, h2, ne⟩
mutual
theorem dq_reads (I : Inv X pins σ H s) : ∀ (d : PyData) (v : V) (u : Value), DQ D H v d → RelV v u → ∃ as, Reads s.heap u d as
  | .none, _, _, h, r => by
    cases h
    cases r
    exact ⟨_, .none⟩
  | .bool b, _, _, h, r => by
    cases h
    cases r
    exact ⟨_, .bool b⟩
  | .int i, _, _, h, r => by
    cases h
    obtain ⟨t, rfl⟩ := r
    exact ⟨_, .int i t⟩
  | .str x, _, _, h, r => by
    cases h
    obtain ⟨t, rfl⟩ := r
    exact ⟨_, .str x t⟩
  | .list ds, _, _, h, r => by
    cases h with
    | lst o e al =>
      cases r
      obtain ⟨its, ob, n, rv, h1, h2, h3⟩ := obj_lst I e
      obtain ⟨as, ra⟩ := dq_readsAll I ds _ its al rv
      exact ⟨_, .list h1 h2 h3 ra⟩
  | .tuple ds, _, _, h, r => by
    cases h with
    | tup o e al =>
      cases r
      obtain ⟨its, ob, n, rv, h1, h2, h3⟩ := obj_tup I e
      obtain ⟨as, ra⟩ := dq_readsAll I ds _ its al rv
      exact ⟨_, .tuple h1 h2 h3 ra⟩
  | .dict kvs, _, _, h, r => by
    cases h with
    | emp o e =>
      cases r
      obtain ⟨ob, n, h1, h2, h3, _⟩ := obj_emp I e
      exact ⟨_, .dict h1 h2 h3 .nil .nil⟩
theorem dq_readsAll (I : Inv X pins σ H s) : ∀ (ds : List PyData) (vs : List V) (us : List Value), DQAll D H vs ds → Vals vs us → ∃ as, ReadsAll s.heap us ds as
  | [], _, _, h, r => by
    cases h
    cases r
    exact ⟨_, .nil⟩
  | d :: ds, _, _, h, r => by
    cases h with
    | cons h1 h2 =>
      cases r with
      | cons r1 r2 =>
        obtain ⟨as, q1⟩ := dq_reads I d _ _ h1 r1
        obtain ⟨bs, q2⟩ := dq_readsAll I ds _ _ h2 r2
        exact ⟨_, .cons q1 q2⟩
end
theorem entries0 {as : List Addr} {h₀ : Heap} {d : Nat} {prog : Program} {w : World} : ReprEntriesK prog w as h₀ d (#[] : Array DictEntry).toList [] := .nil
mutual
theorem dq_repr (I : Inv X pins σ H s) : ∀ (d : PyData) (v : V) (u : Value), DQ D H v d → RelV v u → gd d = true → wt d ≤ 1000000 → ∃ bs, ReadAtMost s.heap d.depth bs ∧ ReprK X.prog X.w bs s.heap d.depth u d.shown
  | .none, _, _, h, r, _, _ => by
    cases h
    cases r
    exact ⟨[], (fun _ z => nomatch z), by simp only [PyData.shown]; exact .of_is ReprIs.none _ _ _⟩
  | .bool b, _, _, h, r, _, _ => by
    cases h
    cases r
    exact ⟨[], (fun _ z => nomatch z), by simp only [PyData.shown]; exact .of_is (ReprIs.bool b) _ _ _⟩
  | .int i, _, _, h, r, g, _ => by
    cases h
    obtain ⟨t, rfl⟩ := r
    exact ⟨[], (fun _ z => nomatch z), by simp only [PyData.shown]; exact .of_is (ReprIs.int t (int_show g).2) _ _ _⟩
  | .str x, _, _, h, r, g, _ => by
    cases h
    obtain ⟨t, rfl⟩ := r
    have hx : (reprText x).length ≤ sizeLine := small (Nat.le_trans (reprText_le g) (by decide))
    exact ⟨[], (fun _ z => nomatch z), by simp only [PyData.shown]; exact .of_is (ReprIs.str x t hx) _ _ _⟩
  | .list ds, _, _, h, r, g, z => by
    have rd := dq_reads I (.list ds) _ _ h r
    cases h with
    | @lst a xs _ o e al =>
      cases r
      simp only [gd] at g
      simp only [wt] at z
      obtain ⟨its, ob, n, rv, h1, h2, h3⟩ := obj_lst I e
      obtain ⟨bs, hb, hk⟩ := dq_reprAll I ds _ its al rv g (by omega)
      obtain ⟨as, rd⟩ := rd
      have hna : a ∉ bs := not_mem_of_deeper rd (by simp only [PyData.depth]; omega) hb
      refine ⟨a :: bs, ReadAtMost.cons rd (by simp only [PyData.depth]; omega) hb, ?_⟩
      simp only [PyData.depth, PyData.shown]
      cases its with
      | nil =>
        cases rv
        cases al
        simp only [PyData.shownAll, listText_nil]
        exact ReprK.listEmpty h1 h2 h3
      | cons y l => exact ReprK.list h1 h2 h3 hna (by simpa using hk.length_eq) (fun i w e => hk.item i w (by simpa using e))
  | .tuple ds, _, _, h, r, g, z => by
    have rd := dq_reads I (.tuple ds) _ _ h r
    cases h with
    | @tup a xs _ o e al =>
      cases r
      simp only [gd] at g
      simp only [wt] at z
      obtain ⟨its, ob, n, rv, h1, h2, h3⟩ := obj_tup I e
      obtain ⟨bs, hb, hk⟩ := dq_reprAll I ds _ its al rv g (by omega)
      obtain ⟨as, rd⟩ := rd
      have hna : a ∉ bs := not_mem_of_deeper rd (by simp only [PyData.depth]; omega) hb
      refine ⟨a :: bs, ReadAtMost.cons rd (by simp only [PyData.depth]; omega) hb, ?_⟩
      simp only [PyData.depth, PyData.shown]
      exact ReprK.tuple h1 h2 h3 hna hk
  | .dict kvs, _, _, h, r, _, _ => by
    have rd := dq_reads I (.dict kvs) _ _ h r
    cases h with
    | @emp a o e =>
      cases r
      obtain ⟨ob, n, h1, h2, h3, hs⟩ := obj_emp I e
      obtain ⟨as, rd⟩ := rd
      refine ⟨[a], ReadAtMost.cons rd (n := 0) (Nat.zero_le _) (fun _ z => nomatch z), ?_⟩
      simp only [PyData.depth, PyData.shown, PyData.shownKv, PyData.depthKv]
      exact ReprK.dict h1 h2 h3 hs (fun z => nomatch z) entries0
theorem dq_reprAll (I : Inv X pins σ H s) : ∀ (ds : List PyData) (vs : List V) (us : List Value), DQAll D H vs ds → Vals vs us → gds ds = true → wts ds ≤ 1000000 → ∃ bs, ReadAtMost s.heap (PyData.depthAll ds) bs ∧ ReprAllK X.prog X.w bs s.heap (PyData.depthAll ds) us (PyData.shownAll ds)
  | [], _, _, h, r, _, _ => by
    cases h
    cases r
    exact ⟨[], (fun _ z => nomatch z), by simp only [PyData.shownAll]; exact .nil⟩
  | d :: ds, _, _, h, r, g, z => by
    cases h with
    | cons h1 h2 =>
      cases r with
      | cons r1 r2 =>
        simp only [gds, Bool.and_eq_true] at g
        simp only [wts] at z
        obtain ⟨b1, hb1, k1⟩ := dq_repr I d _ _ h1 r1 g.1 (by omega)
        obtain ⟨b2, hb2, k2⟩ := dq_reprAll I ds _ _ h2 r2 g.2 (by omega)
        simp only [PyData.depthAll, PyData.shownAll]
        refine ⟨b1 ++ b2, (hb1.mono (Nat.le_max_left _ _)).append (hb2.mono (Nat.le_max_right _ _)), ?_⟩
        refine .cons ((k1.more ?_).level_le (Nat.le_max_left _ _)) (k2.more_le ?_ (Nat.le_max_right _ _))
        · intro b hb
          exact List.mem_append_left _ hb
        · intro b hb
          exact List.mem_append_right _ hb
end
end
theorem call_reprQ {X : Cx} (hg : X.A.guards = some []) (hu : X.A.units + 64 < cLine) : CallR X (.builtin "repr") (fun xs H Q => ∃ (v : V) (D : Deck) (d : PyData), xs = [v] ∧ DQ D H v d ∧ gd d = true ∧ wt d ≤ 1000000 ∧ d.depth ≤ 60 ∧ Q (.str d.shown) H) := by
  intro pins s σ H xs us Q I r h
  obtain ⟨v, D, d, rfl, hd, g, z, hz, q⟩ := h
  obtain ⟨u, rfl, rx⟩ := vals1 r
  obtain ⟨hl, _⟩ := shown_le d g
  have big : (1000000 : Nat) ≤ sizeLine := by decide
  have fits : d.shown.length ≤ sizeLine := by omega
  have fin : ∀ (h' : Heap) (t : Tok) (tk : Tok), (∀ b o, s.heap.get? b = some o → h'.get? b = some o) → EP X pins σ Q (.str d.shown t) { s with heap := h', toks := tk } := fun h' t tk hk => ⟨.str d.shown, H, I.kept (t' := tk) hk, ⟨t, rfl⟩, q⟩
  have nil0 : ∀ b ∈ ([] : List Addr), True := fun _ _ => trivial
  have key := dq_repr I d v u hd rx g z
  have rds := dq_reads I d v u hd rx
  cases hd with
  | non =>
    cases rx
    simp only [PyData.shown] at fin
    exact PySem.P.repr_of_none (fin s.heap _ _ fun _ _ e => e)
  | bl b =>
    cases rx
    simp only [PyData.shown] at fin
    exact PySem.P.repr_of_bool (fin s.heap _ _ fun _ _ e => e)
  | int i =>
    obtain ⟨t, rfl⟩ := rx
    simp only [PyData.shown] at fin
    exact PySem.P.repr_of_int (int_show g).2 (fin s.heap _ _ fun _ _ e => e)
  | str x =>
    obtain ⟨t, rfl⟩ := rx
    simp only [PyData.shown] at fin fits
    exact PySem.P.repr_of_str (fin s.heap _ _ fun _ _ e => e) fits
  | @lst a xs ds o e al =>
    cases rx
    simp only [gd] at g
    simp only [wt] at z
    simp only [PyData.shown] at fin fits
    simp only [PyData.depth] at hz
    obtain ⟨its, ob, n, rv, h1, h2, h3⟩ := obj_lst I e
    obtain ⟨bs, hb, hk⟩ := dq_reprAll I ds _ its al rv g (by omega)
    obtain ⟨as, rd⟩ := rds
    have hna : a ∉ bs := not_mem_of_deeper rd (by simp only [PyData.depth]; omega) hb
    refine call_repr_slot (by omega) ⟨ob, h1, h2⟩ F.slot_list_repr.toG ?_
    cases its with
    | nil =>
      cases rv
      cases al
      simp only [PyData.shownAll, listText_nil] at fin
      exact call_list_repr_empty ⟨ob, h1, h2⟩ h1 h3 ⟨_, _, rfl, fin s.heap _ _ fun _ _ e => e⟩
    | cons y l => exact call_list_reprK h1 h2 h3 hna (by simpa using hk.length_eq) (fun i w e => hk.item i w (by simpa using e)) hg (fun b _ => Clear.nil b) (by show X.A.units + 1 + (PyData.depthAll ds + 1) < cLine; omega) (fun _ _ e => e) (fun h' u tk hk => ⟨_, _, rfl, fin h' u tk hk⟩) fits
  | @tup a xs ds o e al =>
    cases rx
    simp only [gd] at g
    simp only [wt] at z
    simp only [PyData.shown] at fin fits
    simp only [PyData.depth] at hz
    obtain ⟨its, ob, n, rv, h1, h2, h3⟩ := obj_tup I e
    obtain ⟨bs, hb, hk⟩ := dq_reprAll I ds _ its al rv g (by omega)
    obtain ⟨as, rd⟩ := rds
    have hna : a ∉ bs := not_mem_of_deeper rd (by simp only [PyData.depth]; omega) hb
    refine call_repr_slot (by omega) ⟨ob, h1, h2⟩ F.slot_tuple_repr ?_
    exact call_tuple_reprK h1 h2 h3 hna hk hg (fun b _ => Clear.nil b) (by show X.A.units + 1 + (PyData.depthAll ds + 1) < cLine; omega) (fun _ _ e => e) (fun h' u tk hk => ⟨_, _, rfl, fin h' u tk hk⟩) fits
  | @emp a o e =>
    cases rx
    simp only [PyData.shown, PyData.shownKv] at fin fits
    obtain ⟨ob, n, h1, h2, h3, hs⟩ := obj_emp I e
    refine call_repr_slot (by omega) ⟨ob, h1, h2⟩ F.slot_dict_repr ?_
    exact call_dict_reprK h1 h2 h3 hs (as := []) (fun z => nomatch z) (d := 0) entries0 hg (fun b _ => Clear.nil b) (by show X.A.units + 1 + (0 + 1) < cLine; omega) (fun _ _ e => e) (fun h' u tk hk => ⟨_, _, rfl, fin h' u tk hk⟩) fits
theorem dq_ty {K : PySem.W.Frag} {D : Deck} {H : Hp} {v : V} {d : PyData} (h : DQ D H v d) : TyX K H v (.type (tyD d)) := by
  cases h with
  | non => exact .base .non
  | bl b => exact .base (.bl b)
  | int i => exact .base (.int i)
  | str x => exact .base (.str x)
  | lst _ e _ => exact .base (.lst e)
  | tup _ e _ => exact .base (.tup e)
  | emp _ e => exact .base (.dK e)
def isStrD : PyData → Bool
  | .str _ => true
  | _ => false
def isTupD : PyData → Bool
  | .tuple _ => true
  | _ => false
theorem kit_str (d : PyData) : kitB (tyD d) "str" = some (isStrD d) := by
  cases d <;> (simp only [tyD, isStrD]; decide +kernel)
theorem kit_tup (d : PyData) : kitB (tyD d) "tuple" = some (isTupD d) := by
  cases d <;> (simp only [tyD, isTupD]; decide +kernel)
theorem isStr_of {d : PyData} (h : isStrD d = true) : ∃ x, d = .str x := by
  cases d <;> first | exact ⟨_, rfl⟩ | exact absurd h Bool.false_ne_true
theorem gds_app : ∀ {a b : List PyData}, gds (a ++ b) = (gds a && gds b)
  | [], b => by simp only [List.nil_append, gds, Bool.true_and]
  | d :: a, b => by
    have h := gds_app (a := a) (b := b)
    simp only [List.cons_append, gds, h, Bool.and_assoc]
/-! ### t != () -/
theorem op_neE {X : Cx} (hu : X.A.units < cLine) : OpR X (compareOp .NotEq) (fun x y H Q => ∃ a b xs, x = .ref a ∧ y = .ref b ∧ SqT X.K H a xs ∧ SqT X.K H b [] ∧ Q (.bl (!xs.isEmpty)) H) := by
  intro pins s σ H x y v u Q I rx ry h
  obtain ⟨a, b, xs, rfl, rfl, hx, hy, q⟩ := h
  cases rx
  cases ry
  obtain ⟨its, r1, t1, _⟩ := I.tuple hx
  obtain ⟨its2, r2, t2, _⟩ := I.tuple hy
  cases r2
  have rc := SeqAt.RcNeAt.tuples (A := X.A) (s := s) (items := its.toArray) (items2 := ([] : List Value).toArray) (e := fun _ => true) t1 t2 hu (fun j _ h2 => absurd h2 (by simp))
  refine rc X.prog X.w X.xe _ ?_
  have e : (!((List.range (min its.toArray.size ([] : List Value).toArray.size)).all (fun _ => true) && its.toArray.size == ([] : List Value).toArray.size)) = !xs.isEmpty := by
    cases r1 with
    | nil => rfl
    | cons _ _ => simp
  rw [e]
  exact ⟨.bl _, H, I, rfl, q⟩
theorem cut_whole {xs : List V} {lo hi : Option Int} (h : HT.sIx xs.length 0 lo = 0 ∧ HT.sIx xs.length xs.length hi = xs.length) : cutV xs lo hi = xs := by
  unfold cutV
  rw [h.1, h.2, List.drop_zero, Nat.sub_zero, List.take_length]
theorem slA_of {K : PySem.W.Frag} {D : Deck} {H : Hp} (dk : DeckOk H D) {a : Addr} {xs : List V} {lo hi : Option Int} {Q : VK} (hx : H a = some (.tup xs)) (oa : Off D a)
    (q : ∀ (p : Addr) (H' : Hp), Same H H' → H' p = some (.tup (cutV xs lo hi)) → Off D p → Q (.ref p) H') : rSlA K (.ref a) lo hi H Q :=
  ⟨a, xs, rfl, SqT.of hx, fun hw => q a H (Same.refl H) (by rw [cut_whole hw]; exact hx) oa, fun _ p np => q p _ (same_new np _) upd_same (dk.new np)⟩
theorem catA_of {K : PySem.W.Frag} {D : Deck} {H : Hp} (dk : DeckOk H D) {a b : Addr} {xs ys : List V} {Q : VK} (hx : H a = some (.tup xs)) (oa : Off D a) (hy : H b = some (.tup ys)) (ob : Off D b) (hz : xs.length + ys.length ≤ sizeLine)
    (q : ∀ (p : Addr) (H' : Hp), Same H H' → H' p = some (.tup (xs ++ ys)) → Off D p → Q (.ref p) H') : rCatA K (.ref a) (.ref b) H Q :=
  ⟨a, b, xs, ys, rfl, rfl, SqT.of hx, SqT.of hy, hz, fun e => q b H (Same.refl H) (by rw [e]; exact hy) ob, fun _ e => q a H (Same.refl H) (by rw [e, List.append_nil]; exact hx) oa, fun _ _ p np => q p _ (same_new np _) upd_same (dk.new np)⟩
/-! ### weights of changed tuples -/
theorem wts_app : ∀ a b : List PyData, wts (a ++ b) = wts a + wts b
  | [], b => by simp only [List.nil_append, wts, Nat.zero_add]
  | d :: a, b => by
    have h := wts_app a b
    simp only [List.cons_append, wts, h]
    omega
theorem wts_take : ∀ (a : List PyData) (k : Nat), wts (a.take k) + wts (a.drop k) = wts a := fun a k => by
  rw [← wts_app, List.take_append_drop]
theorem depthAll_app : ∀ a b : List PyData, PyData.depthAll (a ++ b) = max (PyData.depthAll a) (PyData.depthAll b)
  | [], b => by simp only [List.nil_append, PyData.depthAll]; omega
  | d :: a, b => by
    have h := depthAll_app a b
    simp only [List.cons_append, PyData.depthAll, h]
    omega
theorem depthAll_parts (a : List PyData) (k : Nat) : PyData.depthAll (a.take k) ≤ PyData.depthAll a ∧ PyData.depthAll (a.drop k) ≤ PyData.depthAll a := by
  have h := depthAll_app (a.take k) (a.drop k)
  rw [List.take_append_drop] at h
  omega
theorem gds_parts {a : List PyData} (k : Nat) (h : gds a = true) : gds (a.take k) = true ∧ gds (a.drop k) = true := by
  rw [← List.take_append_drop k a, gds_app, Bool.and_eq_true] at h
  exact h
theorem rev_ok : ∀ a : List PyData, wts a.reverse = wts a ∧ PyData.depthAll a.reverse = PyData.depthAll a ∧ gds a.reverse = gds a
  | [] => ⟨rfl, rfl, rfl⟩
  | d :: a => by
    obtain ⟨h1, h2, h3⟩ := rev_ok a
    rw [List.reverse_cons, wts_app, depthAll_app, gds_app, h1, h2, h3]
    simp only [wts, PyData.depthAll, gds, Bool.and_true]
    refine ⟨by omega, by omega, Bool.and_comm _ _⟩
theorem wts_len : ∀ a : List PyData, 2 * a.length ≤ wts a
  | [] => Nat.zero_le _
  | d :: a => by
    have h := wts_len a
    simp only [wts, List.length_cons]
    omega
theorem dqAll_take {D : Deck} {H : Hp} : ∀ {vs : List V} {ds : List PyData} (k : Nat), DQAll D H vs ds → DQAll D H (vs.take k) (ds.take k) ∧ DQAll D H (vs.drop k) (ds.drop k)
  | _, _, 0, h => ⟨.nil, h⟩
  | _, _, _ + 1, .nil => ⟨.nil, .nil⟩
  | _, _, k + 1, .cons h a => ⟨.cons h (dqAll_take k a).1, (dqAll_take k a).2⟩
theorem dqAll_rev {D : Deck} {H : Hp} : ∀ {vs : List V} {ds : List PyData}, DQAll D H vs ds → DQAll D H vs.reverse ds.reverse
  | _, _, .nil => .nil
  | _, _, .cons h a => by
    rw [List.reverse_cons, List.reverse_cons]
    exact dqAll_app (dqAll_rev a) (.cons h .nil)
theorem wt_get : ∀ {ds : List PyData} {i : Nat} {d : PyData}, ds[i]? = some d → wt d + 2 + wts (ds.take i) + wts (ds.drop (i + 1)) = wts ds
  | [], _, _, h => by simp at h
  | x :: xs, 0, _, h => by
    cases h
    simp only [List.take_zero, wts, List.drop_succ_cons, List.drop_zero, Nat.add_zero]
  | x :: xs, i + 1, d, h => by
    have := wt_get (ds := xs) (i := i) h
    simp only [List.take_succ_cons, wts, List.drop_succ_cons]
    omega
theorem gd_get : ∀ {ds : List PyData} {i : Nat} {d : PyData}, ds[i]? = some d → gds ds = true → gd d = true
  | [], _, _, h, _ => by simp at h
  | x :: xs, 0, _, h, k => by
    cases h
    simp only [gds, Bool.and_eq_true] at k
    exact k.1
  | x :: xs, i + 1, d, h, k => by
    simp only [gds, Bool.and_eq_true] at k
    exact gd_get (ds := xs) (i := i) h k.2
/-! ### own errors with one field, over ValueError or LookupError -/
section
open PySem.Builtin PySem.Builtin.ObjectAttr PySem.HandSPX
/-- own classes, then the mro of the built-in one -/
def refsT (tail : List Value) : List Value → Bool
  | .ref _ :: r => refsT tail r
  | l => l == tail
/-- a family of errors: what the library says of its built-in class -/
structure Fam (B newId initId : String) (tail : List Value) : Prop where
  facts : ExcBaseFacts B newId initId tail
  pass : ∀ self, refuseLoop self "__setattr__" tail = pure ()
  obj : tail.contains (.type "object") = true
theorem famV : Fam "ValueError" "ValueError.__new__" "ValueError.__init__" [.type "ValueError", .type "Exception", .type "BaseException", .type "object"] := ⟨F.excBase_ValueError, fun self => F.store_ValueError.passes self, by decide +kernel⟩
theorem famL : Fam "LookupError" "LookupError.__new__" "LookupError.__init__" [.type "LookupError", .type "Exception", .type "BaseException", .type "object"] := ⟨F.excBase_LookupError, fun self => F.store_LookupError.passes self, by decide +kernel⟩
theorem refsT_or {tail : List Value} (l : List Value) (h : refsT tail l = true) : (∃ c r, l = .ref c :: r ∧ refsT tail r = true) ∨ l = tail := by
  unfold refsT at h
  split at h
  · exact .inl ⟨_, _, rfl, h⟩
  · exact .inr (beq_iff_eq.mp h)
theorem refsT_all {tail : List Value} {Good : List Value → Prop} (h0 : Good tail) (hs : ∀ c r, Good r → Good (.ref c :: r)) : ∀ l : List Value, refsT tail l = true → Good l
  | [], h => by
    rcases refsT_or [] h with ⟨_, _, e, _⟩ | e
    · cases e
    · rw [e]; exact h0
  | a :: r, h => by
    rcases refsT_or (a :: r) h with ⟨c, r', e, h'⟩ | e
    · cases e
      exact hs c r (refsT_all h0 hs r h')
    · rw [e]; exact h0
variable {B newId initId : String} {tail : List Value}
theorem Fam.passes (fam : Fam B newId initId tail) (self : Value) (l : List Value) (h : refsT tail l = true) : refuseLoop self "__setattr__" l = pure () :=
  refsT_all (Good := fun l => refuseLoop self "__setattr__" l = pure ()) (fam.pass self) (fun c r e => by rw [refuseLoop_ref]; exact e) l h
theorem refsT_has (X : String) (l : List Value) (h : refsT tail l = true) : l.contains (.type X) = tail.contains (.type X) :=
  refsT_all (Good := fun l => l.contains (.type X) = tail.contains (.type X)) rfl (fun c r e => by rw [List.contains_cons, e]; rfl) l h
theorem Fam.some (fam : Fam B newId initId tail) (l : List Value) (h : refsT tail l = true) : l.isEmpty = false := by
  cases l with
  | nil =>
    have e := refsT_has "object" [] h
    rw [fam.obj] at e
    exact absurd e (by decide)
  | cons _ _ => rfl
/-- the first field of an error -/
theorem first_field {prog : Program} {w : World} {A : Around} {R : Result → Shared → Prop} {hp : Heap} {g : Array GenState} {d : Drawn} {t : Nat} {os : OsState} {K : PySem.W.Frag} {name : Str} {tk : Tok} {v : Value} {x C : Addr} {fv : Array Value} {cd : ClassData}
    (fam : Fam B newId initId tail) (inK : K.In hp) (isX : hp.get? x = some { cls := .ref C, data := .fields fv }) (isC : PySem.W.clsIn K C = some cd)
    (isM : refsT tail cd.mro = true) (dict : cd.hasDict = true) (free : PySem.W.findIn K (.ref C) name = some none)
    (done : ∀ h' tk' dx, (∀ b o, b ≠ x → hp.get? b = some o → h'.get? b = some o) → hp.objs.size ≤ dx → dx ≠ x →
      h'.get? x = some { cls := .ref C, dict := some dx, data := .fields fv } → h'.Ns1 dx (fun y => if y = name then some v else none) → R (.ok (.ret .none)) ⟨h', g, d, tk', os⟩) :
    codeAny (model prog w) A (.call (.builtin "object.__setattr__") ⟨[.ref x, .str name tk, v], []⟩) R ⟨hp, g, d, t, os⟩ := by
  have at0 : PySem.W.InstAt hp x { cls := .ref C, data := .fields fv } C none := ⟨isX, rfl, rfl, trivial⟩
  have store := PySem.F.store_object
  have hasObj : cd.mro.contains (.type "object") = true := (refsT_has "object" _ isM).trans fam.obj
  have notNew : x ≠ hp.objs.size := Nat.ne_of_lt (Heap.lt_size isX)
  have isSub : PySem.W.Looks (model prog w) hp (isInstance (.ref x) (.type "object")) true := by
    refine at0.type.andThen (PySem.W.looks_mroIn inK ?_)
    unfold PySem.W.mroIn
    rw [isC, Option.bind_some, if_neg (by rw [fam.some _ isM]; decide), hasObj]
  refine codeAny_call_builtin store.slot.plain store.entry ?_
  refine @PySem.W.check_slot (model prog w) _ _ ⟨hp, g, d, t, os⟩ "object.__setattr__" "object" "__setattr__" (.ref x) [.str name tk, v] [] _ store.kind store.split isSub
    (store.args (.ref x) (.str name tk) v) ?_
  have mroL : PySem.W.Looks (model prog w) hp (mroOf (.ref C)) cd.mro := (PySem.W.looks_clsIn inK isC).andThen .now
  have noTaker : PySem.W.Looks (model prog w) hp (storeTaker? none) none := .now
  have clsL : PySem.W.Looks (model prog w) hp (classData C) cd := PySem.W.looks_clsIn inK isC
  rw [PySem.W.osa_eq, refuse_eq]
  refine wpAny_bind (wpAny_bind (at0.type.at (wpAny_bind (mroL.at ?_))))
  rw [fam.passes _ _ isM]
  refine wpAny_pure (wpAny_bind (at0.type.at (wpAny_bind ((PySem.W.looks_findIn inK free).at ?_))))
  refine wpAny_bind (noTaker.at ?_)
  show wpAny _ _ (storeInOwnDict (.ref x) (.ref C) (.str name tk) name v false) _ _ _
  obtain ⟨nm, bs, mro, nsA, qn, hd, sn, sb, ab, col, del⟩ := cd
  dsimp only at dict
  subst dict
  unfold storeInOwnDict ownDictForStores
  repeat (first
    | with_reducible refine store_in_new ?_ ?_
    | with_reducible refine wpAny_loadPart_at isX ?_
    | with_reducible refine clsL.at ?_
    | wp_step)
  · refine ⟨_, #[], _, (Heap.get?_update_ne _ _ _ _ notNew.symm).trans (Heap.get?_push_at rfl rfl), rfl, ?_, fun _ => rfl⟩
    intro e he
    exact absurd he (by simp)
  · intro h' tk' ns1 same
    have isX1 : (hp.push { cls := .type "dict", data := .dict #[] }).get? x = some { cls := .ref C, data := .fields fv } := Heap.get?_push_of_some _ isX
    refine done h' tk' hp.objs.size ?_ (Nat.le_refl _) notNew.symm ?_ ns1
    · intro b o hb ho
      refine (same.2 b (Nat.ne_of_lt (Heap.lt_size ho))).trans ?_
      exact (Heap.get?_update_ne _ _ _ _ hb).trans (Heap.get?_push_of_some _ ho)
    · exact (same.2 x notNew).trans (Heap.get?_update_self _ isX1 rfl)
end
abbrev veT : List Value := [.type "ValueError", .type "Exception", .type "BaseException", .type "object"]
abbrev leT : List Value := [.type "LookupError", .type "Exception", .type "BaseException", .type "object"]
/-! ### errors with the field value -/
def iA_value (p1 p2 : Pos) : Arguments := { posonlyargs := [], args := [{ arg := "self", annotation := none, pos := p1 }, { arg := "value", annotation := none, pos := p2 }], vararg := none, kwonlyargs := [], kw_defaults := [], kwarg := none, defaults := [] }
def iB_value (q1 q2 q3 q4 : Pos) : List Stmt := [.Assign [.Attribute (.Name "self" q1) "value" q2] (.Name "value" q3) q4]
def iS_value : Scope := { kind := .function, names := [(PySem.Str.ofString "self", .local), (PySem.Str.ofString "value", .local)], isGenerator := false, isCoroutine := false, more := [] }
/-- what the written part says of the class cn, at C, and of its __init__, at fI -/
structure Err_value (K : PySem.W.Frag) (mg : Str → Option Value) (newId : String) (tail : List Value) (cn qn : Str) (C fI : Addr) : Prop where
  gC : mg cn = some (.ref C)
  nd : (cn == ("__debug__" : Str)) = false
  cls : ∃ nm q N bs bm sn sub ab col dd k0 k1 k2 k3 k5, K.lookup C = some (excClassObj nm q C N bs bm true sn sub ab col dd k0 k1 k2 k3 k5 newId) ∧ refsT tail bm = true
  sa : PySem.W.findIn K (.ref C) "__setattr__" = some (some (.builtin "object.__setattr__"))
  ga : PySem.W.findIn K (.ref C) "__getattribute__" = some (some (.builtin "BaseException.__getattribute__"))
  gg : PySem.W.findIn K (.ref C) "__getattr__" = some none
  noN : PySem.W.findIn K (.ref C) "value" = some none
  iC : PySem.W.findIn K (.ref C) "__init__" = some (some (.ref fI))
  tC : PySem.W.typeIn K (.ref fI) = some (.type "function")
  kC : PySem.W.keepIn K (.ref C) = true
  exC : PySem.W.subIn K (.ref C) (.type "BaseException") = some true
  tyC : PySem.W.typeIn K (.ref C) = some (.type "type")
  hdC : PySem.W.hasDictIn K C = true
  fn : ∃ (oc : Value) (od : Option Addr) (doc pm : Value) (an : Option Addr) (cdv ct : Value) (osl : Array (Option Value)) (p1 p2 q1 q2 q3 q4 : Pos),
    K.lookup fI = some ⟨oc, od, .func (PySem.W.fnOf "__init__" qn (iA_value p1 p2) (iB_value q1 q2 q3 q4) iS_value .none .none doc pm an cdv ct), osl⟩ ∧ PySem.W.codeIn K cdv qn = true
section
open PySem.Builtin PySem.Builtin.ObjectAttr PySem.HandSPX
variable {prog : Program} {w : World} {A : Around} {E : Value → Shared → Prop} {R : Result → Shared → Prop} {s : Shared} {K : PySem.W.Frag} {mg : Str → Option Value} {C fI : Addr} {B newId initId : String} {tail : List Value} {cn qn : Str}
theorem init_value (fam : Fam B newId initId tail) (T : Err_value K mg newId tail cn qn C fI) {x t0 : Addr} {v : Value} (inK : K.In s.heap) (lim : s.heap.NoLimit) (isX : s.heap.get? x = some (excO C t0)) (offK : K.lookup x = none) (room : A.depth < recursionLimit)
    (done : ∀ h' tk dx, (∀ b o, b ≠ x → s.heap.get? b = some o → h'.get? b = some o) → h'.get? x = some { cls := .ref C, dict := some dx, data := .fields #[.ref t0, .none, .none, .none, .bool false, .none] } → s.heap.objs.size ≤ dx → dx ≠ x →
      h'.Ns1 dx (fun y => if y = "value" then some v else none) → R (.ok (.ret .none)) { s with heap := h', toks := tk }) :
    codeAny (model prog w) A (.call (.ref fI) ⟨[.ref x, v], []⟩) R s := by
  obtain ⟨oc, od, doc, pm, an, cdv, ct, osl, p1, p2, q1, q2, q3, q4, isF, isCode⟩ := T.fn
  obtain ⟨nm, q, N, bs, bm, sn, sub, ab, col, dd, k0, k1, k2, k3, k5, isC, isM⟩ := T.cls
  have cls : PySem.W.clsIn K C = some { name := nm, bases := bs, mro := .ref C :: bm, ns := N, qualname := q, hasDict := true, slotNames := sn, subclasses := sub, abstract := ab, collection := col, hasDel := false } := by
    unfold PySem.W.clsIn
    rw [isC] <;> rfl
  refine Att.call_fn (binds := [("self", .ref x), ("value", v)]) inK lim isF isCode room (BindsTo.of_eq (by first | rfl | with_unfolding_all rfl)) (by first | rfl | decide | with_unfolding_all rfl) (fun s₁ IC => ?_) rfl rfl rfl
  obtain ⟨h₁, tk₁, rfl⟩ := IC.toInCall.same
  have keep : ∀ b o, s.heap.get? b = some o → h₁.get? b = some o := IC.toInCall.keep
  have locals := IC.toInCall.ns
  have inK₁ : K.In h₁ := inK.keeps keep
  have isX₁ := keep _ _ isX
  show wpAny _ _ (execs _ _) _ _ _
  refine wpAny_execs_cons (plainObj_wpAny_Assign_Attribute ?_)
  refine wpAny_Name (wpAny_loadName_local (by rfl) (by rfl) locals (v := v) (by first | rfl | with_unfolding_all rfl | kernel_rfl) ?_) (by decide)
  refine wpAny_Name (wpAny_loadName_local (by rfl) (by rfl) locals (v := .ref x) (by first | rfl | with_unfolding_all rfl | kernel_rfl) ?_) (by decide)
  refine PySem.W.set_plain inK₁ (ox := excO C t0) (od := none) ⟨isX₁, rfl, rfl, trivial⟩ T.sa ?_
  refine first_field fam inK₁ isX₁ cls (show refsT tail (.ref C :: bm) = true from isM) rfl T.noN (fun h₃ tk₃ dx k₃ dn dne hx₃ hn₃ => ?_)
  show wpAny _ _ (execs _ _) _ _ _
  have z : s.heap.objs.size < h₁.objs.size := locals.lt
  exact wpAny_execs_nil (done h₃ tk₃ dx (fun b o hb e => k₃ b o hb (keep b o e)) hx₃ (Nat.le_of_lt (Nat.lt_of_lt_of_le z dn)) dne hn₃)
/-- a made error -/
structure Made_value (h h' : Heap) (e C d : Addr) (v : Value) : Prop where
  keep : ∀ b o, h.get? b = some o → h'.get? b = some o
  new : h.objs.size ≤ e
  obj : ∃ oe vs, h'.get? e = some oe ∧ oe.cls = .ref C ∧ oe.dict = some d ∧ oe.data = .fields vs ∧ vs[1]? = some .none
  dbig : h.objs.size ≤ d
  dne : d ≠ e
  ns : h'.Ns1 d (fun y => if y = "value" then some v else none)
theorem made_value (fam : Fam B newId initId tail) (T : Err_value K mg newId tail cn qn C fI) {v : Value} (inK : K.In s.heap) (lim : s.heap.NoLimit) (room : A.depth + 1 < recursionLimit)
    (done : ∀ h' tk e d, Made_value s.heap h' e C d v → R (.ok (.ret (.ref e))) { s with heap := h', toks := tk }) :
    codeAny (model prog w) A (.call (.ref C) ⟨[v], []⟩) R s := by
  obtain ⟨nm, q, N, bs, bm, sn, sub, ab, col, dd, k0, k1, k2, k3, k5, isC, isM⟩ := T.cls
  obtain ⟨hp, g, dr, tk, os⟩ := s
  have keep : ∀ b o, hp.get? b = some o → ((hp.push (PySem.W.kdv_tup [v])).push (excO C hp.objs.size)).get? b = some o := fun b o e => Heap.get?_push_of_some _ (Heap.get?_push_of_some _ e)
  have isE : ((hp.push (PySem.W.kdv_tup [v])).push (excO C hp.objs.size)).get? (hp.objs.size + 1) = some (excO C hp.objs.size) := by heap_get
  have offK : K.lookup (hp.objs.size + 1) = none := by
    cases e : K.lookup (hp.objs.size + 1) with
    | none => rfl
    | some o => exact absurd (Nat.lt_of_succ_lt (Heap.lt_size (inK _ _ e))) (Nat.lt_irrefl _)
  refine call_own fam.facts (fun X => refsT_has X bm isM) (inK _ _ isC) (PySem.W.looks_findIn inK T.iC) (fun self => PySem.W.bind_fn inK self T.tC) (by show 1 ≤ sizeLine; decide) ?_
  refine init_value (s := ⟨(hp.push (PySem.W.kdv_tup [v])).push (excO C hp.objs.size), g, dr, tk, os⟩) fam T (inK.keeps keep) (lim.keeps keep) isE offK ?_ fun h' tk' dx k' hx dn dne hns => ?_
  · show A.depth + 1 < recursionLimit
    exact room
  · have old : ∀ b o, hp.get? b = some o → h'.get? b = some o := fun b o e => k' b o (Nat.ne_of_lt (Nat.lt_succ_of_lt (Heap.lt_size e))) (keep b o e)
    have z : hp.objs.size + 1 + 1 ≤ dx := by
      have y := dn
      rw [Heap.size_push, Heap.size_push] at y
      exact y
    exact ⟨rfl, done h' tk' (hp.objs.size + 1) dx ⟨old, Nat.le_succ _, ⟨_, _, hx, rfl, rfl, rfl, rfl⟩, (show hp.objs.size ≤ dx by omega), dne, hns⟩⟩
end
theorem rel_value {v : V} {u : Value} (r : RelV v u) (f : Str) : RelO (List.lookup f [(("value" : Str), v)]) (if f = "value" then some u else none) := by
  by_cases h : f = "value"
  · subst h
    rw [if_pos rfl, show List.lookup ("value" : Str) [(("value" : Str), v)] = some v by simp [List.lookup]]
    exact r
  · have e : (f == ("value" : Str)) = false := by simpa using h
    rw [if_neg h, show List.lookup f [(("value" : Str), v)] = none by simp [List.lookup, e]]
    trivial
section
variable {X : Cx} {C fI : Addr} {B newId initId : String} {tail : List Value} {cn qn : Str}
/-- cn(e) -/
def tMk_value (C : Addr) (ta : TA) : L2.St → Hp → XK → Prop := fun σ H Q => ta σ H fun vs H1 => ∃ v, vs = [v] ∧ ∀ d, H1 d = none → Q (.ref C) (some d) (upd H1 d (.xd [(("value" : Str), v)]))
theorem pmk_value {a : Expr} {ta : TA} {p pos : Pos} {k : Nat} (fam : Fam B newId initId tail) (T : Err_value X.K X.mg newId tail cn qn C fI) (hr : Room k X.A) (ha : PA X [a] ta) (hg : Gl X cn)
    (he : starEach (a :: []) X.env = (false, eval a X.env) :: starEach [] X.env := by rfl) (hpl : (backTo pos (starEach [] X.env)).any (·.1) = false := by rfl) :
    PMk X (.Call (.Name cn p) [a] [] pos) (tMk_value C ta) := by
  intro pins s σ H Q I h
  refine wpAny_Call_Name_kw (ld_glob I hg T.gC ?_ T.nd)
  refine PySem.W.callWith_K (h₀ := X.base) I.ok.mod.kin T.kC (thn (ha.run pos pins s σ H _ I h) ?_) he hpl
  rintro us s1 ⟨vs, H1, I1, r1, v, rfl, q1⟩
  refine ⟨I1.kIn, ?_⟩
  cases r1 with
  | @cons _ v' _ us' rv rn =>
    cases rn
    show wpAny _ _ (call (.ref C) [v']) _ _ _
    have lim := I1.nolimit
    obtain ⟨hp, g, dr, tk, os⟩ := s1
    refine wpAny_call (made_value fam T I1.kIn lim (by have := hr.dp; omega) fun h' tk' e d M => ?_)
    show MkP X pins σ Q (.ref e) ⟨h', g, dr, tk', os⟩
    obtain ⟨oe, fv, hoe, hc, hd, hdat, h1⟩ := M.obj
    obtain ⟨G', g1, g2⟩ := restrict h' fun b => decide (b ≠ e)
    have gk : ∀ b, b ≠ e → G'.get? b = h'.get? b := fun b hb => g1 b (decide_eq_true hb)
    have ge : G'.get? e = none := g2 e (by simp)
    have old : ∀ b o, hp.get? b = some o → G'.get? b = some o := by
      intro b o z
      refine (gk b (Nat.ne_of_lt (Nat.lt_of_lt_of_le (Heap.lt_size z) M.new))).trans ?_
      exact M.keep b o z
    have ok : ObjOk X.prog X.w (upd H1 d (.xd [(("value" : Str), v)])) G' d (.xd [(("value" : Str), v)]) :=
      ⟨_, M.ns.at (fun o z => (gk d M.dne).trans z), fun f => rel_value rv f⟩
    have J : Inv X pins σ (upd H1 d (.xd [(("value" : Str), v)])) ⟨G', g, dr, tk', os⟩ := I1.laid (t' := tk') old M.dbig ok
    refine ⟨e, oe, fv, ⟨G', g, dr, tk', os⟩, _, .ref C, some d, rfl, J, ?_, ge, hoe, ⟨hc, hd⟩, hdat, h1, ?_, rfl, I1.bare, raises_own T.exC T.tyC, q1 d (I1.hok.fresh M.dbig)⟩
    · intro b o z
      by_cases hb : b = e
      · have z' : G'.get? b = some o := z
        rw [hb, ge] at z'
        cases z'
      · exact (gk b hb).symm.trans z
    · rw [upd_ne (Ne.symm M.dne)]
      exact I1.hok.fresh M.new
/-- raise cn(e) -/
def tRaise_value (C : Addr) (W : WX) (ta : TA) : TS := fun _ σ H => tMk_value C ta σ H fun cls d H' => W cls d σ H'
theorem ps_raise_value {a : Expr} {ta : TA} {W : WX} {p pos pos2 : Pos} {k : Nat} (hc : X.calm = true) (fam : Fam B newId initId tail) (T : Err_value X.K X.mg newId tail cn qn C fI) (hr : Room k X.A) (tk : Takes X W) (ha : PA X [a] ta) (hg : Gl X cn)
    (he : starEach (a :: []) X.env = (false, eval a X.env) :: starEach [] X.env := by rfl) (hpl : (backTo pos (starEach [] X.env)).any (·.1) = false := by rfl) :
    PS X (.Raise (some (.Call (.Name cn p) [a] [] pos)) none pos2) (tRaise_value C W ta) := ps_raise hc tk (pmk_value fam T hr ha hg he hpl)
/-- err.value, err the error that the suite holds (at a; its class cls, its dict d) -/
def tFld_value (C : Addr) (a : Addr) (cls : Value) (d : Option Addr) (te : TE) : TE := fun σ H Q => te σ H fun x H1 => x = .ref a ∧ cls = .ref C ∧ ∃ (dd : Addr) (v : V), d = some dd ∧ H1 dd = some (.xd [(("value" : Str), v)]) ∧ Q v H1
theorem pe_fld_value {a : Addr} {oe : Obj} {cls : Value} {d : Option Addr} {pn : List (Addr × Obj)} {e : Expr} {te : TE} {pos : Pos} (T : Err_value X.K X.mg newId tail cn qn C fI) (hz : Zc cls d oe) (hf : ∃ vs, oe.data = .fields vs) (he : PE (X.suite a ((a, oe) :: pn)) e te)
    (hb : attributeBase e "value" X.env (eval e X.env) = eval e X.env := by rfl) :
    PE (X.suite a ((a, oe) :: pn)) (.Attribute e "value" pos) (tFld_value C a cls d te) := by
  constructor
  intro pins s σ H Q I h
  refine attr_of hb (thn (he.run pins s σ H _ I h) ?_)
  rintro u s1 ⟨x, H1, I1, rx, rfl, rfl, dd, v, rfl, ea, q⟩
  cases rx
  obtain ⟨ha, _⟩ := I1.pin (a, oe) (List.mem_append_left _ List.mem_cons_self)
  obtain ⟨vs, hd⟩ := hf
  have ok : ObjOk X.prog X.w H1 s1.heap dd (.xd [(("value" : Str), v)]) := I1.hok dd _ ea
  obtain ⟨mA, hns, hr⟩ := ok
  obtain ⟨od, ho, hl⟩ := lookIn_ns hns
  have look : List.lookup ("value" : Str) [(("value" : Str), v)] = some v := by simp [List.lookup]
  obtain ⟨u, hu, ru⟩ := RelO.some_of (v := v) (o := mA "value") (by rw [← look]; exact hr "value")
  have J : PySem.W.InstAt s1.heap a oe C (some od) := ⟨ha, hz.1, by unfold PySem.W.notCls; rw [hd] <;> rfl, by rw [hz.2]; exact ho⟩
  exact HandSPX.exc_get I1.kIn J T.ga T.gg T.exC (PySem.W.findObj_own T.hdC T.noN rfl (by rw [hl, hu])) (handed_of ru) ⟨v, H1, I1.tok _, ru, q⟩
end
/-! ### the methods of Desk -/
def spInitD (C : Addr) : Sp := fun vs H Q _ => ∃ (p dx : Addr) (v : V) (t : B), vs = [.ref p, v] ∧ H p = some (.ins C dx []) ∧ BAt H v t ∧ t ≠ .nil ∧ t.lts ∧ t.size ≤ 12 ∧ ∀ H', But p H H' → Dk C H' p [] t [] false → Q .non H'
def spFree (C : Addr) : Sp := fun vs H Q _ => ∃ (a : Addr) (ts : List B) (t : B) (es : List Ed), vs = [.ref a] ∧ Dk C H a ts t es false ∧ Q .non H
def spCT : Sp := fun vs H Q _ => ∃ a v, vs = [.ref a, v] ∧ Q .non H
def spTold (C : Addr) : Sp := fun vs H Q _ => ∃ (a : Addr) (v : V) (ts : List B) (t : B) (es : List Ed) (bu : Bool), vs = [.ref a, v] ∧ Dk C H a ts t es bu ∧ es.length ≤ 1000 ∧ Q (.int (es.length : Int)) H
def spTake (C : Addr) : Sp := fun vs H Q _ => ∃ (a q : Addr) (ts : List B) (t t' : B) (es : List Ed) (bu : Bool) (e : Ed), vs = [.ref a, .ref q] ∧ Dk C H a ts t es bu ∧ H q = some (.tup e.vals) ∧ Does t e t' ∧ es.length < 60 ∧ ts.length ≤ 100 ∧ t.lts ∧ t.size ≤ 12 ∧ t ≠ .nil ∧
  ∀ H', But a H H' → Dk C H' a (ts ++ [t]) t' (es ++ [e]) bu → Q .non H'
def spCalled (C : Addr) : Sp := fun vs H Q _ => ∃ (a q : Addr) (ts : List B) (t t' : B) (es : List Ed) (e : Ed), vs = [.ref a, .ref q] ∧ Dk C H a ts t es false ∧ H q = some (.tup e.vals) ∧ Does t e t' ∧ es.length < 60 ∧ ts.length ≤ 100 ∧ t.lts ∧ t.size ≤ 12 ∧ t ≠ .nil ∧
  ∀ H', But a H H' → Dk C H' a (ts ++ [t]) t' (es ++ [e]) false → Q (.int ((es.length + 1 : Nat) : Int)) H'
/-- one of the four methods: the desk, then the edit's arguments -/
def spDo (C : Addr) (mk : Ed → Prop) : Sp := fun vs H Q _ => ∃ (a : Addr) (ts : List B) (t t' : B) (es : List Ed) (e : Ed), vs = .ref a :: e.args ∧ mk e ∧ Dk C H a ts t es false ∧ Does t e t' ∧ es.length < 60 ∧ ts.length ≤ 100 ∧ t.lts ∧ t.size ≤ 12 ∧ t ≠ .nil ∧
  ∀ H', But a H H' → Dk C H' a (ts ++ [t]) t' (es ++ [e]) false → Q (.int ((es.length + 1 : Nat) : Int)) H'
/-- the tree of a desk -/
def spTreeM (C : Addr) : Sp := fun vs H Q _ => ∃ (a : Addr) (ts : List B) (t : B) (es : List Ed) (bu : Bool), vs = [.ref a, .non] ∧ Dk C H a ts t es bu ∧ ∀ v, BAt H v t → Q v H
def spEditsM (C : Addr) : Sp := fun vs H Q _ => ∃ (a : Addr) (ts : List B) (t : B) (es : List Ed) (bu : Bool), vs = [.ref a] ∧ Dk C H a ts t es bu ∧ ∀ (d : Addr) (ds : List V), H d = some (.tup ds) → EsAt H ds es → Q (.ref d) H
def spVer (C : Addr) : Sp := fun vs H Q _ => ∃ (a : Addr) (ts : List B) (t : B) (es : List Ed) (bu : Bool), vs = [.ref a] ∧ Dk C H a ts t es bu ∧ es.length ≤ 1000 ∧ Q (.int (es.length : Int)) H
def spSizeP (C : Addr) : Sp := fun vs H Q _ => ∃ (a : Addr) (ts : List B) (t : B) (es : List Ed) (bu : Bool), vs = [.ref a] ∧ Dk C H a ts t es bu ∧ t.size ≤ 12 ∧ Q (.int (t.size : Int)) H
def spWalkP (C : Addr) (k : Kd) : Sp := fun vs H Q _ => ∃ (a : Addr) (ts : List B) (t : B) (es : List Ed) (bu : Bool), vs = [.ref a] ∧ Dk C H a ts t es bu ∧ t.size ≤ 12 ∧ ∀ H', Same H H' → Q (.str (tx (t.wk k))) H'
/-- the text of a desk -/
def dtext (n m : Nat) : Str := Str.ofString (toString (n : Int)) ++ Str.ofString " nodes, " ++ Str.ofString (toString (m : Int)) ++ Str.ofString " edits"
def spStrD (C : Addr) : Sp := fun vs H Q _ => ∃ (a : Addr) (ts : List B) (t : B) (es : List Ed) (bu : Bool), vs = [.ref a] ∧ Dk C H a ts t es bu ∧ t.size ≤ 12 ∧ es.length ≤ 60 ∧ Q (.str (dtext t.size es.length)) H
theorem sc_Desk_tree : FnScope ["self", "version"] ["self", "version"] (defScope s_Desk_tree) := ⟨rfl, rfl, rfl, by decide +kernel, rfl, by decide +kernel, by decide +kernel⟩
section
variable {P : Program} {w : World} {K : PySem.W.Frag} {mg : Str → Option Value} {base : Heap} {f : Addr} {fd : FuncData} {C : Addr}
theorem ok_init (F : Fun K "__init__" "Desk.__init__" s_Desk___init__ f fd) (TD : DeskC K mg C) (Dis_tree : Df P w K mg base 3 "is_tree" ["value"] spTreeT) : FnOk P w K mg base CX0 4 f fd ["self", "tree"] (spInitD C) := by
  refine F.ok sc_Desk___init__ (fun vs H Q E h => ?_) (fun cdv A outer s H vs Q E hr h => ?_)
  · obtain ⟨p, dx, v, x, rfl, _⟩ := h
    rfl
  obtain ⟨p, dx, v, x, rfl, hp, ht, hn, hl, hz, q⟩ := h
  refine ⟨_, (pss_cons (ps_if (pt_not (pt_val (pe_call Dis_tree.ok (hr.mono (by omega)) rfl Dis_tree.g Dis_tree.kp Dis_tree.b .nil pass0 (pa_cons (pv 1) pa_nil))))
      (pss_one ps_never) pss_nil)
    (pss_cons (ps_fld (pv 0) (pe_tup (pa_cons (pv 1) pa_nil)) rfl)
    (pss_cons (ps_fld (pv 0) (pe_tup pa_nil) rfl)
    (pss_one (ps_fld (pv 0) pe_bl rfl))))), ?_⟩
  refine ⟨_, rfl, v, x, rfl, ht, hn, hl, hz, fun H1 s1 => ⟨_, rfl, iteF ?_⟩⟩
  refine ⟨_, rfl, (by show 1 ≤ sizeLine; decide), fun ta nta => ?_⟩
  have k2 := same_new nta (.tup [v])
  have hp2 := k2 _ _ (s1 _ _ hp)
  have npt : p ≠ ta := ne_of_none (s1 _ _ hp) nta
  refine ⟨_, rfl, p, C, dx, [], rfl, hp2, TD.cl, TD.nT, (by show 0 < 1000; decide), ?_⟩
  refine ⟨(by show 0 ≤ sizeLine; decide), fun td ntd => ?_⟩
  have npd : p ≠ td := fun z => by rw [← z, upd_same] at ntd; cases ntd
  rw [upd_ne npd.symm] at ntd
  have ntt : ta ≠ td := ne_of_none (H := upd H1 ta (.tup [v])) upd_same ntd
  refine ⟨_, rfl, p, C, dx, deskF1 (.ref ta), rfl, (by rw [upd_ne npd, upd_same]; rfl), TD.cl, TD.nD, (by show 1 < 1000; decide), ?_⟩
  refine ⟨_, rfl, p, C, dx, deskF2 (.ref ta) (.ref td), rfl, (by rw [upd_same, put_d]), TD.cl, TD.nB, (by show 2 < 1000; decide), ?_⟩
  refine q _ (fun b o hb e => ?_) ⟨dx, ta, td, [], v, [], (by rw [upd_same, put_b]), (by rw [upd_ne npt.symm, upd_ne npt.symm, upd_ne ntt, upd_ne npt.symm, upd_same]; rfl), (by rw [upd_ne npd.symm, upd_ne npd.symm, upd_same]), .nil, ?_, .nil⟩
  · have e1 := k2 _ _ (s1 _ _ e)
    have n1 : b ≠ td := ne_of_none e1 ntd
    rw [upd_ne hb, upd_ne hb, upd_ne n1, upd_ne hb]
    exact e1
  · refine (ht.same (s1.trans k2)).keep fun b xs e => ?_
    have hb : b ≠ p := ne_of e hp2 (by intro z; cases z)
    have n1 : b ≠ td := ne_of_none e ntd
    rw [upd_ne hb, upd_ne hb, upd_ne n1, upd_ne hb]
    exact e
theorem ok_free {k : Nat} (F : Fun K "check_free" "Desk.check_free" s_Desk_check_free f fd) (TD : DeskC K mg C) : FnOk P w K mg base CX0 (k + 1) f fd ["self"] (spFree C) := by
  refine F.ok sc_Desk_check_free (fun vs H Q E h => ?_) (fun cdv A outer s H vs Q E hr h => ?_)
  · obtain ⟨a, ts, t, es, rfl, _⟩ := h
    rfl
  obtain ⟨a, ts, t, es, rfl, ⟨dx, ta, td, vs, v, ds, h1, h2, h3, h4, h5, h6⟩, q⟩ := h
  refine ⟨_, (pss_one (ps_if (pt_val (pe_fld (pv 0) rfl))
      (pss_one ps_never) pss_nil)), ?_⟩
  exact ⟨_, rfl, a, C, dx, _, _, rfl, h1, TD.cl, TD.nB, look_b _ _ _, false, rfl, iteF q⟩
theorem ok_ct {k : Nat} (F : Fun K "check_tree" "Desk.check_tree" s_Desk_check_tree f fd) : FnOk P w K mg base CX0 (k + 1) f fd ["self", "tree"] spCT := by
  refine F.ok sc_Desk_check_tree (fun vs H Q E h => ?_) (fun cdv A outer s H vs Q E hr h => ?_)
  · obtain ⟨a, v, rfl, _⟩ := h
    rfl
  obtain ⟨a, v, rfl, q⟩ := h
  exact ⟨_, (pss_one ps_pass), q⟩
theorem ok_told {k : Nat} (F : Fun K "told" "Desk.told" s_Desk_told f fd) (TD : DeskC K mg C) (M : Mgs mg) : FnOk P w K mg base CX0 (k + 1) f fd ["self", "name"] (spTold C) := by
  refine F.ok sc_Desk_told (fun vs H Q E h => ?_) (fun cdv A outer s H vs Q E hr h => ?_)
  · obtain ⟨a, v, ts, t, es, bu, rfl, _⟩ := h
    rfl
  obtain ⟨a, v, ts, t, es, bu, rfl, ⟨dx, ta, td, vs, u, ds, h1, h2, h3, h4, h5, h6⟩, hz, q⟩ := h
  refine ⟨_, (pss_one (ps_ret (pe_callB call_len_seq rfl M.len PySem.boot_len (pa_cons (pe_fld (pv 0) rfl) pa_nil)))), ?_⟩
  have hl := h6.len
  refine ⟨_, rfl, a, C, dx, _, _, rfl, h1, TD.cl, TD.nD, look_d _ _ _, td, ds, rfl, .inr (SqT.of h3), ?_⟩
  rw [hl]
  exact q
theorem ok_take (F : Fun K "take" "Desk.take" s_Desk_take f fd) (TD : DeskC K mg C) (M : Mgs mg) (Dedited : Df P w K mg base 23 "edited" ["tree", "edit"] spEdited) (Dct : MDf P w K mg base C 1 "check_tree" ["self", "tree"] spCT) : FnOk P w K mg base CX0 24 f fd ["self", "edit"] (spTake C) := by
  refine F.ok (k := 23) sc_Desk_take (fun vs H Q E h => ?_) (fun cdv A outer s H vs Q E hr h => ?_)
  · obtain ⟨a, q, ts, t, t', es, bu, e, rfl, _⟩ := h
    rfl
  obtain ⟨a, qe, ts, t, t', es, bu, e, rfl, ⟨dx, ta, td, vs, u, ds, h1, h2, h3, h4, h5, h6⟩, he, hd, h60, hts, hl, hz, hn, q⟩ := h
  obtain ⟨um, mo⟩ := TD.mo
  refine ⟨_, (pss_cons (ps_if (pt_cmpR op_ge (pe_callB call_len_seq rfl M.len PySem.boot_len (pa_cons (pe_fld (pv 0) rfl) pa_nil)) (pe_conD (pv 0)) (nomark _))
      (pss_one ps_never) pss_nil)
    (pss_cons (ps_set (i := 2) sc_Desk_take.nd rfl (.inl rfl) (pe_call Dedited.ok (hr.mono (by omega)) rfl Dedited.g Dedited.kp Dedited.b .nil pass0 (pa_cons (pe_ix ix_tup (pe_fld (pv 0) rfl) (pe_un un_neg pe_int) (fun _ _ => rfl)) (pa_cons (pv 1) pa_nil))))
    (pss_cons (ps_expr (pe_meth (pv 0) TD.cl Dct.at_ Dct.ok (hr.mono (by omega)) Dct.b .nil pass0 (pa_cons (pv 2) pa_nil)))
    (pss_cons (ps_fld (pv 0) (pe_tup (StX.pa_star (pe_fld (pv 0) rfl) (pa_cons (pv 2) pa_nil))) rfl)
    (pss_one (ps_fld (pv 0) (pe_tup (StX.pa_star (pe_fld (pv 0) rfl) (pa_cons (pv 1) pa_nil))) rfl)))))), ?_⟩
  have el := h6.len
  have tl := h4.len
  refine ⟨_, rfl, a, C, dx, _, _, rfl, h1, TD.cl, TD.nD, look_d _ _ _, td, ds, rfl, .inr (SqT.of h3), ?_⟩
  refine ⟨_, rfl, a, C, dx, _, _, um, rfl, h1, TD.cl, mo, no_look _ _ _ (by decide +kernel) (by decide +kernel) (by decide +kernel), _, _, rfl, rfl, _, rfl, ?_⟩
  rw [decide_eq_false (show ¬ ((ds.length : Int) ≥ 60) by omega)]
  refine iteF ?_
  refine ⟨_, rfl, a, C, dx, _, _, rfl, h1, TD.cl, TD.nT, look_t _ _ _, _, rfl, ta, _, _, u, rfl, rfl, SqT.of h2, atI_last _ _, _, rfl, u, t, t', e, qe, rfl, he, h5, hd, hz, hl, hn, fun v' H1 s1 b1 => ?_⟩
  refine ⟨_, rfl, a, dx, _, rfl, s1 _ _ h1, no_look _ _ _ (by decide +kernel) (by decide +kernel) (by decide +kernel), _, rfl, a, v', rfl, ?_⟩
  refine ⟨_, rfl, a, C, dx, _, _, rfl, s1 _ _ h1, TD.cl, TD.nT, look_t _ _ _, ta, _, rfl, .inl (SqT.of (s1 _ _ h2)), _, rfl, small (by rw [List.length_append, List.length_append]; show vs.length + 1 + 1 ≤ 1000; omega), fun tb ntb => ?_⟩
  have k2 := same_new ntb (.tup ((vs ++ [u]) ++ [v']))
  have e2 := k2 _ _ (s1 _ _ h1)
  have et2 := upd_same (H := H1) (a := tb) (o := .tup ((vs ++ [u]) ++ [v']))
  have s12 := s1.trans k2
  have b2 := b1.same k2
  generalize upd H1 tb (.tup ((vs ++ [u]) ++ [v'])) = H2 at k2 e2 et2 s12 b2 ⊢
  refine ⟨_, rfl, a, C, dx, _, rfl, e2, TD.cl, TD.nT, (by show 3 < 1000; decide), ?_⟩
  rw [set_t]
  have bB : But a H2 (upd H2 a (.ins C dx (deskF (.ref tb) (.ref td) (.bl bu)))) := fun b o hb e => by rw [upd_ne hb]; exact e
  have e3 := upd_same (H := H2) (a := a) (o := .ins C dx (deskF (.ref tb) (.ref td) (.bl bu)))
  have k3 : KeepT H2 (upd H2 a (.ins C dx (deskF (.ref tb) (.ref td) (.bl bu)))) := fun b xs e => bB b _ (ne_of e e2 (by intro z; cases z)) e
  generalize upd H2 a (.ins C dx (deskF (.ref tb) (.ref td) (.bl bu))) = H3 at bB e3 k3 ⊢
  have kA : KeepT H H3 := (Tw.Same.keepT s12).trans k3
  refine ⟨_, rfl, a, C, dx, _, _, rfl, e3, TD.cl, TD.nD, look_d _ _ _, td, _, rfl, .inl (SqT.of (kA _ _ h3)), _, rfl, small (by rw [List.length_append]; show ds.length + 1 ≤ 1000; omega), fun tc ntc => ?_⟩
  have k4 := same_new ntc (.tup (ds ++ [.ref qe]))
  have e4 := k4 _ _ e3
  have et4 := upd_same (H := H3) (a := tc) (o := .tup (ds ++ [.ref qe]))
  generalize upd H3 tc (.tup (ds ++ [.ref qe])) = H4 at k4 e4 et4 ⊢
  refine ⟨_, rfl, a, C, dx, _, rfl, e4, TD.cl, TD.nD, (by show 3 < 1000; decide), ?_⟩
  rw [set_d]
  have bB5 : But a H4 (upd H4 a (.ins C dx (deskF (.ref tb) (.ref tc) (.bl bu)))) := fun b o hb e => by rw [upd_ne hb]; exact e
  have e5 := upd_same (H := H4) (a := a) (o := .ins C dx (deskF (.ref tb) (.ref tc) (.bl bu)))
  have k5 : KeepT H4 (upd H4 a (.ins C dx (deskF (.ref tb) (.ref tc) (.bl bu)))) := fun b xs e => bB5 b _ (ne_of e e4 (by intro z; cases z)) e
  generalize upd H4 a (.ins C dx (deskF (.ref tb) (.ref tc) (.bl bu))) = H5 at bB5 e5 k5 ⊢
  have kB : KeepT H2 H5 := k3.trans ((Tw.Same.keepT k4).trans k5)
  have kC : KeepT H H5 := (Tw.Same.keepT s12).trans kB
  refine q H5 ((But.of s12).trans (bB.trans ((But.of k4).trans bB5))) ⟨dx, tb, tc, vs ++ [u], v', ds ++ [.ref qe], e5, kB _ _ et2, k5 _ _ et4, .snoc (h4.keep kC) (h5.keep kC), b2.keep kB, .snoc (h6.keep kC) (kC _ _ he)⟩
theorem ok_called (F : Fun K "called" "Desk.called" s_Desk_called f fd) (TD : DeskC K mg C) (Dcf : MDf P w K mg base C 1 "check_free" ["self"] (spFree C)) (Dtake : MDf P w K mg base C 24 "take" ["self", "edit"] (spTake C)) (Dtold : MDf P w K mg base C 1 "told" ["self", "name"] (spTold C)) :
    FnOk P w K mg base CX0 25 f fd ["self", "edit"] (spCalled C) := by
  refine F.ok (k := 24) sc_Desk_called (fun vs H Q E h => ?_) (fun cdv A outer s H vs Q E hr h => ?_)
  · obtain ⟨a, q, ts, t, t', es, e, rfl, _⟩ := h
    rfl
  obtain ⟨a, qe, ts, t, t', es, e, rfl, dk, he, hd, h60, hts, hl, hz, hn, q⟩ := h
  refine ⟨_, (pss_cons (ps_expr (pe_meth0 (pv 0) TD.cl Dcf.at_ Dcf.ok (hr.mono (by omega)) Dcf.b .nil pass0))
    (pss_cons (ps_expr (pe_meth (pv 0) TD.cl Dtake.at_ Dtake.ok (hr.mono (by omega)) Dtake.b .nil pass0 (pa_cons (pv 1) pa_nil)))
    (pss_one (ps_ret (pe_meth (pv 0) TD.cl Dtold.at_ Dtold.ok (hr.mono (by omega)) Dtold.b .nil pass0 (pa_cons (pe_ix ix_tup (pv 1) pe_int (fun _ _ => rfl)) pa_nil)))))), ?_⟩
  obtain ⟨dx, ta, td, vs, u, ds, h1, _⟩ := id dk
  refine ⟨_, rfl, a, dx, _, rfl, h1, no_look _ _ _ (by decide +kernel) (by decide +kernel) (by decide +kernel), a, ts, t, es, rfl, dk, ?_⟩
  refine ⟨_, rfl, a, dx, _, rfl, h1, no_look _ _ _ (by decide +kernel) (by decide +kernel) (by decide +kernel), _, rfl, a, qe, ts, t, t', es, false, e, rfl, dk, he, hd, h60, hts, hl, hz, hn, fun H1 b1 d1 => ?_⟩
  have he1 : H1 qe = some (.tup e.vals) := b1.keepT dk _ _ he
  obtain ⟨dx1, ta1, td1, vs1, u1, ds1, g1, _⟩ := id d1
  refine ⟨_, rfl, a, dx1, _, rfl, g1, no_look _ _ _ (by decide +kernel) (by decide +kernel) (by decide +kernel), _, rfl, qe, _, 0, .str e.word, rfl, rfl, SqT.of he1, atI_nat (j := 0) rfl, a, _, _, t', _, false, rfl, d1, by rw [List.length_append]; show es.length + 1 ≤ 1000; omega, ?_⟩
  rw [List.length_append]
  exact q H1 b1 d1
theorem do_tail {a q : Addr} {H : Hp} {ts : List B} {t t' : B} {es : List Ed} {e : Ed} {Q : VK} (dk : Dk C H a ts t es false) (nq : H q = none) (hd : Does t e t') (h60 : es.length < 60) (hts : ts.length ≤ 100) (hl : t.lts) (hz : t.size ≤ 12) (hn : t ≠ .nil)
    (k : ∀ H', But a H H' → Dk C H' a (ts ++ [t]) t' (es ++ [e]) false → Q (.int ((es.length + 1 : Nat) : Int)) H') : spCalled C [.ref a, .ref q] (upd H q (.tup e.vals)) Q E0 := by
  have s := same_new nq (.tup e.vals)
  exact ⟨a, q, ts, t, t', es, e, rfl, dk.same s, upd_same, hd, h60, hts, hl, hz, hn, fun H' b d => k H' ((But.of s).trans b) d⟩
theorem ok_put (F : Fun K "put" "Desk.put" s_Desk_put f fd) (TD : DeskC K mg C) (Dcalled : MDf P w K mg base C 25 "called" ["self", "edit"] (spCalled C)) : FnOk P w K mg base CX0 26 f fd ["self", "path", "label"] (spDo C isPut) := by
  refine F.ok (k := 25) sc_Desk_put (fun vs H Q E h => ?_) (fun cdv A outer s H vs Q E hr h => ?_)
  · obtain ⟨a, ts, t, t', es, e, rfl, he, _⟩ := h
    cases e <;> first | rfl | exact he.elim
  obtain ⟨a, ts, t, t', es, e, rfl, he, dk, hd, h60, hts, hl, hz, hn, q⟩ := h
  obtain ⟨dx, ta, td, vs, u, ds, h1, _⟩ := id dk
  cases e with
  | put p c =>
    refine ⟨_, (pss_one (ps_ret (pe_meth (pv 0) TD.cl Dcalled.at_ Dcalled.ok (hr.mono (by omega)) Dcalled.b .nil pass0 (pa_cons (pe_tup (pa_cons pe_str (pa_cons (pv 1) (pa_cons (pv 2) pa_nil)))) pa_nil)))), ?_⟩
    exact ⟨_, rfl, a, dx, _, rfl, h1, no_look _ _ _ (by decide +kernel) (by decide +kernel) (by decide +kernel), _, rfl, _, rfl, (by show 3 ≤ sizeLine; decide), fun r nr => do_tail dk nr hd h60 hts hl hz hn q⟩
  | cut _ => exact he.elim
  | label _ _ => exact he.elim
  | turn _ => exact he.elim
theorem ok_cut (F : Fun K "cut" "Desk.cut" s_Desk_cut f fd) (TD : DeskC K mg C) (Dcalled : MDf P w K mg base C 25 "called" ["self", "edit"] (spCalled C)) : FnOk P w K mg base CX0 26 f fd ["self", "path"] (spDo C isCut) := by
  refine F.ok (k := 25) sc_Desk_cut (fun vs H Q E h => ?_) (fun cdv A outer s H vs Q E hr h => ?_)
  · obtain ⟨a, ts, t, t', es, e, rfl, he, _⟩ := h
    cases e <;> first | rfl | exact he.elim
  obtain ⟨a, ts, t, t', es, e, rfl, he, dk, hd, h60, hts, hl, hz, hn, q⟩ := h
  obtain ⟨dx, ta, td, vs, u, ds, h1, _⟩ := id dk
  cases e with
  | cut p =>
    refine ⟨_, (pss_one (ps_ret (pe_meth (pv 0) TD.cl Dcalled.at_ Dcalled.ok (hr.mono (by omega)) Dcalled.b .nil pass0 (pa_cons (pe_tup (pa_cons pe_str (pa_cons (pv 1) pa_nil))) pa_nil)))), ?_⟩
    exact ⟨_, rfl, a, dx, _, rfl, h1, no_look _ _ _ (by decide +kernel) (by decide +kernel) (by decide +kernel), _, rfl, (by show 2 ≤ sizeLine; decide), fun r nr => do_tail dk nr hd h60 hts hl hz hn q⟩
  | put _ _ => exact he.elim
  | label _ _ => exact he.elim
  | turn _ => exact he.elim
theorem ok_label (F : Fun K "label" "Desk.label" s_Desk_label f fd) (TD : DeskC K mg C) (Dcalled : MDf P w K mg base C 25 "called" ["self", "edit"] (spCalled C)) : FnOk P w K mg base CX0 26 f fd ["self", "path", "label"] (spDo C isLab) := by
  refine F.ok (k := 25) sc_Desk_label (fun vs H Q E h => ?_) (fun cdv A outer s H vs Q E hr h => ?_)
  · obtain ⟨a, ts, t, t', es, e, rfl, he, _⟩ := h
    cases e <;> first | rfl | exact he.elim
  obtain ⟨a, ts, t, t', es, e, rfl, he, dk, hd, h60, hts, hl, hz, hn, q⟩ := h
  obtain ⟨dx, ta, td, vs, u, ds, h1, _⟩ := id dk
  cases e with
  | label p c =>
    refine ⟨_, (pss_one (ps_ret (pe_meth (pv 0) TD.cl Dcalled.at_ Dcalled.ok (hr.mono (by omega)) Dcalled.b .nil pass0 (pa_cons (pe_tup (pa_cons pe_str (pa_cons (pv 1) (pa_cons (pv 2) pa_nil)))) pa_nil)))), ?_⟩
    exact ⟨_, rfl, a, dx, _, rfl, h1, no_look _ _ _ (by decide +kernel) (by decide +kernel) (by decide +kernel), _, rfl, _, rfl, (by show 3 ≤ sizeLine; decide), fun r nr => do_tail dk nr hd h60 hts hl hz hn q⟩
  | put _ _ => exact he.elim
  | cut _ => exact he.elim
  | turn _ => exact he.elim
theorem ok_turn (F : Fun K "turn" "Desk.turn" s_Desk_turn f fd) (TD : DeskC K mg C) (Dcalled : MDf P w K mg base C 25 "called" ["self", "edit"] (spCalled C)) : FnOk P w K mg base CX0 26 f fd ["self", "path"] (spDo C isTur) := by
  refine F.ok (k := 25) sc_Desk_turn (fun vs H Q E h => ?_) (fun cdv A outer s H vs Q E hr h => ?_)
  · obtain ⟨a, ts, t, t', es, e, rfl, he, _⟩ := h
    cases e <;> first | rfl | exact he.elim
  obtain ⟨a, ts, t, t', es, e, rfl, he, dk, hd, h60, hts, hl, hz, hn, q⟩ := h
  obtain ⟨dx, ta, td, vs, u, ds, h1, _⟩ := id dk
  cases e with
  | turn p =>
    refine ⟨_, (pss_one (ps_ret (pe_meth (pv 0) TD.cl Dcalled.at_ Dcalled.ok (hr.mono (by omega)) Dcalled.b .nil pass0 (pa_cons (pe_tup (pa_cons pe_str (pa_cons (pv 1) pa_nil))) pa_nil)))), ?_⟩
    exact ⟨_, rfl, a, dx, _, rfl, h1, no_look _ _ _ (by decide +kernel) (by decide +kernel) (by decide +kernel), _, rfl, (by show 2 ≤ sizeLine; decide), fun r nr => do_tail dk nr hd h60 hts hl hz hn q⟩
  | put _ _ => exact he.elim
  | cut _ => exact he.elim
  | label _ _ => exact he.elim
end
/-! ### what a desk shows -/
theorem dn12 (n : Nat) (h : n ≤ 60) : (Str.ofString (toString (n : Int))).length ≤ 31 ∧ (n : Int).natAbs.log2 < 1920 := by
  have := small_shown n (by omega)
  exact ⟨Nat.le_trans this.1 (by decide), this.2⟩
section
variable {P : Program} {w : World} {K : PySem.W.Frag} {mg : Str → Option Value} {base : Heap} {f : Addr} {fd : FuncData} {C : Addr}
theorem ok_treeM {k : Nat} (F : Fun K "tree" "Desk.tree" s_Desk_tree f fd) (TD : DeskC K mg C) : FnOk P w K mg base CX0 (k + 1) f fd ["self", "version"] (spTreeM C) := by
  refine F.ok sc_Desk_tree (fun vs H Q E h => ?_) (fun cdv A outer s H vs Q E hr h => ?_)
  · obtain ⟨a, ts, t, es, bu, rfl, _⟩ := h
    rfl
  obtain ⟨a, ts, t, es, bu, rfl, ⟨dx, ta, td, vs, v, ds, h1, h2, h3, h4, h5, h6⟩, q⟩ := h
  refine ⟨_, pss_cons (ps_if (pt_cmpR op_isN (pv 1) pe_non (nomark _)) (pss_one (ps_ret (pe_ix ix_tup (pe_fld (pv 0) rfl) (pe_un un_neg pe_int) (fun _ _ => rfl)))) pss_nil) pss_never, ?_⟩
  refine ⟨_, rfl, rfl, _, rfl, iteT ?_⟩
  refine ⟨_, rfl, a, C, dx, _, _, rfl, h1, TD.cl, TD.nT, look_t _ _ _, ?_⟩
  exact ⟨_, rfl, ta, _, _, v, rfl, rfl, SqT.of h2, atI_last _ _, q v h5⟩
theorem ok_editsM {k : Nat} (F : Fun K "edits" "Desk.edits" s_Desk_edits f fd) (TD : DeskC K mg C) : FnOk P w K mg base CX0 (k + 1) f fd ["self"] (spEditsM C) := by
  refine F.ok sc_Desk_edits (fun vs H Q E h => ?_) (fun cdv A outer s H vs Q E hr h => ?_)
  · obtain ⟨a, ts, t, es, bu, rfl, _⟩ := h
    rfl
  obtain ⟨a, ts, t, es, bu, rfl, ⟨dx, ta, td, vs, v, ds, h1, h2, h3, h4, h5, h6⟩, q⟩ := h
  refine ⟨_, (pss_one (ps_ret (pe_fld (pv 0) rfl))), ?_⟩
  exact ⟨_, rfl, a, C, dx, _, _, rfl, h1, TD.cl, TD.nD, look_d _ _ _, q td ds h3 h6⟩
theorem ok_ver {k : Nat} (F : Fun K "version" "Desk.version" s_Desk_version f fd) (TD : DeskC K mg C) (M : Mgs mg) : FnOk P w K mg base CX0 (k + 1) f fd ["self"] (spVer C) := by
  refine F.ok sc_Desk_version (fun vs H Q E h => ?_) (fun cdv A outer s H vs Q E hr h => ?_)
  · obtain ⟨a, ts, t, es, bu, rfl, _⟩ := h
    rfl
  obtain ⟨a, ts, t, es, bu, rfl, ⟨dx, ta, td, vs, u, ds, h1, h2, h3, h4, h5, h6⟩, hz, q⟩ := h
  refine ⟨_, (pss_one (ps_ret (pe_callB call_len_seq rfl M.len PySem.boot_len (pa_cons (pe_fld (pv 0) rfl) pa_nil)))), ?_⟩
  refine ⟨_, rfl, a, C, dx, _, _, rfl, h1, TD.cl, TD.nD, look_d _ _ _, td, ds, rfl, .inr (SqT.of h3), ?_⟩
  rw [h6.len]
  exact q
theorem ok_len {k : Nat} (F : Fun K "__len__" "Desk.__len__" s_Desk___len__ f fd) (TD : DeskC K mg C) (M : Mgs mg) : FnOk P w K mg base CX0 (k + 1) f fd ["self"] (spVer C) := by
  refine F.ok sc_Desk___len__ (fun vs H Q E h => ?_) (fun cdv A outer s H vs Q E hr h => ?_)
  · obtain ⟨a, ts, t, es, bu, rfl, _⟩ := h
    rfl
  obtain ⟨a, ts, t, es, bu, rfl, ⟨dx, ta, td, vs, u, ds, h1, h2, h3, h4, h5, h6⟩, hz, q⟩ := h
  refine ⟨_, (pss_one (ps_ret (pe_callB call_len_seq rfl M.len PySem.boot_len (pa_cons (pe_fld (pv 0) rfl) pa_nil)))), ?_⟩
  refine ⟨_, rfl, a, C, dx, _, _, rfl, h1, TD.cl, TD.nD, look_d _ _ _, td, ds, rfl, .inr (SqT.of h3), ?_⟩
  rw [h6.len]
  exact q
theorem ok_sizeP (F : Fun K "size" "Desk.size" s_Desk_size f fd) (TD : DeskC K mg C) (Dsize_of : Df P w K mg base 20 "size_of" ["tree"] (spSz 20)) : FnOk P w K mg base CX0 21 f fd ["self"] (spSizeP C) := by
  refine F.ok (k := 20) sc_Desk_size (fun vs H Q E h => ?_) (fun cdv A outer s H vs Q E hr h => ?_)
  · obtain ⟨a, ts, t, es, bu, rfl, _⟩ := h
    rfl
  obtain ⟨a, ts, t, es, bu, rfl, ⟨dx, ta, td, vs, u, ds, h1, h2, h3, h4, h5, h6⟩, hz, q⟩ := h
  refine ⟨_, (pss_one (ps_ret (pe_call Dsize_of.ok (hr.mono (by omega)) rfl Dsize_of.g Dsize_of.kp Dsize_of.b .nil pass0 (pa_cons (pe_ix ix_tup (pe_fld (pv 0) rfl) (pe_un un_neg pe_int) (fun _ _ => rfl)) pa_nil)))), ?_⟩
  exact ⟨_, rfl, a, C, dx, _, _, rfl, h1, TD.cl, TD.nT, look_t _ _ _, _, rfl, ta, _, _, u, rfl, rfl, SqT.of h2, atI_last _ _, u, t, rfl, h5, by omega, q⟩
theorem ok_first (F : Fun K "first" "Desk.first" s_Desk_first f fd) (TD : DeskC K mg C) (Dwalk : Df P w K mg base 62 "walk" ["tree", "kind"] spWalk) : FnOk P w K mg base CX0 63 f fd ["self"] (spWalkP C .first) := by
  refine F.ok (k := 62) sc_Desk_first (fun vs H Q E h => ?_) (fun cdv A outer s H vs Q E hr h => ?_)
  · obtain ⟨a, ts, t, es, bu, rfl, _⟩ := h
    rfl
  obtain ⟨a, ts, t, es, bu, rfl, ⟨dx, ta, td, vs, u, ds, h1, h2, h3, h4, h5, h6⟩, hz, q⟩ := h
  refine ⟨_, (pss_one (ps_ret (pe_call Dwalk.ok (hr.mono (by omega)) rfl Dwalk.g Dwalk.kp Dwalk.b .nil pass0 (pa_cons (pe_ix ix_tup (pe_fld (pv 0) rfl) (pe_un un_neg pe_int) (fun _ _ => rfl)) (pa_cons pe_str pa_nil))))), ?_⟩
  exact ⟨_, rfl, a, C, dx, _, _, rfl, h1, TD.cl, TD.nT, look_t _ _ _, _, rfl, ta, _, _, u, rfl, rfl, SqT.of h2, atI_last _ _, u, t, .first, rfl, h5, by omega, q⟩
theorem ok_betw (F : Fun K "between" "Desk.between" s_Desk_between f fd) (TD : DeskC K mg C) (Dwalk : Df P w K mg base 62 "walk" ["tree", "kind"] spWalk) : FnOk P w K mg base CX0 63 f fd ["self"] (spWalkP C .between) := by
  refine F.ok (k := 62) sc_Desk_between (fun vs H Q E h => ?_) (fun cdv A outer s H vs Q E hr h => ?_)
  · obtain ⟨a, ts, t, es, bu, rfl, _⟩ := h
    rfl
  obtain ⟨a, ts, t, es, bu, rfl, ⟨dx, ta, td, vs, u, ds, h1, h2, h3, h4, h5, h6⟩, hz, q⟩ := h
  refine ⟨_, (pss_one (ps_ret (pe_call Dwalk.ok (hr.mono (by omega)) rfl Dwalk.g Dwalk.kp Dwalk.b .nil pass0 (pa_cons (pe_ix ix_tup (pe_fld (pv 0) rfl) (pe_un un_neg pe_int) (fun _ _ => rfl)) (pa_cons pe_str pa_nil))))), ?_⟩
  exact ⟨_, rfl, a, C, dx, _, _, rfl, h1, TD.cl, TD.nT, look_t _ _ _, _, rfl, ta, _, _, u, rfl, rfl, SqT.of h2, atI_last _ _, u, t, .between, rfl, h5, by omega, q⟩
theorem ok_last (F : Fun K "last" "Desk.last" s_Desk_last f fd) (TD : DeskC K mg C) (Dwalk : Df P w K mg base 62 "walk" ["tree", "kind"] spWalk) : FnOk P w K mg base CX0 63 f fd ["self"] (spWalkP C .last) := by
  refine F.ok (k := 62) sc_Desk_last (fun vs H Q E h => ?_) (fun cdv A outer s H vs Q E hr h => ?_)
  · obtain ⟨a, ts, t, es, bu, rfl, _⟩ := h
    rfl
  obtain ⟨a, ts, t, es, bu, rfl, ⟨dx, ta, td, vs, u, ds, h1, h2, h3, h4, h5, h6⟩, hz, q⟩ := h
  refine ⟨_, (pss_one (ps_ret (pe_call Dwalk.ok (hr.mono (by omega)) rfl Dwalk.g Dwalk.kp Dwalk.b .nil pass0 (pa_cons (pe_ix ix_tup (pe_fld (pv 0) rfl) (pe_un un_neg pe_int) (fun _ _ => rfl)) (pa_cons pe_str pa_nil))))), ?_⟩
  exact ⟨_, rfl, a, C, dx, _, _, rfl, h1, TD.cl, TD.nT, look_t _ _ _, _, rfl, ta, _, _, u, rfl, rfl, SqT.of h2, atI_last _ _, u, t, .last, rfl, h5, by omega, q⟩
theorem ok_str (F : Fun K "__str__" "Desk.__str__" s_Desk___str__ f fd) (TD : DeskC K mg C) (M : Mgs mg) (Dsize_of : Df P w K mg base 20 "size_of" ["tree"] (spSz 20)) : FnOk P w K mg base CX0 21 f fd ["self"] (spStrD C) := by
  refine F.ok (k := 20) sc_Desk___str__ (fun vs H Q E h => ?_) (fun cdv A outer s H vs Q E hr h => ?_)
  · obtain ⟨a, ts, t, es, bu, rfl, _⟩ := h
    rfl
  obtain ⟨a, ts, t, es, bu, rfl, ⟨dx, ta, td, vs, u, ds, h1, h2, h3, h4, h5, h6⟩, hz, he, q⟩ := h
  refine ⟨_, (pss_one (ps_ret (pe_joined (PJ.cons (pe_fmt (pe_call Dsize_of.ok (hr.mono (by omega)) rfl Dsize_of.g Dsize_of.kp Dsize_of.b .nil pass0 (pa_cons (pe_ix ix_tup (pe_fld (pv 0) rfl) (pe_un un_neg pe_int) (fun _ _ => rfl)) pa_nil))) (PJ.cons pe_str (PJ.cons (pe_fmt (pe_callB call_len_seq rfl M.len PySem.boot_len (pa_cons (pe_fld (pv 0) rfl) pa_nil))) (PJ.cons pe_str PJ.nil))))))), ?_⟩
  obtain ⟨n1, n2⟩ := dn12 t.size (by omega)
  obtain ⟨m1, m2⟩ := dn12 es.length (by omega)
  have e0 : ∀ x : Str, Str.empty ++ x = x := fun x => by
    show (⟨#[] ++ x.cps⟩ : Str) = x
    simp
  have l1 : (Str.ofString " nodes, ").length = 8 := by decide +kernel
  have l2 : (Str.ofString " edits").length = 6 := by decide +kernel
  refine ⟨_, rfl, a, C, dx, _, _, rfl, h1, TD.cl, TD.nT, look_t _ _ _, _, rfl, ta, _, _, u, rfl, rfl, SqT.of h2, atI_last _ _, u, t, rfl, h5, by omega, .inr ⟨_, rfl, n2, _, rfl, ?_, ?_⟩⟩
  · rw [e0]
    exact small (by omega)
  rw [e0]
  refine ⟨_, rfl, by rw [strLen_append, l1]; exact small (by omega), ?_⟩
  refine ⟨_, rfl, a, C, dx, _, _, rfl, h1, TD.cl, TD.nD, look_d _ _ _, td, ds, rfl, .inr (SqT.of h3), ?_⟩
  rw [h6.len]
  refine .inr ⟨_, rfl, m2, _, rfl, by rw [strLen_append, strLen_append, l1]; exact small (by omega), ?_⟩
  refine ⟨_, rfl, by rw [strLen_append, strLen_append, strLen_append, l1, l2]; exact small (by omega), ?_⟩
  exact q
end
/-! ### the stream -/
def Strm (H : Hp) (s : Addr) (n : Nat) : Prop := ∃ r c : Int, H s = some (.lst [.int r, .int c, .int (n : Int)]) ∧ 0 ≤ c ∧ c < 2305843009213693951
theorem Strm.same {H H' : Hp} {s : Addr} {n : Nat} (k : Same H H') (h : Strm H s n) : Strm H' s n := by
  obtain ⟨r, c, e, h1⟩ := h
  exact ⟨r, c, k _ _ e, h1⟩
theorem Strm.but {H H' : Hp} {s a : Addr} {n : Nat} (k : But a H H') (ne : s ≠ a) (h : Strm H s n) : Strm H' s n := by
  obtain ⟨r, c, e, h1⟩ := h
  exact ⟨r, c, k _ _ ne e, h1⟩
theorem Strm.lst {H : Hp} {s : Addr} {n : Nat} (h : Strm H s n) : ∃ xs, H s = some (.lst xs) := by
  obtain ⟨r, c, e, _⟩ := h
  exact ⟨_, e⟩
theorem But.keepL {a : Addr} {H H' : Hp} {xs : List V} (e : H a = some (.lst xs)) (x : But a H H') : KeepT H H' := fun b ys h => x b _ (ne_of h e (by intro z; cases z)) h
theorem modP (z p : Int) (h0 : 0 < p) (h1 : p < 2 ^ 64) : -(2 ^ 64) < z % p ∧ z % p < 2 ^ 64 := by
  have a := Int.emod_nonneg z (show p ≠ 0 by omega)
  have b := Int.emod_lt_of_pos z h0
  omega
theorem seq_cut {t u : TS} {D : Ends} {σ : L2.St} {H : Hp} (I : L2.St → Hp → Prop) (h2 : ∀ σ' H', I σ' H' → u D σ' H') (h1 : (∀ σ' H', I σ' H' → u D σ' H') → t { D with nx := u D } σ H) : tSeq t u D σ H := h1 h2
theorem seq_cutN {t u : TS} {D : Ends} {r1 : VK} {r2 r3 : L2.St → Hp → Prop} {σ : L2.St} {H : Hp} (I : L2.St → Hp → Prop) (h2 : ∀ σ' H', I σ' H' → u D σ' H') (h1 : (∀ σ' H', I σ' H' → u D σ' H') → t { D with nx := u D } σ H) : (Ends.mk (tSeq t u D) r1 r2 r3).nx σ H := h1 h2
def alph : List Nat := (Str.ofString "abcdefghijklmnopqrstuvwxyz").cps.toList
theorem alph_all : ∀ k : Fin 26, (alph[k.val]?).any isLow = true := by decide +kernel
theorem alph_at {j : Nat} (h : j < 26) : ∃ c, alph[j]? = some c ∧ isLow c = true := by
  have a := alph_all ⟨j, h⟩
  cases e : alph[j]? with
  | none => rw [show (⟨j, h⟩ : Fin 26).val = j from rfl, e] at a; cases a
  | some c => rw [show (⟨j, h⟩ : Fin 26).val = j from rfl, e] at a; exact ⟨c, rfl, a⟩
def StI (a : Addr) (i : Nat) (H : Hp) (σ : L2.St) (H' : Hp) : Prop := ∃ x : Int, σ = [some (.ref a), some (.int (i : Int)), some (.int x), none] ∧ H' = H
def spStream (K : PySem.W.Frag) : Sp := fun vs H Q _ => ∃ (a : Addr) (ns : List Int) (i : Nat), vs = [.ref a, .int (i : Int)] ∧ SqL K H a (ns.map V.int) ∧ i ≤ 1000 ∧ ∀ (s : Addr) (H' : Hp), H s = none → Same H H' → Strm H' s 0 → Q (.ref s) H'
def spTake1 : Sp := fun vs H Q _ => ∃ (s : Addr) (n : Nat) (m : Int), vs = [.ref s, .int m] ∧ Strm H s n ∧ n ≤ 1000000 ∧ 0 < m ∧ m ≤ 1000 ∧ ∀ (i : Nat) (n' : Nat) (H' : Hp), (i : Int) < m → Strm H' s n' → n' ≤ n + 1 → But s H H' → Q (.int (i : Int)) H'
def spLetter1 : Sp := fun vs H Q _ => ∃ (s : Addr) (n : Nat), vs = [.ref s] ∧ Strm H s n ∧ n + 2 ≤ 1000000 ∧ ∀ (c : Nat) (n' : Nat) (H' : Hp), isLow c = true → Strm H' s n' → n' ≤ n + 2 → But s H H' → Q (.str (ch c)) H'
section
variable {P : Program} {w : World} {K : PySem.W.Frag} {mg : Str → Option Value} {base : Heap} {f : Addr} {fd : FuncData}
theorem ok_stream {k : Nat} (F : Fun K "_law_stream" "_law_stream" s__law_stream f fd) (M : Mgs mg) : FnOk P w K mg base CX0 (k + 1) f fd ["_law_script", "_law_turn"] (spStream K) := by
  refine F.ok sc__law_stream (fun vs H Q E h => ?_) (fun cdv A outer s H vs Q E hr h => ?_)
  · obtain ⟨a, ns, i, rfl, _⟩ := h
    rfl
  obtain ⟨a, ns, i, rfl, hS, hi, q⟩ := h
  refine ⟨_, (pss_cons (ps_set (i := 2) sc__law_stream.nd rfl (.inl rfl) pe_int)
    (pss_cons (ps_if (pt_cmpR op_gt (pe_callB call_len_seq rfl M.len PySem.boot_len (pa_cons (pv 0) pa_nil)) pe_int (nomark _))
      (pss_one (ps_set (i := 2) sc__law_stream.nd rfl (.inl rfl) (pe_ix ix_list (pv 0) (pe_op op_mod (pv 1) (pe_callB call_len_seq rfl M.len PySem.boot_len (pa_cons (pv 0) pa_nil))) (fun _ _ => rfl)))) pss_nil)
    (pss_cons (ps_if (pt_cmpR op_lt (pv 2) pe_int (nomark _))
      (pss_one (ps_set (i := 2) sc__law_stream.nd rfl (.inl rfl) (pe_op op_sub pe_int (pe_op op_mul pe_int (pv 2))))) pss_nil)
    (pss_cons (ps_set (i := 3) sc__law_stream.nd rfl (.inl rfl) pe_int)
    (pss_cons (ps_if (pt_cmpR op_ge (pv 2) (pe_op op_pow pe_int pe_int) (nomark _))
      (pss_one (ps_set (i := 3) sc__law_stream.nd rfl (.inl rfl) (pv 2))) pss_nil)
    (pss_one (ps_ret (pe_lst (pa_cons (pv 3) (pa_cons (pe_op op_mod (pe_op op_add (pe_op op_add (pe_op op_mod (pv 2) pe_int) (pe_op op_mul (pe_op op_mul pe_int (pv 1)) (pv 1))) pe_int) pe_int) (pa_cons pe_int pa_nil))))))))))), ?_⟩
  refine seq_cut (StI a i H) (fun σ H6 hp => ?_) (fun rest => rest _ _ ⟨_, rfl, rfl⟩)
  obtain ⟨x, rfl, rfl⟩ := hp
  refine seq_cut (StI a i H6) (fun σ H6 hp => ?_) (fun rest => ?_)
  rotate_left
  · refine ⟨_, rfl, a, _, rfl, .inl hS, _, _, rfl, rfl, _, rfl, ite2 (fun hl => ?_) (fun hl => rest _ _ ⟨_, rfl, rfl⟩)⟩
    have hl' : 0 < ns.length := by
      have hl : (0 : Int) < ((ns.map V.int).length : Int) := of_decide_eq_true hl
      rw [List.length_map] at hl
      omega
    refine ⟨_, rfl, _, rfl, _, rfl, a, _, rfl, .inl hS, _, _, rfl, rfl, (by rw [List.length_map]; omega), ?_⟩
    have h0 := Int.emod_nonneg (i : Int) (show ((ns.map V.int).length : Int) ≠ 0 by rw [List.length_map]; omega)
    have h1 := Int.emod_lt_of_pos (i : Int) (show 0 < ((ns.map V.int).length : Int) by rw [List.length_map]; omega)
    obtain ⟨j, hj⟩ := Int.eq_ofNat_of_zero_le h0
    rw [hj] at h1
    have hj1 : j < ns.length := by rw [List.length_map] at h1; omega
    refine ⟨a, _, _, V.int (ns[j]'hj1), rfl, (show V.int ((i : Int) % _) = V.int (j : Int) by rw [hj]), hS, ?_, ?_⟩
    · refine atI_nat (j := j) ?_
      rw [List.getElem?_map, List.getElem?_eq_getElem hj1]
      rfl
    · exact rest _ _ ⟨_, rfl, rfl⟩
  obtain ⟨x, rfl, rfl⟩ := hp
  refine seq_cut (StI a i H6) (fun σ H7 hp => ?_) (fun rest => ?_)
  rotate_left
  · refine ⟨_, rfl, _, _, rfl, rfl, _, rfl, ite2 (fun hl => ?_) (fun hl => rest _ _ ⟨_, rfl, rfl⟩)⟩
    refine ⟨_, rfl, _, _, rfl, rfl, .inl (by decide), _, _, rfl, rfl, rest _ _ ⟨_, rfl, rfl⟩⟩
  obtain ⟨y, rfl, rfl⟩ := hp
  have fin : ∀ r : Int, ∀ (s : Addr), H7 s = none → Q (.ref s) (upd H7 s (.lst [.int r, .int ((y % 2305843009213693951 + 7919 * (i : Int) * (i : Int) + 11) % 2305843009213693951), .int 0])) := fun r s n => q s _ n (same_new n _) ⟨_, _, upd_same, Int.emod_nonneg _ (by decide), Int.emod_lt_of_pos _ (by decide)⟩
  refine ⟨_, rfl, _, _, rfl, rfl, ⟨by decide, by decide, by decide⟩, _, _, rfl, rfl, _, rfl, ite2 (fun hl => ?_) (fun hl => ?_)⟩
  · refine ⟨_, rfl, _, rfl, _, rfl, _, _, rfl, rfl, (show (0 : Int) < 2305843009213693951 by decide), _, rfl, _, _, rfl, rfl, .inl (by decide), _, rfl, _, _, rfl, rfl, .inr (by constructor <;> omega), _, _, rfl, rfl, _, _, rfl, rfl, _, _, rfl, rfl, (show (0 : Int) < 2305843009213693951 by decide), (show (3 : Nat) ≤ sizeLine by decide), ?_⟩
    exact fun s n => fin _ s n
  · refine ⟨_, rfl, _, rfl, _, _, rfl, rfl, (show (0 : Int) < 2305843009213693951 by decide), _, rfl, _, _, rfl, rfl, .inl (by decide), _, rfl, _, _, rfl, rfl, .inr (by constructor <;> omega), _, _, rfl, rfl, _, _, rfl, rfl, _, _, rfl, rfl, (show (0 : Int) < 2305843009213693951 by decide), (show (3 : Nat) ≤ sizeLine by decide), ?_⟩
    exact fun s n => fin _ s n
theorem ok_take1 {k : Nat} (F : Fun K "_law_take" "_law_take" s__law_take f fd) : FnOk P w K mg base CX0 (k + 1) f fd ["_law_stream_here", "_law_many"] spTake1 := by
  refine F.ok sc__law_take (fun vs H Q E h => ?_) (fun cdv A outer s H vs Q E hr h => ?_)
  · obtain ⟨sa, n, m, rfl, _⟩ := h
    rfl
  obtain ⟨sa, n, m, rfl, ⟨r, c, e1, c0, c1⟩, hn, m0, m1, q⟩ := h
  refine ⟨_, (pss_cons (ps_if (pt_cmpR op_gt (pe_ix ix_list (pv 0) pe_int (fun _ _ => rfl)) pe_int (nomark _))
      (pss_cons (ps_set (i := 2) sc__law_take.nd rfl (.inl rfl) (pe_op op_mod (pe_ix ix_list (pv 0) pe_int (fun _ _ => rfl)) (pv 1)))
    (pss_cons (ps_asg (pe_op op_fdiv (pe_ix ix_list (pv 0) pe_int (fun _ _ => rfl)) (pv 1)) (pg_sub (pv 0) pe_int set_list))
    (pss_one (ps_ret (pv 2))))) pss_nil)
    (pss_cons (ps_asg (pe_op op_add (pe_ix ix_list (pv 0) pe_int (fun _ _ => rfl)) pe_int) (pg_sub (pv 0) pe_int set_list))
    (pss_cons (ps_par (i := 3) (j := 4) (by rfl) sc__law_take.nd rfl rfl (by decide) rfl rfl (pa_cons (pe_op op_mod (pe_ix ix_list (pv 0) pe_int (fun _ _ => rfl)) pe_int) (pa_cons (pe_op op_fdivW (pe_ix ix_list (pv 0) pe_int (fun _ _ => rfl)) pe_int) pa_nil)) (by rfl))
    (pss_cons (ps_set (i := 5) sc__law_take.nd rfl (.inl rfl) (pe_ix ix_list (pv 0) pe_int (fun _ _ => rfl)))
    (pss_cons (ps_set (i := 6) sc__law_take.nd rfl (.inl rfl) (pe_op op_add (pe_op op_mul (pv 3) (pe_op op_add pe_int (pe_op op_mul pe_int (pv 5)))) (pe_op op_mul (pv 4) pe_int)))
    (pss_cons (ps_set (i := 6) sc__law_take.nd rfl (.inl rfl) (pe_op op_mod (pe_op op_add (pv 6) (pe_op op_mul (pe_op op_mul (pv 5) (pv 5)) pe_int)) pe_int))
    (pss_cons (ps_set (i := 6) sc__law_take.nd rfl (.inl rfl) (pe_op op_mod (pe_op op_mul (pe_op op_mod (pe_op op_mul (pv 6) (pv 6)) pe_int) (pe_op op_add (pv 6) pe_int)) pe_int))
    (pss_one (ps_ret (pe_op op_mod (pe_op op_fdiv (pe_op op_add (pe_op op_mul (pv 6) pe_int) (pe_op op_mod (pe_op op_mul (pv 6) (pv 6)) pe_int)) pe_int) (pv 1))))))))))), ?_⟩
  refine ⟨_, rfl, sa, _, 0, _, rfl, rfl, SqL.of e1, atI_nat (j := 0) rfl, _, _, rfl, rfl, _, rfl, ite2 (fun hpos => ?_) (fun hpos => ?_)⟩
  · refine ⟨_, rfl, sa, _, 0, _, rfl, rfl, SqL.of e1, atI_nat (j := 0) rfl, _, rfl, _, _, rfl, rfl, m0, ?_⟩
    refine ⟨_, rfl, sa, _, 0, _, rfl, rfl, SqL.of e1, atI_nat (j := 0) rfl, _, rfl, _, _, rfl, rfl, ⟨m0, by omega⟩, ?_⟩
    refine ⟨_, rfl, sa, _, _, 0, rfl, rfl, e1, rfl, ?_⟩
    have h0 := Int.emod_nonneg r (show m ≠ 0 by omega)
    have h1 := Int.emod_lt_of_pos r m0
    obtain ⟨j, hj⟩ := Int.eq_ofNat_of_zero_le h0
    rw [hj] at h1
    have e : V.int (r % m) = V.int (j : Int) := by rw [hj]
    refine ⟨_, rfl, ?_⟩
    exact (congrArg (fun z => Q z (upd H sa (.lst [.int (r / m), .int c, .int (n : Int)]))) e).mpr <| q j n _ h1 ⟨r / m, c, upd_same, c0, c1⟩ (by omega) fun b o hb e => by rw [upd_ne hb]; exact e
  · refine ⟨_, rfl, sa, _, 2, _, rfl, rfl, SqL.of e1, atI_nat (j := 2) rfl, _, _, rfl, rfl, _, rfl, sa, _, _, 2, rfl, rfl, e1, rfl, ?_⟩
    have fin : ∀ z : Int, Q (.int (z % m)) (upd H sa (.lst [.int r, .int c, .int ((n : Int) + 1)])) := fun z => by
      have h0 := Int.emod_nonneg z (show m ≠ 0 by omega)
      have h1 := Int.emod_lt_of_pos z m0
      obtain ⟨j, hj⟩ := Int.eq_ofNat_of_zero_le h0
      rw [hj] at h1 ⊢
      exact q j (n + 1) _ h1 ⟨r, c, by rw [Int.natCast_add]; exact upd_same, c0, c1⟩ (by omega) fun b o hb e => by rw [upd_ne hb]; exact e
    have x1 : (upd H sa (.lst [.int r, .int c, .int ((n : Int) + 1)])) sa = some (.lst [.int r, .int c, .int ((n : Int) + 1)]) := upd_same
    have b1 : But sa H (upd H sa (.lst [.int r, .int c, .int ((n : Int) + 1)])) := fun b o hb e => by rw [upd_ne hb]; exact e
    have y1 : atI [V.int r, .int c, .int ((n : Int) + 1)] 1 = some (.int c) := atI_nat (j := 1) rfl
    have y2 : atI [V.int r, .int c, .int ((n : Int) + 1)] 2 = some (.int ((n : Int) + 1)) := atI_nat (j := 2) rfl
    refine ⟨_, rfl, sa, _, _, _, rfl, rfl, SqL.of x1, y1, _, _, rfl, rfl, (show (0 : Int) < 2147483647 by decide), _, rfl, sa, _, _, _, rfl, rfl, SqL.of x1, y1, _, _, rfl, rfl, wide_div (b := 40) (by decide) (by decide) (by decide) (by decide), _, _, rfl, ?_⟩
    refine ⟨_, rfl, sa, _, _, _, rfl, rfl, SqL.of x1, y2, ?_⟩
    refine ⟨_, rfl, _, rfl, _, _, rfl, rfl, .inl (by decide), _, _, rfl, rfl, _, _, rfl, rfl, .inl (modP _ _ (by decide) (by decide)), _, rfl, _, _, rfl, rfl, .inr (by decide), _, _, rfl, rfl, ?_⟩
    refine ⟨_, rfl, _, rfl, _, rfl, _, _, rfl, rfl, .inl (by constructor <;> omega), _, _, rfl, rfl, .inr (by decide), _, _, rfl, rfl, _, _, rfl, rfl, (show (0 : Int) < 2147483647 by decide), ?_⟩
    refine ⟨_, rfl, _, rfl, _, _, rfl, rfl, .inl (modP _ _ (by decide) (by decide)), _, _, rfl, rfl, (show (0 : Int) < 2147483647 by decide), _, rfl, _, _, rfl, rfl, _, _, rfl, rfl, .inl (modP _ _ (by decide) (by decide)), _, _, rfl, rfl, (show (0 : Int) < 2147483647 by decide), ?_⟩
    refine ⟨_, rfl, _, _, rfl, rfl, .inr (by decide), _, rfl, _, rfl, _, _, rfl, rfl, .inl (modP _ _ (by decide) (by decide)), _, _, rfl, rfl, (show (0 : Int) < 1073741789 by decide), _, _, rfl, rfl, _, _, rfl, rfl, (show (0 : Int) < 8 ∧ (8 : Int) < 1073741824 by decide), _, rfl, _, _, rfl, rfl, m0, ?_⟩
    exact fin _
theorem ok_letter1 (F : Fun K "_law_letter" "_law_letter" s__law_letter f fd) (D_law_take : Df P w K mg base 1 "_law_take" ["_law_stream_here", "_law_many"] spTake1) : FnOk P w K mg base CX0 2 f fd ["_law_stream_here"] spLetter1 := by
  refine F.ok (k := 1) sc__law_letter (fun vs H Q E h => ?_) (fun cdv A outer s H vs Q E hr h => ?_)
  · obtain ⟨sa, n, rfl, _⟩ := h
    rfl
  obtain ⟨sa, n, rfl, h, hn, q⟩ := h
  refine ⟨_, (pss_one (ps_ret (pe_ix ix_str pe_str (pe_call D_law_take.ok (hr.mono (by omega)) rfl D_law_take.g D_law_take.kp D_law_take.b .nil pass0 (pa_cons (pv 0) (pa_cons (pe_ix ix_list (pe_lst (pa_cons pe_int (pa_cons pe_int pa_nil))) (pe_call D_law_take.ok (hr.mono (by omega)) rfl D_law_take.g D_law_take.kp D_law_take.b .nil pass0 (pa_cons (pv 0) (pa_cons pe_int pa_nil))) (fun _ _ => rfl)) pa_nil))) (fun _ _ => rfl)))), ?_⟩
  refine ⟨_, rfl, (show (2 : Nat) ≤ sizeLine by decide), fun la na => ⟨_, rfl, ?_⟩⟩
  have h1 : Strm (upd H la (.lst [.int 26, .int 3])) sa n := h.same (same_new na _)
  refine ⟨sa, n, 2, rfl, h1, by omega, by decide, by decide, fun i n1 H1 l1 t1 c1 b1 => ?_⟩
  have e1 : H1 la = some (.lst [.int 26, .int 3]) := b1 _ _ (fun z => by obtain ⟨xs, e⟩ := h.lst; rw [← z, na] at e; cases e) upd_same
  have hv : ∃ m : Int, atI [V.int 26, .int 3] (i : Int) = some (.int m) ∧ 0 < m ∧ m ≤ 26 := by
    match i, l1 with
    | 0, _ => exact ⟨26, rfl, by decide, by decide⟩
    | 1, _ => exact ⟨3, rfl, by decide, by decide⟩
  obtain ⟨m, hm, m0, m1⟩ := hv
  refine ⟨la, _, _, _, rfl, rfl, SqL.of e1, hm, ?_⟩
  refine ⟨sa, n1, m, rfl, t1, by omega, m0, by omega, fun j n2 H2 l2 t2 c2 b2 => ?_⟩
  obtain ⟨c, hc, hl⟩ := alph_at (j := j) (by omega)
  refine ⟨_, _, c, rfl, rfl, (by decide +kernel), atI_nat hc, q c n2 _ hl t2 (by omega) fun b o hb e => b2 b o hb (b1 b o hb (same_new na _ b o e))⟩
end
/-! ### the law's own walks through a tree -/
def B.nds : B → List Bool → List (List Bool)
  | .nil, _ => []
  | .node l _ r, q => q :: (l.nds (q ++ [false]) ++ r.nds (q ++ [true]))
def B.ops : B → List Bool → List (List Bool)
  | .nil, q => [q]
  | .node l _ r, q => l.ops (q ++ [false]) ++ r.ops (q ++ [true])
theorem B.nds_len : ∀ (t : B) (q : List Bool), (t.nds q).length = t.size
  | .nil, _ => rfl
  | .node l x r, q => by
    have h1 := l.nds_len (q ++ [false])
    have h2 := r.nds_len (q ++ [true])
    show (q :: (l.nds (q ++ [false]) ++ r.nds (q ++ [true]))).length = l.size + 1 + r.size
    rw [List.length_cons, List.length_append]
    omega
theorem B.ops_len : ∀ (t : B) (q : List Bool), (t.ops q).length = t.size + 1
  | .nil, _ => rfl
  | .node l x r, q => by
    have h1 := l.ops_len (q ++ [false])
    have h2 := r.ops_len (q ++ [true])
    show (l.ops (q ++ [false]) ++ r.ops (q ++ [true])).length = l.size + 1 + r.size + 1
    rw [List.length_append]
    omega
theorem B.nds_mem : ∀ (t : B) (q p : List Bool), p ∈ t.nds q ↔ ∃ s u, p = q ++ s ∧ t.at s = some u ∧ u ≠ .nil
  | .nil, q, p => by
    constructor
    · intro h
      cases (show p ∈ ([] : List (List Bool)) from h)
    rintro ⟨s, u, _, h, n⟩
    cases s with
    | nil => cases h; exact absurd rfl n
    | cons _ _ => cases h
  | .node l x r, q, p => by
    show p ∈ q :: (l.nds (q ++ [false]) ++ r.nds (q ++ [true])) ↔ _
    rw [List.mem_cons, List.mem_append, l.nds_mem, r.nds_mem]
    constructor
    · rintro (rfl | ⟨s, u, rfl, h, n⟩ | ⟨s, u, rfl, h, n⟩)
      · exact ⟨[], _, (List.append_nil _).symm, rfl, fun z => nomatch z⟩
      · exact ⟨false :: s, u, by rw [List.append_assoc]; rfl, h, n⟩
      · exact ⟨true :: s, u, by rw [List.append_assoc]; rfl, h, n⟩
    · rintro ⟨s, u, rfl, h, n⟩
      cases s with
      | nil => exact .inl (List.append_nil _)
      | cons b s => cases b with
        | false => exact .inr (.inl ⟨s, u, by rw [List.append_assoc]; rfl, h, n⟩)
        | true => exact .inr (.inr ⟨s, u, by rw [List.append_assoc]; rfl, h, n⟩)
theorem B.ops_mem : ∀ (t : B) (q p : List Bool), p ∈ t.ops q ↔ ∃ s, p = q ++ s ∧ t.at s = some .nil
  | .nil, q, p => by
    show p ∈ [q] ↔ _
    rw [List.mem_singleton]
    refine ⟨fun h => ⟨[], by rw [h, List.append_nil], rfl⟩, fun ⟨s, e, h⟩ => ?_⟩
    cases s with
    | nil => rw [e, List.append_nil]
    | cons _ _ => cases h
  | .node l x r, q, p => by
    show p ∈ l.ops (q ++ [false]) ++ r.ops (q ++ [true]) ↔ _
    rw [List.mem_append, l.ops_mem, r.ops_mem]
    constructor
    · rintro (⟨s, rfl, h⟩ | ⟨s, rfl, h⟩)
      · exact ⟨false :: s, by rw [List.append_assoc]; rfl, h⟩
      · exact ⟨true :: s, by rw [List.append_assoc]; rfl, h⟩
    · rintro ⟨s, rfl, h⟩
      cases s with
      | nil => cases h
      | cons b s => cases b with
        | false => exact .inl ⟨s, by rw [List.append_assoc]; rfl, h⟩
        | true => exact .inr ⟨s, by rw [List.append_assoc]; rfl, h⟩
theorem B.nds_at {t : B} {p : List Bool} : p ∈ t.nds [] ↔ ∃ u, t.at p = some u ∧ u ≠ .nil := by
  rw [B.nds_mem]
  exact ⟨fun ⟨s, u, e, h⟩ => ⟨u, by rw [e]; exact h⟩, fun ⟨u, h⟩ => ⟨p, u, rfl, h⟩⟩
theorem B.ops_at {t : B} {p : List Bool} : p ∈ t.ops [] ↔ t.at p = some .nil := by
  rw [B.ops_mem]
  exact ⟨fun ⟨s, e, h⟩ => by rw [e]; exact h, fun h => ⟨p, rfl, h⟩⟩
def spPaths : Sp := fun vs H Q _ => ∃ (v : V) (t : B), vs = [v] ∧ BAt H v t ∧ t.size ≤ 12 ∧ ∀ (p A B' : Addr) (H' : Hp), Same H H' → H p = none → H A = none → H B' = none → H' p = some (.tup [.ref A, .ref B']) → H' A = some (.lst ((t.nds []).map fun p => V.str (px p))) → H' B' = some (.lst ((t.ops []).map fun p => V.str (px p))) → Q (.ref p) H'
inductive WtAt (H : Hp) : List V → List (List Bool × B) → Prop
  | nil : WtAt H [] []
  | cons {a : Addr} {q : List Bool} {v : V} {t : B} {vs : List V} {ss : List (List Bool × B)} : H a = some (.tup [.str (px q), v]) → BAt H v t → WtAt H vs ss → WtAt H (.ref a :: vs) ((q, t) :: ss)
theorem WtAt.keep {H H' : Hp} (k : KeepT H H') {vs : List V} {ss : List (List Bool × B)} (h : WtAt H vs ss) : WtAt H' vs ss := by
  induction h with
  | nil => exact .nil
  | cons e b _ ih => exact .cons (k _ _ e) (b.keep k) ih
theorem WtAt.app {H : Hp} {vs us : List V} {ss ts : List (List Bool × B)} (h : WtAt H vs ss) (g : WtAt H us ts) : WtAt H (vs ++ us) (ss ++ ts) := by
  induction h with
  | nil => exact g
  | cons e b _ ih => exact .cons e b ih
theorem WtAt.last {H : Hp} {vs : List V} {ss : List (List Bool × B)} (h : WtAt H vs ss) : vs ≠ [] → ∃ a q v t ts, vs[vs.length - 1]? = some (.ref a) ∧ ss = ts ++ [(q, t)] ∧ H a = some (.tup [.str (px q), v]) ∧ BAt H v t ∧ WtAt H vs.dropLast ts := by
  induction h with
  | nil => intro z; exact absurd rfl z
  | @cons a q v t vs ss e b hh ih =>
    intro _
    cases vs with
    | nil => cases hh; exact ⟨a, q, v, t, [], rfl, rfl, e, b, .nil⟩
    | cons u us =>
      obtain ⟨a', q', v', t', ts, e1, e2, e3, e4, e5⟩ := ih (by simp)
      exact ⟨a', q', v', t', (q, t) :: ts, e1, by rw [e2]; rfl, e3, e4, .cons e b e5⟩
def ndsS (ss : List (List Bool × B)) : List (List Bool) := ss.reverse.flatMap fun x => x.2.nds x.1
def opsS (ss : List (List Bool × B)) : List (List Bool) := ss.reverse.flatMap fun x => x.2.ops x.1
theorem ndsS_snoc (ss : List (List Bool × B)) (q : List Bool) (t : B) : ndsS (ss ++ [(q, t)]) = t.nds q ++ ndsS ss := by
  unfold ndsS
  rw [List.reverse_append]
  rfl
theorem opsS_snoc (ss : List (List Bool × B)) (q : List Bool) (t : B) : opsS (ss ++ [(q, t)]) = t.ops q ++ opsS ss := by
  unfold opsS
  rw [List.reverse_append]
  rfl
theorem WtAt.len {H : Hp} {vs : List V} {ss : List (List Bool × B)} (h : WtAt H vs ss) : vs.length = ss.length := by
  induction h with
  | nil => rfl
  | cons _ _ _ ih => rw [List.length_cons, List.length_cons, ih]
theorem ndsO (ss : List (List Bool × B)) : ss.length ≤ (opsS ss).length := by
  unfold opsS
  rw [← List.length_reverse]
  generalize ss.reverse = rs
  induction rs with
  | nil => exact Nat.le_refl _
  | cons x rs ih =>
    rw [List.flatMap_cons, List.length_append, B.ops_len, List.length_cons]
    omega
theorem px_snoc (q : List Bool) (b : Bool) : px q ++ tx [dir b] = px (q ++ [b]) := by
  unfold px
  rw [tx_app, List.map_append]
  rfl
def lenAt (σ : L2.St) (i : Nat) (H : Hp) : Nat := match σ[i]? with
  | some (some (V.ref a)) => (match H a with
    | some (.lst xs) => xs.length
    | _ => 0)
  | _ => 0
theorem lenAt_of {σ : L2.St} {i : Nat} {H : Hp} {a : Addr} {xs : List V} (h : σ[i]? = some (some (.ref a))) (e : H a = some (.lst xs)) : lenAt σ i H = xs.length := by
  unfold lenAt
  rw [h]
  show (match H a with
    | some (.lst xs) => xs.length
    | _ => 0) = _
  rw [e]
def PaI (H : Hp) (t : B) (v : V) (A B' W : Addr) (σ : L2.St) (H' : Hp) : Prop := ∃ (ws : List V) (ss : List (List Bool × B)) (N O : List (List Bool)) (y4 y5 : Option V), σ = [some v, some (.ref A), some (.ref B'), some (.ref W), y4, y5] ∧ Same H H' ∧ H' A = some (.lst (N.map fun p => V.str (px p))) ∧ H' B' = some (.lst (O.map fun p => V.str (px p))) ∧ H' W = some (.lst ws) ∧ WtAt H' ws ss ∧ N ++ ndsS ss = t.nds [] ∧ O ++ opsS ss = t.ops []
def Kd.num : Kd → Int
  | .first => 0
  | .between => 1
  | .last => 2
def spLabs (n : Nat) : Sp := fun vs H Q _ => ∃ (v : V) (t : B) (k : Kd), vs = [v, .int k.num] ∧ BAt H v t ∧ t.size < n ∧ t.size ≤ 100 ∧ ∀ (H' : Hp), Same H H' → Q (.str (tx (t.wk k))) H'
abbrev vp (p : List Bool) : V := .str (px p)
section
variable {P : Program} {w : World} {K : PySem.W.Frag} {mg : Str → Option Value} {base : Heap} {f : Addr} {fd : FuncData}
theorem ok_lpart {k : Nat} (F : Fun K "_law_part" "_law_part" s__law_part f fd) : FnOk P w K mg base CX0 (k + 1) f fd ["_law_tree_here", "_law_path"] spPart := by
  refine F.ok sc__law_part (fun vs H Q E h => ?_) (fun cdv A outer s H vs Q E hr h => ?_)
  · obtain ⟨v, t, u, p, rfl, _⟩ := h
    rfl
  obtain ⟨v, t, u, p, rfl, ht, hu, hp, q⟩ := h
  refine ⟨_, (pss_cons (ps_for PassesOwn.never rfl (pi_str (pv 1)) (pg_name (i := 2) sc__law_part.nd rfl (.inl rfl))
      (pss_one (ps_set (i := 0) sc__law_part.nd rfl (.inl rfl) (pe_ifExp (pt_cmpR op_eq (pv 2) pe_str (nomark _)) (pe_ix ix_tup (pv 0) pe_int (fun _ _ => rfl)) (pe_ix ix_tup (pv 0) pe_int (fun _ _ => rfl))))))
    (pss_one (ps_ret (pv 0)))), ?_⟩
  refine ⟨_, rfl, px p, rfl, ?_⟩
  refine for_text (x := px p) (fun i σ H' => ∃ (vi : V) (ti : B) (y2 : Option V), σ = [some vi, some (.str (px p)), y2] ∧ Same H H' ∧ BAt H' vi ti ∧ ti.at (p.drop i) = some u) ⟨v, t, none, rfl, Same.refl _, ht, hu⟩ (fun i c σ H1 hc hq => ?_) (fun σ H1 hq => ?_)
  · obtain ⟨vi, ti, y2, rfl, s1, hi, ei⟩ := hq
    have hc' : (p.map dir)[i]? = some c := hc
    obtain ⟨b, hb, rfl⟩ : ∃ b, p[i]? = some b ∧ dir b = c := by
      rw [List.getElem?_map] at hc'
      cases e : p[i]? with
      | none => rw [e] at hc'; cases hc'
      | some b => rw [e] at hc'; exact ⟨b, rfl, Option.some.inj hc'⟩
    have hdr : p.drop i = b :: p.drop (i + 1) := by
      obtain ⟨h1, h2⟩ := List.getElem?_eq_some_iff.mp hb
      rw [List.drop_eq_getElem_cons h1, h2]
    rw [hdr] at ei
    rcases hi.inv with ⟨rfl, rfl⟩ | ⟨a, vl, vr, x, tl, tr, rfl, rfl, ea, hl, hr'⟩
    · cases ei
    refine ⟨_, rfl, rfl, _, rfl, ?_⟩
    rw [dir_str]
    cases b with
    | false =>
      refine iteT ⟨_, rfl, a, _, 0, vl, rfl, rfl, SqT.of ea, atI_nat (j := 0) rfl, ?_⟩
      exact ⟨vl, tl, _, rfl, s1, hl, ei⟩
    | true =>
      refine iteF ⟨_, rfl, a, _, 2, vr, rfl, rfl, SqT.of ea, atI_nat (j := 2) rfl, ?_⟩
      exact ⟨vr, tr, _, rfl, s1, hr', ei⟩
  · obtain ⟨vi, ti, y2, rfl, s1, hi, ei⟩ := hq
    rw [List.drop_eq_nil_of_le (by rw [show (px p).cps.toList = p.map dir from rfl, List.length_map]; exact Nat.le_refl _)] at ei
    have : ti = u := by cases ti <;> (cases ei; rfl)
    subst this
    exact ⟨_, rfl, q vi H1 s1 hi⟩
theorem ok_lgraft (F : Fun K "_law_grafted" "_law_grafted" s__law_grafted f fd) (b : Binds K fd ["_law_tree_here", "_law_path", "_law_part_here"] []) (g : mg "_law_grafted" = some (.ref f)) : ∀ n : Nat, FnOk P w K mg base CX0 n f fd ["_law_tree_here", "_law_path", "_law_part_here"] (spWith n)
  | 0 => by
    have no : ∀ vs H Q E, ¬ spWith 0 vs H Q E := fun vs H Q E h => by
      obtain ⟨v, vp, t, u, p, _, _, _, h1, _⟩ := h
      exact absurd h1 (Nat.not_lt_zero _)
    exact ⟨fun vs H Q E h => absurd h (no vs H Q E), fun A outer s H args us vs Q E _ _ _ _ h => absurd h (no vs H Q E)⟩
  | n + 1 => by
    have Dself : Df P w K mg base n "_law_grafted" ["_law_tree_here", "_law_path", "_law_part_here"] (spWith n) := ⟨f, fd, ok_lgraft F b g n, b, F.kp, g⟩
    refine F.ok sc__law_grafted (fun vs H Q E h => ?_) (fun cdv A outer s H vs Q E hr h => ?_)
    · obtain ⟨v, vp, t, u, p, rfl, _⟩ := h
      rfl
    obtain ⟨v, vp, t, u, p, rfl, ht, hu, hn, hp, hs, q⟩ := h
    refine ⟨_, (pss_cons (ps_if (pt_cmpR op_eq (pv 1) pe_str (nomark _))
      (pss_one (ps_ret (pv 2))) pss_nil)
    (pss_cons (ps_if (pt_cmpR op_eq (pe_ix ix_str (pv 1) pe_int (fun _ _ => rfl)) pe_str (nomark _))
      (pss_one (ps_ret (pe_tup (pa_cons (pe_call Dself.ok (hr.mono (by omega)) rfl Dself.g Dself.kp Dself.b .nil pass0 (pa_cons (pe_ix ix_tup (pv 0) pe_int (fun _ _ => rfl)) (pa_cons (pe_slice sl_str (pv 1) (po_some pe_int) po_none) (pa_cons (pv 2) pa_nil)))) (pa_cons (pe_ix ix_tup (pv 0) pe_int (fun _ _ => rfl)) (pa_cons (pe_ix ix_tup (pv 0) pe_int (fun _ _ => rfl)) pa_nil)))))) pss_nil)
    (pss_one (ps_ret (pe_tup (pa_cons (pe_ix ix_tup (pv 0) pe_int (fun _ _ => rfl)) (pa_cons (pe_ix ix_tup (pv 0) pe_int (fun _ _ => rfl)) (pa_cons (pe_call Dself.ok (hr.mono (by omega)) rfl Dself.g Dself.kp Dself.b .nil pass0 (pa_cons (pe_ix ix_tup (pv 0) pe_int (fun _ _ => rfl)) (pa_cons (pe_slice sl_str (pv 1) (po_some pe_int) po_none) (pa_cons (pv 2) pa_nil)))) pa_nil)))))))), ?_⟩
    have lp : (px p).length ≤ sizeLine := small (by rw [px_len]; omega)
    refine ⟨_, rfl, rfl, _, rfl, ?_⟩
    cases p with
    | nil =>
      refine iteS px_nil ⟨_, rfl, ?_⟩
      have e : t.put [] u = u := by cases t <;> rfl
      rw [e] at q
      exact q vp H (Same.refl H) hu
    | cons d p =>
      refine iteR (fun z => by rw [← px_nil] at z; cases px_inj z) ?_
      rcases ht.inv with ⟨rfl, rfl⟩ | ⟨a, vl, vr, x, tl, tr, rfl, rfl, ea, hl, hr'⟩
      · cases hs
      have hp' : p.length + 1 < n + 1 := hn
      have hp2 : p.length + 1 ≤ 100 := hp
      refine ⟨_, rfl, _, _, _, rfl, rfl, lp, atI_nat (j := 0) rfl, rfl, _, rfl, ?_⟩
      have ed : cutS (px (d :: p)) (some 1) none = px p := px_drop _
      cases d with
      | false =>
        refine iteS str_l.symm ⟨_, rfl, a, _, 0, vl, rfl, rfl, SqT.of ea, atI_nat (j := 0) rfl, _, rfl, _, rfl, _, rfl, lp, _, rfl, vl, vp, tl, u, p, by rw [ed]; rfl, hl, hu, by omega, by omega, hs, fun v' H1 s1 h1 => ?_⟩
        refine ⟨_, rfl, a, _, 1, _, rfl, rfl, SqT.of (s1 _ _ ea), atI_nat (j := 1) rfl, _, rfl, a, _, 2, vr, rfl, rfl, SqT.of (s1 _ _ ea), atI_nat (j := 2) rfl, (by show 3 ≤ sizeLine; decide), fun r nr => ?_⟩
        have k2 := same_new nr (.tup [v', .str (ch x), vr])
        exact q _ _ (s1.trans k2) (.node upd_same (h1.same k2) (hr'.same (s1.trans k2)))
      | true =>
        refine iteR (fun z => by rw [str_l] at z; have := tx_inj z; cases this) ⟨_, rfl, a, _, 0, vl, rfl, rfl, SqT.of ea, atI_nat (j := 0) rfl, _, rfl, a, _, 1, _, rfl, rfl, SqT.of ea, atI_nat (j := 1) rfl, _, rfl, a, _, 2, vr, rfl, rfl, SqT.of ea, atI_nat (j := 2) rfl, _, rfl, _, rfl, _, rfl, lp, _, rfl, vr, vp, tr, u, p, by rw [ed]; rfl, hr', hu, by omega, by omega, hs, fun v' H1 s1 h1 => ?_⟩
        refine ⟨(by show 3 ≤ sizeLine; decide), fun r nr => ?_⟩
        have k2 := same_new nr (.tup [vl, .str (ch x), v'])
        exact q _ _ (s1.trans k2) (.node upd_same (hl.same (s1.trans k2)) (h1.same k2))
theorem ok_lswap (F : Fun K "_law_swapped" "_law_swapped" s__law_swapped f fd) (b : Binds K fd ["_law_tree_here"] []) (g : mg "_law_swapped" = some (.ref f)) : ∀ n : Nat, FnOk P w K mg base CX0 n f fd ["_law_tree_here"] (spMir n)
  | 0 => by
    have no : ∀ vs H Q E, ¬ spMir 0 vs H Q E := fun vs H Q E h => by
      obtain ⟨v, t, _, _, h1, _⟩ := h
      exact absurd h1 (Nat.not_lt_zero _)
    exact ⟨fun vs H Q E h => absurd h (no vs H Q E), fun A outer s H args us vs Q E _ _ _ _ h => absurd h (no vs H Q E)⟩
  | n + 1 => by
    have Dself : Df P w K mg base n "_law_swapped" ["_law_tree_here"] (spMir n) := ⟨f, fd, ok_lswap F b g n, b, F.kp, g⟩
    refine F.ok sc__law_swapped (fun vs H Q E h => ?_) (fun cdv A outer s H vs Q E hr h => ?_)
    · obtain ⟨v, t, rfl, _⟩ := h
      rfl
    obtain ⟨v, t, rfl, ht, hn, q⟩ := h
    refine ⟨_, (pss_cons (ps_if (pt_cmpR op_isN (pv 0) pe_non (nomark _))
      (pss_one (ps_ret pe_non)) pss_nil)
    (pss_one (ps_ret (pe_tup (pa_cons (pe_call Dself.ok (hr.mono (by omega)) rfl Dself.g Dself.kp Dself.b .nil pass0 (pa_cons (pe_ix ix_tup (pv 0) pe_int (fun _ _ => rfl)) pa_nil)) (pa_cons (pe_ix ix_tup (pv 0) pe_int (fun _ _ => rfl)) (pa_cons (pe_call Dself.ok (hr.mono (by omega)) rfl Dself.g Dself.kp Dself.b .nil pass0 (pa_cons (pe_ix ix_tup (pv 0) pe_int (fun _ _ => rfl)) pa_nil)) pa_nil))))))), ?_⟩
    rcases ht.inv with ⟨rfl, rfl⟩ | ⟨a, vl, vr, x, tl, tr, rfl, rfl, ea, hl, hr'⟩
    · exact ⟨_, rfl, rfl, _, rfl, iteT (q _ _ (Same.refl H) .nil)⟩
    have hz : tl.size + 1 + tr.size < n + 1 := hn
    refine ⟨_, rfl, rfl, _, rfl, iteF ?_⟩
    refine ⟨_, rfl, a, _, 2, vr, rfl, rfl, SqT.of ea, atI_nat (j := 2) rfl, vr, tr, rfl, hr', by omega, fun v1 H1 s1 h1 => ?_⟩
    refine ⟨_, rfl, a, _, 1, _, rfl, rfl, SqT.of (s1 _ _ ea), atI_nat (j := 1) rfl, _, rfl, a, _, 0, vl, rfl, rfl, SqT.of (s1 _ _ ea), atI_nat (j := 0) rfl, vl, tl, rfl, hl.same s1, by omega, fun v2 H2 s2 h2 => ?_⟩
    refine ⟨(by show 3 ≤ sizeLine; decide), fun r nr => ?_⟩
    have k2 := same_new nr (.tup [v1, .str (ch x), v2])
    exact q _ _ (s1.trans (s2.trans k2)) (.node upd_same (h1.same (s2.trans k2)) (h2.same k2))
theorem ok_llabels (F : Fun K "_law_labels" "_law_labels" s__law_labels f fd) (b : Binds K fd ["_law_tree_here", "_law_kind"] []) (g : mg "_law_labels" = some (.ref f)) : ∀ n : Nat, FnOk P w K mg base CX0 n f fd ["_law_tree_here", "_law_kind"] (spLabs n)
  | 0 => by
    have no : ∀ vs H Q E, ¬ spLabs 0 vs H Q E := fun vs H Q E h => by
      obtain ⟨v, t, k, _, _, h1, _⟩ := h
      exact absurd h1 (Nat.not_lt_zero _)
    exact ⟨fun vs H Q E h => absurd h (no vs H Q E), fun A outer s H args us vs Q E _ _ _ _ h => absurd h (no vs H Q E)⟩
  | n + 1 => by
    have Dself : Df P w K mg base n "_law_labels" ["_law_tree_here", "_law_kind"] (spLabs n) := ⟨f, fd, ok_llabels F b g n, b, F.kp, g⟩
    refine F.ok sc__law_labels (fun vs H Q E h => ?_) (fun cdv A outer s H vs Q E hr h => ?_)
    · obtain ⟨v, t, k, rfl, _⟩ := h
      rfl
    obtain ⟨v, t, k, rfl, ht, hn, h1, q⟩ := h
    refine ⟨_, (pss_cons (ps_if (pt_cmpR op_isN (pv 0) pe_non (nomark _))
      (pss_one (ps_ret pe_str)) pss_nil)
    (pss_cons (ps_par (i := 2) (j := 3) (by rfl) sc__law_labels.nd rfl rfl (by decide) rfl rfl (pa_cons (pe_call Dself.ok (hr.mono (by omega)) rfl Dself.g Dself.kp Dself.b .nil pass0 (pa_cons (pe_ix ix_tup (pv 0) pe_int (fun _ _ => rfl)) (pa_cons (pv 1) pa_nil))) (pa_cons (pe_call Dself.ok (hr.mono (by omega)) rfl Dself.g Dself.kp Dself.b .nil pass0 (pa_cons (pe_ix ix_tup (pv 0) pe_int (fun _ _ => rfl)) (pa_cons (pv 1) pa_nil))) pa_nil)) (by rfl))
    (pss_one (ps_ret (pe_ix ix_list (pe_lst (pa_cons (pe_op op_add_str (pe_op op_add_str (pe_ix ix_tup (pv 0) pe_int (fun _ _ => rfl)) (pv 2)) (pv 3)) (pa_cons (pe_op op_add_str (pe_op op_add_str (pv 2) (pe_ix ix_tup (pv 0) pe_int (fun _ _ => rfl))) (pv 3)) (pa_cons (pe_op op_add_str (pe_op op_add_str (pv 2) (pv 3)) (pe_ix ix_tup (pv 0) pe_int (fun _ _ => rfl))) pa_nil)))) (pv 1) (fun _ _ => rfl)))))), ?_⟩
    rcases ht.inv with ⟨rfl, rfl⟩ | ⟨a, vl, vr, x, tl, tr, rfl, rfl, ea, hl, hr'⟩
    · have e : B.nil.wk k = [] := by cases k <;> rfl
      rw [e, ← str_0] at q
      exact ⟨_, rfl, rfl, _, rfl, iteT (q _ (Same.refl H))⟩
    have hz : tl.size + 1 + tr.size < n + 1 := hn
    have hz1 : tl.size + 1 + tr.size ≤ 100 := h1
    have w1 := tl.wk_len k
    have w2 := tr.wk_len k
    refine ⟨_, rfl, rfl, _, rfl, iteF ?_⟩
    refine ⟨_, rfl, a, _, 0, vl, rfl, rfl, SqT.of ea, atI_nat (j := 0) rfl, _, rfl, vl, tl, k, rfl, hl, by omega, by omega, fun H1 s1 => ?_⟩
    refine ⟨_, rfl, a, _, 2, vr, rfl, rfl, SqT.of (s1 _ _ ea), atI_nat (j := 2) rfl, _, rfl, vr, tr, k, rfl, hr'.same s1, by omega, by omega, fun H2 s2 => ?_⟩
    have s12 := s1.trans s2
    have ea2 := s12 _ _ ea
    have L1 : (ch x).length + (tx (tl.wk k)).length ≤ sizeLine := small (by rw [tx_len]; show 1 + _ ≤ 1000; omega)
    have L2 : (ch x ++ tx (tl.wk k)).length + (tx (tr.wk k)).length ≤ sizeLine := small (by rw [strLen_append, tx_len, tx_len]; show 1 + _ + _ ≤ 1000; omega)
    have L3 : (tx (tl.wk k)).length + (ch x).length ≤ sizeLine := by rw [Nat.add_comm]; exact L1
    have L4 : (tx (tl.wk k) ++ ch x).length + (tx (tr.wk k)).length ≤ sizeLine := small (by rw [strLen_append, tx_len, tx_len]; show _ + 1 + _ ≤ 1000; omega)
    have L5 : (tx (tl.wk k)).length + (tx (tr.wk k)).length ≤ sizeLine := small (by rw [tx_len, tx_len]; omega)
    have L6 : (tx (tl.wk k) ++ tx (tr.wk k)).length + (ch x).length ≤ sizeLine := small (by rw [strLen_append, tx_len, tx_len]; show _ + _ + 1 ≤ 1000; omega)
    refine ⟨_, _, rfl, _, rfl, a, _, 1, _, rfl, rfl, SqT.of ea2, atI_nat (j := 1) rfl, _, rfl, _, _, rfl, rfl, L1, _, rfl, _, _, rfl, rfl, L2, ?_⟩
    refine ⟨_, rfl, _, rfl, a, _, 1, _, rfl, rfl, SqT.of ea2, atI_nat (j := 1) rfl, _, _, rfl, rfl, L3, _, rfl, _, _, rfl, rfl, L4, ?_⟩
    refine ⟨_, rfl, _, rfl, _, _, rfl, rfl, L5, _, rfl, a, _, 1, _, rfl, rfl, SqT.of ea2, atI_nat (j := 1) rfl, _, _, rfl, rfl, L6, (by show 3 ≤ sizeLine; decide), fun L nL => ?_⟩
    have s3 := s12.trans (same_new nL (.lst [.str (ch x ++ tx (tl.wk k) ++ tx (tr.wk k)), .str (tx (tl.wk k) ++ ch x ++ tx (tr.wk k)), .str (tx (tl.wk k) ++ tx (tr.wk k) ++ ch x)]))
    have fin := q _ s3
    have hv : atI [V.str (ch x ++ tx (tl.wk k) ++ tx (tr.wk k)), .str (tx (tl.wk k) ++ ch x ++ tx (tr.wk k)), .str (tx (tl.wk k) ++ tx (tr.wk k) ++ ch x)] k.num = some (V.str (tx ((B.node tl x tr).wk k))) := by
      cases k with
      | first =>
        refine (atI_nat (j := 0) rfl).trans (congrArg (fun z => some (V.str z)) ?_)
        show tx [x] ++ tx tl.pre ++ tx tr.pre = _
        rw [tx_app, tx_app]
        rfl
      | between =>
        refine (atI_nat (j := 1) rfl).trans (congrArg (fun z => some (V.str z)) ?_)
        show tx tl.mid ++ tx [x] ++ tx tr.mid = _
        rw [tx_app, tx_app, List.append_assoc]
        rfl
      | last =>
        refine (atI_nat (j := 2) rfl).trans (congrArg (fun z => some (V.str z)) ?_)
        show tx tl.post ++ tx tr.post ++ tx [x] = _
        rw [tx_app, tx_app]
        rfl
    exact ⟨_, rfl, L, _, _, _, rfl, rfl, SqL.of upd_same, hv, fin⟩
theorem ok_lpaths {k : Nat} (F : Fun K "_law_paths" "_law_paths" s__law_paths f fd) : FnOk P w K mg base CX0 (k + 1) f fd ["_law_tree_here"] spPaths := by
  refine F.ok sc__law_paths (fun vs H Q E h => ?_) (fun cdv A outer s H vs Q E hr h => ?_)
  · obtain ⟨v, t, rfl, _⟩ := h
    rfl
  obtain ⟨v, t, rfl, ht, hz, q⟩ := h
  refine ⟨_, (pss_cons (ps_par3 (i := 1) (j := 2) (l := 3) (by rfl) sc__law_paths.nd rfl rfl rfl (by decide) (by decide) (by decide) rfl rfl rfl (pa_cons (pe_lst pa_nil) (pa_cons (pe_lst pa_nil) (pa_cons (pe_lst (pa_cons (pe_tup (pa_cons pe_str (pa_cons (pv 0) pa_nil))) pa_nil)) pa_nil))) (by rfl))
    (pss_cons (ps_while PassesOwn.never (pt_cmpR (op_neL hr.units0) (pv 3) (pe_lst pa_nil) (nomark _))
      (pss_cons (ps_asg (pe_bm0 PySem.F.plainAttrs_list PySem.F.slot_list_pop PySem.F.type_list_pop mt_pop (pv 3)) (pg_tup rfl (pgs_cons (pg_name (i := 4) sc__law_paths.nd rfl (.inl rfl)) (pgs_cons (pg_name (i := 5) sc__law_paths.nd rfl (.inl rfl)) pgs_nil))))
    (pss_one (ps_if (pt_cmpR op_isN (pv 5) pe_non (nomark _))
      (pss_one (ps_expr (pe_bm PySem.F.plainAttrs_list PySem.F.slot_list_append PySem.F.type_list_append mt_append (pv 2) (pa_cons (pv 4) pa_nil)))) (pss_cons (ps_expr (pe_bm PySem.F.plainAttrs_list PySem.F.slot_list_append PySem.F.type_list_append mt_append (pv 1) (pa_cons (pv 4) pa_nil)))
    (pss_one (ps_expr (pe_bm PySem.F.plainAttrs_list PySem.F.slot_list_extend PySem.F.type_list_extend mt_extend (pv 3) (pa_cons (pe_lst (pa_cons (pe_tup (pa_cons (pe_op op_add_str (pv 4) pe_str) (pa_cons (pe_ix ix_tup (pv 5) pe_int (fun _ _ => rfl)) pa_nil))) (pa_cons (pe_tup (pa_cons (pe_op op_add_str (pv 4) pe_str) (pa_cons (pe_ix ix_tup (pv 5) pe_int (fun _ _ => rfl)) pa_nil))) pa_nil))) pa_nil)))))))))
    (pss_one (ps_ret (pe_tup (pa_cons (pv 1) (pa_cons (pv 2) pa_nil))))))), ?_⟩
  have z0 : 0 ≤ sizeLine := by decide
  have z1 : 1 ≤ sizeLine := by decide
  have z2 : 2 ≤ sizeLine := by decide
  refine ⟨z0, fun A nA => ⟨z0, fun B' nB => ⟨_, rfl, z2, fun tp ntp => ⟨z1, fun W nW => ⟨_, _, _, rfl, ?_⟩⟩⟩⟩⟩
  have k1 := same_new nA (.lst [])
  have k2 := same_new nB (.lst [])
  have k3 := same_new ntp (.tup [.str "", v])
  have k4 := same_new nW (.lst [.ref tp])
  have eA := k4 _ _ (k3 _ _ (k2 _ _ (upd_same (H := H) (a := A) (o := .lst []))))
  have eB := k4 _ _ (k3 _ _ (upd_same (H := upd H A (.lst [])) (a := B') (o := .lst [])))
  have et := k4 _ _ (upd_same (H := upd (upd H A (.lst [])) B' (.lst [])) (a := tp) (o := .tup [.str "", v]))
  have eW := upd_same (H := upd (upd (upd H A (.lst [])) B' (.lst [])) tp (.tup [.str "", v])) (a := W) (o := .lst [.ref tp])
  have nAB : A ≠ B' := fun z => by rw [← z, upd_same] at nB; cases nB
  have nAW : A ≠ W := fun z => by rw [← z, k3 _ _ (k2 _ _ upd_same)] at nW; cases nW
  have nBW : B' ≠ W := fun z => by rw [← z, k3 _ _ upd_same] at nW; cases nW
  have s4 := k1.trans (k2.trans (k3.trans k4))
  have fB : H B' = none := by
    cases e : H B' with
    | none => rfl
    | some o => rw [k1 _ _ e] at nB; cases nB
  have fW : H W = none := by
    cases e : H W with
    | none => rfl
    | some o => rw [k3 _ _ (k2 _ _ (k1 _ _ e))] at nW; cases nW
  have ht4 := ht.same s4
  generalize upd (upd (upd (upd H A (.lst [])) B' (.lst [])) tp (.tup [.str "", v])) W (.lst [.ref tp]) = H4 at eA eB et eW s4 ht4 ⊢
  rw [← px_nil] at et
  refine while_by (PaI H t v A B' W) (fun σ H' => 100 - lenAt σ 1 H' - lenAt σ 2 H') ?_ (fun σ H' hp => ?_) ?_
  · exact ⟨[.ref tp], [([], t)], [], [], none, none, rfl, s4, eA, eB, eW, .cons et ht4 .nil, by simp [ndsS], by simp [opsS]⟩
  · obtain ⟨ws, ss, N, O, y4, y5, rfl, sm, hA, hB, hW, hw, hN, hO⟩ := hp
    refine ⟨_, rfl, z0, fun el ne => ?_⟩
    have k5 := same_new ne (.lst [])
    refine ⟨W, el, _, rfl, rfl, SqL.of (k5 _ _ hW), SqL.of upd_same, _, rfl, ?_⟩
    have lN : N.length ≤ 12 := by
      have := congrArg List.length hN
      rw [B.nds_len, List.length_append] at this
      omega
    have lO : O.length ≤ 13 := by
      have := congrArg List.length hO
      rw [B.ops_len, List.length_append] at this
      omega
    have m0 : lenAt [some v, some (V.ref A), some (.ref B'), some (.ref W), y4, y5] 1 H' = N.length := by rw [lenAt_of rfl hA, List.length_map]
    have m1 : lenAt [some v, some (V.ref A), some (.ref B'), some (.ref W), y4, y5] 2 H' = O.length := by rw [lenAt_of rfl hB, List.length_map]
    have sm := sm.trans k5
    have hA := k5 _ _ hA
    have hB := k5 _ _ hB
    have hW := k5 _ _ hW
    have hw := hw.keep (Tw.Same.keepT k5)
    rw [m0, m1]
    generalize upd H' el (.lst []) = H5 at sm hA hB hW hw ⊢
    cases ws with
    | nil =>
      cases hw
      rw [show ndsS [] = [] from rfl, List.append_nil] at hN
      rw [show opsS [] = [] from rfl, List.append_nil] at hO
      rw [hN] at hA
      rw [hO] at hB
      refine iteF ⟨_, rfl, _, rfl, z2, fun r nr => ?_⟩
      have k6 := same_new nr (.tup [.ref A, .ref B'])
      refine q r A B' _ (sm.trans k6) ?_ nA fB upd_same (k6 _ _ hA) (k6 _ _ hB)
      cases e : H r with
      | none => rfl
      | some o => rw [sm _ _ e] at nr; cases nr
    | cons w0 ws0 =>
      refine iteT ?_
      obtain ⟨a, qq, vv, tt, ts, e1, rfl, e3, e4, e5⟩ := hw.last (by simp)
      refine ⟨.ref W, rfl, .inl ⟨rfl, _, SqL.of hW⟩, W, _, _, rfl, rfl, hW, e1, ?_⟩
      have sm6 : Same H (upd H5 W (.lst (w0 :: ws0).dropLast)) := fun b o z => by
        rw [upd_ne (ne_of_none z fW)]
        exact sm _ _ z
      have kt : KeepT H5 (upd H5 W (.lst (w0 :: ws0).dropLast)) := fun b xs z => by
        rw [upd_ne (ne_of z hW (by intro z; cases z))]
        exact z
      have hA6 : (upd H5 W (.lst (w0 :: ws0).dropLast)) A = _ := (upd_ne nAW).trans hA
      have hB6 : (upd H5 W (.lst (w0 :: ws0).dropLast)) B' = _ := (upd_ne nBW).trans hB
      have hW6 : (upd H5 W (.lst (w0 :: ws0).dropLast)) W = _ := upd_same
      have e3 := kt _ _ e3
      have e4 := e4.keep kt
      have e5 := e5.keep kt
      generalize upd H5 W (.lst (w0 :: ws0).dropLast) = H6 at sm6 hA6 hB6 hW6 e3 e4 e5 ⊢
      generalize (w0 :: ws0).dropLast = W0 at hW6 e5
      rw [ndsS_snoc] at hN
      rw [opsS_snoc] at hO
      refine ⟨a, _, rfl, SqT.of e3, rfl, _, _, rfl, _, _, rfl, rfl, ?_⟩
      rcases e4.inv with ⟨rfl, rfl⟩ | ⟨b, vl, vr, x, tl, tr, rfl, rfl, eb, hl, hr'⟩
      · refine ⟨_, rfl, rfl, _, rfl, iteT ?_⟩
        refine ⟨_, rfl, .inl ⟨rfl, _, SqL.of hB6⟩, _, rfl, B', _, _, rfl, rfl, hB6, by rw [List.length_map]; exact small1000 (by omega), ?_⟩
        have kt7 : KeepT H6 (upd H6 B' (.lst (List.map (fun p => V.str (px p)) O ++ [V.str (px qq)]))) := fun b xs z => by
          rw [upd_ne (ne_of z hB6 (by intro z; cases z))]
          exact z
        have sm7 : Same H (upd H6 B' (.lst (List.map (fun p => V.str (px p)) O ++ [V.str (px qq)]))) := fun b o z => by
          rw [upd_ne (ne_of_none z fB)]
          exact sm6 _ _ z
        have hA7 := (upd_ne (o := .lst (List.map (fun p => V.str (px p)) O ++ [V.str (px qq)])) nAB).trans hA6
        have hW7 := (upd_ne (o := .lst (List.map (fun p => V.str (px p)) O ++ [V.str (px qq)])) (Ne.symm nBW)).trans hW6
        have hB7 : (upd H6 B' (.lst (List.map (fun p => V.str (px p)) O ++ [V.str (px qq)]))) B' = some (.lst ((O ++ [qq]).map fun p => V.str (px p))) := by rw [upd_same, List.map_append]; rfl
        refine ⟨⟨W0, ts, N, O ++ [qq], _, _, rfl, sm7, hA7, hB7, hW7, e5.keep kt7, hN, ?_⟩, ?_⟩
        · rw [List.append_assoc]; exact hO
        · rw [lenAt_of rfl hA7, lenAt_of rfl hB7, List.length_map, List.length_map, List.length_append]
          show 100 - N.length - (O.length + 1) < _
          omega
      · refine ⟨_, rfl, rfl, _, rfl, iteF ?_⟩
        refine ⟨_, rfl, .inl ⟨rfl, _, SqL.of hA6⟩, _, rfl, A, _, _, rfl, rfl, hA6, by rw [List.length_map]; exact small1000 (by omega), ?_⟩
        have kt7 : KeepT H6 (upd H6 A (.lst (List.map (fun p => V.str (px p)) N ++ [V.str (px qq)]))) := fun b xs z => by
          rw [upd_ne (ne_of z hA6 (by intro z; cases z))]
          exact z
        have sm7 : Same H (upd H6 A (.lst (List.map (fun p => V.str (px p)) N ++ [V.str (px qq)]))) := fun b o z => by
          rw [upd_ne (ne_of_none z nA)]
          exact sm6 _ _ z
        have hB7 := (upd_ne (o := .lst (List.map (fun p => V.str (px p)) N ++ [V.str (px qq)])) nAB.symm).trans hB6
        have hW7 := (upd_ne (o := .lst (List.map (fun p => V.str (px p)) N ++ [V.str (px qq)])) nAW.symm).trans hW6
        have hA7 : (upd H6 A (.lst (List.map (fun p => V.str (px p)) N ++ [V.str (px qq)]))) A = some (.lst ((N ++ [qq]).map fun p => V.str (px p))) := by rw [upd_same, List.map_append]; rfl
        have eb := kt7 _ _ eb
        have hl := hl.keep kt7
        have hr' := hr'.keep kt7
        have e5 := e5.keep kt7
        generalize upd H6 A (.lst (List.map (fun p => V.str (px p)) N ++ [V.str (px qq)])) = H7 at sm7 hB7 hW7 hA7 eb hl hr' e5 ⊢
        have hq : qq.length ≤ 12 := by
          have hm : qq ∈ t.nds [] := by rw [← hN]; exact List.mem_append_right _ (List.mem_append_left _ List.mem_cons_self)
          obtain ⟨u, hu, _⟩ := B.nds_at.mp hm
          have := t.at_size qq hu
          omega
        have cr : px qq ++ Str.ofString "r" = px (qq ++ [true]) := by rw [str_r]; exact px_snoc qq true
        have cl : px qq ++ Str.ofString "l" = px (qq ++ [false]) := by rw [str_l]; exact px_snoc qq false
        have cl1 : (px qq).length + (Str.ofString "r").length ≤ sizeLine := small (by rw [px_len, str_r, tx_len]; show _ + 1 ≤ 1000; omega)
        have cl2 : (px qq).length + (Str.ofString "l").length ≤ sizeLine := small (by rw [px_len, str_l, tx_len]; show _ + 1 ≤ 1000; omega)
        refine ⟨_, rfl, .inl ⟨rfl, _, SqL.of hW7⟩, _, rfl, _, _, rfl, rfl, cl1, _, rfl, b, _, 2, vr, rfl, rfl, SqT.of eb, atI_nat (j := 2) rfl, z2, fun t1 n1 => ?_⟩
        have k8 := same_new n1 (.tup [.str (px qq ++ Str.ofString "r"), vr])
        refine ⟨_, rfl, _, _, rfl, rfl, cl2, _, rfl, b, _, 0, vl, rfl, rfl, SqT.of (k8 _ _ eb), atI_nat (j := 0) rfl, z2, fun t2 n2 => ⟨z2, fun L nL => ?_⟩⟩
        have k9 := same_new n2 (.tup [.str (px qq ++ Str.ofString "l"), vl])
        have k10 := same_new nL (.lst [.ref t1, .ref t2])
        have kk := k8.trans (k9.trans k10)
        have f1 := k10 _ _ (k9 _ _ (upd_same (H := H7) (a := t1) (o := .tup [.str (px qq ++ Str.ofString "r"), vr])))
        have f2 := k10 _ _ (upd_same (H := upd H7 t1 (.tup [.str (px qq ++ Str.ofString "r"), vr])) (a := t2) (o := .tup [.str (px qq ++ Str.ofString "l"), vl]))
        have f3 := upd_same (H := upd (upd H7 t1 (.tup [.str (px qq ++ Str.ofString "r"), vr])) t2 (.tup [.str (px qq ++ Str.ofString "l"), vl])) (a := L) (o := .lst [.ref t1, .ref t2])
        generalize upd (upd (upd H7 t1 (.tup [.str (px qq ++ Str.ofString "r"), vr])) t2 (.tup [.str (px qq ++ Str.ofString "l"), vl])) L (.lst [.ref t1, .ref t2]) = H8 at kk f1 f2 f3 ⊢
        rw [cr] at f1
        rw [cl] at f2
        have hw8 : WtAt H8 (W0 ++ [.ref t1, .ref t2]) (ts ++ [(qq ++ [true], tr), (qq ++ [false], tl)]) := (e5.keep (Tw.Same.keepT kk)).app (.cons f1 (hr'.same kk) (.cons f2 (hl.same kk) .nil))
        have lW : W0.length ≤ 900 := by
          have h1 := e5.len
          have h2 := ndsO ts
          have h3 := congrArg List.length hO
          rw [B.ops_len, List.length_append, List.length_append] at h3
          omega
        refine ⟨W, L, _, _, rfl, rfl, kk _ _ hW7, f3, small (by show W0.length + 2 ≤ 1000; omega), ?_⟩
        have kt9 : KeepT H8 (upd H8 W (.lst (W0 ++ [.ref t1, .ref t2]))) := fun b xs z => by
          rw [upd_ne (ne_of z (kk _ _ hW7) (by intro z; cases z))]
          exact z
        have sm9 : Same H (upd H8 W (.lst (W0 ++ [.ref t1, .ref t2]))) := fun b o z => by
          rw [upd_ne (ne_of_none z fW)]
          exact kk _ _ (sm7 _ _ z)
        have hA9 := (upd_ne (o := .lst (W0 ++ [.ref t1, .ref t2])) nAW).trans (kk _ _ hA7)
        have hB9 := (upd_ne (o := .lst (W0 ++ [.ref t1, .ref t2])) nBW).trans (kk _ _ hB7)
        refine ⟨⟨W0 ++ [.ref t1, .ref t2], ts ++ [(qq ++ [true], tr), (qq ++ [false], tl)], N ++ [qq], O, _, _, rfl, sm9, hA9, hB9, upd_same, hw8.keep kt9, ?_, ?_⟩, ?_⟩
        · rw [show ts ++ [(qq ++ [true], tr), (qq ++ [false], tl)] = (ts ++ [(qq ++ [true], tr)]) ++ [(qq ++ [false], tl)] by rw [List.append_assoc]; rfl, ndsS_snoc, ndsS_snoc, List.append_assoc, ← hN, ← List.append_assoc (tl.nds _)]
          rfl
        · rw [show ts ++ [(qq ++ [true], tr), (qq ++ [false], tl)] = (ts ++ [(qq ++ [true], tr)]) ++ [(qq ++ [false], tl)] by rw [List.append_assoc]; rfl, opsS_snoc, opsS_snoc, ← hO, ← List.append_assoc (tl.ops _)]
          rfl
        · rw [lenAt_of rfl hA9, lenAt_of rfl hB9, List.length_map, List.length_map, List.length_append]
          show 100 - (N.length + 1) - O.length < _
          omega
  · intro σ H' Q1 Q2 hQ h
    obtain ⟨v', e, l0, h⟩ := h
    exact ⟨v', e, l0, fun el ne => by
      obtain ⟨a, b, xs, e1, e2, h1, h2, k, e3, h⟩ := h el ne
      exact ⟨a, b, xs, e1, e2, h1, h2, k, e3, hQ _ _ h⟩⟩
end
/-! ### sorted(xs), xs a list of (int, text) -/
section
variable {X : Cx}
def shIT : Nat → Bool := fun i => i == 1
def rSortIT (K : PySem.W.Frag) : List V → Hp → VK → Prop := fun vs H Q => ∃ (a : Addr) (xs : List V), vs = [V.ref a] ∧ SqL K H a xs ∧ (∀ x ∈ xs, ∃ (t : Addr) (i : Int) (k : Str), x = .ref t ∧ H t = some (.tup [.int i, .str k])) ∧
  ∀ (ys : List V) (p : Addr), ys.Perm xs → H p = none → Q (.ref p) (upd H p (.lst ys))
theorem tups_of {h : Heap} {shape : Nat → Bool} : ∀ {vs : List Value}, (∀ v ∈ vs, ∃ f, PyProof.Rows.TupOf h shape v f) → ∃ fs, PyProof.Rows.TupsOf h shape vs fs
  | [], _ => ⟨[], .nil⟩
  | v :: vs, H => by
    obtain ⟨f, hf⟩ := H v List.mem_cons_self
    obtain ⟨fs, hfs⟩ := tups_of (vs := vs) fun u hu => H u (List.mem_cons_of_mem _ hu)
    exact ⟨f :: fs, .cons hf hfs⟩
theorem cr_sortIT : CallR X (.builtin "sorted") (rSortIT X.K) := by
  intro pins s σ H vs us Q I r h
  obtain ⟨a, xs, rfl, hs, hx, q⟩ := h
  obtain ⟨its, rv, hl, hz⟩ := I.list hs
  obtain ⟨u, rfl, ru⟩ := vals1 r
  obtain rfl : u = Value.ref a := ru
  obtain ⟨e1, e2⟩ := refs_back rv fun x m => by
    obtain ⟨t, _, _, e, _⟩ := hx x m
    exact ⟨t, e⟩
  have raw : ∀ v ∈ its, ∃ (t : Addr) (o : Obj) (i : Int) (k : Str) (t1 t2 : Tok) (n : Nat), v = .ref t ∧ s.heap.get? t = some o ∧ o.cls = .type "tuple" ∧ o.data = .seq #[.int i t1, .str k t2] n := fun v hv => by
    obtain ⟨t, rfl⟩ := e2 v hv
    have hm : V.ref t ∈ xs := by rw [e1]; exact List.mem_map.mpr ⟨_, hv, rfl⟩
    obtain ⟨t', i, k, e, ht⟩ := hx _ hm
    cases e
    obtain ⟨_, its2, r2, o, ho, hc, n, hd⟩ := I.hok _ _ ht
    obtain ⟨u1, u2, rfl, ri, rj⟩ := vals2 r2
    obtain ⟨t1, rfl⟩ := ri
    obtain ⟨t2, rfl⟩ := rj
    exact ⟨t, o, i, k, t1, t2, n, rfl, ho, hc, hd⟩
  obtain ⟨fs, hfs⟩ := tups_of (h := s.heap) (shape := shIT) (vs := its) fun v hv => by
    obtain ⟨t, o, i, k, t1, t2, n, rfl, ho, hc, hd⟩ := raw v hv
    exact ⟨.int i t1, t, o, _, n, rfl, ho, hc, hd, rfl, fun _ => ⟨i, t1, rfl⟩, (fun e => absurd e (by decide))⟩
  refine PyProof.Rows.G.sorted_tups (shape := shIT) hl.isList hfs (fun v hv => ?_) (by rw [← rv.length]; exact hz) fun st' hp _ _ => ?_
  · obtain ⟨t, o, i, k, t1, t2, n, rfl, ho, hc, hd⟩ := raw v hv
    exact ⟨[Sum.inl i, Sum.inr k.cps.toList], PyProof.Rows.G.tupKeyC_of ho hc hd rfl⟩
  · generalize hout : (arrOf st').map (·.2) = out
    have hp' : out.toList.Perm its := by
      rw [← hout, Array.toList_map]
      have e := (Array.perm_iff_toList_perm.mp hp).map Prod.snd
      rw [pairsOf_toList, List.map_snd_zip (Nat.le_refl _)] at e
      exact e
    have h3 : ∀ u ∈ out.toList, ∃ a, u = Value.ref a := fun u hu => e2 u (hp'.mem_iff.mp hu)
    obtain ⟨ep, he'⟩ := PyProof.Rows.sortedAll_at s.heap its out
    have hpp : (out.toList.map backV).Perm xs := by rw [e1]; exact hp'.map backV
    have hlen : (out.toList.map backV).length ≤ sizeLine := by rw [hpp.length_eq]; exact hz
    exact ⟨.ref _, upd H (s.heap.objs.size + 1) (.lst (out.toList.map backV)), I.laid (t' := s.toks) (fun _ _ => PyProof.Rows.sortedAll_old) (Nat.le_succ _) ⟨hlen, out.toList, ep, vals_back h3, he'⟩, rfl, q _ _ hpp (I.hok.fresh (Nat.le_succ _))⟩
end
theorem B.at_snoc : ∀ (t : B) (q : List Bool) (b : Bool) {u : B}, t.at q = some u → t.at (q ++ [b]) = u.at [b]
  | t, [], b, u, h => by cases t <;> (cases h; rfl)
  | .nil, _ :: _, _, _, h => by cases h
  | .node l x r, false :: q, b, u, h => l.at_snoc q b (show l.at q = some u from h)
  | .node l x r, true :: q, b, u, h => r.at_snoc q b (show r.at q = some u from h)
def spSpot : Sp := fun vs H Q _ => ∃ (v : V) (t : B) (c : Nat), vs = [v, .str (ch c)] ∧ BAt H v t ∧ t.size ≤ 30 ∧ ∀ (p : List Bool) (H' : Hp), Same H H' → t.at p = some .nil → Q (.str (px p)) H'
def spSTree : Sp := fun vs H Q _ => ∃ (s : Addr) (n m : Nat), vs = [.ref s, .int (m : Int)] ∧ Strm H s n ∧ n ≤ 900000 ∧ m ≤ 12 ∧ ∀ (v : V) (t : B) (n' : Nat) (H' : Hp), BAt H' v t → t.size = m → t.lts → Strm H' s n' → n' ≤ n + m → But s H H' → Q v H'
theorem lts_one {c : Nat} (h : isLow c = true) : (B.node .nil c .nil).lts := B.lts_node.mpr ⟨h, B.lts_nil, B.lts_nil⟩
theorem alph_mem : ∀ c ∈ alph, isLow c = true := by decide +kernel
theorem lts_of_mem {l : List Nat} (h : ∀ c ∈ l, isLow c = true) {i c : Nat} (e : l[i]? = some c) : isLow c = true := h c (List.mem_of_getElem? e)
def stLen (σ : L2.St) : Nat := match σ[2]? with
  | some (some (V.str x)) => 200 - x.length
  | _ => 0
section
variable {P : Program} {w : World} {K : PySem.W.Frag} {mg : Str → Option Value} {base : Heap} {f : Addr} {fd : FuncData}
theorem ok_spot1 {k : Nat} (F : Fun K "_law_spot" "_law_spot" s__law_spot f fd) : FnOk P w K mg base CX0 (k + 1) f fd ["_law_tree_here", "_law_letter_here"] spSpot := by
  refine F.ok sc__law_spot (fun vs H Q E h => ?_) (fun cdv A outer s H vs Q E hr h => ?_)
  · obtain ⟨v, t, c, rfl, _⟩ := h
    rfl
  obtain ⟨v, t, c, rfl, ht, hz, q⟩ := h
  refine ⟨_, (pss_cons (ps_set (i := 2) sc__law_spot.nd rfl (.inl rfl) pe_str)
    (pss_cons (ps_while PassesOwn.never (pt_cmpR op_notN (pv 0) pe_non (nomark _))
      (pss_one (ps_asg (pe_ifExp (pt_cmpR op_lt_str (pv 1) (pe_ix ix_tup (pv 0) pe_int (fun _ _ => rfl)) (nomark _)) (pe_tup (pa_cons (pe_op op_add_str (pv 2) pe_str) (pa_cons (pe_ix ix_tup (pv 0) pe_int (fun _ _ => rfl)) pa_nil))) (pe_tup (pa_cons (pe_op op_add_str (pv 2) pe_str) (pa_cons (pe_ix ix_tup (pv 0) pe_int (fun _ _ => rfl)) pa_nil)))) (pg_tup rfl (pgs_cons (pg_name (i := 2) sc__law_spot.nd rfl (.inl rfl)) (pgs_cons (pg_name (i := 0) sc__law_spot.nd rfl (.inl rfl)) pgs_nil))))))
    (pss_one (ps_ret (pv 2))))), ?_⟩
  refine while_by (fun σ H' => ∃ (p : List Bool) (vi : V) (ti : B), σ = [some vi, some (.str (ch c)), some (.str (px p))] ∧ Same H H' ∧ BAt H' vi ti ∧ t.at p = some ti) (fun σ _ => stLen σ) ⟨[], v, t, by rw [px_nil]; rfl, Same.refl H, ht, by cases t <;> rfl⟩ (fun σ H' hp => ?_) ?_
  · obtain ⟨p, vi, ti, rfl, sm, hi, ei⟩ := hp
    have hsz := t.at_size p ei
    rcases hi.inv with ⟨rfl, rfl⟩ | ⟨b, vl, vr, x, tl, tr, rfl, rfl, eb, hl, hr'⟩
    · exact ⟨_, rfl, rfl, _, rfl, iteF ⟨_, rfl, q p H' sm ei⟩⟩
    have cl : px p ++ Str.ofString "l" = px (p ++ [false]) := by rw [str_l]; exact px_snoc p false
    have cr : px p ++ Str.ofString "r" = px (p ++ [true]) := by rw [str_r]; exact px_snoc p true
    have cl1 : (px p).length + (Str.ofString "r").length ≤ sizeLine := small (by rw [px_len, str_r, tx_len]; show _ + 1 ≤ 1000; omega)
    have cl2 : (px p).length + (Str.ofString "l").length ≤ sizeLine := small (by rw [px_len, str_l, tx_len]; show _ + 1 ≤ 1000; omega)
    have ms : ∀ (d : Bool) (y : Option V), stLen [y, some (.str (ch c)), some (.str (px (p ++ [d])))] < stLen [some (.ref b), some (.str (ch c)), some (.str (px p))] := fun b y => by
      show 200 - (px (p ++ [_])).length < 200 - (px p).length
      rw [px_len, px_len, List.length_append]
      show 200 - (p.length + 1) < _
      omega
    refine ⟨_, rfl, rfl, _, rfl, iteT ?_⟩
    refine ⟨_, rfl, _, rfl, b, _, 1, _, rfl, rfl, SqT.of eb, atI_nat (j := 1) rfl, _, _, rfl, rfl, _, rfl, ite2 (fun _ => ?_) (fun _ => ?_)⟩
    · refine ⟨_, rfl, _, _, rfl, rfl, cl2, _, rfl, b, _, 0, vl, rfl, rfl, SqT.of eb, atI_nat (j := 0) rfl, (by show 2 ≤ sizeLine; decide), fun r nr => ?_⟩
      have k2 := same_new nr (.tup [.str (px p ++ Str.ofString "l"), vl])
      refine ⟨r, _, rfl, SqT.of upd_same, rfl, _, _, rfl, _, _, rfl, rfl, ?_⟩
      refine ⟨⟨p ++ [false], vl, tl, by rw [← cl]; rfl, sm.trans k2, hl.same k2, (t.at_snoc p false ei).trans (by cases tl <;> rfl)⟩, ?_⟩
      have := ms false (some vl)
      rw [← cl] at this
      exact this
    · refine ⟨_, rfl, _, _, rfl, rfl, cl1, _, rfl, b, _, 2, vr, rfl, rfl, SqT.of eb, atI_nat (j := 2) rfl, (by show 2 ≤ sizeLine; decide), fun r nr => ?_⟩
      have k2 := same_new nr (.tup [.str (px p ++ Str.ofString "r"), vr])
      refine ⟨r, _, rfl, SqT.of upd_same, rfl, _, _, rfl, _, _, rfl, rfl, ?_⟩
      refine ⟨⟨p ++ [true], vr, tr, by rw [← cr]; rfl, sm.trans k2, hr'.same k2, (t.at_snoc p true ei).trans (by cases tr <;> rfl)⟩, ?_⟩
      have := ms true (some vr)
      rw [← cr] at this
      exact this
  · intro σ H' Q1 Q2 hQ h
    obtain ⟨v', e, h1, k, e2, h⟩ := h
    exact ⟨v', e, h1, k, e2, hQ _ _ h⟩
theorem ok_sortedTree (F : Fun K "_law_sorted_tree" "_law_sorted_tree" s__law_sorted_tree f fd) (M : Mgs mg) (D_law_take : Df P w K mg base 1 "_law_take" ["_law_stream_here", "_law_many"] spTake1) (D_law_spot : Df P w K mg base 1 "_law_spot" ["_law_tree_here", "_law_letter_here"] spSpot) (D_law_grafted : Df P w K mg base 20 "_law_grafted" ["_law_tree_here", "_law_path", "_law_part_here"] (spWith 20)) :
    FnOk P w K mg base CX0 21 f fd ["_law_stream_here", "_law_size"] spSTree := by
  refine F.ok (k := 20) sc__law_sorted_tree (fun vs H Q E h => ?_) (fun cdv A outer s H vs Q E hr h => ?_)
  · obtain ⟨sa, n, m, rfl, _⟩ := h
    rfl
  obtain ⟨sa, n, m, rfl, h, hn, hm, q⟩ := h
  refine ⟨_, (pss_cons (ps_par (i := 2) (j := 3) (by rfl) sc__law_sorted_tree.nd rfl rfl (by decide) rfl rfl (pa_cons pe_non (pa_cons (pe_callTy (call_signs rfl) rfl M.list (by decide +kernel) (pa_cons pe_str pa_nil)) pa_nil)) (by rfl))
    (pss_cons (ps_for PassesOwn.never rfl (pi_range1 rfl M.range (pa_cons (pv 1) pa_nil)) (pg_name (i := 4) sc__law_sorted_tree.nd rfl (.inl rfl))
      (pss_cons (ps_set (i := 5) sc__law_sorted_tree.nd rfl (.inl rfl) (pe_bm PySem.F.plainAttrs_list PySem.F.slot_list_pop PySem.F.type_list_pop mt_popAt (pv 3) (pa_cons (pe_call D_law_take.ok (hr.mono (by omega)) rfl D_law_take.g D_law_take.kp D_law_take.b .nil pass0 (pa_cons (pv 0) (pa_cons (pe_callB call_len_seq rfl M.len PySem.boot_len (pa_cons (pv 3) pa_nil)) pa_nil))) pa_nil)))
    (pss_one (ps_set (i := 2) sc__law_sorted_tree.nd rfl (.inl rfl) (pe_call D_law_grafted.ok (hr.mono (by omega)) rfl D_law_grafted.g D_law_grafted.kp D_law_grafted.b .nil pass0 (pa_cons (pv 2) (pa_cons (pe_call D_law_spot.ok (hr.mono (by omega)) rfl D_law_spot.g D_law_spot.kp D_law_spot.b .nil pass0 (pa_cons (pv 2) (pa_cons (pv 5) pa_nil))) (pa_cons (pe_tup (pa_cons pe_non (pa_cons (pv 5) (pa_cons pe_non pa_nil)))) pa_nil))))))))
    (pss_one (ps_ret (pv 2))))), ?_⟩
  refine ⟨_, rfl, by decide +kernel, fun la nla => ?_⟩
  have k1 := same_new nla (.lst (alph.map vc))
  have h1 : Strm (upd H la (.lst (alph.map vc))) sa n := h.same k1
  have e1 : (upd H la (.lst (alph.map vc))) la = some (.lst (alph.map vc)) := upd_same
  have nls : la ≠ sa := fun z => by obtain ⟨xs, e⟩ := h.lst; rw [← z, nla] at e; cases e
  refine ⟨_, _, rfl, ?_⟩
  refine ⟨_, rfl, (m : Int), rfl, by omega, by omega, ?_⟩
  refine for_range (lo := 0) (n := m) (fun i σ H' => ∃ (vi : V) (ti : B) (n' : Nat) (ls : List Nat) (y4 y5 : Option V), σ = [some (.ref sa), some (.int (m : Int)), some vi, some (.ref la), y4, y5] ∧ BAt H' vi ti ∧ ti.size = i ∧ ti.lts ∧ Strm H' sa n' ∧ n' ≤ n + i ∧ H' la = some (.lst (ls.map vc)) ∧ ls.length = 26 - i ∧ (∀ c ∈ ls, isLow c = true) ∧ But sa H H')
    ⟨.non, .nil, n, alph, none, none, rfl, .nil, rfl, B.lts_nil, h1, by omega, e1, by decide +kernel, alph_mem, But.of k1⟩ (fun i σ H2 hi hp => ?_) (fun σ H2 hp => ?_)
  · obtain ⟨vi, ti, n', ls, y4, y5, rfl, b1, z1, l1, st1, hn1, e2, hl1, al, bu⟩ := hp
    refine ⟨_, rfl, .inl ⟨rfl, _, SqL.of e2⟩, _, rfl, _, rfl, la, _, rfl, .inl (SqL.of e2), sa, n', _, rfl, st1, by omega, by rw [List.length_map]; omega, by rw [List.length_map]; omega, fun j n2 H3 lj st3 hn2 bu3 => ?_⟩
    rw [List.length_map] at lj
    have lj' : j < ls.length := by omega
    have e3 := bu3 _ _ nls e2
    obtain ⟨xs0, es0⟩ := st1.lst
    have b3 := b1.keep (But.keepL es0 bu3)
    refine ⟨la, _, (j : Int), j, vc (ls[j]'lj'), rfl, rfl, e3, by omega, by omega, by rw [PyProof.Rows.seqIndex_at (by omega) (by rw [List.length_map]; omega)]; rfl, by rw [List.getElem?_map, List.getElem?_eq_getElem lj']; rfl, ?_⟩
    have hc := al _ (List.getElem_mem lj')
    generalize ls[j]'lj' = c at hc ⊢
    have e4 : (upd H3 la (.lst ((ls.map vc).eraseIdx j))) la = some (.lst ((ls.eraseIdx j).map vc)) := by rw [upd_same, erase_map]
    have bu4 : But sa H (upd H3 la (.lst ((ls.map vc).eraseIdx j))) := fun b o hb e => by
      rw [upd_ne (ne_of_none e nla)]
      exact bu3 _ _ hb (bu _ _ hb e)
    have b4 : BAt (upd H3 la (.lst ((ls.map vc).eraseIdx j))) vi ti := b3.keep fun b xs e => by
      rw [upd_ne (ne_of e e3 (by intro z; cases z))]
      exact e
    have st4 : Strm (upd H3 la (.lst ((ls.map vc).eraseIdx j))) sa n2 := by
      obtain ⟨r, c', er, cc⟩ := st3
      exact ⟨r, c', by rw [upd_ne nls.symm]; exact er, cc⟩
    generalize upd H3 la (.lst ((ls.map vc).eraseIdx j)) = H4 at e4 bu4 b4 st4 ⊢
    refine ⟨_, rfl, _, rfl, _, rfl, vi, ti, c, rfl, b4, by omega, fun p H5 s5 hp => ?_⟩
    have hpl := ti.at_size p hp
    refine ⟨_, rfl, (by show 3 ≤ sizeLine; decide), fun r nr => ?_⟩
    have k6 := same_new nr (.tup [.non, .str (ch c), .non])
    have b6 := b4.same (s5.trans k6)
    refine ⟨vi, .ref r, ti, .node .nil c .nil, p, rfl, b6, .node upd_same .nil .nil, by omega, by omega, by rw [hp]; rfl, fun v' H7 s7 b7 => ?_⟩
    have s47 := s5.trans (k6.trans s7)
    have zz := ti.put_size p (.node .nil c .nil) hp
    refine ⟨v', _, n2, ls.eraseIdx j, _, _, rfl, b7, ?_, ti.put_lts p l1 (lts_one hc), st4.same s47, by omega, s47 _ _ e4, ?_, fun d hd => al d (List.mem_of_mem_eraseIdx hd), bu4.trans (But.of s47)⟩
    · have e0 : (B.node .nil c .nil).size = 1 := rfl
      have e1 : B.nil.size = 0 := rfl
      omega
    · rw [List.length_eraseIdx_of_lt lj']
      omega
  · obtain ⟨vi, ti, n', ls, y4, y5, rfl, b1, z1, l1, st1, hn1, e2, hl1, al, bu⟩ := hp
    exact ⟨_, rfl, q vi ti n' H2 b1 z1 l1 st1 hn1 bu⟩
end
/-! ### the drawn tree -/
theorem at_any {xs : List V} {z : Int} (h1 : -(xs.length : Int) ≤ z) (h2 : z < xs.length) : ∃ x ∈ xs, atI xs z = some x := by
  unfold atI ixN
  by_cases h : 0 ≤ z
  · rw [if_pos h, if_pos (by omega)]
    refine ⟨xs[z.toNat]'(by omega), List.getElem_mem _, ?_⟩
    exact List.getElem?_eq_getElem _
  · rw [if_neg h, if_pos (by omega)]
    refine ⟨xs[(z + xs.length).toNat]'(by omega), List.getElem_mem _, ?_⟩
    exact List.getElem?_eq_getElem _
def spTreeL : Sp := fun vs H Q _ => ∃ (s : Addr) (n m : Nat), vs = [.ref s, .int (m : Int)] ∧ Strm H s n ∧ n ≤ 800000 ∧ 0 < m ∧ m ≤ 12 ∧ ∀ (v : V) (t : B) (n' : Nat) (H' : Hp), BAt H' v t → 1 ≤ t.size → t.size ≤ m → t.lts → Strm H' s n' → n' ≤ n + 200 → But s H H' → Q v H'
def OpAt (H : Hp) (t : B) (x : V) : Prop := ∃ (a : Addr) (q : List Bool), x = .ref a ∧ t.at q = some .nil ∧ H a = some (.tup [.int (q.length : Int), .str (px q)])
theorem OpAt.keep {H H' : Hp} (k : KeepT H H') {t : B} {x : V} (h : OpAt H t x) : OpAt H' t x := by
  obtain ⟨a, q, e, h1, h2⟩ := h
  exact ⟨a, q, e, h1, k _ _ h2⟩
section
variable {P : Program} {w : World} {K : PySem.W.Frag} {mg : Str → Option Value} {base : Heap} {f : Addr} {fd : FuncData}
theorem ok_treeL (F : Fun K "_law_tree" "_law_tree" s__law_tree f fd) (M : Mgs mg) (D_law_take : Df P w K mg base 1 "_law_take" ["_law_stream_here", "_law_many"] spTake1) (D_law_letter : Df P w K mg base 2 "_law_letter" ["_law_stream_here"] spLetter1) (D_law_sorted_tree : Df P w K mg base 21 "_law_sorted_tree" ["_law_stream_here", "_law_size"] spSTree) (D_law_paths : Df P w K mg base 1 "_law_paths" ["_law_tree_here"] spPaths) (D_law_grafted : Df P w K mg base 20 "_law_grafted" ["_law_tree_here", "_law_path", "_law_part_here"] (spWith 20)) :
    FnOk P w K mg base CX0 22 f fd ["_law_stream_here", "_law_top"] spTreeL := by
  refine F.ok (k := 21) sc__law_tree (fun vs H Q E h => ?_) (fun cdv A outer s H vs Q E hr h => ?_)
  · obtain ⟨sa, n, m, rfl, _⟩ := h
    rfl
  obtain ⟨sa, n, m, rfl, h, hn, m0, m1, q⟩ := h
  refine ⟨_, (pss_cons (ps_par3 (i := 2) (j := 3) (l := 4) (by rfl) sc__law_tree.nd rfl rfl rfl (by decide) (by decide) (by decide) rfl rfl rfl (pa_cons (pe_op op_add pe_int (pe_call D_law_take.ok (hr.mono (by omega)) rfl D_law_take.g D_law_take.kp D_law_take.b .nil pass0 (pa_cons (pv 0) (pa_cons (pv 1) pa_nil)))) (pa_cons (pe_call D_law_take.ok (hr.mono (by omega)) rfl D_law_take.g D_law_take.kp D_law_take.b .nil pass0 (pa_cons (pv 0) (pa_cons pe_int pa_nil))) (pa_cons pe_non pa_nil))) (by rfl))
    (pss_cons (ps_if (pt_cmpR op_eq (pv 3) pe_int (nomark _))
      (pss_one (ps_ret (pe_call D_law_sorted_tree.ok (hr.mono (by omega)) rfl D_law_sorted_tree.g D_law_sorted_tree.kp D_law_sorted_tree.b .nil pass0 (pa_cons (pv 0) (pa_cons (pv 2) pa_nil))))) pss_nil)
    (pss_cons (ps_for PassesOwn.never rfl (pi_range1 rfl M.range (pa_cons (pv 2) pa_nil)) (pg_name (i := 5) sc__law_tree.nd rfl (.inl rfl))
      (pss_cons (ps_set (i := 7) sc__law_tree.nd rfl (.inl rfl) (pe_callB cr_sortIT rfl M.sorted (by decide +kernel) (pa_cons (pe_lc (own := [("_law_path", 6)]) (g := gName 6) (tt := tYes) rfl sc__law_tree.nd (pi_list (pe_ix ix_tup (pe_call D_law_paths.ok (hr.mono (by omega)) rfl D_law_paths.g D_law_paths.kp D_law_paths.b .nil pass0 (pa_cons (pv 4) pa_nil)) pe_int (fun _ _ => rfl))) (blkOk_by (N := ["_law_stream_here", "_law_top", "_law_size", "_law_way", "_law_tree_here", "_law_k", "_law_path", "_law_opens", "_law_spot_here"]) (sc := defScope s__law_tree) (by decide +kernel)) (fun _ _ _ _ _ => (pg_name (i := 6) sc__law_tree.nd rfl (.inl rfl))) (fun _ _ _ _ _ => pts_nil) (fun _ _ _ _ _ => (pe_tup (pa_cons (pe_callB call_len_str rfl M.len PySem.boot_len (pa_cons (pv 6) pa_nil)) (pa_cons (pv 6) pa_nil))))) pa_nil)))
    (pss_cons (ps_set (i := 8) sc__law_tree.nd rfl (.inl rfl) (pe_ix ix_list (pe_lst (pa_cons (pe_call D_law_take.ok (hr.mono (by omega)) rfl D_law_take.g D_law_take.kp D_law_take.b .nil pass0 (pa_cons (pv 0) (pa_cons (pe_callB call_len_seq rfl M.len PySem.boot_len (pa_cons (pv 7) pa_nil)) pa_nil))) (pa_cons pe_int (pa_cons (pe_un un_neg pe_int) (pa_cons (pe_op op_sub (pe_un un_neg pe_int) (pe_call D_law_take.ok (hr.mono (by omega)) rfl D_law_take.g D_law_take.kp D_law_take.b .nil pass0 (pa_cons (pv 0) (pa_cons (pe_callB (call_min2 rfl) rfl M.min (by decide +kernel) (pa_cons pe_int (pa_cons (pe_callB call_len_seq rfl M.len PySem.boot_len (pa_cons (pv 7) pa_nil)) pa_nil))) pa_nil)))) pa_nil))))) (pv 3) (fun _ _ => rfl)))
    (pss_one (ps_set (i := 4) sc__law_tree.nd rfl (.inl rfl) (pe_call D_law_grafted.ok (hr.mono (by omega)) rfl D_law_grafted.g D_law_grafted.kp D_law_grafted.b .nil pass0 (pa_cons (pv 4) (pa_cons (pe_ix ix_tup (pe_ix ix_list (pv 7) (pv 8) (fun _ _ => rfl)) pe_int (fun _ _ => rfl)) (pa_cons (pe_tup (pa_cons pe_non (pa_cons (pe_call D_law_letter.ok (hr.mono (by omega)) rfl D_law_letter.g D_law_letter.kp D_law_letter.b .nil pass0 (pa_cons (pv 0) pa_nil)) (pa_cons pe_non pa_nil)))) pa_nil)))))))))
    (pss_one (ps_ret (pv 4)))))), ?_⟩
  refine ⟨_, rfl, _, rfl, sa, n, (m : Int), rfl, h, by omega, by omega, by omega, fun j n1 H1 l1 st1 hn1 bu1 => ?_⟩
  refine ⟨_, _, rfl, rfl, _, rfl, sa, n1, 5, rfl, st1, by omega, by decide, by decide, fun wy n2 H2 l2 st2 hn2 bu2 => ?_⟩
  have bu2 := bu1.trans bu2
  refine ⟨_, _, _, rfl, ?_⟩
  have hw : wy < 5 := by omega
  have hj : j < m := by omega
  refine ⟨_, rfl, rfl, _, rfl, ?_⟩
  by_cases h4 : wy = 4
  · subst h4
    refine iteT ⟨_, rfl, _, rfl, sa, n2, 1 + j, by rw [Int.natCast_add]; rfl, st2, by omega, by omega, fun v t n' H' b z l st hn' bu => ?_⟩
    exact q v t n' H' b (by omega) (by omega) l st (by omega) (bu2.trans bu)
  have e4 : decide (V.int (wy : Int) = V.int 4) = false := decide_eq_false fun z => h4 (by have := V.int.inj z; omega)
  rw [e4]
  refine iteF ?_
  refine ⟨_, rfl, (1 + (j : Int)), rfl, by omega, by omega, ?_⟩
  have es : (1 + (j : Int)) = ((1 + j : Nat) : Int) := by omega
  rw [es]
  refine for_range (lo := 0) (n := 1 + j) (fun i σ H' => ∃ (vi : V) (ti : B) (n' : Nat) (y5 y6 y7 y8 : Option V), σ = [some (.ref sa), some (.int (m : Int)), some (.int (1 + (j : Int))), some (.int (wy : Int)), some vi, y5, y6, y7, y8] ∧ BAt H' vi ti ∧ ti.size = i ∧ ti.lts ∧ Strm H' sa n' ∧ n' ≤ n2 + 4 * i ∧ But sa H2 H')
    ⟨.non, .nil, n2, none, none, none, none, rfl, .nil, rfl, B.lts_nil, st2, by omega, But.refl _ _⟩ (fun i' σ H3 hi hp => ?_) (fun σ H3 hp => ?_)
  · obtain ⟨vi, ti, n', y5, y6, y7, y8, rfl, b3, z3, l3, st3, hn3, bu3⟩ := hp
    refine ⟨_, rfl, vi, ti, rfl, b3, by omega, fun p A B' H4 s4 np nA nB ep eA eB => ?_⟩
    refine ⟨p, _, 1, _, rfl, rfl, SqT.of ep, atI_nat (j := 1) rfl, ?_⟩
    refine ⟨B', rfl, ⟨_, SqL.of eB⟩, fun D nD => ?_⟩
    have k5 := same_new nD (.lst [])
    refine lc_list (K := K) (a := B') (xs := (ti.ops []).map fun p => V.str (px p)) (fun i H' => Same H4 H' ∧ ∃ us, H' D = some (.lst us) ∧ us.length = i ∧ ∀ x ∈ us, OpAt H' ti x) ⟨k5, [], upd_same, rfl, fun x hx => nomatch hx⟩ (fun i H' _ hp => SqL.of (hp.1 _ _ eB)) (fun i x H' hx hp => ?_) (fun H' hp => ?_)
    · obtain ⟨sm, us, eu, lu, hu⟩ := hp
      obtain ⟨qq, hq, rfl⟩ : ∃ qq, (ti.ops [])[i]? = some qq ∧ V.str (px qq) = x := by
        rw [List.getElem?_map] at hx
        cases e : (ti.ops [])[i]? with
        | none => rw [e] at hx; cases hx
        | some qq => rw [e] at hx; exact ⟨qq, rfl, Option.some.inj hx⟩
      have hat := B.ops_at.mp (List.mem_of_getElem? hq)
      have hql := ti.at_size qq hat
      have hil := (List.getElem?_eq_some_iff.mp hq).1
      rw [B.ops_len] at hil
      refine ⟨rfl, kept ?_⟩
      refine ⟨_, rfl, px qq, rfl, small (by rw [px_len]; omega), _, rfl, (by show 2 ≤ sizeLine; decide), fun r nr => ?_⟩
      have k6 := same_new nr (.tup [.int ((px qq).length : Int), .str (px qq)])
      have ner : D ≠ r := fun z => by rw [← z, eu] at nr; cases nr
      have eu' := k6 _ _ eu
      have kt : KeepT H' (upd (upd H' r (.tup [.int ((px qq).length : Int), .str (px qq)])) D (.lst (us ++ [.ref r]))) := fun b xs z => by
        rw [upd_ne (ne_of (k6 _ _ z) eu' (by intro z; cases z))]
        exact k6 _ _ z
      refine ⟨us, eu', small1000 (by omega), fun b o z => ?_, us ++ [.ref r], upd_same, by rw [List.length_append, lu]; rfl, fun x hx => ?_⟩
      · rw [upd_ne (ne_of_none z nD)]
        exact k6 _ _ (sm _ _ z)
      · rcases List.mem_append.mp hx with hx | hx
        · exact (hu x hx).keep kt
        · rw [List.mem_singleton.mp hx]
          refine ⟨r, qq, rfl, hat, ?_⟩
          rw [upd_ne ner.symm, upd_same, px_len]
    · obtain ⟨sm, us, eu, lu, hu⟩ := hp
      refine ⟨D, us, rfl, SqL.of eu, fun x hx => ?_, fun ys so pm nso => ?_⟩
      · obtain ⟨a, qq, e, _, h⟩ := hu x hx
        exact ⟨a, _, _, e, h⟩
      have k7 := same_new nso (.lst ys)
      have eso := upd_same (H := H') (a := so) (o := .lst ys)
      have s37 := s4.trans (sm.trans k7)
      have hys : ∀ x ∈ ys, OpAt (upd H' so (.lst ys)) ti x := fun x hx => (hu x (pm.mem_iff.mp hx)).keep (Tw.Same.keepT k7)
      have lys : ys.length = i' + 1 := by rw [pm.length_eq, lu, List.length_map, B.ops_len, z3]
      have st7 := st3.same s37
      have b7 := b3.same s37
      have neS : so ≠ sa := fun z => by obtain ⟨xs, e⟩ := st3.lst; rw [z, (s4.trans sm) _ _ e] at nso; cases nso
      generalize upd H' so (.lst ys) = H7 at s37 eso hys st7 b7 ⊢
      refine ⟨_, rfl, _, rfl, so, _, rfl, .inl (SqL.of eso), sa, n', _, rfl, st7, by omega, by omega, by omega, fun j1 n8 H8 l8 st8 hn8 bu8 => ?_⟩
      have eso8 := bu8 _ _ neS eso
      refine ⟨_, rfl, _, rfl, _, rfl, _, rfl, so, _, rfl, .inl (SqL.of eso8), 2, _, rfl, ?_⟩
      have mn : ∃ mm : Int, (if (ys.length : Int) < 2 then (ys.length : Int) else 2) = mm ∧ 0 < mm ∧ mm ≤ 2 ∧ mm ≤ ys.length := by
        by_cases hc : (ys.length : Int) < 2
        · exact ⟨_, if_pos hc, by omega, by omega, by omega⟩
        · exact ⟨_, if_neg hc, by omega, by omega, by omega⟩
      obtain ⟨mm, emm, mm0, mm2, mml⟩ := mn
      rw [emm]
      refine ⟨sa, n8, mm, rfl, st8, by omega, mm0, by omega, fun j2 n9 H9 l9 st9 hn9 bu9 => ?_⟩
      refine ⟨_, _, rfl, rfl, (by show 4 ≤ sizeLine; decide), fun L nL => ?_⟩
      have kA := same_new nL (.lst [.int (j1 : Int), .int 0, .int (-1), .int (-1 - (j2 : Int))])
      have eL := upd_same (H := H9) (a := L) (o := .lst [.int (j1 : Int), .int 0, .int (-1), .int (-1 - (j2 : Int))])
      have esoA := kA _ _ (bu9 _ _ neS eso8)
      have buA := bu8.trans (bu9.trans (But.of kA))
      have stA := st9.same kA
      obtain ⟨xs7, es7⟩ := st7.lst
      have ktA : KeepT H7 (upd H9 L (.lst [.int (j1 : Int), .int 0, .int (-1), .int (-1 - (j2 : Int))])) := But.keepL es7 buA
      have bA := b7.keep ktA
      have hysA : ∀ x ∈ ys, OpAt (upd H9 L (.lst [.int (j1 : Int), .int 0, .int (-1), .int (-1 - (j2 : Int))])) ti x := fun x hx => (hys x hx).keep ktA
      generalize upd H9 L (.lst [.int (j1 : Int), .int 0, .int (-1), .int (-1 - (j2 : Int))]) = HA at eL esoA buA stA bA hysA ⊢
      have hv : ∃ z : Int, atI [V.int (j1 : Int), .int 0, .int (-1), .int (-1 - (j2 : Int))] (wy : Int) = some (.int z) ∧ -(ys.length : Int) ≤ z ∧ z < ys.length := by
        match wy, hw, h4 with
        | 0, _, _ => exact ⟨j1, rfl, by omega, by omega⟩
        | 1, _, _ => exact ⟨0, rfl, by omega, by omega⟩
        | 2, _, _ => exact ⟨-1, rfl, by omega, by omega⟩
        | 3, _, _ => exact ⟨-1 - (j2 : Int), rfl, by omega, by omega⟩
        | 4, _, h => exact absurd rfl h
      obtain ⟨z, hz, z1, z2⟩ := hv
      refine ⟨_, rfl, L, _, _, _, rfl, rfl, SqL.of eL, hz, ?_⟩
      obtain ⟨x, hx, ex⟩ := at_any z1 z2
      obtain ⟨ta, qq, rfl, hat, eta⟩ := hysA x hx
      have hql := ti.at_size qq hat
      refine ⟨_, rfl, _, rfl, _, rfl, so, _, z, _, rfl, rfl, SqL.of esoA, ex, ta, _, 1, _, rfl, rfl, SqT.of eta, atI_nat (j := 1) rfl, _, rfl, sa, n9, rfl, stA, by omega, fun c nB HB hlow stB hnB buB => ?_⟩
      refine ⟨(by show 3 ≤ sizeLine; decide), fun r nr => ?_⟩
      have kC := same_new nr (.tup [.non, .str (ch c), .non])
      obtain ⟨xsA, esA⟩ := stA.lst
      have bC := (bA.keep (But.keepL esA buB)).same kC
      refine ⟨vi, .ref r, ti, .node .nil c .nil, qq, rfl, bC, .node upd_same .nil .nil, by omega, by omega, by rw [hat]; rfl, fun v' HD sD bD => ?_⟩
      have zz := ti.put_size qq (.node .nil c .nil) hat
      have e0 : (B.node .nil c .nil).size = 1 := rfl
      have e1 : B.nil.size = 0 := rfl
      exact ⟨v', _, nB, _, _, _, _, rfl, bD, by omega, ti.put_lts qq l3 (lts_one hlow), (stB.same kC).same sD, by omega, bu3.trans ((But.of s37).trans (buA.trans (buB.trans ((But.of kC).trans (But.of sD)))))⟩
  · obtain ⟨vi, ti, n', y5, y6, y7, y8, rfl, b1, z1, l1, st1', hn1', bu⟩ := hp
    exact ⟨_, rfl, q vi ti n' H3 b1 (by omega) (by omega) l1 st1' (by omega) (bu2.trans bu)⟩
end
/-! ### what is due -/
theorem flat_px (L : List (List Bool)) : (L.map fun p => V.str (px p)).all flatV = true := by
  rw [List.all_eq_true]
  intro x hx
  obtain ⟨k, _, rfl⟩ := List.mem_map.mp hx
  rfl
theorem inV_px (p : List Bool) (L : List (List Bool)) : inV (V.str (px p)) (L.map fun p => V.str (px p)) = decide (p ∈ L) := by
  unfold inV
  by_cases h : p ∈ L
  · rw [decide_eq_true h, List.any_eq_true]
    exact ⟨V.str (px p), List.mem_map.mpr ⟨p, h, rfl⟩, by show eqV (.str _) (.str _) = true; simp [eqV]⟩
  · rw [decide_eq_false h, Bool.eq_false_iff]
    intro e
    obtain ⟨y, hy, e⟩ := List.any_eq_true.mp e
    obtain ⟨k, hk, rfl⟩ := List.mem_map.mp hy
    have e : eqV (.str (px k)) (.str (px p)) = true := e
    simp only [eqV, beq_iff_eq] at e
    exact h (px_inj e ▸ hk)
theorem Does.same {t t' u : B} {e : Ed} (h : Does t e t') (g : Does t e u) : u = t' := by
  cases h with
  | put h1 _ _ => cases g; rfl
  | cut h1 _ _ => cases g; rfl
  | label h1 _ =>
    cases g with
    | label g1 _ => rw [h1] at g1; cases g1; rfl
  | turn h1 _ =>
    cases g with
    | turn g1 _ => rw [h1] at g1; cases g1; rfl
/-- an edit as the law draws it -/
def Drawn (t : B) : Ed → Prop
  | .put p c => t.at p = some .nil ∧ isLow c = true
  | .cut p => ∃ u, t.at p = some u ∧ u ≠ .nil
  | .label p c => (∃ u, t.at p = some u ∧ u ≠ .nil) ∧ isLow c = true
  | .turn p => ∃ u, t.at p = some u ∧ u ≠ .nil
def DueAt (H : Hp) (t : B) (e : Ed) (p : Addr) : Prop := (∃ t' v', Does t e t' ∧ H p = some (.tup [.str "state", v']) ∧ BAt H v' t') ∨ ((∀ t', ¬ Does t e t') ∧ ∃ x xs, x ≠ Str.ofString "state" ∧ H p = some (.tup (.str x :: xs)))
def spDueP : Sp := fun vs H Q _ => ∃ (v : V) (t : B) (q A B' : Addr) (p : List Bool) (c : Nat), vs = [v, .ref q, .ref A, .ref B'] ∧ BAt H v t ∧ t.size ≤ 12 ∧ H q = some (.tup (Ed.put p c).vals) ∧ t.at p = some .nil ∧ isLow c = true ∧ H A = some (.lst ((t.nds []).map fun p => V.str (px p))) ∧ H B' = some (.lst ((t.ops []).map fun p => V.str (px p))) ∧
  ∀ (r : Addr) (H' : Hp), Same H H' → DueAt H' t (.put p c) r → Q (.ref r) H'
def spDueL : Sp := fun vs H Q _ => ∃ (v : V) (t : B) (q : Addr) (e : Ed), vs = [v, .ref q] ∧ BAt H v t ∧ t.size ≤ 12 ∧ H q = some (.tup e.vals) ∧ Drawn t e ∧ ∀ (r : Addr) (H' : Hp), Same H H' → DueAt H' t e r → Q (.ref r) H'
def Ed.path : Ed → List Bool
  | .put p _ => p
  | .cut p => p
  | .label p _ => p
  | .turn p => p
def Ed.more : Ed → List V
  | .put _ c => [.str (ch c)]
  | .cut _ => []
  | .label _ c => [.str (ch c)]
  | .turn _ => []
theorem Ed.vals_eq (e : Ed) : e.vals = .str e.word :: .str (px e.path) :: e.more := by cases e <;> rfl
theorem w1 : Str.ofString "cut" ≠ Str.ofString "put" := by decide +kernel
theorem w2 : Str.ofString "label" ≠ Str.ofString "put" := by decide +kernel
theorem w3 : Str.ofString "turn" ≠ Str.ofString "put" := by decide +kernel
theorem w4 : Str.ofString "label" ≠ Str.ofString "cut" := by decide +kernel
theorem w5 : Str.ofString "turn" ≠ Str.ofString "cut" := by decide +kernel
theorem w6 : Str.ofString "label" ≠ Str.ofString "turn" := by decide +kernel
theorem w7 : Str.ofString "TooLarge" ≠ Str.ofString "state" := by decide +kernel
theorem w8 : Str.ofString "LastNode" ≠ Str.ofString "state" := by decide +kernel
theorem w9 : Str.ofString "turn" ≠ Str.ofString "label" := by decide +kernel
section
variable {P : Program} {w : World} {K : PySem.W.Frag} {mg : Str → Option Value} {base : Heap} {f : Addr} {fd : FuncData}
theorem ok_lowL {k : Nat} (F : Fun K "_law_is_letter" "_law_is_letter" s__law_is_letter f fd) (M : Mgs mg) : FnOk P w K mg base CX0 (k + 1) f fd ["_law_value"] spLow := by
  refine F.ok sc__law_is_letter (fun vs H Q E h => ?_) (fun cdv A outer s H vs Q E hr h => ?_)
  · obtain ⟨l, rfl, _⟩ := h
    rfl
  obtain ⟨l, rfl, hl, q⟩ := h
  refine ⟨_, (pss_one (ps_ret (pe_and (pe_callB call_isi rfl M.isinstance (by decide +kernel) (pa_cons (pv 0) (pa_cons (pe_bltn (v := .ty "str") rfl M.str (by decide +kernel) rfl) pa_nil))) (pe_and (pe_cmpR op_eq (pe_callB call_len_str rfl M.len PySem.boot_len (pa_cons (pv 0) pa_nil)) pe_int (nomark _)) (pe_one (pe_chain op_le_str op_le_str pe_str (pv 0) pe_str)))))), ?_⟩
  refine ⟨_, rfl, _, _, _, _, true, rfl, .ty _, .base (.str (tx l)), kit_ty (by decide +kernel), _, rfl, iteT ?_⟩
  refine ⟨_, rfl, tx l, rfl, small (by rw [tx_len]; omega), rfl, _, rfl, ?_⟩
  match l, hl, q with
  | [], _, q => exact iteF q
  | [c], _, q =>
    rw [show decide (V.int ((tx [c]).length : Nat) = V.int 1) = true from rfl]
    refine iteT ⟨_, rfl, _, _, rfl, rfl, _, rfl, ?_⟩
    have e1 : (!decide ((tx [c]).cps.toList < (Str.ofString "a").cps.toList)) = decide (97 ≤ c) := by
      rw [show (Str.ofString "a").cps.toList = [97] by decide +kernel, show (tx [c]).cps.toList = [c] from rfl]
      by_cases h : c < 97
      · rw [decide_eq_true (by simp [List.cons_lt_cons_iff, h]), decide_eq_false (by omega)]; rfl
      · rw [decide_eq_false (by simp [List.cons_lt_cons_iff, h]), decide_eq_true (by omega)]; rfl
    have e2 : (!decide ((Str.ofString "z").cps.toList < (tx [c]).cps.toList)) = decide (c ≤ 122) := by
      rw [show (Str.ofString "z").cps.toList = [122] by decide +kernel, show (tx [c]).cps.toList = [c] from rfl]
      by_cases h : 122 < c
      · rw [decide_eq_true (by simp [List.cons_lt_cons_iff, h]), decide_eq_false (by omega)]; rfl
      · rw [decide_eq_false (by simp [List.cons_lt_cons_iff, h]), decide_eq_true (by omega)]; rfl
    rw [e1]
    have q : Q (.bl (decide (97 ≤ c) && decide (c ≤ 122))) H := q
    by_cases h : 97 ≤ c
    · rw [decide_eq_true h] at q ⊢
      refine iteT ⟨_, _, rfl, rfl, ?_⟩
      rw [e2]
      exact q
    · rw [decide_eq_false h] at q ⊢
      exact iteF q
theorem ok_dueP (F : Fun K "_law_due_put" "_law_due_put" s__law_due_put f fd) (M : Mgs mg) (D_law_is_letter : Df P w K mg base 1 "_law_is_letter" ["_law_value"] spLow) (D_law_grafted : Df P w K mg base 20 "_law_grafted" ["_law_tree_here", "_law_path", "_law_part_here"] (spWith 20)) :
    FnOk P w K mg base CX0 21 f fd ["_law_tree_here", "_law_edit", "_law_nodes", "_law_opens"] spDueP := by
  refine F.ok (k := 20) sc__law_due_put (fun vs H Q E h => ?_) (fun cdv A outer s H vs Q E hr h => ?_)
  · obtain ⟨v, t, q, A, B', p, c, rfl, _⟩ := h
    rfl
  obtain ⟨v, t, q, A, B', p, c, rfl, ht, hz, eq, hat, hc, eA, eB, k⟩ := h
  refine ⟨_, (pss_cons (ps_if (pt_cmpR op_notIn_seq (pe_ix ix_tup (pv 1) pe_int (fun _ _ => rfl)) (pv 3) (by rfl))
      (pss_one (ps_ret (pe_tup (pa_cons pe_str (pa_cons (pe_ix ix_tup (pv 1) pe_int (fun _ _ => rfl)) pa_nil))))) pss_nil)
    (pss_cons (ps_if (pt_not (pt_val (pe_call D_law_is_letter.ok (hr.mono (by omega)) rfl D_law_is_letter.g D_law_is_letter.kp D_law_is_letter.b .nil pass0 (pa_cons (pe_ix ix_tup (pv 1) pe_int (fun _ _ => rfl)) pa_nil))))
      (pss_one (ps_ret (pe_tup (pa_cons pe_str (pa_cons (pe_ix ix_tup (pv 1) pe_int (fun _ _ => rfl)) pa_nil))))) pss_nil)
    (pss_cons (ps_if (pt_cmpR op_eq (pe_callB call_len_seq rfl M.len PySem.boot_len (pa_cons (pv 2) pa_nil)) pe_int (nomark _))
      (pss_one (ps_ret (pe_tup (pa_cons pe_str (pa_cons pe_int pa_nil))))) pss_nil)
    (pss_one (ps_ret (pe_tup (pa_cons pe_str (pa_cons (pe_call D_law_grafted.ok (hr.mono (by omega)) rfl D_law_grafted.g D_law_grafted.kp D_law_grafted.b .nil pass0 (pa_cons (pv 0) (pa_cons (pe_ix ix_tup (pv 1) pe_int (fun _ _ => rfl)) (pa_cons (pe_tup (pa_cons pe_non (pa_cons (pe_ix ix_tup (pv 1) pe_int (fun _ _ => rfl)) (pa_cons pe_non pa_nil)))) pa_nil)))) pa_nil)))))))), ?_⟩
  have eq : H q = some (.tup [.str "put", .str (px p), .str (ch c)]) := eq
  have hql := t.at_size p hat
  refine ⟨_, rfl, q, _, 1, _, rfl, rfl, SqT.of eq, atI_nat (j := 1) rfl, _, rfl, B', _, rfl, .inl (SqL.of eB), rfl, flat_px _, _, rfl, ?_⟩
  rw [inV_px, decide_eq_true (B.ops_at.mpr hat)]
  refine iteF ?_
  refine ⟨_, rfl, q, _, 2, _, rfl, rfl, SqT.of eq, atI_nat (j := 2) rfl, [c], rfl, Nat.le_refl _, _, rfl, ?_⟩
  have e1 : isLt [c] = true := hc
  rw [e1]
  refine iteF ⟨_, rfl, A, _, rfl, .inl (SqL.of eA), rfl, _, rfl, ?_⟩
  rw [List.length_map, B.nds_len]
  by_cases h12 : t.size = 12
  · rw [show decide (V.int (t.size : Int) = V.int 12) = true from decide_eq_true (by rw [h12]; rfl)]
    refine iteT ⟨(by show 2 ≤ sizeLine; decide), fun r nr => k r _ (same_new nr _) (.inr ⟨fun t' d => ?_, _, _, w7, upd_same⟩)⟩
    cases d with
    | put _ _ hh => omega
  · rw [show decide (V.int (t.size : Int) = V.int 12) = false from decide_eq_false fun z => h12 (by have := V.int.inj z; omega)]
    refine iteF ⟨_, rfl, _, rfl, q, _, 1, _, rfl, rfl, SqT.of eq, atI_nat (j := 1) rfl, _, rfl, q, _, 2, _, rfl, rfl, SqT.of eq, atI_nat (j := 2) rfl, (by show 3 ≤ sizeLine; decide), fun r nr => ?_⟩
    have k2 := same_new nr (.tup [.non, .str (ch c), .non])
    refine ⟨v, .ref r, t, .node .nil c .nil, p, rfl, ht.same k2, .node upd_same .nil .nil, by omega, by omega, by rw [hat]; rfl, fun v' H2 s2 h2 => ?_⟩
    refine ⟨(by show 2 ≤ sizeLine; decide), fun r2 nr2 => ?_⟩
    have k3 := same_new nr2 (.tup [.str "state", v'])
    exact k r2 _ (k2.trans (s2.trans k3)) (.inl ⟨_, v', .put hat hc (by omega), upd_same, h2.same k3⟩)
theorem ok_dueL (F : Fun K "_law_due" "_law_due" s__law_due f fd) (M : Mgs mg) (D_law_paths : Df P w K mg base 1 "_law_paths" ["_law_tree_here"] spPaths) (D_law_due_put : Df P w K mg base 21 "_law_due_put" ["_law_tree_here", "_law_edit", "_law_nodes", "_law_opens"] spDueP) (D_law_part : Df P w K mg base 1 "_law_part" ["_law_tree_here", "_law_path"] spPart) (D_law_is_letter : Df P w K mg base 1 "_law_is_letter" ["_law_value"] spLow) (D_law_swapped : Df P w K mg base 20 "_law_swapped" ["_law_tree_here"] (spMir 20)) (D_law_grafted : Df P w K mg base 20 "_law_grafted" ["_law_tree_here", "_law_path", "_law_part_here"] (spWith 20)) :
    FnOk P w K mg base CX0 22 f fd ["_law_tree_here", "_law_edit"] spDueL := by
  refine F.ok (k := 21) sc__law_due (fun vs H Q E h => ?_) (fun cdv A outer s H vs Q E hr h => ?_)
  · obtain ⟨v, t, q, e, rfl, _⟩ := h
    rfl
  obtain ⟨v, t, q, e, rfl, ht, hz, eq, hd, k⟩ := h
  refine ⟨_, (pss_cons (ps_asg (pe_tup (pa_cons (pe_ix ix_tup (pv 1) pe_int (fun _ _ => rfl)) (pa_cons (pe_call D_law_paths.ok (hr.mono (by omega)) rfl D_law_paths.g D_law_paths.kp D_law_paths.b .nil pass0 (pa_cons (pv 0) pa_nil)) pa_nil))) (pg_tup rfl (pgs_cons (pg_name (i := 2) sc__law_due.nd rfl (.inl rfl)) (pgs_cons (pg_tup rfl (pgs_cons (pg_name (i := 3) sc__law_due.nd rfl (.inl rfl)) (pgs_cons (pg_name (i := 4) sc__law_due.nd rfl (.inl rfl)) pgs_nil))) pgs_nil))))
    (pss_cons (ps_if (pt_cmpR op_eq (pe_ix ix_tup (pv 1) pe_int (fun _ _ => rfl)) pe_str (nomark _))
      (pss_one (ps_ret (pe_call D_law_due_put.ok (hr.mono (by omega)) rfl D_law_due_put.g D_law_due_put.kp D_law_due_put.b .nil pass0 (pa_cons (pv 0) (pa_cons (pv 1) (pa_cons (pv 3) (pa_cons (pv 4) pa_nil))))))) pss_nil)
    (pss_cons (ps_if (pt_cmpR op_notIn_seq (pv 2) (pv 3) (by rfl))
      (pss_one (ps_ret (pe_tup (pa_cons pe_str (pa_cons (pv 2) pa_nil))))) pss_nil)
    (pss_cons (ps_set (i := 5) sc__law_due.nd rfl (.inl rfl) (pe_call D_law_part.ok (hr.mono (by omega)) rfl D_law_part.g D_law_part.kp D_law_part.b .nil pass0 (pa_cons (pv 0) (pa_cons (pv 2) pa_nil))))
    (pss_cons (ps_if (pt_cmpR op_eq (pe_ix ix_tup (pv 1) pe_int (fun _ _ => rfl)) pe_str (nomark _))
      (pss_one (ps_ret (pe_ifExp (pt_cmpR op_eq (pv 2) pe_str (nomark _)) (pe_tup (pa_cons pe_str pa_nil)) (pe_tup (pa_cons pe_str (pa_cons (pe_call D_law_grafted.ok (hr.mono (by omega)) rfl D_law_grafted.g D_law_grafted.kp D_law_grafted.b .nil pass0 (pa_cons (pv 0) (pa_cons (pv 2) (pa_cons pe_non pa_nil)))) pa_nil)))))) pss_nil)
    (pss_cons (ps_if (pt_cmpR op_eq (pe_ix ix_tup (pv 1) pe_int (fun _ _ => rfl)) pe_str (nomark _))
      (pss_one (ps_ret (pe_tup (pa_cons pe_str (pa_cons (pe_call D_law_grafted.ok (hr.mono (by omega)) rfl D_law_grafted.g D_law_grafted.kp D_law_grafted.b .nil pass0 (pa_cons (pv 0) (pa_cons (pv 2) (pa_cons (pe_call D_law_swapped.ok (hr.mono (by omega)) rfl D_law_swapped.g D_law_swapped.kp D_law_swapped.b .nil pass0 (pa_cons (pv 5) pa_nil)) pa_nil)))) pa_nil))))) pss_nil)
    (pss_cons (ps_if (pt_not (pt_val (pe_call D_law_is_letter.ok (hr.mono (by omega)) rfl D_law_is_letter.g D_law_is_letter.kp D_law_is_letter.b .nil pass0 (pa_cons (pe_ix ix_tup (pv 1) pe_int (fun _ _ => rfl)) pa_nil))))
      (pss_one (ps_ret (pe_tup (pa_cons pe_str (pa_cons (pe_ix ix_tup (pv 1) pe_int (fun _ _ => rfl)) pa_nil))))) pss_nil)
    (pss_one (ps_ret (pe_tup (pa_cons pe_str (pa_cons (pe_call D_law_grafted.ok (hr.mono (by omega)) rfl D_law_grafted.g D_law_grafted.kp D_law_grafted.b .nil pass0 (pa_cons (pv 0) (pa_cons (pv 2) (pa_cons (pe_tup (pa_cons (pe_ix ix_tup (pv 5) pe_int (fun _ _ => rfl)) (pa_cons (pe_ix ix_tup (pv 1) pe_int (fun _ _ => rfl)) (pa_cons (pe_ix ix_tup (pv 5) pe_int (fun _ _ => rfl)) pa_nil)))) pa_nil)))) pa_nil)))))))))))), ?_⟩
  have eq1 : H q = some (.tup (.str e.word :: .str (px e.path) :: e.more)) := by rw [eq, e.vals_eq]
  refine ⟨_, rfl, q, _, 1, _, rfl, rfl, SqT.of eq1, atI_nat (j := 1) rfl, _, rfl, v, t, rfl, ht, hz, fun pa A B' H1 s1 np nA nB ep eA eB => ⟨(by show 2 ≤ sizeLine; decide), fun tp ntp => ?_⟩⟩
  have k2 := same_new ntp (.tup [.str (px e.path), .ref pa])
  have et := upd_same (H := H1) (a := tp) (o := .tup [.str (px e.path), .ref pa])
  have s2 := s1.trans k2
  have ep2 := k2 _ _ ep
  have eA2 := k2 _ _ eA
  have eB2 := k2 _ _ eB
  have ht2 := ht.same s2
  have eq2 := s2 _ _ eq1
  generalize upd H1 tp (.tup [.str (px e.path), .ref pa]) = H2 at k2 et s2 ep2 eA2 eB2 ht2 eq2 ⊢
  refine ⟨tp, _, rfl, SqT.of et, rfl, _, _, rfl, _, _, rfl, pa, _, rfl, SqT.of ep2, rfl, _, _, rfl, _, _, rfl, rfl, rfl, ?_⟩
  refine ⟨_, rfl, q, _, 0, _, rfl, rfl, SqT.of eq2, atI_nat (j := 0) rfl, rfl, _, rfl, ?_⟩
  have st : ∀ {t' : B} {v' : V} {H3 : Hp}, Does t e t' → Same H2 H3 → BAt H3 v' t' → ∀ r, H3 r = none → Q (.ref r) (upd H3 r (.tup [.str "state", v'])) := fun d s3 b r nr => k r _ (s2.trans (s3.trans (same_new nr _))) (.inl ⟨_, _, d, upd_same, b.same (same_new nr _)⟩)
  cases e with
  | put p c =>
    obtain ⟨hat, hc⟩ := hd
    exact iteS rfl ⟨_, rfl, _, rfl, _, rfl, _, rfl, v, t, q, A, B', p, c, rfl, ht2, hz, eq2, hat, hc, eA2, eB2, fun r H3 s3 h => k r H3 (s2.trans s3) h⟩
  | cut p =>
    obtain ⟨u, hat, hu⟩ := hd
    have hql := t.at_size p hat
    refine iteR w1 ⟨_, rfl, _, rfl, A, _, rfl, .inl (SqL.of eA2), rfl, flat_px _, _, rfl, ?_⟩
    rw [show inV (V.str (px (Ed.cut p).path)) _ = true from (inV_px p _).trans (decide_eq_true (B.nds_at.mpr ⟨u, hat, hu⟩))]
    refine iteF ⟨_, rfl, _, rfl, v, t, u, p, rfl, ht2, hat, by omega, fun vu H3 s3 hu3 => ?_⟩
    refine ⟨_, rfl, q, _, 0, _, rfl, rfl, SqT.of (s3 _ _ eq2), atI_nat (j := 0) rfl, rfl, _, rfl, iteS rfl ?_⟩
    refine ⟨_, rfl, rfl, _, rfl, ?_⟩
    cases p with
    | nil =>
      refine iteS px_nil ⟨(by show 1 ≤ sizeLine; decide), fun r nr => k r _ (s2.trans (s3.trans (same_new nr _))) (.inr ⟨fun t' d => ?_, _, _, w8, upd_same⟩)⟩
      cases d with
      | cut _ _ h => exact h rfl
    | cons b p =>
      refine iteR (fun z => by rw [← px_nil] at z; cases px_inj z) ?_
      refine ⟨_, rfl, _, rfl, v, .non, t, .nil, b :: p, rfl, ht2.same s3, .nil, by omega, by omega, by rw [hat]; rfl, fun v' H4 s4 b4 => ⟨(by show 2 ≤ sizeLine; decide), fun r nr => ?_⟩⟩
      exact st (.cut hat hu (by simp)) (s3.trans s4) b4 r nr
  | turn p =>
    obtain ⟨u, hat, hu⟩ := hd
    have hql := t.at_size p hat
    refine iteR w3 ⟨_, rfl, _, rfl, A, _, rfl, .inl (SqL.of eA2), rfl, flat_px _, _, rfl, ?_⟩
    rw [show inV (V.str (px (Ed.turn p).path)) _ = true from (inV_px p _).trans (decide_eq_true (B.nds_at.mpr ⟨u, hat, hu⟩))]
    refine iteF ⟨_, rfl, _, rfl, v, t, u, p, rfl, ht2, hat, by omega, fun vu H3 s3 hu3 => ?_⟩
    refine ⟨_, rfl, q, _, 0, _, rfl, rfl, SqT.of (s3 _ _ eq2), atI_nat (j := 0) rfl, rfl, _, rfl, iteR w5 ?_⟩
    refine ⟨_, rfl, q, _, 0, _, rfl, rfl, SqT.of (s3 _ _ eq2), atI_nat (j := 0) rfl, rfl, _, rfl, iteS rfl ?_⟩
    refine ⟨_, rfl, _, rfl, _, rfl, vu, u, rfl, hu3, by omega, fun vm H4 s4 b4 => ?_⟩
    refine ⟨v, vm, t, u.mir, p, rfl, ht2.same (s3.trans s4), b4, by omega, by omega, by rw [hat]; rfl, fun v' H5 s5 b5 => ⟨(by show 2 ≤ sizeLine; decide), fun r nr => ?_⟩⟩
    exact st (.turn hat hu) (s3.trans (s4.trans s5)) b5 r nr
  | label p c =>
    obtain ⟨⟨u, hat, hu⟩, hc⟩ := hd
    have hql := t.at_size p hat
    refine iteR w2 ⟨_, rfl, _, rfl, A, _, rfl, .inl (SqL.of eA2), rfl, flat_px _, _, rfl, ?_⟩
    rw [show inV (V.str (px (Ed.label p c).path)) _ = true from (inV_px p _).trans (decide_eq_true (B.nds_at.mpr ⟨u, hat, hu⟩))]
    refine iteF ⟨_, rfl, _, rfl, v, t, u, p, rfl, ht2, hat, by omega, fun vu H3 s3 hu3 => ?_⟩
    refine ⟨_, rfl, q, _, 0, _, rfl, rfl, SqT.of (s3 _ _ eq2), atI_nat (j := 0) rfl, rfl, _, rfl, iteR w4 ?_⟩
    refine ⟨_, rfl, q, _, 0, _, rfl, rfl, SqT.of (s3 _ _ eq2), atI_nat (j := 0) rfl, rfl, _, rfl, iteR w6 ?_⟩
    refine ⟨_, rfl, q, _, 2, _, rfl, rfl, SqT.of (s3 _ _ eq2), atI_nat (j := 2) rfl, [c], rfl, Nat.le_refl _, _, rfl, ?_⟩
    have e1 : isLt [c] = true := hc
    rw [e1]
    rcases hu3.inv with ⟨_, rfl⟩ | ⟨b, vl, vr, x, tl, tr, rfl, rfl, eb, hl, hr'⟩
    · exact absurd rfl hu
    refine iteF ⟨_, rfl, _, rfl, _, rfl, b, _, 0, vl, rfl, rfl, SqT.of eb, atI_nat (j := 0) rfl, _, rfl, q, _, 2, _, rfl, rfl, SqT.of (s3 _ _ eq2), atI_nat (j := 2) rfl, _, rfl, b, _, 2, vr, rfl, rfl, SqT.of eb, atI_nat (j := 2) rfl, (by show 3 ≤ sizeLine; decide), fun r nr => ?_⟩
    have k4 := same_new nr (.tup [vl, .str (ch c), vr])
    refine ⟨v, .ref r, t, .node tl c tr, p, rfl, ht2.same (s3.trans k4), .node upd_same (hl.same k4) (hr'.same k4), by omega, by omega, by rw [hat]; rfl, fun v' H5 s5 b5 => ⟨(by show 2 ≤ sizeLine; decide), fun r nr => ?_⟩⟩
    exact st (.label hat hc) (s3.trans (k4.trans s5)) b5 r nr
end
/-! ### an edit done, an edit drawn -/
def spSome : Sp := fun vs H Q _ => ∃ (s : Addr) (n : Nat) (v : V) (t : B), vs = [.ref s, v, .int 13] ∧ Strm H s n ∧ n ≤ 900000 ∧ BAt H v t ∧ 1 ≤ t.size ∧ t.size ≤ 12 ∧ ∀ (q : Addr) (e : Ed) (n' : Nat) (H' : Hp), H' q = some (.tup e.vals) → Drawn t e → Strm H' s n' → n' ≤ n + 10 → But s H H' → Q (.ref q) H'
def spValid : Sp := fun vs H Q _ => ∃ (s : Addr) (n : Nat) (v : V) (t : B), vs = [.ref s, v, .int 13] ∧ Strm H s n ∧ n ≤ 800000 ∧ BAt H v t ∧ 1 ≤ t.size ∧ t.size ≤ 12 ∧ ∀ (q : Addr) (e : Ed) (t' : B) (n' : Nat) (H' : Hp), H' q = some (.tup e.vals) → Drawn t e → Does t e t' → Strm H' s n' → n' ≤ n + 60 → But s H H' → Q (.ref q) H'
theorem okN {P : Program} {w : World} {K : PySem.W.Frag} {mg : Str → Option Value} {base : Heap} {x qual : Str} {params : Arguments} {body : List Stmt} {scope : Scope} {dvs : List V} {kws : List (Str × V)} {f : Addr} {fd : FuncData} {N ps : List Str} {k : Nat} {sp : Sp} (F : FunD K x qual params body scope dvs kws f fd) (S : FnScope N ps scope) (len : ∀ vs H Q E, sp vs H Q E → vs.length = ps.length)
    (hbody : ∀ (cdv : Value) (A : Around) (outer : List Env) (s : Shared) (H : Hp) (vs : List V) (Q : VK) (E : XK), Room k (A.deeper (envOfC qual scope s.heap.objs.size f cdv)) → sp vs H Q E →
      ∃ t, PSs (cxOf CX0 P w K mg base N qual scope f cdv A outer s H E).nox body t ∧ t { nx := fun _ H' => Q .non H', rt := Q } (start N vs) H) : FnOk P w K mg base CX0 (k + 1) f fd ps sp :=
  F.ok (CX := CX0) S len fun cdv A outer s H vs Q E hr h => by
    obtain ⟨t, h1, h2⟩ := hbody cdv A outer s H vs Q E hr h
    exact ⟨t, h1.nox, h2⟩
theorem inl_state {H : Hp} {t : B} {e : Ed} {r : Addr} (d : DueAt H t e r) : ∃ x xs, H r = some (.tup (.str x :: xs)) ∧ (x = Str.ofString "state" → ∃ t', Does t e t') := by
  rcases d with ⟨t', v', d, h, _⟩ | ⟨_, x, xs, n, h⟩
  · exact ⟨_, _, h, fun _ => ⟨t', d⟩⟩
  · exact ⟨x, xs, h, fun z => absurd z n⟩
section
variable {P : Program} {w : World} {K : PySem.W.Frag} {mg : Str → Option Value} {base : Heap} {f : Addr} {fd : FuncData} {C : Addr}
theorem ok_doL (F : Fun K "_law_do" "_law_do" s__law_do f fd) (TD : DeskC K mg C) (Dput : MDf P w K mg base C 26 "put" ["self", "path", "label"] (spDo C isPut)) (Dcut : MDf P w K mg base C 26 "cut" ["self", "path"] (spDo C isCut)) (Dlabel : MDf P w K mg base C 26 "label" ["self", "path", "label"] (spDo C isLab)) (Dturn : MDf P w K mg base C 26 "turn" ["self", "path"] (spDo C isTur)) :
    FnOk P w K mg base CX0 27 f fd ["_law_desk", "_law_edit"] (spCalled C) := by
  refine F.ok (k := 26) sc__law_do (fun vs H Q E h => ?_) (fun cdv A outer s H vs Q E hr h => ?_)
  · obtain ⟨a, q, ts, t, t', es, e, rfl, _⟩ := h
    rfl
  obtain ⟨a, qe, ts, t, t', es, e, rfl, dk, he, hd, h60, hts, hl, hz, hn, q⟩ := h
  obtain ⟨dx, ta, td, vs, u, ds, h1, _⟩ := id dk
  refine ⟨_, (pss_cons (ps_if (pt_cmpR op_eq (pe_ix ix_tup (pv 1) pe_int (fun _ _ => rfl)) pe_str (nomark _))
      (pss_one (ps_ret (pe_meth (pv 0) TD.cl Dput.at_ Dput.ok (hr.mono (by omega)) Dput.b .nil pass0 (pa_cons (pe_ix ix_tup (pv 1) pe_int (fun _ _ => rfl)) (pa_cons (pe_ix ix_tup (pv 1) pe_int (fun _ _ => rfl)) pa_nil))))) pss_nil)
    (pss_cons (ps_if (pt_cmpR op_eq (pe_ix ix_tup (pv 1) pe_int (fun _ _ => rfl)) pe_str (nomark _))
      (pss_one (ps_ret (pe_meth (pv 0) TD.cl Dcut.at_ Dcut.ok (hr.mono (by omega)) Dcut.b .nil pass0 (pa_cons (pe_ix ix_tup (pv 1) pe_int (fun _ _ => rfl)) pa_nil)))) pss_nil)
    (pss_one (ps_ret (pe_ifExp (pt_cmpR op_eq (pe_ix ix_tup (pv 1) pe_int (fun _ _ => rfl)) pe_str (nomark _)) (pe_meth (pv 0) TD.cl Dlabel.at_ Dlabel.ok (hr.mono (by omega)) Dlabel.b .nil pass0 (pa_cons (pe_ix ix_tup (pv 1) pe_int (fun _ _ => rfl)) (pa_cons (pe_ix ix_tup (pv 1) pe_int (fun _ _ => rfl)) pa_nil))) (pe_meth (pv 0) TD.cl Dturn.at_ Dturn.ok (hr.mono (by omega)) Dturn.b .nil pass0 (pa_cons (pe_ix ix_tup (pv 1) pe_int (fun _ _ => rfl)) pa_nil))))))), ?_⟩
  have he : H qe = some (.tup (.str e.word :: .str (px e.path) :: e.more)) := by rw [he, e.vals_eq]
  have nl : ∀ {m : Str} (vt vd vb : V), (m == ("trees" : Str)) = false → (m == ("done" : Str)) = false → (m == ("busy" : Str)) = false → (deskF vt vd vb).lookup m = none := no_look
  refine ⟨_, rfl, qe, _, 0, _, rfl, rfl, SqT.of he, atI_nat (j := 0) rfl, rfl, _, rfl, ?_⟩
  cases e with
  | put p c =>
    exact iteS rfl ⟨_, rfl, a, dx, _, rfl, h1, nl _ _ _ (by decide +kernel) (by decide +kernel) (by decide +kernel), _, rfl, qe, _, 1, _, rfl, rfl, SqT.of he, atI_nat (j := 1) rfl, _, rfl, qe, _, 2, _, rfl, rfl, SqT.of he, atI_nat (j := 2) rfl, a, ts, t, t', es, .put p c, rfl, trivial, dk, hd, h60, hts, hl, hz, hn, q⟩
  | cut p =>
    refine iteR w1 ⟨_, rfl, qe, _, 0, _, rfl, rfl, SqT.of he, atI_nat (j := 0) rfl, rfl, _, rfl, ?_⟩
    exact iteS rfl ⟨_, rfl, a, dx, _, rfl, h1, nl _ _ _ (by decide +kernel) (by decide +kernel) (by decide +kernel), _, rfl, qe, _, 1, _, rfl, rfl, SqT.of he, atI_nat (j := 1) rfl, a, ts, t, t', es, .cut p, rfl, trivial, dk, hd, h60, hts, hl, hz, hn, q⟩
  | label p c =>
    refine iteR w2 ⟨_, rfl, qe, _, 0, _, rfl, rfl, SqT.of he, atI_nat (j := 0) rfl, rfl, _, rfl, ?_⟩
    refine iteR w4 ⟨_, rfl, qe, _, 0, _, rfl, rfl, SqT.of he, atI_nat (j := 0) rfl, rfl, _, rfl, ?_⟩
    exact iteS rfl ⟨_, rfl, a, dx, _, rfl, h1, nl _ _ _ (by decide +kernel) (by decide +kernel) (by decide +kernel), _, rfl, qe, _, 1, _, rfl, rfl, SqT.of he, atI_nat (j := 1) rfl, _, rfl, qe, _, 2, _, rfl, rfl, SqT.of he, atI_nat (j := 2) rfl, a, ts, t, t', es, .label p c, rfl, trivial, dk, hd, h60, hts, hl, hz, hn, q⟩
  | turn p =>
    refine iteR w3 ⟨_, rfl, qe, _, 0, _, rfl, rfl, SqT.of he, atI_nat (j := 0) rfl, rfl, _, rfl, ?_⟩
    refine iteR w5 ⟨_, rfl, qe, _, 0, _, rfl, rfl, SqT.of he, atI_nat (j := 0) rfl, rfl, _, rfl, ?_⟩
    exact iteR w9 ⟨_, rfl, a, dx, _, rfl, h1, nl _ _ _ (by decide +kernel) (by decide +kernel) (by decide +kernel), _, rfl, qe, _, 1, _, rfl, rfl, SqT.of he, atI_nat (j := 1) rfl, a, ts, t, t', es, .turn p, rfl, trivial, dk, hd, h60, hts, hl, hz, hn, q⟩
theorem ok_some (F : FunD K "_law_some_edit" "_law_some_edit" (defArgs s__law_some_edit) (defBody s__law_some_edit) (defScope s__law_some_edit) [.int 13] [] f fd) (M : Mgs mg) (D_law_take : Df P w K mg base 1 "_law_take" ["_law_stream_here", "_law_many"] spTake1) (D_law_letter : Df P w K mg base 2 "_law_letter" ["_law_stream_here"] spLetter1) (D_law_paths : Df P w K mg base 1 "_law_paths" ["_law_tree_here"] spPaths) :
    FnOk P w K mg base CX0 3 f fd ["_law_stream_here", "_law_tree_here", "_law_top"] spSome := by
  refine okN F (k := 2) sc__law_some_edit (fun vs H Q E h => ?_) (fun cdv A outer s H vs Q E hr h => ?_)
  · obtain ⟨sa, n, v, t, rfl, _⟩ := h
    rfl
  obtain ⟨sa, n, v, t, rfl, st, hn, ht, z0, z1, q⟩ := h
  refine ⟨_, (pss_cons (ps_asg (pe_tup (pa_cons (pe_call D_law_paths.ok (hr.mono (by omega)) rfl D_law_paths.g D_law_paths.kp D_law_paths.b .nil pass0 (pa_cons (pv 1) pa_nil)) (pa_cons (pe_call D_law_take.ok (hr.mono (by omega)) rfl D_law_take.g D_law_take.kp D_law_take.b .nil pass0 (pa_cons (pv 0) (pa_cons pe_int pa_nil))) pa_nil))) (pg_tup rfl (pgs_cons (pg_tup rfl (pgs_cons (pg_name (i := 3) sc__law_some_edit.nd rfl (.inl rfl)) (pgs_cons (pg_name (i := 4) sc__law_some_edit.nd rfl (.inl rfl)) pgs_nil))) (pgs_cons (pg_name (i := 5) sc__law_some_edit.nd rfl (.inl rfl)) pgs_nil))))
    (pss_cons (ps_par (i := 6) (j := 7) (by rfl) sc__law_some_edit.nd rfl rfl (by decide) rfl rfl (pa_cons (pe_ix ix_list (pv 3) (pe_call D_law_take.ok (hr.mono (by omega)) rfl D_law_take.g D_law_take.kp D_law_take.b .nil pass0 (pa_cons (pv 0) (pa_cons (pe_callB call_len_seq rfl M.len PySem.boot_len (pa_cons (pv 3) pa_nil)) pa_nil))) (fun _ _ => rfl)) (pa_cons (pe_call D_law_letter.ok (hr.mono (by omega)) rfl D_law_letter.g D_law_letter.kp D_law_letter.b .nil pass0 (pa_cons (pv 0) pa_nil)) pa_nil)) (by rfl))
    (pss_cons (ps_if (PW.pt (pw_and (pt_cmpR op_lt (pv 5) pe_int (nomark _)) (pw_and1 (pt_cmpR op_lt (pe_callB call_len_seq rfl M.len PySem.boot_len (pa_cons (pv 3) pa_nil)) (pv 2) (nomark _)))))
      (pss_one (ps_ret (pe_tup (pa_cons pe_str (pa_cons (pe_ix ix_list (pv 4) (pe_call D_law_take.ok (hr.mono (by omega)) rfl D_law_take.g D_law_take.kp D_law_take.b .nil pass0 (pa_cons (pv 0) (pa_cons (pe_callB call_len_seq rfl M.len PySem.boot_len (pa_cons (pv 4) pa_nil)) pa_nil))) (fun _ _ => rfl)) (pa_cons (pv 7) pa_nil)))))) pss_nil)
    (pss_cons (ps_if (pt_cmpR op_eq (pv 5) pe_int (nomark _))
      (pss_one (ps_ret (pe_tup (pa_cons pe_str (pa_cons (pv 6) pa_nil))))) pss_nil)
    (pss_one (ps_ret (pe_ifExp (pt_cmpR op_lt (pv 5) pe_int (nomark _)) (pe_tup (pa_cons pe_str (pa_cons (pv 6) (pa_cons (pv 7) pa_nil)))) (pe_tup (pa_cons pe_str (pa_cons (pv 6) pa_nil)))))))))), ?_⟩
  refine ⟨_, rfl, v, t, rfl, ht, z1, fun pa A B' H1 s1 np nA nB ep eA eB => ?_⟩
  have st1 := st.same s1
  refine ⟨_, rfl, sa, n, 8, rfl, st1, by omega, by decide, by decide, fun wy n2 H2 l2 st2 hn2 bu2 => ⟨(by show 2 ≤ sizeLine; decide), fun tp ntp => ?_⟩⟩
  obtain ⟨xs0, es0⟩ := st.lst
  have ne : ∀ {x : Addr}, H x = none → x ≠ sa := fun e z => by rw [z, es0] at e; cases e
  have k3 := same_new ntp (.tup [.ref pa, .int (wy : Int)])
  have et := upd_same (H := H2) (a := tp) (o := .tup [.ref pa, .int (wy : Int)])
  have ep3 := k3 _ _ (bu2 _ _ (ne np) ep)
  have eA3 := k3 _ _ (bu2 _ _ (ne nA) eA)
  have eB3 := k3 _ _ (bu2 _ _ (ne nB) eB)
  have st3 := st2.same k3
  have bu3 : But sa H _ := (But.of s1).trans (bu2.trans (But.of k3))
  generalize upd H2 tp (.tup [.ref pa, .int (wy : Int)]) = H3 at et ep3 eA3 eB3 st3 bu3 ⊢
  refine ⟨tp, _, rfl, SqT.of et, rfl, _, _, rfl, pa, _, rfl, SqT.of ep3, rfl, _, _, rfl, _, _, rfl, rfl, _, _, rfl, rfl, ?_⟩
  refine ⟨_, rfl, _, rfl, _, rfl, A, _, rfl, .inl (SqL.of eA3), sa, n2, _, rfl, st3, by omega, by rw [List.length_map, B.nds_len]; omega, by rw [List.length_map, B.nds_len]; omega, fun j n4 H4 l4 st4 hn4 bu4 => ?_⟩
  rw [List.length_map, B.nds_len] at l4
  have hj : j < (t.nds []).length := by rw [B.nds_len]; omega
  have eA4 := bu4 _ _ (ne nA) eA3
  have eB4 := bu4 _ _ (ne nB) eB3
  refine ⟨A, _, _, V.str (px ((t.nds [])[j]'hj)), rfl, rfl, SqL.of eA4, atI_nat (by rw [List.getElem?_map, List.getElem?_eq_getElem hj]; rfl), ?_⟩
  have hnode := B.nds_at.mp (List.getElem_mem hj)
  generalize (t.nds [])[j]'hj = p at hnode ⊢
  refine ⟨_, rfl, sa, n4, rfl, st4, by omega, fun c n5 H5 hc st5 hn5 bu5 => ⟨_, _, rfl, ?_⟩⟩
  have eA5 := bu5 _ _ (ne nA) eA4
  have eB5 := bu5 _ _ (ne nB) eB4
  have bu := bu3.trans (bu4.trans bu5)
  have fin : ∀ (e : Ed) (r : Addr), H5 r = none → Drawn t e → Q (.ref r) (upd H5 r (.tup e.vals)) := fun e r nr d => q r e n5 _ upd_same d (st5.same (same_new nr _)) (by omega) (bu.trans (But.of (same_new nr _)))
  refine ⟨_, rfl, _, _, rfl, rfl, _, rfl, ite2 (fun _ => ?_) (fun _ => ?_)⟩
  · refine ⟨_, rfl, A, _, rfl, .inl (SqL.of eA5), _, rfl, _, _, rfl, rfl, _, rfl, ?_⟩
    rw [List.length_map, B.nds_len, decide_eq_true (show ((t.size : Int) < 13) by omega)]
    refine iteT ⟨_, rfl, _, rfl, _, rfl, B', _, rfl, .inl (SqL.of eB5), sa, n5, _, rfl, st5, by omega, by rw [List.length_map, B.ops_len]; omega, by rw [List.length_map, B.ops_len]; omega, fun i n6 H6 l6 st6 hn6 bu6 => ?_⟩
    rw [List.length_map, B.ops_len] at l6
    have hi : i < (t.ops []).length := by rw [B.ops_len]; omega
    have eB6 := bu6 _ _ (ne nB) eB5
    refine ⟨B', _, _, V.str (px ((t.ops [])[i]'hi)), rfl, rfl, SqL.of eB6, atI_nat (by rw [List.getElem?_map, List.getElem?_eq_getElem hi]; rfl), ?_⟩
    have hop := B.ops_at.mp (List.getElem_mem hi)
    generalize (t.ops [])[i]'hi = p2 at hop ⊢
    refine ⟨_, rfl, (by show 3 ≤ sizeLine; decide), fun r nr => ?_⟩
    exact q r (.put p2 c) n6 _ upd_same ⟨hop, hc⟩ (st6.same (same_new nr _)) (by omega) (bu.trans (bu6.trans (But.of (same_new nr _))))
  · refine ⟨_, rfl, rfl, _, rfl, ite2 (fun _ => ?_) (fun _ => ?_)⟩
    · exact ⟨_, rfl, (by show 2 ≤ sizeLine; decide), fun r nr => fin (.cut p) r nr hnode⟩
    · refine ⟨_, rfl, _, _, rfl, rfl, _, rfl, ite2 (fun _ => ?_) (fun _ => ?_)⟩
      · exact ⟨_, rfl, _, rfl, (by show 3 ≤ sizeLine; decide), fun r nr => fin (.label p c) r nr ⟨hnode, hc⟩⟩
      · exact ⟨_, rfl, (by show 2 ≤ sizeLine; decide), fun r nr => fin (.turn p) r nr hnode⟩
theorem ok_valid (F : FunD K "_law_valid_edit" "_law_valid_edit" (defArgs s__law_valid_edit) (defBody s__law_valid_edit) (defScope s__law_valid_edit) [.int 13] [] f fd) (M : Mgs mg) (D_law_some_edit : Df P w K mg base 3 "_law_some_edit" ["_law_stream_here", "_law_tree_here", "_law_top"] spSome) (D_law_due : Df P w K mg base 22 "_law_due" ["_law_tree_here", "_law_edit"] spDueL) :
    FnOk P w K mg base CX0 23 f fd ["_law_stream_here", "_law_tree_here", "_law_top"] spValid := by
  refine okN F (k := 22) sc__law_valid_edit (fun vs H Q E h => ?_) (fun cdv A outer s H vs Q E hr h => ?_)
  · obtain ⟨sa, n, v, t, rfl, _⟩ := h
    rfl
  obtain ⟨sa, n, v, t, rfl, st, hn, ht, z0, z1, q⟩ := h
  obtain ⟨xs0, es0⟩ := st.lst
  refine ⟨_, (pss_cons (ps_for PassesOwn.never rfl (pi_range1 rfl M.range (pa_cons pe_int pa_nil)) (pg_name (i := 3) sc__law_valid_edit.nd rfl (.inl rfl))
      (pss_cons (ps_set (i := 4) sc__law_valid_edit.nd rfl (.inl rfl) (pe_call D_law_some_edit.ok (hr.mono (by omega)) rfl D_law_some_edit.g D_law_some_edit.kp D_law_some_edit.b .nil pass0 (pa_cons (pv 0) (pa_cons (pv 1) (pa_cons (pv 2) pa_nil)))))
    (pss_one (ps_if (pt_cmpR op_eq (pe_ix ix_tup (pe_call D_law_due.ok (hr.mono (by omega)) rfl D_law_due.g D_law_due.kp D_law_due.b .nil pass0 (pa_cons (pv 1) (pa_cons (pv 4) pa_nil))) pe_int (fun _ _ => rfl)) pe_str (nomark _))
      (pss_one (ps_ret (pv 4))) pss_nil))))
    (pss_one (ps_ret (pe_tup (pa_cons pe_str (pa_cons pe_str pa_nil)))))), ?_⟩
  refine ⟨6, rfl, by decide, by decide, ?_⟩
  refine for_range (lo := 0) (n := 6) (fun i σ H' => ∃ (y3 y4 : Option V) (n' : Nat), σ = [some (.ref sa), some v, some (.int 13), y3, y4] ∧ Strm H' sa n' ∧ n' ≤ n + 10 * i ∧ But sa H H') ⟨none, none, n, rfl, st, by omega, But.refl _ _⟩ (fun i σ H1 hi hp => ?_) (fun σ H1 hp => ?_)
  · obtain ⟨y3, y4, n', rfl, st1, hn1, bu1⟩ := hp
    have ht1 := ht.keep (But.keepL es0 bu1)
    refine ⟨_, rfl, _, rfl, _, rfl, sa, n', v, t, rfl, st1, by omega, ht1, z0, z1, fun qa e n2 H2 he hd st2 hn2 bu2 => ?_⟩
    obtain ⟨xs1, es1⟩ := st1.lst
    have ht2 := ht1.keep (But.keepL es1 bu2)
    refine ⟨_, rfl, _, rfl, v, t, qa, e, rfl, ht2, z1, he, hd, fun r H3 s3 du => ?_⟩
    obtain ⟨x, xs, hx, hst⟩ := inl_state du
    refine ⟨r, _, 0, _, rfl, rfl, SqT.of hx, atI_nat (j := 0) rfl, rfl, _, rfl, ?_⟩
    by_cases hs : x = Str.ofString "state"
    · obtain ⟨t', d⟩ := hst hs
      exact iteS hs ⟨_, rfl, q qa e t' n2 H3 (s3 _ _ he) hd d (st2.same s3) (by omega) (bu1.trans (bu2.trans (But.of s3)))⟩
    · refine iteR hs ?_
      exact ⟨_, _, n2, rfl, st2.same s3, by omega, bu1.trans (bu2.trans (But.of s3))⟩
  · obtain ⟨y3, y4, n', rfl, st1, hn1, bu1⟩ := hp
    refine ⟨(by show 2 ≤ sizeLine; decide), fun r nr => ?_⟩
    have hne : t ≠ .nil := nd_nil.mpr z0
    have hat : t.at [] = some t := by cases t <;> rfl
    exact q r (.turn []) _ n' _ (by rw [upd_same]; show _ = some (HO.tup [.str "turn", .str (px [])]); rw [px_nil]) ⟨t, hat, hne⟩ (.turn hat hne) (st1.same (same_new nr _)) (by omega) (bu1.trans (But.of (same_new nr _)))
end
/-! ### data off what changes -/
def NoT (D : Deck) (H : Hp) : Prop := ∀ a, D a → ∃ o, H a = some o ∧ ∀ xs, o ≠ .tup xs
theorem NoT.tup {D : Deck} {H H' : Hp} (n : NoT D H) (s : Same H H') {p : Addr} {xs : List V} (e : H' p = some (.tup xs)) : Off D p := fun z => by
  obtain ⟨o, h1, h2⟩ := n p z
  rw [s _ _ h1] at e
  injection e with e
  exact h2 _ e
theorem NoT.new {D : Deck} {H : Hp} (n : NoT D H) {p : Addr} (e : H p = none) : Off D p := fun z => by
  obtain ⟨o, h1, h2⟩ := n p z
  rw [e] at h1
  cases h1
theorem NoT.same {D : Deck} {H H' : Hp} (n : NoT D H) (s : Same H H') : NoT D H' := fun a z => by
  obtain ⟨o, h1, h2⟩ := n a z
  exact ⟨o, s _ _ h1, h2⟩
theorem NoT.dq {D : Deck} {H : Hp} (n : NoT D H) {v : V} {t : B} (h : BAt H v t) : DQ D H v t.data := h.dq fun a z xs e => by
  obtain ⟨o, h1, h2⟩ := n a z
  rw [e] at h1
  injection h1 with h1
  exact h2 _ h1.symm
theorem dp_t (xs : List PyData) : (PyData.tuple xs).depth = PyData.depthAll xs + 1 := by simp only [PyData.depth]
theorem dp_c (x : PyData) (xs : List PyData) : PyData.depthAll (x :: xs) = max x.depth (PyData.depthAll xs) := by simp only [PyData.depthAll]
theorem dp_e : PyData.depthAll [] = 0 := by simp only [PyData.depthAll]
theorem dp_s (x : Str) : (PyData.str x).depth = 0 := by simp only [PyData.depth]
theorem dp_i (x : Int) : (PyData.int x).depth = 0 := by simp only [PyData.depth]
theorem low_lt {c : Nat} (h : isLow c = true) : c < 128 := by
  simp only [isLow, Bool.and_eq_true, decide_eq_true_eq] at h
  omega
theorem wk_low {t : B} (h : t.lts) (k : Kd) : ∀ c ∈ t.wk k, isLow c = true := by
  intro c hc
  refine h c ?_
  cases k with
  | first => exact hc
  | between => exact (t.mid_mem c).mp hc
  | last =>
    have post_mem : ∀ t : B, c ∈ t.post → c ∈ t.pre := by
      intro t
      induction t with
      | nil => exact id
      | node l x r h1 h2 =>
        intro hc
        have hc : c ∈ l.post ++ r.post ++ [x] := hc
        show c ∈ x :: (l.pre ++ r.pre)
        rcases List.mem_append.mp hc with hc | hc
        · rcases List.mem_append.mp hc with hc | hc
          · exact List.mem_cons_of_mem _ (List.mem_append_left _ (h1 hc))
          · exact List.mem_cons_of_mem _ (List.mem_append_right _ (h2 hc))
        · exact List.mem_cons.mpr (.inl (List.mem_singleton.mp hc))
    exact post_mem t hc
/-! ### odd values -/
theorem dq_newT {D : Deck} {H : Hp} (dk : DeckOk H D) {p : Addr} (np : H p = none) {xs : List V} {ds : List PyData} (al : DQAll D H xs ds) : DQ D (upd H p (.tup xs)) (.ref p) (.tuple ds) := .tup (dk.new np) upd_same (dqAll_same (same_new np _) al)
theorem dq_newL {D : Deck} {H : Hp} (dk : DeckOk H D) {p : Addr} (np : H p = none) {xs : List V} {ds : List PyData} (al : DQAll D H xs ds) : DQ D (upd H p (.lst xs)) (.ref p) (.list ds) := .lst (dk.new np) upd_same (dqAll_same (same_new np _) al)
theorem dq_newE {D : Deck} {H : Hp} (dk : DeckOk H D) {p : Addr} (np : H p = none) : DQ D (upd H p (.dK [])) (.ref p) (.dict []) := .emp (dk.new np) upd_same
theorem DeckOk.but {D : Deck} {s : Addr} {H H' : Hp} (d : DeckOk H D) (b : But s H H') (hs : H' s ≠ none) : DeckOk H' D := fun a z e => by
  by_cases h : a = s
  · exact hs (h ▸ e)
  · cases q : H a with
    | none => exact d a z q
    | some o => rw [b a o h q] at e; cases e
/-- a value that may be shown: light, not deep -/
def Gd (D : Deck) (H : Hp) (W B : Nat) (v : V) (d : PyData) : Prop := DQ D H v d ∧ gd d = true ∧ wt d ≤ W ∧ d.depth ≤ B
def spOdd : Sp := fun vs H Q _ => ∃ (s : Addr) (n : Nat) (D : Deck), vs = [.ref s] ∧ Strm H s n ∧ n ≤ 900000 ∧ DeckOk H D ∧ D s ∧ ∀ (v : V) (d : PyData) (n' : Nat) (H' : Hp), Gd D H' 3000 3 v d → Strm H' s n' → n' ≤ n + 1 → DeckOk H' D → But s H H' → Q v H'
def odds : List PyData := [.none, .bool true, .bool false, .int (-1), .int ((10 : Int) ^ Int.toNat 29), .str "", .str "0", .tuple [], .list [], .dict [], .tuple [.str "l"], .list [.str "l"], .tuple [.bool true], .str "l", .int 0, .str "A", .tuple [.list [.int 0]], .tuple [.dict []]]
theorem odds_ok : odds.all (fun d => gd d && decide (wt d ≤ 3000) && decide (d.depth ≤ 3)) = true := by decide +kernel
section
variable {P : Program} {w : World} {K : PySem.W.Frag} {mg : Str → Option Value} {base : Heap} {f : Addr} {fd : FuncData}
theorem ok_odd (F : Fun K "_law_odd" "_law_odd" s__law_odd f fd) (D_law_take : Df P w K mg base 1 "_law_take" ["_law_stream_here", "_law_many"] spTake1) : FnOk P w K mg base CX0 2 f fd ["_law_stream_here"] spOdd := by
  refine F.ok (k := 1) sc__law_odd (fun vs H Q E h => ?_) (fun cdv A outer s H vs Q E hr h => ?_)
  · obtain ⟨s, n, D, rfl, _⟩ := h
    rfl
  obtain ⟨sa, n, D, rfl, st, hn, dk, ds, q⟩ := h
  refine ⟨_, (pss_cons (ps_set (i := 1) sc__law_odd.nd rfl (.inl rfl) (pe_lst (pa_cons pe_non (pa_cons pe_bl (pa_cons pe_bl (pa_cons (pe_un un_neg pe_int) (pa_cons (pe_op op_pow pe_int pe_int) (pa_cons pe_str (pa_cons pe_str (pa_cons (pe_tup pa_nil) (pa_cons (pe_lst pa_nil) (pa_cons pe_dnewK (pa_cons (pe_tup (pa_cons pe_str pa_nil)) (pa_cons (pe_lst (pa_cons pe_str pa_nil)) (pa_cons (pe_tup (pa_cons pe_bl pa_nil)) (pa_cons pe_str (pa_cons pe_int (pa_cons pe_str (pa_cons (pe_tup (pa_cons (pe_lst (pa_cons pe_int pa_nil)) pa_nil)) (pa_cons (pe_tup (pa_cons pe_dnewK pa_nil)) pa_nil))))))))))))))))))))
    (pss_one (ps_ret (pe_ix ix_list (pv 1) (pe_call D_law_take.ok (hr.mono (by omega)) rfl D_law_take.g D_law_take.kp D_law_take.b .nil pass0 (pa_cons (pv 0) (pa_cons pe_int pa_nil))) (fun _ _ => rfl))))), ?_⟩
  have sm := Same.refl H
  refine ⟨1, rfl, ?_⟩
  refine ⟨_, _, rfl, rfl, ⟨by decide, by decide, by decide⟩, ?_⟩
  refine ⟨(by show 0 ≤ sizeLine; decide), fun p1 n1 => ?_⟩
  have q1 := same_new n1 (.tup [])
  have a1 := dq_newT (xs := []) (ds := []) dk n1 .nil
  have x1 := upd_same (H := H) (a := p1) (o := .tup [])
  have f1 := dk.new n1
  have dk := dk.same q1
  have st := st.same q1
  have sm := sm.trans q1
  clear q1 n1
  generalize upd H p1 (.tup []) = H1 at x1 dk sm st a1 ⊢
  refine ⟨(by show 0 ≤ sizeLine; decide), fun p2 n2 => ?_⟩
  have q2 := same_new n2 (.lst [])
  have a2 := dq_newL (xs := []) (ds := []) dk n2 .nil
  have x2 := upd_same (H := H1) (a := p2) (o := .lst [])
  have f2 := dk.new n2
  have a1 := dq_same q2 a1
  have dk := dk.same q2
  have st := st.same q2
  have sm := sm.trans q2
  clear q2 n2
  generalize upd H1 p2 (.lst []) = H2 at x2 dk sm st a2 a1 ⊢
  refine fun p3 n3 => ?_
  have q3 := same_new n3 (.dK [])
  have a3 := dq_newE dk n3
  have x3 := upd_same (H := H2) (a := p3) (o := .dK [])
  have f3 := dk.new n3
  have a1 := dq_same q3 a1
  have a2 := dq_same q3 a2
  have dk := dk.same q3
  have st := st.same q3
  have sm := sm.trans q3
  clear q3 n3
  generalize upd H2 p3 (.dK []) = H3 at x3 dk sm st a3 a1 a2 ⊢
  refine ⟨(by show 1 ≤ sizeLine; decide), fun p4 n4 => ?_⟩
  have q4 := same_new n4 (.tup [.str "l"])
  have a4 := dq_newT (xs := [.str "l"]) (ds := [.str "l"]) dk n4 (.cons (.str _) .nil)
  have x4 := upd_same (H := H3) (a := p4) (o := .tup [.str "l"])
  have f4 := dk.new n4
  have a1 := dq_same q4 a1
  have a2 := dq_same q4 a2
  have a3 := dq_same q4 a3
  have dk := dk.same q4
  have st := st.same q4
  have sm := sm.trans q4
  clear q4 n4
  generalize upd H3 p4 (.tup [.str "l"]) = H4 at x4 dk sm st a4 a1 a2 a3 ⊢
  refine ⟨(by show 1 ≤ sizeLine; decide), fun p5 n5 => ?_⟩
  have q5 := same_new n5 (.lst [.str "l"])
  have a5 := dq_newL (xs := [.str "l"]) (ds := [.str "l"]) dk n5 (.cons (.str _) .nil)
  have x5 := upd_same (H := H4) (a := p5) (o := .lst [.str "l"])
  have f5 := dk.new n5
  have a1 := dq_same q5 a1
  have a2 := dq_same q5 a2
  have a3 := dq_same q5 a3
  have a4 := dq_same q5 a4
  have dk := dk.same q5
  have st := st.same q5
  have sm := sm.trans q5
  clear q5 n5
  generalize upd H4 p5 (.lst [.str "l"]) = H5 at x5 dk sm st a5 a1 a2 a3 a4 ⊢
  refine ⟨(by show 1 ≤ sizeLine; decide), fun p6 n6 => ?_⟩
  have q6 := same_new n6 (.tup [.bl true])
  have a6 := dq_newT (xs := [.bl true]) (ds := [.bool true]) dk n6 (.cons (.bl _) .nil)
  have x6 := upd_same (H := H5) (a := p6) (o := .tup [.bl true])
  have f6 := dk.new n6
  have a1 := dq_same q6 a1
  have a2 := dq_same q6 a2
  have a3 := dq_same q6 a3
  have a4 := dq_same q6 a4
  have a5 := dq_same q6 a5
  have dk := dk.same q6
  have st := st.same q6
  have sm := sm.trans q6
  clear q6 n6
  generalize upd H5 p6 (.tup [.bl true]) = H6 at x6 dk sm st a6 a1 a2 a3 a4 a5 ⊢
  refine ⟨(by show 1 ≤ sizeLine; decide), fun p7 n7 => ?_⟩
  have q7 := same_new n7 (.lst [.int 0])
  have a7 := dq_newL (xs := [.int 0]) (ds := [.int 0]) dk n7 (.cons (.int _) .nil)
  have x7 := upd_same (H := H6) (a := p7) (o := .lst [.int 0])
  have f7 := dk.new n7
  have a1 := dq_same q7 a1
  have a2 := dq_same q7 a2
  have a3 := dq_same q7 a3
  have a4 := dq_same q7 a4
  have a5 := dq_same q7 a5
  have a6 := dq_same q7 a6
  have dk := dk.same q7
  have st := st.same q7
  have sm := sm.trans q7
  clear q7 n7
  generalize upd H6 p7 (.lst [.int 0]) = H7 at x7 dk sm st a7 a1 a2 a3 a4 a5 a6 ⊢
  refine ⟨(by show 1 ≤ sizeLine; decide), fun p8 n8 => ?_⟩
  have q8 := same_new n8 (.tup [.ref p7])
  have a8 := dq_newT (xs := [.ref p7]) (ds := [.list [.int 0]]) dk n8 (.cons a7 .nil)
  have x8 := upd_same (H := H7) (a := p8) (o := .tup [.ref p7])
  have f8 := dk.new n8
  have a1 := dq_same q8 a1
  have a2 := dq_same q8 a2
  have a3 := dq_same q8 a3
  have a4 := dq_same q8 a4
  have a5 := dq_same q8 a5
  have a6 := dq_same q8 a6
  have a7 := dq_same q8 a7
  have dk := dk.same q8
  have st := st.same q8
  have sm := sm.trans q8
  clear q8 n8
  generalize upd H7 p8 (.tup [.ref p7]) = H8 at x8 dk sm st a8 a1 a2 a3 a4 a5 a6 a7 ⊢
  refine fun p9 n9 => ?_
  have q9 := same_new n9 (.dK [])
  have a9 := dq_newE dk n9
  have x9 := upd_same (H := H8) (a := p9) (o := .dK [])
  have f9 := dk.new n9
  have a1 := dq_same q9 a1
  have a2 := dq_same q9 a2
  have a3 := dq_same q9 a3
  have a4 := dq_same q9 a4
  have a5 := dq_same q9 a5
  have a6 := dq_same q9 a6
  have a7 := dq_same q9 a7
  have a8 := dq_same q9 a8
  have dk := dk.same q9
  have st := st.same q9
  have sm := sm.trans q9
  clear q9 n9
  generalize upd H8 p9 (.dK []) = H9 at x9 dk sm st a9 a1 a2 a3 a4 a5 a6 a7 a8 ⊢
  refine ⟨(by show 1 ≤ sizeLine; decide), fun p10 n10 => ?_⟩
  have q10 := same_new n10 (.tup [.ref p9])
  have a10 := dq_newT (xs := [.ref p9]) (ds := [.dict []]) dk n10 (.cons a9 .nil)
  have x10 := upd_same (H := H9) (a := p10) (o := .tup [.ref p9])
  have f10 := dk.new n10
  have a1 := dq_same q10 a1
  have a2 := dq_same q10 a2
  have a3 := dq_same q10 a3
  have a4 := dq_same q10 a4
  have a5 := dq_same q10 a5
  have a6 := dq_same q10 a6
  have a7 := dq_same q10 a7
  have a8 := dq_same q10 a8
  have a9 := dq_same q10 a9
  have dk := dk.same q10
  have st := st.same q10
  have sm := sm.trans q10
  clear q10 n10
  generalize upd H9 p10 (.tup [.ref p9]) = H10 at x10 dk sm st a10 a1 a2 a3 a4 a5 a6 a7 a8 a9 ⊢
  refine ⟨(by show 18 ≤ sizeLine; decide), fun p11 n11 => ?_⟩
  have q11 := same_new n11 (.lst [.non, .bl true, .bl false, .int (-1), .int ((10 : Int) ^ Int.toNat 29), .str "", .str "0", .ref p1, .ref p2, .ref p3, .ref p4, .ref p5, .ref p6, .str "l", .int 0, .str "A", .ref p8, .ref p10])
  have x11 := upd_same (H := H10) (a := p11) (o := .lst [.non, .bl true, .bl false, .int (-1), .int ((10 : Int) ^ Int.toNat 29), .str "", .str "0", .ref p1, .ref p2, .ref p3, .ref p4, .ref p5, .ref p6, .str "l", .int 0, .str "A", .ref p8, .ref p10])
  have f11 := dk.new n11
  have a1 := dq_same q11 a1
  have a2 := dq_same q11 a2
  have a3 := dq_same q11 a3
  have a4 := dq_same q11 a4
  have a5 := dq_same q11 a5
  have a6 := dq_same q11 a6
  have a7 := dq_same q11 a7
  have a8 := dq_same q11 a8
  have a9 := dq_same q11 a9
  have a10 := dq_same q11 a10
  have dk := dk.same q11
  have st := st.same q11
  have sm := sm.trans q11
  clear q11 n11
  generalize upd H10 p11 (.lst [.non, .bl true, .bl false, .int (-1), .int ((10 : Int) ^ Int.toNat 29), .str "", .str "0", .ref p1, .ref p2, .ref p3, .ref p4, .ref p5, .ref p6, .str "l", .int 0, .str "A", .ref p8, .ref p10]) = H11 at x11 dk sm st a1 a2 a3 a4 a5 a6 a7 a8 a9 a10 ⊢
  have al : DQAll D H11 [.non, .bl true, .bl false, .int (-1), .int ((10 : Int) ^ Int.toNat 29), .str "", .str "0", .ref p1, .ref p2, .ref p3, .ref p4, .ref p5, .ref p6, .str "l", .int 0, .str "A", .ref p8, .ref p10] odds := (.cons .non (.cons (.bl _) (.cons (.bl _) (.cons (.int _) (.cons (.int _) (.cons (.str _) (.cons (.str _) (.cons a1 (.cons a2 (.cons a3 (.cons a4 (.cons a5 (.cons a6 (.cons (.str _) (.cons (.int _) (.cons (.str _) (.cons a8 (.cons a10 .nil))))))))))))))))))
  refine ⟨_, rfl, _, rfl, sa, n, 18, rfl, st, by omega, by decide, by decide, fun j n' H' lj st' hn' bu' => ?_⟩
  have fs : p11 ≠ sa := fun z => f11 (z ▸ ds)
  have hj : j < 18 := by omega
  have e' := bu' _ _ fs x11
  have dk' := dk.but bu' (fun z => by obtain ⟨xs, e⟩ := st'.lst; rw [e] at z; cases z)
  have hg : ∃ v, ([.non, .bl true, .bl false, .int (-1), .int ((10 : Int) ^ Int.toNat 29), .str "", .str "0", .ref p1, .ref p2, .ref p3, .ref p4, .ref p5, .ref p6, .str "l", .int 0, .str "A", .ref p8, .ref p10] : List V)[j]? = some v := ⟨_, List.getElem?_eq_getElem (show j < 18 from hj)⟩
  obtain ⟨v, hv⟩ := hg
  obtain ⟨d, hd, hq⟩ := dqAll_get al hv
  have ho := List.all_eq_true.mp odds_ok d (List.mem_of_getElem? hd)
  rw [Bool.and_eq_true, Bool.and_eq_true, decide_eq_true_eq, decide_eq_true_eq] at ho
  refine ⟨p11, _, _, v, rfl, rfl, SqL.of e', atI_nat hv, q v d n' H' ⟨dq_sameD (bu'.sameD ds) hq, ho.1.1, ho.1.2, ho.2⟩ st' hn' dk' ((But.of sm).trans bu')⟩
end
/-! ### bounds of what is made -/
theorem wt_tt (xs : List PyData) : wt (.tuple xs) = 3 + wts xs := by simp only [wt]
theorem wt_tc (x : PyData) (xs : List PyData) : wts (x :: xs) = wt x + 2 + wts xs := by simp only [wts]
theorem wt_te : wts [] = 0 := by simp only [wts]
theorem wt_ts (x : Str) : wt (.str x) = 902 := by simp only [wt]
theorem gd_t (xs : List PyData) : gd (.tuple xs) = gds xs := by simp only [gd]
theorem gd_c (x : PyData) (xs : List PyData) : gds (x :: xs) = (gd x && gds xs) := by simp only [gds]
theorem gd_e : gds [] = true := by simp only [gds]
theorem gd_ch {c : Nat} (h : isLow c = true) : gd (.str (ch c)) = true := by
  have := low_lt h
  simp only [gd, Bool.and_eq_true, decide_eq_true_eq, List.all_eq_true]
  refine ⟨by show 1 ≤ 90; decide, fun d hd => ?_⟩
  have : d = c := List.mem_singleton.mp hd
  subst this
  exact decide_eq_true (by assumption)
theorem lts_l {l r : B} {x : Nat} (h : (B.node l x r).lts) : l.lts := fun c hc => h c (List.mem_cons_of_mem _ (List.mem_append_left _ hc))
theorem lts_r {l r : B} {x : Nat} (h : (B.node l x r).lts) : r.lts := fun c hc => h c (List.mem_cons_of_mem _ (List.mem_append_right _ hc))
theorem lts_x {l r : B} {x : Nat} (h : (B.node l x r).lts) : isLow x = true := h x List.mem_cons_self
theorem tree_gd : ∀ t : B, t.lts → gd t.data = true ∧ wt t.data ≤ 915 * t.size + 4 ∧ t.data.depth ≤ t.size
  | .nil, _ => ⟨rfl, by decide, Nat.le_refl _⟩
  | .node l x r, h => by
    obtain ⟨a1, a2, a3⟩ := tree_gd l (lts_l h)
    obtain ⟨b1, b2, b3⟩ := tree_gd r (lts_r h)
    have hs : (B.node l x r).size = l.size + 1 + r.size := rfl
    show gd (.tuple [l.data, .str (ch x), r.data]) = true ∧ wt (.tuple [l.data, .str (ch x), r.data]) ≤ _ ∧ (PyData.tuple [l.data, .str (ch x), r.data]).depth ≤ _
    rw [gd_t, gd_c, gd_c, gd_c, gd_e, a1, b1, gd_ch (lts_x h), wt_tt, wt_tc, wt_tc, wt_tc, wt_te, wt_ts, dp_t, dp_c, dp_c, dp_c, dp_e, dp_s, hs]
    exact ⟨rfl, by omega, by omega⟩
/-! ### lists of good values; one more place that may change -/
def VOk (D : Deck) (H : Hp) (vs : List V) : Prop := ∃ ds, DQAll D H vs ds ∧ ∀ d ∈ ds, gd d = true ∧ wt d ≤ 60000 ∧ d.depth ≤ 40
theorem VOk.get {D : Deck} {H : Hp} {vs : List V} (h : VOk D H vs) {i : Nat} {v : V} (e : vs[i]? = some v) : ∃ d, Gd D H 60000 40 v d := by
  obtain ⟨ds, al, ok⟩ := h
  obtain ⟨d, hd, hq⟩ := dqAll_get al e
  obtain ⟨h1, h2, h3⟩ := ok d (List.mem_of_getElem? hd)
  exact ⟨d, hq, h1, h2, h3⟩
theorem VOk.sameD {D : Deck} {H H' : Hp} (s : SameD D H H') {vs : List V} (h : VOk D H vs) : VOk D H' vs := by
  obtain ⟨ds, al, ok⟩ := h
  exact ⟨ds, dqAll_sameD s al, ok⟩
theorem VOk.snoc {D : Deck} {H : Hp} {vs : List V} (h : VOk D H vs) {v : V} {d : PyData} (g : Gd D H 60000 40 v d) : VOk D H (vs ++ [v]) := by
  obtain ⟨ds, al, ok⟩ := h
  refine ⟨ds ++ [d], dqAll_app al (.cons g.1 .nil), fun e he => ?_⟩
  rcases List.mem_append.mp he with h | h
  · exact ok e h
  · rw [List.mem_singleton.mp h]; exact g.2
def More (D : Deck) (W : Addr) : Deck := fun a => D a ∨ a = W
theorem off_more {D : Deck} {H : Hp} {W a : Addr} {o : HO} (n : H W = none) (f : Off D a) (e : H a = some o) : Off (More D W) a := fun z => by
  rcases z with z | z
  · exact f z
  · rw [z, n] at e; cases e
mutual
theorem dq_more {D : Deck} {H : Hp} {W : Addr} (n : H W = none) : ∀ {v : V} {d : PyData}, DQ D H v d → DQ (More D W) H v d
  | _, _, .non => .non
  | _, _, .bl b => .bl b
  | _, _, .int i => .int i
  | _, _, .str x => .str x
  | _, _, .tup o e al => .tup (off_more n o e) e (dqAll_more n al)
  | _, _, .lst o e al => .lst (off_more n o e) e (dqAll_more n al)
  | _, _, .emp o e => .emp (off_more n o e) e
theorem dqAll_more {D : Deck} {H : Hp} {W : Addr} (n : H W = none) : ∀ {vs : List V} {ds : List PyData}, DQAll D H vs ds → DQAll (More D W) H vs ds
  | _, _, .nil => .nil
  | _, _, .cons a b => .cons (dq_more n a) (dqAll_more n b)
end
theorem VOk.more {D : Deck} {H : Hp} {W : Addr} (n : H W = none) {vs : List V} (h : VOk D H vs) : VOk (More D W) H vs := by
  obtain ⟨ds, al, ok⟩ := h
  exact ⟨ds, dqAll_more n al, ok⟩
theorem gd_l (xs : List PyData) : gd (.list xs) = gds xs := by simp only [gd]
theorem wt_l (xs : List PyData) : wt (.list xs) = 3 + wts xs := by simp only [wt]
theorem dp_l (xs : List PyData) : (PyData.list xs).depth = PyData.depthAll xs + 1 := by simp only [PyData.depth]
/-! ### the stream and one list more -/
def One (sa : Addr) : Deck := fun a => a = sa
theorem Strm.deck {H : Hp} {sa : Addr} {n : Nat} (st : Strm H sa n) : DeckOk H (One sa) ∧ ∀ a, One sa a → ∀ xs, H a ≠ some (.tup xs) := by
  obtain ⟨xs, e⟩ := st.lst
  refine ⟨fun a z h => ?_, fun a z ys h => ?_⟩
  · rw [show a = sa from z, e] at h; cases h
  · rw [show a = sa from z, e] at h; cases h
theorem off_one {H : Hp} {sa a : Addr} {n : Nat} {xs : List V} (st : Strm H sa n) (e : H a = some (.tup xs)) : Off (One sa) a := fun z => by
  obtain ⟨ys, e'⟩ := st.lst
  rw [show a = sa from z, e'] at e; cases e
theorem off_moreT {H : Hp} {sa W a : Addr} {n : Nat} {xs ws : List V} (st : Strm H sa n) (ew : H W = some (.lst ws)) (e : H a = some (.tup xs)) : Off (More (One sa) W) a := fun z => by
  rcases z with z | z
  · exact off_one st e z
  · rw [z, ew] at e; cases e
theorem deck_more {H : Hp} {sa W : Addr} {n : Nat} {ws : List V} (st : Strm H sa n) (ew : H W = some (.lst ws)) : DeckOk H (More (One sa) W) := fun a z e => by
  rcases z with z | z
  · exact st.deck.1 a z e
  · rw [z, ew] at e; cases e
theorem nD_more {H : Hp} {sa W : Addr} {n : Nat} {ws : List V} (st : Strm H sa n) (ew : H W = some (.lst ws)) : ∀ a, More (One sa) W a → ∀ xs, H a ≠ some (.tup xs) := fun a z xs e => off_moreT st ew e z
mutual
theorem dq_butI {D : Deck} {H H' : Hp} {ad C dx : Addr} {fs : List (Str × V)} (hi : H ad = some (.ins C dx fs)) (b : But ad H H') : ∀ {v : V} {d : PyData}, DQ D H v d → DQ D H' v d
  | _, _, .non => .non
  | _, _, .bl b => .bl b
  | _, _, .int i => .int i
  | _, _, .str x => .str x
  | _, _, .lst o e a => .lst o (b _ _ (ne_of e hi (by intro z; cases z)) e) (dqAll_butI hi b a)
  | _, _, .tup o e a => .tup o (b _ _ (ne_of e hi (by intro z; cases z)) e) (dqAll_butI hi b a)
  | _, _, .emp o e => .emp o (b _ _ (ne_of e hi (by intro z; cases z)) e)
theorem dqAll_butI {D : Deck} {H H' : Hp} {ad C dx : Addr} {fs : List (Str × V)} (hi : H ad = some (.ins C dx fs)) (b : But ad H H') : ∀ {vs : List V} {ds : List PyData}, DQAll D H vs ds → DQAll D H' vs ds
  | _, _, .nil => .nil
  | _, _, .cons h a => .cons (dq_butI hi b h) (dqAll_butI hi b a)
end
theorem gd_fin : ∀ n : Fin 64, gd (.int (n.val : Int)) = true := by decide +kernel
theorem gd_n {n : Nat} (h : n < 64) : gd (.int (n : Int)) = true := gd_fin ⟨n, h⟩
/-! ### equal -/
theorem catA_any {K : PySem.W.Frag} {H : Hp} {a b : Addr} {xs ys : List V} {Q : VK} (hx : H a = some (.tup xs)) (hy : H b = some (.tup ys)) (hz : xs.length + ys.length ≤ sizeLine)
    (q : ∀ (p : Addr) (H' : Hp), Same H H' → H' p = some (.tup (xs ++ ys)) → Q (.ref p) H') : rCatA K (.ref a) (.ref b) H Q :=
  ⟨a, b, xs, ys, rfl, rfl, SqT.of hx, SqT.of hy, hz, fun e => q b H (Same.refl H) (by rw [e]; exact hy), fun _ e => q a H (Same.refl H) (by rw [e, List.append_nil]; exact hx), fun _ _ p np => q p _ (same_new np _) upd_same⟩
theorem Dk.apart {C a b : Addr} {H H' : Hp} {ts : List B} {t : B} {es : List Ed} {bu : Bool} {xs : List V} (k : But b H H') (eb : H b = some (.lst xs)) (d : Dk C H a ts t es bu) : Dk C H' a ts t es bu := by
  obtain ⟨dx, ta, td, vs, v, ds, h1, h2, h3, h4, h5, h6⟩ := d
  have kt : KeepT H H' := But.keepL eb k
  exact ⟨dx, ta, td, vs, v, ds, k _ _ (ne_of h1 eb (by intro z; cases z)) h1, kt _ _ h2, kt _ _ h3, h4.keep kt, h5.keep kt, h6.keep kt⟩
def spEqualQ : Sp := fun vs H Q _ => ∃ (u v : V) (D : Deck) (d : PyData), vs = [u, v] ∧ DQ D H u d ∧ DQ D H v d ∧ gd d = true ∧ wt d ≤ 1000000 ∧ d.depth ≤ 60 ∧ Q (.bl true) H
section
variable {P : Program} {w : World} {K : PySem.W.Frag} {mg : Str → Option Value} {base : Heap} {f : Addr} {fd : FuncData}
theorem ok_equalQ {k : Nat} (F : Fun K "_law_equal" "_law_equal" s__law_equal f fd) (M : Mgs mg) : FnOkG P w K mg base (k + 1) f fd ["_law_one", "_law_other"] spEqualQ := by
  refine fnG F sc__law_equal (fun vs H Q E h => ?_) (fun cdv A outer s H vs Q E gs hr h => ?_)
  · obtain ⟨u, v, D, d, rfl, _⟩ := h
    rfl
  obtain ⟨u, v, D, d, rfl, h1, h2, h3, h4, h5, q⟩ := h
  refine ⟨_, (pss_one (ps_ret (pe_cmpR op_eq (pe_callB (call_reprQ gs hr.units) rfl M.repr (by decide +kernel) (pa_cons (pv 0) pa_nil)) (pe_callB (call_reprQ gs hr.units) rfl M.repr (by decide +kernel) (pa_cons (pv 1) pa_nil)) (nomark _)))), ?_⟩
  refine ⟨_, rfl, u, D, d, rfl, h1, h3, h4, h5, _, rfl, v, D, d, rfl, h2, h3, h4, h5, rfl, ?_⟩
  rw [decide_eq_true (rfl : V.str d.shown = V.str d.shown)]
  exact q
end
end Tw --
namespace L2
open PySem PySem.Spec PyProof.Rows GenW
/-! ### if and for in a generator's body -/
section
variable {X : Cx}
def tGIf (c : TT) (a b : TGn) : TGn := fun D ys σ H => c σ H fun d H1 => if d = true then a D ys σ H1 else b D ys σ H1
theorem gs_if {c : Expr} {a b : List Stmt} {tc : TT} {t u : TGn} {pos : Pos} (hc : PT X c tc) (ha : GSs X a t) (hb : GSs X b u) : GS X (.If c a b pos) (tGIf tc t u) := by
  refine ⟨fun A S ip R n ys s₀ cc fs K J gd lv s σ H D g hn k hI ht => ?_⟩
  obtain ⟨acc, cs, r, I⟩ := hI
  rw [exec_If]
  refine seg_bind_wrap (wpAny_standAt ?_)
  refine seg_bind_wrap ?_
  rw [g.over]
  refine wpAny_mono (hc.run _ s σ H _ I ht) (fun d s' hd => ?_) fun x s' hx => k.exc n s₀ x s' hx
  obtain ⟨H1, I1, q1⟩ := hd
  cases d with
  | true =>
    rw [if_pos rfl] at q1 ⊢
    exact ha.run A S ip R n ys s₀ cc fs K J gd lv s' σ H1 D g hn k ⟨acc, cs, r, I1⟩ q1
  | false =>
    rw [if_neg Bool.false_ne_true] at q1 ⊢
    exact hb.run A S ip R n ys s₀ cc fs K J gd lv s' σ H1 D g hn k ⟨acc, cs, r, I1⟩ q1
def tGFor (wi : TI) (g : TG) (tb : TGn) : TGn := fun D ys σ H => wi σ H fun J H1 => ∃ W : Nat → Nat → List V → St → Hp → Prop, (∃ m, W 0 m ys σ H1) ∧ ∀ i m ys σ H, W i m ys σ H →
  (J.stop i H ∧ D.nx ys σ H) ∨ (J.go i H ∧ ∃ N : List V → St → Hp → Prop, (∀ ys' σ' H', N ys' σ' H' → ∃ m', m' < m ∧ W (i + 1) m' ys' σ' H') ∧ ∀ x H', J.yld i H x H' → g x σ H' fun σ2 H2 => tb { D with nx := N, ct := N, bk := D.nx } ys σ2 H2)
theorem gs_for {tg iter : Expr} {body : List Stmt} {wi : TI} {g : TG} {tb : TGn} {pos : Pos} (hp : PassesOwn (model X.prog X.w) X.A X.env X.xe) (hc : X.calm = true) (hi : PI X tg iter wi) (hg : PG X tg g) (hb : GSs X body tb)
    (hs : ∀ x, foldedSetIterable iter X.env x = pure x := by intro _; rfl) : GS X (.For tg iter body [] pos) (tGFor wi g tb) := by
  refine ⟨fun A S ip R n ys s₀ c fs K J gd lv s σ H D gc hn k hI ht => ?_⟩
  obtain ⟨acc, cc, r, I⟩ := hI
  rw [exec_For]
  refine seg_bind_wrap (wpAny_standAt ?_)
  refine seg_bind_wrap ?_
  rw [gc.over]
  refine wpAny_mono (hi.run _ s σ H _ I ht) (fun v s1 h1 => ?_) fun x s' hx => k.exc n s₀ x s' hx
  refine seg_bind_wrap (wpAny_of_eq (hs v) ?_)
  refine seg_bind_wrap (wpAny_standAt ?_)
  refine seg_bind_wrap (wpAny_holding ?_)
  rw [gc.over]
  refine wpAny_mono h1 (fun itv s2 h2 => ?_) fun x s' hx => k.exc n s₀ x s' hx
  obtain ⟨it, fp, tn, Jt, H2, e, I2, T, st2, f2, W, ⟨m0, w0⟩, turn⟩ := h2
  subst e
  have stat : ∀ {H' : Hp} {acc' : Array Value} {c' : Nat}, (∀ b ∈ fp, H' b = none) → ∀ b ∈ fp, FpOk X ((S, lstObj acc' c') :: ip) H' b := fun {H' acc' c'} hn b hb => by
    obtain ⟨_, q1, q2, q3, q4, q5⟩ := f2 b hb
    refine ⟨hn b hb, q1, q2, q3, q4, fun p hp => ?_⟩
    rcases List.mem_append.mp hp with hp | hp
    · exact q5 p (List.mem_append_left _ hp)
    · rcases List.mem_cons.mp hp with hp | hp
      · rw [hp]
        exact q5 (S, lstObj acc cc) (List.mem_append_right _ List.mem_cons_self)
      · exact q5 p (List.mem_append_right _ (List.mem_cons_of_mem _ hp))
  have notS : ∀ b ∈ fp, b ≠ S := fun b hb => Ne.symm ((f2 b hb).2.2.2.2.2 (S, lstObj acc cc) (List.mem_append_right _ List.mem_cons_self))
  refine seg_call fun p => ?_
  have gl := fun (kk : Result → Sem PySem.Fin) => gc_loop (k := kk) (c' := .forLoop tg (.ref it) body [] X.env) (l := lv []) (kp := []) (p := p) gc rfl rfl
  have loop : ∀ (m i n : Nat) (ys : List V) (s₀ s : Shared) (σ : St) (H : Hp) (acc : Array Value) (cc : Nat), n + ys.length = sizeLine → W i m ys σ H → Vals ys acc.toList → Inv X ((S, lstObj acc cc) :: ip) σ H s → tn i s.heap → (∀ b ∈ fp, H b = none) →
      Seg (model X.prog X.w) A R (GY X S) n s₀ (.forLoop tg (.ref it) body [] X.env) ((model X.prog X.w).den (.forLoop tg (.ref it) body [] X.env))
        (.ret (fun r => ((match r with | .ok f => (.pure f : Sem Flow) | .error e => .raise e).onRaise (cameBack X.env)).wrap K J gd lv) none (gd false) (lv []) c p [] :: fs) s := by
    intro m
    induction m using Nat.strongRecOn with
    | ind m ih =>
      intro i n ys s₀ s σ H acc cc hn w r I st fr
      have ee : ∀ (n : Nat) (s₀ : Shared) (x : Value) (s' : Shared), X.xe x s' → Seg (model X.prog X.w) A R (GY X S) n s₀ (.forLoop tg (.ref it) body [] X.env)
          ((do noteFrame x X.env; theTreesLotGoes x : Sem Unit).bind (fun _ => .raise x))
          (.ret (fun r => ((match r with | .ok f => (.pure f : Sem Flow) | .error e => .raise e).onRaise (cameBack X.env)).wrap K J gd lv) none (gd false) (lv []) c p [] :: fs) s' := fun n s₀ x s' hx => by
        rw [Sem.bind_eq_wrap]
        refine seg_wrap ?_
        rw [(gl _).over]
        refine wpAny_bind (wpAny_mono (hp x s' hx) (fun _ s'' hcb => wpAny_theTreesLotGoes ?_) fun y s'' hcb => ?_)
        · exact seg_leaf (.error x) (seg_cameBack gc k hcb)
        · exact seg_leaf (.error y) (seg_cameBack gc k hcb)
      show Seg _ A R _ n s₀ _ ((forTurn tg (.ref it) body [] X.env).onRaise (fun x => do noteFrame x X.env; theTreesLotGoes x)) _ s
      unfold forTurn
      rw [Sem.onRaise_eq_wrap]
      refine seg_bind_wrap (wpAny_standAt ?_)
      refine seg_bind_wrap ?_
      rw [(gl _).over]
      rcases turn i m ys σ H w with ⟨stop, qn⟩ | ⟨go, N, hN, step⟩
      · refine wpAny_onRaise (wpAny_mono (T.done X rfl rfl rfl hc i _ s σ H (fun _ _ => False) I (stat fr) st stop) (fun r' s4 h4 => ?_) fun _ _ z => z.elim)
        obtain ⟨hr, I4⟩ := h4
        subst hr
        refine seg_again rfl ?_
        exact seg_leaf (.ok .next) (k.ok n ys s₀ s4 .next hn ⟨σ, H, ⟨acc, cc, r, I4⟩, qn⟩)
      · refine wpAny_onRaise (wpAny_mono (T.item X rfl rfl rfl hc i _ s σ H (fun _ _ => False) I (stat fr) st go) (fun r' s4 h4 => ?_) fun _ _ z => z.elim)
        obtain ⟨u, hr, h4⟩ := h4
        subst hr
        refine seg_bind_wrap ?_
        rw [(gl _).over]
        refine wpAny_mono h4 (fun _ s5 h5 => ?_) fun _ _ z => z.elim
        obtain ⟨x, H5, I5, r5, y5, st5, fr5⟩ := h5
        have I5' := I5.pinned (stat fr5) (T.obj _ _ st5)
        refine seg_bind_wrap ?_
        rw [(gl _).over]
        refine wpAny_mono (hg.run _ s5 σ H5 x u _ I5' r5 (step x H5 y5)) (fun _ s6 h6 => ?_) fun x s' hx => ee n s₀ x s' hx
        obtain ⟨σ6, H6, I6, q6⟩ := h6
        rw [Sem.bind_eq_wrap', Sem.wrap_wrap]
        have gc' : GC X S (ip ++ pinsAt fp s5.heap) A (.forLoop tg (.ref it) body [] X.env) (.ret (fun r => ((match r with | .ok f => (.pure f : Sem Flow) | .error e => .raise e).onRaise (cameBack X.env)).wrap K J gd lv) none (gd false) (lv []) c p [] :: fs) id :=
          { gl _ with ip := fun p hp => (List.mem_append.mp hp).elim (fun z => gc.ip p z) fun z => notS p.1 (of_pinsAt z).1 }
        have again : ∀ {n' : Nat} {ys' : List V} {s₀' s7 : Shared} {σ7 : St} {H7 : Hp}, n' + ys'.length = sizeLine → GI X S (ip ++ pinsAt fp s5.heap) ys' σ7 H7 s7 → N ys' σ7 H7 →
            Seg (model X.prog X.w) A R (GY X S) n' s₀' (.forLoop tg (.ref it) body [] X.env) ((model X.prog X.w).den (.forLoop tg (.ref it) body [] X.env))
              (.ret (fun r => ((match r with | .ok f => (.pure f : Sem Flow) | .error e => .raise e).onRaise (cameBack X.env)).wrap K J gd lv) none (gd false) (lv []) c p [] :: fs) s7 := fun {n' ys' s₀' s7 σ7 H7} hn' hI n7 => by
          obtain ⟨acc7, c7, r7, I7⟩ := hI
          obtain ⟨m', hm, w7⟩ := hN ys' σ7 H7 n7
          have pin7 : ∀ b ∈ fp, ∀ o, s5.heap.get? b = some o → s7.heap.get? b = some o ∧ H7 b = none := fun b hb o e => by
            have := I7.pin (b, o) (List.mem_append_right _ (List.mem_cons_of_mem _ (List.mem_append_right _ (mem_pinsAt hb e))))
            exact ⟨this.1, this.2.1⟩
          refine ih m' hm (i + 1) n' ys' s₀' s7 σ7 H7 acc7 c7 hn' w7 r7 (Inv.unpinned (pins := (S, lstObj acc7 c7) :: ip) I7) (T.keep _ _ _ st5 fun b hb o e => (pin7 b hb o e).1) fun b hb => ?_
          obtain ⟨o, e, _⟩ := T.obj _ _ st5 b hb
          exact (pin7 b hb o e).2
        have drop : ∀ {ys' : List V} {s7 : Shared} {σ7 : St} {H7 : Hp}, GI X S (ip ++ pinsAt fp s5.heap) ys' σ7 H7 s7 → GI X S ip ys' σ7 H7 s7 := fun {ys' s7 σ7 H7} hI => by
          obtain ⟨acc7, c7, r7, I7⟩ := hI
          exact ⟨acc7, c7, r7, Inv.unpinned (pins := (S, lstObj acc7 c7) :: ip) I7⟩
        refine hb.run A S (ip ++ pinsAt fp s5.heap) R n ys s₀ _ _ _ _ id id s6 σ6 H6 { D with nx := N, ct := N, bk := D.nx } gc' hn ⟨fun n' ys' s₀' s7 f hn' hs7 => ?_, fun n' s₀' x s7 hx => ee n' s₀' x s7 hx⟩ ⟨acc, cc, r, I6⟩ q6
        cases f with
        | next =>
          obtain ⟨σ7, H7, I7, n7⟩ := hs7
          exact seg_again rfl (again hn' I7 n7)
        | cont =>
          obtain ⟨σ7, H7, I7, n7⟩ := hs7
          exact seg_again rfl (again hn' I7 n7)
        | brk =>
          obtain ⟨σ7, H7, I7, n7⟩ := hs7
          exact seg_leaf (.ok .next) (k.ok n' ys' s₀' s7 .next hn' ⟨σ7, H7, drop I7, n7⟩)
        | ret v =>
          obtain ⟨x7, σ7, H7, I7, r7, q7⟩ := hs7
          exact seg_leaf (.ok (.ret v)) (k.ok n' ys' s₀' s7 (.ret v) hn' ⟨x7, σ7, H7, drop I7, r7, q7⟩)
  exact loop m0 0 n ys s₀ s2 σ H2 acc cc hn w0 r I2 st2 (fun b hb => (f2 b hb).1)
end
end L2
namespace Tw
open PySem PySem.Spec PyProof.Rows L2
end Tw --
/-! ### enumerate of a tuple -/
namespace PySem
open Sem (wp)
open AutoSeq1 (wpAny_loadPart')
set_option maxHeartbeats 1000000 in
theorem meets_enumerate_newB1 {v : Value} {o : Obj} {H : Heap → Prop} (B : Begins v o H) :
    Meets (Builtin.«enumerate.__new__» ⟨[.type "enumerate", v], []⟩) (fun _ R s => H s.heap ∧
      R (.ok (.ret (.ref (s.heap.push o).objs.size))) { s with heap := (s.heap.push o).push { cls := .type "enumerate", data := .fields #[.none, .bool false, .ref s.heap.objs.size, rawInt 0, .none, .none] } }) :=
  .of_wp fun prog w A R s h => by
    obtain ⟨hp, g, d, tk, os⟩ := s; obtain ⟨h1, h⟩ := h
    have hsub := sub_enumerate
    have q1 : ∀ {A' : Around} {E : Value → Shared → Prop} {Q : Value → Shared → Prop}, Q (.ref hp.objs.size) ⟨hp.push o, g, d, tk, os⟩ → wpAny (model prog w) A' (pyIter v) Q E ⟨hp, g, d, tk, os⟩ :=
      fun q => B.iter prog w _ _ ⟨hp, g, d, tk, os⟩ _ h1 q
    wp_walk using q1
    refine wpAny_stack_any fun st => wpAny_pure ?_
    split
    · rename_i c _ _ _ _ _
      cases (c == Value.type "enumerate")
      · wp_walk using q1
        exact ⟨_, rfl, h⟩
      · wp_walk using q1
        exact ⟨_, rfl, h⟩
    · wp_walk using q1
      exact ⟨_, rfl, h⟩
section
variable {prog : Program} {w : World} {A : Around} {E : Value → Shared → Prop} {s : Shared}
theorem enum_begins1 {v : Value} {o : Obj} {H : Heap → Prop} {Q : Value → Shared → Prop} (B : Begins v o H) (h1 : H s.heap)
    (h : ∀ h', IsEnum h' (s.heap.objs.size + 1) s.heap.objs.size 0 .none → h'.get? s.heap.objs.size = some o → h'.objs.size = s.heap.objs.size + 2 →
      (∀ b o, s.heap.get? b = some o → h'.get? b = some o) → Q (.ref (s.heap.objs.size + 1)) { s with heap := h' }) :
    wpAny (model prog w) A (call (.type "enumerate") [v]) Q E s := by
  refine callType_new F.called_enumerate (by decide) (F.typeCall_enumerate_1 _) (F.newCall_enumerate_1 _) (fun obj => F.args_object_init_2 obj _) F.entry_enumerate_new
    (meets_enumerate_newB1 B) ⟨h1, ?_⟩
  have hz : (s.heap.push o).objs.size = s.heap.objs.size + 1 := Heap.size_push ..
  show _ ∧ _
  rw [hz]
  have he : IsEnum ((s.heap.push o).push { cls := .type "enumerate", data := .fields #[.none, .bool false, .ref s.heap.objs.size, rawInt 0, .none, .none] }) (s.heap.objs.size + 1) s.heap.objs.size 0 .none := by
    have := Heap.get?_push_size (s.heap.push o) (o := { cls := .type "enumerate", data := .fields #[.none, .bool false, .ref s.heap.objs.size, rawInt 0, .none, .none] }) rfl
    rw [hz] at this; exact this
  refine ⟨⟨_, he, rfl⟩, h _ he (Heap.get?_push_of_some _ (Heap.get?_push_size _ B.free)) (by rw [Heap.size_push, hz]) fun b o x => Heap.get?_push_of_some _ (Heap.get?_push_of_some _ x)⟩
theorem enumT_end {e it l : Addr} {i : Nat} {items : Array Value} {old : Value} {Q : Option Value → Shared → Prop} (hh : A.handled = none)
    (he : IsEnum s.heap e it i old) (hit : s.heap.IsTupleIter it l i) (hl : s.heap.IsTuple l items) (hx : items[i]? = none)
    (hQ : ∀ h', Heap.ExtBut it s.heap h' → Q none { s with heap := h' }) : wpAny (model prog w) A (pyNext (.ref e)) Q E s := by
  have hT : s.TypeIs (.ref e) "enumerate" := ⟨_, he, rfl⟩
  unfold pyNext
  refine wpAny_bind (wpAny_attempt (wpAny_callSpecial?_slot (name := Str.ofString "__next__") hT F.slot_enumerate_next
    (wpAny_call_entry F.slot_enumerate_next hT F.entry_enumerate_next ?_ (F.args_enumerate_next_1 _))))
  show wpAny _ _ (field (.ref e) 2 >>= _) _ _ _
  refine wpAny_bind (wpAny_field he rfl (x := .ref it) rfl ?_)
  refine wpAny_bind (wpAny_nextOf_tuple_end hh hit hl hx fun h' x he' hx' => ?_)
  obtain ⟨o, ho, hc⟩ := hx'
  refine wpAny_bind (wpAny_isInstance (T := "StopIteration") (b := true) ⟨o, ho, hc⟩ isSubtype_stop ?_)
  exact wpAny_pure (hQ _ he')
end
end PySem
namespace L2
open PySem PySem.Spec PyProof.Rows
/-- the tuple at a, each item in a new pair -/
def IteT (K : PySem.W.Frag) (a : Addr) : It :=
  ⟨fun i H => ∃ (xs : List V) (x : V), SqT K H a xs ∧ xs[i]? = some x, fun i H v H' => ∃ T x, v = .ref T ∧ H T = none ∧ H' = upd H T (.tup [.int (i : Nat), x]) ∧ ∀ xs, SqT K H a xs → xs[i]? = some x, fun i H => ∃ xs : List V, SqT K H a xs ∧ xs.length ≤ i⟩
theorem tup_ne_enum {h : Heap} {a e it : Addr} {i : Int} {old : Value} {items : Array Value} (p : h.IsTuple a items) (he : IsEnum h e it i old) : e ≠ a := fun z => by
  obtain ⟨o, ho, hc, _⟩ := p
  rw [← z, he] at ho
  cases ho
  exact absurd (Value.type.inj hc) (by decide)
theorem tup_ne_iter {h : Heap} {a t it : Addr} {i : Nat} {items : Array Value} (p : h.IsTuple a items) (hi : h.IsTupleIter it t i) : a ≠ it := fun z => by
  obtain ⟨o, ho, hc, _⟩ := p
  obtain ⟨o2, ho2, hc2, _⟩ := hi
  rw [z, ho2] at ho
  cases ho
  rw [hc] at hc2
  exact absurd (Value.type.inj hc2) (by decide)
theorem turn_enumT {P : Program} {w : World} {K : PySem.W.Frag} {elts : List Expr} {kk : Nat} {tpos : Pos} (a e it : Addr) :
    Turn P w K (.Tuple elts kk tpos) (IteT K a) [e, it] e (fun i h => (∃ old, IsEnum h e it ((i : Nat) : Int) old) ∧ h.IsTupleIter it a i ∧ e ≠ it) where
  mem := by simp
  obj := fun i h st b hb => by
    obtain ⟨⟨old, he⟩, ⟨o, ho, hc, hd⟩, _⟩ := st
    have e' : b = e ∨ b = it := by simpa using hb
    rcases e' with z | z
    · rw [z]; exact ⟨_, he, fun v q => nomatch q⟩
    · rw [z]; exact ⟨o, ho, fun v q => by rw [hd] at q; cases q⟩
  keep := fun i h h' st k => let ⟨⟨old, he⟩, hi, hne⟩ := st; ⟨⟨old, k e (by simp) _ he⟩, hi.at fun o q => k it (by simp) o q, hne⟩
  item := by
    intro X hP hw hK hc i pins s σ H E I hf st hg
    subst hP hw hK
    obtain ⟨⟨old, he⟩, hit, hne⟩ := st
    obtain ⟨xs, x, hq, hx⟩ := hg
    obtain ⟨its, rv, p, hz⟩ := I.tuple hq
    obtain ⟨u, hu, ru⟩ := rv.get hx
    have p : s.heap.IsTuple a its.toArray := p
    have hel : e < s.heap.objs.size := Heap.lt_size he
    have hil : it < s.heap.objs.size := by obtain ⟨_, q, _⟩ := hit; exact Heap.lt_size q
    have hlt : i < its.toArray.size := by
      rw [List.size_toArray]
      exact (List.getElem?_eq_some_iff.mp hu).1
    have nea := tup_ne_enum p he
    have nai := tup_ne_iter p hit
    refine wpAny_pyNext_enum_itemD (Draws.tuple (A := X.A.in1) (I.ok.hd hc) it a nai its.toArray) he ⟨hit, p⟩ hlt hne (by simp [hne, nea]) fun y h' tk hP ho hst' hT hsz hk => ?_
    have ey : y = u := by
      have : its[i]? = some y := by simpa using hP
      rw [hu] at this
      exact (Option.some.inj this).symm
    subst ey
    refine ⟨_, rfl, wpAny_letOwnedTupleGo_enum (s := { s with heap := h', toks := tk + 1 }) ho fun h'' he' sb => ?_⟩
    have hT2 : h''.get? s.heap.objs.size = some { cls := .type "tuple", data := .seq #[.int i tk, y] } := (sb.2 _ (Nat.ne_of_gt hel)).trans hT
    have new : ObjOk X.prog X.w (upd H s.heap.objs.size (.tup [.int (i : Nat), x])) h'' s.heap.objs.size (.tup [.int (i : Nat), x]) :=
      ⟨by show 2 ≤ sizeLine; decide, [.int i tk, y], .cons ⟨_, rfl⟩ (.cons ru .nil), ⟨_, hT2, rfl, _, rfl⟩⟩
    have I1 : Inv X pins σ (upd H s.heap.objs.size (.tup [.int (i : Nat), x])) { s with heap := h'', toks := tk + 1 } :=
      I.turnedNew (ch := [e, it]) (fun b ob hb q => (sb.2 b (fun z => hb (by simp [z]))).trans (hk b ob (fun z => hb (by simp [z])) (fun z => hb (by simp [z])) q)) hf (Nat.le_refl _) new
    refine ⟨.ref s.heap.objs.size, _, I1, rfl, ⟨_, x, rfl, I.hok.fresh (Nat.le_refl _), rfl, fun ys hy => by rw [I.tuple_inj hy hq]; exact hx⟩, ⟨⟨y, ?_⟩, hst'.1.at fun o q => (sb.2 it (Ne.symm hne)).trans q, hne⟩, fun b hb => ?_⟩
    · have e1 : ((i + 1 : Nat) : Int) = (i : Int) + 1 := by omega
      rw [e1]; exact he'
    · have hb' : b < s.heap.objs.size := by
        have e' : b = e ∨ b = it := by simpa using hb
        rcases e' with z | z
        · rw [z]; exact hel
        · rw [z]; exact hil
      rw [upd_ne (Nat.ne_of_lt hb')]
      exact (hf b hb).1
  done := by
    intro X hP hw hK hc i pins s σ H E I hf st hg
    subst hP hw hK
    obtain ⟨⟨old, he⟩, hit, hne⟩ := st
    obtain ⟨xs, hq, hx⟩ := hg
    obtain ⟨its, rv, p, hz⟩ := I.tuple hq
    obtain ⟨f0, f1, f2, f3, f4, f5⟩ := hf it (by simp)
    have hl := rv.length
    have p : s.heap.IsTuple a its.toArray := p
    have nai := tup_ne_iter p hit
    exact enumT_end (I.ok.hd hc) he hit p (by simp; omega) fun h' eb => ⟨rfl, I.turned (t' := s.toks) (fun b o hb q => eb b o hb q) f0 f1 f3 f4 f5⟩
  self := fun A i s Q E st h => let ⟨⟨_, he⟩, _⟩ := st; wpAny_pyIter_enum he h
def iEnumT (K : PySem.W.Frag) (ta : TA) : TI := fun σ H R => ta σ H fun vs H1 => ∃ a xs, vs = [.ref a] ∧ SqT K H1 a xs ∧ R (IteT K a) H1
theorem pi_enumT {X : Cx} {e : Expr} {ta : TA} {p pos tpos : Pos} {elts : List Expr} {kk : Nat} (hg : Gl X "enumerate") (hm : X.mg "enumerate" = none) (ha : PA X [e] ta) (hs : starEach [e] X.env = [(false, eval e X.env)] := by rfl) :
    PI X (.Tuple elts kk tpos) (.Call (.Name "enumerate" p) [e] [] pos) (iEnumT X.K ta) := by
  refine ⟨fun pins s σ H R I h => ?_⟩
  refine Call_ (ld_blt I hg hm boot_enumerate (PyProof.Rows.callWith_type1 (thn (ha.run pos pins s σ H _ I h) fun us s1 ⟨vs, H1, I1, r1, q1⟩ => ?_) hs rfl))
  obtain ⟨a, xs, ex, hq, q⟩ := q1
  subst ex
  cases r1 with
  | cons r rr =>
    cases rr
    cases r
    obtain ⟨its, rv, p', hz⟩ := I1.tuple hq
    refine enum_begins1 (begins_tuple a its.toArray) (show s1.heap.IsTuple a its.toArray from p') fun h' he hit hsz hk => wpAny_pyIter_enum he ?_
    have I2 : Inv X pins σ H1 { s1 with heap := h' } := I1.kept (t' := s1.toks) hk
    refine ⟨s1.heap.objs.size + 1, [s1.heap.objs.size + 1, s1.heap.objs.size], _, _, H1, rfl, I2, turn_enumT a (s1.heap.objs.size + 1) s1.heap.objs.size, ⟨⟨.none, he⟩, ⟨_, hit, rfl, rfl⟩, Nat.succ_ne_self _⟩, fun b hb => ?_, q⟩
    have e' : b = s1.heap.objs.size + 1 ∨ b = s1.heap.objs.size := by simpa using hb
    have hle : s1.heap.objs.size ≤ b := by
      rcases e' with z | z
      · rw [z]; exact Nat.le_add_right _ _
      · rw [z]; exact Nat.le_refl _
    exact I1.fpOk hle (I1.hok.fresh hle)
/-- a for over enumerate(tuple) in a generator: an invariant by the turn -/
theorem gfor_enumT {K : PySem.W.Frag} {a : Addr} {xs : List V} {g : TG} {tb : TGn} {D : GEnds} {ys : List V} {σ : L2.St} {H : Hp} (Pv : Nat → List V → L2.St → Hp → Prop) (h0 : Pv 0 ys σ H) (hl : ∀ i ys σ H, Pv i ys σ H → SqT K H a xs)
    (hs : ∀ i x ys σ H, xs[i]? = some x → Pv i ys σ H → ∀ T, H T = none → g (.ref T) σ (upd H T (.tup [.int (i : Nat), x])) fun σ2 H2 => tb { D with nx := fun ys => Pv (i + 1) ys, ct := fun ys => Pv (i + 1) ys, bk := D.nx } ys σ2 H2) (hd : ∀ ys σ H, Pv xs.length ys σ H → D.nx ys σ H) :
    ∃ W : Nat → Nat → List V → L2.St → Hp → Prop, (∃ m, W 0 m ys σ H) ∧ ∀ i m ys σ H, W i m ys σ H →
      ((IteT K a).stop i H ∧ D.nx ys σ H) ∨ ((IteT K a).go i H ∧ ∃ N : List V → L2.St → Hp → Prop, (∀ ys' σ' H', N ys' σ' H' → ∃ m', m' < m ∧ W (i + 1) m' ys' σ' H') ∧ ∀ x H', (IteT K a).yld i H x H' → g x σ H' fun σ2 H2 => tb { D with nx := N, ct := N, bk := D.nx } ys σ2 H2) := by
  refine ⟨fun i m ys σ H => m = xs.length - i ∧ i ≤ xs.length ∧ Pv i ys σ H, ⟨xs.length, rfl, Nat.zero_le _, h0⟩, ?_⟩
  rintro i m ys σ H ⟨rfl, hi, p⟩
  have q := hl i ys σ H p
  by_cases hlt : i < xs.length
  · refine .inr ⟨⟨xs, xs[i], q, by simp [hlt]⟩, fun ys => Pv (i + 1) ys, fun ys' σ' H' p' => ⟨xs.length - (i + 1), by omega, rfl, hlt, p'⟩, fun x H' y => ?_⟩
    obtain ⟨T, x', rfl, hT, rfl, y⟩ := y
    exact hs i x' ys σ H (y xs q) p T hT
  · have e : i = xs.length := by omega
    subst e
    exact .inl ⟨⟨xs, q, Nat.le_refl _⟩, hd ys σ H p⟩
end L2
namespace Tw
open PySem PySem.Spec PyProof.Rows L2
/-! ### undo, history -/
theorem cutV_init (ys : List V) (y : V) : cutV (ys ++ [y]) none (some (-1)) = ys := by
  unfold cutV
  have h1 : HT.sIx (ys ++ [y]).length 0 none = 0 := rfl
  have h2 : HT.sIx (ys ++ [y]).length (ys ++ [y]).length (some (-1)) = ys.length := by
    show (if (-1 : Int) < 0 then ((-1 : Int) + ((ys ++ [y]).length : Int)).toNat else min (-1 : Int).toNat (ys ++ [y]).length) = ys.length
    rw [if_pos (by decide), List.length_append]
    show ((-1 : Int) + ((ys.length + 1 : Nat) : Int)).toNat = ys.length
    omega
  rw [h1, h2, List.drop_zero, Nat.sub_zero, List.take_left' rfl]
theorem cutV_last3 (xs : List V) : cutV xs (some (-3)) none = xs.drop (xs.length - 3) := by
  unfold cutV
  have h1 : HT.sIx xs.length 0 (some (-3)) = xs.length - 3 := by
    show (if (-3 : Int) < 0 then ((-3 : Int) + (xs.length : Int)).toNat else min (-3 : Int).toNat xs.length) = xs.length - 3
    rw [if_pos (by decide)]
    omega
  have h2 : HT.sIx xs.length xs.length none = xs.length := rfl
  rw [h1, h2, List.take_of_length_le (by rw [List.length_drop]; exact Nat.le_refl _)]
theorem cutV_tk (xs : List V) (k : Nat) : cutV xs none (some (k : Int)) = xs.take k := by
  unfold cutV
  have h1 : HT.sIx xs.length 0 none = 0 := rfl
  rw [h1, HT.sIx_nat, List.drop_zero, Nat.sub_zero]
  by_cases h : k ≤ xs.length
  · rw [Nat.min_eq_left h]
  · rw [Nat.min_eq_right (by omega), List.take_length, List.take_of_length_le (by omega)]
theorem app1 {α : Type} {a b : List α} {x y : α} (h : a ++ [x] = b ++ [y]) : a = b ∧ x = y := by
  have := List.append_inj' h rfl
  exact ⟨this.1, List.singleton_inj.mp this.2⟩
theorem BsAt.unsnoc {H : Hp} {vs : List V} {us : List B} (h : BsAt H vs us) {ts : List B} {t : B} (e : us = ts ++ [t]) : ∃ vs' v, vs = vs' ++ [v] ∧ BsAt H vs' ts ∧ BAt H v t := by
  cases h with
  | nil => cases ts <;> cases e
  | snoc a b =>
    obtain ⟨rfl, rfl⟩ := app1 e
    exact ⟨_, _, rfl, a, b⟩
theorem EsAt.unsnoc {H : Hp} {vs : List V} {us : List Ed} (h : EsAt H vs us) {es : List Ed} {e : Ed} (he : us = es ++ [e]) : ∃ vs' v, vs = vs' ++ [v] ∧ EsAt H vs' es := by
  cases h with
  | nil => cases es <;> cases he
  | snoc a b =>
    obtain ⟨rfl, rfl⟩ := app1 he
    exact ⟨_, _, rfl, a⟩
theorem BsAt.get {H : Hp} {vs : List V} {ts : List B} (h : BsAt H vs ts) {i : Nat} {v : V} (e : vs[i]? = some v) : ∃ t, ts[i]? = some t ∧ BAt H v t := by
  induction h with
  | nil => simp at e
  | snoc a b ih =>
    rename_i vs ts x t
    have hl := a.len
    by_cases hi : i < vs.length
    · rw [List.getElem?_append_left hi] at e
      obtain ⟨t', h1, h2⟩ := ih e
      exact ⟨t', by rw [List.getElem?_append_left (by omega)]; exact h1, h2⟩
    · have hi2 : i = vs.length := by
        have := (List.getElem?_eq_some_iff.mp e).1
        rw [List.length_append] at this
        have : i < vs.length + 1 := this
        omega
      subst hi2
      rw [List.getElem?_append_right (Nat.le_refl _), Nat.sub_self] at e
      cases e
      exact ⟨t, by rw [hl, List.getElem?_append_right (Nat.le_refl _), Nat.sub_self]; rfl, b⟩
theorem slA_any {K : PySem.W.Frag} {H : Hp} {a : Addr} {xs : List V} {lo hi : Option Int} {Q : VK} (hx : H a = some (.tup xs)) (q : ∀ (p : Addr) (H' : Hp), Same H H' → H' p = some (.tup (cutV xs lo hi)) → Q (.ref p) H') : rSlA K (.ref a) lo hi H Q :=
  ⟨a, xs, rfl, SqT.of hx, fun hw => q a H (Same.refl H) (by rw [cut_whole hw]; exact hx), fun _ p np => q p _ (same_new np _) upd_same⟩
def spUndo (C : Addr) : Sp := fun vs H Q _ => ∃ (a : Addr) (ts : List B) (t t' : B) (es : List Ed) (e : Ed), vs = [.ref a] ∧ Dk C H a (ts ++ [t]) t' (es ++ [e]) false ∧ es.length ≤ 100 ∧ ts.length ≤ 100 ∧ ∀ H', But a H H' → Dk C H' a ts t es false → Q (.int (es.length : Int)) H'
/-- what history hands out: (version, tree) -/
inductive HsAt (H : Hp) : List V → List B → Prop
  | nil : HsAt H [] []
  | snoc {ys : List V} {bs : List B} {p : Addr} {v : V} {b : B} {n : Int} : HsAt H ys bs → H p = some (.tup [.int n, v]) → n = (bs.length : Int) → BAt H v b → HsAt H (ys ++ [.ref p]) (bs ++ [b])
theorem HsAt.same {H H' : Hp} (k : Same H H') {ys : List V} {bs : List B} (h : HsAt H ys bs) : HsAt H' ys bs := by
  induction h with
  | nil => exact .nil
  | snoc _ e n b ih => exact .snoc ih (k _ _ e) n (b.same k)
theorem HsAt.len {H : Hp} {ys : List V} {bs : List B} (h : HsAt H ys bs) : ys.length = bs.length := by
  induction h with
  | nil => rfl
  | snoc _ _ _ _ ih => rw [List.length_append, List.length_append, ih]; rfl
section
variable {P : Program} {w : World} {K : PySem.W.Frag} {mg : Str → Option Value} {base : Heap} {f : Addr} {fd : FuncData} {C : Addr}
theorem ok_undo (F : Fun K "undo" "Desk.undo" s_Desk_undo f fd) (TD : DeskC K mg C) (Dcf : MDf P w K mg base C 1 "check_free" ["self"] (spFree C)) (Dtold : MDf P w K mg base C 1 "told" ["self", "name"] (spTold C)) :
    FnOk P w K mg base CX0 2 f fd ["self"] (spUndo C) := by
  refine F.ok (k := 1) sc_Desk_undo (fun vs H Q E h => ?_) (fun cdv A outer s H vs Q E hr h => ?_)
  · obtain ⟨a, ts, t, t', es, e, rfl, _⟩ := h
    rfl
  obtain ⟨a, ts, t, t', es, e, rfl, dk, h60, hts, q⟩ := h
  refine ⟨_, (pss_cons (ps_expr (pe_meth0 (pv 0) TD.cl Dcf.at_ Dcf.ok (hr.mono (by omega)) Dcf.b .nil pass0))
    (pss_cons (ps_if (pt_not (pt_truth (pe_fld (pv 0) rfl) (by intro _; rfl)))
      (pss_one ps_never) pss_nil)
    (pss_cons (ps_fld (pv 0) (pe_slice sl_tupA (pe_fld (pv 0) rfl) po_none (po_some (pe_un un_neg pe_int))) rfl)
    (pss_cons (ps_fld (pv 0) (pe_slice sl_tupA (pe_fld (pv 0) rfl) po_none (po_some (pe_un un_neg pe_int))) rfl)
    (pss_one (ps_ret (pe_meth (pv 0) TD.cl Dtold.at_ Dtold.ok (hr.mono (by omega)) Dtold.b .nil pass0 (pa_cons pe_str pa_nil)))))))), ?_⟩
  obtain ⟨dx, ta, td, vs, u, ds, h1, h2, h3, h4, h5, h6⟩ := id dk
  obtain ⟨vs', v, rfl, b4, b5⟩ := h4.unsnoc rfl
  obtain ⟨ds', y, rfl, e6⟩ := h6.unsnoc rfl
  have nl : ∀ {m : Str} (vt vd vb : V), (m == ("trees" : Str)) = false → (m == ("done" : Str)) = false → (m == ("busy" : Str)) = false → (deskF vt vd vb).lookup m = none := no_look
  refine ⟨_, rfl, a, dx, _, rfl, h1, nl _ _ _ (by decide +kernel) (by decide +kernel) (by decide +kernel), a, _, t', _, rfl, dk, ?_⟩
  have ne : (!(ds' ++ [y]).isEmpty) = true := by cases ds' <;> rfl
  refine ⟨_, rfl, a, C, dx, _, _, rfl, h1, TD.cl, TD.nD, look_d _ _ _, !(ds' ++ [y]).isEmpty, .inr (.inl ⟨_, SqT.of h3, rfl⟩), ?_⟩
  rw [ne]
  refine iteF ?_
  refine ⟨_, rfl, a, C, dx, _, _, rfl, h1, TD.cl, TD.nT, look_t _ _ _, ?_⟩
  dsimp only [tNoPart]
  refine ⟨1, rfl, -1, rfl, slA_any (hi := some (-1)) h2 fun tb H1 s1 et1 => ?_⟩
  rw [cutV_init] at et1
  have e1 := s1 _ _ h1
  refine ⟨_, rfl, a, C, dx, _, rfl, e1, TD.cl, TD.nT, (by show 3 < 1000; decide), ?_⟩
  rw [set_t]
  have bB : But a H1 (upd H1 a (.ins C dx (deskF (.ref tb) (.ref td) (.bl false)))) := fun b o hb e => by rw [upd_ne hb]; exact e
  have e2 := upd_same (H := H1) (a := a) (o := .ins C dx (deskF (.ref tb) (.ref td) (.bl false)))
  have k2 : KeepT H1 (upd H1 a (.ins C dx (deskF (.ref tb) (.ref td) (.bl false)))) := fun b xs e => bB b _ (ne_of e e1 (by intro z; cases z)) e
  generalize upd H1 a (.ins C dx (deskF (.ref tb) (.ref td) (.bl false))) = H2 at bB e2 k2 ⊢
  have kA : KeepT H H2 := (Tw.Same.keepT s1).trans k2
  refine ⟨_, rfl, a, C, dx, _, _, rfl, e2, TD.cl, TD.nD, look_d _ _ _, ?_⟩
  refine ⟨1, rfl, -1, rfl, slA_any (hi := some (-1)) (kA _ _ h3) fun tc H3 s3 et3 => ?_⟩
  rw [cutV_init] at et3
  have e3 := s3 _ _ e2
  refine ⟨_, rfl, a, C, dx, _, rfl, e3, TD.cl, TD.nD, (by show 3 < 1000; decide), ?_⟩
  rw [set_d]
  have bB4 : But a H3 (upd H3 a (.ins C dx (deskF (.ref tb) (.ref tc) (.bl false)))) := fun b o hb e => by rw [upd_ne hb]; exact e
  have e4 := upd_same (H := H3) (a := a) (o := .ins C dx (deskF (.ref tb) (.ref tc) (.bl false)))
  have k4 : KeepT H3 (upd H3 a (.ins C dx (deskF (.ref tb) (.ref tc) (.bl false)))) := fun b xs e => bB4 b _ (ne_of e e3 (by intro z; cases z)) e
  generalize upd H3 a (.ins C dx (deskF (.ref tb) (.ref tc) (.bl false))) = H4 at bB4 e4 k4 ⊢
  have kB : KeepT H1 H4 := k2.trans ((Tw.Same.keepT s3).trans k4)
  have kC : KeepT H H4 := (Tw.Same.keepT s1).trans kB
  have d4 : Dk C H4 a ts t es false := ⟨dx, tb, tc, vs', v, ds', e4, kB _ _ et1, k4 _ _ et3, b4.keep kC, b5.keep kC, e6.keep kC⟩
  refine ⟨_, rfl, a, dx, _, rfl, e4, nl _ _ _ (by decide +kernel) (by decide +kernel) (by decide +kernel), a, _, ts, t, es, false, rfl, d4, by omega, ?_⟩
  exact q H4 ((But.of s1).trans (bB.trans ((But.of s3).trans bB4))) d4
def spHist (C : Addr) : SpG := fun vs H Q _ => ∃ (a : Addr) (ts : List B) (t : B) (es : List Ed), vs = [.ref a] ∧ Dk C H a ts t es false ∧ ts.length ≤ 100 ∧ ∀ ys H', Same H H' → HsAt H' ys (ts ++ [t]) → Q ys H'
theorem ok_hist (F : Fun K "history" "Desk.history" s_Desk_history f fd) (TD : DeskC K mg C) (mE : mg "enumerate" = none) : GFn P w K mg base 1 f fd ["self"] (spHist C) := by
  obtain ⟨oc, od, kV, doc, pm, an, cdv, ct, osl, rfl, look, code⟩ := F.ex
  refine gfn_of (N := ["self", "version", "tree"]) (k := 0) look code ⟨rfl, rfl, rfl, by decide +kernel, rfl, by decide +kernel, by decide +kernel⟩ (fun vs H Q E h => ?_) (fun A outer s H vs Q E pn hr h => ?_)
  · obtain ⟨a, ts, t, es, rfl, _⟩ := h
    rfl
  obtain ⟨a, ts, t, es, rfl, dk, hts, q⟩ := h
  obtain ⟨dx, ta, td, vs, u, ds, h1, h2, h3, h4, h5, h6⟩ := id dk
  have nd3 : (["self", "version", "tree"] : List Str).Nodup := by decide +kernel
  refine ⟨_, gss_cons (gs_for owns_gcx rfl (pi_enumT rfl mE (pa_cons (pe_fld (pv 0) rfl) pa_nil)) (pg_tup rfl (pgs_cons (pg_name (i := 1) nd3 rfl (.inl rfl)) (pgs_cons (pg_name (i := 2) nd3 rfl (.inl rfl)) pgs_nil))) (gss_cons (gs_yield (pe_tup (pa_cons (pv 1) (pa_cons (pv 2) pa_nil)))) gss_nil)) gss_nil, ?_⟩
  have hB : BsAt H (vs ++ [u]) (ts ++ [t]) := .snoc h4 h5
  have hL := hB.len
  refine ⟨_, rfl, a, C, dx, _, _, rfl, h1, TD.cl, TD.nT, look_t _ _ _, ta, _, rfl, SqT.of h2, ?_⟩
  refine gfor_enumT (xs := vs ++ [u]) (fun (i : Nat) (ys : List V) (σ : L2.St) (H' : Hp) => ∃ y1 y2 : Option V, σ = [some (.ref a), y1, y2] ∧ Same H H' ∧ i ≤ (ts ++ [t]).length ∧ HsAt H' ys ((ts ++ [t]).take i)) ⟨none, none, rfl, Same.refl _, Nat.zero_le _, .nil⟩ (fun i ys σ H' hp => ?_) (fun i x ys σ H' hx hp T hT => ?_) (fun ys σ H' hp => ?_)
  · obtain ⟨y1, y2, rfl, s1, _, _⟩ := hp
    exact SqT.of (s1 _ _ h2)
  · obtain ⟨y1, y2, rfl, s1, hi, hh⟩ := hp
    obtain ⟨b, hb, hv⟩ := hB.get hx
    have k2 := same_new hT (.tup [.int (i : Nat), x])
    have hil : i < (ts ++ [t]).length := (List.getElem?_eq_some_iff.mp hb).1
    have hl2 := hh.len
    rw [List.length_take, Nat.min_eq_left hi] at hl2
    have hn : (ts ++ [t]).length = ts.length + 1 := by rw [List.length_append]; rfl
    refine ⟨T, _, rfl, SqT.of upd_same, rfl, _, _, rfl, _, _, rfl, rfl, ?_⟩
    refine ⟨small (show ys.length + 1 ≤ 1000 by omega), _, rfl, _, rfl, (by show 2 ≤ sizeLine; decide), fun p np => ?_⟩
    have k3 := same_new np (.tup [.int (i : Nat), x])
    refine ⟨_, _, rfl, s1.trans (k2.trans k3), hil, ?_⟩
    have e9 : (ts ++ [t]).take (i + 1) = (ts ++ [t]).take i ++ [b] := take_next hb
    rw [e9]
    exact .snoc (hh.same (k2.trans k3)) upd_same (by rw [List.length_take, Nat.min_eq_left hi]) (hv.same (s1.trans (k2.trans k3)))
  · obtain ⟨y1, y2, rfl, s1, hi, hh⟩ := hp
    rw [hL, List.take_length] at hh
    exact q ys H' s1 hh
end
/-! ### histories as data -/
theorem all_gd {W B : Nat} : ∀ {ds : List PyData}, (∀ d ∈ ds, gd d = true ∧ wt d ≤ W ∧ d.depth ≤ B) → gds ds = true ∧ wts ds ≤ (W + 2) * ds.length ∧ PyData.depthAll ds ≤ B
  | [], _ => ⟨gd_e, by rw [wt_te]; exact Nat.zero_le _, by rw [dp_e]; exact Nat.zero_le _⟩
  | d :: ds, h => by
    obtain ⟨a1, a2, a3⟩ := all_gd (W := W) (B := B) (ds := ds) fun x hx => h x (List.mem_cons_of_mem _ hx)
    obtain ⟨b1, b2, b3⟩ := h d List.mem_cons_self
    rw [gd_c, wt_tc, dp_c, a1, b1, List.length_cons, Nat.mul_add]
    exact ⟨rfl, by omega, by omega⟩
def hsD (bs : List B) : List PyData := bs.zipIdx.map fun x => .tuple [.int (x.2 : Int), x.1.data]
theorem hsD_snoc (bs : List B) (b : B) : hsD (bs ++ [b]) = hsD bs ++ [.tuple [.int (bs.length : Int), b.data]] := by
  unfold hsD
  rw [List.zipIdx_append, List.map_append]
  simp
theorem HsAt.dq {D : Deck} {H : Hp} (n : NoT D H) {ys : List V} {bs : List B} (h : HsAt H ys bs) : DQAll D H ys (hsD bs) := by
  induction h with
  | nil => exact .nil
  | snoc _ e m b ih =>
    rw [hsD_snoc]
    subst m
    exact dqAll_app ih (.cons (.tup (n.tup (Same.refl _) e) e (.cons (.int _) (.cons (n.dq b) .nil))) .nil)
def Tg (t : B) : Prop := t.lts ∧ t.size ≤ 12 ∧ t ≠ .nil
theorem wt_ii (x : Int) : wt (.int x) = 62 := by simp only [wt]
theorem gd_tx {l : List Nat} (h : l.length ≤ 12) (hl : ∀ c ∈ l, isLow c = true) : gd (.str (tx l)) = true := by
  have e : (tx l).cps.toList = l := rfl
  simp only [gd, Bool.and_eq_true, List.all_eq_true, tx_len]
  exact ⟨decide_eq_true (by show l.length ≤ 90; omega), fun c hc => decide_eq_true (low_lt (hl c hc))⟩
theorem DQ.tupI {D : Deck} {H : Hp} {v : V} {ds : List PyData} (h : DQ D H v (.tuple ds)) : ∃ p vs, v = .ref p ∧ Off D p ∧ H p = some (.tup vs) ∧ DQAll D H vs ds := by
  cases h with
  | tup o e al => exact ⟨_, _, rfl, o, e, al⟩
/-! ### whole numbers, indexes -/
def isI : PyData → Bool
  | .int _ => true
  | .bool _ => true
  | _ => false
def isBo : PyData → Bool
  | .bool _ => true
  | _ => false
def isW : PyData → Bool
  | .int _ => true
  | _ => false
theorem kit_int (d : PyData) : kitB (tyD d) "int" = some (isI d) := by
  cases d <;> (simp only [tyD, isI]; decide +kernel)
theorem kit_bo (d : PyData) : kitB (tyD d) "bool" = some (isBo d) := by
  cases d <;> (simp only [tyD, isBo]; decide +kernel)
def isIx (d : PyData) (lo hi : Int) : Bool := match d with
  | .int i => decide (lo ≤ i) && decide (i ≤ hi)
  | _ => false
theorem DQ.intI {D : Deck} {H : Hp} {v : V} {i : Int} (h : DQ D H v (.int i)) : v = .int i := by cases h; rfl
def spWhole : Sp := fun vs H Q _ => ∃ (v : V) (D : Deck) (d : PyData), vs = [v] ∧ DQ D H v d ∧ Q (.bl (isW d)) H
def spIndex : Sp := fun vs H Q _ => ∃ (v : V) (D : Deck) (d : PyData) (m : Int), vs = [v, .int m] ∧ DQ D H v d ∧ Q (.bl (isIx d 0 (m - 1))) H
def spFrom : Sp := fun vs H Q _ => ∃ (v : V) (D : Deck) (d : PyData) (lo hi : Int), vs = [v, .int lo, .int hi] ∧ DQ D H v d ∧ Q (.bl (isIx d lo hi)) H
section
variable {P : Program} {w : World} {K : PySem.W.Frag} {mg : Str → Option Value} {base : Heap} {f : Addr} {fd : FuncData}
theorem ok_whole {k : Nat} (F : Fun K "is_whole_number" "is_whole_number" s_is_whole_number f fd) (M : Mgs mg) : FnOk P w K mg base CX0 (k + 1) f fd ["value"] spWhole := by
  refine F.ok sc_is_whole_number (fun vs H Q E h => ?_) (fun cdv A outer s H vs Q E hr h => ?_)
  · obtain ⟨v, D, d, rfl, _⟩ := h
    rfl
  obtain ⟨v, D, d, rfl, hd, q⟩ := h
  refine ⟨_, (pss_one (ps_ret (pe_and (pe_callB call_isi rfl M.isinstance (by decide +kernel) (pa_cons (pv 0) (pa_cons (pe_bltn (v := .ty "int") rfl M.int (by decide +kernel) rfl) pa_nil))) (pe_one (pe_not (pe_callB call_isi rfl M.isinstance (by decide +kernel) (pa_cons (pv 0) (pa_cons (pe_bltn (v := .ty "bool") rfl M.bool (by decide +kernel) rfl) pa_nil)))))))), ?_⟩
  refine ⟨_, rfl, _, _, _, _, isI d, rfl, .ty _, dq_ty hd, kit_ty (kit_int d), _, rfl, ?_⟩
  cases hi : isI d with
  | false =>
    have : isW d = false := by cases d <;> first | rfl | cases hi
    rw [this] at q
    exact iteF q
  | true =>
    refine iteT ⟨_, rfl, _, _, _, _, isBo d, rfl, .ty _, dq_ty hd, kit_ty (kit_bo d), _, rfl, ?_⟩
    have : isW d = !isBo d := by cases d <;> first | rfl | cases hi
    rw [this] at q
    exact q
theorem ok_index {k : Nat} (F : Fun K "is_index" "is_index" s_is_index f fd) (M : Mgs mg) (Dis_whole_number : Df P w K mg base (k + 1) "is_whole_number" ["value"] spWhole) : FnOk P w K mg base CX0 (k + 2) f fd ["value", "many"] spIndex := by
  refine F.ok (k := k + 1) sc_is_index (fun vs H Q E h => ?_) (fun cdv A outer s H vs Q E hr h => ?_)
  · obtain ⟨v, D, d, m, rfl, _⟩ := h
    rfl
  obtain ⟨v, D, d, m, rfl, hd, q⟩ := h
  refine ⟨_, (pss_one (ps_ret (pe_and (pe_call Dis_whole_number.ok (hr.mono (by omega)) rfl Dis_whole_number.g Dis_whole_number.kp Dis_whole_number.b .nil pass0 (pa_cons (pv 0) pa_nil)) (pe_one (pe_chain op_le op_lt pe_int (pv 0) (pv 1)))))), ?_⟩
  refine ⟨_, rfl, v, D, d, rfl, hd, _, rfl, ?_⟩
  cases d with
  | int i =>
    have := hd.intI
    subst this
    refine iteT ⟨_, rfl, _, _, rfl, rfl, _, rfl, ?_⟩
    have q : Q (.bl (decide (0 ≤ i) && decide (i ≤ m - 1))) H := q
    by_cases h0 : 0 ≤ i
    · rw [decide_eq_true h0] at q ⊢
      refine iteT ⟨_, rfl, _, _, rfl, rfl, ?_⟩
      show Q (V.bl (decide (i < m))) H
      rw [show decide (i < m) = decide (i ≤ m - 1) from decide_eq_decide.mpr (by omega)]
      exact q
    · rw [decide_eq_false h0] at q ⊢
      exact iteF q
  | _ => exact iteF q
theorem ok_from {k : Nat} (F : Fun K "_law_from" "_law_from" s__law_from f fd) (M : Mgs mg) : FnOk P w K mg base CX0 (k + 1) f fd ["_law_thing", "_law_low", "_law_high"] spFrom := by
  refine F.ok sc__law_from (fun vs H Q E h => ?_) (fun cdv A outer s H vs Q E hr h => ?_)
  · obtain ⟨v, D, d, lo, hi, rfl, _⟩ := h
    rfl
  obtain ⟨v, D, d, lo, hi, rfl, hd, q⟩ := h
  refine ⟨_, (pss_one (ps_ret (pe_and (pe_callB call_isi rfl M.isinstance (by decide +kernel) (pa_cons (pv 0) (pa_cons (pe_bltn (v := .ty "int") rfl M.int (by decide +kernel) rfl) pa_nil))) (pe_and (pe_not (pe_callB call_isi rfl M.isinstance (by decide +kernel) (pa_cons (pv 0) (pa_cons (pe_bltn (v := .ty "bool") rfl M.bool (by decide +kernel) rfl) pa_nil)))) (pe_one (pe_chain op_le op_le (pv 1) (pv 0) (pv 2))))))), ?_⟩
  refine ⟨_, rfl, _, _, _, _, isI d, rfl, .ty _, dq_ty hd, kit_ty (kit_int d), _, rfl, ?_⟩
  cases d with
  | bool b => exact iteT ⟨_, rfl, _, _, _, _, true, rfl, .ty _, dq_ty hd, kit_ty (kit_bo (.bool b)), _, rfl, _, rfl, iteF q⟩
  | int i =>
    have := hd.intI
    subst this
    refine iteT ⟨_, rfl, _, _, _, _, false, rfl, .ty _, dq_ty hd, kit_ty (kit_bo (.int i)), _, rfl, _, rfl, iteT ⟨_, rfl, _, rfl, _, _, rfl, rfl, _, rfl, ?_⟩⟩
    have q : Q (.bl (decide (lo ≤ i) && decide (i ≤ hi))) H := q
    by_cases h0 : lo ≤ i
    · rw [decide_eq_true h0] at q ⊢
      exact iteT ⟨_, rfl, _, _, rfl, rfl, q⟩
    · rw [decide_eq_false h0] at q ⊢
      exact iteF q
  | _ => exact iteF q
end
/-! ### isinstance of a caught error with a field; a method called with a keyword; tree(version) -/
/-- isinstance(e, c), e the error of the suite: its class D, its dict d -/
def rIsD (K : PySem.W.Frag) (D a : Addr) (d : Option Addr) : List V → Hp → VK → Prop := fun xs H Q =>
  ∃ c u b dd fs, xs = [.ref a, c] ∧ ClsV c u ∧ d = some dd ∧ H dd = some (.xd fs) ∧ PySem.W.kitOne K (.ref D) u = some b ∧ Q (.bl b) H
def rIsDT (K : PySem.W.Frag) (D a : Addr) (d : Option Addr) : List V → Hp → VK → Prop := fun xs H Q =>
  ∃ tp cs us b dd fs, xs = [.ref a, .ref tp] ∧ H tp = some (.tup cs) ∧ Paired ClsV cs us ∧ d = some dd ∧ H dd = some (.xd fs) ∧ PySem.W.kitAny K (.ref D) us = some b ∧ Q (.bl b) H
section
variable {X : Cx} {a D : Addr} {d : Option Addr} {oe : Obj} {pn : List (Addr × Obj)}
theorem inst_of {pins : List (Addr × Obj)} {s : Shared} {σ : L2.St} {H : Hp} {dd : Addr} {fs : List (Str × V)} (hz : Zc (.ref D) (some dd) oe) (hf : ∃ vs, oe.data = .fields vs)
    (I : Inv (X.suite a ((a, oe) :: pn)) pins σ H s) (e : H dd = some (.xd fs)) : ∃ od, PySem.W.InstAt s.heap a oe D (some od) := by
  have here := (I.pin (a, oe) (List.mem_append_left _ List.mem_cons_self)).1
  have ok : ObjOk X.prog X.w H s.heap dd (.xd fs) := I.hok dd _ e
  obtain ⟨mA, ns, -⟩ := ok
  obtain ⟨od, ho, -⟩ := lookIn_ns ns
  refine ⟨od, here, hz.1, ?_, ?_⟩
  · obtain ⟨vs, hv⟩ := hf
    unfold PySem.W.notCls
    rw [hv] <;> rfl
  · rw [hz.2]; exact ho
theorem kit_exD {K : PySem.W.Frag} {od : Option Obj} (C : ExcC K D) : PySem.W.KitX K (.ref a) (.ref D) (fun h => PySem.W.InstAt h a oe D od) := by
  have known : (PySem.W.clsIn K D).isSome = true := by
    obtain ⟨cd, hc, _⟩ := PySem.W.any_some C.hd
    rw [hc] <;> rfl
  exact PySem.W.kitx_exc known C.hg C.hk C.hs C.ha C.hn C.ht C.hm
theorem call_isD (C : ExcC X.K D) (hz : Zc (.ref D) d oe) (hf : ∃ vs, oe.data = .fields vs) : CallR (X.suite a ((a, oe) :: pn)) (.builtin "isinstance") (rIsD X.K D a d) := by
  rintro pins s σ H _ us Q I r ⟨c, u, b, dd, fs, rfl, k, rfl, eH, e, q⟩
  obtain ⟨u1, u2, rfl, r1, r2⟩ := vals2 r
  cases k.eq r2
  cases (show u1 = Value.ref a from r1)
  obtain ⟨od, J⟩ := inst_of hz hf I eH
  refine PySem.W.kia_one (kit_exD C) I.kIn J e (by intro z; cases z) fun tk => ?_
  exact ⟨.bl b, H, I.tok tk, rfl, q⟩
theorem call_isDT (C : ExcC X.K D) (hz : Zc (.ref D) d oe) (hf : ∃ vs, oe.data = .fields vs) : CallR (X.suite a ((a, oe) :: pn)) (.builtin "isinstance") (rIsDT X.K D a d) := by
  rintro pins s σ H _ us Q I r ⟨tp, cs, ws, b, dd, fs, rfl, hT, k, rfl, eH, e, q⟩
  obtain ⟨u1, u2, rfl, r1, r2⟩ := vals2 r
  cases (show u2 = Value.ref tp from r2)
  cases (show u1 = Value.ref a from r1)
  obtain ⟨od, J⟩ := inst_of hz hf I eH
  have okT : ObjOk X.prog X.w H s.heap tp (.tup cs) := I.hok tp _ hT
  obtain ⟨-, its, rv, ⟨oc, od', dt, sl⟩, there, kind, n, data⟩ := okT
  dsimp only at kind data
  subst kind data
  cases ClsV.all k rv
  refine PySem.W.kia_tup (kit_exD C) I.kIn J there e (by intro z; cases z) fun tk => ?_
  exact ⟨.bl b, H, I.tok tk, rfl, q⟩
end
section
variable {X : Cx} {a : Addr} {cls : Value} {d : Option Addr} {oe : Obj} {pn : List (Addr × Obj)}
/-- isinstance of the error of the suite, whatever its class is: an own one that says enough -/
def rIsX (K : PySem.W.Frag) (a : Addr) (cls : Value) (d : Option Addr) : List V → Hp → VK → Prop := fun xs H Q => ∃ D, cls = .ref D ∧ ExcC K D ∧ rIsD K D a d xs H Q
def rIsXT (K : PySem.W.Frag) (a : Addr) (cls : Value) (d : Option Addr) : List V → Hp → VK → Prop := fun xs H Q => ∃ D, cls = .ref D ∧ ExcC K D ∧ rIsDT K D a d xs H Q
theorem call_isX (hz : Zc cls d oe) (hf : ∃ vs, oe.data = .fields vs) : CallR (X.suite a ((a, oe) :: pn)) (.builtin "isinstance") (rIsX X.K a cls d) := by
  rintro pins s σ H xs us Q I r ⟨D, rfl, C, h⟩
  exact call_isD C hz hf pins s σ H xs us Q I r h
theorem call_isXT (hz : Zc cls d oe) (hf : ∃ vs, oe.data = .fields vs) : CallR (X.suite a ((a, oe) :: pn)) (.builtin "isinstance") (rIsXT X.K a cls d) := by
  rintro pins s σ H xs us Q I r ⟨D, rfl, C, h⟩
  exact call_isDT C hz hf pins s σ H xs us Q I r h
end
def tMethK (C : Addr) (m : Str) (sp : Sp) (gV : List V → List V → List V) (n : Nat) (E : L2.St → XK) (ta : TE) (tk : TA) : TE := fun σ H Q => ta σ H fun x H1 => ∃ a dx fs, x = .ref a ∧ H1 a = some (.ins C dx fs) ∧ fs.lookup m = none ∧ tk σ H1 fun zs H2 => zs.length = n ∧ sp (gV [x] zs) H2 Q (E σ)
theorem pe_methK {X : Cx} {CX : CXT} {k : Nat} {C f : Addr} {fd : FuncData} {ps ks : List Str} {sp : Sp} {E : L2.St → XK} {m : Str} {pos apos : Pos} {o : Expr} {kws : List Keyword} {ta : TE} {tk : TA} {pl : Sem Bool} {g : List Value → List Value → List Value} {gV : List V → List V → List V} (he : PE X o ta) (c : Cls X.K C) (hm : Meth X.K C m f) (F : FnOk X.prog X.w X.K X.mg X.base CX k f fd ps sp) (hr : Room k X.A) (hb : KBn X.K fd ps 1 ks g gV)
    (hx : ∀ σ, PassesAt CX X σ (E σ)) (hkw : PK X kws tk) (hall : (backToKw pos (keywordEach kws X.env)).all (·.1.isSome) = true := by rfl) (hks : (backToKw pos (keywordEach kws X.env)).filterMap (·.1) = ks := by rfl)
    (hpl : ((backTo pos (starEach [] X.env)).any (·.1) || (backToKw pos (keywordEach kws X.env)).any (·.1.isNone)) = false := by rfl)
    (ht : eval (.Call (.Attribute o m apos) [] kws pos) X.env = (do
      let ov ← eval o X.env
      standAt apos.atName
      let (f, first) ← holding [ov] (getMethod ov m pl)
      callWith pos f first (backTo pos (starEach [] X.env)) (backToKw pos (keywordEach kws X.env))) := by rfl) :
    PE X (.Call (.Attribute o m apos) [] kws pos) (tMethK C m sp gV ks.length E ta tk) := by
  refine ⟨fun pins s σ H Q I h => ?_⟩
  refine PySem.W.methodCall_KW (pl := pl) (thn (he.run pins s σ H _ I h) fun u s1 ⟨x, H1, I1, rx, a, dx, fs, ex, ea, l, q⟩ => ?_) ht
  subst ex
  obtain rfl : u = Value.ref a := rx
  refine getmeth_ok I1 ea c hm l ?_
  refine PySem.W.callWith_KW0 (first := [.ref a]) (h₀ := X.base) I1.ok.mod.kin hm.kp hall (thn (hkw.run pos pins s1 σ H1 _ I1 q) fun ws s2 ⟨zs, H2, I2, rz, l2, q2⟩ => ⟨I2.kIn, ?_⟩) hpl
  rw [hks]
  have r2 := hb.rel (vs := [V.ref a]) (us := [Value.ref a]) (.cons rfl .nil) rz
  refine wpAny_call (codeAny_mono (F.run X.A X.stack s2 H2 ⟨[.ref a], ks.zip ws⟩ (g [.ref a] ws) (gV [.ref a] zs) Q (E σ) hr I2.env0 (hb.to s2 [.ref a] ws I2.kIn rfl (rz.length.symm.trans l2)) r2 q2) fun r s' hq => ?_)
  cases r with
  | error e => exact hx σ pins H2 s2 e s' I2 hq
  | ok fl =>
    cases fl with
    | ret u => exact I2.after hq
    | next => exact False.elim hq
    | brk => exact False.elim hq
    | cont => exact False.elim hq
theorem kb_tree {K : PySem.W.Frag} {f : Addr} {fd : FuncData} (F : FunD K "tree" "Desk.tree" (defArgs s_Desk_tree) (defBody s_Desk_tree) (defScope s_Desk_tree) [] [("version", .non)] f fd) : KBn K fd ["self", "version"] 1 ["version"] (fun us ws => us ++ ws) (fun vs zs => vs ++ zs) := by
  obtain ⟨oc, od, dV, kV, doc, pm, an, cdv, ct, osl, rfl, lk, hcd, hD, hK⟩ := F.ex
  rcases hD with ⟨_, rfl⟩ | ⟨e, _⟩
  · exact ⟨fun s us ws X l1 l2 => .of_eq (match us, ws, l1, l2 with | [_], [_], _, _ => rfl), fun r1 r2 => r1.append r2⟩
  · exact absurd rfl e
def spTreeV (C cV : Addr) : Sp := fun vs H Q E => ∃ (a : Addr) (ts : List B) (t : B) (es : List Ed) (v : V) (D : Deck) (d : PyData), vs = [.ref a, v] ∧ Dk C H a ts t es false ∧ DQ D H v d ∧
  (d = .none → ∀ u, BAt H u t → Q u H) ∧ (∀ (i : Nat) (b : B), d = .int (i : Int) → (ts ++ [t])[i]? = some b → ∀ u, BAt H u b → Q u H) ∧ (d ≠ .none → isIx d 0 (ts.length : Int) = false → ∀ p, H p = none → E (.ref cV) (some p) (upd H p (.xd [(("value" : Str), v)])))
section
variable {P : Program} {w : World} {K : PySem.W.Frag} {mg : Str → Option Value} {base : Heap} {f : Addr} {fd : FuncData} {C cV fI : Addr} {qn : Str}
theorem ok_treeV {k : Nat} (F : Fun K "tree" "Desk.tree" s_Desk_tree f fd) (TD : DeskC K mg C) (M : Mgs mg) (hE : Err_value K mg "LookupError.__new__" leT "NoVersion" qn cV fI) (Dis_index : Df P w K mg base (k + 2) "is_index" ["value", "many"] spIndex) : FnOk P w K mg base (L2.CX P w) (k + 3) f fd ["self", "version"] (spTreeV C cV) := by
  refine F.okX (k := k + 2) sc_Desk_tree (fun vs H Q E h => ?_) (fun cdv A outer s H vs Q E hr h => ?_)
  · obtain ⟨a, ts, t, es, v, D, d, rfl, _⟩ := h
    rfl
  obtain ⟨a, ts, t, es, v, D, d, rfl, ⟨dx, ta, td, vs, u, ds, h1, h2, h3, h4, h5, h6⟩, hd, q1, q2, q3⟩ := h
  have hB : BsAt H (vs ++ [u]) (ts ++ [t]) := .snoc h4 h5
  have hl := hB.len
  refine ⟨_, (pss_cons (ps_if (pt_cmpR op_isN (pv 1) pe_non (nomark _))
      (pss_one (ps_ret (pe_ix ix_tup (pe_fld (pv 0) rfl) (pe_un un_neg pe_int) (fun _ _ => rfl)))) pss_nil)
    (pss_cons (ps_if (pt_not (pt_val (pe_call Dis_index.ok (hr.mono (by omega)) rfl Dis_index.g Dis_index.kp Dis_index.b .nil pass0 (pa_cons (pv 1) (pa_cons (pe_callB call_len_seq rfl M.len PySem.boot_len (pa_cons (pe_fld (pv 0) rfl) pa_nil)) pa_nil)))))
      (pss_one (ps_raise_value rfl famL hE hr (takes_of rfl rfl rfl rfl) (pa_cons (pv 1) pa_nil) rfl)) pss_nil)
    (pss_one (ps_ret (pe_ix ix_tup (pe_fld (pv 0) rfl) (pv 1) (fun _ _ => rfl)))))), ?_⟩
  refine ⟨_, rfl, rfl, _, rfl, ite2 (fun hv => ?_) (fun hv => ?_)⟩
  · have hv := of_decide_eq_true hv
    subst hv
    have hd : d = .none := by cases hd; rfl
    exact ⟨_, rfl, a, C, dx, _, _, rfl, h1, TD.cl, TD.nT, look_t _ _ _, 1, rfl, ta, _, _, u, rfl, rfl, SqT.of h2, atI_last _ _, q1 hd u h5⟩
  · have hn : d ≠ .none := fun z => hv (by subst z; cases hd; exact decide_eq_true rfl)
    have hl2 : (vs ++ [u]).length = ts.length + 1 := by rw [hl, List.length_append]; rfl
    refine ⟨_, rfl, _, rfl, a, C, dx, _, _, rfl, h1, TD.cl, TD.nT, look_t _ _ _, ta, _, rfl, .inr (SqT.of h2), v, D, d, _, rfl, hd, _, rfl, ?_⟩
    rw [hl2, show (((ts.length + 1 : Nat) : Int) - 1) = (ts.length : Int) by omega]
    cases hi : isIx d 0 (ts.length : Int) with
    | false => exact iteT ⟨_, rfl, v, rfl, fun p np => q3 hn hi p np⟩
    | true =>
      refine iteF ?_
      cases d with
      | int i =>
        have := hd.intI
        subst this
        have hi : (decide (0 ≤ i) && decide (i ≤ (ts.length : Int))) = true := hi
        rw [Bool.and_eq_true, decide_eq_true_eq, decide_eq_true_eq] at hi
        obtain ⟨j, rfl⟩ := Int.eq_ofNat_of_zero_le hi.1
        have hj : j < (vs ++ [u]).length := by rw [hl2]; omega
        have hg : (vs ++ [u])[j]? = some ((vs ++ [u])[j]) := List.getElem?_eq_getElem hj
        obtain ⟨b, hb, bv⟩ := hB.get hg
        exact ⟨_, rfl, a, C, dx, _, _, rfl, h1, TD.cl, TD.nT, look_t _ _ _, _, rfl, ta, _, _, _, rfl, rfl, SqT.of h2, atI_nat hg, q2 j b rfl hb _ bv⟩
      | _ => cases hi
end
/-! ### the answer for one version -/
structure ErrV (K : PySem.W.Frag) (mg : Str → Option Value) (cV : Addr) : Prop where
  ex : PySem.W.exmOne K (.ref cV) (.ref cV) = some true
  x : ExcC K cV
  mL : mg "LookupError" = none
  more : ∃ c1 c2 c3, mg "WalkError" = some (.ref c1) ∧ mg "NoPath" = some (.ref c2) ∧ mg "NoIndex" = some (.ref c3) ∧ PySem.W.kitAny K (.ref cV) [.ref c1, .ref c2, .ref c3] = some false
  kL : PySem.W.kitOne K (.ref cV) (.type "LookupError") = some true
/-- what is told of the version d of the trees bs -/
def ansD (bs : List B) (d : PyData) : PyData := match d with
  | .none => .tuple [.str "told", (bs.getLast?.getD .nil).data]
  | .int i => if (decide (0 ≤ i) && decide (i ≤ (bs.length : Int) - 1)) = true then .tuple [.str "told", ((bs[i.toNat]?).getD .nil).data] else .tuple [.str "NoVersion", .int i]
  | d => .tuple [.str "NoVersion", d]
theorem ansD_no {bs : List B} {d : PyData} (h1 : d ≠ .none) (h2 : isIx d 0 ((bs.length : Int) - 1) = false) : ansD bs d = .tuple [.str "NoVersion", d] := by
  cases d with
  | none => exact absurd rfl h1
  | int i =>
    show (if (decide (0 ≤ i) && decide (i ≤ (bs.length : Int) - 1)) = true then _ else _) = _
    rw [if_neg (by rw [show (decide (0 ≤ i) && decide (i ≤ (bs.length : Int) - 1)) = false from h2]; exact Bool.false_ne_true)]
  | _ => rfl
theorem ansD_last {ts : List B} {t : B} : ansD (ts ++ [t]) .none = .tuple [.str "told", t.data] := by
  show PyData.tuple [.str "told", ((ts ++ [t]).getLast?.getD .nil).data] = _
  rw [List.getLast?_concat]
  rfl
theorem ansD_at {bs : List B} {i : Nat} {b : B} (h : bs[i]? = some b) : ansD bs (.int (i : Int)) = .tuple [.str "told", b.data] := by
  have hi := (List.getElem?_eq_some_iff.mp h).1
  show (if (decide (0 ≤ (i : Int)) && decide ((i : Int) ≤ (bs.length : Int) - 1)) = true then _ else _) = _
  rw [if_pos (by rw [Bool.and_eq_true, decide_eq_true_eq, decide_eq_true_eq]; omega), Int.toNat_natCast, h]
  rfl
def spAnswer (C : Addr) : Sp := fun vs H Q _ => ∃ (a : Addr) (ts : List B) (t : B) (es : List Ed) (v : V) (D : Deck) (d : PyData), vs = [.ref a, v] ∧ Dk C H a ts t es false ∧ DQ D H v d ∧ ∀ (p : Addr) (H' : Hp), Same H H' → (NoT D H' → DQ D H' (.ref p) (ansD (ts ++ [t]) d)) → Q (.ref p) H'
def spDueAns : Sp := fun vs H Q _ => ∃ (L : Addr) (ws : List V) (ts : List B) (t : B) (v : V) (D : Deck) (d : PyData), vs = [.ref L, v] ∧ H L = some (.lst ws) ∧ BsAt H ws (ts ++ [t]) ∧ DQ D H v d ∧ ∀ (p : Addr) (H' : Hp), Same H H' → (NoT D H' → DQ D H' (.ref p) (ansD (ts ++ [t]) d)) → Q (.ref p) H'
theorem dq_two {D : Deck} {H : Hp} (n : NoT D H) {p : Addr} {v w : V} {d e : PyData} (h : H p = some (.tup [v, w])) (hv : DQ D H v d) (hw : DQ D H w e) : DQ D H (.ref p) (.tuple [d, e]) := .tup (n.tup (Same.refl _) h) h (.cons hv (.cons hw .nil))
section
variable {P : Program} {w : World} {K : PySem.W.Frag} {mg : Str → Option Value} {base : Heap} {f fT : Addr} {fd fdT : FuncData} {C cV fI : Addr} {qn : Str}
theorem ok_answer (F : Fun K "_law_answer" "_law_answer" s__law_answer f fd) (TD : DeskC K mg C) (M : Mgs mg) (EV : ErrV K mg cV) (hE : Err_value K mg "LookupError.__new__" leT "NoVersion" qn cV fI) (MT : Meth K C "tree" fT) (FtX : FnOk P w K mg base (L2.CX P w) 3 fT fdT ["self", "version"] (spTreeV C cV)) (kbT : KBn K fdT ["self", "version"] 1 ["version"] (fun us ws => us ++ ws) (fun vs zs => vs ++ zs)) :
    FnOk P w K mg base CX0 4 f fd ["_law_desk", "_law_moment"] (spAnswer C) := by
  refine F.ok (k := 3) sc__law_answer (fun vs H Q E h => ?_) (fun cdv A outer s H vs Q E hr h => ?_)
  · obtain ⟨a, ts, t, es, v, D, d, rfl, _⟩ := h
    rfl
  obtain ⟨a, ts, t, es, v, D, d, rfl, dk, hd, q⟩ := h
  obtain ⟨c1, c2, c3, g1, g2, g3, kM⟩ := EV.more
  have bu : bootBuiltins "isinstance" = some (.builtin "isinstance") := by decide +kernel
  obtain ⟨dx, ta, td, vs, u, ds, h1, _⟩ := id dk
  have nl : ∀ {m : Str} (vt vd vb : V), (m == ("trees" : Str)) = false → (m == ("done" : Str)) = false → (m == ("busy" : Str)) = false → (deskF vt vd vb).lookup m = none := no_look
  refine ⟨_, (pss_one (ps_try_as (i := 2) (n := "error") (c := .ref cV) (Wout := fun _ _ _ _ => False) rfl rfl sc__law_answer.nd rfl rfl ⟨rfl, by decide, .inl hE.gC⟩ takes_none5
      (fun W pn xe tk _ => pss_one (ps_ret (pe_tup (pa_cons pe_str (pa_cons (pe_methK (pv 0) TD.cl MT FtX (hr.mono (by omega)) kbT (fun σ => passAt tk σ) (pk_cons (pv 1) pk_nil)) pa_nil)))))
      (fun a oe cls d pn hz hf => (pss_cons (ps_if (PW.pt (pw_or (pt_val (pe_callB (call_isXT hz hf) rfl M.isinstance bu (pa_cons (pv 2) (pa_cons (pe_tup (pa_cons (pe_glob (v := .ref c1) rfl g1 rfl) (pa_cons (pe_glob (v := .ref c2) rfl g2 rfl) (pa_cons (pe_glob (v := .ref c3) rfl g3 rfl) pa_nil)))) pa_nil)))) (pw_or1 (pt_not (pt_val (pe_callB (call_isX hz hf) rfl M.isinstance bu (pa_cons (pv 2) (pa_cons (pe_bltn (v := .ty "LookupError") rfl EV.mL (by decide +kernel) rfl) pa_nil)))))))) (pss_one (ps_ret (pe_tup (pa_cons pe_str pa_nil)))) pss_nil) (pss_one (ps_ret (pe_tup (pa_cons pe_str (pa_cons (pe_fld_value hE hz hf (pv 2)) pa_nil))))))))), ?_⟩
  have ll : ((ts ++ [t]).length : Int) - 1 = (ts.length : Int) := by rw [List.length_append]; show ((ts.length + 1 : Nat) : Int) - 1 = _; omega
  have tel : ∀ (z : V) (b : B), BAt H z b → ansD (ts ++ [t]) d = .tuple [.str "told", b.data] → 2 ≤ sizeLine ∧ ∀ p, H p = none → Q (.ref p) (upd H p (.tup [.str "told", z])) := fun z b hz e => ⟨small (show 2 ≤ 1000 by decide), fun p np => q p _ (same_new np _) fun n => by
    rw [e]
    exact dq_two n upd_same (.str _) (n.dq (hz.same (same_new np _)))⟩
  refine ⟨_, rfl, a, dx, _, rfl, h1, nl _ _ _ (by decide +kernel) (by decide +kernel) (by decide +kernel), _, rfl, rfl, a, ts, t, es, v, D, d, rfl, dk, hd, fun e z hz => ?_, fun i b e hb z hz => ?_, fun hn hi p np => ?_⟩
  · exact tel z t hz (by rw [e, ansD_last])
  · exact tel z b hz (by rw [e, ansD_at hb])
  · refine ⟨true, EV.ex, fun _ a0 na => ?_, fun z => nomatch z⟩
    have s1 := same_new np (.xd [(("value" : Str), v)])
    have e1 := upd_same (H := H) (a := p) (o := .xd [(("value" : Str), v)])
    generalize upd H p (.xd [(("value" : Str), v)]) = H1 at s1 e1 na ⊢
    refine ⟨_, rfl, (by show 3 ≤ sizeLine; decide), fun tp ntp => ?_⟩
    have s2 := same_new ntp (.tup [.ref c1, .ref c2, .ref c3])
    refine ⟨cV, rfl, EV.x, tp, _, _, false, p, _, rfl, upd_same, .cons (.own _) (.cons (.own _) (.cons (.own _) .nil)), rfl, s2 _ _ e1, kM, _, rfl, iteF ?_⟩
    refine ⟨_, rfl, cV, rfl, EV.x, _, _, true, p, _, rfl, .ty _, rfl, s2 _ _ e1, EV.kL, _, rfl, iteF ?_⟩
    refine ⟨_, rfl, rfl, rfl, p, v, rfl, s2 _ _ e1, (by show 2 ≤ sizeLine; decide), fun p2 np2 => ?_⟩
    have s3 := same_new np2 (.tup [.str "NoVersion", v])
    refine q p2 _ ((s1.trans s2).trans s3) fun n => ?_
    rw [ansD_no hn (by rw [ll]; exact hi)]
    exact dq_two n upd_same (.str _) (dq_same ((s1.trans s2).trans s3) hd)
theorem ok_dueAns (F : Fun K "_law_due_answer" "_law_due_answer" s__law_due_answer f fd) (M : Mgs mg) (D_law_from : Df P w K mg base 1 "_law_from" ["_law_thing", "_law_low", "_law_high"] spFrom) : FnOk P w K mg base CX0 2 f fd ["_law_states", "_law_moment"] spDueAns := by
  refine F.ok (k := 1) sc__law_due_answer (fun vs H Q E h => ?_) (fun cdv A outer s H vs Q E hr h => ?_)
  · obtain ⟨L, ws, ts, t, v, D, d, rfl, _⟩ := h
    rfl
  obtain ⟨L, ws, ts, t, v, D, d, rfl, eL, hB, hd, q⟩ := h
  refine ⟨_, (pss_cons (ps_if (PW.pt (pw_and (pt_cmpR op_notN (pv 1) pe_non (nomark _)) (pw_and1 (pt_not (pt_val (pe_call D_law_from.ok (hr.mono (by omega)) rfl D_law_from.g D_law_from.kp D_law_from.b .nil pass0 (pa_cons (pv 1) (pa_cons pe_int (pa_cons (pe_op op_sub (pe_callB call_len_seq rfl M.len PySem.boot_len (pa_cons (pv 0) pa_nil)) pe_int) pa_nil)))))))))
      (pss_one (ps_ret (pe_tup (pa_cons pe_str (pa_cons (pv 1) pa_nil))))) pss_nil)
    (pss_one (ps_ret (pe_tup (pa_cons pe_str (pa_cons (pe_ix ix_list (pv 0) (pe_ifExp (pt_cmpR op_isN (pv 1) pe_non (nomark _)) (pe_un un_neg pe_int) (pv 1)) (fun _ _ => rfl)) pa_nil)))))), ?_⟩
  have ll : ((ts ++ [t]).length : Int) - 1 = (ts.length : Int) := by rw [List.length_append]; show ((ts.length + 1 : Nat) : Int) - 1 = _; omega
  have wl := hB.len
  obtain ⟨ws0, w0, hw, hB0, b0⟩ := hB.unsnoc rfl
  refine ⟨_, rfl, rfl, _, rfl, ?_⟩
  by_cases hv : v = .non
  · subst hv
    have hd0 : d = .none := by cases hd; rfl
    subst hd0
    refine iteF (iteF ?_)
    refine ⟨_, rfl, _, rfl, rfl, _, rfl, iteT ⟨1, rfl, L, ws, -1, w0, rfl, rfl, SqL.of eL, (by rw [hw]; exact atI_last _ _), (by show 2 ≤ sizeLine; decide), fun p np => ?_⟩⟩
    refine q p _ (same_new np _) fun n => ?_
    rw [ansD_last]
    exact dq_two n upd_same (.str _) (n.dq (b0.same (same_new np _)))
  · have hn : d ≠ .none := fun z => hv (by subst z; cases hd; rfl)
    rw [show (!decide (v = V.non)) = true by rw [decide_eq_false hv]; rfl]
    refine iteT ⟨_, rfl, _, rfl, L, ws, rfl, .inl (SqL.of eL), _, _, rfl, rfl, v, D, d, 0, _, rfl, hd, _, rfl, ?_⟩
    rw [show ((ws.length : Int) - 1) = (ts.length : Int) by rw [wl]; exact ll]
    cases hi : isIx d 0 (ts.length : Int) with
    | false =>
      refine iteT ⟨_, rfl, (by show 2 ≤ sizeLine; decide), fun p np => ?_⟩
      refine q p _ (same_new np _) fun n => ?_
      rw [ansD_no hn (by rw [ll]; exact hi)]
      exact dq_two n upd_same (.str _) (dq_same (same_new np _) hd)
    | true =>
      refine iteF ?_
      cases d with
      | int i =>
        have := hd.intI
        subst this
        have hi : (decide (0 ≤ i) && decide (i ≤ (ts.length : Int))) = true := hi
        rw [Bool.and_eq_true, decide_eq_true_eq, decide_eq_true_eq] at hi
        obtain ⟨j, rfl⟩ := Int.eq_ofNat_of_zero_le hi.1
        have hj : j < ws.length := by rw [wl, List.length_append]; show j < ts.length + 1; omega
        have hg : ws[j]? = some (ws[j]) := List.getElem?_eq_getElem hj
        obtain ⟨b, hb, bv⟩ := hB.get hg
        refine ⟨_, rfl, _, rfl, rfl, _, rfl, iteF ⟨_, rfl, L, ws, _, _, rfl, rfl, SqL.of eL, atI_nat hg, (by show 2 ≤ sizeLine; decide), fun p np => ?_⟩⟩
        refine q p _ (same_new np _) fun n => ?_
        rw [ansD_at hb]
        exact dq_two n upd_same (.str _) (n.dq (bv.same (same_new np _)))
      | _ => cases hi
end
end Tw --
/-! ### list(enumerate(a list)) -/
namespace PySem
open Sem (wp)
section
variable {prog : Program} {w : World} {A : Around} {E : Value → Shared → Prop} {s : Shared}
theorem wpAny_loadIfAlive {M : Model} {a : Addr} {Q : Option Obj → Shared → Prop} (h : Q (s.heap.get? a) s) : wpAny M A (loadIfAlive a) Q E s := fun _ _ _ => h
/-- the enumerate object behind its first pair: the pair T has been handed out -/
abbrev IsEnumB (h : Heap) (e it : Addr) (i : Int) (old : Value) (T : Addr) (b : Bool) : Prop :=
  h.get? e = some { cls := .type "enumerate", dict := none, data := .fields #[rawInt T, .bool b, .ref it, rawInt i, .none, old], slots := #[] }
theorem enumerate_next_again {e it l T : Addr} {b : Bool} {i : Nat} {items : Array Value} {x old : Value} {Q : Value → Shared → Prop}
    (he : IsEnumB s.heap e it i old T b) (hit : s.heap.IsListIter it l i) (hl : s.heap.IsList l items) (hx : items[i]? = some x) (hne : e ≠ it) (hTe : T ≠ e) (hTi : T ≠ it) (hTa : ∃ o, s.heap.get? T = some o)
    (hQ : ∀ h', IsEnumB h' e it ((i : Int) + 1) old T true → h'.IsListIter it l (i + 1) →
      h'.get? s.heap.objs.size = some { cls := .type "tuple", data := .seq #[.int i s.toks, x] } → h'.objs.size = s.heap.objs.size + 1 →
      (∀ b o, b ≠ e → b ≠ it → s.heap.get? b = some o → h'.get? b = some o) → Q (.ref s.heap.objs.size) { s with heap := h', toks := s.toks + 1 }) :
    wpAny (model prog w) A (Builtin.«enumerate.__next__» ⟨[.ref e], []⟩) (fun fin s' => ∃ v, fin = .done (.ret v) ∧ Q v s') E s := by
  obtain ⟨hp, g, d, tk, os⟩ := s
  show wpAny _ _ (field (.ref e) 2 >>= _) _ _ _
  refine wpAny_bind (wpAny_field he rfl (x := .ref it) rfl ?_)
  refine wpAny_bind (wpAny_nextOf_list_item hit hl hx fun h₁ hit₁ hs₁ => ?_)
  replace hs₁ : Heap.SameBut it hp h₁ := hs₁
  have he₁ : IsEnumB h₁ e it i old T b := (hs₁.2 e hne).trans he
  show wpAny _ _ (field (.ref e) 3 >>= _) _ _ ⟨h₁, g, d, tk, os⟩
  refine wpAny_bind (wpAny_field he₁ rfl (x := rawInt i) rfl ?_)
  show wpAny _ _ (field (.ref e) 4 >>= _) _ _ ⟨h₁, g, d, tk, os⟩
  refine wpAny_bind (wpAny_field he₁ rfl (x := .none) rfl ?_)
  show wpAny _ _ (mkInt i >>= _) _ _ ⟨h₁, g, d, tk, os⟩
  refine wpAny_bind (wpAny_mkInt ?_)
  show wpAny _ _ (setField (.ref e) 3 (rawInt ((i : Int) + 1)) >>= _) _ _ ⟨h₁, g, d, tk + 1, os⟩
  refine wpAny_bind (wpAny_setField_rec he₁ (by simp) fun h₂ he₂ hs₂ => ?_)
  replace hs₂ : Heap.SameBut e h₁ h₂ := hs₂
  replace he₂ : IsEnumB h₂ e it ((i : Int) + 1) old T b := he₂
  show wpAny _ _ (setField (.ref e) 4 .none >>= _) _ _ ⟨h₂, g, d, tk + 1, os⟩
  refine wpAny_bind (wpAny_setField_rec he₂ (by simp) fun h₃ he₃ hs₃ => ?_)
  replace hs₃ : Heap.SameBut e h₂ h₃ := hs₃
  replace he₃ : IsEnumB h₃ e it ((i : Int) + 1) old T b := he₃
  show wpAny _ _ (newTuple [.int i tk, x] >>= _) _ _ ⟨h₃, g, d, tk + 1, os⟩
  refine wpAny_bind (wpAny_newTuple ?_)
  have he₄ : IsEnumB (h₃.push { cls := .type "tuple", data := .seq #[.int i tk, x] }) e it ((i : Int) + 1) old T b := Heap.get?_push_of_some _ he₃
  have hT₄ : ∃ o, (h₃.push { cls := .type "tuple", data := .seq #[.int i tk, x] }).get? T = some o := by
    obtain ⟨o, ho⟩ := hTa
    exact ⟨o, Heap.get?_push_of_some _ (hs₃.extBut _ _ hTe (hs₂.extBut _ _ hTe (hs₁.extBut _ _ hTi ho)))⟩
  generalize hh₄ : h₃.push { cls := .type "tuple", data := .seq #[.int i tk, x] } = h₄ at he₄ hT₄
  have hsz : h₃.objs.size = hp.objs.size := by rw [hs₃.1, hs₂.1, hs₁.1]
  have hel : e < hp.objs.size := Heap.lt_size he
  have ht₄ : h₄.get? hp.objs.size = some { cls := .type "tuple", data := .seq #[.int i tk, x] } := by rw [← hh₄, ← hsz]; exact Heap.get?_push_size _ rfl
  have hz₄ : h₄.objs.size = hp.objs.size + 1 := by rw [← hh₄, Heap.size_push, hsz]
  have hk₄ : ∀ b o, b ≠ e → b ≠ it → hp.get? b = some o → h₄.get? b = some o := fun b o hbe hbi hb => by
    rw [← hh₄]; exact Heap.get?_push_of_some _ (hs₃.extBut b o hbe (hs₂.extBut b o hbe (hs₁.extBut b o hbi hb)))
  have hit₄ : h₄.IsListIter it l (i + 1) := by
    rw [← hh₄]; obtain ⟨o, ho, r⟩ := (hit₁.extBut hs₂.extBut (Ne.symm hne)).extBut hs₃.extBut (Ne.symm hne); exact ⟨o, Heap.get?_push_of_some _ ho, r⟩
  show wpAny _ _ (Builtin.SmallTypes.ownedTupleIsFree (.ref e) >>= _) _ _ ⟨h₄, g, d, tk + 1, os⟩
  rw [hsz]
  clear hh₄ he₃ hs₃ he₂ hs₂ he₁ hs₁ hit₁ hsz h₃ h₂ h₁
  obtain ⟨oT, hoT⟩ := hT₄
  refine wpAny_bind ?_
  unfold Builtin.SmallTypes.ownedTupleIsFree
  refine wpAny_bind (wpAny_field he₄ rfl (x := rawInt T) rfl ?_)
  show wpAny _ _ (loadIfAlive ((T : Int).toNat) >>= _) _ _ _
  refine wpAny_bind (wpAny_loadIfAlive ?_)
  rw [Int.toNat_natCast, hoT]
  simp only [Option.isNone_some, Bool.false_eq_true, if_false]
  first
    | refine wpAny_bind (wpAny_pure ?_)
    | skip
  show wpAny _ _ (field (.ref e) 1 >>= _) _ _ ⟨h₄, g, d, tk + 1, os⟩
  refine wpAny_bind (wpAny_field he₄ rfl (x := .bool b) rfl ?_)
  cases b with
  | true =>
    rw [if_neg (by decide)]
    refine wpAny_bind (wpAny_pure (wpAny_pure ?_))
    exact wpAny_pure ⟨_, rfl, hQ h₄ he₄ hit₄ ht₄ hz₄ hk₄⟩
  | false =>
    rw [if_pos (by decide)]
    refine wpAny_bind (wpAny_setField_rec he₄ (by simp) fun h₅ he₅ hs₅ => ?_)
    replace hs₅ : Heap.SameBut e h₄ h₅ := hs₅
    replace he₅ : IsEnumB h₅ e it ((i : Int) + 1) old T true := he₅
    refine wpAny_pure (wpAny_pure ⟨_, rfl, hQ h₅ he₅ ?_ ?_ ?_ ?_⟩)
    · exact hit₄.extBut hs₅.extBut (Ne.symm hne)
    · exact hs₅.extBut _ _ (Nat.ne_of_gt hel) ht₄
    · rw [hs₅.1, hz₄]
    · exact fun b o hbe hbi hb => hs₅.extBut b o hbe (hk₄ b o hbe hbi hb)
end
section
variable {prog : Program} {w : World} {A : Around} {E : Value → Shared → Prop} {s : Shared}
theorem enum_next_againP {e it l T : Addr} {b : Bool} {i : Nat} {items : Array Value} {x old : Value} {Q : Option Value → Shared → Prop}
    (he : IsEnumB s.heap e it i old T b) (hit : s.heap.IsListIter it l i) (hl : s.heap.IsList l items) (hx : items[i]? = some x) (hne : e ≠ it) (hTe : T ≠ e) (hTi : T ≠ it) (hTa : ∃ o, s.heap.get? T = some o)
    (hQ : ∀ h', IsEnumB h' e it ((i : Int) + 1) old T true → h'.IsListIter it l (i + 1) →
      h'.get? s.heap.objs.size = some { cls := .type "tuple", data := .seq #[.int i s.toks, x] } → h'.objs.size = s.heap.objs.size + 1 →
      (∀ b o, b ≠ e → b ≠ it → s.heap.get? b = some o → h'.get? b = some o) → Q (some (.ref s.heap.objs.size)) { s with heap := h', toks := s.toks + 1 }) :
    wpAny (model prog w) A (pyNext (.ref e)) Q E s := by
  have hT : s.TypeIs (.ref e) "enumerate" := ⟨_, he, rfl⟩
  unfold pyNext
  exact wpAny_bind (wpAny_attempt (wpAny_callSpecial?_slot (name := Str.ofString "__next__") hT F.slot_enumerate_next
    (wpAny_call_entry F.slot_enumerate_next hT F.entry_enumerate_next
      (enumerate_next_again he hit hl hx hne hTe hTi hTa fun h' a b c d k => wpAny_pure (hQ h' a b c d k)) (F.args_enumerate_next_1 _))))
theorem enum_endP {e it l : Addr} {i : Nat} {items : Array Value} {v0 v1 v3 v4 v5 : Value} {Q : Option Value → Shared → Prop} (hh : A.handled = none)
    (he : s.heap.get? e = some { cls := .type "enumerate", dict := none, data := .fields #[v0, v1, .ref it, v3, v4, v5], slots := #[] }) (hit : s.heap.IsListIter it l i) (hl : s.heap.IsList l items) (hx : items[i]? = none)
    (hQ : ∀ h', Heap.ExtBut it s.heap h' → Q none { s with heap := h' }) : wpAny (model prog w) A (pyNext (.ref e)) Q E s := by
  have hT : s.TypeIs (.ref e) "enumerate" := ⟨_, he, rfl⟩
  unfold pyNext
  refine wpAny_bind (wpAny_attempt (wpAny_callSpecial?_slot (name := Str.ofString "__next__") hT F.slot_enumerate_next
    (wpAny_call_entry F.slot_enumerate_next hT F.entry_enumerate_next ?_ (F.args_enumerate_next_1 _))))
  show wpAny _ _ (field (.ref e) 2 >>= _) _ _ _
  refine wpAny_bind (wpAny_field he rfl (x := .ref it) rfl ?_)
  refine wpAny_bind (wpAny_nextOf_list_end hh hit hl hx fun h' x he' hx' => ?_)
  obtain ⟨o, ho, hc⟩ := hx'
  refine wpAny_bind (wpAny_isInstance (T := "StopIteration") (b := true) ⟨o, ho, hc⟩ isSubtype_stop ?_)
  exact wpAny_pure (hQ _ he')
end
namespace F
theorem enum_no_len : typeLookup (.type "enumerate") "__len__" = pure none := by rw [typeLookup_type, builtinLookup_eq_fast]; kernel_rfl
theorem enum_no_hint : typeLookup (.type "enumerate") "__length_hint__" = pure none := by rw [typeLookup_type, builtinLookup_eq_fast]; kernel_rfl
end F
/-- the pairs made so far, from n0 on -/
def PairsAt (h : Heap) (n0 : Nat) (items : Array Value) (i : Nat) : Prop := ∀ j, j < i → ∃ t x, items[j]? = some x ∧ h.get? (n0 + j) = some { cls := .type "tuple", data := .seq #[.int j t, x] }
def EnSt (h : Heap) (e it : Addr) (i n0 : Nat) : Prop := (i = 0 ∧ ∃ old, IsEnum h e it (i : Nat) old) ∨ (0 < i ∧ ∃ old b, IsEnumB h e it (i : Nat) old n0 b)
theorem enum_drain {P : Program} {w : World} {A : Around} {R : Result → Shared → Prop} {S e it l : Addr} {items : Array Value} {res : Value} {s0 : Shared} (hh : A.handled = none) (hSe : S ≠ e) (hSi : S ≠ it) (hSl : S ≠ l) (hel : e ≠ l) (hil : it ≠ l) (hne : e ≠ it) (hsz : items.size ≤ 1000) (n0 : Nat) (hS0 : S < n0) (he0 : e < n0) (hi0 : it < n0)
    (hend : ∀ (s' : Shared) (acc : Array Value) (c : Nat), s'.heap.get? S = some { cls := .type "list", dict := none, data := .seq acc c, slots := #[] } → acc.size = items.size → (∀ (j : Nat) (v : Value), acc[j]? = some v → v = .ref (n0 + j)) → PairsAt s'.heap n0 items items.size →
      (∀ b o, b ≠ S → b ≠ e → b ≠ it → s0.heap.get? b = some o → s'.heap.get? b = some o) → s'.os = s0.os → s'.gens = s0.gens → R (.ok (.ret res)) s') :
    ∀ (k i : Nat) (s : Shared) (acc : Array Value) (c : Nat), items.size - i = k → i ≤ items.size → s.heap.get? S = some { cls := .type "list", dict := none, data := .seq acc c, slots := #[] } → acc.size = i → (∀ (j : Nat) (v : Value), acc[j]? = some v → v = .ref (n0 + j)) →
      s.heap.IsList l items → s.heap.IsListIter it l i → EnSt s.heap e it i n0 → PairsAt s.heap n0 items i → s.heap.objs.size = n0 + i → (∀ b o, b ≠ S → b ≠ e → b ≠ it → s0.heap.get? b = some o → s.heap.get? b = some o) → s.os = s0.os → s.gens = s0.gens →
      codeAny (model P w) A (.builtin "list.extend.loop" ⟨[.ref S, .ref e, res], []⟩) R s := by
  have h1000 : (1000 : Nat) ≤ sizeLine := by decide
  have nS : ∀ j, n0 + j ≠ S := fun j => Nat.ne_of_gt (Nat.lt_of_lt_of_le hS0 (Nat.le_add_right _ _))
  have ne : ∀ j, n0 + j ≠ e := fun j => Nat.ne_of_gt (Nat.lt_of_lt_of_le he0 (Nat.le_add_right _ _))
  have ni : ∀ j, n0 + j ≠ it := fun j => Nat.ne_of_gt (Nat.lt_of_lt_of_le hi0 (Nat.le_add_right _ _))
  intro k
  induction k with
  | zero =>
    intro i s acc c hk hi hS ha hacc hl hit hen hp hs hkeep hos hg
    have hin : i = items.size := by omega
    subst hin
    refine codeAny_builtin F.entry_extend_loop ?_
    rw [Around.under_plainId F.plain_extend_loop _]
    show wpAny _ A.in1 (pyNext (.ref e) >>= _) _ _ s
    have fin : ∀ h', Heap.ExtBut it s.heap h' → R (.ok (.ret res)) { s with heap := h' } := fun h' hx =>
      hend _ acc c (hx _ _ hSi hS) ha hacc (fun j hj => by
        obtain ⟨t, x, h1, h2⟩ := hp j hj
        exact ⟨t, x, h1, hx _ _ (ni j) h2⟩) (fun b o h1 h2 h3 h4 => hx _ _ h3 (hkeep b o h1 h2 h3 h4)) hos hg
    rcases hen with ⟨_, old, he⟩ | ⟨_, old, b, he⟩
    · exact wpAny_bind (enum_endP hh he hit hl (by simp) fun h' hx => wpAny_pure (fin h' hx))
    · exact wpAny_bind (enum_endP hh he hit hl (by simp) fun h' hx => wpAny_pure (fin h' hx))
  | succ k ih =>
    intro i s acc c hk hi hS ha hacc hl hit hen hp hs hkeep hos hg
    have hlt : i < items.size := by omega
    have hx : items[i]? = some items[i] := Array.getElem?_eq_getElem hlt
    refine codeAny_builtin F.entry_extend_loop ?_
    rw [Around.under_plainId F.plain_extend_loop _]
    show wpAny _ A.in1 (pyNext (.ref e) >>= _) _ _ s
    have next : ∀ h', EnSt h' e it (i + 1) n0 → h'.IsListIter it l (i + 1) → h'.get? s.heap.objs.size = some { cls := .type "tuple", data := .seq #[.int i s.toks, items[i]] } → h'.objs.size = s.heap.objs.size + 1 →
        (∀ b o, b ≠ e → b ≠ it → s.heap.get? b = some o → h'.get? b = some o) →
        wpAny (model P w) A.in1 (updateSeq S (·.push (Value.ref s.heap.objs.size)) >>= fun _ => again (.builtin "list.extend.loop" ⟨[.ref S, .ref e, res], []⟩))
          (fun fin s' => match fin with | .done f => R (.ok f) s' | .again c' => c'.quiet = true ∧ codeAny (model P w) A c' R s') (fun e s' => R (.error e) s') { s with heap := h', toks := s.toks + 1 } := by
      intro h' he' hit' ht hz hk'
      have hS' := hk' _ _ hSe hSi hS
      refine wpAny_bind (wpAny_updateSeq (s := { s with heap := h', toks := s.toks + 1 }) hS' rfl ?_ (by rw [ha]; omega) (by show (acc.push _).size ≤ sizeLine + 1; rw [Array.size_push, ha]; omega))
      have up : ∀ b o, b ≠ S → h'.get? b = some o → (h'.update S (Obj.mapSeq (·.push (Value.ref s.heap.objs.size)))).get? b = some o := fun b o hb e => (Heap.get?_update_other _ _ (Ne.symm hb)).trans e
      refine wpAny_pure ⟨plainId_quiet F.plain_extend_loop _, ih (i + 1) _ (acc.push (Value.ref s.heap.objs.size)) _ (by omega) hlt (Heap.get?_update_self _ hS' rfl) (by rw [Array.size_push, ha]) (fun j v hj => ?_)
        ((hl.at fun o q => hk' _ _ (Ne.symm hel) (Ne.symm hil) q).at fun o q => up _ _ (Ne.symm hSl) q) (hit'.at fun o q => up _ _ (Ne.symm hSi) q) ?_ (fun j hj => ?_) (by rw [Heap.size_update, hz, hs]; omega) (fun b o h1 h2 h3 h4 => up _ _ h1 (hk' _ _ h2 h3 (hkeep b o h1 h2 h3 h4))) hos hg⟩
      · rw [Array.getElem?_push] at hj
        split at hj
        · rename_i e1
          cases hj
          rw [hs, e1, ha]
        · exact hacc j v hj
      · rcases he' with ⟨z, _⟩ | ⟨_, old, b, he'⟩
        · omega
        · exact .inr ⟨by omega, old, b, up _ _ (Ne.symm hSe) he'⟩
      · by_cases hji : j < i
        · obtain ⟨t, x, h1, h2⟩ := hp j hji
          exact ⟨t, x, h1, up _ _ (nS j) (hk' _ _ (ne j) (ni j) h2)⟩
        · have : j = i := by omega
          subst this
          rw [hs] at ht
          exact ⟨s.toks, _, hx, up _ _ (nS j) ht⟩
    rcases hen with ⟨z, old, he⟩ | ⟨z, old, b, he⟩
    · subst z
      refine wpAny_bind (wpAny_pyNext_enum_item he hit hl hx hne fun h' he' hit' ht hz hk' => ?_)
      rw [hs, Nat.add_zero] at he'
      exact next h' (.inr ⟨Nat.succ_pos _, items[0], false, he'⟩) hit' ht hz hk'
    · obtain ⟨t, x, h1, h2⟩ := hp 0 z
      rw [Nat.add_zero] at h2
      refine wpAny_bind (enum_next_againP he hit hl hx hne (ne 0) (ni 0) ⟨_, h2⟩ fun h' he' hit' ht hz hk' => ?_)
      exact next h' (.inr ⟨Nat.succ_pos _, old, true, he'⟩) hit' ht hz hk'
theorem call_list_enum {P : Program} {w : World} {A : Around} {Q : Value → Shared → Prop} {E : Value → Shared → Prop} {s : Shared} {e it l : Addr} {items : Array Value} (hh : A.handled = none) (hl : s.heap.IsList l items) (he : IsEnum s.heap e it 0 .none) (hit : s.heap.IsListIter it l 0) (hne : e ≠ it) (hel : e ≠ l) (hil : it ≠ l) (hz : items.size ≤ 1000)
    (hQ : ∀ (s' : Shared) (acc : Array Value) (c : Nat), s'.heap.get? s.heap.objs.size = some { cls := .type "list", dict := none, data := .seq acc c, slots := #[] } → acc.size = items.size → (∀ (j : Nat) (v : Value), acc[j]? = some v → v = .ref (s.heap.objs.size + 1 + j)) → PairsAt s'.heap (s.heap.objs.size + 1) items items.size →
      (∀ b o, b ≠ e → b ≠ it → s.heap.get? b = some o → s'.heap.get? b = some o) → s'.os = s.os → s'.gens = s.gens → Q (.ref s.heap.objs.size) s') :
    wpAny (model P w) A (call (.type "list") [.ref e]) Q E s := by
  have hlt : ∀ b o, s.heap.get? b = some o → b < s.heap.objs.size := fun b o q => Heap.lt_size q
  have hel' : e < s.heap.objs.size := Heap.lt_size he
  have hil' : it < s.heap.objs.size := by obtain ⟨o, q, _⟩ := hit; exact hlt _ o q
  have hll : l < s.heap.objs.size := by obtain ⟨o, q, _⟩ := hl; exact hlt _ o q
  have hSe : s.heap.objs.size ≠ e := Nat.ne_of_gt hel'
  have hSi : s.heap.objs.size ≠ it := Nat.ne_of_gt hil'
  have hSl : s.heap.objs.size ≠ l := Nat.ne_of_gt hll
  refine callType_codes (Q₁ := fun obj s₁ => obj = .ref s.heap.objs.size ∧ s₁ = { s with heap := s.heap.push { cls := .type "list", data := .seq #[] } }) F.called_list (F.typeCall_list_1 _) F.entry_list_init
    (code_list_new _ ⟨rfl, rfl⟩) fun obj s₁ h₁ => ?_
  obtain ⟨rfl, rfl⟩ := h₁
  have hS : (s.heap.push { cls := .type "list", data := .seq #[] }).get? s.heap.objs.size = some { cls := .type "list", data := .seq #[] } := Heap.get?_push_size _ rfl
  refine ⟨⟨_, hS, rfl⟩, F.args_list_init_2 _ _, ?_⟩
  show wpAny _ A.in1.in1 (do let old ← Builtin.List.listItems (.ref s.heap.objs.size); Builtin.List.listUpdate (.ref s.heap.objs.size) (fun _ => #[]); letGo old.toList.reverse; Builtin.List.listExtendWith (.ref s.heap.objs.size) (.ref e) .none) _ _ _
  refine wpAny_bind ?_
  unfold Builtin.List.listItems
  refine wpAny_bind (wpAny_seqItems hS rfl (wpAny_pure ?_))
  show wpAny _ A.in1.in1 (updateSeq s.heap.objs.size (fun _ => #[]) >>= fun _ => letGo (#[] : Array Value).toList.reverse >>= fun _ => Builtin.List.listExtendWith (.ref s.heap.objs.size) (.ref e) .none) _ _ _
  refine wpAny_bind (wpAny_updateSeq hS rfl ?_)
  have hS2 := Heap.get?_update_self (Obj.mapSeq (fun _ => (#[] : Array Value))) hS rfl
  refine wpAny_bind (wpAny_letGo ?_)
  unfold Builtin.List.listExtendWith
  have up : ∀ (h : Heap) (f : Obj → Obj), (∀ b o, s.heap.get? b = some o → h.get? b = some o) → ∀ b o, s.heap.get? b = some o → (h.update s.heap.objs.size f).get? b = some o := fun h f q b o e =>
    (Heap.get?_update_other _ _ (Ne.symm (Nat.ne_of_lt (Heap.lt_size e)))).trans (q b o e)
  have k1 : ∀ b o, s.heap.get? b = some o → (s.heap.push { cls := .type "list", data := .seq #[] }).get? b = some o := fun b o e => Heap.get?_push_of_some _ e
  have k2 := up _ (Obj.mapSeq (fun _ => (#[] : Array Value))) k1
  have ety : ∀ {h : Heap}, (∀ b o, s.heap.get? b = some o → h.get? b = some o) → Shared.TypeIs { s with heap := h } (.ref e) "enumerate" := fun {h} q => ⟨_, q _ _ he, rfl⟩
  refine wpAny_bind (wpAny_typeOf (ety k2) ?_)
  have h1 : Builtin.List.listSameRef (.ref s.heap.objs.size) (.ref e) = false := by simp [Builtin.List.listSameRef, hSe]
  have h2 : (Value.type "enumerate" == Value.type "list") = false := by decide
  have h3 : (Value.type "enumerate" == Value.type "tuple") = false := by decide
  simp only [h1, h2, h3, Bool.or_false, Bool.false_eq_true, if_false]
  refine wpAny_bind (wpAny_pyIter_enum (k2 _ _ he) ?_)
  refine wpAny_bind (wpAny_holding ?_)
  unfold Builtin.List.listLengthHint
  refine wpAny_bind (wpAny_specialOf (ety k2) F.enum_no_len ?_)
  show wpAny _ A.in1.in1 (specialOf (Value.ref e) (Str.ofString "__length_hint__") >>= _) _ _ _
  refine wpAny_bind (wpAny_specialOf (ety k2) F.enum_no_hint ?_)
  refine wpAny_pure ?_
  show wpAny _ A.in1.in1 (rule "list.extend.makes-room" >>= fun _ => Builtin.List.listTouch (.ref s.heap.objs.size) >>= fun _ =>
    again (.builtin "list.extend.loop" ⟨[.ref s.heap.objs.size, .ref e, .none], []⟩)) _ _ _
  refine wpAny_bind (wpAny_rule ?_)
  refine wpAny_bind ?_
  show wpAny _ A.in1.in1 (updateSeq s.heap.objs.size (·.push .none) >>= fun _ => updateSeq s.heap.objs.size (·.pop)) _ _ _
  refine wpAny_bind (wpAny_updateSeq hS2 rfl ?_)
  have hS3 := Heap.get?_update_self (Obj.mapSeq (·.push Value.none)) hS2 rfl
  refine wpAny_updateSeq (hz := by seq_fits) hS3 rfl ?_
  have hS4 := Heap.get?_update_self (Obj.mapSeq (·.pop)) hS3 rfl
  have k4 := up _ (Obj.mapSeq (·.pop)) (up _ (Obj.mapSeq (·.push Value.none)) k2)
  refine wpAny_pure ⟨plainId_quiet F.plain_extend_loop _, ?_⟩
  refine enum_drain (P := P) (w := w) (s0 := s) (A := A.in1) (l := l) (it := it) (items := items) hh hSe hSi hSl hel hil hne hz (s.heap.objs.size + 1) (Nat.lt_succ_self _) (Nat.lt_succ_of_lt hel') (Nat.lt_succ_of_lt hil')
    (fun s' acc c q1 q2 q3 q4 q5 q6 q7 => ⟨rfl, hQ s' acc c q1 q2 q3 q4 (fun b o h1 h2 h3 => q5 b o (Nat.ne_of_lt (hlt b o h3)) h1 h2 h3) q6 q7⟩)
    items.size 0 _ _ _ (by omega) (Nat.zero_le _) hS4 rfl (fun j v hj => by simp [Obj.mapSeq] at hj) (hl.at fun o q => k4 _ _ q) (hit.at fun o q => k4 _ _ q) (.inl ⟨rfl, _, k4 _ _ he⟩) (fun j hj => by omega) ?_ (fun b o _ _ _ q => k4 b o q) rfl rfl
  show (Heap.update _ _ _).objs.size = _
  rw [Heap.size_update, Heap.size_update, Heap.size_update, Heap.size_push]
end PySem
namespace L2
open PySem PySem.Spec PyProof.Rows
def tListEnum (K : PySem.W.Frag) (ta : TA) : TE := fun σ H Q => ta σ H fun vs H1 => ∃ a xs, vs = [.ref a] ∧ SqL K H1 a xs ∧ xs.length ≤ 1000 ∧ ∀ (S : Addr) (p : Nat → Addr) (H' : Hp), Same H1 H' → H1 S = none → (∀ j, H1 (p j) = none) → H' S = some (.lst ((List.range xs.length).map fun j => V.ref (p j))) →
  (∀ j x, xs[j]? = some x → H' (p j) = some (.tup [.int (j : Nat), x])) → Q (.ref S) H'
def hpEnum (H : Hp) (S n0 : Nat) (xs : List V) : Hp := fun b => if b = S then some (.lst ((List.range xs.length).map fun j => V.ref (n0 + j))) else if n0 ≤ b then (xs[b - n0]?).map fun x => HO.tup [.int ((b - n0 : Nat) : Int), x] else H b
theorem hpE_S (H : Hp) (S n0 : Nat) (xs : List V) : hpEnum H S n0 xs S = some (.lst ((List.range xs.length).map fun j => V.ref (n0 + j))) := by
  unfold hpEnum
  rw [if_pos rfl]
theorem hpE_low {H : Hp} {S n0 b : Nat} {xs : List V} (h : b < S) (h2 : S < n0) : hpEnum H S n0 xs b = H b := by
  unfold hpEnum
  rw [if_neg (show ¬ b = S by omega), if_neg (show ¬ n0 ≤ b by omega)]
theorem hpE_at {H : Hp} {S n0 j : Nat} {xs : List V} {x : V} (h2 : S < n0) (e : xs[j]? = some x) : hpEnum H S n0 xs (n0 + j) = some (.tup [.int (j : Nat), x]) := by
  unfold hpEnum
  rw [if_neg (show ¬ n0 + j = S by omega), if_pos (Nat.le_add_right n0 j), Nat.add_sub_cancel_left, e]
  rfl
theorem hpE_cases {H : Hp} {S n0 b : Nat} {xs : List V} {u : HO} (h2 : n0 = S + 1) (e : hpEnum H S n0 xs b = some u) : (b = S ∧ u = .lst ((List.range xs.length).map fun j => V.ref (n0 + j))) ∨ (∃ j x, b = n0 + j ∧ xs[j]? = some x ∧ u = .tup [.int (j : Nat), x]) ∨ (b < S ∧ H b = some u) := by
  unfold hpEnum at e
  by_cases h1 : b = S
  · rw [if_pos h1] at e
    exact .inl ⟨h1, (Option.some.inj e).symm⟩
  · rw [if_neg h1] at e
    by_cases h3 : n0 ≤ b
    · rw [if_pos h3] at e
      cases hx : xs[b - n0]? with
      | none => rw [hx] at e; cases e
      | some x =>
        rw [hx] at e
        exact .inr (.inl ⟨b - n0, x, by omega, hx, (Option.some.inj e).symm⟩)
    · rw [if_neg h3] at e
      exact .inr (.inr ⟨by omega, e⟩)
theorem vals_range {n0 : Nat} : ∀ (n : Nat) (acc : Array Value), acc.size = n → (∀ (j : Nat) (v : Value), acc[j]? = some v → v = Value.ref (n0 + j)) → Vals ((List.range n).map fun j => V.ref (n0 + j)) acc.toList := fun n acc h k => by
  have key : ∀ (l : List Value) (m : Nat), (∀ (j : Nat) (v : Value), l[j]? = some v → v = Value.ref (n0 + (m + j))) → Vals ((List.range' m l.length).map fun j => V.ref (n0 + j)) l := by
    intro l
    induction l with
    | nil => intro m _; exact .nil
    | cons v l ih =>
      intro m hk
      have h0 := hk 0 v rfl
      rw [List.length_cons, List.range'_succ, List.map_cons]
      refine .cons ?_ (ih (m + 1) fun j u hj => ?_)
      · rw [h0, Nat.add_zero]; rfl
      · rw [hk (j + 1) u (by simpa using hj)]
        rw [show m + (j + 1) = m + 1 + j by omega]
  have := key acc.toList 0 fun j v hj => by rw [Nat.zero_add]; exact k j v (by rw [← Array.getElem?_toList]; exact hj)
  rw [Array.length_toList, h, ← List.range_eq_range'] at this
  exact this
theorem pe_listEnum {X : Cx} {e : Expr} {ta : TA} {p pos p2 pos2 : Pos} (hc : X.calm = true) (hg : Gl X "list") (hm : X.mg "list" = none) (hg2 : Gl X "enumerate") (hm2 : X.mg "enumerate" = none) (ha : PA X [e] ta) (hs : starEach [e] X.env = [(false, eval e X.env)] := by rfl)
    (he : starEach [Expr.Call (.Name "enumerate" p2) [e] [] pos2] X.env = (false, eval (.Call (.Name "enumerate" p2) [e] [] pos2) X.env) :: starEach [] X.env := by rfl) :
    PE X (.Call (.Name "list" p) [.Call (.Name "enumerate" p2) [e] [] pos2] [] pos) (tListEnum X.K ta) := by
  refine ⟨fun pins s σ H Q I h => ?_⟩
  refine wpAny_Call_Name_kw (ld_blt I hg hm (show bootBuiltins "list" = some (.type "list") by decide +kernel) ?_)
  refine PyProof.Rows.callWith_type1 ?_ he rfl
  rw [he]
  show wpAny _ _ (spliced ((false, eval (.Call (.Name "enumerate" p2) [e] [] pos2) X.env) :: backTo pos (starEach [] X.env))) _ _ s
  refine Calls.spliced_cons ?_
  refine Call_ (ld_blt I hg2 hm2 boot_enumerate (PyProof.Rows.callWith_type1 (thn (ha.run pos2 pins s σ H _ I h) fun us s1 ⟨vs, H1, I1, r1, q1⟩ => ?_) hs rfl))
  obtain ⟨a, xs, ex, hq, hxs, q⟩ := q1
  subst ex
  cases r1 with
  | cons r rr =>
    cases rr
    cases r
    obtain ⟨its, rv, p', hz⟩ := I1.list hq
    have hil := rv.length
    have hal : a < s1.heap.objs.size := by obtain ⟨o, q, _⟩ := p'.isList; exact Heap.lt_size q
    refine call_enumerate_list p'.isList fun h' he hit hsz hk => ?_
    refine Calls.spliced_nil ?_
    refine call_list_enum (l := a) (items := its.toArray) (I1.ok.hd hc) ((p'.isList).at fun o q => hk _ _ q) he hit (Nat.succ_ne_self _) (Nat.ne_of_gt (Nat.lt_succ_of_lt hal)) (Nat.ne_of_gt hal) (by rw [List.size_toArray]; omega) fun s' acc c q1 q2 q3 q4 q5 q6 q7 => ?_
    have kp : ∀ b o, s1.heap.get? b = some o → s'.heap.get? b = some o := fun b o e => by
      have hb := Heap.lt_size e
      exact q5 b o (Nat.ne_of_lt (Nat.lt_succ_of_lt hb)) (Nat.ne_of_lt hb) (hk b o e)
    have hsz' : h'.objs.size = s1.heap.objs.size + 2 := hsz
    generalize hSe : h'.objs.size = S at q1 q3 q4 hsz' ⊢
    have lt : ∀ {b : Nat}, b < s1.heap.objs.size → b < S := fun {b} h => by omega
    have old : ∀ b u, H1 b = some u → hpEnum H1 S (S + 1) xs b = some u := fun b u e => (hpE_low (lt (I1.hok.lt e)) (Nat.lt_succ_self S)).trans e
    have hok : HOk X.prog X.w (hpEnum H1 S (S + 1) xs) s'.heap := fun b u e => by
      rcases hpE_cases rfl e with ⟨rfl, rfl⟩ | ⟨j, x, rfl, hx, rfl⟩ | ⟨_, e⟩
      · exact ⟨by rw [List.length_map, List.length_range]; exact Nat.le_trans hxs (by decide), acc.toList, c, vals_range _ acc (by rw [q2, List.size_toArray, hil]) q3, by rw [Array.toArray_toList]; exact q1⟩
      · have hj := (List.getElem?_eq_some_iff.mp hx).1
        obtain ⟨v, hv, rx⟩ := rv.get hx
        obtain ⟨t, y, g1, g2⟩ := q4 j (by rw [List.size_toArray]; omega)
        have : y = v := by
          have : its[j]? = some y := by simpa using g1
          rw [hv] at this
          exact (Option.some.inj this).symm
        subst this
        exact ⟨by show 2 ≤ sizeLine; decide, [.int j t, y], .cons ⟨_, rfl⟩ (.cons rx .nil), ⟨_, g2, rfl, _, rfl⟩⟩
      · exact (I1.hok b u e).stay (fun c v _ q => kp c v q) (fun c q => old _ _ q) fun c xs q => old _ _ q
    have un : Un (frs X.stack) [] H1 (hpEnum H1 S (S + 1) xs) s1.heap s'.heap :=
      ⟨fun b o q _ _ _ => kp b o q, fun b o q _ _ _ => ⟨o.slots, kp b o q⟩, fun b o q n _ => (hpE_low (lt (Heap.lt_size q)) (Nat.lt_succ_self S)).trans n, fun b o q _ => ⟨o, kp b o q⟩, fun b xs q => old _ _ q, fun b o u q => old _ _ q, fun b ps q => ⟨#[], by rw [old _ _ q]; simp⟩⟩
    have I2 : Inv X pins σ (hpEnum H1 S (S + 1) xs) s' := I1.call' (ch := []) q6 un hok (by rw [q7]; exact I1.bare) (fun b hb => by simp at hb)
    have fr : ∀ {b : Nat}, S ≤ b → H1 b = none := fun {b} h => I1.hok.fresh (show s1.heap.objs.size ≤ b by omega)
    exact ⟨.ref S, _, I2, rfl, q S (fun j => S + 1 + j) _ (fun b u e => old b u e) (fr (Nat.le_refl _)) (fun j => fr (by omega)) (hpE_S _ _ _ _) fun j x e => hpE_at (Nat.lt_succ_self S) e⟩
end L2
namespace Tw
open PySem PySem.Spec PyProof.Rows L2
/-! ### the answers for all moments -/
def kds : List Kd := [.first, .between, .last]
theorem noStop0 {K : PySem.W.Frag} : NoStop K E0 := by
  intro cls d H h
  exact h.elim
theorem passE0 {X : Cx} : Passes (L2.CX X.prog X.w) X E0 := fun pins σ H s e s' I c => by
  obtain ⟨a, B, H', cls, d, _, _, _, _, _, _, _, hW⟩ := c
  exact hW.elim
/-- a generator method, with its promise -/
structure GMDf (P : Program) (w : World) (K : PySem.W.Frag) (mg : Str → Option Value) (base : Heap) (C : Addr) (k : Nat) (m : Str) (ps : List Str) (sp : SpG) where
  f : Addr
  fd : FuncData
  ok : GFn P w K mg base k f fd ps sp
  b : Binds K fd ps []
  m : Meth K C m f
theorem hsAt_enum {H : Hp} {ws : List V} {bs : List B} (hB : BsAt H ws bs) {p : Nat → Addr} (h : ∀ j x, ws[j]? = some x → H (p j) = some (.tup [.int (j : Nat), x])) : HsAt H ((List.range ws.length).map fun j => V.ref (p j)) bs := by
  induction hB with
  | nil => exact .nil
  | snoc a b ih =>
    rename_i vs us v t
    rw [List.length_append, List.length_singleton, List.range_succ, List.map_append]
    refine .snoc (ih fun j x e => h j x (by rw [List.getElem?_append_left (List.getElem?_eq_some_iff.mp e).1]; exact e)) (h vs.length v (by simp)) (by rw [a.len]) b
theorem told_ok {b : B} (h : b.lts) (z : b.size ≤ 12) : gd (.tuple [.str "told", b.data]) = true ∧ wt (.tuple [.str "told", b.data]) ≤ 1000000 ∧ (PyData.tuple [.str "told", b.data]).depth ≤ 60 := by
  obtain ⟨a1, a2, a3⟩ := tree_gd b h
  have k1 : gd (.str "told") = true := by decide +kernel
  simp only [gd_t, gd_c, gd_e, wt_tt, wt_tc, wt_te, wt_ts, dp_t, dp_c, dp_e, dp_s, a1, k1, Bool.and_self, Bool.and_true, true_and]
  omega
theorem nov_ok {d : PyData} (g : gd d = true) (w : wt d ≤ 3000) (z : d.depth ≤ 3) : gd (.tuple [.str "NoVersion", d]) = true ∧ wt (.tuple [.str "NoVersion", d]) ≤ 1000000 ∧ (PyData.tuple [.str "NoVersion", d]).depth ≤ 60 := by
  have k1 : gd (.str "NoVersion") = true := by decide +kernel
  simp only [gd_t, gd_c, gd_e, wt_tt, wt_tc, wt_te, wt_ts, dp_t, dp_c, dp_e, dp_s, g, k1, Bool.and_self, Bool.and_true, true_and]
  omega
theorem ansD_ok {ts : List B} {t : B} {d : PyData} (h : ∀ b ∈ ts ++ [t], Tg b) (g : gd d = true) (w : wt d ≤ 3000) (z : d.depth ≤ 3) : gd (ansD (ts ++ [t]) d) = true ∧ wt (ansD (ts ++ [t]) d) ≤ 1000000 ∧ (ansD (ts ++ [t]) d).depth ≤ 60 := by
  by_cases h1 : d = .none
  · subst h1
    rw [ansD_last]
    obtain ⟨a, b, _⟩ := h t (List.mem_append_right _ (List.mem_singleton.mpr rfl))
    exact told_ok a b
  · cases hi : isIx d 0 (((ts ++ [t]).length : Int) - 1) with
    | false =>
      rw [ansD_no h1 hi]
      exact nov_ok g w z
    | true =>
      cases d with
      | int i =>
        have hi : (decide (0 ≤ i) && decide (i ≤ ((ts ++ [t]).length : Int) - 1)) = true := hi
        rw [Bool.and_eq_true, decide_eq_true_eq, decide_eq_true_eq] at hi
        obtain ⟨j, rfl⟩ := Int.eq_ofNat_of_zero_le hi.1
        have hj : j < (ts ++ [t]).length := by omega
        have hg : (ts ++ [t])[j]? = some ((ts ++ [t])[j]) := List.getElem?_eq_getElem hj
        rw [ansD_at hg]
        obtain ⟨a, b, _⟩ := h _ (List.getElem_mem hj)
        exact told_ok a b
      | _ => cases hi
def spRightV (C : Addr) : Sp := fun vs H Q _ => ∃ (sa ad L : Addr) (m : Nat) (ws : List V) (ts : List B) (t : B) (es : List Ed) (n : Nat), vs = [.ref sa, .ref ad, .ref L, .int (m : Int)] ∧ m ≤ 8 ∧ Strm H sa n ∧ n ≤ 800000 ∧ Dk C H ad ts t es false ∧ H L = some (.lst ws) ∧ BsAt H ws (ts ++ [t]) ∧ sa ≠ L ∧ es.length = ts.length ∧ ts.length ≤ 16 ∧ (∀ b ∈ ts ++ [t], Tg b) ∧
  ∀ n' H', But sa H H' → Strm H' sa n' → n' ≤ n + 30 → Q (.bl true) H'
theorem right_ok {t : B} {bs : List B} {k : Nat} (hk : k ≤ 60) (ht : Tg t) (h : ∀ b ∈ bs, Tg b) (hl : bs.length ≤ 20) : gd (.tuple [.int (k : Int), .int (t.size : Int), .tuple [.str (tx (t.wk .first)), .str (tx (t.wk .between)), .str (tx (t.wk .last))], .list (hsD bs), t.data]) = true ∧
    wt (.tuple [.int (k : Int), .int (t.size : Int), .tuple [.str (tx (t.wk .first)), .str (tx (t.wk .between)), .str (tx (t.wk .last))], .list (hsD bs), t.data]) ≤ 1000000 ∧ (PyData.tuple [.int (k : Int), .int (t.size : Int), .tuple [.str (tx (t.wk .first)), .str (tx (t.wk .between)), .str (tx (t.wk .last))], .list (hsD bs), t.data]).depth ≤ 60 := by
  obtain ⟨h1, h2, _⟩ := ht
  obtain ⟨a1, a2, a3⟩ := tree_gd t h1
  have w : ∀ k : Kd, gd (.str (tx (t.wk k))) = true := fun k => gd_tx (by rw [t.wk_len]; exact h2) (wk_low h1 k)
  have hk' : ∀ d ∈ hsD bs, gd d = true ∧ wt d ≤ 12000 ∧ d.depth ≤ 15 := fun d hd => by
    obtain ⟨x, hx, rfl⟩ := List.mem_map.mp hd
    obtain ⟨b, i⟩ := x
    have hb : b ∈ bs := by
      have := List.mem_map_of_mem (f := Prod.fst) hx
      rw [List.zipIdx_map_fst] at this
      exact this
    have hi : i < bs.length := by
      have := List.mem_zipIdx hx
      omega
    obtain ⟨h1, h2, _⟩ := h b hb
    obtain ⟨a1, a2, a3⟩ := tree_gd b h1
    show gd (.tuple [.int (i : Int), b.data]) = true ∧ wt (.tuple [.int (i : Int), b.data]) ≤ _ ∧ (PyData.tuple [.int (i : Int), b.data]).depth ≤ _
    simp only [gd_t, gd_c, gd_e, wt_tt, wt_tc, wt_te, wt_ii, dp_t, dp_c, dp_e, dp_i, a1, gd_n (show i < 64 by omega), Bool.and_self, Bool.and_true, true_and]
    omega
  obtain ⟨r1, r2, r3⟩ := all_gd hk'
  have hl2 : (hsD bs).length = bs.length := by unfold hsD; rw [List.length_map, List.length_zipIdx]
  have := Nat.mul_le_mul_left (12000 + 2) (show (hsD bs).length ≤ 20 by omega)
  simp only [gd_t, gd_c, gd_e, gd_l, wt_tt, wt_tc, wt_te, wt_ts, wt_ii, wt_l, dp_t, dp_c, dp_e, dp_s, dp_i, dp_l, a1, r1, w, gd_n (show k < 64 by omega), gd_n (show t.size < 64 by omega), Bool.and_self, Bool.and_true, true_and]
  omega
section
variable {P : Program} {w : World} {K : PySem.W.Frag} {mg : Str → Option Value} {base : Heap} {f : Addr} {fd : FuncData} {C : Addr}
theorem ok_rightV {ft : Addr} {fdt : FuncData} {dn : List Value} (F : Fun K "_law_right" "_law_right" s__law_right f fd) (M : Mgs mg) (mEn : mg "enumerate" = none) (TD : DeskC K mg C) (D_law_equal : DfG P w K mg base 1 "_law_equal" ["_law_one", "_law_other"] spEqualQ) (D_law_take : Df P w K mg base 1 "_law_take" ["_law_stream_here", "_law_many"] spTake1) (D_law_odd : Df P w K mg base 2 "_law_odd" ["_law_stream_here"] spOdd)
    (D_law_answer : Df P w K mg base 4 "_law_answer" ["_law_desk", "_law_moment"] (spAnswer C)) (D_law_due_answer : Df P w K mg base 2 "_law_due_answer" ["_law_states", "_law_moment"] spDueAns) (D_law_labels : Df P w K mg base 20 "_law_labels" ["_law_tree_here", "_law_kind"] (spLabs 20))
    (Pver : PDf P w K mg base C 1 "version" (spVer C)) (Psize : PDf P w K mg base C 21 "size" (spSizeP C)) (Pfirst : PDf P w K mg base C 63 "first" (spWalkP C .first)) (Pbetw : PDf P w K mg base C 63 "between" (spWalkP C .between)) (Plast : PDf P w K mg base C 63 "last" (spWalkP C .last))
    (MH : GMDf P w K mg base C 1 "history" ["self"] (spHist C)) (MT : Meth K C "tree" ft) (Ft : FnOk P w K mg base CX0 1 ft fdt ["self", "version"] (spTreeM C)) (bt : Binds K fdt ["self", "version"] dn) (vt : Vals [.non] dn) :
    FnOkG P w K mg base 67 f fd ["_law_stream_here", "_law_desk", "_law_states", "_law_many"] (spRightV C) := by
  refine fnG F (k := 66) sc__law_right (fun vs H Q E h => ?_) (fun cdv A outer s H vs Q E gs hr h => ?_)
  · obtain ⟨sa, ad, L, m, ws, ts, t, es, n, rfl, _⟩ := h
    rfl
  obtain ⟨sa, ad, L, m, ws, ts, t, es, n, rfl, hm, st, hn, dk, eL, hB, ne, hel, htl, tg, q⟩ := h
  refine ⟨_, (pss_cons (ps_for PassesOwn.never rfl (pi_range1 rfl M.range (pa_cons (pv 3) pa_nil)) (pg_name (i := 4) sc__law_right.nd rfl (.inl rfl))
      (pss_cons (ps_set (i := 5) sc__law_right.nd rfl (.inl rfl) (pe_ix ix_list (pe_lst (pa_cons pe_non (pa_cons (pe_call D_law_take.ok (hr.mono (by omega)) rfl D_law_take.g D_law_take.kp D_law_take.b .nil pass0 (pa_cons (pv 0) (pa_cons (pe_callB call_len_seq rfl M.len PySem.boot_len (pa_cons (pv 2) pa_nil)) pa_nil))) (pa_cons (pe_call D_law_odd.ok (hr.mono (by omega)) rfl D_law_odd.g D_law_odd.kp D_law_odd.b .nil pass0 (pa_cons (pv 0) pa_nil)) (pa_cons (pe_callB call_len_seq rfl M.len PySem.boot_len (pa_cons (pv 2) pa_nil)) pa_nil))))) (pe_call D_law_take.ok (hr.mono (by omega)) rfl D_law_take.g D_law_take.kp D_law_take.b .nil pass0 (pa_cons (pv 0) (pa_cons pe_int pa_nil))) (fun _ _ => rfl)))
    (pss_one (ps_if (pt_not (pt_val (pe_callG D_law_equal.ok gs (hr.mono (by omega)) rfl D_law_equal.g D_law_equal.kp D_law_equal.b (pa_cons (pe_call D_law_answer.ok (hr.mono (by omega)) rfl D_law_answer.g D_law_answer.kp D_law_answer.b .nil pass0 (pa_cons (pv 1) (pa_cons (pv 5) pa_nil))) (pa_cons (pe_call D_law_due_answer.ok (hr.mono (by omega)) rfl D_law_due_answer.g D_law_due_answer.kp D_law_due_answer.b .nil pass0 (pa_cons (pv 2) (pa_cons (pv 5) pa_nil))) pa_nil)))))
      (pss_one (ps_ret pe_bl)) pss_nil))))
    (pss_cons (ps_set (i := 7) sc__law_right.nd rfl (.inl rfl) (pe_callTy call_tuple_of rfl M.tuple (by decide +kernel) (pa_cons (pe_lc (own := [("_law_kind", 6)]) (g := gName 6) (tt := tYes) rfl sc__law_right.nd (pi_range1 rfl M.range (pa_cons pe_int pa_nil)) (blkOk_by (N := ["_law_stream_here", "_law_desk", "_law_states", "_law_many", "_law_again", "_law_moment", "_law_kind", "_law_walked", "_law_found"]) (sc := defScope s__law_right) (by decide +kernel)) (fun _ _ _ _ _ => (pg_name (i := 6) sc__law_right.nd rfl (.inl rfl))) (fun _ _ _ _ _ => pts_nil) (fun _ _ _ _ _ => (pe_call D_law_labels.ok (hr.mono (by omega)) rfl D_law_labels.g D_law_labels.kp D_law_labels.b .nil pass0 (pa_cons (pe_ix (show IxR _ (rIxL K) from ix_list) (pv 2) (pe_un un_neg pe_int) (fun _ _ => rfl)) (pa_cons (pv 6) pa_nil))))) pa_nil)))
    (pss_cons (ps_set (i := 8) sc__law_right.nd rfl (.inl rfl) (pe_tup (pa_cons (pe_prop (pv 1) TD.cl Pver.pr Pver.ok (hr.mono (by omega)) Pver.b .nil (E := E0) (fun _ _ _ _ _ _ _ h => h.elim) rfl) (pa_cons (pe_prop (pv 1) TD.cl Psize.pr Psize.ok (hr.mono (by omega)) Psize.b .nil (E := E0) (fun _ _ _ _ _ _ _ h => h.elim) rfl) (pa_cons (pe_tup (pa_cons (pe_prop (pv 1) TD.cl Pfirst.pr Pfirst.ok (hr.mono (by omega)) Pfirst.b .nil (E := E0) (fun _ _ _ _ _ _ _ h => h.elim) rfl) (pa_cons (pe_prop (pv 1) TD.cl Pbetw.pr Pbetw.ok (hr.mono (by omega)) Pbetw.b .nil (E := E0) (fun _ _ _ _ _ _ _ h => h.elim) rfl) (pa_cons (pe_prop (pv 1) TD.cl Plast.pr Plast.ok (hr.mono (by omega)) Plast.b .nil (E := E0) (fun _ _ _ _ _ _ _ h => h.elim) rfl) pa_nil)))) (pa_cons (pe_listG (pgen_meth0 (pv 1) TD.cl MH.m MH.ok (hr.mono (by omega)) MH.b .nil) passE0 noStop0 (hr.mono (by omega)) rfl M.list (by decide +kernel)) (pa_cons (pe_meth0 (pv 1) TD.cl MT Ft (hr.mono (by omega)) bt vt pass0) pa_nil)))))))
    (pss_one (ps_ret (pe_callG D_law_equal.ok gs (hr.mono (by omega)) rfl D_law_equal.g D_law_equal.kp D_law_equal.b (pa_cons (pv 8) (pa_cons (pe_tup (pa_cons (pe_op op_sub (pe_callB call_len_seq rfl M.len PySem.boot_len (pa_cons (pv 2) pa_nil)) pe_int) (pa_cons (pe_callB call_len_str rfl M.len PySem.boot_len (pa_cons (pe_ix ix_tup (pv 7) pe_int (fun _ _ => rfl)) pa_nil)) (pa_cons (pv 7) (pa_cons (pe_listEnum rfl rfl M.list rfl mEn (pa_cons (pv 2) pa_nil)) (pa_cons (pe_ix ix_list (pv 2) (pe_un un_neg pe_int) (fun _ _ => rfl)) pa_nil)))))) pa_nil)))))))), ?_⟩
  obtain ⟨xs0, es0⟩ := st.lst
  have wl : ws.length = ts.length + 1 := by rw [hB.len, List.length_append]; rfl
  refine ⟨_, rfl, (m : Int), rfl, by omega, by omega, ?_⟩
  refine for_range (lo := 0) (n := m) (fun i σ H' => ∃ (y4 y5 y6 y7 y8 : Option V) (n' : Nat), σ = [some (.ref sa), some (.ref ad), some (.ref L), some (.int (m : Int)), y4, y5, y6, y7, y8] ∧ Strm H' sa n' ∧ n' ≤ n + 3 * i ∧ But sa H H') ⟨none, none, none, none, none, n, rfl, st, by omega, But.refl _ _⟩ (fun i σ H1 hi hp => ?_) (fun σ H1 hp => ?_)
  · obtain ⟨y4, y5, y6, y7, y8, n1, rfl, st1, hn1, bu1⟩ := hp
    have eL1 := bu1 _ _ ne.symm eL
    refine ⟨_, rfl, _, rfl, L, ws, rfl, .inl (SqL.of eL1), sa, n1, (ws.length : Int), rfl, st1, by omega, by omega, by omega, fun i2 n2 H2 l2 st2 hn2 bu2 => ?_⟩
    refine ⟨_, rfl, sa, n2, One sa, rfl, st2, by omega, st2.deck.1, rfl, fun v d n3 H3 gdv st3 hn3 dk3 bu3 => ?_⟩
    have bu13 := bu1.trans (bu2.trans bu3)
    have eL3 := bu13 _ _ ne.symm eL
    refine ⟨_, rfl, L, ws, rfl, .inl (SqL.of eL3), (by show 4 ≤ sizeLine; decide), fun p np => ?_⟩
    have k4 := same_new np (.lst [.non, .int (i2 : Int), v, .int (ws.length : Int)])
    have e4 := upd_same (H := H3) (a := p) (o := .lst [.non, .int (i2 : Int), v, .int (ws.length : Int)])
    have st4 := st3.same k4
    have gv4 := dq_same k4 gdv.1
    have nps : p ≠ sa := fun z => by obtain ⟨xs, e⟩ := st3.lst; rw [← z, np] at e; cases e
    have bu4 := bu13.trans (But.of k4)
    generalize upd H3 p (.lst [.non, .int (i2 : Int), v, .int (ws.length : Int)]) = H4 at k4 e4 st4 gv4 bu4 ⊢
    refine ⟨_, rfl, sa, n3, 4, rfl, st4, by omega, by decide, by decide, fun j n5 H5 l5 st5 hn5 bu5 => ?_⟩
    have e5 := bu5 _ _ nps e4
    have gv5 := dq_sameD (bu5.sameD (D := One sa) rfl) gv4
    have bu := bu4.trans bu5
    have eL5 := bu _ _ ne.symm eL
    have dk5 := dk.apart bu es0
    have hB5 := hB.keep (But.keepL es0 bu)
    have hw : ∃ w d, ([V.non, .int (i2 : Int), v, .int (ws.length : Int)] : List V)[j]? = some w ∧ Gd (One sa) H5 3000 3 w d := by
      match j, l5 with
      | 0, _ => exact ⟨_, .none, rfl, .non, rfl, by decide, Nat.zero_le _⟩
      | 1, _ => exact ⟨_, .int (i2 : Int), rfl, .int _, gd_n (by omega), by rw [wt_ii]; decide, by rw [dp_i]; decide⟩
      | 2, _ => exact ⟨_, d, rfl, gv5, gdv.2⟩
      | 3, _ => exact ⟨_, .int (ws.length : Int), rfl, .int _, gd_n (by omega), by rw [wt_ii]; decide, by rw [dp_i]; decide⟩
    obtain ⟨w, d', hw, gw⟩ := hw
    refine ⟨p, _, _, w, rfl, rfl, SqL.of e5, atI_nat hw, ?_⟩
    refine ⟨_, rfl, _, rfl, ad, ts, t, es, w, One sa, d', rfl, dk5, gw.1, fun p6 H6 s6 g6 => ?_⟩
    refine ⟨_, rfl, _, rfl, L, ws, ts, t, w, One sa, d', rfl, s6 _ _ eL5, hB5.keep (Tw.Same.keepT s6), dq_same s6 gw.1, fun p7 H7 s7 g7 => ?_⟩
    have st6 := st5.same s6
    have st7 := st6.same s7
    have nT : ∀ {H' : Hp} {n' : Nat}, Strm H' sa n' → NoT (One sa) H' := fun {H' n'} st' b z => by
      obtain ⟨xs, e⟩ := st'.lst
      exact ⟨_, by rw [show b = sa from z]; exact e, fun ys h => by cases h⟩
    obtain ⟨m1, m2, m3⟩ := ansD_ok tg gw.2.1 gw.2.2.1 gw.2.2.2
    exact ⟨_, _, One sa, _, rfl, dq_same s7 (g6 (nT st6)), g7 (nT st7), m1, m2, m3, true, rfl, iteF ⟨_, _, _, _, _, n5, rfl, st7, by omega, bu.trans (But.of (s6.trans s7))⟩⟩
  · obtain ⟨y4, y5, y6, y7, y8, n1, rfl, st1, hn1, bu1⟩ := hp
    have eL1 := bu1 _ _ ne.symm eL
    have dk1 := dk.apart bu1 es0
    have hB1 := hB.keep (But.keepL es0 bu1)
    have hT := tg t (List.mem_append_right _ (List.mem_singleton.mpr rfl))
    obtain ⟨ws0, w0, rfl, hB0, b0⟩ := hB1.unsnoc rfl
    clear dk hB eL
    refine ⟨3, rfl, by decide, by decide, fun D nD => ?_⟩
    have k1 := same_new nD (.lst [])
    refine lc_range (lo := 0) (n := 3) (fun i H' => Same H1 H' ∧ H' D = some (.lst ((kds.take i).map fun k => V.str (tx (t.wk k))))) ⟨k1, upd_same⟩ (fun i H' hi hp => ?_) (fun H' hp => ?_)
    · obtain ⟨sm, eD⟩ := hp
      obtain ⟨k, hk, hg⟩ : ∃ k : Kd, (0 + (i : Int)) = k.num ∧ kds[i]? = some k := by
        match i, hi with
        | 0, _ => exact ⟨.first, rfl, rfl⟩
        | 1, _ => exact ⟨.between, rfl, rfl⟩
        | 2, _ => exact ⟨.last, rfl, rfl⟩
      have hl : (kds.take i).length ≤ 3 := by rw [List.length_take]; exact Nat.min_le_right _ _
      refine ⟨rfl, kept ?_⟩
      refine ⟨_, rfl, 1, rfl, L, _, -1, w0, rfl, rfl, SqL.of (sm _ _ eL1), atI_last _ _, ?_⟩
      refine ⟨_, rfl, w0, t, k, (by rw [← hk]; rfl), b0.same sm, by have := hT.2.1; omega, by have := hT.2.1; omega, fun H1 s1 => ?_⟩
      refine ⟨_, s1 _ _ eD, by rw [List.length_map]; exact small1000 (by omega), fun b o e => ?_, ?_⟩
      · rw [upd_ne (ne_of_none e nD)]
        exact s1 _ _ (sm _ _ e)
      · rw [upd_same, take_next hg, List.map_append]
        rfl
    · obtain ⟨sm, eD⟩ := hp
      have eD : H' D = some (.lst [.str (tx (t.wk .first)), .str (tx (t.wk .between)), .str (tx (t.wk .last))]) := eD
      refine ⟨D, _, rfl, .inl ⟨SqL.of eD, fun vp nvp => ?_⟩⟩
      have k4 := same_new nvp (.tup [.str (tx (t.wk .first)), .str (tx (t.wk .between)), .str (tx (t.wk .last))])
      have ev := upd_same (H := H') (a := vp) (o := .tup [.str (tx (t.wk .first)), .str (tx (t.wk .between)), .str (tx (t.wk .last))])
      have s4 := sm.trans k4
      generalize upd H' vp (.tup [.str (tx (t.wk .first)), .str (tx (t.wk .between)), .str (tx (t.wk .last))]) = H4 at ev s4 ⊢
      have dk4 := dk1.same s4
      obtain ⟨dx, ta, td, vs, u, ds, h1, _⟩ := id dk4
      have hz : t.size ≤ 12 := hT.2.1
      refine ⟨_, rfl, ad, dx, _, rfl, h1, ad, ts, t, es, false, rfl, dk4, by omega, _, rfl, ad, dx, _, rfl, h1, ad, ts, t, es, false, rfl, dk4, hz, _, rfl, ad, dx, _, rfl, h1, ad, ts, t, es, false, rfl, dk4, hz, fun H5 s5 => ?_⟩
      refine ⟨_, rfl, ad, dx, _, rfl, s5 _ _ h1, ad, ts, t, es, false, rfl, dk4.same s5, hz, fun H6 s6 => ?_⟩
      have s56 := s5.trans s6
      refine ⟨_, rfl, ad, dx, _, rfl, s56 _ _ h1, ad, ts, t, es, false, rfl, dk4.same s56, hz, fun H7 s7 => ⟨(by show 3 ≤ sizeLine; decide), fun fp nfp => ?_⟩⟩
      have k8 := same_new nfp (.tup [.str (tx (t.wk .first)), .str (tx (t.wk .between)), .str (tx (t.wk .last))])
      have ef := upd_same (H := H7) (a := fp) (o := .tup [.str (tx (t.wk .first)), .str (tx (t.wk .between)), .str (tx (t.wk .last))])
      have s48 := s56.trans (s7.trans k8)
      generalize upd H7 fp (.tup [.str (tx (t.wk .first)), .str (tx (t.wk .between)), .str (tx (t.wk .last))]) = H8 at ef s48 ⊢
      have dk8 := dk4.same s48
      have g1 := s48 _ _ h1
      have nl : ∀ {m : Str} (vt vd vb : V), (m == ("trees" : Str)) = false → (m == ("done" : Str)) = false → (m == ("busy" : Str)) = false → (deskF vt vd vb).lookup m = none := no_look
      refine ⟨_, rfl, ad, dx, _, rfl, g1, nl _ _ _ (by decide +kernel) (by decide +kernel) (by decide +kernel), ad, ts, t, es, rfl, dk8, by omega, fun ys H9 s9 hh S nS => ?_⟩
      have k9 := same_new nS (.lst ys)
      have eS := upd_same (H := H9) (a := S) (o := .lst ys)
      have s89 := s9.trans k9
      have hh := hh.same k9
      have nT : ∀ {H' : Hp} {n' : Nat}, Strm H' sa n' → NoT (One sa) H' := fun {H' n'} st' b z => by
        obtain ⟨xs, e⟩ := st'.lst
        exact ⟨_, by rw [show b = sa from z]; exact e, fun ys h => by cases h⟩
      have oS : Off (One sa) S := (nT (st1.same (s4.trans (s48.trans s9)))).new nS
      generalize upd H9 S (.lst ys) = HA at k9 eS s89 hh ⊢
      refine ⟨_, rfl, ad, dx, _, rfl, s89 _ _ g1, nl _ _ _ (by decide +kernel) (by decide +kernel) (by decide +kernel), ad, ts, t, es, false, rfl, dk8.same s89, fun v hv => ⟨(by show 5 ≤ sizeLine; decide), fun qp nqp => ?_⟩⟩
      have kB := same_new nqp (.tup [.int (es.length : Int), .int (t.size : Int), .ref fp, .ref S, v])
      have eB := upd_same (H := HA) (a := qp) (o := .tup [.int (es.length : Int), .int (t.size : Int), .ref fp, .ref S, v])
      have hvB := hv.same kB
      have hhB := hh.same kB
      have eSB := kB _ _ eS
      have efB := kB _ _ (s89 _ _ ef)
      have sB := (s4.trans (s48.trans s89)).trans kB
      have evB := kB _ _ (s89 _ _ (s48 _ _ ev))
      generalize upd HA qp (.tup [.int (es.length : Int), .int (t.size : Int), .ref fp, .ref S, v]) = HB at eB hvB hhB eSB efB evB sB ⊢
      have eLB := sB _ _ eL1
      have hBB := hB1.keep (Tw.Same.keepT sB)
      have b0B := b0.same sB
      refine ⟨_, rfl, _, rfl, L, _, rfl, .inl (SqL.of eLB), _, _, rfl, rfl, ?_⟩
      refine ⟨_, rfl, vp, _, 0, _, rfl, rfl, SqT.of evB, atI_nat (j := 0) rfl, _, rfl, small (by rw [tx_len, t.wk_len]; omega), ?_⟩
      refine ⟨_, rfl, _, rfl, L, _, rfl, SqL.of eLB, by omega, fun S2 p2 HC sC nS2 np2 eS2 eP2 => ?_⟩
      have hE := hsAt_enum (hBB.keep (Tw.Same.keepT sC)) eP2
      refine ⟨_, rfl, 1, rfl, L, _, -1, w0, rfl, rfl, SqL.of (sC _ _ eLB), atI_last _ _, (by show 5 ≤ sizeLine; decide), fun rp nrp => ?_⟩
      have e1 : (((ws0 ++ [w0]).length : Int) - 1) = (es.length : Int) := by omega
      rw [tx_len, t.wk_len]
      dsimp only
      rw [e1]
      have kD := same_new nrp (.tup [.int (es.length : Int), .int (t.size : Int), .ref vp, .ref S2, w0])
      have eD2 := upd_same (H := HC) (a := rp) (o := .tup [.int (es.length : Int), .int (t.size : Int), .ref vp, .ref S2, w0])
      have stD := st1.same (sB.trans (sC.trans kD))
      have sCD := sC.trans kD
      have nn := nT stD
      have oS2 : Off (One sa) S2 := (nT (st1.same sB)).new nS2
      obtain ⟨m1, m2, m3⟩ := right_ok (k := es.length) (t := t) (bs := ts ++ [t]) (by omega) hT tg (by rw [List.length_append]; show ts.length + 1 ≤ 20; omega)
      refine ⟨_, _, One sa, _, rfl, .tup (nn.tup (Same.refl _) (sCD _ _ eB)) (sCD _ _ eB) (.cons (.int _) (.cons (.int _) (.cons (.tup (nn.tup (Same.refl _) (sCD _ _ efB)) (sCD _ _ efB) (.cons (.str _) (.cons (.str _) (.cons (.str _) .nil)))) (.cons (.lst oS (sCD _ _ eSB) ((hhB.same sCD).dq nn)) (.cons (nn.dq (hvB.same sCD)) .nil))))),
        .tup (nn.tup (Same.refl _) eD2) eD2 (.cons (.int _) (.cons (.int _) (.cons (.tup (nn.tup (Same.refl _) (sCD _ _ evB)) (sCD _ _ evB) (.cons (.str _) (.cons (.str _) (.cons (.str _) .nil)))) (.cons (.lst oS2 (kD _ _ eS2) ((hE.same kD).dq nn)) (.cons (nn.dq (b0B.same sCD)) .nil))))), m1, m2, m3, ?_⟩
      exact q n1 _ (bu1.trans (But.of (sB.trans sCD))) stD (by omega)
end
/-! ### the law -/
theorem rd_same {H H' : Hp} {a : Addr} {u : HO} (k : Same H H') (h : Rd H a u) : Rd H' a u := by
  rcases h with h | ⟨o, h⟩
  · exact .inl (k _ _ h)
  · exact .inr ⟨o, k _ _ h⟩
theorem sqL_same {K : PySem.W.Frag} {H H' : Hp} {a : Addr} {xs : List V} (k : Same H H') (h : SqL K H a xs) : SqL K H' a xs := h.imp (rd_same k) id
theorem same_but {Hs H H' : Hp} {a : Addr} (s : Same Hs H) (n : Hs a = none) (b : But a H H') : Same Hs H' := fun x o e => b x o (ne_of_none e n) (s x o e)
/-- what the law keeps: the desk, the stream, the list of the trees -/
structure StV (C : Addr) (H : Hp) (sa ad L : Addr) (ts : List B) (t : B) (es : List Ed) (n : Nat) : Prop where
  dk : Dk C H ad ts t es false
  st : Strm H sa n
  ne : sa ≠ L
  ls : ∃ ws, H L = some (.lst ws) ∧ BsAt H ws (ts ++ [t])
  le : es.length = ts.length
  tg : ∀ b ∈ ts ++ [t], Tg b
theorem StV.same {C sa ad L : Addr} {H H' : Hp} {ts : List B} {t : B} {es : List Ed} {n : Nat} (s : StV C H sa ad L ts t es n) (k : Same H H') : StV C H' sa ad L ts t es n := by
  obtain ⟨ws, e, b⟩ := s.ls
  exact ⟨s.dk.same k, s.st.same k, s.ne, ⟨ws, k _ _ e, b.keep (Tw.Same.keepT k)⟩, s.le, s.tg⟩
theorem StV.strm {C sa ad L : Addr} {H H' : Hp} {ts : List B} {t : B} {es : List Ed} {n n' : Nat} (s : StV C H sa ad L ts t es n) (k : But sa H H') (st : Strm H' sa n') : StV C H' sa ad L ts t es n' := by
  obtain ⟨ws, e, b⟩ := s.ls
  obtain ⟨xs, ex⟩ := s.st.lst
  exact ⟨s.dk.apart k ex, st, s.ne, ⟨ws, k _ _ s.ne.symm e, b.keep (But.keepL ex k)⟩, s.le, s.tg⟩
theorem StV.keepS {C sa ad L : Addr} {H H' : Hp} {ts : List B} {t : B} {es : List Ed} {n : Nat} (s : StV C H sa ad L ts t es n) (k : But sa H H') : KeepT H H' := by
  obtain ⟨xs, ex⟩ := s.st.lst
  exact But.keepL ex k
theorem nT1 {H : Hp} {sa : Addr} {n : Nat} (st : Strm H sa n) : NoT (One sa) H := fun b z => by
  obtain ⟨xs, e⟩ := st.lst
  exact ⟨_, by rw [show b = sa from z]; exact e, fun ys h => by cases h⟩
theorem unT {bs : List B} {ts : List B} {t u : B} (h : ts ++ [t] = bs ++ [u]) : ts = bs ∧ t = u := app1 h
/-- values that are no versions -/
def noVs (n : Nat) : List PyData := [.int (n : Int), .int (-1), .bool true, .bool false, .str "0", .tuple [], .list [], .dict [], .tuple [.int 0], .int ((10 : Int) ^ Int.toNat 29)]
theorem noVs_ok {n : Nat} (h : n ≤ 50) : ∀ d ∈ noVs n, gd d = true ∧ wt d ≤ 3000 ∧ d.depth ≤ 3 ∧ d ≠ .none ∧ isIx d 0 ((n : Int) - 1) = false := by
  have e29 : ((10 : Int) ^ Int.toNat 29) = 100000000000000000000000000000 := by decide +kernel
  intro d hd
  simp only [noVs, List.mem_cons, List.not_mem_nil, or_false] at hd
  rcases hd with rfl | rfl | rfl | rfl | rfl | rfl | rfl | rfl | rfl | rfl
  · refine ⟨gd_n (by omega), by rw [wt_ii]; decide, by rw [dp_i]; decide, (fun z => nomatch z), ?_⟩
    show (decide ((0 : Int) ≤ (n : Int)) && decide ((n : Int) ≤ (n : Int) - 1)) = false
    rw [decide_eq_false (show ¬ ((n : Int) ≤ (n : Int) - 1) by omega), Bool.and_false]
  · exact ⟨by decide +kernel, by decide +kernel, by decide +kernel, (fun z => nomatch z), rfl⟩
  · exact ⟨by decide +kernel, by decide +kernel, by decide +kernel, (fun z => nomatch z), rfl⟩
  · exact ⟨by decide +kernel, by decide +kernel, by decide +kernel, (fun z => nomatch z), rfl⟩
  · exact ⟨by decide +kernel, by decide +kernel, by decide +kernel, (fun z => nomatch z), rfl⟩
  · exact ⟨by decide +kernel, by decide +kernel, by decide +kernel, (fun z => nomatch z), rfl⟩
  · exact ⟨by decide +kernel, by decide +kernel, by decide +kernel, (fun z => nomatch z), rfl⟩
  · exact ⟨by decide +kernel, by decide +kernel, by decide +kernel, (fun z => nomatch z), rfl⟩
  · exact ⟨by decide +kernel, by decide +kernel, by decide +kernel, (fun z => nomatch z), rfl⟩
  · refine ⟨by decide +kernel, by decide +kernel, by decide +kernel, (fun z => nomatch z), ?_⟩
    show (decide ((0 : Int) ≤ (10 : Int) ^ Int.toNat 29) && decide ((10 : Int) ^ Int.toNat 29 ≤ (n : Int) - 1)) = false
    rw [e29, decide_eq_false (show ¬ ((100000000000000000000000000000 : Int) ≤ (n : Int) - 1) by omega), Bool.and_false]
section
variable {P : Program} {w : World} {K : PySem.W.Frag} {mg : Str → Option Value} {base : Heap} {f : Addr} {fd : FuncData} {C : Addr}
theorem run_law {s : Shared} {H : Hp} {a fi fv : Addr} {ns : List Int} {fdi fdv : FuncData} {dvv : List Value} (F : Fun K "law" "law" s_law f fd) (bd : BindsTo s fd ⟨[.ref a], []⟩ [("_law_script", .ref a)]) (en : Env0 P w K mg base callerA [] s H) (hS : SqL K H a (ns.map V.int))
    (M : Mgs mg) (TD : DeskC K mg C) (D_law_stream : Df P w K mg base 1 "_law_stream" ["_law_script", "_law_turn"] (spStream K)) (D_law_tree : Df P w K mg base 22 "_law_tree" ["_law_stream_here", "_law_top"] spTreeL) (MK : Mk K C fi) (Fi : FnOk P w K mg base CX0 4 fi fdi ["self", "tree"] (spInitD C)) (bi : Binds K fdi ["self", "tree"] [])
    (D_law_equal : DfG P w K mg base 1 "_law_equal" ["_law_one", "_law_other"] spEqualQ) (D_law_take : Df P w K mg base 1 "_law_take" ["_law_stream_here", "_law_many"] spTake1) (Dundo : MDf P w K mg base C 2 "undo" ["self"] (spUndo C)) (D_law_due : Df P w K mg base 22 "_law_due" ["_law_tree_here", "_law_edit"] spDueL) (D_law_do : Df P w K mg base 27 "_law_do" ["_law_desk", "_law_edit"] (spCalled C))
    (D_law_answer : Df P w K mg base 4 "_law_answer" ["_law_desk", "_law_moment"] (spAnswer C)) (D_law_right : DfG P w K mg base 67 "_law_right" ["_law_stream_here", "_law_desk", "_law_states", "_law_many"] (spRightV C))
    (Fv : FnOk P w K mg base CX0 23 fv fdv ["_law_stream_here", "_law_tree_here", "_law_top"] spValid) (gv : mg "_law_valid_edit" = some (.ref fv)) (kv : PySem.W.keepIn K (.ref fv) = true) (bv : Binds K fdv ["_law_stream_here", "_law_tree_here", "_law_top"] dvv) (vv : Vals [.int 13] dvv) :
    codeAny (model P w) callerA (.call (.ref f) ⟨[.ref a], []⟩) (CR CX0 [] P w H s (fun v _ => v = .bl true) fun _ _ _ => False) s := by
  refine enter_def (k := 68) (vs := [.ref a]) (us := [.ref a]) F sc_law ⟨rfl, by decide, by decide⟩ en bd (.cons rfl .nil) rfl fun cdv hr => ?_
  refine ⟨_, (pss_cons (ps_for PassesOwn.never rfl (pi_range1 rfl M.range (pa_cons pe_int pa_nil)) (pg_name (i := 1) sc_law.nd rfl (.inl rfl))
      (pss_cons (ps_set (i := 2) sc_law.nd rfl (.inl rfl) (pe_call D_law_stream.ok (hr.mono (by omega)) rfl D_law_stream.g D_law_stream.kp D_law_stream.b .nil pass0 (pa_cons (pv 0) (pa_cons (pv 1) pa_nil))))
    (pss_cons (ps_set (i := 3) sc_law.nd rfl (.inl rfl) (pe_lst (pa_cons (pe_call D_law_tree.ok (hr.mono (by omega)) rfl D_law_tree.g D_law_tree.kp D_law_tree.b .nil pass0 (pa_cons (pv 2) (pa_cons pe_int pa_nil))) pa_nil)))
    (pss_cons (ps_set (i := 4) sc_law.nd rfl (.inl rfl) (pe_make MK Fi (hr.mono (by omega)) rfl TD.g bi .nil pass0 (pa_cons (pe_ix ix_list (pv 3) pe_int (fun _ _ => rfl)) pa_nil)))
    (pss_cons (ps_for PassesOwn.never rfl (pi_range1 rfl M.range (pa_cons (pe_call D_law_take.ok (hr.mono (by omega)) rfl D_law_take.g D_law_take.kp D_law_take.b .nil pass0 (pa_cons (pv 2) (pa_cons pe_int pa_nil))) pa_nil)) (pg_name (i := 5) sc_law.nd rfl (.inl rfl))
      (pss_cons (ps_if (PW.pt (pw_and (pt_cmpR op_gt (pe_callB call_len_seq rfl M.len PySem.boot_len (pa_cons (pv 3) pa_nil)) pe_int (nomark _)) (pw_and1 (pt_cmpR op_eq (pe_call D_law_take.ok (hr.mono (by omega)) rfl D_law_take.g D_law_take.kp D_law_take.b .nil pass0 (pa_cons (pv 2) (pa_cons pe_int pa_nil))) pe_int (nomark _)))))
      (pss_cons (ps_expr (pe_bm0 PySem.F.plainAttrs_list PySem.F.slot_list_pop PySem.F.type_list_pop mt_pop (pv 3)))
    (pss_one (ps_if (pt_not (pt_val (pe_callG D_law_equal.ok rfl (hr.mono (by omega)) rfl D_law_equal.g D_law_equal.kp D_law_equal.b (pa_cons (pe_meth0 (pv 4) TD.cl Dundo.at_ Dundo.ok (hr.mono (by omega)) Dundo.b .nil pass0) (pa_cons (pe_op op_sub (pe_callB call_len_seq rfl M.len PySem.boot_len (pa_cons (pv 3) pa_nil)) pe_int) pa_nil)))))
      (pss_one (ps_ret pe_bl)) pss_nil))) (pss_cons (ps_set (i := 6) sc_law.nd rfl (.inl rfl) (pe_call Fv (hr.mono (by omega)) rfl gv kv bv vv pass0 (pa_cons (pv 2) (pa_cons (pe_ix ix_list (pv 3) (pe_un un_neg pe_int) (fun _ _ => rfl)) pa_nil))))
    (pss_cons (ps_expr (pe_bm PySem.F.plainAttrs_list PySem.F.slot_list_append PySem.F.type_list_append mt_append (pv 3) (pa_cons (pe_ix ix_tup (pe_call D_law_due.ok (hr.mono (by omega)) rfl D_law_due.g D_law_due.kp D_law_due.b .nil pass0 (pa_cons (pe_ix ix_list (pv 3) (pe_un un_neg pe_int) (fun _ _ => rfl)) (pa_cons (pv 6) pa_nil))) pe_int (fun _ _ => rfl)) pa_nil)))
    (pss_one (ps_if (pt_not (pt_val (pe_callG D_law_equal.ok rfl (hr.mono (by omega)) rfl D_law_equal.g D_law_equal.kp D_law_equal.b (pa_cons (pe_call D_law_do.ok (hr.mono (by omega)) rfl D_law_do.g D_law_do.kp D_law_do.b .nil pass0 (pa_cons (pv 4) (pa_cons (pv 6) pa_nil))) (pa_cons (pe_op op_sub (pe_callB call_len_seq rfl M.len PySem.boot_len (pa_cons (pv 3) pa_nil)) pe_int) pa_nil)))))
      (pss_one (ps_ret pe_bl)) pss_nil)))))
    (pss_one (ps_if (pt_not (pt_val (pe_callG D_law_right.ok rfl (hr.mono (by omega)) rfl D_law_right.g D_law_right.kp D_law_right.b (pa_cons (pv 2) (pa_cons (pv 4) (pa_cons (pv 3) (pa_cons pe_int pa_nil)))))))
      (pss_one (ps_ret pe_bl)) pss_nil))))
    (pss_cons (ps_for PassesOwn.never rfl (pi_list (pe_lst (pa_cons (pe_callB call_len_seq rfl M.len PySem.boot_len (pa_cons (pv 3) pa_nil)) (pa_cons (pe_un un_neg pe_int) (pa_cons pe_bl (pa_cons pe_bl (pa_cons pe_str (pa_cons (pe_tup pa_nil) (pa_cons (pe_lst pa_nil) (pa_cons pe_dnewK (pa_cons (pe_tup (pa_cons pe_int pa_nil)) (pa_cons (pe_op op_pow pe_int pe_int) pa_nil)))))))))))) (pg_name (i := 7) sc_law.nd rfl (.inl rfl))
      (pss_one (ps_if (pt_not (pt_val (pe_callG D_law_equal.ok rfl (hr.mono (by omega)) rfl D_law_equal.g D_law_equal.kp D_law_equal.b (pa_cons (pe_call D_law_answer.ok (hr.mono (by omega)) rfl D_law_answer.g D_law_answer.kp D_law_answer.b .nil pass0 (pa_cons (pv 4) (pa_cons (pv 7) pa_nil))) (pa_cons (pe_tup (pa_cons pe_str (pa_cons (pv 7) pa_nil))) pa_nil)))))
      (pss_one (ps_ret pe_bl)) pss_nil)))
    (pss_one (ps_if (pt_not (pt_val (pe_callG D_law_right.ok rfl (hr.mono (by omega)) rfl D_law_right.g D_law_right.kp D_law_right.b (pa_cons (pv 2) (pa_cons (pv 4) (pa_cons (pv 3) (pa_cons pe_int pa_nil)))))))
      (pss_one (ps_ret pe_bl)) pss_nil))))))))
    (pss_one (ps_ret pe_bl))), ?_⟩
  refine ⟨2, rfl, by decide, by decide, ?_⟩
  refine for_range (lo := 0) (n := 2) (fun i σ H' => ∃ y1 y2 y3 y4 y5 y6 y7 : Option V, σ = [some (.ref a), y1, y2, y3, y4, y5, y6, y7] ∧ Same H H') ⟨none, none, none, none, none, none, none, rfl, Same.refl _⟩ (fun i σ H1 hi hp => ?_) (fun σ H1 hp => ?_)
  · obtain ⟨y1, y2, y3, y4, y5, y6, y7, rfl, s1⟩ := hp
    refine ⟨_, rfl, _, rfl, a, ns, i, (by rw [Int.zero_add]; rfl), sqL_same s1 hS, by omega, fun sa H2 nsa s2 st2 => ?_⟩
    refine ⟨_, rfl, sa, 0, 12, rfl, st2, by decide, by decide, by decide, fun v t n3 H3 b3 z0 z1 l3 st3 hn3 bu3 => ⟨(by show 1 ≤ sizeLine; decide), fun L nL => ?_⟩⟩
    have nsH : H sa = none := by
      cases e : H sa with
      | none => rfl
      | some o => rw [s1 _ _ e] at nsa; cases nsa
    have s13 : Same H H3 := same_but (s1.trans s2) nsH bu3
    have nLH : H L = none := by
      cases e : H L with
      | none => rfl
      | some o => rw [s13 _ _ e] at nL; cases nL
    have k4 := same_new nL (.lst [v])
    have eL4 := upd_same (H := H3) (a := L) (o := .lst [v])
    have st4 := st3.same k4
    have b4 := b3.same k4
    have s14 := s13.trans k4
    have ne : sa ≠ L := by
      obtain ⟨xs, e⟩ := st3.lst
      exact ne_of_none e nL
    generalize upd H3 L (.lst [v]) = H4 at k4 eL4 st4 b4 s14 ⊢
    refine ⟨_, rfl, L, _, 0, v, rfl, rfl, SqL.of eL4, atI_nat (j := 0) rfl, fun ad dx nad ndx ndd => ?_⟩
    have kA := same_new ndx (.own ad)
    have nad' : (upd H4 dx (.own ad)) ad = none := by rw [upd_ne ndd.symm]; exact nad
    have kB := same_new nad' (.ins C dx [])
    have k5 := kA.trans kB
    have hn0 : t ≠ .nil := nd_nil.mpr z0
    refine ⟨ad, dx, v, t, rfl, upd_same, b4.same k5, hn0, l3, by omega, fun H5 b5 dk5 => ?_⟩
    have bu45 : Same H4 H5 := fun b o e => b5 b o (fun z => by rw [z, nad] at e; cases e) (k5 b o e)
    have nadH : H ad = none := by
      cases e : H ad with
      | none => rfl
      | some o => rw [s14 _ _ e] at nad; cases nad
    have so5 : StV C H5 sa ad L [] t [] n3 := ⟨dk5, st4.same bu45, ne, ⟨[v], bu45 _ _ eL4, .snoc .nil (b4.same bu45)⟩, rfl, fun b hb => by rw [List.mem_singleton.mp hb]; exact ⟨l3, by omega, hn0⟩⟩
    have s15 := s14.trans bu45
    clear kA nad' kB k5 b5 st4 b4 k4 st3 st2 s2 b3 dk5
    refine ⟨rfl, _, rfl, sa, n3, 15, rfl, so5.st, by omega, by decide, by decide, fun mj n6 H6 l6 st6 hn6 bu6 => ⟨(mj : Int), rfl, by omega, by omega, ?_⟩⟩
    have so6 := so5.strm bu6 st6
    have s16 := same_but s15 nsH bu6
    refine for_range (lo := 0) (n := mj) (fun j σ H' => ∃ (ts : List B) (t1 : B) (es : List Ed) (n : Nat) (y5 y6 y7 : Option V), σ = [some (.ref a), some (.int (0 + (i : Int))), some (.ref sa), some (.ref L), some (.ref ad), y5, y6, y7] ∧ StV C H' sa ad L ts t1 es n ∧ n ≤ 1000 + 200 * j ∧ es.length ≤ j ∧ Same H H')
      ⟨[], t, [], n6, _, _, _, rfl, so6, by omega, Nat.le_refl _, s16⟩ (fun j σ Ha hj hp => ?_) (fun σ Ha hp => ?_)
    · obtain ⟨ts, t1, es, n, x5, x6, x7, rfl, so, hn, hl, sH⟩ := hp
      dsimp only [gName]
      refine seq_cut (fun σ H' => ∃ (ts : List B) (t1 : B) (es : List Ed) (n : Nat) (y6 : Option V), σ = [some (.ref a), some (.int (0 + (i : Int))), some (.ref sa), some (.ref L), some (.ref ad), some (.int (0 + (j : Int))), y6, x7] ∧ StV C H' sa ad L ts t1 es n ∧ n ≤ 1000 + 200 * j + 100 ∧ es.length ≤ j + 1 ∧ Same H H') (fun σ Hb hp => ?_) (fun rest => ?_)
      · obtain ⟨ts, t1, es, n, y6, rfl, so, hn, hl, sH⟩ := hp
        obtain ⟨ws, eL, hB⟩ := so.ls
        have hle := so.le
        refine ⟨_, rfl, _, rfl, _, rfl, sa, ad, L, 3, ws, ts, t1, es, n, rfl, by decide, so.st, by omega, so.dk, eL, hB, ne, so.le, by omega, so.tg, fun n' H' bu' st' hn' => ⟨true, rfl, iteF ⟨ts, t1, es, n', _, _, _, rfl, so.strm bu' st', by omega, hl, same_but sH nsH bu'⟩⟩⟩
      · obtain ⟨ws, eL, hB⟩ := id so.ls
        have hle := so.le
        have wl : ws.length = ts.length + 1 := by rw [hB.len, List.length_append]; rfl
        refine ⟨_, rfl, L, ws, rfl, .inl (SqL.of eL), _, _, rfl, rfl, _, rfl, ite2 (fun hc => ?_) (fun hc => iteF ?_)⟩
        · have hc := of_decide_eq_true hc
          refine ⟨_, rfl, sa, n, 4, rfl, so.st, by omega, by decide, by decide, fun j2 n2 Hc l2 st2 hn2 bu2 => ⟨rfl, _, rfl, ite2 (fun _ => ?_) (fun _ => ?_)⟩⟩
          · have soc := so.strm bu2 st2
            have sC := same_but sH nsH bu2
            have eLc := bu2 _ _ ne.symm eL
            have hBc := hB.keep (so.keepS bu2)
            rcases List.eq_nil_or_concat es with z | ⟨es', e, z⟩
            · rw [z] at hle
              have hle : 0 = ts.length := hle
              omega
            rcases List.eq_nil_or_concat ts with y | ⟨ts', t2, y⟩
            · rw [y, z, List.concat_eq_append, List.length_append] at hle
              have hle : es'.length + 1 = 0 := hle
              omega
            rw [List.concat_eq_append] at y z
            subst y z
            have hle' : es'.length + 1 = ts'.length + 1 := by rw [List.length_append, List.length_append] at hle; exact hle
            have hl' : es'.length + 1 ≤ j := by rw [List.length_append] at hl; exact hl
            obtain ⟨ws', w, rfl, hB', bw⟩ := hBc.unsnoc rfl
            have wl' : ws'.length = ts'.length + 1 := by rw [hB'.len, List.length_append]; rfl
            refine ⟨_, rfl, .inl ⟨rfl, _, SqL.of eLc⟩, L, ws' ++ [w], w, rfl, rfl, eLc, by rw [List.length_append]; show (ws' ++ [w])[ws'.length + 1 - 1]? = _; rw [Nat.add_sub_cancel, List.getElem?_append_right (Nat.le_refl _), Nat.sub_self]; rfl, ?_⟩
            rw [List.dropLast_concat]
            have bL : But L Hc (upd Hc L (.lst ws')) := fun b o hb e => by rw [upd_ne hb]; exact e
            have e1 := upd_same (H := Hc) (a := L) (o := .lst ws')
            have dk1 := soc.dk.apart bL eLc
            have st1 := soc.st.but bL ne
            have hB1 := hB'.keep (But.keepL eLc bL)
            have sD := same_but sC nLH bL
            generalize upd Hc L (.lst ws') = Hd at bL e1 dk1 st1 hB1 sD ⊢
            obtain ⟨dx, ta, td, vs, u, ds, h1, _⟩ := id dk1
            have nl : ∀ {m : Str} (vt vd vb : V), (m == ("trees" : Str)) = false → (m == ("done" : Str)) = false → (m == ("busy" : Str)) = false → (deskF vt vd vb).lookup m = none := no_look
            refine ⟨_, rfl, ad, dx, _, rfl, h1, nl _ _ _ (by decide +kernel) (by decide +kernel) (by decide +kernel), ad, ts', t2, t1, es', e, rfl, dk1, by omega, by omega, fun He b2 d2 => ?_⟩
            have e2 := b2 _ _ (ne_of e1 h1 (by intro z; cases z)) e1
            obtain ⟨xs1, ex1⟩ := st1.lst
            have st2 := st1.but b2 (ne_of ex1 h1 (by intro z; cases z))
            have hB2 := hB1.keep (b2.keepT dk1)
            refine ⟨_, rfl, L, ws', rfl, .inl (SqL.of e2), _, _, rfl, rfl, ?_⟩
            have zl : ((ws'.length : Int) - 1) = (es'.length : Int) := by omega
            exact ⟨_, _, One sa, .int (es'.length : Int), rfl, .int _, (by show DQ _ _ (V.int ((ws'.length : Int) - 1)) _; rw [zl]; exact .int _), gd_n (by omega), by rw [wt_ii]; decide, by rw [dp_i]; decide, true, rfl, iteF (rest _ _ ⟨ts', t2, es', n2, _, rfl, ⟨d2, st2, ne, ⟨_, e2, hB2⟩, by omega, fun b hb => soc.tg b (List.mem_append_left _ hb)⟩, by omega, by omega, same_but sD nadH b2⟩)⟩
          · have soc := so.strm bu2 st2
            have sC := same_but sH nsH bu2
            have eLc := bu2 _ _ ne.symm eL
            have hBc := hB.keep (so.keepS bu2)
            obtain ⟨ws0, w0, rfl, hB0, b0⟩ := hBc.unsnoc rfl
            obtain ⟨lt, z1', tn⟩ := soc.tg t1 (List.mem_append_right _ (List.mem_singleton.mpr rfl))
            have z0' := nd_nil.mp tn
            have wl0 : ws0.length = ts.length := hB0.len
            refine ⟨_, rfl, _, rfl, 1, rfl, L, _, -1, w0, rfl, rfl, SqL.of eLc, atI_last _ _, sa, n2, w0, t1, rfl, soc.st, by omega, b0, z0', z1', fun q e t' n3 H2 he hd hdo st3 hn3 bu3 => ?_⟩
            have so2 := soc.strm bu3 st3
            have b2 := b0.keep (soc.keepS bu3)
            have s2 := same_but sC nsH bu3
            have eL2 := bu3 _ _ ne.symm eLc
            have hB2 := hBc.keep (soc.keepS bu3)
            refine ⟨_, rfl, .inl ⟨rfl, _, SqL.of eL2⟩, _, rfl, 1, rfl, L, _, -1, w0, rfl, rfl, SqL.of eL2, atI_last _ _, _, rfl, w0, t1, q, e, rfl, b2, z1', he, hd, fun r H3 s3 du => ?_⟩
            obtain ⟨v', hr', bv⟩ : ∃ v', H3 r = some (.tup [.str "state", v']) ∧ BAt H3 v' t' := by
              rcases du with ⟨t'', v', d, h, b⟩ | ⟨no, _⟩
              · exact ⟨v', h, by rw [d.same hdo]; exact b⟩
              · exact absurd hdo (no _)
            have so3 := so2.same s3
            have eL3 := s3 _ _ eL2
            have hB3 := hB2.keep (Tw.Same.keepT s3)
            refine ⟨r, _, 1, v', rfl, rfl, SqT.of hr', atI_nat (j := 1) rfl, L, _, v', rfl, rfl, eL3, small (by rw [List.length_append]; show ws0.length + 1 + 1 ≤ 1000; omega), ?_⟩
            have bL : But L H3 (upd H3 L (.lst ((ws0 ++ [w0]) ++ [v']))) := fun b o hb e => by rw [upd_ne hb]; exact e
            have e4 := upd_same (H := H3) (a := L) (o := .lst ((ws0 ++ [w0]) ++ [v']))
            have dk4 := so3.dk.apart bL eL3
            have st4 := so3.st.but bL ne
            have kt := But.keepL eL3 bL
            have hB4 : BsAt (upd H3 L (.lst ((ws0 ++ [w0]) ++ [v']))) ((ws0 ++ [w0]) ++ [v']) ((ts ++ [t1]) ++ [t']) := .snoc (hB3.keep kt) (bv.keep kt)
            have he4 := kt _ _ (s3 _ _ he)
            have s4 := same_but (s2.trans s3) nLH bL
            generalize upd H3 L (.lst ((ws0 ++ [w0]) ++ [v'])) = H4 at bL e4 dk4 st4 kt hB4 he4 s4 ⊢
            refine ⟨_, rfl, _, rfl, ad, q, ts, t1, t', es, e, rfl, dk4, he4, hdo, by omega, by omega, lt, z1', tn, fun H5 b5 dk5 => ?_⟩
            obtain ⟨dx4, _, _, _, _, _, h4i, _⟩ := id dk4
            have eL5 := b5 _ _ (ne_of e4 h4i (by intro z; cases z)) e4
            obtain ⟨xs4, ex4⟩ := st4.lst
            have st5 := st4.but b5 (ne_of ex4 h4i (by intro z; cases z))
            have hB5 := hB4.keep (b5.keepT dk4)
            have good := hdo.good lt z1' tn
            have lenW : ((ws0 ++ [w0]) ++ [v']).length = ts.length + 2 := by rw [List.length_append, List.length_append, wl0]; rfl
            have lenE : (es ++ [e]).length = es.length + 1 := by rw [List.length_append]; rfl
            have lenT : (ts ++ [t1]).length = ts.length + 1 := by rw [List.length_append]; rfl
            have zl : ((((ws0 ++ [w0]) ++ [v']).length : Int) - 1) = ((es.length + 1 : Nat) : Int) := by omega
            refine ⟨_, rfl, L, _, rfl, .inl (SqL.of eL5), _, _, rfl, rfl, ?_⟩
            exact ⟨_, _, One sa, .int ((es.length + 1 : Nat) : Int), rfl, .int _, (by show DQ _ _ (V.int ((((ws0 ++ [w0]) ++ [v']).length : Int) - 1)) _; rw [zl]; exact .int _), gd_n (by omega), by rw [wt_ii]; decide, by rw [dp_i]; decide, true, rfl, iteF (rest _ _ ⟨ts ++ [t1], t', es ++ [e], n3, _, rfl, ⟨dk5, st5, ne, ⟨_, eL5, hB5⟩, by omega, fun b hb => by
              rcases List.mem_append.mp hb with h | h
              · exact soc.tg b h
              · rw [List.mem_singleton.mp h]; exact good⟩, by omega, by omega, same_but s4 nadH b5⟩)⟩
  
        · skip
          obtain ⟨ws0, w0, rfl, hB0, b0⟩ := hB.unsnoc rfl
          obtain ⟨lt, z1', tn⟩ := so.tg t1 (List.mem_append_right _ (List.mem_singleton.mpr rfl))
          have z0' := nd_nil.mp tn
          have wl0 : ws0.length = ts.length := hB0.len
          refine ⟨_, rfl, _, rfl, 1, rfl, L, _, -1, w0, rfl, rfl, SqL.of eL, atI_last _ _, sa, n, w0, t1, rfl, so.st, by omega, b0, z0', z1', fun q e t' n2 H2 he hd hdo st2 hn2 bu2 => ?_⟩
          have so2 := so.strm bu2 st2
          have b2 := b0.keep (so.keepS bu2)
          have s2 := same_but sH nsH bu2
          have eL2 := bu2 _ _ ne.symm eL
          have hB2 := hB.keep (so.keepS bu2)
          refine ⟨_, rfl, .inl ⟨rfl, _, SqL.of eL2⟩, _, rfl, 1, rfl, L, _, -1, w0, rfl, rfl, SqL.of eL2, atI_last _ _, _, rfl, w0, t1, q, e, rfl, b2, z1', he, hd, fun r H3 s3 du => ?_⟩
          obtain ⟨v', hr', bv⟩ : ∃ v', H3 r = some (.tup [.str "state", v']) ∧ BAt H3 v' t' := by
            rcases du with ⟨t'', v', d, h, b⟩ | ⟨no, _⟩
            · exact ⟨v', h, by rw [d.same hdo]; exact b⟩
            · exact absurd hdo (no _)
          have so3 := so2.same s3
          have eL3 := s3 _ _ eL2
          have hB3 := hB2.keep (Tw.Same.keepT s3)
          refine ⟨r, _, 1, v', rfl, rfl, SqT.of hr', atI_nat (j := 1) rfl, L, _, v', rfl, rfl, eL3, small (by rw [List.length_append]; show ws0.length + 1 + 1 ≤ 1000; omega), ?_⟩
          have bL : But L H3 (upd H3 L (.lst ((ws0 ++ [w0]) ++ [v']))) := fun b o hb e => by rw [upd_ne hb]; exact e
          have e4 := upd_same (H := H3) (a := L) (o := .lst ((ws0 ++ [w0]) ++ [v']))
          have dk4 := so3.dk.apart bL eL3
          have st4 := so3.st.but bL ne
          have kt := But.keepL eL3 bL
          have hB4 : BsAt (upd H3 L (.lst ((ws0 ++ [w0]) ++ [v']))) ((ws0 ++ [w0]) ++ [v']) ((ts ++ [t1]) ++ [t']) := .snoc (hB3.keep kt) (bv.keep kt)
          have he4 := kt _ _ (s3 _ _ he)
          have s4 := same_but (s2.trans s3) nLH bL
          generalize upd H3 L (.lst ((ws0 ++ [w0]) ++ [v'])) = H4 at bL e4 dk4 st4 kt hB4 he4 s4 ⊢
          refine ⟨_, rfl, _, rfl, ad, q, ts, t1, t', es, e, rfl, dk4, he4, hdo, by omega, by omega, lt, z1', tn, fun H5 b5 dk5 => ?_⟩
          obtain ⟨dx4, _, _, _, _, _, h4i, _⟩ := id dk4
          have eL5 := b5 _ _ (ne_of e4 h4i (by intro z; cases z)) e4
          obtain ⟨xs4, ex4⟩ := st4.lst
          have st5 := st4.but b5 (ne_of ex4 h4i (by intro z; cases z))
          have hB5 := hB4.keep (b5.keepT dk4)
          have good := hdo.good lt z1' tn
          have lenW : ((ws0 ++ [w0]) ++ [v']).length = ts.length + 2 := by rw [List.length_append, List.length_append, wl0]; rfl
          have lenE : (es ++ [e]).length = es.length + 1 := by rw [List.length_append]; rfl
          have lenT : (ts ++ [t1]).length = ts.length + 1 := by rw [List.length_append]; rfl
          have zl : ((((ws0 ++ [w0]) ++ [v']).length : Int) - 1) = ((es.length + 1 : Nat) : Int) := by omega
          refine ⟨_, rfl, L, _, rfl, .inl (SqL.of eL5), _, _, rfl, rfl, ?_⟩
          exact ⟨_, _, One sa, .int ((es.length + 1 : Nat) : Int), rfl, .int _, (by show DQ _ _ (V.int ((((ws0 ++ [w0]) ++ [v']).length : Int) - 1)) _; rw [zl]; exact .int _), gd_n (by omega), by rw [wt_ii]; decide, by rw [dp_i]; decide, true, rfl, iteF (rest _ _ ⟨ts ++ [t1], t', es ++ [e], n2, _, rfl, ⟨dk5, st5, ne, ⟨_, eL5, hB5⟩, by omega, fun b hb => by
            rcases List.mem_append.mp hb with h | h
            · exact so.tg b h
            · rw [List.mem_singleton.mp h]; exact good⟩, by omega, by omega, same_but s4 nadH b5⟩)⟩

    · obtain ⟨ts, t1, es, n, x5, x6, x7, rfl, so, hn, hl, sH⟩ := hp
      obtain ⟨ws, eL, hB⟩ := id so.ls
      have hle := so.le
      have wl : ws.length = ts.length + 1 := by rw [hB.len, List.length_append]; rfl
      have dk := so.st.deck.1
      have sm := Same.refl Ha
      refine ⟨_, rfl, L, ws, rfl, .inl (SqL.of eL), 1, rfl, (by show 0 ≤ sizeLine; decide), fun p1 n1 => ?_⟩
      have q1 := same_new n1 (.tup [])
      have a1 := dq_newT (xs := []) (ds := []) dk n1 .nil
      have dk := dk.same q1
      have sm := sm.trans q1
      clear q1 n1
      generalize upd Ha p1 (.tup []) = G1 at dk sm a1 ⊢
      refine ⟨(by show 0 ≤ sizeLine; decide), fun p2 n2 => ?_⟩
      have q2 := same_new n2 (.lst [])
      have a2 := dq_newL (xs := []) (ds := []) dk n2 .nil
      have a1 := dq_same q2 a1
      have dk := dk.same q2
      have sm := sm.trans q2
      clear q2 n2
      generalize upd G1 p2 (.lst []) = G2 at dk sm a1 a2 ⊢
      refine fun p3 n3 => ?_
      have q3 := same_new n3 (.dK [])
      have a3 := dq_newE dk n3
      have a1 := dq_same q3 a1
      have a2 := dq_same q3 a2
      have dk := dk.same q3
      have sm := sm.trans q3
      clear q3 n3
      generalize upd G2 p3 (.dK []) = G3 at dk sm a1 a2 a3 ⊢
      refine ⟨(by show 1 ≤ sizeLine; decide), fun p4 n4 => ?_⟩
      have q4 := same_new n4 (.tup [.int 0])
      have a4 := dq_newT (xs := [.int 0]) (ds := [.int 0]) dk n4 (.cons (.int _) .nil)
      have a1 := dq_same q4 a1
      have a2 := dq_same q4 a2
      have a3 := dq_same q4 a3
      have dk := dk.same q4
      have sm := sm.trans q4
      clear q4 n4
      generalize upd G3 p4 (.tup [.int 0]) = G4 at dk sm a1 a2 a3 a4 ⊢
      refine ⟨_, _, rfl, rfl, ⟨by decide, by decide, by decide⟩, (by show 10 ≤ sizeLine; decide), fun p5 n5 => ?_⟩
      have q5 := same_new n5 (.lst [.int (ws.length : Int), .int (-1), .bl true, .bl false, .str "0", .ref p1, .ref p2, .ref p3, .ref p4, .int ((10 : Int) ^ Int.toNat 29)])
      have e5 := upd_same (H := G4) (a := p5) (o := .lst [.int (ws.length : Int), .int (-1), .bl true, .bl false, .str "0", .ref p1, .ref p2, .ref p3, .ref p4, .int ((10 : Int) ^ Int.toNat 29)])
      have a1 := dq_same q5 a1
      have a2 := dq_same q5 a2
      have a3 := dq_same q5 a3
      have a4 := dq_same q5 a4
      have sm := sm.trans q5
      clear q5 n5 dk
      generalize upd G4 p5 (.lst [.int (ws.length : Int), .int (-1), .bl true, .bl false, .str "0", .ref p1, .ref p2, .ref p3, .ref p4, .int ((10 : Int) ^ Int.toNat 29)]) = G5 at e5 sm a1 a2 a3 a4 ⊢
      have al : DQAll (One sa) G5 [.int (ws.length : Int), .int (-1), .bl true, .bl false, .str "0", .ref p1, .ref p2, .ref p3, .ref p4, .int ((10 : Int) ^ Int.toNat 29)] (noVs ws.length) := .cons (.int _) (.cons (.int _) (.cons (.bl _) (.cons (.bl _) (.cons (.str _) (.cons a1 (.cons a2 (.cons a3 (.cons a4 (.cons (.int _) .nil)))))))))
      have so5 := so.same sm
      refine ⟨p5, rfl, ⟨_, SqL.of e5⟩, ?_⟩
      refine for_list (K := K) (a := p5) (xs := [.int (ws.length : Int), .int (-1), .bl true, .bl false, .str "0", .ref p1, .ref p2, .ref p3, .ref p4, .int ((10 : Int) ^ Int.toNat 29)]) (fun jj σ Hx => ∃ z7, σ = [some (.ref a), some (.int (0 + (i : Int))), some (.ref sa), some (.ref L), some (.ref ad), x5, x6, z7] ∧ Same G5 Hx) ⟨_, rfl, Same.refl _⟩ (fun jj σ Hx _ hp => by obtain ⟨_, _, sx⟩ := hp; exact SqL.of (sx _ _ e5)) (fun jj x σ Hx hx hp => ?_) (fun σ Hx hp => ?_)
      · obtain ⟨z7, rfl, sx⟩ := hp
        obtain ⟨d, hd, hq⟩ := dqAll_get al hx
        obtain ⟨m1, m2, m3, m4, m5⟩ := noVs_ok (show ws.length ≤ 50 by omega) d (List.mem_of_getElem? hd)
        have sox := so5.same sx
        have lenT : ((ts ++ [t1]).length : Int) - 1 = (ws.length : Int) - 1 := by rw [List.length_append, wl]; rfl
        refine ⟨_, rfl, _, rfl, ad, ts, t1, es, x, One sa, d, rfl, sox.dk, dq_same sx hq, fun p6 H6 s6 g6 => ⟨_, rfl, (by show 2 ≤ sizeLine; decide), fun p7 n7 => ?_⟩⟩
        have k7 := same_new n7 (.tup [.str "NoVersion", x])
        have g6' := g6 (nT1 (sox.st.same s6))
        rw [ansD_no m4 (by rw [lenT]; exact m5)] at g6'
        obtain ⟨r1, r2, r3⟩ := nov_ok m1 m2 m3
        exact ⟨_, _, One sa, .tuple [.str "NoVersion", d], rfl, dq_same k7 g6', dq_two (nT1 (sox.st.same (s6.trans k7))) upd_same (.str _) (dq_same (sx.trans (s6.trans k7)) hq), r1, r2, r3, true, rfl, iteF ⟨_, rfl, sx.trans (s6.trans k7)⟩⟩
      · obtain ⟨z7, rfl, sx⟩ := hp
        have sox := so5.same sx
        obtain ⟨wsx, eLx, hBx⟩ := id sox.ls
        refine ⟨_, rfl, _, rfl, _, rfl, sa, ad, L, 8, wsx, ts, t1, es, n, rfl, by decide, sox.st, by omega, sox.dk, eLx, hBx, ne, sox.le, by omega, sox.tg, fun n' H' bu' st' hn' => ⟨true, rfl, iteF ⟨_, _, _, _, _, _, _, rfl, same_but (sH.trans (sm.trans sx)) nsH bu'⟩⟩⟩
  · obtain ⟨y1, y2, y3, y4, y5, y6, y7, rfl, s1⟩ := hp
    rfl
end
theorem bd_of_law_some_edit {K : PySem.W.Frag} {g : Addr} {fd : FuncData} (FD : FunD K "_law_some_edit" "_law_some_edit" (defArgs s__law_some_edit) (defBody s__law_some_edit) (defScope s__law_some_edit) [.int 13] [] g fd) : ∃ ds, Vals [.int 13] ds ∧ Binds K fd ["_law_stream_here", "_law_tree_here", "_law_top"] ds := FD.binds1 (ps := ["_law_stream_here", "_law_tree_here", "_law_top"]) 2 0 (by simp) rfl (fun T kV doc pm an cdv ct us its h1 h2 => match us, its, h1, h2 with | [_, _], [_], _, _ => ⟨_, rfl, rfl⟩)
theorem b_of_law_some_edit {K : PySem.W.Frag} {g : Addr} {fd : FuncData} (FD : FunD K "_law_some_edit" "_law_some_edit" (defArgs s__law_some_edit) (defBody s__law_some_edit) (defScope s__law_some_edit) [.int 13] [] g fd) : Binds K fd ["_law_stream_here", "_law_tree_here", "_law_top"] [] := by
  obtain ⟨dz, vz, bz⟩ := FD.binds1 (ps := ["_law_stream_here", "_law_tree_here", "_law_top"]) 3 1 (by simp) rfl (fun T kV doc pm an cdv ct us its h1 h2 => match us, its, h1, h2 with | [_, _, _], [_], _, _ => ⟨_, rfl, rfl⟩)
  cases vz
  exact bz
theorem bd_of_law_valid_edit {K : PySem.W.Frag} {g : Addr} {fd : FuncData} (FD : FunD K "_law_valid_edit" "_law_valid_edit" (defArgs s__law_valid_edit) (defBody s__law_valid_edit) (defScope s__law_valid_edit) [.int 13] [] g fd) : ∃ ds, Vals [.int 13] ds ∧ Binds K fd ["_law_stream_here", "_law_tree_here", "_law_top"] ds := FD.binds1 (ps := ["_law_stream_here", "_law_tree_here", "_law_top"]) 2 0 (by simp) rfl (fun T kV doc pm an cdv ct us its h1 h2 => match us, its, h1, h2 with | [_, _], [_], _, _ => ⟨_, rfl, rfl⟩)
theorem b_of_law_valid_edit {K : PySem.W.Frag} {g : Addr} {fd : FuncData} (FD : FunD K "_law_valid_edit" "_law_valid_edit" (defArgs s__law_valid_edit) (defBody s__law_valid_edit) (defScope s__law_valid_edit) [.int 13] [] g fd) : Binds K fd ["_law_stream_here", "_law_tree_here", "_law_top"] [] := by
  obtain ⟨dz, vz, bz⟩ := FD.binds1 (ps := ["_law_stream_here", "_law_tree_here", "_law_top"]) 3 1 (by simp) rfl (fun T kV doc pm an cdv ct us its h1 h2 => match us, its, h1, h2 with | [_, _, _], [_], _, _ => ⟨_, rfl, rfl⟩)
  cases vz
  exact bz
/-! ### what the top has left -/
theorem all_mk {l : PySem.W.OpenLaw} {w : World} {K : PySem.W.Frag} {h : Heap} {mg : Str → Option Value} {fa f1 f2 f3 f4 f5 f6 f7 f8 f9 f10 f11 f12 f13 f14 f15 f16 f17 f18 f19 f20 f21 f22 f23 f24 f25 f26 f27 f28 f29 f30 f31 f32 f33 f34 f35 f36 f37 f38 f39 f40 f41 f42 f43 C_NoVersion C_WalkError C_NoPath C_NoIndex i_NoVersion : Addr} (X : K.In h) (G : h.Ns mainGlobals mg) (hfa : mg "law" = some (.ref fa))
    {od1 an1 od2 an2 od3 an3 od4 an4 od5 an5 od6 an6 od7 an7 od8 an8 od9 an9 od10 an10 od11 an11 od12 an12 od13 an13 od14 an14 od15 an15 od16 an16 od17 an17 od18 an18 od19 an19 od20 an20 od21 an21 od22 an22 od23 an23 od24 an24 od25 an25 od26 an26 od27 an27 od28 an28 od29 an29 od30 an30 od31 an31 od32 an32 od33 an33 od34 an34 od35 an35 od36 an36 od37 an37 od38 an38 od39 an39 od40 an40 od41 an41 od42 an42 od43 an43 : Option Addr} {sl1 sl2 sl3 sl4 sl5 sl6 sl7 sl8 sl9 sl10 sl11 sl12 sl13 sl14 sl15 sl16 sl17 sl18 sl19 sl20 sl21 sl22 sl23 sl24 sl25 sl26 sl27 sl28 sl29 sl30 sl31 sl32 sl33 sl34 sl35 sl36 sl37 sl38 sl39 sl40 sl41 sl42 sl43 : Array (Option Value)}
    {oc1 kV1 dc1 pm1 cd1 ct1 oc2 kV2 dc2 pm2 cd2 ct2 oc3 kV3 dc3 pm3 cd3 ct3 oc4 kV4 dc4 pm4 cd4 ct4 oc5 kV5 dc5 pm5 cd5 ct5 oc6 kV6 dc6 pm6 cd6 ct6 oc7 kV7 dc7 pm7 cd7 ct7 oc8 kV8 dc8 pm8 cd8 ct8 oc9 kV9 dc9 pm9 cd9 ct9 oc10 kV10 dc10 pm10 cd10 ct10 oc11 kV11 dc11 pm11 cd11 ct11 oc12 kV12 dc12 pm12 cd12 ct12 oc13 kV13 dc13 pm13 cd13 ct13 oc14 kV14 dc14 pm14 cd14 ct14 oc15 kV15 dc15 pm15 cd15 ct15 oc16 kV16 dc16 pm16 cd16 ct16 oc17 kV17 dc17 pm17 cd17 ct17 oc18 kV18 dc18 pm18 cd18 ct18 oc19 kV19 dc19 pm19 cd19 ct19 oc20 kV20 dc20 pm20 cd20 ct20 oc21 kV21 dc21 pm21 cd21 ct21 oc22 kV22 dc22 pm22 cd22 ct22 oc23 kV23 dc23 pm23 cd23 ct23 oc24 kV24 dc24 pm24 cd24 ct24 oc25 kV25 dc25 pm25 cd25 ct25 oc26 kV26 dc26 pm26 cd26 ct26 oc27 kV27 dc27 pm27 cd27 ct27 oc28 kV28 dc28 pm28 cd28 ct28 oc29 kV29 dc29 pm29 cd29 ct29 oc30 kV30 dc30 pm30 cd30 ct30 oc31 kV31 dc31 pm31 cd31 ct31 oc32 kV32 dc32 pm32 cd32 ct32 oc33 kV33 dc33 pm33 cd33 ct33 oc34 kV34 dc34 pm34 cd34 ct34 oc35 kV35 dc35 pm35 cd35 ct35 oc36 kV36 dc36 pm36 cd36 ct36 oc37 kV37 dc37 pm37 cd37 ct37 oc38 kV38 dc38 pm38 cd38 ct38 oc39 kV39 dc39 pm39 cd39 ct39 oc40 kV40 dc40 pm40 cd40 ct40 oc41 kV41 dc41 pm41 cd41 ct41 oc42 kV42 dc42 pm42 cd42 ct42 oc43 kV43 dc43 pm43 cd43 ct43 : Value} {t1 : Tok}
     {CD : Addr} {tME : Tok} {aA : Addr} {esA : Array DictEntry} {nA : Nat} {aK : Addr} {oK : Option Addr} {tK1 tK2 tK3 tK4 : Tok} {nK : Nat} {sK : Array (Option Value)} {g_init : Addr} {oc_init kw_init dc_init pm_init cd_init ct_init : Value} {od_init an_init : Option Addr} {sl_init : Array (Option Value)} {g_check_free : Addr} {oc_check_free kw_check_free dc_check_free pm_check_free cd_check_free ct_check_free : Value} {od_check_free an_check_free : Option Addr} {sl_check_free : Array (Option Value)} {g_check_tree : Addr} {oc_check_tree kw_check_tree dc_check_tree pm_check_tree cd_check_tree ct_check_tree : Value} {od_check_tree an_check_tree : Option Addr} {sl_check_tree : Array (Option Value)} {g_told : Addr} {oc_told kw_told dc_told pm_told cd_told ct_told : Value} {od_told an_told : Option Addr} {sl_told : Array (Option Value)} {g_take : Addr} {oc_take kw_take dc_take pm_take cd_take ct_take : Value} {od_take an_take : Option Addr} {sl_take : Array (Option Value)} {g_called : Addr} {oc_called kw_called dc_called pm_called cd_called ct_called : Value} {od_called an_called : Option Addr} {sl_called : Array (Option Value)} {g_put : Addr} {oc_put kw_put dc_put pm_put cd_put ct_put : Value} {od_put an_put : Option Addr} {sl_put : Array (Option Value)} {g_cut : Addr} {oc_cut kw_cut dc_cut pm_cut cd_cut ct_cut : Value} {od_cut an_cut : Option Addr} {sl_cut : Array (Option Value)} {g_label : Addr} {oc_label kw_label dc_label pm_label cd_label ct_label : Value} {od_label an_label : Option Addr} {sl_label : Array (Option Value)} {g_turn : Addr} {oc_turn kw_turn dc_turn pm_turn cd_turn ct_turn : Value} {od_turn an_turn : Option Addr} {sl_turn : Array (Option Value)} {g_undo : Addr} {oc_undo kw_undo dc_undo pm_undo cd_undo ct_undo : Value} {od_undo an_undo : Option Addr} {sl_undo : Array (Option Value)} {g_history : Addr} {oc_history kw_history dc_history pm_history cd_history ct_history : Value} {od_history an_history : Option Addr} {sl_history : Array (Option Value)} {g_tree : Addr} {oc_tree  dc_tree pm_tree cd_tree ct_tree : Value} {od_tree an_tree : Option Addr} {sl_tree : Array (Option Value)} {DK_tree : Addr} {g_version : Addr} {oc_version kw_version dc_version pm_version cd_version ct_version : Value} {od_version an_version : Option Addr} {sl_version : Array (Option Value)} {p_version : Addr} {rs_version : List Value} {g_size : Addr} {oc_size kw_size dc_size pm_size cd_size ct_size : Value} {od_size an_size : Option Addr} {sl_size : Array (Option Value)} {p_size : Addr} {rs_size : List Value} {g_first : Addr} {oc_first kw_first dc_first pm_first cd_first ct_first : Value} {od_first an_first : Option Addr} {sl_first : Array (Option Value)} {p_first : Addr} {rs_first : List Value} {g_between : Addr} {oc_between kw_between dc_between pm_between cd_between ct_between : Value} {od_between an_between : Option Addr} {sl_between : Array (Option Value)} {p_between : Addr} {rs_between : List Value} {g_last : Addr} {oc_last kw_last dc_last pm_last cd_last ct_last : Value} {od_last an_last : Option Addr} {sl_last : Array (Option Value)} {p_last : Addr} {rs_last : List Value} {g_law_some_edit T_law_some_edit : Addr} {oc_law_some_edit kw_law_some_edit dc_law_some_edit pm_law_some_edit cd_law_some_edit ct_law_some_edit : Value} {od_law_some_edit an_law_some_edit : Option Addr} {sl_law_some_edit : Array (Option Value)} {to_law_some_edit : Option Addr} {tn_law_some_edit : Nat} {ts_law_some_edit : Array (Option Value)} {tt_law_some_edit : Tok} {g_law_valid_edit T_law_valid_edit : Addr} {oc_law_valid_edit kw_law_valid_edit dc_law_valid_edit pm_law_valid_edit cd_law_valid_edit ct_law_valid_edit : Value} {od_law_valid_edit an_law_valid_edit : Option Addr} {sl_law_valid_edit : Array (Option Value)} {to_law_valid_edit : Option Addr} {tn_law_valid_edit : Nat} {ts_law_valid_edit : Array (Option Value)} {tt_law_valid_edit : Tok}
    {nm_NoVersion q_NoVersion : Str} {N_NoVersion : Addr} {bs_NoVersion sub_NoVersion : List Value} {sn_NoVersion : List Str} {ab_NoVersion : Bool} {col_NoVersion : Option Bool} {dd_NoVersion : Option Addr} {m0_NoVersion m1_NoVersion m2_NoVersion m3_NoVersion m5_NoVersion : Option Value}  {oc_NoVersion dc_NoVersion pm_NoVersion cd_NoVersion ct_NoVersion : Value} {od_NoVersion an_NoVersion : Option Addr} {sl_NoVersion : Array (Option Value)}
    (a_NoVersion : PySem.W.nsIn K mainGlobals "NoVersion" = some (some (.ref C_NoVersion)))
    (a_WalkError : PySem.W.nsIn K mainGlobals "WalkError" = some (some (.ref C_WalkError)))
    (a_NoPath : PySem.W.nsIn K mainGlobals "NoPath" = some (some (.ref C_NoPath)))
    (a_NoIndex : PySem.W.nsIn K mainGlobals "NoIndex" = some (some (.ref C_NoIndex)))
    (x_NoVersion : K.lookup C_NoVersion = some (excClassObj nm_NoVersion q_NoVersion C_NoVersion N_NoVersion bs_NoVersion [.type "LookupError", .type "Exception", .type "BaseException", .type "object"] true sn_NoVersion sub_NoVersion ab_NoVersion col_NoVersion dd_NoVersion m0_NoVersion m1_NoVersion m2_NoVersion m3_NoVersion m5_NoVersion "LookupError.__new__"))
    (sa_NoVersion : PySem.W.findIn K (.ref C_NoVersion) "__setattr__" = some (some (.builtin "object.__setattr__")))
    (ga_NoVersion : PySem.W.findIn K (.ref C_NoVersion) "__getattribute__" = some (some (.builtin "BaseException.__getattribute__")))
    (gg_NoVersion : PySem.W.findIn K (.ref C_NoVersion) "__getattr__" = some none)
    (nb_NoVersion : PySem.W.findIn K (.ref C_NoVersion) "value" = some none)
    (ii_NoVersion : PySem.W.findIn K (.ref C_NoVersion) "__init__" = some (some (.ref i_NoVersion)))
    (ti_NoVersion : PySem.W.typeIn K (.ref i_NoVersion) = some (.type "function"))
    (li_NoVersion : K.lookup i_NoVersion = some ⟨oc_NoVersion, od_NoVersion, .func (PySem.W.fnOf "__init__" "NoVersion.__init__" (iA_value ⟨56, 17, 56, 21⟩ ⟨56, 23, 56, 28⟩) (iB_value ⟨57, 8, 57, 12⟩ ⟨57, 8, 57, 18⟩ ⟨57, 21, 57, 26⟩ ⟨57, 8, 57, 26⟩) iS_value .none .none dc_NoVersion pm_NoVersion an_NoVersion cd_NoVersion ct_NoVersion), sl_NoVersion⟩)
    (ci_NoVersion : PySem.W.codeIn K cd_NoVersion "NoVersion.__init__" = true)
    (kC_NoVersion : PySem.W.keepIn K (.ref C_NoVersion) = true)
    (eC_NoVersion : PySem.W.subIn K (.ref C_NoVersion) (.type "BaseException") = some true)
    (tC_NoVersion : PySem.W.typeIn K (.ref C_NoVersion) = some (.type "type"))
    (hC_NoVersion : PySem.W.hasDictIn K C_NoVersion = true)
    (h1_NoVersion : PySem.W.findIn K (.ref C_NoVersion) "__class__" = some (some (.builtin "object.__class__")))
    (h2_NoVersion : PySem.W.specialIn K (.builtin "object.__class__") "__get__" = some (some (.builtin "getset_descriptor.__get__")))
    (h3_NoVersion : PySem.W.takesIn K (.builtin "object.__class__") = some true)
    (h4_NoVersion : PySem.W.mroIn K C_NoVersion (.type "object") = some true)
    (aDK : PySem.W.nsIn K mainGlobals "Desk" = some (some (.ref CD)))
    (pg : PySem.W.plainGet K CD Str.empty = true)
    (hd : PySem.W.hasDictIn K CD = true)
    (po : PySem.W.plainOver K CD = true)
    (sa : PySem.W.findIn K (.ref CD) "__setattr__" = some (some (.builtin "object.__setattr__")))
    (mk : PySem.W.makesIn K CD = true)
    (kc : PySem.W.keepIn K (.ref CD) = true)
    (nT : PySem.W.findIn K (.ref CD) "trees" = some none)
    (nD : PySem.W.findIn K (.ref CD) "done" = some none)
    (nB : PySem.W.findIn K (.ref CD) "busy" = some none)
    (moA : PySem.W.findIn K (.ref CD) "MOST_EDITS" = some (some (.int 60 tME)))
    (moG : PySem.W.specialIn K (.int 60 tME) "__get__" = some none)
    (aAn : PySem.W.nsIn K mainGlobals "ACTIONS" = some (some (.ref aA)))
    (aAl : K.lookup aA = some ⟨.type "dict", none, .dict esA nA, #[]⟩)
    (aAk : PySem.W.KeysLit w.params esA.toList)
    (aA_put : PySem.W.nsIn K aA "put" = some (some (.ref f13)))
    (aA_cut : PySem.W.nsIn K aA "cut" = some (some (.ref f14)))
    (aA_label : PySem.W.nsIn K aA "label" = some (some (.ref f15)))
    (aA_turn : PySem.W.nsIn K aA "turn" = some (some (.ref f16)))
    (aKn : PySem.W.nsIn K mainGlobals "KINDS" = some (some (.ref aK)))
    (aKl : K.lookup aK = some ⟨.type "tuple", oK, .seq #[.str "first" tK1, .str "between" tK2, .str "last" tK3, .str "level" tK4] nK, sK⟩)
    (e1_NV : PySem.W.exmOne K (.ref C_NoVersion) (.ref C_NoVersion) = some true)
    (kNVL : PySem.W.kitOne K (.ref C_NoVersion) (.type "LookupError") = some true)
    (kNVM : PySem.W.kitAny K (.ref C_NoVersion) [.ref C_WalkError, .ref C_NoPath, .ref C_NoIndex] = some false)
    (at_init : PySem.W.findIn K (.ref CD) "__init__" = some (some (.ref g_init)))
    (fn_init : PySem.W.isFn K (.ref g_init) = true)
    (kp_init : PySem.W.keepIn K (.ref g_init) = true)
    (lk_init : K.lookup g_init = some ⟨oc_init, od_init, .func (PySem.W.fnOf "__init__" "Desk.__init__" (defArgs s_Desk___init__) (defBody s_Desk___init__) (defScope s_Desk___init__) .none kw_init dc_init pm_init an_init cd_init ct_init), sl_init⟩)
    (cd_f_init : PySem.W.codeIn K cd_init "Desk.__init__" = true)
    (at_check_free : PySem.W.findIn K (.ref CD) "check_free" = some (some (.ref g_check_free)))
    (fn_check_free : PySem.W.isFn K (.ref g_check_free) = true)
    (kp_check_free : PySem.W.keepIn K (.ref g_check_free) = true)
    (lk_check_free : K.lookup g_check_free = some ⟨oc_check_free, od_check_free, .func (PySem.W.fnOf "check_free" "Desk.check_free" (defArgs s_Desk_check_free) (defBody s_Desk_check_free) (defScope s_Desk_check_free) .none kw_check_free dc_check_free pm_check_free an_check_free cd_check_free ct_check_free), sl_check_free⟩)
    (cd_f_check_free : PySem.W.codeIn K cd_check_free "Desk.check_free" = true)
    (at_check_tree : PySem.W.findIn K (.ref CD) "check_tree" = some (some (.ref g_check_tree)))
    (fn_check_tree : PySem.W.isFn K (.ref g_check_tree) = true)
    (kp_check_tree : PySem.W.keepIn K (.ref g_check_tree) = true)
    (lk_check_tree : K.lookup g_check_tree = some ⟨oc_check_tree, od_check_tree, .func (PySem.W.fnOf "check_tree" "Desk.check_tree" (defArgs s_Desk_check_tree) (defBody s_Desk_check_tree) (defScope s_Desk_check_tree) .none kw_check_tree dc_check_tree pm_check_tree an_check_tree cd_check_tree ct_check_tree), sl_check_tree⟩)
    (cd_f_check_tree : PySem.W.codeIn K cd_check_tree "Desk.check_tree" = true)
    (at_told : PySem.W.findIn K (.ref CD) "told" = some (some (.ref g_told)))
    (fn_told : PySem.W.isFn K (.ref g_told) = true)
    (kp_told : PySem.W.keepIn K (.ref g_told) = true)
    (lk_told : K.lookup g_told = some ⟨oc_told, od_told, .func (PySem.W.fnOf "told" "Desk.told" (defArgs s_Desk_told) (defBody s_Desk_told) (defScope s_Desk_told) .none kw_told dc_told pm_told an_told cd_told ct_told), sl_told⟩)
    (cd_f_told : PySem.W.codeIn K cd_told "Desk.told" = true)
    (at_take : PySem.W.findIn K (.ref CD) "take" = some (some (.ref g_take)))
    (fn_take : PySem.W.isFn K (.ref g_take) = true)
    (kp_take : PySem.W.keepIn K (.ref g_take) = true)
    (lk_take : K.lookup g_take = some ⟨oc_take, od_take, .func (PySem.W.fnOf "take" "Desk.take" (defArgs s_Desk_take) (defBody s_Desk_take) (defScope s_Desk_take) .none kw_take dc_take pm_take an_take cd_take ct_take), sl_take⟩)
    (cd_f_take : PySem.W.codeIn K cd_take "Desk.take" = true)
    (at_called : PySem.W.findIn K (.ref CD) "called" = some (some (.ref g_called)))
    (fn_called : PySem.W.isFn K (.ref g_called) = true)
    (kp_called : PySem.W.keepIn K (.ref g_called) = true)
    (lk_called : K.lookup g_called = some ⟨oc_called, od_called, .func (PySem.W.fnOf "called" "Desk.called" (defArgs s_Desk_called) (defBody s_Desk_called) (defScope s_Desk_called) .none kw_called dc_called pm_called an_called cd_called ct_called), sl_called⟩)
    (cd_f_called : PySem.W.codeIn K cd_called "Desk.called" = true)
    (at_put : PySem.W.findIn K (.ref CD) "put" = some (some (.ref g_put)))
    (fn_put : PySem.W.isFn K (.ref g_put) = true)
    (kp_put : PySem.W.keepIn K (.ref g_put) = true)
    (lk_put : K.lookup g_put = some ⟨oc_put, od_put, .func (PySem.W.fnOf "put" "Desk.put" (defArgs s_Desk_put) (defBody s_Desk_put) (defScope s_Desk_put) .none kw_put dc_put pm_put an_put cd_put ct_put), sl_put⟩)
    (cd_f_put : PySem.W.codeIn K cd_put "Desk.put" = true)
    (at_cut : PySem.W.findIn K (.ref CD) "cut" = some (some (.ref g_cut)))
    (fn_cut : PySem.W.isFn K (.ref g_cut) = true)
    (kp_cut : PySem.W.keepIn K (.ref g_cut) = true)
    (lk_cut : K.lookup g_cut = some ⟨oc_cut, od_cut, .func (PySem.W.fnOf "cut" "Desk.cut" (defArgs s_Desk_cut) (defBody s_Desk_cut) (defScope s_Desk_cut) .none kw_cut dc_cut pm_cut an_cut cd_cut ct_cut), sl_cut⟩)
    (cd_f_cut : PySem.W.codeIn K cd_cut "Desk.cut" = true)
    (at_label : PySem.W.findIn K (.ref CD) "label" = some (some (.ref g_label)))
    (fn_label : PySem.W.isFn K (.ref g_label) = true)
    (kp_label : PySem.W.keepIn K (.ref g_label) = true)
    (lk_label : K.lookup g_label = some ⟨oc_label, od_label, .func (PySem.W.fnOf "label" "Desk.label" (defArgs s_Desk_label) (defBody s_Desk_label) (defScope s_Desk_label) .none kw_label dc_label pm_label an_label cd_label ct_label), sl_label⟩)
    (cd_f_label : PySem.W.codeIn K cd_label "Desk.label" = true)
    (at_turn : PySem.W.findIn K (.ref CD) "turn" = some (some (.ref g_turn)))
    (fn_turn : PySem.W.isFn K (.ref g_turn) = true)
    (kp_turn : PySem.W.keepIn K (.ref g_turn) = true)
    (lk_turn : K.lookup g_turn = some ⟨oc_turn, od_turn, .func (PySem.W.fnOf "turn" "Desk.turn" (defArgs s_Desk_turn) (defBody s_Desk_turn) (defScope s_Desk_turn) .none kw_turn dc_turn pm_turn an_turn cd_turn ct_turn), sl_turn⟩)
    (cd_f_turn : PySem.W.codeIn K cd_turn "Desk.turn" = true)
    (at_undo : PySem.W.findIn K (.ref CD) "undo" = some (some (.ref g_undo)))
    (fn_undo : PySem.W.isFn K (.ref g_undo) = true)
    (kp_undo : PySem.W.keepIn K (.ref g_undo) = true)
    (lk_undo : K.lookup g_undo = some ⟨oc_undo, od_undo, .func (PySem.W.fnOf "undo" "Desk.undo" (defArgs s_Desk_undo) (defBody s_Desk_undo) (defScope s_Desk_undo) .none kw_undo dc_undo pm_undo an_undo cd_undo ct_undo), sl_undo⟩)
    (cd_f_undo : PySem.W.codeIn K cd_undo "Desk.undo" = true)
    (at_history : PySem.W.findIn K (.ref CD) "history" = some (some (.ref g_history)))
    (fn_history : PySem.W.isFn K (.ref g_history) = true)
    (kp_history : PySem.W.keepIn K (.ref g_history) = true)
    (lk_history : K.lookup g_history = some ⟨oc_history, od_history, .func (PySem.W.fnOf "history" "Desk.history" (defArgs s_Desk_history) (defBody s_Desk_history) (defScope s_Desk_history) .none kw_history dc_history pm_history an_history cd_history ct_history), sl_history⟩)
    (cd_f_history : PySem.W.codeIn K cd_history "Desk.history" = true)
    (at_tree : PySem.W.findIn K (.ref CD) "tree" = some (some (.ref g_tree)))
    (fn_tree : PySem.W.isFn K (.ref g_tree) = true)
    (kp_tree : PySem.W.keepIn K (.ref g_tree) = true)
    (lk_tree : K.lookup g_tree = some ⟨oc_tree, od_tree, .func (PySem.W.fnOf "tree" "Desk.tree" (defArgs s_Desk_tree) (defBody s_Desk_tree) (defScope s_Desk_tree) .none (.ref DK_tree) dc_tree pm_tree an_tree cd_tree ct_tree), sl_tree⟩)
    (cd_f_tree : PySem.W.codeIn K cd_tree "Desk.tree" = true)
    (ns_tree_version : PySem.W.nsIn K DK_tree "version" = some (some .none))
    (at_version : PySem.W.findIn K (.ref CD) "version" = some (some (.ref p_version)))
    (gt_version : PySem.W.specialIn K (.ref p_version) "__get__" = some (some (.builtin "property.__get__")))
    (tk_version : PySem.W.takesIn K (.ref p_version) = some true)
    (rc_version : PySem.W.recIn K p_version "property" = some (.ref g_version :: rs_version))
    (kp_version : PySem.W.keepIn K (.ref g_version) = true)
    (lk_version : K.lookup g_version = some ⟨oc_version, od_version, .func (PySem.W.fnOf "version" "Desk.version" (defArgs s_Desk_version) (defBody s_Desk_version) (defScope s_Desk_version) .none kw_version dc_version pm_version an_version cd_version ct_version), sl_version⟩)
    (cd_f_version : PySem.W.codeIn K cd_version "Desk.version" = true)
    (at_size : PySem.W.findIn K (.ref CD) "size" = some (some (.ref p_size)))
    (gt_size : PySem.W.specialIn K (.ref p_size) "__get__" = some (some (.builtin "property.__get__")))
    (tk_size : PySem.W.takesIn K (.ref p_size) = some true)
    (rc_size : PySem.W.recIn K p_size "property" = some (.ref g_size :: rs_size))
    (kp_size : PySem.W.keepIn K (.ref g_size) = true)
    (lk_size : K.lookup g_size = some ⟨oc_size, od_size, .func (PySem.W.fnOf "size" "Desk.size" (defArgs s_Desk_size) (defBody s_Desk_size) (defScope s_Desk_size) .none kw_size dc_size pm_size an_size cd_size ct_size), sl_size⟩)
    (cd_f_size : PySem.W.codeIn K cd_size "Desk.size" = true)
    (at_first : PySem.W.findIn K (.ref CD) "first" = some (some (.ref p_first)))
    (gt_first : PySem.W.specialIn K (.ref p_first) "__get__" = some (some (.builtin "property.__get__")))
    (tk_first : PySem.W.takesIn K (.ref p_first) = some true)
    (rc_first : PySem.W.recIn K p_first "property" = some (.ref g_first :: rs_first))
    (kp_first : PySem.W.keepIn K (.ref g_first) = true)
    (lk_first : K.lookup g_first = some ⟨oc_first, od_first, .func (PySem.W.fnOf "first" "Desk.first" (defArgs s_Desk_first) (defBody s_Desk_first) (defScope s_Desk_first) .none kw_first dc_first pm_first an_first cd_first ct_first), sl_first⟩)
    (cd_f_first : PySem.W.codeIn K cd_first "Desk.first" = true)
    (at_between : PySem.W.findIn K (.ref CD) "between" = some (some (.ref p_between)))
    (gt_between : PySem.W.specialIn K (.ref p_between) "__get__" = some (some (.builtin "property.__get__")))
    (tk_between : PySem.W.takesIn K (.ref p_between) = some true)
    (rc_between : PySem.W.recIn K p_between "property" = some (.ref g_between :: rs_between))
    (kp_between : PySem.W.keepIn K (.ref g_between) = true)
    (lk_between : K.lookup g_between = some ⟨oc_between, od_between, .func (PySem.W.fnOf "between" "Desk.between" (defArgs s_Desk_between) (defBody s_Desk_between) (defScope s_Desk_between) .none kw_between dc_between pm_between an_between cd_between ct_between), sl_between⟩)
    (cd_f_between : PySem.W.codeIn K cd_between "Desk.between" = true)
    (at_last : PySem.W.findIn K (.ref CD) "last" = some (some (.ref p_last)))
    (gt_last : PySem.W.specialIn K (.ref p_last) "__get__" = some (some (.builtin "property.__get__")))
    (tk_last : PySem.W.takesIn K (.ref p_last) = some true)
    (rc_last : PySem.W.recIn K p_last "property" = some (.ref g_last :: rs_last))
    (kp_last : PySem.W.keepIn K (.ref g_last) = true)
    (lk_last : K.lookup g_last = some ⟨oc_last, od_last, .func (PySem.W.fnOf "last" "Desk.last" (defArgs s_Desk_last) (defBody s_Desk_last) (defScope s_Desk_last) .none kw_last dc_last pm_last an_last cd_last ct_last), sl_last⟩)
    (cd_f_last : PySem.W.codeIn K cd_last "Desk.last" = true)
    (a_law_some_edit : PySem.W.nsIn K mainGlobals "_law_some_edit" = some (some (.ref g_law_some_edit)))
    (kp_law_some_edit : PySem.W.keepIn K (.ref g_law_some_edit) = true)
    (lk_law_some_edit : K.lookup g_law_some_edit = some ⟨oc_law_some_edit, od_law_some_edit, .func (PySem.W.fnOf "_law_some_edit" "_law_some_edit" (defArgs s__law_some_edit) (defBody s__law_some_edit) (defScope s__law_some_edit) (.ref T_law_some_edit) kw_law_some_edit dc_law_some_edit pm_law_some_edit an_law_some_edit cd_law_some_edit ct_law_some_edit), sl_law_some_edit⟩)
    (cd_f_law_some_edit : PySem.W.codeIn K cd_law_some_edit "_law_some_edit" = true)
    (tl_law_some_edit : K.lookup T_law_some_edit = some ⟨.type "tuple", to_law_some_edit, .seq #[.int 13 tt_law_some_edit] tn_law_some_edit, ts_law_some_edit⟩)
    (a_law_valid_edit : PySem.W.nsIn K mainGlobals "_law_valid_edit" = some (some (.ref g_law_valid_edit)))
    (kp_law_valid_edit : PySem.W.keepIn K (.ref g_law_valid_edit) = true)
    (lk_law_valid_edit : K.lookup g_law_valid_edit = some ⟨oc_law_valid_edit, od_law_valid_edit, .func (PySem.W.fnOf "_law_valid_edit" "_law_valid_edit" (defArgs s__law_valid_edit) (defBody s__law_valid_edit) (defScope s__law_valid_edit) (.ref T_law_valid_edit) kw_law_valid_edit dc_law_valid_edit pm_law_valid_edit an_law_valid_edit cd_law_valid_edit ct_law_valid_edit), sl_law_valid_edit⟩)
    (cd_f_law_valid_edit : PySem.W.codeIn K cd_law_valid_edit "_law_valid_edit" = true)
    (tl_law_valid_edit : K.lookup T_law_valid_edit = some ⟨.type "tuple", to_law_valid_edit, .seq #[.int 13 tt_law_valid_edit] tn_law_valid_edit, ts_law_valid_edit⟩)
    (a1 : PySem.W.nsIn K mainGlobals "is_letter" = some (some (.ref f1)))
    (l1 : K.lookup f1 = some ⟨oc1, od1, .func (PySem.W.fnOf "is_letter" "is_letter" (defArgs s_is_letter) (defBody s_is_letter) (defScope s_is_letter) .none kV1 dc1 pm1 an1 cd1 ct1), sl1⟩)
    (c1 : PySem.W.codeIn K cd1 "is_letter" = true)
    (k1 : PySem.W.keepIn K (.ref f1) = true)
    (a2 : PySem.W.nsIn K mainGlobals "is_whole_number" = some (some (.ref f2)))
    (l2 : K.lookup f2 = some ⟨oc2, od2, .func (PySem.W.fnOf "is_whole_number" "is_whole_number" (defArgs s_is_whole_number) (defBody s_is_whole_number) (defScope s_is_whole_number) .none kV2 dc2 pm2 an2 cd2 ct2), sl2⟩)
    (c2 : PySem.W.codeIn K cd2 "is_whole_number" = true)
    (k2 : PySem.W.keepIn K (.ref f2) = true)
    (a3 : PySem.W.nsIn K mainGlobals "is_index" = some (some (.ref f3)))
    (l3 : K.lookup f3 = some ⟨oc3, od3, .func (PySem.W.fnOf "is_index" "is_index" (defArgs s_is_index) (defBody s_is_index) (defScope s_is_index) .none kV3 dc3 pm3 an3 cd3 ct3), sl3⟩)
    (c3 : PySem.W.codeIn K cd3 "is_index" = true)
    (k3 : PySem.W.keepIn K (.ref f3) = true)
    (a4 : PySem.W.nsIn K mainGlobals "is_node" = some (some (.ref f4)))
    (l4 : K.lookup f4 = some ⟨oc4, od4, .func (PySem.W.fnOf "is_node" "is_node" (defArgs s_is_node) (defBody s_is_node) (defScope s_is_node) .none kV4 dc4 pm4 an4 cd4 ct4), sl4⟩)
    (c4 : PySem.W.codeIn K cd4 "is_node" = true)
    (k4 : PySem.W.keepIn K (.ref f4) = true)
    (a5 : PySem.W.nsIn K mainGlobals "is_tree" = some (some (.ref f5)))
    (l5 : K.lookup f5 = some ⟨oc5, od5, .func (PySem.W.fnOf "is_tree" "is_tree" (defArgs s_is_tree) (defBody s_is_tree) (defScope s_is_tree) .none kV5 dc5 pm5 an5 cd5 ct5), sl5⟩)
    (c5 : PySem.W.codeIn K cd5 "is_tree" = true)
    (k5 : PySem.W.keepIn K (.ref f5) = true)
    (a6 : PySem.W.nsIn K mainGlobals "size_of" = some (some (.ref f6)))
    (l6 : K.lookup f6 = some ⟨oc6, od6, .func (PySem.W.fnOf "size_of" "size_of" (defArgs s_size_of) (defBody s_size_of) (defScope s_size_of) .none kV6 dc6 pm6 an6 cd6 ct6), sl6⟩)
    (c6 : PySem.W.codeIn K cd6 "size_of" = true)
    (k6 : PySem.W.keepIn K (.ref f6) = true)
    (a7 : PySem.W.nsIn K mainGlobals "part_at" = some (some (.ref f7)))
    (l7 : K.lookup f7 = some ⟨oc7, od7, .func (PySem.W.fnOf "part_at" "part_at" (defArgs s_part_at) (defBody s_part_at) (defScope s_part_at) .none kV7 dc7 pm7 an7 cd7 ct7), sl7⟩)
    (c7 : PySem.W.codeIn K cd7 "part_at" = true)
    (k7 : PySem.W.keepIn K (.ref f7) = true)
    (a8 : PySem.W.nsIn K mainGlobals "is_open" = some (some (.ref f8)))
    (l8 : K.lookup f8 = some ⟨oc8, od8, .func (PySem.W.fnOf "is_open" "is_open" (defArgs s_is_open) (defBody s_is_open) (defScope s_is_open) .none kV8 dc8 pm8 an8 cd8 ct8), sl8⟩)
    (c8 : PySem.W.codeIn K cd8 "is_open" = true)
    (k8 : PySem.W.keepIn K (.ref f8) = true)
    (a9 : PySem.W.nsIn K mainGlobals "replaced" = some (some (.ref f9)))
    (l9 : K.lookup f9 = some ⟨oc9, od9, .func (PySem.W.fnOf "replaced" "replaced" (defArgs s_replaced) (defBody s_replaced) (defScope s_replaced) .none kV9 dc9 pm9 an9 cd9 ct9), sl9⟩)
    (c9 : PySem.W.codeIn K cd9 "replaced" = true)
    (k9 : PySem.W.keepIn K (.ref f9) = true)
    (a10 : PySem.W.nsIn K mainGlobals "with_part" = some (some (.ref f10)))
    (l10 : K.lookup f10 = some ⟨oc10, od10, .func (PySem.W.fnOf "with_part" "with_part" (defArgs s_with_part) (defBody s_with_part) (defScope s_with_part) .none kV10 dc10 pm10 an10 cd10 ct10), sl10⟩)
    (c10 : PySem.W.codeIn K cd10 "with_part" = true)
    (k10 : PySem.W.keepIn K (.ref f10) = true)
    (a11 : PySem.W.nsIn K mainGlobals "mirrored" = some (some (.ref f11)))
    (l11 : K.lookup f11 = some ⟨oc11, od11, .func (PySem.W.fnOf "mirrored" "mirrored" (defArgs s_mirrored) (defBody s_mirrored) (defScope s_mirrored) .none kV11 dc11 pm11 an11 cd11 ct11), sl11⟩)
    (c11 : PySem.W.codeIn K cd11 "mirrored" = true)
    (k11 : PySem.W.keepIn K (.ref f11) = true)
    (a12 : PySem.W.nsIn K mainGlobals "node_at" = some (some (.ref f12)))
    (l12 : K.lookup f12 = some ⟨oc12, od12, .func (PySem.W.fnOf "node_at" "node_at" (defArgs s_node_at) (defBody s_node_at) (defScope s_node_at) .none kV12 dc12 pm12 an12 cd12 ct12), sl12⟩)
    (c12 : PySem.W.codeIn K cd12 "node_at" = true)
    (k12 : PySem.W.keepIn K (.ref f12) = true)
    (a13 : PySem.W.nsIn K mainGlobals "with_node" = some (some (.ref f13)))
    (l13 : K.lookup f13 = some ⟨oc13, od13, .func (PySem.W.fnOf "with_node" "with_node" (defArgs s_with_node) (defBody s_with_node) (defScope s_with_node) .none kV13 dc13 pm13 an13 cd13 ct13), sl13⟩)
    (c13 : PySem.W.codeIn K cd13 "with_node" = true)
    (k13 : PySem.W.keepIn K (.ref f13) = true)
    (a14 : PySem.W.nsIn K mainGlobals "without_node" = some (some (.ref f14)))
    (l14 : K.lookup f14 = some ⟨oc14, od14, .func (PySem.W.fnOf "without_node" "without_node" (defArgs s_without_node) (defBody s_without_node) (defScope s_without_node) .none kV14 dc14 pm14 an14 cd14 ct14), sl14⟩)
    (c14 : PySem.W.codeIn K cd14 "without_node" = true)
    (k14 : PySem.W.keepIn K (.ref f14) = true)
    (a15 : PySem.W.nsIn K mainGlobals "with_label" = some (some (.ref f15)))
    (l15 : K.lookup f15 = some ⟨oc15, od15, .func (PySem.W.fnOf "with_label" "with_label" (defArgs s_with_label) (defBody s_with_label) (defScope s_with_label) .none kV15 dc15 pm15 an15 cd15 ct15), sl15⟩)
    (c15 : PySem.W.codeIn K cd15 "with_label" = true)
    (k15 : PySem.W.keepIn K (.ref f15) = true)
    (a16 : PySem.W.nsIn K mainGlobals "turned" = some (some (.ref f16)))
    (l16 : K.lookup f16 = some ⟨oc16, od16, .func (PySem.W.fnOf "turned" "turned" (defArgs s_turned) (defBody s_turned) (defScope s_turned) .none kV16 dc16 pm16 an16 cd16 ct16), sl16⟩)
    (c16 : PySem.W.codeIn K cd16 "turned" = true)
    (k16 : PySem.W.keepIn K (.ref f16) = true)
    (a17 : PySem.W.nsIn K mainGlobals "edited" = some (some (.ref f17)))
    (l17 : K.lookup f17 = some ⟨oc17, od17, .func (PySem.W.fnOf "edited" "edited" (defArgs s_edited) (defBody s_edited) (defScope s_edited) .none kV17 dc17 pm17 an17 cd17 ct17), sl17⟩)
    (c17 : PySem.W.codeIn K cd17 "edited" = true)
    (k17 : PySem.W.keepIn K (.ref f17) = true)
    (a18 : PySem.W.nsIn K mainGlobals "is_kind" = some (some (.ref f18)))
    (l18 : K.lookup f18 = some ⟨oc18, od18, .func (PySem.W.fnOf "is_kind" "is_kind" (defArgs s_is_kind) (defBody s_is_kind) (defScope s_is_kind) .none kV18 dc18 pm18 an18 cd18 ct18), sl18⟩)
    (c18 : PySem.W.codeIn K cd18 "is_kind" = true)
    (k18 : PySem.W.keepIn K (.ref f18) = true)
    (a19 : PySem.W.nsIn K mainGlobals "ordered_steps" = some (some (.ref f19)))
    (l19 : K.lookup f19 = some ⟨oc19, od19, .func (PySem.W.fnOf "ordered_steps" "ordered_steps" (defArgs s_ordered_steps) (defBody s_ordered_steps) (defScope s_ordered_steps) .none kV19 dc19 pm19 an19 cd19 ct19), sl19⟩)
    (c19 : PySem.W.codeIn K cd19 "ordered_steps" = true)
    (k19 : PySem.W.keepIn K (.ref f19) = true)
    (a20 : PySem.W.nsIn K mainGlobals "deep_steps" = some (some (.ref f20)))
    (l20 : K.lookup f20 = some ⟨oc20, od20, .func (PySem.W.fnOf "deep_steps" "deep_steps" (defArgs s_deep_steps) (defBody s_deep_steps) (defScope s_deep_steps) .none kV20 dc20 pm20 an20 cd20 ct20), sl20⟩)
    (c20 : PySem.W.codeIn K cd20 "deep_steps" = true)
    (k20 : PySem.W.keepIn K (.ref f20) = true)
    (a21 : PySem.W.nsIn K mainGlobals "walk" = some (some (.ref f21)))
    (l21 : K.lookup f21 = some ⟨oc21, od21, .func (PySem.W.fnOf "walk" "walk" (defArgs s_walk) (defBody s_walk) (defScope s_walk) .none kV21 dc21 pm21 an21 cd21 ct21), sl21⟩)
    (c21 : PySem.W.codeIn K cd21 "walk" = true)
    (k21 : PySem.W.keepIn K (.ref f21) = true)
    (a22 : PySem.W.nsIn K mainGlobals "_law_stream" = some (some (.ref f22)))
    (l22 : K.lookup f22 = some ⟨oc22, od22, .func (PySem.W.fnOf "_law_stream" "_law_stream" (defArgs s__law_stream) (defBody s__law_stream) (defScope s__law_stream) .none kV22 dc22 pm22 an22 cd22 ct22), sl22⟩)
    (c22 : PySem.W.codeIn K cd22 "_law_stream" = true)
    (k22 : PySem.W.keepIn K (.ref f22) = true)
    (a23 : PySem.W.nsIn K mainGlobals "_law_take" = some (some (.ref f23)))
    (l23 : K.lookup f23 = some ⟨oc23, od23, .func (PySem.W.fnOf "_law_take" "_law_take" (defArgs s__law_take) (defBody s__law_take) (defScope s__law_take) .none kV23 dc23 pm23 an23 cd23 ct23), sl23⟩)
    (c23 : PySem.W.codeIn K cd23 "_law_take" = true)
    (k23 : PySem.W.keepIn K (.ref f23) = true)
    (a24 : PySem.W.nsIn K mainGlobals "_law_from" = some (some (.ref f24)))
    (l24 : K.lookup f24 = some ⟨oc24, od24, .func (PySem.W.fnOf "_law_from" "_law_from" (defArgs s__law_from) (defBody s__law_from) (defScope s__law_from) .none kV24 dc24 pm24 an24 cd24 ct24), sl24⟩)
    (c24 : PySem.W.codeIn K cd24 "_law_from" = true)
    (k24 : PySem.W.keepIn K (.ref f24) = true)
    (a25 : PySem.W.nsIn K mainGlobals "_law_equal" = some (some (.ref f25)))
    (l25 : K.lookup f25 = some ⟨oc25, od25, .func (PySem.W.fnOf "_law_equal" "_law_equal" (defArgs s__law_equal) (defBody s__law_equal) (defScope s__law_equal) .none kV25 dc25 pm25 an25 cd25 ct25), sl25⟩)
    (c25 : PySem.W.codeIn K cd25 "_law_equal" = true)
    (k25 : PySem.W.keepIn K (.ref f25) = true)
    (a26 : PySem.W.nsIn K mainGlobals "_law_odd" = some (some (.ref f26)))
    (l26 : K.lookup f26 = some ⟨oc26, od26, .func (PySem.W.fnOf "_law_odd" "_law_odd" (defArgs s__law_odd) (defBody s__law_odd) (defScope s__law_odd) .none kV26 dc26 pm26 an26 cd26 ct26), sl26⟩)
    (c26 : PySem.W.codeIn K cd26 "_law_odd" = true)
    (k26 : PySem.W.keepIn K (.ref f26) = true)
    (a27 : PySem.W.nsIn K mainGlobals "_law_letter" = some (some (.ref f27)))
    (l27 : K.lookup f27 = some ⟨oc27, od27, .func (PySem.W.fnOf "_law_letter" "_law_letter" (defArgs s__law_letter) (defBody s__law_letter) (defScope s__law_letter) .none kV27 dc27 pm27 an27 cd27 ct27), sl27⟩)
    (c27 : PySem.W.codeIn K cd27 "_law_letter" = true)
    (k27 : PySem.W.keepIn K (.ref f27) = true)
    (a28 : PySem.W.nsIn K mainGlobals "_law_paths" = some (some (.ref f28)))
    (l28 : K.lookup f28 = some ⟨oc28, od28, .func (PySem.W.fnOf "_law_paths" "_law_paths" (defArgs s__law_paths) (defBody s__law_paths) (defScope s__law_paths) .none kV28 dc28 pm28 an28 cd28 ct28), sl28⟩)
    (c28 : PySem.W.codeIn K cd28 "_law_paths" = true)
    (k28 : PySem.W.keepIn K (.ref f28) = true)
    (a29 : PySem.W.nsIn K mainGlobals "_law_part" = some (some (.ref f29)))
    (l29 : K.lookup f29 = some ⟨oc29, od29, .func (PySem.W.fnOf "_law_part" "_law_part" (defArgs s__law_part) (defBody s__law_part) (defScope s__law_part) .none kV29 dc29 pm29 an29 cd29 ct29), sl29⟩)
    (c29 : PySem.W.codeIn K cd29 "_law_part" = true)
    (k29 : PySem.W.keepIn K (.ref f29) = true)
    (a30 : PySem.W.nsIn K mainGlobals "_law_grafted" = some (some (.ref f30)))
    (l30 : K.lookup f30 = some ⟨oc30, od30, .func (PySem.W.fnOf "_law_grafted" "_law_grafted" (defArgs s__law_grafted) (defBody s__law_grafted) (defScope s__law_grafted) .none kV30 dc30 pm30 an30 cd30 ct30), sl30⟩)
    (c30 : PySem.W.codeIn K cd30 "_law_grafted" = true)
    (k30 : PySem.W.keepIn K (.ref f30) = true)
    (a31 : PySem.W.nsIn K mainGlobals "_law_swapped" = some (some (.ref f31)))
    (l31 : K.lookup f31 = some ⟨oc31, od31, .func (PySem.W.fnOf "_law_swapped" "_law_swapped" (defArgs s__law_swapped) (defBody s__law_swapped) (defScope s__law_swapped) .none kV31 dc31 pm31 an31 cd31 ct31), sl31⟩)
    (c31 : PySem.W.codeIn K cd31 "_law_swapped" = true)
    (k31 : PySem.W.keepIn K (.ref f31) = true)
    (a32 : PySem.W.nsIn K mainGlobals "_law_labels" = some (some (.ref f32)))
    (l32 : K.lookup f32 = some ⟨oc32, od32, .func (PySem.W.fnOf "_law_labels" "_law_labels" (defArgs s__law_labels) (defBody s__law_labels) (defScope s__law_labels) .none kV32 dc32 pm32 an32 cd32 ct32), sl32⟩)
    (c32 : PySem.W.codeIn K cd32 "_law_labels" = true)
    (k32 : PySem.W.keepIn K (.ref f32) = true)
    (a33 : PySem.W.nsIn K mainGlobals "_law_spot" = some (some (.ref f33)))
    (l33 : K.lookup f33 = some ⟨oc33, od33, .func (PySem.W.fnOf "_law_spot" "_law_spot" (defArgs s__law_spot) (defBody s__law_spot) (defScope s__law_spot) .none kV33 dc33 pm33 an33 cd33 ct33), sl33⟩)
    (c33 : PySem.W.codeIn K cd33 "_law_spot" = true)
    (k33 : PySem.W.keepIn K (.ref f33) = true)
    (a34 : PySem.W.nsIn K mainGlobals "_law_sorted_tree" = some (some (.ref f34)))
    (l34 : K.lookup f34 = some ⟨oc34, od34, .func (PySem.W.fnOf "_law_sorted_tree" "_law_sorted_tree" (defArgs s__law_sorted_tree) (defBody s__law_sorted_tree) (defScope s__law_sorted_tree) .none kV34 dc34 pm34 an34 cd34 ct34), sl34⟩)
    (c34 : PySem.W.codeIn K cd34 "_law_sorted_tree" = true)
    (k34 : PySem.W.keepIn K (.ref f34) = true)
    (a35 : PySem.W.nsIn K mainGlobals "_law_tree" = some (some (.ref f35)))
    (l35 : K.lookup f35 = some ⟨oc35, od35, .func (PySem.W.fnOf "_law_tree" "_law_tree" (defArgs s__law_tree) (defBody s__law_tree) (defScope s__law_tree) .none kV35 dc35 pm35 an35 cd35 ct35), sl35⟩)
    (c35 : PySem.W.codeIn K cd35 "_law_tree" = true)
    (k35 : PySem.W.keepIn K (.ref f35) = true)
    (a36 : PySem.W.nsIn K mainGlobals "_law_is_letter" = some (some (.ref f36)))
    (l36 : K.lookup f36 = some ⟨oc36, od36, .func (PySem.W.fnOf "_law_is_letter" "_law_is_letter" (defArgs s__law_is_letter) (defBody s__law_is_letter) (defScope s__law_is_letter) .none kV36 dc36 pm36 an36 cd36 ct36), sl36⟩)
    (c36 : PySem.W.codeIn K cd36 "_law_is_letter" = true)
    (k36 : PySem.W.keepIn K (.ref f36) = true)
    (a37 : PySem.W.nsIn K mainGlobals "_law_due_put" = some (some (.ref f37)))
    (l37 : K.lookup f37 = some ⟨oc37, od37, .func (PySem.W.fnOf "_law_due_put" "_law_due_put" (defArgs s__law_due_put) (defBody s__law_due_put) (defScope s__law_due_put) .none kV37 dc37 pm37 an37 cd37 ct37), sl37⟩)
    (c37 : PySem.W.codeIn K cd37 "_law_due_put" = true)
    (k37 : PySem.W.keepIn K (.ref f37) = true)
    (a38 : PySem.W.nsIn K mainGlobals "_law_due" = some (some (.ref f38)))
    (l38 : K.lookup f38 = some ⟨oc38, od38, .func (PySem.W.fnOf "_law_due" "_law_due" (defArgs s__law_due) (defBody s__law_due) (defScope s__law_due) .none kV38 dc38 pm38 an38 cd38 ct38), sl38⟩)
    (c38 : PySem.W.codeIn K cd38 "_law_due" = true)
    (k38 : PySem.W.keepIn K (.ref f38) = true)
    (a39 : PySem.W.nsIn K mainGlobals "_law_do" = some (some (.ref f39)))
    (l39 : K.lookup f39 = some ⟨oc39, od39, .func (PySem.W.fnOf "_law_do" "_law_do" (defArgs s__law_do) (defBody s__law_do) (defScope s__law_do) .none kV39 dc39 pm39 an39 cd39 ct39), sl39⟩)
    (c39 : PySem.W.codeIn K cd39 "_law_do" = true)
    (k39 : PySem.W.keepIn K (.ref f39) = true)
    (a40 : PySem.W.nsIn K mainGlobals "_law_answer" = some (some (.ref f40)))
    (l40 : K.lookup f40 = some ⟨oc40, od40, .func (PySem.W.fnOf "_law_answer" "_law_answer" (defArgs s__law_answer) (defBody s__law_answer) (defScope s__law_answer) .none kV40 dc40 pm40 an40 cd40 ct40), sl40⟩)
    (c40 : PySem.W.codeIn K cd40 "_law_answer" = true)
    (k40 : PySem.W.keepIn K (.ref f40) = true)
    (a41 : PySem.W.nsIn K mainGlobals "_law_due_answer" = some (some (.ref f41)))
    (l41 : K.lookup f41 = some ⟨oc41, od41, .func (PySem.W.fnOf "_law_due_answer" "_law_due_answer" (defArgs s__law_due_answer) (defBody s__law_due_answer) (defScope s__law_due_answer) .none kV41 dc41 pm41 an41 cd41 ct41), sl41⟩)
    (c41 : PySem.W.codeIn K cd41 "_law_due_answer" = true)
    (k41 : PySem.W.keepIn K (.ref f41) = true)
    (a42 : PySem.W.nsIn K mainGlobals "_law_right" = some (some (.ref f42)))
    (l42 : K.lookup f42 = some ⟨oc42, od42, .func (PySem.W.fnOf "_law_right" "_law_right" (defArgs s__law_right) (defBody s__law_right) (defScope s__law_right) .none kV42 dc42 pm42 an42 cd42 ct42), sl42⟩)
    (c42 : PySem.W.codeIn K cd42 "_law_right" = true)
    (k42 : PySem.W.keepIn K (.ref f42) = true)
    (a43 : PySem.W.nsIn K mainGlobals "law" = some (some (.ref f43)))
    (l43 : K.lookup f43 = some ⟨oc43, od43, .func (PySem.W.fnOf "law" "law" (defArgs s_law) (defBody s_law) (defScope s_law) .none kV43 dc43 pm43 an43 cd43 ct43), sl43⟩)
    (c43 : PySem.W.codeIn K cd43 "law" = true)
    (k43 : PySem.W.keepIn K (.ref f43) = true)
    (z1 : PySem.W.nsIn K mainGlobals "zip" = some none)
    (z2 : PySem.W.nsIn K mainGlobals "all" = some none)
    (z3 : PySem.W.nsIn K mainGlobals "repr" = some none)
    (z4 : PySem.W.nsIn K mainGlobals "len" = some none)
    (z5 : PySem.W.nsIn K mainGlobals "isinstance" = some none)
    (z6 : PySem.W.nsIn K mainGlobals "list" = some none)
    (z7 : PySem.W.nsIn K mainGlobals "tuple" = some none)
    (z8 : PySem.W.nsIn K mainGlobals "str" = some none)
    (z9 : PySem.W.nsIn K mainGlobals "int" = some none)
    (z10 : PySem.W.nsIn K mainGlobals "bool" = some none)
    (z11 : PySem.W.nsIn K mainGlobals "dict" = some none)
    (z12 : PySem.W.nsIn K mainGlobals "range" = some none)
    (z13 : PySem.W.nsIn K mainGlobals "sorted" = some none)
    (z14 : PySem.W.nsIn K mainGlobals "abs" = some none)
    (z15 : PySem.W.nsIn K mainGlobals "min" = some none)
    (z16 : PySem.W.nsIn K mainGlobals "max" = some none)
    (z17 : PySem.W.nsIn K mainGlobals "enumerate" = some none)
    (z18 : PySem.W.nsIn K mainGlobals "LookupError" = some none)
    (z19 : PySem.W.nsIn K mainGlobals "ValueError" = some none)
    (v1 : PySem.W.nsIn K mainGlobals "MAX_NODES" = some (some (.int 12 t1)))
    : ∀ (base : Heap) (H : Hp) (s : Shared) (a : Addr) (ns : List Int), K.In base → base.Ns mainGlobals mg → Env0 l.prog w K mg base callerA [] s H → SqL K H a (ns.map V.int) → ns.length ≤ 63 →
      codeAny (model l.prog w) callerA (.call (.ref fa) ⟨[.ref a], []⟩) (CR CX0 [] l.prog w H s (fun v _ => v = .bl true) fun _ _ _ => False) s := by
  intro base H s a ns _ _ en hS hn
  have e := hfa.symm.trans (PySem.W.mg_of X G a43)
  cases e
  have gC_NoVersion := PySem.W.mg_of X G a_NoVersion
  have gC_WalkError := PySem.W.mg_of X G a_WalkError
  have gC_NoPath := PySem.W.mg_of X G a_NoPath
  have gC_NoIndex := PySem.W.mg_of X G a_NoIndex
  have F1 := fun_mk (st := s_is_letter) l1 c1 k1
  have g1 := PySem.W.mg_of X G a1
  have F2 := fun_mk (st := s_is_whole_number) l2 c2 k2
  have g2 := PySem.W.mg_of X G a2
  have F3 := fun_mk (st := s_is_index) l3 c3 k3
  have g3 := PySem.W.mg_of X G a3
  have F4 := fun_mk (st := s_is_node) l4 c4 k4
  have g4 := PySem.W.mg_of X G a4
  have F5 := fun_mk (st := s_is_tree) l5 c5 k5
  have g5 := PySem.W.mg_of X G a5
  have F6 := fun_mk (st := s_size_of) l6 c6 k6
  have g6 := PySem.W.mg_of X G a6
  have F7 := fun_mk (st := s_part_at) l7 c7 k7
  have g7 := PySem.W.mg_of X G a7
  have F8 := fun_mk (st := s_is_open) l8 c8 k8
  have g8 := PySem.W.mg_of X G a8
  have F9 := fun_mk (st := s_replaced) l9 c9 k9
  have g9 := PySem.W.mg_of X G a9
  have F10 := fun_mk (st := s_with_part) l10 c10 k10
  have g10 := PySem.W.mg_of X G a10
  have F11 := fun_mk (st := s_mirrored) l11 c11 k11
  have g11 := PySem.W.mg_of X G a11
  have F12 := fun_mk (st := s_node_at) l12 c12 k12
  have g12 := PySem.W.mg_of X G a12
  have F13 := fun_mk (st := s_with_node) l13 c13 k13
  have g13 := PySem.W.mg_of X G a13
  have F14 := fun_mk (st := s_without_node) l14 c14 k14
  have g14 := PySem.W.mg_of X G a14
  have F15 := fun_mk (st := s_with_label) l15 c15 k15
  have g15 := PySem.W.mg_of X G a15
  have F16 := fun_mk (st := s_turned) l16 c16 k16
  have g16 := PySem.W.mg_of X G a16
  have F17 := fun_mk (st := s_edited) l17 c17 k17
  have g17 := PySem.W.mg_of X G a17
  have F18 := fun_mk (st := s_is_kind) l18 c18 k18
  have g18 := PySem.W.mg_of X G a18
  have F19 := fun_mk (st := s_ordered_steps) l19 c19 k19
  have g19 := PySem.W.mg_of X G a19
  have F20 := fun_mk (st := s_deep_steps) l20 c20 k20
  have g20 := PySem.W.mg_of X G a20
  have F21 := fun_mk (st := s_walk) l21 c21 k21
  have g21 := PySem.W.mg_of X G a21
  have F22 := fun_mk (st := s__law_stream) l22 c22 k22
  have g22 := PySem.W.mg_of X G a22
  have F23 := fun_mk (st := s__law_take) l23 c23 k23
  have g23 := PySem.W.mg_of X G a23
  have F24 := fun_mk (st := s__law_from) l24 c24 k24
  have g24 := PySem.W.mg_of X G a24
  have F25 := fun_mk (st := s__law_equal) l25 c25 k25
  have g25 := PySem.W.mg_of X G a25
  have F26 := fun_mk (st := s__law_odd) l26 c26 k26
  have g26 := PySem.W.mg_of X G a26
  have F27 := fun_mk (st := s__law_letter) l27 c27 k27
  have g27 := PySem.W.mg_of X G a27
  have F28 := fun_mk (st := s__law_paths) l28 c28 k28
  have g28 := PySem.W.mg_of X G a28
  have F29 := fun_mk (st := s__law_part) l29 c29 k29
  have g29 := PySem.W.mg_of X G a29
  have F30 := fun_mk (st := s__law_grafted) l30 c30 k30
  have g30 := PySem.W.mg_of X G a30
  have F31 := fun_mk (st := s__law_swapped) l31 c31 k31
  have g31 := PySem.W.mg_of X G a31
  have F32 := fun_mk (st := s__law_labels) l32 c32 k32
  have g32 := PySem.W.mg_of X G a32
  have F33 := fun_mk (st := s__law_spot) l33 c33 k33
  have g33 := PySem.W.mg_of X G a33
  have F34 := fun_mk (st := s__law_sorted_tree) l34 c34 k34
  have g34 := PySem.W.mg_of X G a34
  have F35 := fun_mk (st := s__law_tree) l35 c35 k35
  have g35 := PySem.W.mg_of X G a35
  have F36 := fun_mk (st := s__law_is_letter) l36 c36 k36
  have g36 := PySem.W.mg_of X G a36
  have F37 := fun_mk (st := s__law_due_put) l37 c37 k37
  have g37 := PySem.W.mg_of X G a37
  have F38 := fun_mk (st := s__law_due) l38 c38 k38
  have g38 := PySem.W.mg_of X G a38
  have F39 := fun_mk (st := s__law_do) l39 c39 k39
  have g39 := PySem.W.mg_of X G a39
  have F40 := fun_mk (st := s__law_answer) l40 c40 k40
  have g40 := PySem.W.mg_of X G a40
  have F41 := fun_mk (st := s__law_due_answer) l41 c41 k41
  have g41 := PySem.W.mg_of X G a41
  have F42 := fun_mk (st := s__law_right) l42 c42 k42
  have g42 := PySem.W.mg_of X G a42
  have F43 := fun_mk (st := s_law) l43 c43 k43
  have m_zip := PySem.W.mg_none_of X G z1
  have m_all := PySem.W.mg_none_of X G z2
  have m_repr := PySem.W.mg_none_of X G z3
  have m_len := PySem.W.mg_none_of X G z4
  have m_isinstance := PySem.W.mg_none_of X G z5
  have m_list := PySem.W.mg_none_of X G z6
  have m_tuple := PySem.W.mg_none_of X G z7
  have m_str := PySem.W.mg_none_of X G z8
  have m_int := PySem.W.mg_none_of X G z9
  have m_bool := PySem.W.mg_none_of X G z10
  have m_dict := PySem.W.mg_none_of X G z11
  have m_range := PySem.W.mg_none_of X G z12
  have m_sorted := PySem.W.mg_none_of X G z13
  have m_abs := PySem.W.mg_none_of X G z14
  have m_min := PySem.W.mg_none_of X G z15
  have m_max := PySem.W.mg_none_of X G z16
  have m_enumerate := PySem.W.mg_none_of X G z17
  have m_LookupError := PySem.W.mg_none_of X G z18
  have m_ValueError := PySem.W.mg_none_of X G z19
  have m1 := PySem.W.mg_of X G v1
  have b1 := F1.binds (ps := ["value"]) fun _ _ _ _ _ _ us hl => match us, hl with | [_], _ => rfl
  have b2 := F2.binds (ps := ["value"]) fun _ _ _ _ _ _ us hl => match us, hl with | [_], _ => rfl
  have b3 := F3.binds (ps := ["value", "many"]) fun _ _ _ _ _ _ us hl => match us, hl with | [_, _], _ => rfl
  have b4 := F4.binds (ps := ["value"]) fun _ _ _ _ _ _ us hl => match us, hl with | [_], _ => rfl
  have b5 := F5.binds (ps := ["value"]) fun _ _ _ _ _ _ us hl => match us, hl with | [_], _ => rfl
  have b6 := F6.binds (ps := ["tree"]) fun _ _ _ _ _ _ us hl => match us, hl with | [_], _ => rfl
  have b7 := F7.binds (ps := ["tree", "path"]) fun _ _ _ _ _ _ us hl => match us, hl with | [_, _], _ => rfl
  have b8 := F8.binds (ps := ["tree", "path"]) fun _ _ _ _ _ _ us hl => match us, hl with | [_, _], _ => rfl
  have b9 := F9.binds (ps := ["tree", "path", "part"]) fun _ _ _ _ _ _ us hl => match us, hl with | [_, _, _], _ => rfl
  have b10 := F10.binds (ps := ["tree", "path", "part"]) fun _ _ _ _ _ _ us hl => match us, hl with | [_, _, _], _ => rfl
  have b11 := F11.binds (ps := ["tree"]) fun _ _ _ _ _ _ us hl => match us, hl with | [_], _ => rfl
  have b12 := F12.binds (ps := ["tree", "path"]) fun _ _ _ _ _ _ us hl => match us, hl with | [_, _], _ => rfl
  have b13 := F13.binds (ps := ["tree", "path", "label"]) fun _ _ _ _ _ _ us hl => match us, hl with | [_, _, _], _ => rfl
  have b14 := F14.binds (ps := ["tree", "path"]) fun _ _ _ _ _ _ us hl => match us, hl with | [_, _], _ => rfl
  have b15 := F15.binds (ps := ["tree", "path", "label"]) fun _ _ _ _ _ _ us hl => match us, hl with | [_, _, _], _ => rfl
  have b16 := F16.binds (ps := ["tree", "path"]) fun _ _ _ _ _ _ us hl => match us, hl with | [_, _], _ => rfl
  have b17 := F17.binds (ps := ["tree", "edit"]) fun _ _ _ _ _ _ us hl => match us, hl with | [_, _], _ => rfl
  have b18 := F18.binds (ps := ["value"]) fun _ _ _ _ _ _ us hl => match us, hl with | [_], _ => rfl
  have b19 := F19.binds (ps := ["tree", "kind"]) fun _ _ _ _ _ _ us hl => match us, hl with | [_, _], _ => rfl
  have b20 := F20.binds (ps := ["tree", "kind", "path"]) fun _ _ _ _ _ _ us hl => match us, hl with | [_, _, _], _ => rfl
  have b21 := F21.binds (ps := ["tree", "kind"]) fun _ _ _ _ _ _ us hl => match us, hl with | [_, _], _ => rfl
  have b22 := F22.binds (ps := ["_law_script", "_law_turn"]) fun _ _ _ _ _ _ us hl => match us, hl with | [_, _], _ => rfl
  have b23 := F23.binds (ps := ["_law_stream_here", "_law_many"]) fun _ _ _ _ _ _ us hl => match us, hl with | [_, _], _ => rfl
  have b24 := F24.binds (ps := ["_law_thing", "_law_low", "_law_high"]) fun _ _ _ _ _ _ us hl => match us, hl with | [_, _, _], _ => rfl
  have b25 := F25.binds (ps := ["_law_one", "_law_other"]) fun _ _ _ _ _ _ us hl => match us, hl with | [_, _], _ => rfl
  have b26 := F26.binds (ps := ["_law_stream_here"]) fun _ _ _ _ _ _ us hl => match us, hl with | [_], _ => rfl
  have b27 := F27.binds (ps := ["_law_stream_here"]) fun _ _ _ _ _ _ us hl => match us, hl with | [_], _ => rfl
  have b28 := F28.binds (ps := ["_law_tree_here"]) fun _ _ _ _ _ _ us hl => match us, hl with | [_], _ => rfl
  have b29 := F29.binds (ps := ["_law_tree_here", "_law_path"]) fun _ _ _ _ _ _ us hl => match us, hl with | [_, _], _ => rfl
  have b30 := F30.binds (ps := ["_law_tree_here", "_law_path", "_law_part_here"]) fun _ _ _ _ _ _ us hl => match us, hl with | [_, _, _], _ => rfl
  have b31 := F31.binds (ps := ["_law_tree_here"]) fun _ _ _ _ _ _ us hl => match us, hl with | [_], _ => rfl
  have b32 := F32.binds (ps := ["_law_tree_here", "_law_kind"]) fun _ _ _ _ _ _ us hl => match us, hl with | [_, _], _ => rfl
  have b33 := F33.binds (ps := ["_law_tree_here", "_law_letter_here"]) fun _ _ _ _ _ _ us hl => match us, hl with | [_, _], _ => rfl
  have b34 := F34.binds (ps := ["_law_stream_here", "_law_size"]) fun _ _ _ _ _ _ us hl => match us, hl with | [_, _], _ => rfl
  have b35 := F35.binds (ps := ["_law_stream_here", "_law_top"]) fun _ _ _ _ _ _ us hl => match us, hl with | [_, _], _ => rfl
  have b36 := F36.binds (ps := ["_law_value"]) fun _ _ _ _ _ _ us hl => match us, hl with | [_], _ => rfl
  have b37 := F37.binds (ps := ["_law_tree_here", "_law_edit", "_law_nodes", "_law_opens"]) fun _ _ _ _ _ _ us hl => match us, hl with | [_, _, _, _], _ => rfl
  have b38 := F38.binds (ps := ["_law_tree_here", "_law_edit"]) fun _ _ _ _ _ _ us hl => match us, hl with | [_, _], _ => rfl
  have b39 := F39.binds (ps := ["_law_desk", "_law_edit"]) fun _ _ _ _ _ _ us hl => match us, hl with | [_, _], _ => rfl
  have b40 := F40.binds (ps := ["_law_desk", "_law_moment"]) fun _ _ _ _ _ _ us hl => match us, hl with | [_, _], _ => rfl
  have b41 := F41.binds (ps := ["_law_states", "_law_moment"]) fun _ _ _ _ _ _ us hl => match us, hl with | [_, _], _ => rfl
  have b42 := F42.binds (ps := ["_law_stream_here", "_law_desk", "_law_states", "_law_many"]) fun _ _ _ _ _ _ us hl => match us, hl with | [_, _, _, _], _ => rfl
  have E_NoVersion : Err_value K mg "LookupError.__new__" leT "NoVersion" "NoVersion.__init__" C_NoVersion i_NoVersion :=
    { gC := gC_NoVersion, nd := by decide +kernel, cls := ⟨nm_NoVersion, q_NoVersion, N_NoVersion, bs_NoVersion, _, sn_NoVersion, sub_NoVersion, ab_NoVersion, col_NoVersion, dd_NoVersion, m0_NoVersion, m1_NoVersion, m2_NoVersion, m3_NoVersion, m5_NoVersion, x_NoVersion, by first | rfl | decide +kernel⟩, sa := sa_NoVersion, ga := ga_NoVersion, gg := gg_NoVersion, noN := nb_NoVersion, iC := ii_NoVersion, tC := ti_NoVersion, kC := kC_NoVersion, exC := eC_NoVersion, tyC := tC_NoVersion, hdC := hC_NoVersion,
      fn := ⟨_, _, _, _, _, _, _, _, _, _, _, _, _, _, li_NoVersion, ci_NoVersion⟩ }
  have X_NoVersion : ExcC K C_NoVersion := ⟨ga_NoVersion, gg_NoVersion, eC_NoVersion, hC_NoVersion, h1_NoVersion, h2_NoVersion, h3_NoVersion, h4_NoVersion⟩
  have M : Mgs mg := ⟨m_zip, m_all, m_repr, m_len, m_isinstance, m_list, m_tuple, m_str, m_int, m_bool, m_dict, m_range, m_sorted, m_abs, m_min, m_max⟩
  have TD : DeskC K mg CD := ⟨⟨pg, hd, po, sa⟩, nT, nD, nB, PySem.W.mg_of X G aDK, ⟨_, moA, moG, ⟨_, rfl⟩, by decide +kernel⟩⟩
  have Dis_letter : Df l.prog w K mg base 1 "is_letter" ["value"] spLow := ⟨f1, _, ok_low (k := 0) F1 M, b1, k1, g1⟩
  have Dis_node : Df l.prog w K mg base 2 "is_node" ["value"] spNodeT := ⟨f4, _, ok_node (k := 0) F4 M Dis_letter, b4, k4, g4⟩
  have Dis_tree : Df l.prog w K mg base 3 "is_tree" ["value"] spTreeT := ⟨f5, _, ok_isTree F5 m1 Dis_node, b5, k5, g5⟩
  have Dsize_of : Df l.prog w K mg base 20 "size_of" ["tree"] (spSz 20) := ⟨f6, _, ok_size F6 b6 g6 20, b6, k6, g6⟩
  have Dpart_at : Df l.prog w K mg base 1 "part_at" ["tree", "path"] spPart := ⟨f7, _, ok_part (k := 0) F7 M, b7, k7, g7⟩
  have Dis_open : Df l.prog w K mg base 2 "is_open" ["tree", "path"] spOpen := ⟨f8, _, ok_open (k := 0) F8 Dpart_at, b8, k8, g8⟩
  have Dwith_part : Df l.prog w K mg base 20 "with_part" ["tree", "path", "part"] (spWith 20) := ⟨f10, _, ok_with F10 b10 g10 20, b10, k10, g10⟩
  have Dreplaced : Df l.prog w K mg base 21 "replaced" ["tree", "path", "part"] spRepl := ⟨f9, _, ok_repl F9 m1 Dpart_at Dsize_of Dwith_part, b9, k9, g9⟩
  have Dmirrored : Df l.prog w K mg base 20 "mirrored" ["tree"] (spMir 20) := ⟨f11, _, ok_mir F11 b11 g11 20, b11, k11, g11⟩
  have Dnode_at : Df l.prog w K mg base 2 "node_at" ["tree", "path"] spNodeAt := ⟨f12, _, ok_nodeAt (k := 0) F12 Dpart_at, b12, k12, g12⟩
  have AC : Acts K w mg aA f13 f14 f15 f16 := ⟨PySem.W.mg_of X G aAn, ⟨_, _, _, aAl, aAk, aA_put, rfl⟩, ⟨_, _, _, aAl, aAk, aA_cut, rfl⟩, ⟨_, _, _, aAl, aAk, aA_label, rfl⟩, ⟨_, _, _, aAl, aAk, aA_turn, rfl⟩⟩
  have R1 : FnR l.prog w K mg base CX0 22 f13 (spAct isPut) := (FnOk.raw (ok_withNode F13 Dis_open Dis_letter Dreplaced) b13 .nil).imp fun vs H Q E h => by rw [List.append_nil]; exact h
  have R2 : FnR l.prog w K mg base CX0 22 f14 (spAct isCut) := (FnOk.raw (ok_without F14 Dnode_at Dreplaced) b14 .nil).imp fun vs H Q E h => by rw [List.append_nil]; exact h
  have R3 : FnR l.prog w K mg base CX0 22 f15 (spAct isLab) := (FnOk.raw (ok_withLabel F15 Dnode_at Dis_letter Dreplaced) b15 .nil).imp fun vs H Q E h => by rw [List.append_nil]; exact h
  have R4 : FnR l.prog w K mg base CX0 22 f16 (spAct isTur) := (FnOk.raw (ok_turned F16 Dnode_at Dmirrored Dreplaced) b16 .nil).imp fun vs H Q E h => by rw [List.append_nil]; exact h
  have Dedited : Df l.prog w K mg base 23 "edited" ["tree", "edit"] spEdited := ⟨f17, _, ok_edited F17 AC ⟨R1, k13⟩ ⟨R2, k14⟩ ⟨R3, k15⟩ ⟨R4, k16⟩, b17, k17, g17⟩
  have Kk : KindsT K mg aK := ⟨PySem.W.mg_of X G aKn, fun H => .inr ⟨_, _, _, aKl, rfl, rfl, (by show 4 ≤ sizeLine; decide), .cons ⟨_, rfl⟩ (.cons ⟨_, rfl⟩ (.cons ⟨_, rfl⟩ (.cons ⟨_, rfl⟩ .nil)))⟩⟩
  have Dis_kind : Df l.prog w K mg base 1 "is_kind" ["value"] spKind := ⟨f18, _, ok_kind (k := 0) F18 M Kk, b18, k18, g18⟩
  have Ddeep_steps : Df l.prog w K mg base 60 "deep_steps" ["tree", "kind", "path"] (spDeep 60) := ⟨f20, _, ok_deep F20 b20 g20 60, b20, k20, g20⟩
  have Dordered_steps : Df l.prog w K mg base 61 "ordered_steps" ["tree", "kind"] spSteps := ⟨f19, _, ok_steps F19 Dis_kind Ddeep_steps, b19, k19, g19⟩
  have Dwalk : Df l.prog w K mg base 62 "walk" ["tree", "kind"] spWalk := ⟨f21, _, ok_walk F21 Dordered_steps, b21, k21, g21⟩
  have D_law_stream : Df l.prog w K mg base 1 "_law_stream" ["_law_script", "_law_turn"] (spStream K) := ⟨f22, _, ok_stream (k := 0) F22 M, b22, k22, g22⟩
  have D_law_take : Df l.prog w K mg base 1 "_law_take" ["_law_stream_here", "_law_many"] spTake1 := ⟨f23, _, ok_take1 (k := 0) F23, b23, k23, g23⟩
  have D_law_letter : Df l.prog w K mg base 2 "_law_letter" ["_law_stream_here"] spLetter1 := ⟨f27, _, ok_letter1 F27 D_law_take, b27, k27, g27⟩
  have D_law_paths : Df l.prog w K mg base 1 "_law_paths" ["_law_tree_here"] spPaths := ⟨f28, _, ok_lpaths (k := 0) F28, b28, k28, g28⟩
  have D_law_part : Df l.prog w K mg base 1 "_law_part" ["_law_tree_here", "_law_path"] spPart := ⟨f29, _, ok_lpart (k := 0) F29, b29, k29, g29⟩
  have D_law_grafted : Df l.prog w K mg base 20 "_law_grafted" ["_law_tree_here", "_law_path", "_law_part_here"] (spWith 20) := ⟨f30, _, ok_lgraft F30 b30 g30 20, b30, k30, g30⟩
  have D_law_swapped : Df l.prog w K mg base 20 "_law_swapped" ["_law_tree_here"] (spMir 20) := ⟨f31, _, ok_lswap F31 b31 g31 20, b31, k31, g31⟩
  have D_law_labels : Df l.prog w K mg base 20 "_law_labels" ["_law_tree_here", "_law_kind"] (spLabs 20) := ⟨f32, _, ok_llabels F32 b32 g32 20, b32, k32, g32⟩
  have D_law_spot : Df l.prog w K mg base 1 "_law_spot" ["_law_tree_here", "_law_letter_here"] spSpot := ⟨f33, _, ok_spot1 (k := 0) F33, b33, k33, g33⟩
  have D_law_sorted_tree : Df l.prog w K mg base 21 "_law_sorted_tree" ["_law_stream_here", "_law_size"] spSTree := ⟨f34, _, ok_sortedTree F34 M D_law_take D_law_spot D_law_grafted, b34, k34, g34⟩
  have D_law_tree : Df l.prog w K mg base 22 "_law_tree" ["_law_stream_here", "_law_top"] spTreeL := ⟨f35, _, ok_treeL F35 M D_law_take D_law_letter D_law_sorted_tree D_law_paths D_law_grafted, b35, k35, g35⟩
  have EV : ErrV K mg C_NoVersion := ⟨e1_NV, X_NoVersion, m_LookupError, ⟨_, _, _, gC_WalkError, gC_NoPath, gC_NoIndex, kNVM⟩, kNVL⟩
  have F_init := fun_mk (st := s_Desk___init__) lk_init cd_f_init kp_init
  have b_init := F_init.binds (ps := ["self", "tree"]) fun _ _ _ _ _ _ us hl => match us, hl with | [_, _], _ => rfl
  have F_check_free := fun_mk (st := s_Desk_check_free) lk_check_free cd_f_check_free kp_check_free
  have b_check_free := F_check_free.binds (ps := ["self"]) fun _ _ _ _ _ _ us hl => match us, hl with | [_], _ => rfl
  have F_check_tree := fun_mk (st := s_Desk_check_tree) lk_check_tree cd_f_check_tree kp_check_tree
  have b_check_tree := F_check_tree.binds (ps := ["self", "tree"]) fun _ _ _ _ _ _ us hl => match us, hl with | [_, _], _ => rfl
  have F_told := fun_mk (st := s_Desk_told) lk_told cd_f_told kp_told
  have b_told := F_told.binds (ps := ["self", "name"]) fun _ _ _ _ _ _ us hl => match us, hl with | [_, _], _ => rfl
  have F_take := fun_mk (st := s_Desk_take) lk_take cd_f_take kp_take
  have b_take := F_take.binds (ps := ["self", "edit"]) fun _ _ _ _ _ _ us hl => match us, hl with | [_, _], _ => rfl
  have F_called := fun_mk (st := s_Desk_called) lk_called cd_f_called kp_called
  have b_called := F_called.binds (ps := ["self", "edit"]) fun _ _ _ _ _ _ us hl => match us, hl with | [_, _], _ => rfl
  have F_put := fun_mk (st := s_Desk_put) lk_put cd_f_put kp_put
  have b_put := F_put.binds (ps := ["self", "path", "label"]) fun _ _ _ _ _ _ us hl => match us, hl with | [_, _, _], _ => rfl
  have F_cut := fun_mk (st := s_Desk_cut) lk_cut cd_f_cut kp_cut
  have b_cut := F_cut.binds (ps := ["self", "path"]) fun _ _ _ _ _ _ us hl => match us, hl with | [_, _], _ => rfl
  have F_label := fun_mk (st := s_Desk_label) lk_label cd_f_label kp_label
  have b_label := F_label.binds (ps := ["self", "path", "label"]) fun _ _ _ _ _ _ us hl => match us, hl with | [_, _, _], _ => rfl
  have F_turn := fun_mk (st := s_Desk_turn) lk_turn cd_f_turn kp_turn
  have b_turn := F_turn.binds (ps := ["self", "path"]) fun _ _ _ _ _ _ us hl => match us, hl with | [_, _], _ => rfl
  have F_undo := fun_mk (st := s_Desk_undo) lk_undo cd_f_undo kp_undo
  have b_undo := F_undo.binds (ps := ["self"]) fun _ _ _ _ _ _ us hl => match us, hl with | [_], _ => rfl
  have F_history := fun_mk (st := s_Desk_history) lk_history cd_f_history kp_history
  have b_history := F_history.binds (ps := ["self"]) fun _ _ _ _ _ _ us hl => match us, hl with | [_], _ => rfl
  have F_tree := fun_mk (st := s_Desk_tree) lk_tree cd_f_tree kp_tree
  have FD_tree : FunD K "tree" "Desk.tree" (defArgs s_Desk_tree) (defBody s_Desk_tree) (defScope s_Desk_tree) [] [("version", .non)] g_tree _ := ⟨⟨_, _, _, _, _, _, _, _, _, _, rfl, lk_tree, cd_f_tree, .inl ⟨rfl, rfl⟩, .inr ⟨DK_tree, rfl, fun q hq => by rw [List.mem_singleton.mp hq]; exact ⟨_, ns_tree_version, rfl⟩⟩⟩, kp_tree⟩
  obtain ⟨dn_tree, vd_tree, b_tree⟩ := FD_tree.binds0 (ps := ["self", "version"]) 1 (by simp) rfl (fun D doc pm an cdv ct us ks h1 h2 => match us, ks, h1, h2 with | [_], [_], _, _ => ⟨_, _, _, _, _, _, rfl, rfl, rfl⟩)
  have F_version := fun_mk (st := s_Desk_version) lk_version cd_f_version kp_version
  have b_version := F_version.binds (ps := ["self"]) fun _ _ _ _ _ _ us hl => match us, hl with | [_], _ => rfl
  have F_size := fun_mk (st := s_Desk_size) lk_size cd_f_size kp_size
  have b_size := F_size.binds (ps := ["self"]) fun _ _ _ _ _ _ us hl => match us, hl with | [_], _ => rfl
  have F_first := fun_mk (st := s_Desk_first) lk_first cd_f_first kp_first
  have b_first := F_first.binds (ps := ["self"]) fun _ _ _ _ _ _ us hl => match us, hl with | [_], _ => rfl
  have F_between := fun_mk (st := s_Desk_between) lk_between cd_f_between kp_between
  have b_between := F_between.binds (ps := ["self"]) fun _ _ _ _ _ _ us hl => match us, hl with | [_], _ => rfl
  have F_last := fun_mk (st := s_Desk_last) lk_last cd_f_last kp_last
  have b_last := F_last.binds (ps := ["self"]) fun _ _ _ _ _ _ us hl => match us, hl with | [_], _ => rfl
  have Dcf : MDf l.prog w K mg base CD 1 "check_free" ["self"] (spFree CD) := ⟨g_check_free, _, ok_free (k := 0) F_check_free TD, b_check_free, ⟨at_check_free, fn_check_free, kp_check_free⟩⟩
  have Dct : MDf l.prog w K mg base CD 1 "check_tree" ["self", "tree"] spCT := ⟨g_check_tree, _, ok_ct (k := 0) F_check_tree, b_check_tree, ⟨at_check_tree, fn_check_tree, kp_check_tree⟩⟩
  have Dtold : MDf l.prog w K mg base CD 1 "told" ["self", "name"] (spTold CD) := ⟨g_told, _, ok_told (k := 0) F_told TD M, b_told, ⟨at_told, fn_told, kp_told⟩⟩
  have Dtake : MDf l.prog w K mg base CD 24 "take" ["self", "edit"] (spTake CD) := ⟨g_take, _, ok_take F_take TD M Dedited Dct, b_take, ⟨at_take, fn_take, kp_take⟩⟩
  have Dcalled : MDf l.prog w K mg base CD 25 "called" ["self", "edit"] (spCalled CD) := ⟨g_called, _, ok_called F_called TD Dcf Dtake Dtold, b_called, ⟨at_called, fn_called, kp_called⟩⟩
  have Dput : MDf l.prog w K mg base CD 26 "put" ["self", "path", "label"] (spDo CD isPut) := ⟨g_put, _, ok_put F_put TD Dcalled, b_put, ⟨at_put, fn_put, kp_put⟩⟩
  have Dcut : MDf l.prog w K mg base CD 26 "cut" ["self", "path"] (spDo CD isCut) := ⟨g_cut, _, ok_cut F_cut TD Dcalled, b_cut, ⟨at_cut, fn_cut, kp_cut⟩⟩
  have Dlabel : MDf l.prog w K mg base CD 26 "label" ["self", "path", "label"] (spDo CD isLab) := ⟨g_label, _, ok_label F_label TD Dcalled, b_label, ⟨at_label, fn_label, kp_label⟩⟩
  have Dturn : MDf l.prog w K mg base CD 26 "turn" ["self", "path"] (spDo CD isTur) := ⟨g_turn, _, ok_turn F_turn TD Dcalled, b_turn, ⟨at_turn, fn_turn, kp_turn⟩⟩
  have Dundo : MDf l.prog w K mg base CD 2 "undo" ["self"] (spUndo CD) := ⟨g_undo, _, ok_undo F_undo TD Dcf Dtold, b_undo, ⟨at_undo, fn_undo, kp_undo⟩⟩
  have MH : GMDf l.prog w K mg base CD 1 "history" ["self"] (spHist CD) := ⟨g_history, _, ok_hist F_history TD m_enumerate, b_history, ⟨at_history, fn_history, kp_history⟩⟩
  have Pver : PDf l.prog w K mg base CD 1 "version" (spVer CD) := ⟨g_version, _, p_version, ok_ver (k := 0) F_version TD M, b_version, ⟨at_version, gt_version, tk_version, ⟨_, rc_version⟩⟩⟩
  have Psize : PDf l.prog w K mg base CD 21 "size" (spSizeP CD) := ⟨g_size, _, p_size, ok_sizeP F_size TD Dsize_of, b_size, ⟨at_size, gt_size, tk_size, ⟨_, rc_size⟩⟩⟩
  have Pfirst : PDf l.prog w K mg base CD 63 "first" (spWalkP CD .first) := ⟨g_first, _, p_first, ok_first F_first TD Dwalk, b_first, ⟨at_first, gt_first, tk_first, ⟨_, rc_first⟩⟩⟩
  have Pbetw : PDf l.prog w K mg base CD 63 "between" (spWalkP CD .between) := ⟨g_between, _, p_between, ok_betw F_between TD Dwalk, b_between, ⟨at_between, gt_between, tk_between, ⟨_, rc_between⟩⟩⟩
  have Plast : PDf l.prog w K mg base CD 63 "last" (spWalkP CD .last) := ⟨g_last, _, p_last, ok_last F_last TD Dwalk, b_last, ⟨at_last, gt_last, tk_last, ⟨_, rc_last⟩⟩⟩
  have Dis_whole_number : Df l.prog w K mg base 1 "is_whole_number" ["value"] spWhole := ⟨f2, _, ok_whole (k := 0) F2 M, b2, k2, g2⟩
  have Dis_index : Df l.prog w K mg base 2 "is_index" ["value", "many"] spIndex := ⟨f3, _, ok_index (k := 0) F3 M Dis_whole_number, b3, k3, g3⟩
  have D_law_from : Df l.prog w K mg base 1 "_law_from" ["_law_thing", "_law_low", "_law_high"] spFrom := ⟨f24, _, ok_from (k := 0) F24 M, b24, k24, g24⟩
  have MT : Meth K CD "tree" g_tree := ⟨at_tree, fn_tree, kp_tree⟩
  have FtX := ok_treeV (P := l.prog) (w := w) (mg := mg) (base := base) (k := 0) F_tree TD M E_NoVersion Dis_index
  have D_law_odd : Df l.prog w K mg base 2 "_law_odd" ["_law_stream_here"] spOdd := ⟨f26, _, ok_odd F26 D_law_take, b26, k26, g26⟩
  have D_law_is_letter : Df l.prog w K mg base 1 "_law_is_letter" ["_law_value"] spLow := ⟨f36, _, ok_lowL (k := 0) F36 M, b36, k36, g36⟩
  have D_law_due_put : Df l.prog w K mg base 21 "_law_due_put" ["_law_tree_here", "_law_edit", "_law_nodes", "_law_opens"] spDueP := ⟨f37, _, ok_dueP F37 M D_law_is_letter D_law_grafted, b37, k37, g37⟩
  have D_law_due : Df l.prog w K mg base 22 "_law_due" ["_law_tree_here", "_law_edit"] spDueL := ⟨f38, _, ok_dueL F38 M D_law_paths D_law_due_put D_law_part D_law_is_letter D_law_swapped D_law_grafted, b38, k38, g38⟩
  have D_law_do : Df l.prog w K mg base 27 "_law_do" ["_law_desk", "_law_edit"] (spCalled CD) := ⟨f39, _, ok_doL F39 TD Dput Dcut Dlabel Dturn, b39, k39, g39⟩
  have gm_law_some_edit := PySem.W.mg_of X G a_law_some_edit
  have FD_law_some_edit : FunD K "_law_some_edit" "_law_some_edit" (defArgs s__law_some_edit) (defBody s__law_some_edit) (defScope s__law_some_edit) [.int 13] [] g_law_some_edit _ := ⟨⟨_, _, _, _, _, _, _, _, _, _, rfl, lk_law_some_edit, cd_f_law_some_edit, .inr ⟨by simp, T_law_some_edit, _, [.int 13 tt_law_some_edit], _, rfl, tl_law_some_edit, rfl, .cons ⟨_, rfl⟩ .nil⟩, .inl rfl⟩, kp_law_some_edit⟩
  obtain ⟨dn_law_some_edit, vd_law_some_edit, bd_law_some_edit⟩ := bd_of_law_some_edit FD_law_some_edit
  have b_law_some_edit := b_of_law_some_edit FD_law_some_edit
  have gm_law_valid_edit := PySem.W.mg_of X G a_law_valid_edit
  have FD_law_valid_edit : FunD K "_law_valid_edit" "_law_valid_edit" (defArgs s__law_valid_edit) (defBody s__law_valid_edit) (defScope s__law_valid_edit) [.int 13] [] g_law_valid_edit _ := ⟨⟨_, _, _, _, _, _, _, _, _, _, rfl, lk_law_valid_edit, cd_f_law_valid_edit, .inr ⟨by simp, T_law_valid_edit, _, [.int 13 tt_law_valid_edit], _, rfl, tl_law_valid_edit, rfl, .cons ⟨_, rfl⟩ .nil⟩, .inl rfl⟩, kp_law_valid_edit⟩
  obtain ⟨dn_law_valid_edit, vd_law_valid_edit, bd_law_valid_edit⟩ := bd_of_law_valid_edit FD_law_valid_edit
  have b_law_valid_edit := b_of_law_valid_edit FD_law_valid_edit
  have D_law_some_edit : Df l.prog w K mg base 3 "_law_some_edit" ["_law_stream_here", "_law_tree_here", "_law_top"] spSome := ⟨g_law_some_edit, _, ok_some FD_law_some_edit M D_law_take D_law_letter D_law_paths, b_law_some_edit, kp_law_some_edit, gm_law_some_edit⟩
  have Fv := ok_valid (P := l.prog) (w := w) (mg := mg) (base := base) FD_law_valid_edit M D_law_some_edit D_law_due
  have D_law_equal : DfG l.prog w K mg base 1 "_law_equal" ["_law_one", "_law_other"] spEqualQ := ⟨f25, _, ok_equalQ (k := 0) F25 M, b25, k25, g25⟩
  have D_law_answer : Df l.prog w K mg base 4 "_law_answer" ["_law_desk", "_law_moment"] (spAnswer CD) := ⟨f40, _, ok_answer F40 TD M EV E_NoVersion MT FtX (kb_tree FD_tree), b40, k40, g40⟩
  have D_law_due_answer : Df l.prog w K mg base 2 "_law_due_answer" ["_law_states", "_law_moment"] spDueAns := ⟨f41, _, ok_dueAns F41 M D_law_from, b41, k41, g41⟩
  have D_law_right : DfG l.prog w K mg base 67 "_law_right" ["_law_stream_here", "_law_desk", "_law_states", "_law_many"] (spRightV CD) := ⟨f42, _, ok_rightV F42 M m_enumerate TD D_law_equal D_law_take D_law_odd D_law_answer D_law_due_answer D_law_labels Pver Psize Pfirst Pbetw Plast MH MT (ok_treeM (k := 0) F_tree TD) b_tree vd_tree, b42, k42, g42⟩
  have MK : Mk K CD g_init := ⟨mk, at_init, fn_init, kc⟩
  exact run_law F43 (.of_eq rfl) en hS M TD D_law_stream D_law_tree MK (ok_init F_init TD Dis_tree) b_init D_law_equal D_law_take Dundo D_law_due D_law_do D_law_answer D_law_right Fv gm_law_valid_edit kp_law_valid_edit bd_law_valid_edit vd_law_valid_edit
end Tw
/-! ### the head by one run: what is read of the heap -/
namespace Hx
open PySem PySem.Spec PyProof.Rows L2
def adrV : Value → Addr
  | .ref a => a
  | _ => 0
def tokV : Option (Option Value) → Tok
  | some (some (.int _ t)) => t
  | some (some (.str _ t)) => t
  | _ => 0
def hdV : Option (List Value) → Addr
  | some (.ref a :: _) => a
  | _ => 0
def tlV : Option (List Value) → List Value
  | some (_ :: r) => r
  | _ => []
def dflA (K : PySem.W.Frag) (a : Addr) : Value := match K.lookup a with
  | some ⟨_, _, .func fd, _⟩ => fd.defaults
  | _ => .none
def kwdA (K : PySem.W.Frag) (a : Addr) : Value := match K.lookup a with
  | some ⟨_, _, .func fd, _⟩ => fd.kwdefaults
  | _ => .none
def codeB (K : PySem.W.Frag) (a : Addr) (q : Str) : Bool := match K.lookup a with
  | some ⟨_, _, .func fd, _⟩ => PySem.W.codeIn K fd.code q
  | _ => false
def fnQ (K : PySem.W.Frag) (a : Addr) : He.FnW := match K.lookup a with
  | some ⟨_, _, .func fd, _⟩ => some (fd.name, fd.qualname, fd.params, fd.body, fd.scope, fd.globals, fd.closure, fd.builtins)
  | _ => none
structure DefQ where
  a : PySem.W.Frag → Addr
  name : Str
  qual : Str
  params : Arguments
  body : List Stmt
  scope : Scope
def DefQ.val (d : DefQ) : He.FnW := some (d.name, d.qual, d.params, .stmts d.body, d.scope, mainGlobals, [], builtinsNs)
theorem fnq_ok {K : PySem.W.Frag} {a : Addr} {d : DefQ} (e : fnQ K a = d.val) (c : codeB K a d.qual = true) :
    ∃ oc od osl doc pm an cdv ct, K.lookup a = some ⟨oc, od, .func (PySem.W.fnOf d.name d.qual d.params d.body d.scope (dflA K a) (kwdA K a) doc pm an cdv ct), osl⟩ ∧ PySem.W.codeIn K cdv d.qual = true := by
  unfold codeB at c
  unfold fnQ at e
  unfold dflA kwdA
  cases q : K.lookup a with
  | none =>
    rw [q] at c
    cases c
  | some o =>
    obtain ⟨oc, od, dt, osl⟩ := o
    rw [q] at c e
    cases dt with
    | func fd =>
      obtain ⟨n1, n2, n3, n4, n5, n6, n7, n8, n9, n10, n11, n12, n13, n14, n15⟩ := fd
      have e2 : (some (n1, n2, n3, n4, n5, n6, n7, n15) : He.FnW) = some (d.name, d.qual, d.params, .stmts d.body, d.scope, mainGlobals, [], builtinsNs) := e
      simp only [Option.some.injEq, Prod.mk.injEq] at e2
      obtain ⟨h1, h2, h3, h4, h5, h6, h7, h8⟩ := e2
      subst h1 h2 h3 h4 h5 h6 h7 h8
      exact ⟨oc, od, osl, n10, n11, n12, n13, n14, rfl, c⟩
    | _ => cases c
theorem fn_at {K : PySem.W.Frag} {fq : List DefQ} (e : fq.map (fun d => fnQ K (d.a K)) = fq.map DefQ.val) (i : Nat) {d : DefQ} (h : fq[i]? = some d) : fnQ K (d.a K) = d.val := by
  have e2 : (fq.map fun d => fnQ K (d.a K))[i]? = (fq.map DefQ.val)[i]? := by rw [e]
  rw [List.getElem?_map, List.getElem?_map, h] at e2
  exact Option.some.inj e2
def excB (K : PySem.W.Frag) (C : Addr) (tail : List Value) (new : String) : Bool := match K.lookup C with
  | some ⟨.type t, _, .cls cd, sl⟩ => (match cd.mro, sl.toList with
    | .ref C' :: bm, [_, _, _, _, some (.builtin n), _] => decide (t = "type") && (decide (C' = C) && (decide (bm = tail) && (decide (n = new) && (cd.hasDict && !cd.hasDel))))
    | _, _ => false)
  | _ => false
theorem excB_ok {K : PySem.W.Frag} {C : Addr} {tail : List Value} {new : String} (h : excB K C tail new = true) :
    ∃ nm q N bs sn sub ab col dd k0 k1 k2 k3 k5, K.lookup C = some (excClassObj nm q C N bs tail true sn sub ab col dd k0 k1 k2 k3 k5 new) := by
  unfold excB at h
  split at h
  · rename_i t dd cd sl ho
    split at h
    · rename_i C' bm k0 k1 k2 k3 n k5 hm hs
      simp only [Bool.and_eq_true, decide_eq_true_eq, Bool.not_eq_true'] at h
      obtain ⟨rfl, rfl, rfl, rfl, hd, hl⟩ := h
      obtain ⟨nm, bs, mro, ns, qn, hdc, sn, sub, ab, col, del⟩ := cd
      dsimp only at hm hd hl
      subst hm hd hl
      have hsl : sl = #[k0, k1, k2, k3, some (.builtin n), k5] := by
        obtain ⟨l⟩ := sl
        simp only at hs
        rw [hs]
      subst hsl
      exact ⟨_, _, _, _, _, _, _, _, _, _, _, _, _, _, ho⟩
    · cases h
  · cases h
inductive Lit where
  | int (i : Int)
  | str (x : Str)
def Lit.is : Lit → Value → Bool
  | .int i, .int j _ => decide (j = i)
  | .str x, .str y _ => decide (y = x)
  | _, _ => false
def Lit.rel : Lit → Value → Prop
  | .int i, v => ∃ t, v = .int i t
  | .str x, v => ∃ t, v = .str x t
theorem Lit.is_ok {l : Lit} {v : Value} (h : l.is v = true) : l.rel v := by
  cases l <;> cases v <;> first | (cases h; done) | (rename_i a b t; exact ⟨t, by rw [of_decide_eq_true h]⟩)
def litsB : List Lit → List Value → Bool
  | [], [] => true
  | l :: ls, v :: vs => l.is v && litsB ls vs
  | _, _ => false
def litsR : List Lit → List Value → Prop
  | [], [] => True
  | l :: ls, v :: vs => l.rel v ∧ litsR ls vs
  | _, _ => False
theorem litsB_ok : ∀ {ls : List Lit} {vs : List Value}, litsB ls vs = true → litsR ls vs
  | [], [], _ => trivial
  | [], _ :: _, h => by cases h
  | _ :: _, [], h => by cases h
  | l :: ls, v :: vs, h => by
    obtain ⟨h1, h2⟩ := He.ba (show (l.is v && litsB ls vs) = true from h)
    exact ⟨Lit.is_ok h1, litsB_ok h2⟩
def tupL (K : PySem.W.Frag) (a : Addr) (ls : List Lit) : Bool := match K.lookup a with
  | some ⟨.type c, _, .seq its _, _⟩ => decide (c = "tuple") && litsB ls its.toList
  | _ => false
theorem tupL_ok {K : PySem.W.Frag} {a : Addr} {ls : List Lit} (h : tupL K a ls = true) : ∃ o vs n s, K.lookup a = some ⟨.type "tuple", o, .seq (Array.mk vs) n, s⟩ ∧ litsR ls vs := by
  unfold tupL at h
  cases q : K.lookup a with
  | none =>
    rw [q] at h
    cases h
  | some o =>
    obtain ⟨oc, od, dt, osl⟩ := o
    rw [q] at h
    cases oc with
    | type c =>
      cases dt with
      | seq its n =>
        obtain ⟨h1, h2⟩ := He.ba (show (decide (c = "tuple") && litsB ls its.toList) = true from h)
        obtain ⟨vs⟩ := its
        rw [of_decide_eq_true h1]
        exact ⟨_, vs, n, _, rfl, litsB_ok h2⟩
      | _ => cases h
    | _ => cases dt <;> cases h
theorem lits1 {l0 : Lit} {vs : List Value} (h : litsR [l0] vs) : ∃ v0 : Value, vs = [v0] ∧ l0.rel v0 := by
  cases vs with
  | nil => exact h.elim
  | cons v0 r0 =>
  obtain ⟨h0, k0⟩ := h
  cases r0 with
  | cons _ _ => exact k0.elim
  | nil => exact ⟨v0, rfl, h0⟩
theorem lits2 {l0 l1 : Lit} {vs : List Value} (h : litsR [l0, l1] vs) : ∃ v0 v1 : Value, vs = [v0, v1] ∧ l0.rel v0 ∧ l1.rel v1 := by
  cases vs with
  | nil => exact h.elim
  | cons v0 r0 =>
  obtain ⟨h0, k0⟩ := h
  cases r0 with
  | nil => exact k0.elim
  | cons v1 r1 =>
  obtain ⟨h1, k1⟩ := k0
  cases r1 with
  | cons _ _ => exact k1.elim
  | nil => exact ⟨v0, v1, rfl, h0, h1⟩
theorem lits3 {l0 l1 l2 : Lit} {vs : List Value} (h : litsR [l0, l1, l2] vs) : ∃ v0 v1 v2 : Value, vs = [v0, v1, v2] ∧ l0.rel v0 ∧ l1.rel v1 ∧ l2.rel v2 := by
  cases vs with
  | nil => exact h.elim
  | cons v0 r0 =>
  obtain ⟨h0, k0⟩ := h
  cases r0 with
  | nil => exact k0.elim
  | cons v1 r1 =>
  obtain ⟨h1, k1⟩ := k0
  cases r1 with
  | nil => exact k1.elim
  | cons v2 r2 =>
  obtain ⟨h2, k2⟩ := k1
  cases r2 with
  | cons _ _ => exact k2.elim
  | nil => exact ⟨v0, v1, v2, rfl, h0, h1, h2⟩
theorem lits4 {l0 l1 l2 l3 : Lit} {vs : List Value} (h : litsR [l0, l1, l2, l3] vs) : ∃ v0 v1 v2 v3 : Value, vs = [v0, v1, v2, v3] ∧ l0.rel v0 ∧ l1.rel v1 ∧ l2.rel v2 ∧ l3.rel v3 := by
  cases vs with
  | nil => exact h.elim
  | cons v0 r0 =>
  obtain ⟨h0, k0⟩ := h
  cases r0 with
  | nil => exact k0.elim
  | cons v1 r1 =>
  obtain ⟨h1, k1⟩ := k0
  cases r1 with
  | nil => exact k1.elim
  | cons v2 r2 =>
  obtain ⟨h2, k2⟩ := k1
  cases r2 with
  | nil => exact k2.elim
  | cons v3 r3 =>
  obtain ⟨h3, k3⟩ := k2
  cases r3 with
  | cons _ _ => exact k3.elim
  | nil => exact ⟨v0, v1, v2, v3, rfl, h0, h1, h2, h3⟩
theorem lits5 {l0 l1 l2 l3 l4 : Lit} {vs : List Value} (h : litsR [l0, l1, l2, l3, l4] vs) : ∃ v0 v1 v2 v3 v4 : Value, vs = [v0, v1, v2, v3, v4] ∧ l0.rel v0 ∧ l1.rel v1 ∧ l2.rel v2 ∧ l3.rel v3 ∧ l4.rel v4 := by
  cases vs with
  | nil => exact h.elim
  | cons v0 r0 =>
  obtain ⟨h0, k0⟩ := h
  cases r0 with
  | nil => exact k0.elim
  | cons v1 r1 =>
  obtain ⟨h1, k1⟩ := k0
  cases r1 with
  | nil => exact k1.elim
  | cons v2 r2 =>
  obtain ⟨h2, k2⟩ := k1
  cases r2 with
  | nil => exact k2.elim
  | cons v3 r3 =>
  obtain ⟨h3, k3⟩ := k2
  cases r3 with
  | nil => exact k3.elim
  | cons v4 r4 =>
  obtain ⟨h4, k4⟩ := k3
  cases r4 with
  | cons _ _ => exact k4.elim
  | nil => exact ⟨v0, v1, v2, v3, v4, rfl, h0, h1, h2, h3, h4⟩
theorem lits6 {l0 l1 l2 l3 l4 l5 : Lit} {vs : List Value} (h : litsR [l0, l1, l2, l3, l4, l5] vs) : ∃ v0 v1 v2 v3 v4 v5 : Value, vs = [v0, v1, v2, v3, v4, v5] ∧ l0.rel v0 ∧ l1.rel v1 ∧ l2.rel v2 ∧ l3.rel v3 ∧ l4.rel v4 ∧ l5.rel v5 := by
  cases vs with
  | nil => exact h.elim
  | cons v0 r0 =>
  obtain ⟨h0, k0⟩ := h
  cases r0 with
  | nil => exact k0.elim
  | cons v1 r1 =>
  obtain ⟨h1, k1⟩ := k0
  cases r1 with
  | nil => exact k1.elim
  | cons v2 r2 =>
  obtain ⟨h2, k2⟩ := k1
  cases r2 with
  | nil => exact k2.elim
  | cons v3 r3 =>
  obtain ⟨h3, k3⟩ := k2
  cases r3 with
  | nil => exact k3.elim
  | cons v4 r4 =>
  obtain ⟨h4, k4⟩ := k3
  cases r4 with
  | nil => exact k4.elim
  | cons v5 r5 =>
  obtain ⟨h5, k5⟩ := k4
  cases r5 with
  | cons _ _ => exact k5.elim
  | nil => exact ⟨v0, v1, v2, v3, v4, v5, rfl, h0, h1, h2, h3, h4, h5⟩
abbrev AlQ : Type := Bool × List He.FnW × List (Option (List (Option (Str × Int))))
/-- force an address -/
def frN {α : Type} (n : Nat) (k : Nat → α) : α := match n with
  | 0 => k 0
  | n + 1 => k (n + 1)
theorem frN_eq {α : Type} (n : Nat) (k : Nat → α) : frN n k = k n := by cases n <;> rfl
def frA {α : Type} : List Addr → (List Addr → α) → α
  | [], k => k []
  | a :: r, k => frN a fun a' => frA r fun r' => k (a' :: r')
theorem frA_eq {α : Type} : ∀ (l : List Addr) (k : List Addr → α), frA l k = k l
  | [], _ => rfl
  | a :: r, k => by
    show (frN a fun a' => frA r fun r' => k (a' :: r')) = _
    rw [frN_eq, frA_eq r]
def frK {α : Type} (g : Addr → Option Obj) : List Addr → (PySem.W.Frag → α) → α
  | [], k => k []
  | a :: r, k => match g a with
    | some o => frK g r fun K => k ((a, o) :: K)
    | none => frK g r k
theorem frK_eq {α : Type} (g : Addr → Option Obj) : ∀ (l : List Addr) (k : PySem.W.Frag → α), frK g l k = k (He.frG g l)
  | [], _ => rfl
  | a :: r, k => by
    show (match g a with
      | some o => frK g r fun K => k ((a, o) :: K)
      | none => frK g r k) = _
    unfold He.frG
    cases h : g a with
    | none => rw [List.filterMap_cons, h]; exact frK_eq g r k
    | some o => rw [List.filterMap_cons, h]; exact frK_eq g r fun K => k ((a, o) :: K)
/-- what an object names: a function's code, defaults; a class's dict; the values of a dict, the parts of an instance -/
def nm1 (g : Addr → Option Obj) (a : Addr) : List Addr := match g a with
  | some o => (match o.data with
    | .func fd => He.refV fd.code ++ (He.refV fd.defaults ++ He.refV fd.kwdefaults)
    | .cls cd => [cd.ns]
    | .fields vs => vs.toList.flatMap He.refV
    | .dict es _ => es.toList.flatMap fun e => He.refV e.val
    | .seq its _ => its.toList.flatMap He.refV
    | _ => [])
  | none => []
def gNames {α : Type} (g : Addr → Option Obj) (xs : List Str) (k : List Addr → α) : α := frK g [mainGlobals] fun K => frA (xs.map (He.ga K)) k
structure Q where
  xs : List Str
  cs : List Str
  b : PySem.W.Frag → Bool
  fq : List DefQ
  ts : List He.Tab
def Q.on (q : Q) (K : PySem.W.Frag) : AlQ := (q.b K, q.fq.map (fun d => fnQ K (d.a K)), q.ts.map fun t => He.dicW K (t.1 K))
/-- the names xs with what they name; the classes cs with their dicts, methods, and what these name, twice -/
def Q.obs (q : Q) (g : Addr → Option Obj) : AlQ :=
  gNames g q.cs fun C => frA (C.flatMap (nm1 g)) fun N => frA (N.flatMap (nm1 g)) fun M => frA (M.flatMap (nm1 g)) fun M1 => frA (M1.flatMap (nm1 g)) fun M2 =>
  gNames g q.xs fun F => frA (F.flatMap (nm1 g)) fun F1 => frK g (mainGlobals :: (C ++ (N ++ (F ++ (M ++ (M1 ++ (M2 ++ F1))))))) q.on
def asQ (xs cs : List Str) (g : Addr → Option Obj) : List Addr :=
  (fun C : List Addr => (fun N : List Addr => (fun M : List Addr => (fun M1 : List Addr => (fun M2 : List Addr => (fun F : List Addr => mainGlobals :: (C ++ (N ++ (F ++ (M ++ (M1 ++ (M2 ++ F.flatMap (nm1 g)))))))) (xs.map (He.ga (He.frG g [mainGlobals])))) (M1.flatMap (nm1 g))) (M.flatMap (nm1 g))) (N.flatMap (nm1 g))) (C.flatMap (nm1 g))) (cs.map (He.ga (He.frG g [mainGlobals])))
theorem Q.obs_K (q : Q) (g : Addr → Option Obj) : q.obs g = q.on (He.frG g (asQ q.xs q.cs g)) := by
  unfold Q.obs gNames asQ
  simp only [frK_eq, frA_eq]
def Q.val (q : Q) (w : World) : AlQ := (true, q.fq.map DefQ.val, q.ts.map fun t => some (He.keysIn w.params t.2))
def Q.says (q : Q) (w : World) (K : PySem.W.Frag) : Prop := q.b K = true ∧ q.fq.map (fun d => fnQ K (d.a K)) = q.fq.map DefQ.val ∧ q.ts.map (fun t => He.dicW K (t.1 K)) = q.ts.map fun t => some (He.keysIn w.params t.2)
def Q.hook (q : Q) : PySem.W.Hook where
  α := AlQ
  obs := fun s => q.obs s.heap.get?
  val := fun w => q.val w
  says := fun w h => ∃ K : PySem.W.Frag, K.In h ∧ q.says w K
  of := fun w s e => by
    have h := q.obs_K s.heap.get?
    have e : q.on (He.frG s.heap.get? (asQ q.xs q.cs s.heap.get?)) = q.val w := h.symm.trans e
    exact ⟨_, He.frG_in, congrArg (fun z : AlQ => z.1) e, congrArg (fun z : AlQ => z.2.1) e, congrArg (fun z : AlQ => z.2.2) e⟩
  keeps := fun _ _ _ ⟨K, hK, c⟩ k => ⟨K, PySem.W.Frag.In.keeps hK k, c⟩
theorem Q.obs_eq (q : Q) {g : Addr → Option Obj} {s : Shared} (h : ∀ a, g a = s.heap.get? a) : q.obs g = q.hook.obs s := by
  have e : g = s.heap.get? := funext h
  rw [e] <;> rfl
theorem Q.comb {r : PySem.W.OpenRow} {v : Program} {M : Nat} {loose xs cs : List Str} {b1 b2 : PySem.W.Frag → Bool} {fq : List DefQ} {ts : List He.Tab} {w : World}
    (h1 : HandSHeadRun.RunEq r v (Q.mk xs cs b1 [] []).hook (fun s => (Q.mk xs cs b1 [] []).obs (HandSHeadRun.getT s)) M loose w)
    (h2 : HandSHeadRun.RunEq r v (Q.mk xs cs b2 fq ts).hook (fun s => (Q.mk xs cs b2 fq ts).obs (HandSHeadRun.getT s)) M loose w) :
    HandSHeadRun.RunEq r v (Q.mk xs cs (fun K => b1 K && b2 K) fq ts).hook (fun s => (Q.mk xs cs (fun K => b1 K && b2 K) fq ts).obs (HandSHeadRun.getT s)) M loose w := by
  intro os
  have z1 := h1 os
  have z2 := h2 os
  generalize HandSHeadRun.endF (HandSHeadRun.stepQ (HandSHeadRun.denQ HandSHeadRun.tabQ) r.prog w) M r.prog w os = e at z1 z2 ⊢
  cases e with
  | none => cases z1
  | some s =>
    have a1 := Option.some.inj z1
    have a2 := Option.some.inj z2
    obtain ⟨p1, p2⟩ := Prod.mk.inj a1
    obtain ⟨p3, p4⟩ := Prod.mk.inj p2
    obtain ⟨q1, q2⟩ := Prod.mk.inj a2
    obtain ⟨q3, q4⟩ := Prod.mk.inj q2
    have k1 : (Q.mk xs cs b1 [] []).on (He.frG (HandSHeadRun.getT s) (asQ xs cs (HandSHeadRun.getT s))) = (Q.mk xs cs b1 [] []).val w := (Q.obs_K _ _).symm.trans p4
    have k2 : (Q.mk xs cs b2 fq ts).on (He.frG (HandSHeadRun.getT s) (asQ xs cs (HandSHeadRun.getT s))) = (Q.mk xs cs b2 fq ts).val w := (Q.obs_K _ _).symm.trans q4
    have k3 : (Q.mk xs cs (fun K => b1 K && b2 K) fq ts).obs (HandSHeadRun.getT s) = (Q.mk xs cs (fun K => b1 K && b2 K) fq ts).val w := by
      refine (Q.obs_K _ _).trans ?_
      generalize He.frG (HandSHeadRun.getT s) (asQ xs cs (HandSHeadRun.getT s)) = K at k1 k2
      have t1 : b1 K = true := congrArg (fun z : AlQ => z.1) k1
      have t2 : b2 K = true := congrArg (fun z : AlQ => z.1) k2
      show ((b1 K && b2 K, _, _) : AlQ) = _
      rw [t1]
      show ((b2 K, _, _) : AlQ) = _
      exact k2
    show some (HandSHeadRun.looksF r.prog (PySem.W.boot_heap w.params) s.abs, _, _) = some (true, _, _)
    rw [p1, p3]
    exact congrArg (fun z => some (true, _, z)) k3
theorem Q.says.tab {q : Q} {w : World} {K : PySem.W.Frag} (c : q.says w K) (i : Nat) {t : He.Tab} (h : q.ts[i]? = some t) : He.dicW K (t.1 K) = some (He.keysIn w.params t.2) := by
  have e2 : (q.ts.map fun t => He.dicW K (t.1 K))[i]? = (q.ts.map fun t => some (He.keysIn w.params t.2))[i]? := by rw [c.2.2]
  rw [List.getElem?_map, List.getElem?_map, h] at e2
  exact Option.some.inj e2
theorem walk_x {l : PySem.W.OpenLaw} {q : Program} {loose : List Str} {XP : (Str → Option Value) → Heap → Prop} {YP : World → Heap → Prop} {d : DefRec} (most : l.most = some 63) (noDf : d.params.defaults = [])
    (F : ∀ (w : World) (mg : Str → Option Value) (fa : Addr) (h : Heap), YP w h → h.Ns mainGlobals mg → mg d.name = some (.ref fa) → ∃ K : PySem.W.Frag, K.In h ∧
      ∀ (base : Heap) (H : Hp) (s : Shared) (a : Addr) (ns : List Int), K.In base → base.Ns mainGlobals mg → Env0 l.prog w K mg base callerA [] s H → SqL K H a (ns.map V.int) → ns.length ≤ 63 →
        codeAny (model l.prog w) callerA (.call (.ref fa) ⟨[.ref a], []⟩) (CR CX0 [] l.prog w H s (fun v _ => v = .bl true) fun _ _ _ => False) s) :
    PySem.W.WalkO q loose XP YP l.row.toRowW d [] (fun f vs => PySem.call f vs) := by
  refine Att.attach_call most noDf ?_
  intro w s₀ s₁ mg mb fa o pm cd doc a vs ns G Y ho hd hcd hmg hobj hints hlen hg
  obtain ⟨K, KX, hF⟩ := F w mg fa _ Y G.T.g hmg
  exact Tw.law_at KX G.T.g G.T.b G.T.builtins G.T.nolimit hg hobj hints (Nat.le_trans hlen (by decide)) fun base H h1 h2 en hS => hF base H s₁ a ns h1 h2 en hS hlen
end Hx
namespace Tw
open PySem PySem.Spec PyProof.Rows L2

abbrev PB0 (K : PySem.W.Frag) : Prop := (Hx.codeB K (He.ma K (He.ga K "NoVersion") "__init__") "NoVersion.__init__" = true) ∧ (Hx.dflA K (He.ma K (He.ga K "NoVersion") "__init__") = .none) ∧ (Hx.kwdA K (He.ma K (He.ga K "NoVersion") "__init__") = .none) ∧ (Hx.codeB K (He.ma K (He.ga K "Desk") "__init__") "Desk.__init__" = true) ∧ (Hx.dflA K (He.ma K (He.ga K "Desk") "__init__") = .none) ∧ (Hx.codeB K (He.ma K (He.ga K "Desk") "check_free") "Desk.check_free" = true) ∧ (Hx.dflA K (He.ma K (He.ga K "Desk") "check_free") = .none) ∧ (Hx.codeB K (He.ma K (He.ga K "Desk") "check_tree") "Desk.check_tree" = true) ∧ (Hx.dflA K (He.ma K (He.ga K "Desk") "check_tree") = .none) ∧ (Hx.codeB K (He.ma K (He.ga K "Desk") "told") "Desk.told" = true) ∧ (Hx.dflA K (He.ma K (He.ga K "Desk") "told") = .none) ∧ (Hx.codeB K (He.ma K (He.ga K "Desk") "take") "Desk.take" = true) ∧ (Hx.dflA K (He.ma K (He.ga K "Desk") "take") = .none) ∧ (Hx.codeB K (He.ma K (He.ga K "Desk") "called") "Desk.called" = true) ∧ (Hx.dflA K (He.ma K (He.ga K "Desk") "called") = .none) ∧ (Hx.codeB K (He.ma K (He.ga K "Desk") "put") "Desk.put" = true) ∧ (Hx.dflA K (He.ma K (He.ga K "Desk") "put") = .none) ∧ (Hx.codeB K (He.ma K (He.ga K "Desk") "cut") "Desk.cut" = true) ∧ (Hx.dflA K (He.ma K (He.ga K "Desk") "cut") = .none) ∧ (Hx.codeB K (He.ma K (He.ga K "Desk") "label") "Desk.label" = true) ∧ True
abbrev PB1 (K : PySem.W.Frag) : Prop := (Hx.dflA K (He.ma K (He.ga K "Desk") "label") = .none) ∧ (Hx.codeB K (He.ma K (He.ga K "Desk") "turn") "Desk.turn" = true) ∧ (Hx.dflA K (He.ma K (He.ga K "Desk") "turn") = .none) ∧ (Hx.codeB K (He.ma K (He.ga K "Desk") "undo") "Desk.undo" = true) ∧ (Hx.dflA K (He.ma K (He.ga K "Desk") "undo") = .none) ∧ (Hx.codeB K (He.ma K (He.ga K "Desk") "history") "Desk.history" = true) ∧ (Hx.dflA K (He.ma K (He.ga K "Desk") "history") = .none) ∧ (Hx.codeB K (He.ma K (He.ga K "Desk") "tree") "Desk.tree" = true) ∧ (Hx.dflA K (He.ma K (He.ga K "Desk") "tree") = .none) ∧ (Hx.kwdA K (He.ma K (He.ga K "Desk") "tree") = .ref (Hx.adrV (Hx.kwdA K (He.ma K (He.ga K "Desk") "tree")))) ∧ (Hx.codeB K (Hx.hdV (PySem.W.recIn K (He.ma K (He.ga K "Desk") "version") "property")) "Desk.version" = true) ∧ (Hx.dflA K (Hx.hdV (PySem.W.recIn K (He.ma K (He.ga K "Desk") "version") "property")) = .none) ∧ (Hx.codeB K (Hx.hdV (PySem.W.recIn K (He.ma K (He.ga K "Desk") "size") "property")) "Desk.size" = true) ∧ (Hx.dflA K (Hx.hdV (PySem.W.recIn K (He.ma K (He.ga K "Desk") "size") "property")) = .none) ∧ (Hx.codeB K (Hx.hdV (PySem.W.recIn K (He.ma K (He.ga K "Desk") "first") "property")) "Desk.first" = true) ∧ (Hx.dflA K (Hx.hdV (PySem.W.recIn K (He.ma K (He.ga K "Desk") "first") "property")) = .none) ∧ (Hx.codeB K (Hx.hdV (PySem.W.recIn K (He.ma K (He.ga K "Desk") "between") "property")) "Desk.between" = true) ∧ (Hx.dflA K (Hx.hdV (PySem.W.recIn K (He.ma K (He.ga K "Desk") "between") "property")) = .none) ∧ (Hx.codeB K (Hx.hdV (PySem.W.recIn K (He.ma K (He.ga K "Desk") "last") "property")) "Desk.last" = true) ∧ (Hx.dflA K (Hx.hdV (PySem.W.recIn K (He.ma K (He.ga K "Desk") "last") "property")) = .none) ∧ True
abbrev PB2 (K : PySem.W.Frag) : Prop := (Hx.codeB K (He.ga K "_law_some_edit") "_law_some_edit" = true) ∧ (Hx.dflA K (He.ga K "_law_some_edit") = .ref (Hx.adrV (Hx.dflA K (He.ga K "_law_some_edit")))) ∧ (Hx.codeB K (He.ga K "_law_valid_edit") "_law_valid_edit" = true) ∧ (Hx.dflA K (He.ga K "_law_valid_edit") = .ref (Hx.adrV (Hx.dflA K (He.ga K "_law_valid_edit")))) ∧ (Hx.codeB K (He.ga K "is_letter") "is_letter" = true) ∧ (Hx.dflA K (He.ga K "is_letter") = .none) ∧ (Hx.codeB K (He.ga K "is_whole_number") "is_whole_number" = true) ∧ (Hx.dflA K (He.ga K "is_whole_number") = .none) ∧ (Hx.codeB K (He.ga K "is_index") "is_index" = true) ∧ (Hx.dflA K (He.ga K "is_index") = .none) ∧ (Hx.codeB K (He.ga K "is_node") "is_node" = true) ∧ (Hx.dflA K (He.ga K "is_node") = .none) ∧ (Hx.codeB K (He.ga K "is_tree") "is_tree" = true) ∧ (Hx.dflA K (He.ga K "is_tree") = .none) ∧ (Hx.codeB K (He.ga K "size_of") "size_of" = true) ∧ (Hx.dflA K (He.ga K "size_of") = .none) ∧ (Hx.codeB K (He.ga K "part_at") "part_at" = true) ∧ (Hx.dflA K (He.ga K "part_at") = .none) ∧ (Hx.codeB K (He.ga K "is_open") "is_open" = true) ∧ (Hx.dflA K (He.ga K "is_open") = .none) ∧ True
abbrev PB3 (K : PySem.W.Frag) : Prop := (Hx.codeB K (He.ga K "replaced") "replaced" = true) ∧ (Hx.dflA K (He.ga K "replaced") = .none) ∧ (Hx.codeB K (He.ga K "with_part") "with_part" = true) ∧ (Hx.dflA K (He.ga K "with_part") = .none) ∧ (Hx.codeB K (He.ga K "mirrored") "mirrored" = true) ∧ (Hx.dflA K (He.ga K "mirrored") = .none) ∧ (Hx.codeB K (He.ga K "node_at") "node_at" = true) ∧ (Hx.dflA K (He.ga K "node_at") = .none) ∧ (Hx.codeB K (He.ga K "with_node") "with_node" = true) ∧ (Hx.dflA K (He.ga K "with_node") = .none) ∧ (Hx.codeB K (He.ga K "without_node") "without_node" = true) ∧ (Hx.dflA K (He.ga K "without_node") = .none) ∧ (Hx.codeB K (He.ga K "with_label") "with_label" = true) ∧ (Hx.dflA K (He.ga K "with_label") = .none) ∧ (Hx.codeB K (He.ga K "turned") "turned" = true) ∧ (Hx.dflA K (He.ga K "turned") = .none) ∧ (Hx.codeB K (He.ga K "edited") "edited" = true) ∧ (Hx.dflA K (He.ga K "edited") = .none) ∧ (Hx.codeB K (He.ga K "is_kind") "is_kind" = true) ∧ (Hx.dflA K (He.ga K "is_kind") = .none) ∧ True
abbrev PB4 (K : PySem.W.Frag) : Prop := (Hx.codeB K (He.ga K "ordered_steps") "ordered_steps" = true) ∧ (Hx.dflA K (He.ga K "ordered_steps") = .none) ∧ (Hx.codeB K (He.ga K "deep_steps") "deep_steps" = true) ∧ (Hx.dflA K (He.ga K "deep_steps") = .none) ∧ (Hx.codeB K (He.ga K "walk") "walk" = true) ∧ (Hx.dflA K (He.ga K "walk") = .none) ∧ (Hx.codeB K (He.ga K "_law_stream") "_law_stream" = true) ∧ (Hx.dflA K (He.ga K "_law_stream") = .none) ∧ (Hx.codeB K (He.ga K "_law_take") "_law_take" = true) ∧ (Hx.dflA K (He.ga K "_law_take") = .none) ∧ (Hx.codeB K (He.ga K "_law_from") "_law_from" = true) ∧ (Hx.dflA K (He.ga K "_law_from") = .none) ∧ (Hx.codeB K (He.ga K "_law_equal") "_law_equal" = true) ∧ (Hx.dflA K (He.ga K "_law_equal") = .none) ∧ (Hx.codeB K (He.ga K "_law_odd") "_law_odd" = true) ∧ (Hx.dflA K (He.ga K "_law_odd") = .none) ∧ (Hx.codeB K (He.ga K "_law_letter") "_law_letter" = true) ∧ (Hx.dflA K (He.ga K "_law_letter") = .none) ∧ (Hx.codeB K (He.ga K "_law_paths") "_law_paths" = true) ∧ (Hx.dflA K (He.ga K "_law_paths") = .none) ∧ True
abbrev PB5 (K : PySem.W.Frag) : Prop := (Hx.codeB K (He.ga K "_law_part") "_law_part" = true) ∧ (Hx.dflA K (He.ga K "_law_part") = .none) ∧ (Hx.codeB K (He.ga K "_law_grafted") "_law_grafted" = true) ∧ (Hx.dflA K (He.ga K "_law_grafted") = .none) ∧ (Hx.codeB K (He.ga K "_law_swapped") "_law_swapped" = true) ∧ (Hx.dflA K (He.ga K "_law_swapped") = .none) ∧ (Hx.codeB K (He.ga K "_law_labels") "_law_labels" = true) ∧ (Hx.dflA K (He.ga K "_law_labels") = .none) ∧ (Hx.codeB K (He.ga K "_law_spot") "_law_spot" = true) ∧ (Hx.dflA K (He.ga K "_law_spot") = .none) ∧ (Hx.codeB K (He.ga K "_law_sorted_tree") "_law_sorted_tree" = true) ∧ (Hx.dflA K (He.ga K "_law_sorted_tree") = .none) ∧ (Hx.codeB K (He.ga K "_law_tree") "_law_tree" = true) ∧ (Hx.dflA K (He.ga K "_law_tree") = .none) ∧ (Hx.codeB K (He.ga K "_law_is_letter") "_law_is_letter" = true) ∧ (Hx.dflA K (He.ga K "_law_is_letter") = .none) ∧ (Hx.codeB K (He.ga K "_law_due_put") "_law_due_put" = true) ∧ (Hx.dflA K (He.ga K "_law_due_put") = .none) ∧ (Hx.codeB K (He.ga K "_law_due") "_law_due" = true) ∧ (Hx.dflA K (He.ga K "_law_due") = .none) ∧ True
abbrev PB6 (K : PySem.W.Frag) : Prop := (Hx.codeB K (He.ga K "_law_do") "_law_do" = true) ∧ (Hx.dflA K (He.ga K "_law_do") = .none) ∧ (Hx.codeB K (He.ga K "_law_answer") "_law_answer" = true) ∧ (Hx.dflA K (He.ga K "_law_answer") = .none) ∧ (Hx.codeB K (He.ga K "_law_due_answer") "_law_due_answer" = true) ∧ (Hx.dflA K (He.ga K "_law_due_answer") = .none) ∧ (Hx.codeB K (He.ga K "_law_right") "_law_right" = true) ∧ (Hx.dflA K (He.ga K "_law_right") = .none) ∧ (Hx.codeB K (He.ga K "law") "law" = true) ∧ (Hx.dflA K (He.ga K "law") = .none) ∧ (Hx.excB K (He.ga K "NoVersion") [.type "LookupError", .type "Exception", .type "BaseException", .type "object"] "LookupError.__new__" = true) ∧ (Hx.tupL K (He.ga K "KINDS") [.str "first", .str "between", .str "last", .str "level"] = true) ∧ (Hx.tupL K (Hx.adrV (Hx.dflA K (He.ga K "_law_some_edit"))) [.int 13] = true) ∧ (Hx.tupL K (Hx.adrV (Hx.dflA K (He.ga K "_law_valid_edit"))) [.int 13] = true) ∧ (PySem.W.nsIn K mainGlobals "NoVersion" = some (some (.ref (He.ga K "NoVersion")))) ∧ (PySem.W.nsIn K mainGlobals "WalkError" = some (some (.ref (He.ga K "WalkError")))) ∧ (PySem.W.nsIn K mainGlobals "NoPath" = some (some (.ref (He.ga K "NoPath")))) ∧ (PySem.W.nsIn K mainGlobals "NoIndex" = some (some (.ref (He.ga K "NoIndex")))) ∧ (PySem.W.findIn K (.ref (He.ga K "NoVersion")) "__setattr__" = some (some (.builtin "object.__setattr__"))) ∧ (PySem.W.findIn K (.ref (He.ga K "NoVersion")) "__getattribute__" = some (some (.builtin "BaseException.__getattribute__"))) ∧ True
abbrev PB7 (K : PySem.W.Frag) : Prop := (PySem.W.findIn K (.ref (He.ga K "NoVersion")) "__getattr__" = some none) ∧ (PySem.W.findIn K (.ref (He.ga K "NoVersion")) "value" = some none) ∧ (PySem.W.findIn K (.ref (He.ga K "NoVersion")) "__init__" = some (some (.ref (He.ma K (He.ga K "NoVersion") "__init__")))) ∧ (PySem.W.typeIn K (.ref (He.ma K (He.ga K "NoVersion") "__init__")) = some (.type "function")) ∧ (PySem.W.keepIn K (.ref (He.ga K "NoVersion")) = true) ∧ (PySem.W.subIn K (.ref (He.ga K "NoVersion")) (.type "BaseException") = some true) ∧ (PySem.W.typeIn K (.ref (He.ga K "NoVersion")) = some (.type "type")) ∧ (PySem.W.hasDictIn K (He.ga K "NoVersion") = true) ∧ (PySem.W.findIn K (.ref (He.ga K "NoVersion")) "__class__" = some (some (.builtin "object.__class__"))) ∧ (PySem.W.specialIn K (.builtin "object.__class__") "__get__" = some (some (.builtin "getset_descriptor.__get__"))) ∧ (PySem.W.takesIn K (.builtin "object.__class__") = some true) ∧ (PySem.W.mroIn K (He.ga K "NoVersion") (.type "object") = some true) ∧ (PySem.W.nsIn K mainGlobals "Desk" = some (some (.ref (He.ga K "Desk")))) ∧ (PySem.W.plainGet K (He.ga K "Desk") Str.empty = true) ∧ (PySem.W.hasDictIn K (He.ga K "Desk") = true) ∧ (PySem.W.plainOver K (He.ga K "Desk") = true) ∧ (PySem.W.findIn K (.ref (He.ga K "Desk")) "__setattr__" = some (some (.builtin "object.__setattr__"))) ∧ (PySem.W.makesIn K (He.ga K "Desk") = true) ∧ (PySem.W.keepIn K (.ref (He.ga K "Desk")) = true) ∧ (PySem.W.findIn K (.ref (He.ga K "Desk")) "trees" = some none) ∧ True
abbrev PB8 (K : PySem.W.Frag) : Prop := (PySem.W.findIn K (.ref (He.ga K "Desk")) "done" = some none) ∧ (PySem.W.findIn K (.ref (He.ga K "Desk")) "busy" = some none) ∧ (PySem.W.findIn K (.ref (He.ga K "Desk")) "MOST_EDITS" = some (some (.int 60 (Hx.tokV (PySem.W.findIn K (.ref (He.ga K "Desk")) "MOST_EDITS"))))) ∧ (PySem.W.specialIn K (.int 60 (Hx.tokV (PySem.W.findIn K (.ref (He.ga K "Desk")) "MOST_EDITS"))) "__get__" = some none) ∧ (PySem.W.nsIn K mainGlobals "ACTIONS" = some (some (.ref (He.ga K "ACTIONS")))) ∧ (PySem.W.nsIn K (He.ga K "ACTIONS") "put" = some (some (.ref (He.ga K "with_node")))) ∧ (PySem.W.nsIn K (He.ga K "ACTIONS") "cut" = some (some (.ref (He.ga K "without_node")))) ∧ (PySem.W.nsIn K (He.ga K "ACTIONS") "label" = some (some (.ref (He.ga K "with_label")))) ∧ (PySem.W.nsIn K (He.ga K "ACTIONS") "turn" = some (some (.ref (He.ga K "turned")))) ∧ (PySem.W.nsIn K mainGlobals "KINDS" = some (some (.ref (He.ga K "KINDS")))) ∧ (PySem.W.exmOne K (.ref (He.ga K "NoVersion")) (.ref (He.ga K "NoVersion")) = some true) ∧ (PySem.W.kitOne K (.ref (He.ga K "NoVersion")) (.type "LookupError") = some true) ∧ (PySem.W.kitAny K (.ref (He.ga K "NoVersion")) [.ref (He.ga K "WalkError"), .ref (He.ga K "NoPath"), .ref (He.ga K "NoIndex")] = some false) ∧ (PySem.W.findIn K (.ref (He.ga K "Desk")) "__init__" = some (some (.ref (He.ma K (He.ga K "Desk") "__init__")))) ∧ (PySem.W.isFn K (.ref (He.ma K (He.ga K "Desk") "__init__")) = true) ∧ (PySem.W.keepIn K (.ref (He.ma K (He.ga K "Desk") "__init__")) = true) ∧ (PySem.W.findIn K (.ref (He.ga K "Desk")) "check_free" = some (some (.ref (He.ma K (He.ga K "Desk") "check_free")))) ∧ (PySem.W.isFn K (.ref (He.ma K (He.ga K "Desk") "check_free")) = true) ∧ (PySem.W.keepIn K (.ref (He.ma K (He.ga K "Desk") "check_free")) = true) ∧ (PySem.W.findIn K (.ref (He.ga K "Desk")) "check_tree" = some (some (.ref (He.ma K (He.ga K "Desk") "check_tree")))) ∧ True
abbrev PB9 (K : PySem.W.Frag) : Prop := (PySem.W.isFn K (.ref (He.ma K (He.ga K "Desk") "check_tree")) = true) ∧ (PySem.W.keepIn K (.ref (He.ma K (He.ga K "Desk") "check_tree")) = true) ∧ (PySem.W.findIn K (.ref (He.ga K "Desk")) "told" = some (some (.ref (He.ma K (He.ga K "Desk") "told")))) ∧ (PySem.W.isFn K (.ref (He.ma K (He.ga K "Desk") "told")) = true) ∧ (PySem.W.keepIn K (.ref (He.ma K (He.ga K "Desk") "told")) = true) ∧ (PySem.W.findIn K (.ref (He.ga K "Desk")) "take" = some (some (.ref (He.ma K (He.ga K "Desk") "take")))) ∧ (PySem.W.isFn K (.ref (He.ma K (He.ga K "Desk") "take")) = true) ∧ (PySem.W.keepIn K (.ref (He.ma K (He.ga K "Desk") "take")) = true) ∧ (PySem.W.findIn K (.ref (He.ga K "Desk")) "called" = some (some (.ref (He.ma K (He.ga K "Desk") "called")))) ∧ (PySem.W.isFn K (.ref (He.ma K (He.ga K "Desk") "called")) = true) ∧ (PySem.W.keepIn K (.ref (He.ma K (He.ga K "Desk") "called")) = true) ∧ (PySem.W.findIn K (.ref (He.ga K "Desk")) "put" = some (some (.ref (He.ma K (He.ga K "Desk") "put")))) ∧ (PySem.W.isFn K (.ref (He.ma K (He.ga K "Desk") "put")) = true) ∧ (PySem.W.keepIn K (.ref (He.ma K (He.ga K "Desk") "put")) = true) ∧ (PySem.W.findIn K (.ref (He.ga K "Desk")) "cut" = some (some (.ref (He.ma K (He.ga K "Desk") "cut")))) ∧ (PySem.W.isFn K (.ref (He.ma K (He.ga K "Desk") "cut")) = true) ∧ (PySem.W.keepIn K (.ref (He.ma K (He.ga K "Desk") "cut")) = true) ∧ (PySem.W.findIn K (.ref (He.ga K "Desk")) "label" = some (some (.ref (He.ma K (He.ga K "Desk") "label")))) ∧ (PySem.W.isFn K (.ref (He.ma K (He.ga K "Desk") "label")) = true) ∧ (PySem.W.keepIn K (.ref (He.ma K (He.ga K "Desk") "label")) = true) ∧ True
abbrev PB10 (K : PySem.W.Frag) : Prop := (PySem.W.findIn K (.ref (He.ga K "Desk")) "turn" = some (some (.ref (He.ma K (He.ga K "Desk") "turn")))) ∧ (PySem.W.isFn K (.ref (He.ma K (He.ga K "Desk") "turn")) = true) ∧ (PySem.W.keepIn K (.ref (He.ma K (He.ga K "Desk") "turn")) = true) ∧ (PySem.W.findIn K (.ref (He.ga K "Desk")) "undo" = some (some (.ref (He.ma K (He.ga K "Desk") "undo")))) ∧ (PySem.W.isFn K (.ref (He.ma K (He.ga K "Desk") "undo")) = true) ∧ (PySem.W.keepIn K (.ref (He.ma K (He.ga K "Desk") "undo")) = true) ∧ (PySem.W.findIn K (.ref (He.ga K "Desk")) "history" = some (some (.ref (He.ma K (He.ga K "Desk") "history")))) ∧ (PySem.W.isFn K (.ref (He.ma K (He.ga K "Desk") "history")) = true) ∧ (PySem.W.keepIn K (.ref (He.ma K (He.ga K "Desk") "history")) = true) ∧ (PySem.W.findIn K (.ref (He.ga K "Desk")) "tree" = some (some (.ref (He.ma K (He.ga K "Desk") "tree")))) ∧ (PySem.W.isFn K (.ref (He.ma K (He.ga K "Desk") "tree")) = true) ∧ (PySem.W.keepIn K (.ref (He.ma K (He.ga K "Desk") "tree")) = true) ∧ (PySem.W.nsIn K (Hx.adrV (Hx.kwdA K (He.ma K (He.ga K "Desk") "tree"))) "version" = some (some .none)) ∧ (PySem.W.findIn K (.ref (He.ga K "Desk")) "version" = some (some (.ref (He.ma K (He.ga K "Desk") "version")))) ∧ (PySem.W.specialIn K (.ref (He.ma K (He.ga K "Desk") "version")) "__get__" = some (some (.builtin "property.__get__"))) ∧ (PySem.W.takesIn K (.ref (He.ma K (He.ga K "Desk") "version")) = some true) ∧ (PySem.W.recIn K (He.ma K (He.ga K "Desk") "version") "property" = some (.ref (Hx.hdV (PySem.W.recIn K (He.ma K (He.ga K "Desk") "version") "property")) :: (Hx.tlV (PySem.W.recIn K (He.ma K (He.ga K "Desk") "version") "property")))) ∧ (PySem.W.keepIn K (.ref (Hx.hdV (PySem.W.recIn K (He.ma K (He.ga K "Desk") "version") "property"))) = true) ∧ (PySem.W.findIn K (.ref (He.ga K "Desk")) "size" = some (some (.ref (He.ma K (He.ga K "Desk") "size")))) ∧ (PySem.W.specialIn K (.ref (He.ma K (He.ga K "Desk") "size")) "__get__" = some (some (.builtin "property.__get__"))) ∧ True
abbrev PB11 (K : PySem.W.Frag) : Prop := (PySem.W.takesIn K (.ref (He.ma K (He.ga K "Desk") "size")) = some true) ∧ (PySem.W.recIn K (He.ma K (He.ga K "Desk") "size") "property" = some (.ref (Hx.hdV (PySem.W.recIn K (He.ma K (He.ga K "Desk") "size") "property")) :: (Hx.tlV (PySem.W.recIn K (He.ma K (He.ga K "Desk") "size") "property")))) ∧ (PySem.W.keepIn K (.ref (Hx.hdV (PySem.W.recIn K (He.ma K (He.ga K "Desk") "size") "property"))) = true) ∧ (PySem.W.findIn K (.ref (He.ga K "Desk")) "first" = some (some (.ref (He.ma K (He.ga K "Desk") "first")))) ∧ (PySem.W.specialIn K (.ref (He.ma K (He.ga K "Desk") "first")) "__get__" = some (some (.builtin "property.__get__"))) ∧ (PySem.W.takesIn K (.ref (He.ma K (He.ga K "Desk") "first")) = some true) ∧ (PySem.W.recIn K (He.ma K (He.ga K "Desk") "first") "property" = some (.ref (Hx.hdV (PySem.W.recIn K (He.ma K (He.ga K "Desk") "first") "property")) :: (Hx.tlV (PySem.W.recIn K (He.ma K (He.ga K "Desk") "first") "property")))) ∧ (PySem.W.keepIn K (.ref (Hx.hdV (PySem.W.recIn K (He.ma K (He.ga K "Desk") "first") "property"))) = true) ∧ (PySem.W.findIn K (.ref (He.ga K "Desk")) "between" = some (some (.ref (He.ma K (He.ga K "Desk") "between")))) ∧ (PySem.W.specialIn K (.ref (He.ma K (He.ga K "Desk") "between")) "__get__" = some (some (.builtin "property.__get__"))) ∧ (PySem.W.takesIn K (.ref (He.ma K (He.ga K "Desk") "between")) = some true) ∧ (PySem.W.recIn K (He.ma K (He.ga K "Desk") "between") "property" = some (.ref (Hx.hdV (PySem.W.recIn K (He.ma K (He.ga K "Desk") "between") "property")) :: (Hx.tlV (PySem.W.recIn K (He.ma K (He.ga K "Desk") "between") "property")))) ∧ (PySem.W.keepIn K (.ref (Hx.hdV (PySem.W.recIn K (He.ma K (He.ga K "Desk") "between") "property"))) = true) ∧ (PySem.W.findIn K (.ref (He.ga K "Desk")) "last" = some (some (.ref (He.ma K (He.ga K "Desk") "last")))) ∧ (PySem.W.specialIn K (.ref (He.ma K (He.ga K "Desk") "last")) "__get__" = some (some (.builtin "property.__get__"))) ∧ (PySem.W.takesIn K (.ref (He.ma K (He.ga K "Desk") "last")) = some true) ∧ (PySem.W.recIn K (He.ma K (He.ga K "Desk") "last") "property" = some (.ref (Hx.hdV (PySem.W.recIn K (He.ma K (He.ga K "Desk") "last") "property")) :: (Hx.tlV (PySem.W.recIn K (He.ma K (He.ga K "Desk") "last") "property")))) ∧ (PySem.W.keepIn K (.ref (Hx.hdV (PySem.W.recIn K (He.ma K (He.ga K "Desk") "last") "property"))) = true) ∧ (PySem.W.nsIn K mainGlobals "_law_some_edit" = some (some (.ref (He.ga K "_law_some_edit")))) ∧ (PySem.W.keepIn K (.ref (He.ga K "_law_some_edit")) = true) ∧ True
abbrev PB12 (K : PySem.W.Frag) : Prop := (PySem.W.nsIn K mainGlobals "_law_valid_edit" = some (some (.ref (He.ga K "_law_valid_edit")))) ∧ (PySem.W.keepIn K (.ref (He.ga K "_law_valid_edit")) = true) ∧ (PySem.W.nsIn K mainGlobals "is_letter" = some (some (.ref (He.ga K "is_letter")))) ∧ (PySem.W.keepIn K (.ref (He.ga K "is_letter")) = true) ∧ (PySem.W.nsIn K mainGlobals "is_whole_number" = some (some (.ref (He.ga K "is_whole_number")))) ∧ (PySem.W.keepIn K (.ref (He.ga K "is_whole_number")) = true) ∧ (PySem.W.nsIn K mainGlobals "is_index" = some (some (.ref (He.ga K "is_index")))) ∧ (PySem.W.keepIn K (.ref (He.ga K "is_index")) = true) ∧ (PySem.W.nsIn K mainGlobals "is_node" = some (some (.ref (He.ga K "is_node")))) ∧ (PySem.W.keepIn K (.ref (He.ga K "is_node")) = true) ∧ (PySem.W.nsIn K mainGlobals "is_tree" = some (some (.ref (He.ga K "is_tree")))) ∧ (PySem.W.keepIn K (.ref (He.ga K "is_tree")) = true) ∧ (PySem.W.nsIn K mainGlobals "size_of" = some (some (.ref (He.ga K "size_of")))) ∧ (PySem.W.keepIn K (.ref (He.ga K "size_of")) = true) ∧ (PySem.W.nsIn K mainGlobals "part_at" = some (some (.ref (He.ga K "part_at")))) ∧ (PySem.W.keepIn K (.ref (He.ga K "part_at")) = true) ∧ (PySem.W.nsIn K mainGlobals "is_open" = some (some (.ref (He.ga K "is_open")))) ∧ (PySem.W.keepIn K (.ref (He.ga K "is_open")) = true) ∧ (PySem.W.nsIn K mainGlobals "replaced" = some (some (.ref (He.ga K "replaced")))) ∧ (PySem.W.keepIn K (.ref (He.ga K "replaced")) = true) ∧ True
abbrev PB13 (K : PySem.W.Frag) : Prop := (PySem.W.nsIn K mainGlobals "with_part" = some (some (.ref (He.ga K "with_part")))) ∧ (PySem.W.keepIn K (.ref (He.ga K "with_part")) = true) ∧ (PySem.W.nsIn K mainGlobals "mirrored" = some (some (.ref (He.ga K "mirrored")))) ∧ (PySem.W.keepIn K (.ref (He.ga K "mirrored")) = true) ∧ (PySem.W.nsIn K mainGlobals "node_at" = some (some (.ref (He.ga K "node_at")))) ∧ (PySem.W.keepIn K (.ref (He.ga K "node_at")) = true) ∧ (PySem.W.nsIn K mainGlobals "with_node" = some (some (.ref (He.ga K "with_node")))) ∧ (PySem.W.keepIn K (.ref (He.ga K "with_node")) = true) ∧ (PySem.W.nsIn K mainGlobals "without_node" = some (some (.ref (He.ga K "without_node")))) ∧ (PySem.W.keepIn K (.ref (He.ga K "without_node")) = true) ∧ (PySem.W.nsIn K mainGlobals "with_label" = some (some (.ref (He.ga K "with_label")))) ∧ (PySem.W.keepIn K (.ref (He.ga K "with_label")) = true) ∧ (PySem.W.nsIn K mainGlobals "turned" = some (some (.ref (He.ga K "turned")))) ∧ (PySem.W.keepIn K (.ref (He.ga K "turned")) = true) ∧ (PySem.W.nsIn K mainGlobals "edited" = some (some (.ref (He.ga K "edited")))) ∧ (PySem.W.keepIn K (.ref (He.ga K "edited")) = true) ∧ (PySem.W.nsIn K mainGlobals "is_kind" = some (some (.ref (He.ga K "is_kind")))) ∧ (PySem.W.keepIn K (.ref (He.ga K "is_kind")) = true) ∧ (PySem.W.nsIn K mainGlobals "ordered_steps" = some (some (.ref (He.ga K "ordered_steps")))) ∧ (PySem.W.keepIn K (.ref (He.ga K "ordered_steps")) = true) ∧ True
abbrev PB14 (K : PySem.W.Frag) : Prop := (PySem.W.nsIn K mainGlobals "deep_steps" = some (some (.ref (He.ga K "deep_steps")))) ∧ (PySem.W.keepIn K (.ref (He.ga K "deep_steps")) = true) ∧ (PySem.W.nsIn K mainGlobals "walk" = some (some (.ref (He.ga K "walk")))) ∧ (PySem.W.keepIn K (.ref (He.ga K "walk")) = true) ∧ (PySem.W.nsIn K mainGlobals "_law_stream" = some (some (.ref (He.ga K "_law_stream")))) ∧ (PySem.W.keepIn K (.ref (He.ga K "_law_stream")) = true) ∧ (PySem.W.nsIn K mainGlobals "_law_take" = some (some (.ref (He.ga K "_law_take")))) ∧ (PySem.W.keepIn K (.ref (He.ga K "_law_take")) = true) ∧ (PySem.W.nsIn K mainGlobals "_law_from" = some (some (.ref (He.ga K "_law_from")))) ∧ (PySem.W.keepIn K (.ref (He.ga K "_law_from")) = true) ∧ (PySem.W.nsIn K mainGlobals "_law_equal" = some (some (.ref (He.ga K "_law_equal")))) ∧ (PySem.W.keepIn K (.ref (He.ga K "_law_equal")) = true) ∧ (PySem.W.nsIn K mainGlobals "_law_odd" = some (some (.ref (He.ga K "_law_odd")))) ∧ (PySem.W.keepIn K (.ref (He.ga K "_law_odd")) = true) ∧ (PySem.W.nsIn K mainGlobals "_law_letter" = some (some (.ref (He.ga K "_law_letter")))) ∧ (PySem.W.keepIn K (.ref (He.ga K "_law_letter")) = true) ∧ (PySem.W.nsIn K mainGlobals "_law_paths" = some (some (.ref (He.ga K "_law_paths")))) ∧ (PySem.W.keepIn K (.ref (He.ga K "_law_paths")) = true) ∧ (PySem.W.nsIn K mainGlobals "_law_part" = some (some (.ref (He.ga K "_law_part")))) ∧ (PySem.W.keepIn K (.ref (He.ga K "_law_part")) = true) ∧ True
abbrev PB15 (K : PySem.W.Frag) : Prop := (PySem.W.nsIn K mainGlobals "_law_grafted" = some (some (.ref (He.ga K "_law_grafted")))) ∧ (PySem.W.keepIn K (.ref (He.ga K "_law_grafted")) = true) ∧ (PySem.W.nsIn K mainGlobals "_law_swapped" = some (some (.ref (He.ga K "_law_swapped")))) ∧ (PySem.W.keepIn K (.ref (He.ga K "_law_swapped")) = true) ∧ (PySem.W.nsIn K mainGlobals "_law_labels" = some (some (.ref (He.ga K "_law_labels")))) ∧ (PySem.W.keepIn K (.ref (He.ga K "_law_labels")) = true) ∧ (PySem.W.nsIn K mainGlobals "_law_spot" = some (some (.ref (He.ga K "_law_spot")))) ∧ (PySem.W.keepIn K (.ref (He.ga K "_law_spot")) = true) ∧ (PySem.W.nsIn K mainGlobals "_law_sorted_tree" = some (some (.ref (He.ga K "_law_sorted_tree")))) ∧ (PySem.W.keepIn K (.ref (He.ga K "_law_sorted_tree")) = true) ∧ (PySem.W.nsIn K mainGlobals "_law_tree" = some (some (.ref (He.ga K "_law_tree")))) ∧ (PySem.W.keepIn K (.ref (He.ga K "_law_tree")) = true) ∧ (PySem.W.nsIn K mainGlobals "_law_is_letter" = some (some (.ref (He.ga K "_law_is_letter")))) ∧ (PySem.W.keepIn K (.ref (He.ga K "_law_is_letter")) = true) ∧ (PySem.W.nsIn K mainGlobals "_law_due_put" = some (some (.ref (He.ga K "_law_due_put")))) ∧ (PySem.W.keepIn K (.ref (He.ga K "_law_due_put")) = true) ∧ (PySem.W.nsIn K mainGlobals "_law_due" = some (some (.ref (He.ga K "_law_due")))) ∧ (PySem.W.keepIn K (.ref (He.ga K "_law_due")) = true) ∧ (PySem.W.nsIn K mainGlobals "_law_do" = some (some (.ref (He.ga K "_law_do")))) ∧ (PySem.W.keepIn K (.ref (He.ga K "_law_do")) = true) ∧ True
abbrev PB16 (K : PySem.W.Frag) : Prop := (PySem.W.nsIn K mainGlobals "_law_answer" = some (some (.ref (He.ga K "_law_answer")))) ∧ (PySem.W.keepIn K (.ref (He.ga K "_law_answer")) = true) ∧ (PySem.W.nsIn K mainGlobals "_law_due_answer" = some (some (.ref (He.ga K "_law_due_answer")))) ∧ (PySem.W.keepIn K (.ref (He.ga K "_law_due_answer")) = true) ∧ (PySem.W.nsIn K mainGlobals "_law_right" = some (some (.ref (He.ga K "_law_right")))) ∧ (PySem.W.keepIn K (.ref (He.ga K "_law_right")) = true) ∧ (PySem.W.nsIn K mainGlobals "law" = some (some (.ref (He.ga K "law")))) ∧ (PySem.W.keepIn K (.ref (He.ga K "law")) = true) ∧ (PySem.W.nsIn K mainGlobals "zip" = some none) ∧ (PySem.W.nsIn K mainGlobals "all" = some none) ∧ (PySem.W.nsIn K mainGlobals "repr" = some none) ∧ (PySem.W.nsIn K mainGlobals "len" = some none) ∧ (PySem.W.nsIn K mainGlobals "isinstance" = some none) ∧ (PySem.W.nsIn K mainGlobals "list" = some none) ∧ (PySem.W.nsIn K mainGlobals "tuple" = some none) ∧ (PySem.W.nsIn K mainGlobals "str" = some none) ∧ (PySem.W.nsIn K mainGlobals "int" = some none) ∧ (PySem.W.nsIn K mainGlobals "bool" = some none) ∧ (PySem.W.nsIn K mainGlobals "dict" = some none) ∧ (PySem.W.nsIn K mainGlobals "range" = some none) ∧ True
abbrev PB17 (K : PySem.W.Frag) : Prop := (PySem.W.nsIn K mainGlobals "sorted" = some none) ∧ (PySem.W.nsIn K mainGlobals "abs" = some none) ∧ (PySem.W.nsIn K mainGlobals "min" = some none) ∧ (PySem.W.nsIn K mainGlobals "max" = some none) ∧ (PySem.W.nsIn K mainGlobals "enumerate" = some none) ∧ (PySem.W.nsIn K mainGlobals "LookupError" = some none) ∧ (PySem.W.nsIn K mainGlobals "ValueError" = some none) ∧ (PySem.W.nsIn K mainGlobals "MAX_NODES" = some (some (.int 12 (Hx.tokV (PySem.W.nsIn K mainGlobals "MAX_NODES"))))) ∧ True
def pg0 (K : PySem.W.Frag) : Bool := decide (PB0 K) && (decide (PB1 K) && (decide (PB2 K) && (decide (PB3 K) && (decide (PB4 K) && (decide (PB5 K) && (decide (PB6 K)))))))
def pg1 (K : PySem.W.Frag) : Bool := decide (PB7 K) && (decide (PB8 K) && (decide (PB9 K) && (decide (PB10 K) && (decide (PB11 K) && (decide (PB12 K) && (decide (PB13 K)))))))
def pg2 (K : PySem.W.Frag) : Bool := decide (PB14 K) && (decide (PB15 K) && (decide (PB16 K) && (decide (PB17 K))))
def pb : PySem.W.Frag → Bool := fun K => pg0 K && (( fun K => pg1 K && (( fun K => pg2 K && ((fun _ => true) K)) K)) K)
def fq0 : List Hx.DefQ := [
  ⟨fun K => (He.ma K (He.ga K "NoVersion") "__init__"), "__init__", "NoVersion.__init__", (iA_value ⟨56, 17, 56, 21⟩ ⟨56, 23, 56, 28⟩), (iB_value ⟨57, 8, 57, 12⟩ ⟨57, 8, 57, 18⟩ ⟨57, 21, 57, 26⟩ ⟨57, 8, 57, 26⟩), iS_value⟩,
  ⟨fun K => (He.ma K (He.ga K "Desk") "__init__"), "__init__", "Desk.__init__", (defArgs s_Desk___init__), (defBody s_Desk___init__), (defScope s_Desk___init__)⟩,
  ⟨fun K => (He.ma K (He.ga K "Desk") "check_free"), "check_free", "Desk.check_free", (defArgs s_Desk_check_free), (defBody s_Desk_check_free), (defScope s_Desk_check_free)⟩,
  ⟨fun K => (He.ma K (He.ga K "Desk") "check_tree"), "check_tree", "Desk.check_tree", (defArgs s_Desk_check_tree), (defBody s_Desk_check_tree), (defScope s_Desk_check_tree)⟩,
  ⟨fun K => (He.ma K (He.ga K "Desk") "told"), "told", "Desk.told", (defArgs s_Desk_told), (defBody s_Desk_told), (defScope s_Desk_told)⟩,
  ⟨fun K => (He.ma K (He.ga K "Desk") "take"), "take", "Desk.take", (defArgs s_Desk_take), (defBody s_Desk_take), (defScope s_Desk_take)⟩,
  ⟨fun K => (He.ma K (He.ga K "Desk") "called"), "called", "Desk.called", (defArgs s_Desk_called), (defBody s_Desk_called), (defScope s_Desk_called)⟩,
  ⟨fun K => (He.ma K (He.ga K "Desk") "put"), "put", "Desk.put", (defArgs s_Desk_put), (defBody s_Desk_put), (defScope s_Desk_put)⟩,
  ⟨fun K => (He.ma K (He.ga K "Desk") "cut"), "cut", "Desk.cut", (defArgs s_Desk_cut), (defBody s_Desk_cut), (defScope s_Desk_cut)⟩,
  ⟨fun K => (He.ma K (He.ga K "Desk") "label"), "label", "Desk.label", (defArgs s_Desk_label), (defBody s_Desk_label), (defScope s_Desk_label)⟩,
  ⟨fun K => (He.ma K (He.ga K "Desk") "turn"), "turn", "Desk.turn", (defArgs s_Desk_turn), (defBody s_Desk_turn), (defScope s_Desk_turn)⟩,
  ⟨fun K => (He.ma K (He.ga K "Desk") "undo"), "undo", "Desk.undo", (defArgs s_Desk_undo), (defBody s_Desk_undo), (defScope s_Desk_undo)⟩,
  ⟨fun K => (He.ma K (He.ga K "Desk") "history"), "history", "Desk.history", (defArgs s_Desk_history), (defBody s_Desk_history), (defScope s_Desk_history)⟩,
  ⟨fun K => (He.ma K (He.ga K "Desk") "tree"), "tree", "Desk.tree", (defArgs s_Desk_tree), (defBody s_Desk_tree), (defScope s_Desk_tree)⟩,
  ⟨fun K => (Hx.hdV (PySem.W.recIn K (He.ma K (He.ga K "Desk") "version") "property")), "version", "Desk.version", (defArgs s_Desk_version), (defBody s_Desk_version), (defScope s_Desk_version)⟩,
  ⟨fun K => (Hx.hdV (PySem.W.recIn K (He.ma K (He.ga K "Desk") "size") "property")), "size", "Desk.size", (defArgs s_Desk_size), (defBody s_Desk_size), (defScope s_Desk_size)⟩,
  ⟨fun K => (Hx.hdV (PySem.W.recIn K (He.ma K (He.ga K "Desk") "first") "property")), "first", "Desk.first", (defArgs s_Desk_first), (defBody s_Desk_first), (defScope s_Desk_first)⟩,
  ⟨fun K => (Hx.hdV (PySem.W.recIn K (He.ma K (He.ga K "Desk") "between") "property")), "between", "Desk.between", (defArgs s_Desk_between), (defBody s_Desk_between), (defScope s_Desk_between)⟩,
  ⟨fun K => (Hx.hdV (PySem.W.recIn K (He.ma K (He.ga K "Desk") "last") "property")), "last", "Desk.last", (defArgs s_Desk_last), (defBody s_Desk_last), (defScope s_Desk_last)⟩,
  ⟨fun K => (He.ga K "_law_some_edit"), "_law_some_edit", "_law_some_edit", (defArgs s__law_some_edit), (defBody s__law_some_edit), (defScope s__law_some_edit)⟩,
  ⟨fun K => (He.ga K "_law_valid_edit"), "_law_valid_edit", "_law_valid_edit", (defArgs s__law_valid_edit), (defBody s__law_valid_edit), (defScope s__law_valid_edit)⟩,
  ⟨fun K => (He.ga K "is_letter"), "is_letter", "is_letter", (defArgs s_is_letter), (defBody s_is_letter), (defScope s_is_letter)⟩,
  ⟨fun K => (He.ga K "is_whole_number"), "is_whole_number", "is_whole_number", (defArgs s_is_whole_number), (defBody s_is_whole_number), (defScope s_is_whole_number)⟩,
  ⟨fun K => (He.ga K "is_index"), "is_index", "is_index", (defArgs s_is_index), (defBody s_is_index), (defScope s_is_index)⟩,
  ⟨fun K => (He.ga K "is_node"), "is_node", "is_node", (defArgs s_is_node), (defBody s_is_node), (defScope s_is_node)⟩,
  ⟨fun K => (He.ga K "is_tree"), "is_tree", "is_tree", (defArgs s_is_tree), (defBody s_is_tree), (defScope s_is_tree)⟩,
  ⟨fun K => (He.ga K "size_of"), "size_of", "size_of", (defArgs s_size_of), (defBody s_size_of), (defScope s_size_of)⟩,
  ⟨fun K => (He.ga K "part_at"), "part_at", "part_at", (defArgs s_part_at), (defBody s_part_at), (defScope s_part_at)⟩,
  ⟨fun K => (He.ga K "is_open"), "is_open", "is_open", (defArgs s_is_open), (defBody s_is_open), (defScope s_is_open)⟩,
  ⟨fun K => (He.ga K "replaced"), "replaced", "replaced", (defArgs s_replaced), (defBody s_replaced), (defScope s_replaced)⟩]
def fq1 : List Hx.DefQ := [
  ⟨fun K => (He.ga K "with_part"), "with_part", "with_part", (defArgs s_with_part), (defBody s_with_part), (defScope s_with_part)⟩,
  ⟨fun K => (He.ga K "mirrored"), "mirrored", "mirrored", (defArgs s_mirrored), (defBody s_mirrored), (defScope s_mirrored)⟩,
  ⟨fun K => (He.ga K "node_at"), "node_at", "node_at", (defArgs s_node_at), (defBody s_node_at), (defScope s_node_at)⟩,
  ⟨fun K => (He.ga K "with_node"), "with_node", "with_node", (defArgs s_with_node), (defBody s_with_node), (defScope s_with_node)⟩,
  ⟨fun K => (He.ga K "without_node"), "without_node", "without_node", (defArgs s_without_node), (defBody s_without_node), (defScope s_without_node)⟩,
  ⟨fun K => (He.ga K "with_label"), "with_label", "with_label", (defArgs s_with_label), (defBody s_with_label), (defScope s_with_label)⟩,
  ⟨fun K => (He.ga K "turned"), "turned", "turned", (defArgs s_turned), (defBody s_turned), (defScope s_turned)⟩,
  ⟨fun K => (He.ga K "edited"), "edited", "edited", (defArgs s_edited), (defBody s_edited), (defScope s_edited)⟩,
  ⟨fun K => (He.ga K "is_kind"), "is_kind", "is_kind", (defArgs s_is_kind), (defBody s_is_kind), (defScope s_is_kind)⟩,
  ⟨fun K => (He.ga K "ordered_steps"), "ordered_steps", "ordered_steps", (defArgs s_ordered_steps), (defBody s_ordered_steps), (defScope s_ordered_steps)⟩,
  ⟨fun K => (He.ga K "deep_steps"), "deep_steps", "deep_steps", (defArgs s_deep_steps), (defBody s_deep_steps), (defScope s_deep_steps)⟩,
  ⟨fun K => (He.ga K "walk"), "walk", "walk", (defArgs s_walk), (defBody s_walk), (defScope s_walk)⟩,
  ⟨fun K => (He.ga K "_law_stream"), "_law_stream", "_law_stream", (defArgs s__law_stream), (defBody s__law_stream), (defScope s__law_stream)⟩,
  ⟨fun K => (He.ga K "_law_take"), "_law_take", "_law_take", (defArgs s__law_take), (defBody s__law_take), (defScope s__law_take)⟩,
  ⟨fun K => (He.ga K "_law_from"), "_law_from", "_law_from", (defArgs s__law_from), (defBody s__law_from), (defScope s__law_from)⟩,
  ⟨fun K => (He.ga K "_law_equal"), "_law_equal", "_law_equal", (defArgs s__law_equal), (defBody s__law_equal), (defScope s__law_equal)⟩,
  ⟨fun K => (He.ga K "_law_odd"), "_law_odd", "_law_odd", (defArgs s__law_odd), (defBody s__law_odd), (defScope s__law_odd)⟩,
  ⟨fun K => (He.ga K "_law_letter"), "_law_letter", "_law_letter", (defArgs s__law_letter), (defBody s__law_letter), (defScope s__law_letter)⟩,
  ⟨fun K => (He.ga K "_law_paths"), "_law_paths", "_law_paths", (defArgs s__law_paths), (defBody s__law_paths), (defScope s__law_paths)⟩,
  ⟨fun K => (He.ga K "_law_part"), "_law_part", "_law_part", (defArgs s__law_part), (defBody s__law_part), (defScope s__law_part)⟩,
  ⟨fun K => (He.ga K "_law_grafted"), "_law_grafted", "_law_grafted", (defArgs s__law_grafted), (defBody s__law_grafted), (defScope s__law_grafted)⟩,
  ⟨fun K => (He.ga K "_law_swapped"), "_law_swapped", "_law_swapped", (defArgs s__law_swapped), (defBody s__law_swapped), (defScope s__law_swapped)⟩,
  ⟨fun K => (He.ga K "_law_labels"), "_law_labels", "_law_labels", (defArgs s__law_labels), (defBody s__law_labels), (defScope s__law_labels)⟩,
  ⟨fun K => (He.ga K "_law_spot"), "_law_spot", "_law_spot", (defArgs s__law_spot), (defBody s__law_spot), (defScope s__law_spot)⟩,
  ⟨fun K => (He.ga K "_law_sorted_tree"), "_law_sorted_tree", "_law_sorted_tree", (defArgs s__law_sorted_tree), (defBody s__law_sorted_tree), (defScope s__law_sorted_tree)⟩,
  ⟨fun K => (He.ga K "_law_tree"), "_law_tree", "_law_tree", (defArgs s__law_tree), (defBody s__law_tree), (defScope s__law_tree)⟩,
  ⟨fun K => (He.ga K "_law_is_letter"), "_law_is_letter", "_law_is_letter", (defArgs s__law_is_letter), (defBody s__law_is_letter), (defScope s__law_is_letter)⟩,
  ⟨fun K => (He.ga K "_law_due_put"), "_law_due_put", "_law_due_put", (defArgs s__law_due_put), (defBody s__law_due_put), (defScope s__law_due_put)⟩,
  ⟨fun K => (He.ga K "_law_due"), "_law_due", "_law_due", (defArgs s__law_due), (defBody s__law_due), (defScope s__law_due)⟩,
  ⟨fun K => (He.ga K "_law_do"), "_law_do", "_law_do", (defArgs s__law_do), (defBody s__law_do), (defScope s__law_do)⟩]
def fq2 : List Hx.DefQ := [
  ⟨fun K => (He.ga K "_law_answer"), "_law_answer", "_law_answer", (defArgs s__law_answer), (defBody s__law_answer), (defScope s__law_answer)⟩,
  ⟨fun K => (He.ga K "_law_due_answer"), "_law_due_answer", "_law_due_answer", (defArgs s__law_due_answer), (defBody s__law_due_answer), (defScope s__law_due_answer)⟩,
  ⟨fun K => (He.ga K "_law_right"), "_law_right", "_law_right", (defArgs s__law_right), (defBody s__law_right), (defScope s__law_right)⟩,
  ⟨fun K => (He.ga K "law"), "law", "law", (defArgs s_law), (defBody s_law), (defScope s_law)⟩]
def fqs : List Hx.DefQ := fq0 ++ fq1 ++ fq2
def hx0 : List Str := ["_law_some_edit", "_law_valid_edit", "is_letter", "is_whole_number", "is_index", "is_node", "is_tree", "size_of", "part_at", "is_open", "replaced", "with_part", "mirrored", "node_at", "with_node", "without_node", "with_label", "turned", "edited", "is_kind", "ordered_steps", "deep_steps", "walk", "_law_stream", "_law_take", "_law_from", "_law_equal", "_law_odd", "_law_letter", "_law_paths"]
def hx1 : List Str := ["_law_part", "_law_grafted", "_law_swapped", "_law_labels", "_law_spot", "_law_sorted_tree", "_law_tree", "_law_is_letter", "_law_due_put", "_law_due", "_law_do", "_law_answer", "_law_due_answer", "_law_right", "law", "KINDS", "ACTIONS"]
def hxs : List Str := hx0 ++ hx1
def hcs : List Str := ["WalkError", "NoPath", "NoIndex", "NoVersion", "Desk"]
def hq : Hx.Q := ⟨hxs, hcs, pb, fqs, [(fun K => (He.ga K "ACTIONS"), ["put", "cut", "label", "turn"])]⟩
def nm0 : List Str := ["MAX_NODES", "BATCH", "WalkError", "TooLarge", "BadTree", "NotOpen", "NoLabel", "LastNode", "TooManyEdits", "NothingToUndo", "BadEdits", "BadEdit", "Rejected", "Busy", "BadText", "NoPath", "NoKind", "NoIndex", "NoVersion", "is_letter", "is_whole_number", "is_index", "is_node", "is_tree", "size_of", "part_at", "is_open", "replaced", "with_part", "mirrored"]
def nm1 : List Str := ["node_at", "with_node", "without_node", "with_label", "turned", "ACTIONS", "LENGTHS", "has_form_of_edit", "edited", "KINDS", "is_kind", "ordered_steps", "deep_steps", "level_steps", "walk", "parse_tree", "sign_at", "read_tree", "read_left", "read_side", "Desk", "_law_stream", "_law_take", "_law_from", "_law_equal", "_law_odd", "_law_letter", "_law_paths", "_law_part", "_law_grafted"]
def nm2 : List Str := ["_law_swapped", "_law_labels", "_law_spot", "_law_sorted_tree", "_law_tree", "_law_is_letter", "_law_due_put", "_law_due", "_law_do", "_law_some_edit", "_law_valid_edit", "_law_answer", "_law_due_answer", "_law_right"]
def nms : List Str := nm0 ++ nm1 ++ nm2
abbrev RR : PySem.W.OpenRow := PySem.W.OpenLaw.row PySem.Challenge.rw_treewalks_k66_versions
def obq (s : PySem.W.SharedT) : Hx.AlQ := hq.obs (HandSHeadRun.getT s)
theorem obq_eq (s : PySem.W.SharedT) : obq s = hq.hook.obs s.abs := hq.obs_eq (HandSHeadRun.getT_eq s)
set_option maxHeartbeats 0 in
theorem run_0a (w : World) : HandSHeadRun.RunEq RR (PySem.W.view RR.prog [82]) (Hx.Q.mk hxs hcs pg0 [] []).hook (fun s => (Hx.Q.mk hxs hcs pg0 [] []).obs (HandSHeadRun.getT s)) 30000 nms (w.withFollow "special-get-raises" false) := by intro os; kernel_rfl
set_option maxHeartbeats 0 in
theorem run_0b (w : World) : HandSHeadRun.RunEq RR (PySem.W.view RR.prog [82]) (Hx.Q.mk hxs hcs pg0 [] []).hook (fun s => (Hx.Q.mk hxs hcs pg0 [] []).obs (HandSHeadRun.getT s)) 30000 nms (w.withFollow "special-get-raises" true) := by intro os; kernel_rfl
theorem run_0 (w : World) : HandSHeadRun.RunEq RR (PySem.W.view RR.prog [82]) (Hx.Q.mk hxs hcs pg0 [] []).hook (fun s => (Hx.Q.mk hxs hcs pg0 [] []).obs (HandSHeadRun.getT s)) 30000 nms w :=
  PySem.W.byRow2 "special-get-raises" (P := fun w => HandSHeadRun.RunEq RR (PySem.W.view RR.prog [82]) (Hx.Q.mk hxs hcs pg0 [] []).hook (fun s => (Hx.Q.mk hxs hcs pg0 [] []).obs (HandSHeadRun.getT s)) 30000 nms w) run_0a run_0b w
set_option maxHeartbeats 0 in
theorem run_1a (w : World) : HandSHeadRun.RunEq RR (PySem.W.view RR.prog [82]) (Hx.Q.mk hxs hcs pg1 [] []).hook (fun s => (Hx.Q.mk hxs hcs pg1 [] []).obs (HandSHeadRun.getT s)) 30000 nms (w.withFollow "special-get-raises" false) := by intro os; kernel_rfl
set_option maxHeartbeats 0 in
theorem run_1b (w : World) : HandSHeadRun.RunEq RR (PySem.W.view RR.prog [82]) (Hx.Q.mk hxs hcs pg1 [] []).hook (fun s => (Hx.Q.mk hxs hcs pg1 [] []).obs (HandSHeadRun.getT s)) 30000 nms (w.withFollow "special-get-raises" true) := by intro os; kernel_rfl
theorem run_1 (w : World) : HandSHeadRun.RunEq RR (PySem.W.view RR.prog [82]) (Hx.Q.mk hxs hcs pg1 [] []).hook (fun s => (Hx.Q.mk hxs hcs pg1 [] []).obs (HandSHeadRun.getT s)) 30000 nms w :=
  PySem.W.byRow2 "special-get-raises" (P := fun w => HandSHeadRun.RunEq RR (PySem.W.view RR.prog [82]) (Hx.Q.mk hxs hcs pg1 [] []).hook (fun s => (Hx.Q.mk hxs hcs pg1 [] []).obs (HandSHeadRun.getT s)) 30000 nms w) run_1a run_1b w
set_option maxHeartbeats 0 in
theorem run_2a (w : World) : HandSHeadRun.RunEq RR (PySem.W.view RR.prog [82]) (Hx.Q.mk hxs hcs pg2 [] []).hook (fun s => (Hx.Q.mk hxs hcs pg2 [] []).obs (HandSHeadRun.getT s)) 30000 nms (w.withFollow "special-get-raises" false) := by intro os; kernel_rfl
set_option maxHeartbeats 0 in
theorem run_2b (w : World) : HandSHeadRun.RunEq RR (PySem.W.view RR.prog [82]) (Hx.Q.mk hxs hcs pg2 [] []).hook (fun s => (Hx.Q.mk hxs hcs pg2 [] []).obs (HandSHeadRun.getT s)) 30000 nms (w.withFollow "special-get-raises" true) := by intro os; kernel_rfl
theorem run_2 (w : World) : HandSHeadRun.RunEq RR (PySem.W.view RR.prog [82]) (Hx.Q.mk hxs hcs pg2 [] []).hook (fun s => (Hx.Q.mk hxs hcs pg2 [] []).obs (HandSHeadRun.getT s)) 30000 nms w :=
  PySem.W.byRow2 "special-get-raises" (P := fun w => HandSHeadRun.RunEq RR (PySem.W.view RR.prog [82]) (Hx.Q.mk hxs hcs pg2 [] []).hook (fun s => (Hx.Q.mk hxs hcs pg2 [] []).obs (HandSHeadRun.getT s)) 30000 nms w) run_2a run_2b w
set_option maxHeartbeats 0 in
theorem run_fa (w : World) : HandSHeadRun.RunEq RR (PySem.W.view RR.prog [82]) (Hx.Q.mk hxs hcs (fun _ => true) fqs [(fun K => (He.ga K "ACTIONS"), ["put", "cut", "label", "turn"])]).hook (fun s => (Hx.Q.mk hxs hcs (fun _ => true) fqs [(fun K => (He.ga K "ACTIONS"), ["put", "cut", "label", "turn"])]).obs (HandSHeadRun.getT s)) 30000 nms (w.withFollow "special-get-raises" false) := by intro os; kernel_rfl
set_option maxHeartbeats 0 in
theorem run_fb (w : World) : HandSHeadRun.RunEq RR (PySem.W.view RR.prog [82]) (Hx.Q.mk hxs hcs (fun _ => true) fqs [(fun K => (He.ga K "ACTIONS"), ["put", "cut", "label", "turn"])]).hook (fun s => (Hx.Q.mk hxs hcs (fun _ => true) fqs [(fun K => (He.ga K "ACTIONS"), ["put", "cut", "label", "turn"])]).obs (HandSHeadRun.getT s)) 30000 nms (w.withFollow "special-get-raises" true) := by intro os; kernel_rfl
theorem run_f (w : World) : HandSHeadRun.RunEq RR (PySem.W.view RR.prog [82]) (Hx.Q.mk hxs hcs (fun _ => true) fqs [(fun K => (He.ga K "ACTIONS"), ["put", "cut", "label", "turn"])]).hook (fun s => (Hx.Q.mk hxs hcs (fun _ => true) fqs [(fun K => (He.ga K "ACTIONS"), ["put", "cut", "label", "turn"])]).obs (HandSHeadRun.getT s)) 30000 nms w :=
  PySem.W.byRow2 "special-get-raises" (P := fun w => HandSHeadRun.RunEq RR (PySem.W.view RR.prog [82]) (Hx.Q.mk hxs hcs (fun _ => true) fqs [(fun K => (He.ga K "ACTIONS"), ["put", "cut", "label", "turn"])]).hook (fun s => (Hx.Q.mk hxs hcs (fun _ => true) fqs [(fun K => (He.ga K "ACTIONS"), ["put", "cut", "label", "turn"])]).obs (HandSHeadRun.getT s)) 30000 nms w) run_fa run_fb w
theorem run_top (w : World) : HandSHeadRun.RunEq RR (PySem.W.view RR.prog [82]) hq.hook obq 30000 nms w := (Hx.Q.comb (run_0 w) (Hx.Q.comb (run_1 w) (Hx.Q.comb (run_2 w) (run_f w))))
theorem of_top {w : World} {K : PySem.W.Frag} {h : Heap} {mg : Str → Option Value} {fa : Addr} (X : K.In h) (G : h.Ns mainGlobals mg) (hfa : mg "law" = some (.ref fa)) (c : hq.says w K) :
    ∀ (base : Heap) (H : Hp) (s : Shared) (a : Addr) (ns : List Int), K.In base → base.Ns mainGlobals mg → Env0 (PySem.Challenge.rw_treewalks_k66_versions).prog w K mg base callerA [] s H → SqL K H a (ns.map V.int) → ns.length ≤ 63 →
      codeAny (model (PySem.Challenge.rw_treewalks_k66_versions).prog w) callerA (.call (.ref fa) ⟨[.ref a], []⟩) (CR CX0 [] (PySem.Challenge.rw_treewalks_k66_versions).prog w H s (fun v _ => v = .bl true) fun _ _ _ => False) s := by
  have z := c.1
  obtain ⟨zg0, z⟩ := He.ba z
  obtain ⟨z0, zg0⟩ := He.ba zg0
  have y0 : PB0 K := of_decide_eq_true z0
  obtain ⟨cb0, df0, kf0, cb1, df1, cb2, df2, cb3, df3, cb4, df4, cb5, df5, cb6, df6, cb7, df7, cb8, df8, cb9, _⟩ := y0
  obtain ⟨z1, zg0⟩ := He.ba zg0
  have y1 : PB1 K := of_decide_eq_true z1
  obtain ⟨df9, cb10, df10, cb11, df11, cb12, df12, cb13, df13, kf13, cb14, df14, cb15, df15, cb16, df16, cb17, df17, cb18, df18, _⟩ := y1
  obtain ⟨z2, zg0⟩ := He.ba zg0
  have y2 : PB2 K := of_decide_eq_true z2
  obtain ⟨cb19, df19, cb20, df20, cb21, df21, cb22, df22, cb23, df23, cb24, df24, cb25, df25, cb26, df26, cb27, df27, cb28, df28, _⟩ := y2
  obtain ⟨z3, zg0⟩ := He.ba zg0
  have y3 : PB3 K := of_decide_eq_true z3
  obtain ⟨cb29, df29, cb30, df30, cb31, df31, cb32, df32, cb33, df33, cb34, df34, cb35, df35, cb36, df36, cb37, df37, cb38, df38, _⟩ := y3
  obtain ⟨z4, zg0⟩ := He.ba zg0
  have y4 : PB4 K := of_decide_eq_true z4
  obtain ⟨cb39, df39, cb40, df40, cb41, df41, cb42, df42, cb43, df43, cb44, df44, cb45, df45, cb46, df46, cb47, df47, cb48, df48, _⟩ := y4
  obtain ⟨z5, zg0⟩ := He.ba zg0
  have y5 : PB5 K := of_decide_eq_true z5
  obtain ⟨cb49, df49, cb50, df50, cb51, df51, cb52, df52, cb53, df53, cb54, df54, cb55, df55, cb56, df56, cb57, df57, cb58, df58, _⟩ := y5
  have z6 := zg0
  have y6 : PB6 K := of_decide_eq_true z6
  obtain ⟨cb59, df59, cb60, df60, cb61, df61, cb62, df62, cb63, df63, xb_x_NoVersion, tb_aKl, tb_tl_law_some_edit, tb_tl_law_valid_edit, p_a_NoVersion, p_a_WalkError, p_a_NoPath, p_a_NoIndex, p_sa_NoVersion, p_ga_NoVersion, _⟩ := y6
  obtain ⟨zg1, z⟩ := He.ba z
  obtain ⟨z7, zg1⟩ := He.ba zg1
  have y7 : PB7 K := of_decide_eq_true z7
  obtain ⟨p_gg_NoVersion, p_nb_NoVersion, p_ii_NoVersion, p_ti_NoVersion, p_kC_NoVersion, p_eC_NoVersion, p_tC_NoVersion, p_hC_NoVersion, p_h1_NoVersion, p_h2_NoVersion, p_h3_NoVersion, p_h4_NoVersion, p_aDK, p_pg, p_hd, p_po, p_sa, p_mk, p_kc, p_nT, _⟩ := y7
  obtain ⟨z8, zg1⟩ := He.ba zg1
  have y8 : PB8 K := of_decide_eq_true z8
  obtain ⟨p_nD, p_nB, p_moA, p_moG, p_aAn, p_aA_put, p_aA_cut, p_aA_label, p_aA_turn, p_aKn, p_e1_NV, p_kNVL, p_kNVM, p_at_init, p_fn_init, p_kp_init, p_at_check_free, p_fn_check_free, p_kp_check_free, p_at_check_tree, _⟩ := y8
  obtain ⟨z9, zg1⟩ := He.ba zg1
  have y9 : PB9 K := of_decide_eq_true z9
  obtain ⟨p_fn_check_tree, p_kp_check_tree, p_at_told, p_fn_told, p_kp_told, p_at_take, p_fn_take, p_kp_take, p_at_called, p_fn_called, p_kp_called, p_at_put, p_fn_put, p_kp_put, p_at_cut, p_fn_cut, p_kp_cut, p_at_label, p_fn_label, p_kp_label, _⟩ := y9
  obtain ⟨z10, zg1⟩ := He.ba zg1
  have y10 : PB10 K := of_decide_eq_true z10
  obtain ⟨p_at_turn, p_fn_turn, p_kp_turn, p_at_undo, p_fn_undo, p_kp_undo, p_at_history, p_fn_history, p_kp_history, p_at_tree, p_fn_tree, p_kp_tree, p_ns_tree_version, p_at_version, p_gt_version, p_tk_version, p_rc_version, p_kp_version, p_at_size, p_gt_size, _⟩ := y10
  obtain ⟨z11, zg1⟩ := He.ba zg1
  have y11 : PB11 K := of_decide_eq_true z11
  obtain ⟨p_tk_size, p_rc_size, p_kp_size, p_at_first, p_gt_first, p_tk_first, p_rc_first, p_kp_first, p_at_between, p_gt_between, p_tk_between, p_rc_between, p_kp_between, p_at_last, p_gt_last, p_tk_last, p_rc_last, p_kp_last, p_a_law_some_edit, p_kp_law_some_edit, _⟩ := y11
  obtain ⟨z12, zg1⟩ := He.ba zg1
  have y12 : PB12 K := of_decide_eq_true z12
  obtain ⟨p_a_law_valid_edit, p_kp_law_valid_edit, p_a1, p_k1, p_a2, p_k2, p_a3, p_k3, p_a4, p_k4, p_a5, p_k5, p_a6, p_k6, p_a7, p_k7, p_a8, p_k8, p_a9, p_k9, _⟩ := y12
  have z13 := zg1
  have y13 : PB13 K := of_decide_eq_true z13
  obtain ⟨p_a10, p_k10, p_a11, p_k11, p_a12, p_k12, p_a13, p_k13, p_a14, p_k14, p_a15, p_k15, p_a16, p_k16, p_a17, p_k17, p_a18, p_k18, p_a19, p_k19, _⟩ := y13
  obtain ⟨zg2, z⟩ := He.ba z
  obtain ⟨z14, zg2⟩ := He.ba zg2
  have y14 : PB14 K := of_decide_eq_true z14
  obtain ⟨p_a20, p_k20, p_a21, p_k21, p_a22, p_k22, p_a23, p_k23, p_a24, p_k24, p_a25, p_k25, p_a26, p_k26, p_a27, p_k27, p_a28, p_k28, p_a29, p_k29, _⟩ := y14
  obtain ⟨z15, zg2⟩ := He.ba zg2
  have y15 : PB15 K := of_decide_eq_true z15
  obtain ⟨p_a30, p_k30, p_a31, p_k31, p_a32, p_k32, p_a33, p_k33, p_a34, p_k34, p_a35, p_k35, p_a36, p_k36, p_a37, p_k37, p_a38, p_k38, p_a39, p_k39, _⟩ := y15
  obtain ⟨z16, zg2⟩ := He.ba zg2
  have y16 : PB16 K := of_decide_eq_true z16
  obtain ⟨p_a40, p_k40, p_a41, p_k41, p_a42, p_k42, p_a43, p_k43, p_z1, p_z2, p_z3, p_z4, p_z5, p_z6, p_z7, p_z8, p_z9, p_z10, p_z11, p_z12, _⟩ := y16
  have z17 := zg2
  have y17 : PB17 K := of_decide_eq_true z17
  obtain ⟨p_z13, p_z14, p_z15, p_z16, p_z17, p_z18, p_z19, p_v1, _⟩ := y17
  obtain ⟨_, _, _, _, _, _, _, _, lk0, ck0⟩ := Hx.fnq_ok (Hx.fn_at c.2.1 0 (d := ⟨fun K => (He.ma K (He.ga K "NoVersion") "__init__"), "__init__", "NoVersion.__init__", (iA_value ⟨56, 17, 56, 21⟩ ⟨56, 23, 56, 28⟩), (iB_value ⟨57, 8, 57, 12⟩ ⟨57, 8, 57, 18⟩ ⟨57, 21, 57, 26⟩ ⟨57, 8, 57, 26⟩), iS_value⟩) rfl) cb0
  rw [df0, kf0] at lk0
  obtain ⟨_, _, _, _, _, _, _, _, lk1, ck1⟩ := Hx.fnq_ok (Hx.fn_at c.2.1 1 (d := ⟨fun K => (He.ma K (He.ga K "Desk") "__init__"), "__init__", "Desk.__init__", (defArgs s_Desk___init__), (defBody s_Desk___init__), (defScope s_Desk___init__)⟩) rfl) cb1
  rw [df1] at lk1
  obtain ⟨_, _, _, _, _, _, _, _, lk2, ck2⟩ := Hx.fnq_ok (Hx.fn_at c.2.1 2 (d := ⟨fun K => (He.ma K (He.ga K "Desk") "check_free"), "check_free", "Desk.check_free", (defArgs s_Desk_check_free), (defBody s_Desk_check_free), (defScope s_Desk_check_free)⟩) rfl) cb2
  rw [df2] at lk2
  obtain ⟨_, _, _, _, _, _, _, _, lk3, ck3⟩ := Hx.fnq_ok (Hx.fn_at c.2.1 3 (d := ⟨fun K => (He.ma K (He.ga K "Desk") "check_tree"), "check_tree", "Desk.check_tree", (defArgs s_Desk_check_tree), (defBody s_Desk_check_tree), (defScope s_Desk_check_tree)⟩) rfl) cb3
  rw [df3] at lk3
  obtain ⟨_, _, _, _, _, _, _, _, lk4, ck4⟩ := Hx.fnq_ok (Hx.fn_at c.2.1 4 (d := ⟨fun K => (He.ma K (He.ga K "Desk") "told"), "told", "Desk.told", (defArgs s_Desk_told), (defBody s_Desk_told), (defScope s_Desk_told)⟩) rfl) cb4
  rw [df4] at lk4
  obtain ⟨_, _, _, _, _, _, _, _, lk5, ck5⟩ := Hx.fnq_ok (Hx.fn_at c.2.1 5 (d := ⟨fun K => (He.ma K (He.ga K "Desk") "take"), "take", "Desk.take", (defArgs s_Desk_take), (defBody s_Desk_take), (defScope s_Desk_take)⟩) rfl) cb5
  rw [df5] at lk5
  obtain ⟨_, _, _, _, _, _, _, _, lk6, ck6⟩ := Hx.fnq_ok (Hx.fn_at c.2.1 6 (d := ⟨fun K => (He.ma K (He.ga K "Desk") "called"), "called", "Desk.called", (defArgs s_Desk_called), (defBody s_Desk_called), (defScope s_Desk_called)⟩) rfl) cb6
  rw [df6] at lk6
  obtain ⟨_, _, _, _, _, _, _, _, lk7, ck7⟩ := Hx.fnq_ok (Hx.fn_at c.2.1 7 (d := ⟨fun K => (He.ma K (He.ga K "Desk") "put"), "put", "Desk.put", (defArgs s_Desk_put), (defBody s_Desk_put), (defScope s_Desk_put)⟩) rfl) cb7
  rw [df7] at lk7
  obtain ⟨_, _, _, _, _, _, _, _, lk8, ck8⟩ := Hx.fnq_ok (Hx.fn_at c.2.1 8 (d := ⟨fun K => (He.ma K (He.ga K "Desk") "cut"), "cut", "Desk.cut", (defArgs s_Desk_cut), (defBody s_Desk_cut), (defScope s_Desk_cut)⟩) rfl) cb8
  rw [df8] at lk8
  obtain ⟨_, _, _, _, _, _, _, _, lk9, ck9⟩ := Hx.fnq_ok (Hx.fn_at c.2.1 9 (d := ⟨fun K => (He.ma K (He.ga K "Desk") "label"), "label", "Desk.label", (defArgs s_Desk_label), (defBody s_Desk_label), (defScope s_Desk_label)⟩) rfl) cb9
  rw [df9] at lk9
  obtain ⟨_, _, _, _, _, _, _, _, lk10, ck10⟩ := Hx.fnq_ok (Hx.fn_at c.2.1 10 (d := ⟨fun K => (He.ma K (He.ga K "Desk") "turn"), "turn", "Desk.turn", (defArgs s_Desk_turn), (defBody s_Desk_turn), (defScope s_Desk_turn)⟩) rfl) cb10
  rw [df10] at lk10
  obtain ⟨_, _, _, _, _, _, _, _, lk11, ck11⟩ := Hx.fnq_ok (Hx.fn_at c.2.1 11 (d := ⟨fun K => (He.ma K (He.ga K "Desk") "undo"), "undo", "Desk.undo", (defArgs s_Desk_undo), (defBody s_Desk_undo), (defScope s_Desk_undo)⟩) rfl) cb11
  rw [df11] at lk11
  obtain ⟨_, _, _, _, _, _, _, _, lk12, ck12⟩ := Hx.fnq_ok (Hx.fn_at c.2.1 12 (d := ⟨fun K => (He.ma K (He.ga K "Desk") "history"), "history", "Desk.history", (defArgs s_Desk_history), (defBody s_Desk_history), (defScope s_Desk_history)⟩) rfl) cb12
  rw [df12] at lk12
  obtain ⟨_, _, _, _, _, _, _, _, lk13, ck13⟩ := Hx.fnq_ok (Hx.fn_at c.2.1 13 (d := ⟨fun K => (He.ma K (He.ga K "Desk") "tree"), "tree", "Desk.tree", (defArgs s_Desk_tree), (defBody s_Desk_tree), (defScope s_Desk_tree)⟩) rfl) cb13
  rw [df13, kf13] at lk13
  obtain ⟨_, _, _, _, _, _, _, _, lk14, ck14⟩ := Hx.fnq_ok (Hx.fn_at c.2.1 14 (d := ⟨fun K => (Hx.hdV (PySem.W.recIn K (He.ma K (He.ga K "Desk") "version") "property")), "version", "Desk.version", (defArgs s_Desk_version), (defBody s_Desk_version), (defScope s_Desk_version)⟩) rfl) cb14
  rw [df14] at lk14
  obtain ⟨_, _, _, _, _, _, _, _, lk15, ck15⟩ := Hx.fnq_ok (Hx.fn_at c.2.1 15 (d := ⟨fun K => (Hx.hdV (PySem.W.recIn K (He.ma K (He.ga K "Desk") "size") "property")), "size", "Desk.size", (defArgs s_Desk_size), (defBody s_Desk_size), (defScope s_Desk_size)⟩) rfl) cb15
  rw [df15] at lk15
  obtain ⟨_, _, _, _, _, _, _, _, lk16, ck16⟩ := Hx.fnq_ok (Hx.fn_at c.2.1 16 (d := ⟨fun K => (Hx.hdV (PySem.W.recIn K (He.ma K (He.ga K "Desk") "first") "property")), "first", "Desk.first", (defArgs s_Desk_first), (defBody s_Desk_first), (defScope s_Desk_first)⟩) rfl) cb16
  rw [df16] at lk16
  obtain ⟨_, _, _, _, _, _, _, _, lk17, ck17⟩ := Hx.fnq_ok (Hx.fn_at c.2.1 17 (d := ⟨fun K => (Hx.hdV (PySem.W.recIn K (He.ma K (He.ga K "Desk") "between") "property")), "between", "Desk.between", (defArgs s_Desk_between), (defBody s_Desk_between), (defScope s_Desk_between)⟩) rfl) cb17
  rw [df17] at lk17
  obtain ⟨_, _, _, _, _, _, _, _, lk18, ck18⟩ := Hx.fnq_ok (Hx.fn_at c.2.1 18 (d := ⟨fun K => (Hx.hdV (PySem.W.recIn K (He.ma K (He.ga K "Desk") "last") "property")), "last", "Desk.last", (defArgs s_Desk_last), (defBody s_Desk_last), (defScope s_Desk_last)⟩) rfl) cb18
  rw [df18] at lk18
  obtain ⟨_, _, _, _, _, _, _, _, lk19, ck19⟩ := Hx.fnq_ok (Hx.fn_at c.2.1 19 (d := ⟨fun K => (He.ga K "_law_some_edit"), "_law_some_edit", "_law_some_edit", (defArgs s__law_some_edit), (defBody s__law_some_edit), (defScope s__law_some_edit)⟩) rfl) cb19
  rw [df19] at lk19
  obtain ⟨_, _, _, _, _, _, _, _, lk20, ck20⟩ := Hx.fnq_ok (Hx.fn_at c.2.1 20 (d := ⟨fun K => (He.ga K "_law_valid_edit"), "_law_valid_edit", "_law_valid_edit", (defArgs s__law_valid_edit), (defBody s__law_valid_edit), (defScope s__law_valid_edit)⟩) rfl) cb20
  rw [df20] at lk20
  obtain ⟨_, _, _, _, _, _, _, _, lk21, ck21⟩ := Hx.fnq_ok (Hx.fn_at c.2.1 21 (d := ⟨fun K => (He.ga K "is_letter"), "is_letter", "is_letter", (defArgs s_is_letter), (defBody s_is_letter), (defScope s_is_letter)⟩) rfl) cb21
  rw [df21] at lk21
  obtain ⟨_, _, _, _, _, _, _, _, lk22, ck22⟩ := Hx.fnq_ok (Hx.fn_at c.2.1 22 (d := ⟨fun K => (He.ga K "is_whole_number"), "is_whole_number", "is_whole_number", (defArgs s_is_whole_number), (defBody s_is_whole_number), (defScope s_is_whole_number)⟩) rfl) cb22
  rw [df22] at lk22
  obtain ⟨_, _, _, _, _, _, _, _, lk23, ck23⟩ := Hx.fnq_ok (Hx.fn_at c.2.1 23 (d := ⟨fun K => (He.ga K "is_index"), "is_index", "is_index", (defArgs s_is_index), (defBody s_is_index), (defScope s_is_index)⟩) rfl) cb23
  rw [df23] at lk23
  obtain ⟨_, _, _, _, _, _, _, _, lk24, ck24⟩ := Hx.fnq_ok (Hx.fn_at c.2.1 24 (d := ⟨fun K => (He.ga K "is_node"), "is_node", "is_node", (defArgs s_is_node), (defBody s_is_node), (defScope s_is_node)⟩) rfl) cb24
  rw [df24] at lk24
  obtain ⟨_, _, _, _, _, _, _, _, lk25, ck25⟩ := Hx.fnq_ok (Hx.fn_at c.2.1 25 (d := ⟨fun K => (He.ga K "is_tree"), "is_tree", "is_tree", (defArgs s_is_tree), (defBody s_is_tree), (defScope s_is_tree)⟩) rfl) cb25
  rw [df25] at lk25
  obtain ⟨_, _, _, _, _, _, _, _, lk26, ck26⟩ := Hx.fnq_ok (Hx.fn_at c.2.1 26 (d := ⟨fun K => (He.ga K "size_of"), "size_of", "size_of", (defArgs s_size_of), (defBody s_size_of), (defScope s_size_of)⟩) rfl) cb26
  rw [df26] at lk26
  obtain ⟨_, _, _, _, _, _, _, _, lk27, ck27⟩ := Hx.fnq_ok (Hx.fn_at c.2.1 27 (d := ⟨fun K => (He.ga K "part_at"), "part_at", "part_at", (defArgs s_part_at), (defBody s_part_at), (defScope s_part_at)⟩) rfl) cb27
  rw [df27] at lk27
  obtain ⟨_, _, _, _, _, _, _, _, lk28, ck28⟩ := Hx.fnq_ok (Hx.fn_at c.2.1 28 (d := ⟨fun K => (He.ga K "is_open"), "is_open", "is_open", (defArgs s_is_open), (defBody s_is_open), (defScope s_is_open)⟩) rfl) cb28
  rw [df28] at lk28
  obtain ⟨_, _, _, _, _, _, _, _, lk29, ck29⟩ := Hx.fnq_ok (Hx.fn_at c.2.1 29 (d := ⟨fun K => (He.ga K "replaced"), "replaced", "replaced", (defArgs s_replaced), (defBody s_replaced), (defScope s_replaced)⟩) rfl) cb29
  rw [df29] at lk29
  obtain ⟨_, _, _, _, _, _, _, _, lk30, ck30⟩ := Hx.fnq_ok (Hx.fn_at c.2.1 30 (d := ⟨fun K => (He.ga K "with_part"), "with_part", "with_part", (defArgs s_with_part), (defBody s_with_part), (defScope s_with_part)⟩) rfl) cb30
  rw [df30] at lk30
  obtain ⟨_, _, _, _, _, _, _, _, lk31, ck31⟩ := Hx.fnq_ok (Hx.fn_at c.2.1 31 (d := ⟨fun K => (He.ga K "mirrored"), "mirrored", "mirrored", (defArgs s_mirrored), (defBody s_mirrored), (defScope s_mirrored)⟩) rfl) cb31
  rw [df31] at lk31
  obtain ⟨_, _, _, _, _, _, _, _, lk32, ck32⟩ := Hx.fnq_ok (Hx.fn_at c.2.1 32 (d := ⟨fun K => (He.ga K "node_at"), "node_at", "node_at", (defArgs s_node_at), (defBody s_node_at), (defScope s_node_at)⟩) rfl) cb32
  rw [df32] at lk32
  obtain ⟨_, _, _, _, _, _, _, _, lk33, ck33⟩ := Hx.fnq_ok (Hx.fn_at c.2.1 33 (d := ⟨fun K => (He.ga K "with_node"), "with_node", "with_node", (defArgs s_with_node), (defBody s_with_node), (defScope s_with_node)⟩) rfl) cb33
  rw [df33] at lk33
  obtain ⟨_, _, _, _, _, _, _, _, lk34, ck34⟩ := Hx.fnq_ok (Hx.fn_at c.2.1 34 (d := ⟨fun K => (He.ga K "without_node"), "without_node", "without_node", (defArgs s_without_node), (defBody s_without_node), (defScope s_without_node)⟩) rfl) cb34
  rw [df34] at lk34
  obtain ⟨_, _, _, _, _, _, _, _, lk35, ck35⟩ := Hx.fnq_ok (Hx.fn_at c.2.1 35 (d := ⟨fun K => (He.ga K "with_label"), "with_label", "with_label", (defArgs s_with_label), (defBody s_with_label), (defScope s_with_label)⟩) rfl) cb35
  rw [df35] at lk35
  obtain ⟨_, _, _, _, _, _, _, _, lk36, ck36⟩ := Hx.fnq_ok (Hx.fn_at c.2.1 36 (d := ⟨fun K => (He.ga K "turned"), "turned", "turned", (defArgs s_turned), (defBody s_turned), (defScope s_turned)⟩) rfl) cb36
  rw [df36] at lk36
  obtain ⟨_, _, _, _, _, _, _, _, lk37, ck37⟩ := Hx.fnq_ok (Hx.fn_at c.2.1 37 (d := ⟨fun K => (He.ga K "edited"), "edited", "edited", (defArgs s_edited), (defBody s_edited), (defScope s_edited)⟩) rfl) cb37
  rw [df37] at lk37
  obtain ⟨_, _, _, _, _, _, _, _, lk38, ck38⟩ := Hx.fnq_ok (Hx.fn_at c.2.1 38 (d := ⟨fun K => (He.ga K "is_kind"), "is_kind", "is_kind", (defArgs s_is_kind), (defBody s_is_kind), (defScope s_is_kind)⟩) rfl) cb38
  rw [df38] at lk38
  obtain ⟨_, _, _, _, _, _, _, _, lk39, ck39⟩ := Hx.fnq_ok (Hx.fn_at c.2.1 39 (d := ⟨fun K => (He.ga K "ordered_steps"), "ordered_steps", "ordered_steps", (defArgs s_ordered_steps), (defBody s_ordered_steps), (defScope s_ordered_steps)⟩) rfl) cb39
  rw [df39] at lk39
  obtain ⟨_, _, _, _, _, _, _, _, lk40, ck40⟩ := Hx.fnq_ok (Hx.fn_at c.2.1 40 (d := ⟨fun K => (He.ga K "deep_steps"), "deep_steps", "deep_steps", (defArgs s_deep_steps), (defBody s_deep_steps), (defScope s_deep_steps)⟩) rfl) cb40
  rw [df40] at lk40
  obtain ⟨_, _, _, _, _, _, _, _, lk41, ck41⟩ := Hx.fnq_ok (Hx.fn_at c.2.1 41 (d := ⟨fun K => (He.ga K "walk"), "walk", "walk", (defArgs s_walk), (defBody s_walk), (defScope s_walk)⟩) rfl) cb41
  rw [df41] at lk41
  obtain ⟨_, _, _, _, _, _, _, _, lk42, ck42⟩ := Hx.fnq_ok (Hx.fn_at c.2.1 42 (d := ⟨fun K => (He.ga K "_law_stream"), "_law_stream", "_law_stream", (defArgs s__law_stream), (defBody s__law_stream), (defScope s__law_stream)⟩) rfl) cb42
  rw [df42] at lk42
  obtain ⟨_, _, _, _, _, _, _, _, lk43, ck43⟩ := Hx.fnq_ok (Hx.fn_at c.2.1 43 (d := ⟨fun K => (He.ga K "_law_take"), "_law_take", "_law_take", (defArgs s__law_take), (defBody s__law_take), (defScope s__law_take)⟩) rfl) cb43
  rw [df43] at lk43
  obtain ⟨_, _, _, _, _, _, _, _, lk44, ck44⟩ := Hx.fnq_ok (Hx.fn_at c.2.1 44 (d := ⟨fun K => (He.ga K "_law_from"), "_law_from", "_law_from", (defArgs s__law_from), (defBody s__law_from), (defScope s__law_from)⟩) rfl) cb44
  rw [df44] at lk44
  obtain ⟨_, _, _, _, _, _, _, _, lk45, ck45⟩ := Hx.fnq_ok (Hx.fn_at c.2.1 45 (d := ⟨fun K => (He.ga K "_law_equal"), "_law_equal", "_law_equal", (defArgs s__law_equal), (defBody s__law_equal), (defScope s__law_equal)⟩) rfl) cb45
  rw [df45] at lk45
  obtain ⟨_, _, _, _, _, _, _, _, lk46, ck46⟩ := Hx.fnq_ok (Hx.fn_at c.2.1 46 (d := ⟨fun K => (He.ga K "_law_odd"), "_law_odd", "_law_odd", (defArgs s__law_odd), (defBody s__law_odd), (defScope s__law_odd)⟩) rfl) cb46
  rw [df46] at lk46
  obtain ⟨_, _, _, _, _, _, _, _, lk47, ck47⟩ := Hx.fnq_ok (Hx.fn_at c.2.1 47 (d := ⟨fun K => (He.ga K "_law_letter"), "_law_letter", "_law_letter", (defArgs s__law_letter), (defBody s__law_letter), (defScope s__law_letter)⟩) rfl) cb47
  rw [df47] at lk47
  obtain ⟨_, _, _, _, _, _, _, _, lk48, ck48⟩ := Hx.fnq_ok (Hx.fn_at c.2.1 48 (d := ⟨fun K => (He.ga K "_law_paths"), "_law_paths", "_law_paths", (defArgs s__law_paths), (defBody s__law_paths), (defScope s__law_paths)⟩) rfl) cb48
  rw [df48] at lk48
  obtain ⟨_, _, _, _, _, _, _, _, lk49, ck49⟩ := Hx.fnq_ok (Hx.fn_at c.2.1 49 (d := ⟨fun K => (He.ga K "_law_part"), "_law_part", "_law_part", (defArgs s__law_part), (defBody s__law_part), (defScope s__law_part)⟩) rfl) cb49
  rw [df49] at lk49
  obtain ⟨_, _, _, _, _, _, _, _, lk50, ck50⟩ := Hx.fnq_ok (Hx.fn_at c.2.1 50 (d := ⟨fun K => (He.ga K "_law_grafted"), "_law_grafted", "_law_grafted", (defArgs s__law_grafted), (defBody s__law_grafted), (defScope s__law_grafted)⟩) rfl) cb50
  rw [df50] at lk50
  obtain ⟨_, _, _, _, _, _, _, _, lk51, ck51⟩ := Hx.fnq_ok (Hx.fn_at c.2.1 51 (d := ⟨fun K => (He.ga K "_law_swapped"), "_law_swapped", "_law_swapped", (defArgs s__law_swapped), (defBody s__law_swapped), (defScope s__law_swapped)⟩) rfl) cb51
  rw [df51] at lk51
  obtain ⟨_, _, _, _, _, _, _, _, lk52, ck52⟩ := Hx.fnq_ok (Hx.fn_at c.2.1 52 (d := ⟨fun K => (He.ga K "_law_labels"), "_law_labels", "_law_labels", (defArgs s__law_labels), (defBody s__law_labels), (defScope s__law_labels)⟩) rfl) cb52
  rw [df52] at lk52
  obtain ⟨_, _, _, _, _, _, _, _, lk53, ck53⟩ := Hx.fnq_ok (Hx.fn_at c.2.1 53 (d := ⟨fun K => (He.ga K "_law_spot"), "_law_spot", "_law_spot", (defArgs s__law_spot), (defBody s__law_spot), (defScope s__law_spot)⟩) rfl) cb53
  rw [df53] at lk53
  obtain ⟨_, _, _, _, _, _, _, _, lk54, ck54⟩ := Hx.fnq_ok (Hx.fn_at c.2.1 54 (d := ⟨fun K => (He.ga K "_law_sorted_tree"), "_law_sorted_tree", "_law_sorted_tree", (defArgs s__law_sorted_tree), (defBody s__law_sorted_tree), (defScope s__law_sorted_tree)⟩) rfl) cb54
  rw [df54] at lk54
  obtain ⟨_, _, _, _, _, _, _, _, lk55, ck55⟩ := Hx.fnq_ok (Hx.fn_at c.2.1 55 (d := ⟨fun K => (He.ga K "_law_tree"), "_law_tree", "_law_tree", (defArgs s__law_tree), (defBody s__law_tree), (defScope s__law_tree)⟩) rfl) cb55
  rw [df55] at lk55
  obtain ⟨_, _, _, _, _, _, _, _, lk56, ck56⟩ := Hx.fnq_ok (Hx.fn_at c.2.1 56 (d := ⟨fun K => (He.ga K "_law_is_letter"), "_law_is_letter", "_law_is_letter", (defArgs s__law_is_letter), (defBody s__law_is_letter), (defScope s__law_is_letter)⟩) rfl) cb56
  rw [df56] at lk56
  obtain ⟨_, _, _, _, _, _, _, _, lk57, ck57⟩ := Hx.fnq_ok (Hx.fn_at c.2.1 57 (d := ⟨fun K => (He.ga K "_law_due_put"), "_law_due_put", "_law_due_put", (defArgs s__law_due_put), (defBody s__law_due_put), (defScope s__law_due_put)⟩) rfl) cb57
  rw [df57] at lk57
  obtain ⟨_, _, _, _, _, _, _, _, lk58, ck58⟩ := Hx.fnq_ok (Hx.fn_at c.2.1 58 (d := ⟨fun K => (He.ga K "_law_due"), "_law_due", "_law_due", (defArgs s__law_due), (defBody s__law_due), (defScope s__law_due)⟩) rfl) cb58
  rw [df58] at lk58
  obtain ⟨_, _, _, _, _, _, _, _, lk59, ck59⟩ := Hx.fnq_ok (Hx.fn_at c.2.1 59 (d := ⟨fun K => (He.ga K "_law_do"), "_law_do", "_law_do", (defArgs s__law_do), (defBody s__law_do), (defScope s__law_do)⟩) rfl) cb59
  rw [df59] at lk59
  obtain ⟨_, _, _, _, _, _, _, _, lk60, ck60⟩ := Hx.fnq_ok (Hx.fn_at c.2.1 60 (d := ⟨fun K => (He.ga K "_law_answer"), "_law_answer", "_law_answer", (defArgs s__law_answer), (defBody s__law_answer), (defScope s__law_answer)⟩) rfl) cb60
  rw [df60] at lk60
  obtain ⟨_, _, _, _, _, _, _, _, lk61, ck61⟩ := Hx.fnq_ok (Hx.fn_at c.2.1 61 (d := ⟨fun K => (He.ga K "_law_due_answer"), "_law_due_answer", "_law_due_answer", (defArgs s__law_due_answer), (defBody s__law_due_answer), (defScope s__law_due_answer)⟩) rfl) cb61
  rw [df61] at lk61
  obtain ⟨_, _, _, _, _, _, _, _, lk62, ck62⟩ := Hx.fnq_ok (Hx.fn_at c.2.1 62 (d := ⟨fun K => (He.ga K "_law_right"), "_law_right", "_law_right", (defArgs s__law_right), (defBody s__law_right), (defScope s__law_right)⟩) rfl) cb62
  rw [df62] at lk62
  obtain ⟨_, _, _, _, _, _, _, _, lk63, ck63⟩ := Hx.fnq_ok (Hx.fn_at c.2.1 63 (d := ⟨fun K => (He.ga K "law"), "law", "law", (defArgs s_law), (defBody s_law), (defScope s_law)⟩) rfl) cb63
  rw [df63] at lk63
  obtain ⟨_, _, _, _, _, _, _, _, _, _, _, _, _, _, x_NoVersion⟩ := Hx.excB_ok xb_x_NoVersion
  obtain ⟨_, _, aAl, kl_aAl, _⟩ := He.dicW_ok (c.tab 0 rfl)
  obtain ⟨_, vs_aKl, _, _, aKl, r_aKl⟩ := Hx.tupL_ok tb_aKl
  obtain ⟨_, _, _, _, rfl, ⟨_, rfl⟩, ⟨_, rfl⟩, ⟨_, rfl⟩, ⟨_, rfl⟩⟩ := Hx.lits4 r_aKl
  obtain ⟨_, vs_tl_law_some_edit, _, _, tl_law_some_edit, r_tl_law_some_edit⟩ := Hx.tupL_ok tb_tl_law_some_edit
  obtain ⟨_, rfl, ⟨_, rfl⟩⟩ := Hx.lits1 r_tl_law_some_edit
  obtain ⟨_, vs_tl_law_valid_edit, _, _, tl_law_valid_edit, r_tl_law_valid_edit⟩ := Hx.tupL_ok tb_tl_law_valid_edit
  obtain ⟨_, rfl, ⟨_, rfl⟩⟩ := Hx.lits1 r_tl_law_valid_edit
  exact all_mk (l := PySem.Challenge.rw_treewalks_k66_versions) (w := w) X G hfa p_a_NoVersion p_a_WalkError p_a_NoPath p_a_NoIndex x_NoVersion p_sa_NoVersion p_ga_NoVersion p_gg_NoVersion p_nb_NoVersion p_ii_NoVersion p_ti_NoVersion lk0 ck0 p_kC_NoVersion p_eC_NoVersion p_tC_NoVersion p_hC_NoVersion p_h1_NoVersion p_h2_NoVersion p_h3_NoVersion p_h4_NoVersion p_aDK p_pg p_hd p_po p_sa p_mk p_kc p_nT p_nD p_nB p_moA p_moG p_aAn aAl kl_aAl p_aA_put p_aA_cut p_aA_label p_aA_turn p_aKn aKl p_e1_NV p_kNVL p_kNVM p_at_init p_fn_init p_kp_init lk1 ck1 p_at_check_free p_fn_check_free p_kp_check_free lk2 ck2 p_at_check_tree p_fn_check_tree p_kp_check_tree lk3 ck3 p_at_told p_fn_told p_kp_told lk4 ck4 p_at_take p_fn_take p_kp_take lk5 ck5 p_at_called p_fn_called p_kp_called lk6 ck6 p_at_put p_fn_put p_kp_put lk7 ck7 p_at_cut p_fn_cut p_kp_cut lk8 ck8 p_at_label p_fn_label p_kp_label lk9 ck9 p_at_turn p_fn_turn p_kp_turn lk10 ck10 p_at_undo p_fn_undo p_kp_undo lk11 ck11 p_at_history p_fn_history p_kp_history lk12 ck12 p_at_tree p_fn_tree p_kp_tree lk13 ck13 p_ns_tree_version p_at_version p_gt_version p_tk_version p_rc_version p_kp_version lk14 ck14 p_at_size p_gt_size p_tk_size p_rc_size p_kp_size lk15 ck15 p_at_first p_gt_first p_tk_first p_rc_first p_kp_first lk16 ck16 p_at_between p_gt_between p_tk_between p_rc_between p_kp_between lk17 ck17 p_at_last p_gt_last p_tk_last p_rc_last p_kp_last lk18 ck18 p_a_law_some_edit p_kp_law_some_edit lk19 ck19 tl_law_some_edit p_a_law_valid_edit p_kp_law_valid_edit lk20 ck20 tl_law_valid_edit p_a1 lk21 ck21 p_k1 p_a2 lk22 ck22 p_k2 p_a3 lk23 ck23 p_k3 p_a4 lk24 ck24 p_k4 p_a5 lk25 ck25 p_k5 p_a6 lk26 ck26 p_k6 p_a7 lk27 ck27 p_k7 p_a8 lk28 ck28 p_k8 p_a9 lk29 ck29 p_k9 p_a10 lk30 ck30 p_k10 p_a11 lk31 ck31 p_k11 p_a12 lk32 ck32 p_k12 p_a13 lk33 ck33 p_k13 p_a14 lk34 ck34 p_k14 p_a15 lk35 ck35 p_k15 p_a16 lk36 ck36 p_k16 p_a17 lk37 ck37 p_k17 p_a18 lk38 ck38 p_k18 p_a19 lk39 ck39 p_k19 p_a20 lk40 ck40 p_k20 p_a21 lk41 ck41 p_k21 p_a22 lk42 ck42 p_k22 p_a23 lk43 ck43 p_k23 p_a24 lk44 ck44 p_k24 p_a25 lk45 ck45 p_k25 p_a26 lk46 ck46 p_k26 p_a27 lk47 ck47 p_k27 p_a28 lk48 ck48 p_k28 p_a29 lk49 ck49 p_k29 p_a30 lk50 ck50 p_k30 p_a31 lk51 ck51 p_k31 p_a32 lk52 ck52 p_k32 p_a33 lk53 ck53 p_k33 p_a34 lk54 ck54 p_k34 p_a35 lk55 ck55 p_k35 p_a36 lk56 ck56 p_k36 p_a37 lk57 ck57 p_k37 p_a38 lk58 ck58 p_k38 p_a39 lk59 ck59 p_k39 p_a40 lk60 ck60 p_k40 p_a41 lk61 ck61 p_k41 p_a42 lk62 ck62 p_k42 p_a43 lk63 ck63 p_k43 p_z1 p_z2 p_z3 p_z4 p_z5 p_z6 p_z7 p_z8 p_z9 p_z10 p_z11 p_z12 p_z13 p_z14 p_z15 p_z16 p_z17 p_z18 p_z19 p_v1
end Tw
open PySem PySem.W PySem.Calls PyProof.Rows
set_option maxRecDepth 100000 in
set_option maxHeartbeats 0 in
theorem PySem.Challenge.cw_treewalks_k66_versions_holds : PySem.Challenge.rw_treewalks_k66_versions.Holds := by
  w_on; o_law
  refine HandSHeadRun.head_any (r := OpenLaw.row PySem.Challenge.rw_treewalks_k66_versions) (q := view (OpenLaw.row PySem.Challenge.rw_treewalks_k66_versions).prog [82]) (H := Tw.hq.hook) (ob := Tw.obq) (M := 30000) (loose := Tw.nms) (d := HandSHeadRun.topDef (OpenLaw.row PySem.Challenge.rw_treewalks_k66_versions).prog 82) (kwd := []) Tw.obq_eq
    (by kernel_rfl) (fun s => by kernel_rfl) Tw.run_top (by kernel_rfl) (by kernel_rfl) (by kernel_rfl) (by rfl) (by first | assumption | decide +kernel) (by decide +kernel) ⟨rfl, rfl, rfl, rfl, rfl, by decide +kernel⟩ ?hw ?hc
  case hw => w_witness2
  case hc =>
    refine Hx.walk_x (l := PySem.Challenge.rw_treewalks_k66_versions) rfl (by kernel_rfl) ?F
    intro w mg fa h Y G hmg0
    obtain ⟨K, KX, c⟩ := Y
    have hmg : mg ("law" : PySem.Str) = some (.ref fa) := by
      have e : (HandSHeadRun.topDef (OpenLaw.row PySem.Challenge.rw_treewalks_k66_versions).prog 82).name = ("law" : PySem.Str) := by kernel_rfl
      rw [← e]
      exact hmg0
    exact ⟨K, KX, Tw.of_top KX G hmg c⟩
