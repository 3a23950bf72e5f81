import PyProof.Rows.All
import Wide.All
import OpenK.AllK
import Wide.FinOn
import HandS.ForMost
import HandS.ForExc
import HandS.Wide
import HandS.IsInst
import HandS.Flow
import HandS.FStrTup
import HandS.NoneIn
import HandS.TupAny
import HandS.Style
import HandS.TryMany
import HandS.ExcIs
import HandS.ExcField
import HandS.ExcOwn
import KE.KExcInit
import KE.KExcIs
import HandS.Walk
import HandS.Zip
import HandS.Star
import HandS.Style
import PyProof.Rows.SortShellAny
import KE.GoesZip
import KE.GoesMore
import KE.SortKeyHeap
import HandS.Lambda
import HandS.EndTab
import PyProof.CollectStr
import PyProof.P3Eq
import HandS.Sort
import HandS.Set
import HandS.SetFor
import HandS.Strs
import HandS.SetTxt0
import HandS.TupSets
import HandS.DictComp
import KE.KSortTupG
import KE.KSortTupUse
import KE.KDictZip
import HandS.More
import HandS.Replace
import HandS.ClsMeth
import HandS.Defaults
import HandS.CallSlots
import HandS.Property
import HandS.CallLocal
import HandS.FStr
import HandS.SlotsOwn
import KE.KCallOwn
import PySem.Challenge.RW_treewalks_k18_renamed_trees
set_option Elab.async false
set_option maxRecDepth 100000
set_option maxHeartbeats 4000000
namespace Tw
open PySem PySem.Spec PyProof.Rows L2
/-! ### trees over signs -/
abbrev ch (c : Nat) : Str := ⟨#[c]⟩
def tx (l : List Nat) : Str := ⟨l.toArray⟩
theorem tx_cps (l : List Nat) : (tx l).cps.toList = l := rfl
theorem tx_size (l : List Nat) : (tx l).cps.size = l.length := rfl
theorem tx_len (l : List Nat) : (tx l).length = l.length := rfl
theorem tx_one (c : Nat) : tx [c] = ch c := rfl
theorem tx_app (a b : List Nat) : tx a ++ tx b = tx (a ++ b) := by
  show (⟨(tx a).cps ++ (tx b).cps⟩ : Str) = _
  simp [tx]
theorem ch_app (c : Nat) (b : List Nat) : ch c ++ tx b = tx (c :: b) := tx_app [c] b
theorem tx_inj {a b : List Nat} (h : tx a = tx b) : a = b := congrArg (fun z : Str => z.cps.toList) h
theorem ch_inj {a b : Nat} (h : ch a = ch b) : a = b := by have := tx_inj (a := [a]) (b := [b]) h; simpa using this
theorem ch_lt (a b : Nat) : decide ((ch a).cps.toList < (ch b).cps.toList) = decide (a < b) := by
  have : ((ch a).cps.toList < (ch b).cps.toList) ↔ a < b := by
    show [a] < [b] ↔ _
    simp [List.cons_lt_cons_iff]
  simp only [this]
theorem tx_to (l : List Nat) (k : Nat) : cutS (tx l) none (some (k : Int)) = tx (l.take k) := by
  unfold cutS tx
  show (⟨_⟩ : Str) = ⟨_⟩
  rw [HT.sIx_nat, HT.sIx_none]
  show (⟨((l.drop 0).take (min k l.length - 0)).toArray⟩ : Str) = ⟨(l.take k).toArray⟩
  rw [List.drop_zero, Nat.sub_zero, Nat.min_def]
  split
  · rfl
  · rw [List.take_of_length_le (Nat.le_refl _), List.take_of_length_le (by omega)]
theorem tx_from (l : List Nat) (k : Nat) : cutS (tx l) (some (k : Int)) none = tx (l.drop k) := by
  unfold cutS tx
  show (⟨_⟩ : Str) = ⟨_⟩
  rw [HT.sIx_nat, HT.sIx_none]
  show (⟨((l.drop (min k l.length)).take (l.length - min k l.length)).toArray⟩ : Str) = ⟨(l.drop k).toArray⟩
  by_cases h : k ≤ l.length
  · rw [Nat.min_eq_left h, List.take_of_length_le (by rw [List.length_drop]; omega)]
  · rw [Nat.min_eq_right (by omega), List.drop_eq_nil_of_le (Nat.le_refl _), List.drop_eq_nil_of_le (by omega), List.take_nil]
theorem joinL_ones : ∀ l : List Nat, TL.joinL [] (l.map fun c => [c]) = l
  | [] => rfl
  | [c] => rfl
  | c :: d :: r => by
    have := joinL_ones (d :: r)
    show [c] ++ ([] ++ TL.joinL [] ((d :: r).map fun c => [c])) = _
    rw [this]; rfl
theorem tx_join (l : List Nat) : Txt.join (Str.ofString "") (l.map ch) = tx l := by
  rw [TL.join_eq]
  have e := TL.tl_join (Str.ofString "") (l.map ch)
  refine TL.ext_tl (e.trans ?_)
  rw [List.map_map]
  exact joinL_ones l
theorem tx_joinOk (l : List Nat) (h : l.length ≤ 1000) : ((l.map ch).map (·.length)).sum + (l.map ch).length * (Str.ofString "").length ≤ 16777216 := by
  have e0 : (Str.ofString "").length = 0 := by decide +kernel
  have e1 : ∀ l : List Nat, ((l.map ch).map (·.length)).sum = l.length := by
    intro l
    induction l with
    | nil => rfl
    | cons c r ih =>
      rw [List.map_cons, List.map_cons, List.sum_cons, ih, List.length_cons]
      show 1 + r.length = _
      omega
  rw [e0, e1]
  omega
inductive B where
  | nil
  | node (l : B) (x : Nat) (r : B)
  deriving DecidableEq
def B.size : B → Nat
  | .nil => 0
  | .node l _ r => l.size + 1 + r.size
def B.deep : B → Nat
  | .nil => 0
  | .node l _ r => 1 + max l.deep r.deep
def B.data : B → PyData
  | .nil => .none
  | .node l x r => .tuple [l.data, .str (ch x), r.data]
def B.pre : B → List Nat
  | .nil => []
  | .node l x r => x :: (l.pre ++ r.pre)
def B.mid : B → List Nat
  | .nil => []
  | .node l x r => l.mid ++ x :: r.mid
theorem B.deep_le : ∀ t : B, t.deep ≤ t.size
  | .nil => Nat.le_refl _
  | .node l _ r => by
    have h1 := l.deep_le
    have h2 := r.deep_le
    show 1 + max l.deep r.deep ≤ l.size + 1 + r.size
    omega
theorem B.pre_len : ∀ t : B, t.pre.length = t.size
  | .nil => rfl
  | .node l x r => by
    have h1 := l.pre_len
    have h2 := r.pre_len
    show (x :: (l.pre ++ r.pre)).length = l.size + 1 + r.size
    rw [List.length_cons, List.length_append]
    omega
theorem B.mid_len : ∀ t : B, t.mid.length = t.size
  | .nil => rfl
  | .node l x r => by
    have h1 := l.mid_len
    have h2 := r.mid_len
    show (l.mid ++ x :: r.mid).length = l.size + 1 + r.size
    rw [List.length_append, List.length_cons]
    omega
theorem B.mid_mem (t : B) (c : Nat) : c ∈ t.mid ↔ c ∈ t.pre := by
  induction t with
  | nil => exact Iff.rfl
  | node l x r h1 h2 =>
    show c ∈ l.mid ++ x :: r.mid ↔ c ∈ x :: (l.pre ++ r.pre)
    rw [List.mem_append, List.mem_cons, List.mem_cons, List.mem_append, h1, h2]
    constructor
    · rintro (h | h | h)
      · exact .inr (.inl h)
      · exact .inl h
      · exact .inr (.inr h)
    · rintro (h | h | h)
      · exact .inr (.inl h)
      · exact .inl h
      · exact .inr (.inr h)
/-- the tree t lies at v -/
inductive BAt (H : Hp) : V → B → Prop
  | nil : BAt H .non .nil
  | node {a : Addr} {l r : V} {x : Nat} {tl tr : B} : H a = some (.tup [l, .str (ch x), r]) → BAt H l tl → BAt H r tr → BAt H (.ref a) (.node tl x tr)
/-- tuples stand still -/
def KeepT (H H' : Hp) : Prop := ∀ b xs, H b = some (.tup xs) → H' b = some (.tup xs)
theorem KeepT.refl (H : Hp) : KeepT H H := fun _ _ h => h
theorem KeepT.trans {H H1 H2 : Hp} (a : KeepT H H1) (b : KeepT H1 H2) : KeepT H H2 := fun c xs h => b c xs (a c xs h)
theorem Same.keepT {H H' : Hp} (h : Same H H') : KeepT H H' := fun b xs e => h b _ e
theorem BAt.keep {H H' : Hp} (k : KeepT H H') {v : V} {t : B} (h : BAt H v t) : BAt H' v t := by
  induction h with
  | nil => exact .nil
  | node e _ _ h1 h2 => exact .node (k _ _ e) h1 h2
theorem BAt.same {H H' : Hp} (k : Same H H') {v : V} {t : B} (h : BAt H v t) : BAt H' v t := h.keep (Tw.Same.keepT k)
theorem BAt.dp {K : PySem.W.Frag} {H : Hp} {v : V} {t : B} (h : BAt H v t) : Dp K H v t.data := by
  induction h with
  | nil => exact .non
  | node e _ _ h1 h2 => exact .tup (SqT.of e) (.cons h1 (.cons (.str _) (.cons h2 .nil)))
theorem BAt.inv {H : Hp} {v : V} {t : B} (h : BAt H v t) : (v = .non ∧ t = .nil) ∨ ∃ a l r x tl tr, v = .ref a ∧ t = .node tl x tr ∧ H a = some (.tup [l, .str (ch x), r]) ∧ BAt H l tl ∧ BAt H r tr := by
  cases h with
  | nil => exact .inl ⟨rfl, rfl⟩
  | node e h1 h2 => exact .inr ⟨_, _, _, _, _, _, rfl, rfl, e, h1, h2⟩
theorem same_new {H : Hp} {p : Addr} (h : H p = none) (o : HO) : Same H (upd H p o) := fun b u q => by rw [upd_ne (ne_of_none q h)]; exact q
theorem small {n : Nat} (h : n ≤ 1000) : n ≤ sizeLine := Nat.le_of_lt (small1000 h)
theorem at_map {α : Type} {f : α → V} {ns : List α} {i : Int} {v : α} (h0 : 0 ≤ i) (h : ns[i.toNat]? = some v) : atI (ns.map f) i = some (f v) := by
  have e : i = ((i.toNat : Nat) : Int) := by omega
  rw [e]
  exact atI_nat (by rw [List.getElem?_map, h]; rfl)
theorem ixN_nat {n : Nat} {i : Int} (h0 : 0 ≤ i) (h : i < n) : ixN n i = some i.toNat := by
  unfold ixN
  first
    | rw [if_pos h0, if_pos h]
    | (rw [if_pos h0]; rw [if_pos (by omega)])
    | simp [h0, h]
theorem cut_to (xs : List V) (k : Nat) : cutV xs none (some (k : Int)) = xs.take k := by
  unfold cutV
  rw [HT.sIx_nat, HT.sIx_none, List.drop_zero, Nat.sub_zero]
  rw [Nat.min_def]
  split
  · rfl
  · rw [List.take_of_length_le (Nat.le_refl _), List.take_of_length_le (by omega)]
theorem cut_from (xs : List V) (k : Nat) : cutV xs (some (k : Int)) none = xs.drop k := by
  unfold cutV
  rw [HT.sIx_nat, HT.sIx_none]
  by_cases h : k ≤ xs.length
  · rw [Nat.min_eq_left h, List.take_of_length_le (by rw [List.length_drop]; omega)]
  · rw [Nat.min_eq_right (by omega), List.drop_eq_nil_of_le (Nat.le_refl _), List.drop_eq_nil_of_le (by omega), List.take_nil]
theorem kept {σ : L2.St} {H : Hp} {A B : Hp → Prop} (h : A H) : tYes σ H (fun b H3 => if b = true then A H3 else B H3) := by
  show if true = true then A H else B H
  exact iteT h
theorem erase_map {α β : Type} (f : α → β) : ∀ (l : List α) (i : Nat), (l.map f).eraseIdx i = (l.eraseIdx i).map f
  | [], _ => rfl
  | _ :: _, 0 => rfl
  | x :: l, i + 1 => congrArg (f x :: ·) (erase_map f l i)
/-- a def that stands at a name, with its promise -/
structure Df (P : Program) (w : World) (K : PySem.W.Frag) (mg : Str → Option Value) (base : Heap) (k : Nat) (nm : Str) (ps : List Str) (sp : Sp) where
  f : Addr
  fd : FuncData
  ok : FnOk P w K mg base CX0 k f fd ps sp
  b : Binds K fd ps []
  kp : PySem.W.keepIn K (.ref f) = true
  g : mg nm = some (.ref f)
structure Mgs (mg : Str → Option Value) : Prop where
  zip : mg "zip" = none
  all : mg "all" = none
  repr : mg "repr" = none
  len : mg "len" = none
  isinstance : mg "isinstance" = none
  list : mg "list" = none
  tuple : mg "tuple" = none
  str : mg "str" = none
  int : mg "int" = none
  bool : mg "bool" = none
  dict : mg "dict" = none
  range : mg "range" = none
  sorted : mg "sorted" = none
  abs : mg "abs" = none
  min : mg "min" = none
  max : mg "max" = none
theorem vals_signs : ∀ (l : List Nat) (vs : List Value), vs.length = l.length → (∀ (j : Nat) (v : Value), vs[j]? = some v → ∃ c u, l[j]? = some c ∧ v = .str ⟨#[c]⟩ u) → Vals (l.map fun c => V.str ⟨#[c]⟩) vs
  | [], [], _, _ => .nil
  | [], _ :: _, h, _ => by simp at h
  | _ :: _, [], h, _ => by simp at h
  | c :: l, v :: vs, h, k => by
    obtain ⟨c', u, e, rfl⟩ := k 0 v rfl
    cases e
    exact .cons ⟨u, rfl⟩ (vals_signs l vs (by simpa using h) fun j v e => k (j + 1) v e)
theorem call_signs {X : Cx} (hc : X.calm = true) : CallR X (.type "list") (fun xs H Q => ∃ x : Str, xs = [.str x] ∧ x.cps.size ≤ 1000 ∧ ∀ p, H p = none → Q (.ref p) (upd H p (.lst (x.cps.toList.map fun c => V.str ⟨#[c]⟩)))) := by
  intro pins s σ H xs us Q I r h
  obtain ⟨x, rfl, hz, q⟩ := h
  obtain ⟨u, rfl, t, rfl⟩ := vals1 r
  have hz' : x.cps.size ≤ sizeLine := small hz
  refine call_list_str (I.ok.hd hc) x t (fun h' tk acc' c' hk hS hacc => ?_) hz'
  have hv : Vals (x.cps.toList.map fun c => V.str ⟨#[c]⟩) acc'.toList := vals_signs _ _ (by rw [Array.length_toList, Array.length_toList]; exact hacc.1) fun j v e => by
    obtain ⟨c, u, h1, h2⟩ := hacc.2 j v (by rw [← Array.getElem?_toList]; exact e)
    exact ⟨c, u, by rw [Array.getElem?_toList]; exact h1, h2⟩
  exact ⟨.ref s.heap.objs.size, _, I.laid (t' := tk) hk (Nat.le_refl _) (show ObjOk X.prog X.w _ h' _ (.lst _) from ⟨by rw [List.length_map, Array.length_toList]; exact hz', acc'.toList, c', hv, by rw [Array.toArray_toList]; exact hS⟩), rfl, q _ (I.hok.fresh (Nat.le_refl _))⟩
/-- for c in text -/
theorem for_text {x : Str} {g : TG} {tb : TS} {D : Ends} {σ : L2.St} {H : Hp} (Pv : Nat → L2.St → Hp → Prop) (h0 : Pv 0 σ H)
    (hs : ∀ i c σ H, x.cps.toList[i]? = some c → Pv i σ H → g (.str ⟨#[c]⟩) σ H fun σ2 H2 => tb { D with nx := Pv (i + 1), ct := Pv (i + 1), bk := D.nx } σ2 H2)
    (hd : ∀ σ H, Pv x.cps.toList.length σ H → D.nx σ H) :
    ∃ W : Nat → Nat → L2.St → Hp → Prop, (∃ m, W 0 m σ H) ∧ ∀ i m σ H, W i m σ H →
      ((Its x).stop i H ∧ D.nx σ H) ∨ ((Its x).go i H ∧ ∃ N : L2.St → Hp → Prop, (∀ σ' H', N σ' H' → ∃ m', m' < m ∧ W (i + 1) m' σ' H') ∧ ∀ v H', (Its x).yld i H v H' → g v σ H' fun σ2 H2 => tb { D with nx := N, ct := N, bk := D.nx } σ2 H2) := by
  refine for_it walk_str Pv h0 (fun _ _ _ _ _ => trivial) (fun i v σ H H' hi hp hy => ?_) (fun σ H hp => hd σ H (by rw [Array.length_toList]; exact hp))
  obtain ⟨rfl, c, hc, rfl⟩ := hy
  exact hs i c σ H' (by rw [Array.getElem?_toList]; exact hc) hp
theorem lc_text {x : Str} {g : TG} {tt : TT} {te : TE} {vs : List Nat} {σ : L2.St} {H1 : Hp} {D : Addr} {Qd : Hp → Prop} (Pv : Nat → Hp → Prop) (h0 : Pv 0 (upd H1 D (.lst [])))
    (hs : ∀ i c H, x.cps.toList[i]? = some c → Pv i H → g (.str ⟨#[c]⟩) (wipe σ vs) H fun σ2 H2 => wipe σ2 vs = wipe σ vs ∧ tt σ2 H2 fun b H3 =>
      if b = true then te σ2 H3 fun y H4 => ∃ acc, H4 D = some (.lst acc) ∧ acc.length < sizeLine ∧ Pv (i + 1) (upd H4 D (.lst (acc ++ [y]))) else Pv (i + 1) H3) (hd : ∀ H, Pv x.cps.toList.length H → Qd H) :
    ∃ W : Nat → Nat → Hp → Prop, (∃ m, W 0 m (upd H1 D (.lst []))) ∧ ∀ i m H, W i m H →
      ((Its x).stop i H ∧ Qd H) ∨ ((Its x).go i H ∧ ∃ Nx : Hp → Prop, (∀ H', Nx H' → ∃ m', m' < m ∧ W (i + 1) m' H') ∧ ∀ v H', (Its x).yld i H v H' → g v (wipe σ vs) H' fun σ2 H2 => wipe σ2 vs = wipe σ vs ∧ tt σ2 H2 fun b H3 =>
        if b = true then te σ2 H3 fun y H4 => ∃ acc, H4 D = some (.lst acc) ∧ acc.length < sizeLine ∧ Nx (upd H4 D (.lst (acc ++ [y]))) else Nx H3) := by
  refine lc_it walk_str Pv h0 (fun _ _ _ _ => trivial) (fun i v H H' hi hp hy => ?_) (fun H hp => hd H (by rw [Array.length_toList]; exact hp))
  obtain ⟨rfl, c, hc, rfl⟩ := hy
  exact hs i c H' (by rw [Array.getElem?_toList]; exact hc) hp
/-! ### the text by places -/
def top (i : Nat) : Stmt := PySem.Challenge.pw_treewalks_k18_renamed_trees.main.body.getD i (.Pass ⟨0, 0, 0, 0⟩)
abbrev s__wall : Stmt := top 0
abbrev s_is_letter : Stmt := top 9
abbrev s_is_lead : Stmt := top 11
abbrev s__law_start : Stmt := top 14
abbrev s__law_draw : Stmt := top 15
abbrev s__law_letters : Stmt := top 16
abbrev s__law_grown : Stmt := top 17
abbrev s__law_tree : Stmt := top 18
abbrev s__law_table : Stmt := top 19
abbrev s__law_to : Stmt := top 20
abbrev s__law_text : Stmt := top 21
abbrev s__law_led : Stmt := top 22
abbrev s__law_due : Stmt := top 23
abbrev s_law : Stmt := top 24
abbrev s_NoLabel___init__ : Stmt := inClass (top 3) 0
abbrev s_NotOneToOne___init__ : Stmt := inClass (top 4) 0
abbrev s_BadText___init__ : Stmt := inClass (top 5) 0
abbrev s_NoLetter___init__ : Stmt := inClass (top 6) 0
abbrev s_Renaming___init__ : Stmt := inClass (top 12) 0
abbrev s_Renaming_read : Stmt := inClass (top 12) 1
abbrev s_Renaming___call__ : Stmt := inClass (top 12) 2
abbrev s_Renaming_renamed : Stmt := inClass (top 12) 3
abbrev s_Renaming_letter_after : Stmt := inClass (top 12) 4
abbrev s_Renaming___getitem__ : Stmt := inClass (top 12) 5
abbrev s_Renaming___iter__ : Stmt := inClass (top 12) 6
abbrev s_Renaming___contains__ : Stmt := inClass (top 12) 7
abbrev s_Renaming___add__ : Stmt := inClass (top 12) 8
abbrev s_Renaming___neg__ : Stmt := inClass (top 12) 9
abbrev s_Renaming_within : Stmt := inClass (top 12) 10
abbrev s_Renaming___eq__ : Stmt := inClass (top 12) 11
abbrev s_Renaming___len__ : Stmt := inClass (top 12) 12
abbrev s_Renaming___bool__ : Stmt := inClass (top 12) 13
abbrev s_Renaming___str__ : Stmt := inClass (top 12) 14
theorem sc__wall : FnScope ["k"] ["k"] (defScope s__wall) := ⟨rfl, rfl, rfl, by decide +kernel, rfl, by decide +kernel, by decide +kernel⟩
theorem sc_is_letter : FnScope ["value"] ["value"] (defScope s_is_letter) := ⟨rfl, rfl, rfl, by decide +kernel, rfl, by decide +kernel, by decide +kernel⟩
theorem sc_is_lead : FnScope ["word"] ["word"] (defScope s_is_lead) := ⟨rfl, rfl, rfl, by decide +kernel, rfl, by decide +kernel, by decide +kernel⟩
theorem sc__law_start : FnScope ["_law_script", "_law_cell", "_law_cells"] ["_law_script"] (defScope s__law_start) := ⟨rfl, rfl, rfl, by decide +kernel, rfl, by decide +kernel, by decide +kernel⟩
theorem sc__law_draw : FnScope ["_law_state", "_law_below", "_law_cells", "_law_rests", "_law_time", "_law_spot", "_law_digit", "_law_mixed"] ["_law_state", "_law_below"] (defScope s__law_draw) := ⟨rfl, rfl, rfl, by decide +kernel, rfl, by decide +kernel, by decide +kernel⟩
theorem sc__law_letters : FnScope ["_law_state", "_law_many", "_law_left", "_law_way", "_law_again", "_law_found"] ["_law_state", "_law_many"] (defScope s__law_letters) := ⟨rfl, rfl, rfl, by decide +kernel, rfl, by decide +kernel, by decide +kernel⟩
theorem sc__law_grown : FnScope ["_law_state", "_law_letters_here", "_law_way", "_law_many", "_law_spot", "_law_front", "_law_back"] ["_law_state", "_law_letters_here", "_law_way"] (defScope s__law_grown) := ⟨rfl, rfl, rfl, by decide +kernel, rfl, by decide +kernel, by decide +kernel⟩
theorem sc__law_tree : FnScope ["_law_state", "_law_limit", "_law_letters_here"] ["_law_state", "_law_limit"] (defScope s__law_tree) := ⟨rfl, rfl, rfl, by decide +kernel, rfl, by decide +kernel, by decide +kernel⟩
theorem sc__law_table : FnScope ["_law_state", "_law_letters_here", "_law_way", "_law_left", "_law_again", "_law_some", "_law_letter", "_law_shift"] ["_law_state"] (defScope s__law_table) := ⟨rfl, rfl, rfl, by decide +kernel, rfl, by decide +kernel, by decide +kernel⟩
theorem sc__law_to : FnScope ["_law_rows", "_law_letter", "_law_own", "_law_other", "_law_found"] ["_law_rows", "_law_letter"] (defScope s__law_to) := ⟨rfl, rfl, rfl, by decide +kernel, rfl, by decide +kernel, by decide +kernel⟩
theorem sc__law_text : FnScope ["_law_rows", "_law_own", "_law_other"] ["_law_rows"] (defScope s__law_text) := ⟨rfl, rfl, rfl, by decide +kernel, rfl, by decide +kernel, by decide +kernel⟩
theorem sc__law_led : FnScope ["_law_rows", "_law_letter", "_law_times", "_law_path", "_law_start_here"] ["_law_rows", "_law_letter", "_law_times"] (defScope s__law_led) := ⟨rfl, rfl, rfl, by decide +kernel, rfl, by decide +kernel, by decide +kernel⟩
theorem sc__law_due : FnScope ["_law_tree_here", "_law_rows", "_law_times", "_law_left", "_law_right"] ["_law_tree_here", "_law_rows", "_law_times"] (defScope s__law_due) := ⟨rfl, rfl, rfl, by decide +kernel, rfl, by decide +kernel, by decide +kernel⟩
theorem sc_law : FnScope ["_law_script", "_law_state", "_law_again", "_law_rows", "_law_tree_here", "_law_renaming", "_law_kept", "_law_told", "_law_due_here", "_law_times"] ["_law_script"] (defScope s_law) := ⟨rfl, rfl, rfl, by decide +kernel, rfl, by decide +kernel, by decide +kernel⟩
theorem sc_NoLabel___init__ : FnScope ["self", "letter"] ["self", "letter"] (defScope s_NoLabel___init__) := ⟨rfl, rfl, rfl, by decide +kernel, rfl, by decide +kernel, by decide +kernel⟩
theorem sc_NotOneToOne___init__ : FnScope ["self", "letter"] ["self", "letter"] (defScope s_NotOneToOne___init__) := ⟨rfl, rfl, rfl, by decide +kernel, rfl, by decide +kernel, by decide +kernel⟩
theorem sc_BadText___init__ : FnScope ["self", "index"] ["self", "index"] (defScope s_BadText___init__) := ⟨rfl, rfl, rfl, by decide +kernel, rfl, by decide +kernel, by decide +kernel⟩
theorem sc_NoLetter___init__ : FnScope ["self", "value"] ["self", "value"] (defScope s_NoLetter___init__) := ⟨rfl, rfl, rfl, by decide +kernel, rfl, by decide +kernel, by decide +kernel⟩
theorem sc_Renaming_read : FnScope ["cls", "text", "leads", "words", "index", "word"] ["cls", "text"] (defScope s_Renaming_read) := ⟨rfl, rfl, rfl, by decide +kernel, rfl, by decide +kernel, by decide +kernel⟩
theorem sc_Renaming___call__ : FnScope ["self", "tree", "times"] ["self", "tree", "times"] (defScope s_Renaming___call__) := ⟨rfl, rfl, rfl, by decide +kernel, rfl, by decide +kernel, by decide +kernel⟩
theorem sc_Renaming_renamed : FnScope ["self", "tree", "times", "left", "label", "right"] ["self", "tree", "times"] (defScope s_Renaming_renamed) := ⟨rfl, rfl, rfl, by decide +kernel, rfl, by decide +kernel, by decide +kernel⟩
theorem sc_Renaming_letter_after : FnScope ["self", "letter", "times", "way", "start"] ["self", "letter", "times"] (defScope s_Renaming_letter_after) := ⟨rfl, rfl, rfl, by decide +kernel, rfl, by decide +kernel, by decide +kernel⟩
theorem sc_Renaming___getitem__ : FnScope ["self", "at"] ["self", "at"] (defScope s_Renaming___getitem__) := ⟨rfl, rfl, rfl, by decide +kernel, rfl, by decide +kernel, by decide +kernel⟩
theorem sc_Renaming___iter__ : FnScope ["self"] ["self"] (defScope s_Renaming___iter__) := ⟨rfl, rfl, rfl, by decide +kernel, rfl, by decide +kernel, by decide +kernel⟩
theorem sc_Renaming___contains__ : FnScope ["self", "x"] ["self", "x"] (defScope s_Renaming___contains__) := ⟨rfl, rfl, rfl, by decide +kernel, rfl, by decide +kernel, by decide +kernel⟩
theorem sc_Renaming___add__ : FnScope ["self", "other", "letter", "leads"] ["self", "other"] (defScope s_Renaming___add__) := ⟨rfl, rfl, rfl, by decide +kernel, rfl, by decide +kernel, by decide +kernel⟩
theorem sc_Renaming___neg__ : FnScope ["self", "letter", "targets", "leads"] ["self"] (defScope s_Renaming___neg__) := ⟨rfl, rfl, rfl, by decide +kernel, rfl, by decide +kernel, by decide +kernel⟩
theorem sc_Renaming_within : FnScope ["self", "other"] ["self", "other"] (defScope s_Renaming_within) := ⟨rfl, rfl, rfl, by decide +kernel, rfl, by decide +kernel, by decide +kernel⟩
theorem sc_Renaming___eq__ : FnScope ["self", "other"] ["self", "other"] (defScope s_Renaming___eq__) := ⟨rfl, rfl, rfl, by decide +kernel, rfl, by decide +kernel, by decide +kernel⟩
theorem sc_Renaming___len__ : FnScope ["self"] ["self"] (defScope s_Renaming___len__) := ⟨rfl, rfl, rfl, by decide +kernel, rfl, by decide +kernel, by decide +kernel⟩
theorem sc_Renaming___bool__ : FnScope ["self"] ["self"] (defScope s_Renaming___bool__) := ⟨rfl, rfl, rfl, by decide +kernel, rfl, by decide +kernel, by decide +kernel⟩
theorem sc_Renaming___str__ : FnScope ["self", "letter"] ["self"] (defScope s_Renaming___str__) := ⟨rfl, rfl, rfl, by decide +kernel, rfl, by decide +kernel, by decide +kernel⟩
/-! ### the deck -/
structure Deck where
  dk : Addr
  ca : Addr
  ra : Addr
structure DeckOk (H : Hp) (D : Deck) (n : Nat) : Prop where
  ex : ∃ cells rests : List Int, H D.dk = some (.lst [.ref D.ca, .ref D.ra, .int (n : Int)]) ∧ H D.ca = some (.lst (cells.map V.int)) ∧ H D.ra = some (.lst (rests.map V.int)) ∧ 0 < cells.length ∧ rests.length = cells.length ∧ cells.length ≤ 61
  dc : D.dk ≠ D.ca
  dr : D.dk ≠ D.ra
  cr : D.ca ≠ D.ra
/-- all stands still but the deck's list and its rests -/
def SameD (D : Deck) (H H' : Hp) : Prop := ∀ b o, b ≠ D.dk → b ≠ D.ra → H b = some o → H' b = some o
theorem SameD.refl (D : Deck) (H : Hp) : SameD D H H := fun _ _ _ _ h => h
theorem SameD.trans {D : Deck} {H H1 H2 : Hp} (a : SameD D H H1) (b : SameD D H1 H2) : SameD D H H2 := fun c o h1 h2 h => b c o h1 h2 (a c o h1 h2 h)
theorem SameD.of {D : Deck} {H H' : Hp} (h : Same H H') : SameD D H H' := fun b o _ _ e => h b o e
theorem DeckOk.lists {H : Hp} {D : Deck} {n : Nat} (d : DeckOk H D n) : (∃ xs, H D.dk = some (.lst xs)) ∧ (∃ xs, H D.ra = some (.lst xs)) := by
  obtain ⟨c, r, h1, _, h3, _⟩ := d.ex
  exact ⟨⟨_, h1⟩, ⟨_, h3⟩⟩
theorem SameD.keepT {D : Deck} {H H' : Hp} {n : Nat} (h : SameD D H H') (d : DeckOk H D n) : KeepT H H' := fun b xs e => by
  obtain ⟨⟨x1, h1⟩, ⟨x2, h2⟩⟩ := d.lists
  exact h b _ (ne_of e h1 (by intro z; cases z)) (ne_of e h2 (by intro z; cases z)) e
theorem SameD.free {D : Deck} {H H' : Hp} {n : Nat} (h : SameD D H H') (d : DeckOk H' D n) {p : Addr} (e : H' p = none) : H p = none := by
  obtain ⟨⟨x1, h1⟩, ⟨x2, h2⟩⟩ := d.lists
  have n1 : p ≠ D.dk := fun z => by rw [z, h1] at e; cases e
  have n2 : p ≠ D.ra := fun z => by rw [z, h2] at e; cases e
  cases q : H p with
  | none => rfl
  | some o =>
    rw [h p o n1 n2 q] at e
    cases e
theorem DeckOk.same {H H' : Hp} {D : Deck} {n : Nat} (d : DeckOk H D n) (h : Same H H') : DeckOk H' D n := by
  obtain ⟨c, r, h1, h2, h3, h4⟩ := d.ex
  exact ⟨⟨c, r, h _ _ h1, h _ _ h2, h _ _ h3, h4⟩, d.dc, d.dr, d.cr⟩
structure Off (D : Deck) (p : Addr) : Prop where
  dk : p ≠ D.dk
  ca : p ≠ D.ca
  ra : p ≠ D.ra
theorem DeckOk.new {H : Hp} {D : Deck} {n : Nat} (d : DeckOk H D n) {p : Addr} (e : H p = none) : Off D p := by
  obtain ⟨c, r, h1, h2, h3, _⟩ := d.ex
  refine ⟨fun z => ?_, fun z => ?_, fun z => ?_⟩
  · rw [z, h1] at e
    cases e
  · rw [z, h2] at e
    cases e
  · rw [z, h3] at e
    cases e
theorem DeckOk.put {H : Hp} {D : Deck} {n : Nat} (d : DeckOk H D n) {p : Addr} (f : Off D p) (o : HO) : DeckOk (upd H p o) D n := by
  obtain ⟨c, r, h1, h2, h3, h4⟩ := d.ex
  exact ⟨⟨c, r, by rw [upd_ne f.dk.symm]; exact h1, by rw [upd_ne f.ca.symm]; exact h2, by rw [upd_ne f.ra.symm]; exact h3, h4⟩, d.dc, d.dr, d.cr⟩
theorem SameD.put {D : Deck} {H H' : Hp} {p : Addr} (s : SameD D H H') (e : H p = none) (o : HO) : SameD D H (upd H' p o) := fun b u h1 h2 h => by
  rw [upd_ne (ne_of_none h e)]
  exact s b u h1 h2 h
theorem SameD.at {D : Deck} {H H' : Hp} {p : Addr} {o : HO} (s : SameD D H H') (f : Off D p) (e : H p = some o) : H' p = some o := s p o f.dk f.ra e

theorem modB (z p : Int) (h0 : 0 < p) : 0 ≤ z % p ∧ z % p < p := ⟨Int.emod_nonneg z (by omega), Int.emod_lt_of_pos z h0⟩
theorem sq_le {n : Nat} (h : n ≤ 1000000) : 69621 * (n : Int) * (n : Int) ≤ 69621000000000000 ∧ 0 ≤ 69621 * (n : Int) * (n : Int) := by
  have h1 : (n : Int) * (n : Int) ≤ 1000000 * 1000000 := Int.mul_le_mul (by omega) (by omega) (by omega) (by omega)
  have h0 : 0 ≤ (n : Int) * (n : Int) := Int.mul_nonneg (by omega) (by omega)
  rw [Int.mul_assoc]
  omega
def spDraw : Sp := fun vs H Q _ => ∃ (D : Deck) (n : Nat) (m : Int), vs = [.ref D.dk, .int m] ∧ DeckOk H D n ∧ n ≤ 1000000 ∧ 0 < m ∧ m ≤ 1000000 ∧ ∀ (i : Int) (H' : Hp), 0 ≤ i → i < m → DeckOk H' D (n + 1) → SameD D H H' → Q (.int i) H'
section
variable {P : Program} {w : World} {K : PySem.W.Frag} {mg : Str → Option Value} {base : Heap} {f : Addr} {fd : FuncData}
theorem ok_draw {k : Nat} (F : Fun K "_law_draw" "_law_draw" s__law_draw f fd) (M : Mgs mg) : FnOk P w K mg base CX0 (k + 1) f fd ["_law_state", "_law_below"] spDraw := by
  refine F.ok sc__law_draw (fun vs H Q E h => ?_) (fun cdv A outer s H vs Q E hr h => ?_)
  · obtain ⟨D, n, m, rfl, _⟩ := h
    rfl
  obtain ⟨D, n, m, rfl, d, hn, m0, m1, q⟩ := h
  obtain ⟨cells, rests, e1, e2, e3, c0, cr, c1⟩ := d.ex
  refine ⟨_, (pss_cons (ps_asg (pv 0) (pg_unl rfl (pgs_cons (pg_name (i := 2) sc__law_draw.nd rfl (.inl rfl)) (pgs_cons (pg_name (i := 3) sc__law_draw.nd rfl (.inl rfl)) (pgs_cons (pg_name (i := 4) sc__law_draw.nd rfl (.inl rfl)) pgs_nil)))))
    (pss_cons (ps_set (i := 5) sc__law_draw.nd rfl (.inl rfl) (pe_op op_mod (pv 4) (pe_callB call_len_seq rfl M.len PySem.boot_len (pa_cons (pv 2) pa_nil))))
    (pss_cons (ps_asg (pe_op op_add (pv 4) pe_int) (pg_sub (pv 0) pe_int set_list))
    (pss_cons (ps_if (pt_cmpR op_gt (pe_ix ix_list (pv 3) (pv 5) (fun _ _ => rfl)) pe_int (nomark _))
      (pss_cons (ps_set (i := 6) sc__law_draw.nd rfl (.inl rfl) (pe_op op_mod (pe_ix ix_list (pv 3) (pv 5) (fun _ _ => rfl)) (pv 1)))
    (pss_cons (ps_asg (pe_op op_fdiv (pe_ix ix_list (pv 3) (pv 5) (fun _ _ => rfl)) (pv 1)) (pg_sub (pv 3) (pv 5) set_list))
    (pss_one (ps_ret (pv 6))))) pss_nil)
    (pss_cons (ps_set (i := 7) sc__law_draw.nd rfl (.inl rfl) (pe_op op_mod (pe_op op_pow (pe_op op_add (pe_op op_add (pe_op op_mod (pe_ix ix_list (pv 2) (pv 5) (fun _ _ => rfl)) pe_int) (pe_op op_mul pe_int (pv 4))) pe_int) pe_int) pe_int))
    (pss_cons (ps_set (i := 7) sc__law_draw.nd rfl (.inl rfl) (pe_op op_mod (pe_op op_pow (pe_op op_add (pe_op op_add (pv 7) (pe_op op_mul (pe_op op_mul pe_int (pv 4)) (pv 4))) pe_int) pe_int) pe_int))
    (pss_one (ps_ret (pe_op op_mod (pe_op op_fdiv (pv 7) pe_int) (pv 1)))))))))), ?_⟩
  refine ⟨_, rfl, D.dk, _, rfl, SqL.of e1, rfl, _, _, rfl, _, _, rfl, _, _, rfl, rfl, ?_⟩
  have cl : ((cells.map V.int).length : Int) = (cells.length : Int) := by rw [List.length_map]
  refine ⟨_, rfl, _, rfl, D.ca, _, rfl, .inl (SqL.of e2), _, _, rfl, rfl, (by show (0 : Int) < ((cells.map V.int).length : Int); rw [cl]; omega), ?_⟩
  have i0 : 0 ≤ (n : Int) % ((cells.map V.int).length : Int) := Int.emod_nonneg _ (by rw [cl]; omega)
  have i1 : (n : Int) % ((cells.map V.int).length : Int) < (cells.length : Int) := by
    rw [cl]
    exact Int.emod_lt_of_pos _ (by omega)
  refine ⟨_, rfl, _, _, rfl, rfl, _, rfl, D.dk, _, _, 2, rfl, rfl, e1, rfl, ?_⟩
  have x2 : (upd H D.dk (.lst [.ref D.ca, .ref D.ra, .int ((n : Int) + 1)])) D.ca = some (.lst (cells.map V.int)) := by rw [upd_ne d.dc.symm]; exact e2
  have x3 : (upd H D.dk (.lst [.ref D.ca, .ref D.ra, .int ((n : Int) + 1)])) D.ra = some (.lst (rests.map V.int)) := by rw [upd_ne d.dr.symm]; exact e3
  have x1 : (upd H D.dk (.lst [.ref D.ca, .ref D.ra, .int ((n : Int) + 1)])) D.dk = some (.lst [.ref D.ca, .ref D.ra, .int ((n + 1 : Nat) : Int)]) := upd_same
  have sd : SameD D H (upd H D.dk (.lst [.ref D.ca, .ref D.ra, .int ((n : Int) + 1)])) := fun b o h1 _ e => by rw [upd_ne h1]; exact e
  have rl : ((rests.map V.int).length : Int) = (cells.length : Int) := by rw [List.length_map, cr]
  have l1 : ((n : Int) % ((cells.map V.int).length : Int)).toNat < rests.length := by omega
  have l2 : ((n : Int) % ((cells.map V.int).length : Int)).toNat < cells.length := by omega
  have a1 := at_map (f := V.int) i0 (List.getElem?_eq_getElem l1)
  have a2 := at_map (f := V.int) i0 (List.getElem?_eq_getElem l2)
  refine ⟨_, rfl, _, rfl, D.ra, _, _, _, rfl, rfl, SqL.of x3, a1, _, _, rfl, rfl, _, rfl, ite2 (fun _ => ?_) (fun _ => ?_)⟩
  · refine ⟨_, rfl, _, rfl, D.ra, _, _, _, rfl, rfl, SqL.of x3, a1, _, rfl, _, _, rfl, rfl, m0, ?_⟩
    refine ⟨_, rfl, _, rfl, D.ra, _, _, _, rfl, rfl, SqL.of x3, a1, _, rfl, _, _, rfl, rfl, ⟨m0, by omega⟩, ?_⟩
    refine ⟨_, rfl, _, rfl, D.ra, _, _, _, rfl, rfl, x3, ixN_nat i0 (by rw [rl]; exact i1), ?_⟩
    refine ⟨_, rfl, ?_⟩
    refine q _ _ (Int.emod_nonneg _ (by omega)) (Int.emod_lt_of_pos _ m0) ⟨⟨cells, rests.set ((n : Int) % ((cells.map V.int).length : Int)).toNat (rests[((n : Int) % ((cells.map V.int).length : Int)).toNat] / m), ?_, ?_, ?_, c0, ?_, c1⟩, d.dc, d.dr, d.cr⟩ ?_
    · rw [upd_ne d.dr]; exact x1
    · rw [upd_ne d.cr]; exact x2
    · rw [upd_same, List.map_set]
    · rw [List.length_set]; exact cr
    · exact sd.trans fun b o _ h2 e => by rw [upd_ne h2]; exact e
  · have b1 := modB cells[((n : Int) % ((cells.map V.int).length : Int)).toNat] 2147483629 (by decide)
    have b2 := sq_le hn
    refine ⟨_, rfl, _, rfl, D.ca, _, _, _, rfl, rfl, SqL.of x2, a2, _, _, rfl, rfl, (show (0 : Int) < 2147483629 by decide), _, rfl, _, _, rfl, rfl, .inl ⟨by decide, by decide⟩, _, _, rfl, rfl, _, _, rfl, rfl, _, _, rfl, rfl, ⟨by decide, by decide, by omega⟩, _, _, rfl, rfl, (show (0 : Int) < 2147483587 by decide), ?_⟩
    generalize (cells[((n : Int) % ((cells.map V.int).length : Int)).toNat] % 2147483629 + 40009 * (n : Int) + 811) ^ Int.toNat 3 = y1
    have b3 := modB y1 2147483587 (by decide)
    refine ⟨_, rfl, _, rfl, _, _, rfl, rfl, .inl ⟨by decide, by decide⟩, _, rfl, _, _, rfl, rfl, .inr ⟨by omega, by omega⟩, _, _, rfl, rfl, _, _, rfl, rfl, _, _, rfl, rfl, ⟨by decide, by decide, by omega⟩, _, _, rfl, rfl, (show (0 : Int) < 2147483647 by decide), ?_⟩
    refine ⟨_, rfl, _, _, rfl, rfl, ⟨by decide, by decide⟩, _, rfl, _, _, rfl, rfl, m0, ?_⟩
    exact q _ _ (Int.emod_nonneg _ (by omega)) (Int.emod_lt_of_pos _ m0) ⟨⟨cells, rests, x1, x2, x3, c0, cr, c1⟩, d.dc, d.dr, d.cr⟩ sd
end
/-! ### _law_deck -/
def spDeck (K : PySem.W.Frag) : Sp := fun vs H Q _ => ∃ (a : Addr) (ns : List Int), vs = [.ref a] ∧ SqL K H a (ns.map V.int) ∧ ∀ (D : Deck) (H' : Hp), DeckOk H' D 0 → Same H H' → Q (.ref D.dk) H'
section
variable {P : Program} {w : World} {K : PySem.W.Frag} {mg : Str → Option Value} {base : Heap} {f : Addr} {fd : FuncData}
theorem ok_start {k : Nat} (F : Fun K "_law_start" "_law_start" s__law_start f fd) (M : Mgs mg) : FnOk P w K mg base CX0 (k + 1) f fd ["_law_script"] (spDeck K) := by
  refine F.ok sc__law_start (fun vs H Q E h => ?_) (fun cdv A outer s H vs Q E hr h => ?_)
  · obtain ⟨a, ns, rfl, _⟩ := h
    rfl
  obtain ⟨a, ns, rfl, hS, q⟩ := h
  refine ⟨_, (pss_cons (ps_set (i := 2) sc__law_start.nd rfl (.inl rfl) (pe_op op_cat (pe_lc (own := [("_law_cell", 1)]) (g := gName 1) (tt := tYes) rfl sc__law_start.nd (pi_list (pe_slice sl_list (pv 0) po_none (po_some pe_int))) (blkOk_by (N := ["_law_script", "_law_cell", "_law_cells"]) (sc := defScope s__law_start) (by decide +kernel)) (fun _ _ _ _ _ => (pg_name (i := 1) sc__law_start.nd rfl (.inl rfl))) (fun _ _ _ _ _ => pts_nil) (fun _ _ _ _ _ => (pe_callB call_abs rfl M.abs (by decide +kernel) (pa_cons (pv 1) pa_nil)))) (pe_op op_rep (pe_lst (pa_cons pe_int pa_nil)) (pe_callTy call_int1 rfl M.int (by decide +kernel) (pa_cons (pe_cmpR op_eq (pe_callB call_len_seq rfl M.len PySem.boot_len (pa_cons (pv 0) pa_nil)) pe_int (nomark _)) pa_nil)))))
    (pss_one (ps_ret (pe_lst (pa_cons (pv 2) (pa_cons (pe_lc (own := [("_law_cell", 1)]) (g := gName 1) (tt := tYes) rfl sc__law_start.nd (pi_list (pv 2)) (blkOk_by (N := ["_law_script", "_law_cell", "_law_cells"]) (sc := defScope s__law_start) (by decide +kernel)) (fun _ _ _ _ _ => (pg_name (i := 1) sc__law_start.nd rfl (.inl rfl))) (fun _ _ _ _ _ => pts_nil) (fun _ _ _ _ _ => (pe_op op_mul (pv 1) (pe_callTy call_int1 rfl M.int (by decide +kernel) (pa_cons (pe_cmpR op_ge (pv 1) (pe_op op_pow pe_int pe_int) (nomark _)) pa_nil))))) (pa_cons pe_int pa_nil))))))), ?_⟩
  refine ⟨.ref a, rfl, 60, rfl, a, ns.map V.int, rfl, hS, fun c nc => ?_⟩
  rw [show (60 : Int) = ((60 : Nat) : Int) from rfl, cut_to, ← List.map_take]
  have s1 := same_new nc (.lst ((ns.take 60).map V.int))
  refine ⟨c, rfl, ⟨_, SqL.of upd_same⟩, fun d1 n1 => ?_⟩
  have s2 := same_new n1 (.lst [])
  refine lc_list (K := K) (a := c) (xs := (ns.take 60).map V.int) (fun i H' => Same (upd H c (.lst ((ns.take 60).map V.int))) H' ∧ ∃ zs : List Int, zs.length = i ∧ H' d1 = some (.lst (zs.map V.int))) ⟨s2, [], rfl, upd_same⟩ (fun i H' _ hp => SqL.of (hp.1 _ _ upd_same)) (fun i x H' hx hp => ?_) (fun H1 hp => ?_)
  · obtain ⟨sm, zs, hz, hd⟩ := hp
    rw [List.getElem?_map] at hx
    obtain ⟨y, hy, rfl⟩ := Option.map_eq_some_iff.mp hx
    have hi : i < 61 := by
      have := (List.getElem?_eq_some_iff.mp hy).1
      rw [List.length_take] at this
      omega
    refine ⟨rfl, kept ?_⟩
    refine ⟨_, rfl, _, rfl, _, hd, by rw [List.length_map]; exact small1000 (by omega), fun b o e => ?_, zs ++ [if y < 0 then -y else y], by rw [List.length_append, hz]; rfl, ?_⟩
    · rw [upd_ne (ne_of_none e n1)]
      exact sm _ _ e
    · rw [upd_same, List.map_append]
      rfl
  obtain ⟨sm, zs, hz, hd⟩ := hp
  rw [List.length_map, List.length_take] at hz
  refine ⟨(by show 1 ≤ sizeLine; decide), fun z nz => ?_⟩
  have s3 := same_new nz (.lst [.int 19])
  have sH : Same H H1 := s1.trans sm
  refine ⟨.ref a, rfl, a, _, rfl, .inl ((sH.trans s3).seq hS), rfl, .inr ⟨_, rfl, z, _, _, rfl, rfl, upd_same, ?_, ?_, ?_, fun y ny => ?_⟩⟩
  · split <;> decide
  · split <;> decide
  · split <;> decide
  have s4 := same_new ny (.lst (List.replicate (Int.toNat (if decide (V.int ((ns.map V.int).length : Int) = V.int 0) = true then 1 else 0)) [V.int 19]).flatten)
  obtain ⟨ex, hex, hexl⟩ : ∃ ex : List Int, (List.replicate (Int.toNat (if decide (V.int ((ns.map V.int).length : Int) = V.int 0) = true then 1 else 0)) [V.int 19]).flatten = ex.map V.int ∧ 0 < zs.length + ex.length ∧ zs.length + ex.length ≤ 61 := by
    by_cases h0 : ns.length = 0
    · refine ⟨[19], ?_, ?_, ?_⟩
      · rw [show (decide (V.int ((ns.map V.int).length : Int) = V.int 0)) = true by rw [List.length_map, h0]; rfl]
        rfl
      · exact Nat.succ_pos _
      · rw [hz, h0]
        decide
    · refine ⟨[], ?_, ?_, ?_⟩
      · rw [show (decide (V.int ((ns.map V.int).length : Int) = V.int 0)) = false by
          apply decide_eq_false
          intro z
          have z' := V.int.inj z
          rw [List.length_map] at z'
          omega]
        rfl
      · rw [List.length_nil]; omega
      · rw [List.length_nil]; omega
  refine ⟨d1, y, _, _, rfl, rfl, (s3.trans s4) _ _ hd, upd_same, ?_, fun p np => ?_⟩
  · rw [hex, List.length_map, List.length_map]
    exact small (by omega)
  have s5 := same_new np (.lst (zs.map V.int ++ (List.replicate (Int.toNat (if decide (V.int ((ns.map V.int).length : Int) = V.int 0) = true then 1 else 0)) [V.int 19]).flatten))
  have s6 := sH.trans (s3.trans (s4.trans s5))
  -- the second list
  refine ⟨.ref p, rfl, .ref p, rfl, p, rfl, ⟨_, SqL.of upd_same⟩, fun r nr => ?_⟩
  rw [hex, ← List.map_append] at s5 s6 nr ⊢
  generalize hH2 : upd (upd (upd H1 z (.lst [.int 19])) y (.lst (ex.map V.int))) p (.lst ((zs ++ ex).map V.int)) = H2 at s5 s6 nr ⊢
  have ep : H2 p = some (.lst ((zs ++ ex).map V.int)) := by rw [← hH2]; exact upd_same
  have hpr : p ≠ r := ne_of_none ep nr
  refine lc_list (K := K) (a := p) (xs := (zs ++ ex).map V.int) (fun i H' => Same H2 H' ∧ ∃ ys : List Int, ys.length = i ∧ H' r = some (.lst (ys.map V.int))) ⟨same_new nr _, [], rfl, upd_same⟩ (fun i H' _ hp => SqL.of (hp.1 _ _ ep)) (fun i x H' hx hp => ?_) (fun H3 hp => ?_)
  · obtain ⟨sm, ys, hy, hd⟩ := hp
    rw [List.getElem?_map] at hx
    obtain ⟨v, hv, rfl⟩ := Option.map_eq_some_iff.mp hx
    have hi : i < 61 := by
      have := (List.getElem?_eq_some_iff.mp hv).1
      rw [List.length_append] at this
      omega
    refine ⟨rfl, kept ?_⟩
    refine ⟨_, rfl, _, rfl, _, _, rfl, rfl, ⟨by decide, by decide, by decide⟩, _, _, rfl, rfl, .inr ⟨_, rfl, _, _, rfl, rfl, .inr ?_, _, hd, by rw [List.length_map]; exact small1000 (by omega), fun b o e => ?_, ys ++ [v * (if decide (v ≥ (10 : Int) ^ Int.toNat 18) = true then 1 else 0)], by rw [List.length_append, hy]; rfl, ?_⟩⟩
    · split <;> decide
    · rw [upd_ne (ne_of_none e nr)]
      exact sm _ _ e
    · rw [upd_same, List.map_append]
      rfl
  · obtain ⟨sm, ys, hy, hd⟩ := hp
    refine ⟨(by show 3 ≤ sizeLine; decide), fun t nt => ?_⟩
    have s9 := same_new nt (.lst [.ref p, .ref r, .int 0])
    have ep3 := sm _ _ ep
    refine q ⟨t, p, r⟩ _ ⟨⟨zs ++ ex, ys, upd_same, s9 _ _ ep3, s9 _ _ hd, ?_, ?_, ?_⟩, (ne_of_none ep3 nt).symm, (ne_of_none hd nt).symm, hpr⟩ (s6.trans (sm.trans s9))
    · rw [List.length_append]; omega
    · rw [hy, List.length_map]
    · rw [List.length_append]; omega
end
/-! ### list(text) -/
def Ltr (x : Str) : Prop := ∃ c : Nat, 97 ≤ c ∧ c ≤ 122 ∧ x = ⟨#[c]⟩
def abc : List Str := (List.range 26).map fun c => ⟨#[c + 97]⟩
theorem abc_ltr : ∀ x ∈ abc, Ltr x := fun x h => by
  unfold abc at h
  obtain ⟨c, hc, rfl⟩ := List.mem_map.mp h
  have := List.mem_range.mp hc
  exact ⟨c + 97, by omega, by omega, rfl⟩
theorem abc_is : ((Str.ofString "abcdefghijklmnopqrstuvwxyz").cps.toList.map fun c => V.str ⟨#[c]⟩) = abc.map V.str := by decide +kernel
theorem abc_len : abc.length = 26 := by decide +kernel


theorem rep_flat {α : Type} (a : α) : ∀ m : Nat, (List.replicate m [a]).flatten = List.replicate m a
  | 0 => rfl
  | m + 1 => by
    rw [List.replicate_succ, List.replicate_succ, List.flatten_cons, rep_flat a m]
    rfl
abbrev rLenSeq (K : PySem.W.Frag) : List V → Hp → VK → Prop := fun xs H Q => ∃ p ys, xs = [V.ref p] ∧ (SqL K H p ys ∨ SqT K H p ys) ∧ Q (V.int (ys.length : Int)) H
def spLett : Sp := fun vs H Q _ => ∃ (D : Deck) (n m : Nat), vs = [.ref D.dk, .int (m : Int)] ∧ DeckOk H D n ∧ n + m + 2 ≤ 1000000 ∧ m ≤ 26 ∧ ∀ (p : Addr) (xs : List Str) (n' : Nat) (H' : Hp), DeckOk H' D n' → n' ≤ n + m + 2 → SameD D H H' →
  H' p = some (.lst (xs.map V.str)) → xs.length = m → (∀ x ∈ xs, Ltr x) → Off D p → Q (.ref p) H'
section
variable {P : Program} {w : World} {K : PySem.W.Frag} {mg : Str → Option Value} {base : Heap} {f : Addr} {fd : FuncData}
theorem ok_lett (F : Fun K "_law_letters" "_law_letters" s__law_letters f fd) (M : Mgs mg) (D_law_draw : Df P w K mg base 1 "_law_draw" ["_law_state", "_law_below"] spDraw) : FnOk P w K mg base CX0 2 f fd ["_law_state", "_law_many"] spLett := by
  refine F.ok sc__law_letters (fun vs H Q E h => ?_) (fun cdv A outer s H vs Q E hr h => ?_)
  · obtain ⟨D, n, m, rfl, _⟩ := h
    rfl
  obtain ⟨D, n, m, rfl, d, hn, m26, q⟩ := h
  refine ⟨_, (pss_cons (ps_asg (pe_tup (pa_cons (pe_callTy (call_signs rfl) rfl M.list (by decide +kernel) (pa_cons pe_str pa_nil)) (pa_cons (pe_call D_law_draw.ok (hr.mono (by omega)) rfl D_law_draw.g D_law_draw.kp D_law_draw.b .nil pass0 (pa_cons (pv 0) (pa_cons pe_int pa_nil))) pa_nil))) (pg_tup rfl (pgs_cons (pg_name (i := 2) sc__law_letters.nd rfl (.inr rfl)) (pgs_cons (pg_name (i := 3) sc__law_letters.nd rfl (.inl rfl)) pgs_nil))))
    (pss_cons (ps_if (pt_cmpR op_eq (pv 3) pe_int (nomark _))
      (pss_one (ps_ret (pe_lc (own := [("_law_again", 4)]) (g := gName 4) (tt := tYes) rfl sc__law_letters.nd (pi_range1 rfl M.range (pa_cons (pv 1) pa_nil)) (blkOk_by (N := ["_law_state", "_law_many", "_law_left", "_law_way", "_law_again", "_law_found"]) (sc := defScope s__law_letters) (by decide +kernel)) (fun _ _ _ _ _ => (pg_name (i := 4) sc__law_letters.nd rfl (.inl rfl))) (fun _ _ _ _ _ => pts_nil) (fun _ _ _ _ _ => (pe_ix (show IxR _ (rIxL K) from ix_list) (pe_lst (pa_cons pe_str (pa_cons pe_str pa_nil))) (pe_call D_law_draw.ok (hr.mono (by omega)) rfl D_law_draw.g D_law_draw.kp D_law_draw.b .nil pass0 (pa_cons (pv 0) (pa_cons pe_int pa_nil))) (fun _ _ => rfl)))))) pss_nil)
    (pss_cons (ps_if (pt_cmpR op_eq (pv 3) pe_int (nomark _))
      (pss_one (ps_ret (pe_op op_rep (pe_lst (pa_cons (pe_ix ix_list (pv 2) (pe_call D_law_draw.ok (hr.mono (by omega)) rfl D_law_draw.g D_law_draw.kp D_law_draw.b .nil pass0 (pa_cons (pv 0) (pa_cons pe_int pa_nil))) (fun _ _ => rfl)) pa_nil)) (pv 1)))) pss_nil)
    (pss_cons (ps_setLc (i := 5) (own := [("_law_again", 4)]) (g := gName 4) (tt := tYes) (by rfl) sc__law_letters.nd rfl rfl (sw_true rfl rfl rfl (by decide +kernel)) (pi_range1 rfl M.range (pa_cons (pv 1) pa_nil)) (blkOk_by (N := ["_law_state", "_law_many", "_law_left", "_law_way", "_law_again", "_law_found"]) (sc := defScope s__law_letters) (by decide +kernel)) (fun _ _ _ _ _ => (pg_name (i := 4) sc__law_letters.nd rfl (.inl rfl))) (fun _ _ _ _ _ => pts_nil) (fun _ _ _ _ _ => (show PE _ _ (tBM K _ _ _ _) from pe_bm PySem.F.plainAttrs_list PySem.F.slot_list_pop PySem.F.type_list_pop mt_popAt (pv 2) (pa_cons (pe_call D_law_draw.ok (hr.mono (by omega)) rfl D_law_draw.g D_law_draw.kp D_law_draw.b .nil pass0 (pa_cons (pv 0) (pa_cons (pe_callB (show CallR _ (.builtin "len") (rLenSeq K) from call_len_seq) rfl M.len PySem.boot_len (pa_cons (pv 2) pa_nil)) pa_nil))) pa_nil))))
    (pss_one (ps_ret (pe_ifExp (pt_cmpR op_eq (pv 3) pe_int (nomark _)) (pe_callB cr_sortedS rfl M.sorted (by decide +kernel) (pa_cons (pv 5) pa_nil)) (pv 5)))))))), ?_⟩
  refine ⟨_, rfl, by decide +kernel, fun sa nsa => ?_⟩
  rw [abc_is]
  have q1 := same_new nsa (.lst (abc.map V.str))
  have na := d.new nsa
  refine ⟨_, rfl, D, n, 5, rfl, d.same q1, by omega, by decide, by decide, fun wy H1 w0 w1 d1 s1 => ⟨(by show 2 ≤ sizeLine; decide), fun tp ntp => ⟨tp, _, rfl, SqT.of upd_same, rfl, _, _, rfl, _, _, rfl, rfl, ?_⟩⟩⟩
  have q2 := same_new ntp (.tup [.ref sa, .int wy])
  have d2 := d1.same q2
  have sd : SameD D H (upd H1 tp (.tup [.ref sa, .int wy])) := (SameD.of q1).trans (s1.trans (.of q2))
  have esa : (upd H1 tp (.tup [.ref sa, .int wy])) sa = some (.lst (abc.map V.str)) := q2 _ _ (s1.at na upd_same)
  generalize upd H1 tp (.tup [.ref sa, .int wy]) = H2 at d2 sd esa
  have al := abc_len
  have abcI : ∀ i : Int, 0 ≤ i → i < 26 → ∃ x, atI (abc.map V.str) i = some (.str x) ∧ Ltr x := fun i h0 h1 => by
    have hl : i.toNat < abc.length := by omega
    exact ⟨abc[i.toNat], at_map h0 (List.getElem?_eq_getElem hl), abc_ltr _ (List.getElem_mem hl)⟩
  refine ⟨_, rfl, rfl, _, rfl, ite2 (fun _ => ?_) (fun _ => ?_)⟩
  · refine ⟨_, rfl, _, rfl, by omega, by omega, fun L nL => ?_⟩
    have nd := d2.new nL
    refine lc_range (lo := 0) (n := m) (fun i H' => ∃ n', DeckOk H' D n' ∧ n' ≤ n + 1 + i ∧ SameD D H2 H' ∧ ∃ xs : List Str, xs.length = i ∧ (∀ x ∈ xs, Ltr x) ∧ H' L = some (.lst (xs.map V.str))) ⟨n + 1, d2.same (same_new nL _), by omega, .of (same_new nL _), [], rfl, (fun _ h => nomatch h), upd_same⟩ (fun i H' hi hp => ?_) (fun H' hp => ?_)
    · obtain ⟨n', d', hn', s', xs, hxl, hxs, eL⟩ := hp
      refine ⟨rfl, kept ?_⟩
      refine ⟨(by show 2 ≤ sizeLine; decide), fun l2 nl2 => ?_⟩
      have k2 := same_new nl2 (.lst [.str "a", .str "b"])
      refine ⟨_, rfl, D, n', 2, rfl, d'.same k2, by omega, by decide, by decide, fun j H4 j0 j1 d4 s4 => ?_⟩
      obtain ⟨x, hx, lx⟩ : ∃ x, atI [V.str "a", V.str "b"] j = some (.str x) ∧ Ltr x := by
        have : j = 0 ∨ j = 1 := by omega
        rcases this with rfl | rfl
        · exact ⟨_, rfl, 97, by decide, by decide, by decide +kernel⟩
        · exact ⟨_, rfl, 98, by decide, by decide, by decide +kernel⟩
      have e4 := s4.at nd (k2 _ _ eL)
      refine ⟨l2, _, _, _, rfl, rfl, SqL.of (s4.at (d'.new nl2) upd_same), hx, _, e4, by rw [List.length_map]; exact small1000 (by omega), n' + 1, d4.put nd _, by omega, (s'.trans ((SameD.of k2).trans s4)).put nL _, xs ++ [x], by rw [List.length_append, hxl]; rfl, fun y hy => ?_, ?_⟩
      · rcases List.mem_append.mp hy with h | h
        · exact hxs y h
        · rw [List.mem_singleton.mp h]
          exact lx
      · rw [upd_same, List.map_append]
        rfl
    · obtain ⟨n', d', hn', s', xs, hxl, hxs, eL⟩ := hp
      exact q L xs n' H' d' (by omega) (sd.trans s') eL hxl hxs nd
  refine ⟨_, rfl, rfl, _, rfl, ite2 (fun _ => ?_) (fun _ => ?_)⟩
  · refine ⟨_, rfl, _, rfl, D, n + 1, 26, rfl, d2, by omega, by decide, by decide, fun i H3 i0 i1 d3 s3 => ?_⟩
    obtain ⟨x, hx, lx⟩ := abcI i i0 i1
    refine ⟨sa, _, _, _, rfl, rfl, SqL.of (s3.at na esa), hx, (by show 1 ≤ sizeLine; decide), fun l nl => ?_⟩
    refine ⟨_, rfl, l, _, _, rfl, rfl, upd_same, by omega, by omega, ?_, fun p np => ?_⟩
    · rw [Int.toNat_natCast]
      exact small (by show 1 * m ≤ 1000; omega)
    rw [Int.toNat_natCast]
    rw [rep_flat, ← List.map_replicate]
    have q3 := same_new nl (.lst [.str x])
    have q4 := same_new np (.lst ((List.replicate m x).map V.str))
    have d5 := (d3.same q3).same q4
    have nd := (d3.same q3).new np
    refine q p (List.replicate m x) (n + 1 + 1) _ d5 (by omega) (sd.trans (s3.trans (.of (q3.trans q4)))) upd_same (List.length_replicate) (fun y hy => ?_) nd
    rw [List.eq_of_mem_replicate hy]
    exact lx
  refine ⟨_, rfl, _, rfl, by omega, by omega, fun fa nfa => ?_⟩
  have nf := d2.new nfa
  have nsf : sa ≠ fa := ne_of_none esa nfa
  have nfH : H fa = none := sd.free d2 nfa
  have kf := same_new nfa (.lst [])
  refine lc_range (lo := 0) (n := m) (fun i H' => ∃ (n' : Nat) (xs rest : List Str), DeckOk H' D n' ∧ n' ≤ n + 1 + i ∧ SameD D H H' ∧ xs.length = i ∧ xs.length + rest.length = 26 ∧ (∀ x ∈ xs, Ltr x) ∧ (∀ x ∈ rest, Ltr x) ∧ H' fa = some (.lst (xs.map V.str)) ∧ H' sa = some (.lst (rest.map V.str)))
    ⟨n + 1, [], abc, d2.same kf, by omega, sd.trans (.of kf), rfl, by rw [al]; rfl, (fun _ h => nomatch h), abc_ltr, upd_same, kf _ _ esa⟩ (fun i H' hi hp => ?_) (fun H' hp => ?_)
  · obtain ⟨n', xs, rest, d', hn', s', hm, h26, hxs, hrs, ef, es⟩ := hp
    refine ⟨rfl, kept ?_⟩
    refine ⟨.ref sa, rfl, .inl ⟨rfl, _, SqL.of es⟩, _, rfl, _, rfl, sa, _, rfl, .inl (SqL.of es), D, n', _, rfl, d', by omega, ?_, ?_, fun j H4 j0 j1 d4 s4 => ?_⟩
    · rw [List.length_map]; omega
    · rw [List.length_map]; omega
    rw [List.length_map] at j1
    have hj : j.toNat < rest.length := by omega
    have es4 := s4.at na es
    have ef4 := s4.at nf ef
    refine ⟨sa, _, j, j.toNat, .str rest[j.toNat], rfl, rfl, es4, by omega, by omega, ?_, ?_, ?_⟩
    · exact (ixN_seq (ixN_nat j0 (by rw [List.length_map]; omega))).1
    · rw [List.getElem?_map, List.getElem?_eq_getElem hj]; rfl
    have ef5 : (upd H4 sa (.lst ((rest.map V.str).eraseIdx j.toNat))) fa = some (.lst (xs.map V.str)) := by rw [upd_ne nsf.symm]; exact ef4
    refine ⟨_, ef5, by rw [List.length_map]; exact small1000 (by omega), n' + 1, xs ++ [rest[j.toNat]], rest.eraseIdx j.toNat, (d4.put na _).put nf _, by omega, ((s'.trans s4).put nsa _).put nfH _, ?_, ?_, fun y hy => ?_, fun y hy => hrs y (List.mem_of_mem_eraseIdx hy), ?_, ?_⟩
    · rw [List.length_append, hm]; rfl
    · rw [List.length_append, List.length_eraseIdx_of_lt hj]
      show xs.length + 1 + (rest.length - 1) = 26
      omega
    · rcases List.mem_append.mp hy with h | h
      · exact hxs y h
      · rw [List.mem_singleton.mp h]
        exact hrs _ (List.getElem_mem hj)
    · rw [upd_same, List.map_append]
      rfl
    · rw [upd_ne nsf, upd_same, erase_map]
  · obtain ⟨n', xs, rest, d', hn', s', hm, h26, hxs, hrs, ef, es⟩ := hp
    refine ⟨_, rfl, rfl, _, rfl, ite2 (fun _ => ?_) (fun _ => ?_)⟩
    · refine ⟨_, rfl, fa, xs, rfl, SqL.of ef, by omega, fun ys p pm _ np => ?_⟩
      exact q p ys n' _ (d'.same (same_new np _)) (by omega) (s'.trans (.of (same_new np _))) upd_same (by rw [pm.length_eq]; exact hm) (fun x hx => hxs x (pm.mem_iff.mp hx)) (d'.new np)
    · exact ⟨_, rfl, q fa xs n' H' d' (by omega) s' ef hm hxs nf⟩
end
/-! ### _law_grown, _law_tree -/
def B.low : B → Prop
  | .nil => True
  | .node l c r => l.low ∧ (97 ≤ c ∧ c ≤ 122) ∧ r.low
theorem pick_spot {z i way : Int} (hz : 1 ≤ z) (i0 : 0 ≤ i) (i1 : i < z) (w0 : 0 ≤ way) (w1 : way ≤ 4) : ∃ m : Nat, atI [V.int i, V.int 0, V.int (z - 1), V.int ((z - 1) * (z % 2)), V.int (z / 2)] way = some (.int (m : Int)) ∧ (m : Int) < z := by
  have : way = 0 ∨ way = 1 ∨ way = 2 ∨ way = 3 ∨ way = 4 := by omega
  rcases this with rfl | rfl | rfl | rfl | rfl
  · exact ⟨i.toNat, by rw [Int.toNat_of_nonneg i0]; rfl, by omega⟩
  · exact ⟨0, rfl, by omega⟩
  · exact ⟨(z - 1).toNat, by rw [Int.toNat_of_nonneg (by omega)]; rfl, by omega⟩
  · rcases Int.emod_two_eq z with e | e
    · exact ⟨0, by rw [e, Int.mul_zero]; rfl, by omega⟩
    · exact ⟨(z - 1).toNat, by rw [e, Int.mul_one, Int.toNat_of_nonneg (by omega)]; rfl, by omega⟩
  · exact ⟨(z / 2).toNat, by rw [Int.toNat_of_nonneg (by omega)]; rfl, by omega⟩
def spGrown (k : Nat) : Sp := fun vs H Q _ => ∃ (D : Deck) (n : Nat) (p : Addr) (xs : List Str) (way : Int), vs = [.ref D.dk, .ref p, .int way] ∧ DeckOk H D n ∧ n + xs.length ≤ 1000000 ∧ xs.length < k ∧ xs.length ≤ 26 ∧ H p = some (.lst (xs.map V.str)) ∧ Off D p ∧ 0 ≤ way ∧ way ≤ 4 ∧ (∀ x ∈ xs, Ltr x) ∧
  ∀ (v : V) (t : B) (n' : Nat) (H' : Hp), DeckOk H' D n' → n' ≤ n + xs.length → SameD D H H' → BAt H' v t → t.size = xs.length → t.low → Q v H'
section
variable {P : Program} {w : World} {K : PySem.W.Frag} {mg : Str → Option Value} {base : Heap} {f : Addr} {fd : FuncData}
theorem ok_grown (F : Fun K "_law_grown" "_law_grown" s__law_grown f fd) (b : Binds K fd ["_law_state", "_law_letters_here", "_law_way"] []) (g : mg "_law_grown" = some (.ref f)) (M : Mgs mg) (D_law_draw : Df P w K mg base 1 "_law_draw" ["_law_state", "_law_below"] spDraw) :
    ∀ n : Nat, FnOk P w K mg base CX0 (n + 1) f fd ["_law_state", "_law_letters_here", "_law_way"] (spGrown n)
  | 0 => by
    have no : ∀ vs H Q E, ¬ spGrown 0 vs H Q E := fun vs H Q E h => by
      obtain ⟨D, c, p, xs, way, _, _, _, h1, _⟩ := h
      omega
    exact ⟨fun vs H Q E h => absurd h (no vs H Q E), fun A outer s H args us vs Q E _ _ _ _ h => absurd h (no vs H Q E)⟩
  | n + 1 => by
    have Dself : Df P w K mg base (n + 1) "_law_grown" ["_law_state", "_law_letters_here", "_law_way"] (spGrown n) := ⟨f, fd, ok_grown F b g M D_law_draw n, b, F.kp, g⟩
    refine F.ok sc__law_grown (fun vs H Q E h => ?_) (fun cdv A outer s H vs Q E hr h => ?_)
    · obtain ⟨D, c, p, xs, way, rfl, _⟩ := h
      rfl
    obtain ⟨D, c, p, xs, way, rfl, d, hc, hn, hx, ep, op, w0, w1, hlt, q⟩ := h
    refine ⟨_, (pss_cons (ps_set (i := 3) sc__law_grown.nd rfl (.inl rfl) (pe_callB call_len_seq rfl M.len PySem.boot_len (pa_cons (pv 1) pa_nil)))
    (pss_cons (ps_if (pt_cmpR op_eq (pv 3) pe_int (nomark _))
      (pss_one (ps_ret pe_non)) pss_nil)
    (pss_cons (ps_set (i := 4) sc__law_grown.nd rfl (.inl rfl) (pe_ix ix_list (pe_lst (pa_cons (pe_call D_law_draw.ok (hr.mono (by omega)) rfl D_law_draw.g D_law_draw.kp D_law_draw.b .nil pass0 (pa_cons (pv 0) (pa_cons (pv 3) pa_nil))) (pa_cons pe_int (pa_cons (pe_op op_sub (pv 3) pe_int) (pa_cons (pe_op op_mul (pe_op op_sub (pv 3) pe_int) (pe_op op_mod (pv 3) pe_int)) (pa_cons (pe_op op_fdiv (pv 3) pe_int) pa_nil)))))) (pv 2) (fun _ _ => rfl)))
    (pss_cons (ps_par (i := 5) (j := 6) (by rfl) sc__law_grown.nd rfl rfl (by decide) rfl rfl (pa_cons (pe_slice sl_list (pv 1) po_none (po_some (pv 4))) (pa_cons (pe_slice sl_list (pv 1) (po_some (pe_op op_add (pv 4) pe_int)) po_none) pa_nil)) (by rfl))
    (pss_one (ps_ret (pe_tup (pa_cons (pe_call Dself.ok (hr.mono (by omega)) rfl Dself.g Dself.kp Dself.b .nil pass0 (pa_cons (pv 0) (pa_cons (pv 5) (pa_cons (pv 2) pa_nil)))) (pa_cons (pe_ix ix_list (pv 1) (pv 4) (fun _ _ => rfl)) (pa_cons (pe_call Dself.ok (hr.mono (by omega)) rfl Dself.g Dself.kp Dself.b .nil pass0 (pa_cons (pv 0) (pa_cons (pv 6) (pa_cons (pv 2) pa_nil)))) pa_nil)))))))))), ?_⟩
    refine ⟨_, rfl, p, _, rfl, .inl (SqL.of ep), ?_⟩
    rw [List.length_map]
    refine ⟨_, rfl, rfl, _, rfl, ite2 (fun e => ?_) (fun e => ?_)⟩
    · have e0 : (xs.length : Int) = 0 := V.int.inj (of_decide_eq_true e)
      exact q .non .nil c H d (by omega) (SameD.refl D H) .nil (by show 0 = xs.length; omega) trivial
    · have e0 : ¬ (xs.length : Int) = 0 := fun z => e (decide_eq_true (congrArg V.int z))
      have x1 : (1 : Int) ≤ (xs.length : Int) := by omega
      refine ⟨_, rfl, _, rfl, D, c, _, rfl, d, by omega, by omega, by omega, fun i H1 i0 i1 d1 s1 => ?_⟩
      refine ⟨_, rfl, _, _, rfl, rfl, _, rfl, _, _, rfl, rfl, _, rfl, _, _, rfl, rfl, (show (0 : Int) < 2 by decide), _, _, rfl, rfl, .inl ⟨by omega, by omega⟩, ?_⟩
      refine ⟨_, rfl, _, _, rfl, rfl, ⟨by decide, by decide⟩, (by show 5 ≤ sizeLine; decide), fun l nl => ?_⟩
      obtain ⟨m, hm, ml⟩ := pick_spot x1 i0 i1 w0 w1
      refine ⟨_, rfl, l, _, _, _, rfl, rfl, SqL.of upd_same, hm, ?_⟩
      have q1 := same_new nl (.lst [V.int i, V.int 0, V.int ((xs.length : Int) - 1), V.int (((xs.length : Int) - 1) * ((xs.length : Int) % 2)), V.int ((xs.length : Int) / 2)])
      have d2 := d1.same q1
      have s2 := s1.trans (SameD.of q1)
      have ep2 := s2.at op ep
      generalize upd H1 l (.lst [V.int i, V.int 0, V.int ((xs.length : Int) - 1), V.int (((xs.length : Int) - 1) * ((xs.length : Int) % 2)), V.int ((xs.length : Int) / 2)]) = H2 at d2 s2 ep2 ⊢
      refine ⟨_, rfl, _, rfl, _, rfl, p, _, rfl, SqL.of ep2, fun p1 np1 => ?_⟩
      rw [cut_to, ← List.map_take]
      have k1 := same_new np1 (.lst ((xs.take m).map V.str))
      have o1 := d2.new np1
      have e1 := upd_same (H := H2) (a := p1) (o := .lst ((xs.take m).map V.str))
      have d3 := d2.same k1
      have s3 := s2.trans (SameD.of k1)
      have ep3 := k1 _ _ ep2
      generalize upd H2 p1 (.lst ((xs.take m).map V.str)) = H3 at k1 e1 d3 s3 ep3 ⊢
      have em : ((m : Nat) : Int) + 1 = ((m + 1 : Nat) : Int) := by omega
      refine ⟨_, rfl, _, rfl, _, _, rfl, rfl, _, rfl, p, _, rfl, SqL.of ep3, fun p2 np2 => ⟨_, _, rfl, ?_⟩⟩
      rw [em, cut_from, ← List.map_drop]
      have k2 := same_new np2 (.lst ((xs.drop (m + 1)).map V.str))
      have o2 := d3.new np2
      have e2 := upd_same (H := H3) (a := p2) (o := .lst ((xs.drop (m + 1)).map V.str))
      have e1 := k2 _ _ e1
      have d4 := d3.same k2
      have s4 := s3.trans (SameD.of k2)
      have ep4 := k2 _ _ ep3
      generalize upd H3 p2 (.lst ((xs.drop (m + 1)).map V.str)) = H4 at k2 e1 e2 d4 s4 ep4 ⊢
      have ml' : m < xs.length := by omega
      have t1 : (xs.take m).length = m := by rw [List.length_take]; omega
      have t2 : (xs.drop (m + 1)).length = xs.length - (m + 1) := List.length_drop
      refine ⟨_, rfl, _, rfl, _, rfl, D, c + 1, p1, xs.take m, way, rfl, d4, by omega, by omega, by omega, e1, o1, w0, w1, fun x hx => hlt x (List.mem_of_mem_take hx), fun vl tl c5 H5 d5 hc5 s5 bl zl ll => ?_⟩
      have ep5 := s5.at op ep4
      have e25 := s5.at o2 e2
      obtain ⟨x, hx, lx⟩ : ∃ x, atI (xs.map V.str) ((m : Nat) : Int) = some (.str x) ∧ Ltr x := ⟨xs[m], atI_nat (by rw [List.getElem?_map, List.getElem?_eq_getElem ml']; rfl), hlt _ (List.getElem_mem ml')⟩
      refine ⟨_, rfl, _, rfl, p, _, _, _, rfl, rfl, SqL.of ep5, hx, ?_⟩
      refine ⟨_, rfl, _, rfl, _, rfl, D, c5, p2, xs.drop (m + 1), way, rfl, d5, by omega, by omega, by omega, e25, o2, w0, w1, fun x hx => hlt x (List.mem_of_mem_drop hx), fun vr tr c6 H6 d6 hc6 s6 br zr lr => ⟨(by show 3 ≤ sizeLine; decide), fun r nr => ?_⟩⟩
      obtain ⟨cc, c1', c2', rfl⟩ := lx
      have k7 := same_new nr (.tup [vl, .str (ch cc), vr])
      refine q (.ref r) (.node tl cc tr) c6 _ (d6.same k7) (by omega) (s4.trans (s5.trans (s6.trans (SameD.of k7)))) (.node upd_same ((bl.keep (s6.keepT d5)).same k7) (br.same k7)) ?_ ⟨ll, ⟨c1', c2'⟩, lr⟩
      show tl.size + 1 + tr.size = xs.length
      omega
/-! ### _law_tree -/
def spTree : Sp := fun vs H Q _ => ∃ (D : Deck) (n lim : Nat), vs = [.ref D.dk, .int (lim : Int)] ∧ DeckOk H D n ∧ n + 2 * lim + 10 ≤ 1000000 ∧ 1 ≤ lim ∧ lim ≤ 26 ∧
  ∀ (v : V) (t : B) (n' : Nat) (H' : Hp), DeckOk H' D n' → n' ≤ n + 2 * lim + 4 → SameD D H H' → BAt H' v t → 1 ≤ t.size → t.size ≤ lim → t.low → Q v H'
theorem pick_way {i : Int} (i0 : 0 ≤ i) (i1 : i < 7) : ∃ z : Int, atI [V.int 0, V.int 0, V.int 0, V.int 1, V.int 2, V.int 3, V.int 4] i = some (.int z) ∧ 0 ≤ z ∧ z ≤ 4 := by
  have : i = 0 ∨ i = 1 ∨ i = 2 ∨ i = 3 ∨ i = 4 ∨ i = 5 ∨ i = 6 := by omega
  rcases this with rfl | rfl | rfl | rfl | rfl | rfl | rfl
  · exact ⟨0, rfl, by decide, by decide⟩
  · exact ⟨0, rfl, by decide, by decide⟩
  · exact ⟨0, rfl, by decide, by decide⟩
  · exact ⟨1, rfl, by decide, by decide⟩
  · exact ⟨2, rfl, by decide, by decide⟩
  · exact ⟨3, rfl, by decide, by decide⟩
  · exact ⟨4, rfl, by decide, by decide⟩
theorem ok_tree (F : Fun K "_law_tree" "_law_tree" s__law_tree f fd) (M : Mgs mg) (D_law_draw : Df P w K mg base 1 "_law_draw" ["_law_state", "_law_below"] spDraw) (D_law_letters : Df P w K mg base 2 "_law_letters" ["_law_state", "_law_many"] spLett) (D_law_grown : Df P w K mg base 28 "_law_grown" ["_law_state", "_law_letters_here", "_law_way"] (spGrown 27)) :
    FnOk P w K mg base CX0 29 f fd ["_law_state", "_law_limit"] spTree := by
  refine F.ok sc__law_tree (fun vs H Q E h => ?_) (fun cdv A outer s H vs Q E hr h => ?_)
  · obtain ⟨D, n, lim, rfl, _⟩ := h
    rfl
  obtain ⟨D, n, lim, rfl, d, hn, l0, l1, q⟩ := h
  refine ⟨_, (pss_cons (ps_set (i := 2) sc__law_tree.nd rfl (.inl rfl) (pe_call D_law_letters.ok (hr.mono (by omega)) rfl D_law_letters.g D_law_letters.kp D_law_letters.b .nil pass0 (pa_cons (pv 0) (pa_cons (pe_op op_add pe_int (pe_call D_law_draw.ok (hr.mono (by omega)) rfl D_law_draw.g D_law_draw.kp D_law_draw.b .nil pass0 (pa_cons (pv 0) (pa_cons (pv 1) pa_nil)))) pa_nil))))
    (pss_one (ps_ret (pe_call D_law_grown.ok (hr.mono (by omega)) rfl D_law_grown.g D_law_grown.kp D_law_grown.b .nil pass0 (pa_cons (pv 0) (pa_cons (pv 2) (pa_cons (pe_ix ix_list (pe_lst (pa_cons pe_int (pa_cons pe_int (pa_cons pe_int (pa_cons pe_int (pa_cons pe_int (pa_cons pe_int (pa_cons pe_int pa_nil)))))))) (pe_call D_law_draw.ok (hr.mono (by omega)) rfl D_law_draw.g D_law_draw.kp D_law_draw.b .nil pass0 (pa_cons (pv 0) (pa_cons pe_int pa_nil))) (fun _ _ => rfl)) pa_nil))))))), ?_⟩
  refine ⟨_, rfl, _, rfl, _, rfl, D, n, _, rfl, d, by omega, by omega, by omega, fun i H1 i0 i1 d1 s1 => ?_⟩
  obtain ⟨j, rfl⟩ := Int.eq_ofNat_of_zero_le i0
  have ej : (1 : Int) + ((j : Nat) : Int) = ((1 + j : Nat) : Int) := by omega
  refine ⟨_, _, rfl, rfl, D, n + 1, 1 + j, by rw [← ej]; rfl, d1, by omega, by omega, fun p xs n2 H2 d2 hn2 s2 ep xl xlt op => ?_⟩
  refine ⟨_, rfl, _, rfl, (by show 7 ≤ sizeLine; decide), fun l nl => ?_⟩
  have k3 := same_new nl (.lst [V.int 0, V.int 0, V.int 0, V.int 1, V.int 2, V.int 3, V.int 4])
  refine ⟨_, rfl, D, n2, 7, rfl, d2.same k3, by omega, by decide, by decide, fun i4 H4 z0 z1 d4 s4 => ?_⟩
  obtain ⟨way, hw, w0, w1⟩ := pick_way z0 z1
  refine ⟨l, _, _, _, rfl, rfl, SqL.of (s4.at (d2.new nl) upd_same), hw, ?_⟩
  refine ⟨D, n2 + 1, p, xs, way, rfl, d4, by omega, by omega, by omega, s4.at op (k3 _ _ ep), op, w0, w1, xlt, fun v t n5 H5 d5 hn5 s5 bt zt lt => ?_⟩
  exact q v t n5 H5 d5 (by omega) (s1.trans (s2.trans ((SameD.of k3).trans (s4.trans s5)))) bt (by omega) (by omega) lt
end
/-! ### xs != [], xs == [] -/
abbrev vc (c : Nat) : V := .str (ch c)
theorem map_vc (l : List Nat) : l.map vc = (l.map ch).map V.str := by rw [List.map_map]; rfl
section
variable {X : Cx}
theorem op_neL (hu : X.A.units < cLine) : OpR X (compareOp .NotEq) (fun x y H Q => ∃ a b xs, x = .ref a ∧ y = .ref b ∧ SqL X.K H a xs ∧ SqL X.K H b [] ∧ Q (.bl (!xs.isEmpty)) H) := by
  intro pins s σ H x y v u Q I rx ry h
  obtain ⟨a, b, xs, rfl, rfl, hx, hy, q⟩ := h
  cases rx
  cases ry
  obtain ⟨its, r1, t1, _⟩ := I.list hx
  obtain ⟨its2, r2, t2, _⟩ := I.list hy
  cases r2
  cases r1 with
  | nil =>
    have rc := SeqAt.RcNeAt.lists (A := X.A) (s := s) (items := ([] : List Value).toArray) (items2 := ([] : List Value).toArray) (e := fun _ => true) t1.isList t2.isList rfl hu (fun j h1 _ => absurd h1 (by simp))
    exact rc X.prog X.w X.xe _ ⟨.bl _, H, I, rfl, q⟩
  | cons _ _ =>
    have rc := SeqAt.RcNeAt.lists_lengths (A := X.A) (s := s) t1.isList t2.isList (by simp) hu
    exact rc X.prog X.w X.xe _ ⟨.bl _, H, I, rfl, q⟩
end
theorem op_eqL {X : Cx} (hu : X.A.units < cLine) : OpR X (compareOp .Eq) (fun x y H Q => ∃ a b xs, x = .ref a ∧ y = .ref b ∧ SqL X.K H a xs ∧ SqL X.K H b [] ∧ Q (.bl xs.isEmpty) H) := by
  intro pins s σ H x y v u Q I rx ry h
  obtain ⟨a, b, xs, rfl, rfl, hx, hy, q⟩ := h
  cases rx
  cases ry
  obtain ⟨its, r1, t1, _⟩ := I.list hx
  obtain ⟨its2, r2, t2, _⟩ := I.list hy
  cases r2
  cases r1 with
  | nil =>
    have rc := SeqAt.RcAt.lists (A := X.A) (s := s) (items := ([] : List Value).toArray) (items2 := ([] : List Value).toArray) (e := fun _ => true) t1.isList t2.isList rfl hu (fun j h1 _ => absurd h1 (by simp))
    exact rc X.prog X.w X.xe _ ⟨.bl _, H, I, rfl, q⟩
  | cons _ _ =>
    have rc := SeqAt.RcAt.lists_lengths (A := X.A) (s := s) t1.isList t2.isList (by simp) hu
    exact rc X.prog X.w X.xe _ ⟨.bl _, H, I, rfl, q⟩
/-! ### a def entered at one caller -/
theorem enter_def {P : Program} {w : World} {K : PySem.W.Frag} {mg : Str → Option Value} {base : Heap} {f : Addr} {fd : FuncData} {N ps : List Str} {k : Nat} {x qual : Str} {st : Stmt} (F : Fun K x qual st f fd) (S : FnScope N ps (defScope st))
    {A : Around} {outer : List Env} {s : Shared} {H : Hp} {args : Args} {us : List Value} {vs : List V} {Q : VK} {E : XK}
    (room : Room (k + 1) A) (en : Env0 P w K mg base A outer s H) (bd : BindsTo s fd args (ps.zip us)) (rel : Vals vs us) (hln : vs.length = ps.length)
    (body : ∀ cdv : Value, Room k (A.deeper (envOfC qual (defScope st) s.heap.objs.size f cdv)) →
      ∃ t, PSs (cxOf CX0 P w K mg base N qual (defScope st) f cdv A outer s H E).nox (defBody st) t ∧ t { nx := fun _ H' => Q .non H', rt := Q } (start N vs) H) :
    codeAny (model P w) A (.call (.ref f) args) (CR CX0 outer P w H s Q E) s := by
  obtain ⟨oc, od, kV, doc, pm, an, cdv, ct, osl, rfl, look, code⟩ := F.ex
  have still : ∀ b o, base.get? b = some o → s.heap.get? b = some o := fun b o e => (en.bs b o e).1
  have inK : K.In s.heap := en.mod.kin.keeps still
  have noL : s.heap.NoLimit := en.mod.nolimit.keeps still
  have kinds : ∀ y ∈ ps.zip us, (defScope st).names.lookup y.1 = some .local ∨
      ((defScope st).names.lookup y.1 = some .cell ∧ ((cellsFrom (s.heap.objs.size + 1) (defScope st).names []).lookup y.1).isSome = true) := by
    rintro ⟨nm, u⟩ hy
    cases S.par nm (List.of_mem_zip hy).1 with
    | inl z => exact .inl z
    | inr z => exact .inr ⟨z, PySem.W.cellsFrom_some _ _ _ (.inl z)⟩
  have step := codeAny_call_function (prog := P) (w := w) (A := A) (s := s) room.depth (inK _ _ look) rfl S.co S.gen rfl (PySem.W.codeRec_of inK code)
    (R := CR CX0 outer P w H s Q E) (args := args)
  refine step (bd _ _ _ _ ?_)
  refine wpAny_newFunctionEnv_cells S.kind kinds ?_
  intro env isEnv s1 inC
  subst isEnv
  refine ⟨noL.keeps inC.toInCall.keep, codeAny_func ?_⟩
  obtain ⟨t, ht, hq⟩ := body cdv (room.deeper _)
  have J : Inv (cxOf CX0 P w K mg base N qual (defScope st) f cdv A outer s H E) [] (start N vs) H s1 := inv_start S room.hd en hln rel inC
  refine wpAny_mono (ht.nox.run [] s1 (start N vs) H _ J hq) ?_ ?_
  · intro fl s' done
    cases fl with
    | ret u =>
      obtain ⟨v, σ', H', I', rv, qv⟩ := done
      exact ⟨v, H', I'.os, I'.bare, I'.base, I'.hok, rv, qv⟩
    | next =>
      obtain ⟨σ', H', I', qv⟩ := done
      exact ⟨V.non, H', I'.os, I'.bare, I'.base, I'.hok, rfl, qv⟩
    | brk => exact done.elim fun _ z => z.elim fun _ z => z.2.elim
    | cont => exact done.elim fun _ z => z.elim fun _ z => z.2.elim
  · intro e s' z
    exact z
/-! ### the law's own call -/
theorem law_at {P : Program} {w : World} {K : PySem.W.Frag} {mg mb : Str → Option Value} {fa a : Addr} {s₁ : Shared} {vs : List Value} {ns : List Int}
    (inK : K.In s₁.heap) (gl : s₁.heap.Ns mainGlobals mg) (bl : s₁.heap.Ns builtinsNs mb) (isB : ∀ x : Str, x ≠ "__name__" → mb x = bootBuiltins x) (lim : s₁.heap.NoLimit) (gens : s₁.gens = #[])
    (obj : s₁.heap.get? a = some { cls := .type "list", data := .seq vs.toArray }) (hints : IntsAre vs ns) (few : ns.length ≤ sizeLine)
    (run : ∀ (base : Heap) (H : Hp), K.In base → base.Ns mainGlobals mg → Env0 P w K mg base callerA [] s₁ H → SqL K H a (ns.map V.int) →
      codeAny (model P w) callerA (.call (.ref fa) ⟨[.ref a], []⟩) (CR CX0 [] P w H s₁ (fun v _ => v = .bl true) fun _ _ _ => False) s₁) :
    codeAny (model P w) callerA (.call (.ref fa) ⟨[.ref a], []⟩) (fun r s' => r = .ok (.ret (.bool true)) ∧ OldK s₁.heap s'.heap ∧ s'.os = s₁.os ∧ AllBare s'.gens) s₁ := by
  have rel := vals_ints hints
  have lens := hints.length
  have found : ∃ H : Hp, Only H ∧ SqL K H a (ns.map V.int) ∧ HOk P w H s₁.heap ∧ (∀ b u, H b = some u → b = a ∧ K.lookup a = none) := by
    cases inText : K.lookup a with
    | some o =>
      have same := inK a o inText
      rw [obj] at same
      cases same
      have never : ∀ (u : HO), (none : Option HO) ≠ some u := fun u z => by cases z
      refine ⟨fun _ => none, fun _ => .inl rfl, ?_, (fun b u z => (never u z).elim), (fun b u z => (never u z).elim)⟩
      refine .inr ⟨_, vs.toArray, _, inText, rfl, rfl, rfl, ?_, ?_⟩
      · rw [List.size_toArray, lens]
        exact few
      · rw [List.toList_toArray]
        exact rel
    | none =>
      let here : HO := .frz { cls := .type "list", data := .seq vs.toArray } (.lst (ns.map V.int))
      have only : ∀ b u, (if b = a then some here else none) = some u → b = a ∧ u = here := fun b u z => by
        by_cases hb : b = a
        · rw [if_pos hb] at z
          exact ⟨hb, (Option.some.inj z).symm⟩
        · rw [if_neg hb] at z
          cases z
      refine ⟨fun b => if b = a then some here else none, fun b => ?_, .inl (.inr ⟨{ cls := .type "list", data := .seq vs.toArray }, if_pos rfl⟩), fun b u z => ?_, fun b u z => ⟨(only b u z).1, rfl⟩⟩
      · by_cases hb : b = a
        · exact .inr ⟨_, _, if_pos hb⟩
        · exact .inl (if_neg hb)
      · obtain ⟨rfl, rfl⟩ := only b u z
        exact ⟨obj, by rw [List.length_map]; exact few, vs, _, rel, obj⟩
  obtain ⟨H, hO, hS, hok, hA⟩ := found
  have under : ∀ {b : Addr} {o : Obj}, s₁.heap.get? b = some o → H b = none → (hidT s₁.heap H).get? b = some o := fun e z => hidT_get e z
  have notDict : ∀ {b : Addr} {o : Obj} {es : Array DictEntry} {ep : Nat}, s₁.heap.get? b = some o → o.data = .dict es ep → H b = none := by
    intro b o es ep e isD
    cases z : H b with
    | none => rfl
    | some u =>
      obtain ⟨rfl, _⟩ := hA b u z
      rw [obj] at e
      cases e
      cases isD
  have ns' : ∀ {b : Addr} {m : Str → Option Value}, s₁.heap.Ns b m → (hidT s₁.heap H).Ns b m := by
    rintro b m ⟨o, es, ep, e, isD, r⟩
    exact ⟨o, es, ep, under e (notDict e isD), isD, r⟩
  have inK' : K.In (hidT s₁.heap H) := by
    intro b o e
    refine under (inK b o e) ?_
    cases z : H b with
    | none => rfl
    | some u =>
      obtain ⟨rfl, no⟩ := hA b u z
      rw [no] at e
      cases e
  obtain ⟨mc, l1, l2⟩ := lim
  have env : Env0 P w K mg (hidT s₁.heap H) callerA [] s₁ H :=
    ⟨rfl, ⟨inK', ns' gl, ⟨mb, ns' bl, isB⟩, ⟨mc, ns' l1, l2⟩⟩, fun _ _ e => of_hidT e, Nat.le_of_eq (hidT_size _ _), trivial, (fun _ hb => nomatch hb), hok, .of_eq gens⟩
  refine codeAny_mono (run _ H inK' (ns' gl) env hS) ?_
  intro r s' h
  cases r with
  | error e => exact h.elim
  | ok fl =>
    cases fl with
    | next => exact h.elim
    | brk => exact h.elim
    | cont => exact h.elim
    | ret u =>
      obtain ⟨v, H', os, bare, un, hok', rv, isT⟩ := h
      subst isT
      cases rv
      refine ⟨rfl, OldK.of_keep ?_, os, bare⟩
      intro b o e
      cases z : H b with
      | none => exact un.keep b o e z (fun y => nomatch y) (fun y => nomatch y)
      | some u =>
        rcases hO b with y | ⟨ob, xs, y⟩
        · rw [z] at y
          cases y
        · have y2 := un.frzs b ob _ y
          obtain ⟨e1, _⟩ := hok b _ y
          obtain ⟨e2, _⟩ := hok' b _ y2
          rw [e] at e1
          cases e1
          exact e2
/-! ### defs that ask for repr: the guards are carried -/
structure FnOkG (P : Program) (w : World) (K : PySem.W.Frag) (mg : Str → Option Value) (base : Heap) (k : Nat) (f : Addr) (fd : FuncData) (ps : List Str) (sp : Sp) : Prop where
  len : ∀ vs H Q E, sp vs H Q E → vs.length = ps.length
  run : ∀ (A : Around) (outer : List Env) (s : Shared) (H : Hp) (args : Args) (us : List Value) (vs : List V) (Q : VK) (E : XK), A.guards = some [] → Room k A → Env0 P w K mg base A outer s H →
    BindsTo s fd args (ps.zip us) → Vals vs us → sp vs H Q E → codeAny (model P w) A (.call (.ref f) args) (CR CX0 outer P w H s Q E) s
theorem fnG {P : Program} {w : World} {K : PySem.W.Frag} {mg : Str → Option Value} {base : Heap} {f : Addr} {fd : FuncData} {N ps : List Str} {k : Nat} {x qual : Str} {st : Stmt} {sp : Sp} (F : Fun K x qual st f fd) (S : FnScope N ps (defScope st))
    (len : ∀ vs H Q E, sp vs H Q E → vs.length = ps.length)
    (body : ∀ (cdv : Value) (A : Around) (outer : List Env) (s : Shared) (H : Hp) (vs : List V) (Q : VK) (E : XK), A.guards = some [] → Room k (A.deeper (envOfC qual (defScope st) s.heap.objs.size f cdv)) → sp vs H Q E →
      ∃ t, PSs (cxOf CX0 P w K mg base N qual (defScope st) f cdv A outer s H E).nox (defBody st) t ∧ t { nx := fun _ H' => Q .non H', rt := Q } (start N vs) H) :
    FnOkG P w K mg base (k + 1) f fd ps sp := by
  refine ⟨len, ?_⟩
  intro A outer s H args us vs Q E gs room en bd rel hsp
  exact enter_def F S room en bd rel (len _ _ _ _ hsp) fun cdv hr => body cdv A outer s H vs Q E gs hr hsp
theorem pe_callG {X : Cx} {k : Nat} {f : Addr} {fd : FuncData} {ps : List Str} {sp : Sp} {x : Str} {p pos : Pos} {e : Expr} {es : List Expr} {t : TA}
    (G : FnOkG X.prog X.w X.K X.mg X.base k f fd ps sp) (gs : X.A.guards = some []) (room : Room k X.A) (isG : Gl X x) (at0 : X.mg x = some (.ref f)) (kp : PySem.W.keepIn X.K (.ref f) = true) (bd : Binds X.K fd ps []) (args : PA X (e :: es) t)
    (nd : (x == ("__debug__" : Str)) = false := by decide) (he : starEach (e :: es) X.env = (false, eval e X.env) :: starEach es X.env := by rfl) (hp : (backTo pos (starEach es X.env)).any (·.1) = false := by rfl) :
    PE X (.Call (.Name x p) (e :: es) [] pos) (tCall sp [] E0 t) := by
  constructor
  intro pins s σ H Q I h
  refine wpAny_Call_Name_kw (ld_glob I isG at0 ?_ nd)
  refine PySem.W.callWith_K (h₀ := X.base) I.ok.mod.kin kp (thn (args.run pos pins s σ H _ I h) ?_) he hp
  rintro us s1 ⟨vs, H1, I1, rel, q⟩
  refine ⟨I1.kIn, ?_⟩
  have q' : sp vs H1 Q E0 := by
    rw [List.append_nil] at q
    exact q
  have hl : (us ++ []).length = ps.length := by
    rw [List.append_nil, ← rel.length]
    exact G.len _ _ _ _ q'
  have bd' := bd s1 us I1.kIn hl
  rw [List.append_nil] at bd'
  refine wpAny_call (codeAny_mono (G.run X.A X.stack s1 H1 ⟨us, []⟩ us vs Q E0 gs room I1.env0 bd' rel q') ?_)
  intro r s' done
  cases r with
  | error e => exact done.elim
  | ok fl =>
    cases fl with
    | ret u => exact I1.after done
    | next => exact done.elim
    | brk => exact done.elim
    | cont => exact done.elim
/-- a def that asks for repr, with its promise -/
structure DfG (P : Program) (w : World) (K : PySem.W.Frag) (mg : Str → Option Value) (base : Heap) (k : Nat) (nm : Str) (ps : List Str) (sp : Sp) where
  f : Addr
  fd : FuncData
  ok : FnOkG P w K mg base k f fd ps sp
  b : Binds K fd ps []
  kp : PySem.W.keepIn K (.ref f) = true
  g : mg nm = some (.ref f)
/-! ### repr of data without dicts -/
mutual
def okR : PyData → Bool
  | .none => true
  | .bool _ => true
  | .int i => decide (0 ≤ i) && decide (i < 64)
  | .str x => decide (x.length ≤ 128) && x.cps.toList.all (· < 128)
  | .list xs => okRs xs
  | .tuple xs => okRs xs
  | .dict _ => false
def okRs : List PyData → Bool
  | [] => true
  | x :: xs => okR x && okRs xs
end
mutual
def wtR : PyData → Nat
  | .none => 4
  | .bool _ => 5
  | .int _ => 31
  | .str x => 10 * x.length + 2
  | .list xs => 3 + wtRs xs
  | .tuple xs => 3 + wtRs xs
  | .dict _ => 0
def wtRs : List PyData → Nat
  | [] => 0
  | x :: xs => wtR x + 2 + wtRs xs
end
theorem small_shown : ∀ n : Nat, n < 64 → (Str.ofString (toString (n : Int))).length ≤ 31 ∧ (n : Int).natAbs.log2 < 1920 := by decide +kernel
theorem listText_leR (ts : List Str) : (listText ts).length ≤ piled ts + 3 := by
  have h := textFrom_len_le ts 0 "["
  have e : (listText ts).length = (textFrom 0 "[" ts).length + 1 := by
    show (textFrom 0 "[" ts ++ "]").length = _
    rw [strLen_append]
    rfl
  have z : ∀ l : List Str, (l.map (·.length)).sum + 2 * l.length = piled l := by
    intro l
    induction l with
    | nil => rfl
    | cons t l ih =>
      rw [piled_cons, List.map_cons, List.sum_cons, List.length_cons]
      omega
  have z2 := z ts
  have z3 : (("[" : String) : Str).length = 1 := rfl
  omega
mutual
theorem shownR : ∀ d : PyData, okR d = true → d.shown.length ≤ wtR d ∧ d.showable = true ∧ d.hasDict = false
  | .none, _ => by
    simp only [PyData.shown, wtR, PyData.showable, PyData.hasDict, and_true]
    decide +kernel
  | .bool b, _ => by
    simp only [PyData.shown, wtR, PyData.showable, PyData.hasDict, and_true]
    cases b <;> decide +kernel
  | .int i, h => by
    simp only [okR, Bool.and_eq_true, decide_eq_true_eq] at h
    obtain ⟨h1, h2⟩ := small_shown i.toNat (by omega)
    rw [show ((i.toNat : Nat) : Int) = i by omega] at h1 h2
    simp only [PyData.shown, wtR, PyData.showable, PyData.hasDict, decide_eq_true_eq, and_true]
    exact ⟨h1, h2⟩
  | .str x, h => by
    simp only [okR, Bool.and_eq_true, decide_eq_true_eq, List.all_eq_true] at h
    have h1 := StrLaws.reprText_len x (fun c hc => Nat.lt_of_lt_of_le (h.2 c hc) (by decide))
    simp only [PyData.shown, wtR, PyData.showable, PyData.hasDict, and_true]
    omega
  | .list xs, h => by
    simp only [okR] at h
    obtain ⟨h1, h2, h3⟩ := shownRs xs h
    simp only [PyData.shown, wtR, PyData.showable, PyData.hasDict]
    exact ⟨Nat.le_trans (listText_leR _) (by omega), h2, h3⟩
  | .tuple xs, h => by
    simp only [okR] at h
    obtain ⟨h1, h2, h3⟩ := shownRs xs h
    simp only [PyData.shown, wtR, PyData.showable, PyData.hasDict]
    exact ⟨Nat.le_trans (fmt_text _) (by omega), h2, h3⟩
  | .dict _, h => by
    simp only [okR] at h
    exact absurd h Bool.false_ne_true
theorem shownRs : ∀ ds : List PyData, okRs ds = true → piled (PyData.shownAll ds) ≤ wtRs ds ∧ PyData.showableAll ds = true ∧ PyData.hasDictAll ds = false
  | [], _ => by
    simp only [PyData.shownAll, wtRs, PyData.showableAll, PyData.hasDictAll, and_true]
    exact Nat.le_refl _
  | d :: ds, h => by
    simp only [okRs, Bool.and_eq_true] at h
    obtain ⟨h1, h2, h5⟩ := shownR d h.1
    obtain ⟨h3, h4, h6⟩ := shownRs ds h.2
    simp only [PyData.shownAll, wtRs, PyData.showableAll, PyData.hasDictAll, h2, h4, h5, h6, Bool.and_self, Bool.or_self, and_true]
    rw [piled_cons]
    omega
end
def rReprR (K : PySem.W.Frag) : List V → Hp → VK → Prop := fun xs H Q => ∃ (a : Addr) (d : PyData), xs = [.ref a] ∧ Dp K H (.ref a) d ∧ okR d = true ∧ wtR d ≤ 1000000 ∧ d.depth ≤ 60 ∧ Q (.str d.shown) H
theorem call_reprR {X : Cx} (hg : X.A.guards = some []) (hu : X.A.units + 64 < cLine) : CallR X (.builtin "repr") (rReprR X.K) := by
  intro pins s σ H xs us Q I r h
  obtain ⟨a, d, rfl, hd, hs, hw, hz, q⟩ := h
  obtain ⟨u, rfl, rx⟩ := vals1 r
  cases rx
  obtain ⟨h1, h2, h3⟩ := shownR d hs
  obtain ⟨as, rd⟩ := Dp.reads I d _ _ hd rfl
  exact repr_of_reads' rd h2 (PyData.noDict_hsm h3) hg (by omega) (fun _ _ e => e) (fun h' u tk hk => ⟨.str d.shown, H, I.kept (t' := tk) hk, ⟨u, rfl⟩, q⟩) (by show _ ≤ 16777216; omega)
/-! ### def f(a, .., **d), called with keywords: a new dict of them -/
theorem push_last (h : Heap) (o : Obj) (f : Obj → Obj) : (h.push o).update h.objs.size f = h.push (f o) := by
  obtain ⟨objs, l⟩ := h
  show (⟨(objs.push o).modify objs.size f, l⟩ : Heap) = ⟨objs.push (f o), l⟩
  refine congrArg (fun z => (⟨z, l⟩ : Heap)) (Array.ext_getElem? fun i => ?_)
  rw [Array.getElem?_modify, Array.getElem?_push, Array.getElem?_push]
  by_cases e : objs.size = i
  · subst e
    simp
  · rw [if_neg e, if_neg (fun z => e z.symm), if_neg (fun z => e z.symm)]
section
variable {P : Program} {w : World} {A : Around} {E : Value → Shared → Prop}
/-- one entry more -/
theorem kw_put {z : Shared} {es : List DictEntry} {n t : Nat} {k : Str} {v : Value} {Q : Unit → Shared → Prop} (new : ∀ e ∈ es, ∃ k' u, e.key = .str k' u ∧ k' ≠ k)
    (h : ∀ n' t', Q () { z with heap := z.heap.push (PySem.W.dictOf (es ++ [⟨PyData.keyHash w.params k, .str k t, v⟩]) n'), toks := t' }) :
    wpAny (model P w) A (nsSet z.heap.objs.size k v) Q E { z with heap := z.heap.push (PySem.W.dictOf es n), toks := t } := by
  have here : (z.heap.push (PySem.W.dictOf es n)).get? z.heap.objs.size = some (PySem.W.dictOf es n) := Heap.get?_push_size _ rfl
  have other : ∀ e ∈ es, e.key.isStr k = false := fun e he => by
    obtain ⟨k', u, ek, ne⟩ := new e he
    rw [ek]
    exact beq_eq_false_iff_ne.mpr ne
  have named : aRefKeyMayBeTheName k es.toArray = false := by
    rw [aRefKeyMayBeTheName_at]
    have : es.toArray.any (·.refKey) = false := by
      rw [← Array.any_toList]
      refine List.any_eq_false.mpr fun e he => ?_
      obtain ⟨k', u, ek, _⟩ := new e he
      show ¬ e.refKey = true
      unfold DictEntry.refKey
      rw [ek]
      exact Bool.false_ne_true
    rw [this, Bool.and_false]
  unfold nsSet
  refine wpAny_bind (wpAny_bind (wpAny_askSetting (wpAny_pure ?_)))
  refine wpAny_bind (wpAny_mkText ?_)
  refine wpAny_bind (wpAny_loadPart here ?_)
  show wpAny _ _ (if aRefKeyMayBeTheName k es.toArray = true then _ else _) _ _ _
  rw [named]
  refine wpAny_updatePart (s := { z with heap := z.heap.push (PySem.W.dictOf es n), toks := t + 1 }) here ?_
  rw [push_last, PySem.W.putName_dict, PySem.W.putL_new other]
  exact h _ _
/-- all entries -/
theorem kw_fill {z : Shared} {Q : PUnit → Shared → Prop} : ∀ (ex : List (Str × Value)) (es : List DictEntry) (n t : Nat), (∀ e ∈ es, ∃ k' u, e.key = .str k' u ∧ ∀ x ∈ ex, k' ≠ x.1) → (ex.map (·.1)).Nodup →
    (∀ n' t' es', Pairs (mixKind P w) es' (ex.map fun x => ((.inr x.1 : Key), x.2)) → (∀ e ∈ es', ∃ k u, e.key = .str k u ∧ e.hash = PyData.keyHash w.params k) → Q ⟨⟩ { z with heap := z.heap.push (PySem.W.dictOf (es ++ es') n'), toks := t' }) →
    wpAny (model P w) A (forIn ex PUnit.unit fun x _ => (nsSet z.heap.objs.size x.1 x.2 >>= fun _ => pure (ForInStep.yield PUnit.unit))) Q E { z with heap := z.heap.push (PySem.W.dictOf es n), toks := t }
  | [], es, n, t, _, _, h => by
    rw [List.forIn_nil]
    refine wpAny_pure ?_
    have := h n t [] .nil (fun e he => by cases he)
    rw [List.append_nil] at this
    exact this
  | (k, v) :: ex, es, n, t, old, nd, h => by
    obtain ⟨nk, nd⟩ := List.nodup_cons.mp (show (k :: ex.map (·.1)).Nodup from nd)
    rw [List.forIn_cons]
    refine wpAny_bind (wpAny_bind (kw_put (fun e he => ?_) fun n1 t1 => wpAny_pure ?_))
    · obtain ⟨k', u, ek, ne⟩ := old e he
      exact ⟨k', u, ek, ne (k, v) List.mem_cons_self⟩
    refine kw_fill ex _ n1 t1 (fun e he => ?_) nd fun n' t' es' pr hs => ?_
    · rcases List.mem_append.mp he with he | he
      · obtain ⟨k', u, ek, ne⟩ := old e he
        exact ⟨k', u, ek, fun x hx => ne x (List.mem_cons_of_mem _ hx)⟩
      · rw [List.mem_singleton.mp he]
        exact ⟨k, t, rfl, fun x hx e => nk (List.mem_map.mpr ⟨x, hx, e.symm⟩)⟩
    · have := h n' t' (⟨PyData.keyHash w.params k, .str k t, v⟩ :: es') (.cons (mixKind_str P w k t) rfl pr) (fun e he => by
        rcases List.mem_cons.mp he with rfl | he
        · exact ⟨k, t, rfl, rfl⟩
        · exact hs e he)
      rw [List.append_assoc]
      exact this
end
/-- what such a def's binding comes to -/
structure KwBind (fd : FuncData) (ps : List Str) (pd : Str) (ks : List Str) : Prop where
  eq : ∀ us ws : List Value, us.length = ps.length → ws.length = ks.length → bindArgs fd ⟨us, ks.zip ws⟩ =
    ((alloc ({ cls := .type "dict", data := .dict #[] } : Obj) : Sem Addr) >>= fun d => (forIn (ks.zip ws) PUnit.unit fun x _ => (nsSet d x.1 x.2 >>= fun _ => pure (ForInStep.yield PUnit.unit))) >>= fun _ => pure (ps.zip us ++ [(pd, Value.ref d)]))
  nd : ks.Nodup
/-- its promise: vs the values, zs the keywords' -/
def FnKw (P : Program) (w : World) (K : PySem.W.Frag) (mg : Str → Option Value) (base : Heap) (k : Nat) (f : Addr) (n : Nat) (ks : List Str) (sp : List V → List V → Hp → VK → Prop) : Prop :=
  ∀ (A : Around) (outer : List Env) (s : Shared) (H : Hp) (us ws : List Value) (vs zs : List V) (Q : VK), Room k A → Env0 P w K mg base A outer s H → Vals vs us → vs.length = n → Vals zs ws → zs.length = ks.length → sp vs zs H Q →
    codeAny (model P w) A (.call (.ref f) ⟨us, ks.zip ws⟩) (CR CX0 outer P w H s Q E0) s
theorem kv_zip : ∀ {ks : List Str} {zs : List V} {ws : List Value}, Vals zs ws → zs.length = ks.length → KV ((ks.zip zs).map fun x => ((.inr x.1 : Key), x.2)) ((ks.zip ws).map fun x => ((.inr x.1 : Key), x.2))
  | [], _, _, .nil, _ => .nil
  | k :: ks, _, _, .cons r h, e => .cons ⟨rfl, r⟩ (kv_zip h (by simpa using e))
section
variable {P : Program} {w : World} {K : PySem.W.Frag} {mg : Str → Option Value} {base : Heap}
theorem fnKw {x qual : Str} {st : Stmt} {f : Addr} {fd : FuncData} {N ps ks : List Str} {pd : Str} {k : Nat} {sp : List V → List V → Hp → VK → Prop} (F : Fun K x qual st f fd) (B : KwBind fd ps pd ks) (few : ks.length ≤ 1000) (S : FnScope N (ps ++ [pd]) (defScope st))
    (body : ∀ (cdv : Value) (A : Around) (outer : List Env) (s : Shared) (H : Hp) (vs zs : List V) (d : Addr) (Q : VK), Room k (A.deeper (envOfC qual (defScope st) s.heap.objs.size f cdv)) → H d = some (.dK ((ks.zip zs).map fun x => ((.inr x.1 : Key), x.2))) → zs.length = ks.length →
      (∃ H0, H0 d = none ∧ H = upd H0 d (.dK ((ks.zip zs).map fun x => ((.inr x.1 : Key), x.2))) ∧ sp vs zs H0 Q) →
      ∃ t, PSs (cxOf CX0 P w K mg base N qual (defScope st) f cdv A outer s H E0).nox (defBody st) t ∧ t { nx := fun _ H' => Q .non H', rt := Q } (start N (vs ++ [.ref d])) H) :
    FnKw P w K mg base (k + 1) f ps.length ks sp := by
  intro A outer s H us ws vs zs Q room e0 rv lv rz lz q
  obtain ⟨oc, od, kV, doc, pm, an, cdv, ct, osl, e, look, code⟩ := F.ex
  subst e
  have lus : us.length = ps.length := by rw [← rv.length]; exact lv
  have lws : ws.length = ks.length := by rw [← rz.length]; exact lz
  have fresh : H s.heap.objs.size = none := e0.hok.fresh (Nat.le_refl _)
  refine StX.run_bnd look code S room e0 (G := fun xs H2 => ∃ d, H d = none ∧ xs = vs ++ [V.ref d] ∧ H2 = upd H d (.dK ((ks.zip zs).map fun x => ((.inr x.1 : Key), x.2)))) (fun A' Ex Q' fin => ?_) fun s2 H2 xs g room2 => ?_
  · rw [B.eq us ws lus lws]
    refine wpAny_bind (wpAny_alloc ?_)
    have names : ((ks.zip ws).map (·.1)) = ks := List.map_fst_zip (Nat.le_of_eq lws.symm)
    refine wpAny_bind (kw_fill (z := s) (ks.zip ws) [] 0 s.toks (fun e he => by cases he) (by rw [names]; exact B.nd) fun n' t' es' pr hs => wpAny_pure ?_)
    rw [List.nil_append]
    have ok : ObjOk P w (upd H s.heap.objs.size (.dK ((ks.zip zs).map fun x => ((.inr x.1 : Key), x.2)))) (s.heap.push (PySem.W.dictOf es' n')) s.heap.objs.size (.dK ((ks.zip zs).map fun x => ((.inr x.1 : Key), x.2))) := by
      refine ⟨?_, beq_eq_false_iff_ne.mpr (Ne.symm (Nat.ne_of_lt (StX.env0_big e0))), _, kv_zip rz lz, _, es'.toArray, n', Heap.get?_push_size _ rfl, ⟨rfl, rfl, rfl⟩, rfl, fun e he => ?_, pr, ?_⟩
      · rw [List.length_map, List.length_zip]
        exact small (by omega)
      · obtain ⟨k', u, ek, eh⟩ := hs e (List.mem_toArray.mp he)
        exact ⟨.inr k', by rw [ek]; exact mixKind_str P w k' u, eh⟩
      · rw [List.map_map]
        have : (ks.zip ws).map ((fun x : Key × Value => x.1) ∘ fun x => ((.inr x.1 : Key), x.2)) = ((ks.zip ws).map (·.1)).map Sum.inr := by rw [List.map_map]; rfl
        rw [this, names]
        exact List.Pairwise.map _ (fun _ _ ne e => ne (Sum.inr.inj e)) B.nd
    have en := StX.env0_laid e0 ok
    have un := StX.un_laid (fs := frs outer) (s := s) (o := PySem.W.dictOf es' n') (u := .dK ((ks.zip zs).map fun x => ((.inr x.1 : Key), x.2))) fresh
    have z := fin { s with heap := s.heap.push (PySem.W.dictOf es' n'), toks := t' } _ (vs ++ [V.ref s.heap.objs.size]) (us ++ [Value.ref s.heap.objs.size]) ⟨en.frames, en.mod, en.bs, en.bsz, en.funs, en.frf, en.hok, en.bare⟩ un rfl (fun _ _ h => h.elim)
      (rv.append (.cons rfl .nil)) (by rw [List.length_append, List.length_append, lv]; rfl) ⟨_, fresh, rfl, rfl⟩
    rw [List.zip_append lus.symm] at z
    exact z
  · obtain ⟨d, nd, rfl, rfl⟩ := g
    obtain ⟨t, rule, read⟩ := body cdv A outer s2 _ vs zs d Q room2 upd_same lz ⟨H, nd, rfl, q⟩
    exact ⟨t, rule.nox, read⟩
end
/-- f(e, .., k = v, ..) of such a def -/
def tCallKw (n m : Nat) (sp : List V → List V → Hp → VK → Prop) (t tk : TA) : TE := fun σ H Q => t σ H fun vs H1 => tk σ H1 fun zs H2 => vs.length = n ∧ zs.length = m ∧ sp vs zs H2 Q
theorem pe_callKw {X : Cx} {k n : Nat} {f : Addr} {ks : List Str} {sp : List V → List V → Hp → VK → Prop} {x : Str} {p pos : Pos} {e : Expr} {es : List Expr} {kws : List Keyword} {t tk : TA} (F : FnKw X.prog X.w X.K X.mg X.base k f n ks sp) (room : Room k X.A) (isG : Gl X x) (at0 : X.mg x = some (.ref f)) (kp : PySem.W.keepIn X.K (.ref f) = true)
    (args : PA X (e :: es) t) (kargs : PK X kws tk) (all : (backToKw pos (keywordEach kws X.env)).all (·.1.isSome) = true := by rfl) (names : (backToKw pos (keywordEach kws X.env)).filterMap (·.1) = ks := by rfl)
    (nd : (x == ("__debug__" : Str)) = false := by decide) (he : starEach (e :: es) X.env = (false, eval e X.env) :: starEach es X.env := by rfl)
    (plain : ((backTo pos (starEach (e :: es) X.env)).any (·.1) || (backToKw pos (keywordEach kws X.env)).any (·.1.isNone)) = false := by rfl) :
    PE X (.Call (.Name x p) (e :: es) kws pos) (tCallKw n ks.length sp t tk) := by
  refine ⟨fun pins s σ H Q I h => wpAny_Call_Name_kw (ld_glob I isG at0 ?_ nd)⟩
  refine PySem.W.callWith_KW (h₀ := X.base) I.ok.mod.kin kp all (thn (args.run pos pins s σ H _ I h) fun us s1 ⟨vs, H1, I1, rv, q1⟩ => ?_) plain he
  refine thn (kargs.run pos pins s1 σ H1 _ I1 q1) fun ws s2 ⟨zs, H2, I2, rz, l1, l2, q2⟩ => ⟨I2.kIn, ?_⟩
  rw [names]
  refine wpAny_call (codeAny_mono (F X.A X.stack s2 H2 us ws vs zs Q room I2.env0 rv l1 rz l2 q2) fun r z hq => ?_)
  match r, hq with
  | .ok (.ret u), hq => exact I2.after hq
/-! ### C(**d): the entries of a dict as keywords -/
section
variable {P : Program} {w : World} {A : Around} {E : Value → Shared → Prop}
/-- one entry handed on -/
theorem kd_put {z : Shared} {es : List DictEntry} {n t : Nat} {e : DictEntry} {k : Key} {Q : Unit → Shared → Prop} (hk : PySem.KeysOf (mixKind P w) es.toArray) (he : (mixKind P w).is k e.key = true) (hh : e.hash = (mixKind P w).hash k) (new : ∀ x ∈ es, (mixKind P w).is k x.key = false) (few : es.length ≤ 1000)
    (h : ∀ n', Q () { z with heap := z.heap.push (PySem.W.dictOf (es ++ [e]) n'), toks := t }) :
    wpAny (model P w) A (dictPut z.heap.objs.size e.hash e.key e.val) Q E { z with heap := z.heap.push (PySem.W.dictOf es n), toks := t } := by
  have here : (z.heap.push (PySem.W.dictOf es n)).get? z.heap.objs.size = some (PySem.W.dictOf es n) := Heap.get?_push_size _ rfl
  have no : (es.toArray.findIdx? fun x => (mixKind P w).is k x.key) = none := by
    rw [Array.findIdx?_eq_none_iff]
    intro x hx
    exact new x (List.mem_toArray.mp hx)
  unfold dictPut
  rw [hh]
  refine wpAny_bind (wpAny_dictFind_of he here rfl hk ?_)
  rw [no]
  refine wpAny_updateDictKeysTo here rfl ?_ ?_
  · show Q () { z with heap := (z.heap.push (PySem.W.dictOf es n)).update z.heap.objs.size _, toks := t }
    rw [push_last]
    have : (PySem.W.dictOf es n).mapDictKeys (fun a => a.push ⟨(mixKind P w).hash k, e.key, e.val⟩) = PySem.W.dictOf (es ++ [e]) (n + 1) := by
      rw [← hh]
      show (⟨_, _, .dict (es.toArray.push _) _, _⟩ : Obj) = ⟨_, _, .dict (es ++ [e]).toArray _, _⟩
      rw [List.push_toArray]
    rw [this]
    exact h _
  · show (es.toArray.push _).size ≤ _
    rw [Array.size_push, List.size_toArray]
    have : sizeLine = 16777216 := rfl
    omega
theorem kd_merge {z : Shared} {a : Addr} {o : Obj} {es : List DictEntry} {ep t : Nat} {Q : Unit → Shared → Prop} (ho : z.heap.get? a = some o) (hx : o.ExactDict) (hd : o.data = .dict es.toArray ep) (hk : PySem.KeysOf (mixKind P w) es.toArray)
    (nd : es.Pairwise fun x y => ∀ k, (mixKind P w).is k x.key = true → (mixKind P w).is k y.key = false) (str : ∀ e ∈ es, ∃ x u, e.key = .str x u) (na : (a == sysModules) = false) (few : es.length ≤ 1000)
    (h : ∀ n', Q () { z with heap := z.heap.push (PySem.W.dictOf es n'), toks := t }) :
    wpAny (model P w) A (mergeMapping z.heap.objs.size (.ref a) true) Q E { z with heap := z.heap.push (PySem.W.dictOf [] 0), toks := t } := by
  have here : ∀ l n, (z.heap.push (PySem.W.dictOf l n)).get? z.heap.objs.size = some (PySem.W.dictOf l n) := fun l n => Heap.get?_push_size _ rfl
  have there : ∀ l n, (z.heap.push (PySem.W.dictOf l n)).get? a = some o := fun l n => Heap.get?_push_of_some _ ho
  have hT : ∀ l n t, Shared.TypeIs { z with heap := z.heap.push (PySem.W.dictOf l n), toks := t } (.ref a) "dict" := fun l n t => ⟨o, there l n, hx.1⟩
  unfold mergeMapping
  refine wpAny_bind (wpAny_isInstance (hT _ _ _) isSubtype_dict_dict ?_)
  rw [if_pos rfl]
  refine wpAny_bind (wpAny_specialOf (hT _ _ _) F.slot_dict_iter.lookup ?_)
  refine wpAny_bind (wpAny_pure ?_)
  rw [show (some (Value.builtin "dict.__iter__") == some (Value.builtin "dict.__iter__")) = true by simp]
  dsimp only
  rw [na, if_neg Bool.false_ne_true]
  refine wpAny_bind (wpAny_dictEntries (here _ _) rfl ?_)
  rw [if_pos (show (([] : List DictEntry).toArray).isEmpty = true from rfl)]
  refine wpAny_bind (wpAny_dictEntries (there _ _) hd ?_)
  have skip : ∀ {Q : PUnit → Shared → Prop} {s : Shared}, Q ⟨⟩ s → wpAny (model P w) A (forIn es.toArray PUnit.unit fun e __s => match e.key with
      | Value.ref a => do
        let __do_lift ← specialOf e.key (Str.ofString "__eq__")
        if (__do_lift != some (Value.builtin "object.__eq__")) = true then
            if (Array.filter (fun x => x.hash == e.hash) es.toArray).size > 1 then do
              unsupported "dict.merge-into-an-empty-dict:keys-of-equal-hash"
              pure (ForInStep.yield PUnit.unit)
            else pure (ForInStep.yield PUnit.unit)
          else pure (ForInStep.yield PUnit.unit)
      | x => pure (ForInStep.yield PUnit.unit)) Q E s := fun {Q s} q => by
    rw [← Array.forIn_toList]
    refine wpAny_forIn_list _ (fun rest _ s' => s' = s ∧ ∀ e ∈ rest, e ∈ es) _ (fun x rest b s' hI => ?_) (fun b s' hI => by rw [hI.1]; exact q) _ _ ⟨rfl, fun e he => he⟩
    obtain ⟨rfl, hm⟩ := hI
    obtain ⟨y, u, ek⟩ := str x (hm x List.mem_cons_self)
    rw [ek]
    exact wpAny_pure ⟨rfl, fun e he => hm e (List.mem_cons_of_mem _ he)⟩
  refine wpAny_bind (skip ?_)
  refine wpAny_bind (wpAny_dictEntries (there _ _) hd ?_)
  refine wpAny_bind (wpAny_dictEpoch (there _ _) hd ?_)
  refine wpAny_bind ?_
  refine wpAny_forIn_list _ (fun rest _ s' => ∃ i n, rest = List.range' i (es.length - i) ∧ i ≤ es.length ∧ s' = { z with heap := z.heap.push (PySem.W.dictOf (es.take i) n), toks := t }) _ (fun x rest b s' hI => ?_) (fun b s' hI => ?_) _ _ ⟨0, 0, by rw [List.size_toArray, List.range_eq_range', Nat.sub_zero], Nat.zero_le _, rfl⟩
  · obtain ⟨i, n, hr, hi, rfl⟩ := hI
    have hlt : i < es.length := by
      by_cases hlt : i < es.length
      · exact hlt
      · rw [show es.length - i = 0 by omega] at hr; cases hr
    rw [show es.length - i = (es.length - (i + 1)) + 1 by omega, List.range'_succ] at hr
    obtain ⟨rfl, rfl⟩ := List.cons.inj hr
    refine wpAny_bind (wpAny_dictEntries (there _ _) hd ?_)
    have hx : es.toArray[x]? = some es[x] := by rw [List.getElem?_toArray]; exact List.getElem?_eq_getElem hlt
    rw [hx]
    have hm : es[x] ∈ es := List.getElem_mem hlt
    obtain ⟨k, hk1, hk2⟩ := hk es[x] (List.mem_toArray.mpr hm)
    have old : ∀ e ∈ es.take x, (mixKind P w).is k e.key = false := fun e he => by
      obtain ⟨j, hj, rfl⟩ := List.getElem_of_mem he
      rw [List.length_take] at hj
      rw [List.getElem_take]
      cases q : (mixKind P w).is k es[j].key with
      | false => rfl
      | true =>
        have := List.pairwise_iff_getElem.mp nd j x (by omega) hlt (by omega) k q
        rw [hk1] at this
        cases this
    have hkt : PySem.KeysOf (mixKind P w) (es.take x).toArray := fun e he => hk e (List.mem_toArray.mpr (List.mem_of_mem_take (List.mem_toArray.mp he)))
    refine wpAny_bind (wpAny_holding ?_)
    rw [if_pos rfl]
    have no : ((es.take x).toArray.findIdx? fun y => (mixKind P w).is k y.key) = none := by
      rw [Array.findIdx?_eq_none_iff]
      intro y hy
      exact old y (List.mem_toArray.mp hy)
    refine wpAny_bind ?_
    rw [hk2]
    refine wpAny_dictFind_of hk1 (here _ _) rfl hkt ?_
    rw [no]
    rw [if_neg (by simp)]
    rw [← hk2]
    refine kd_put hkt hk1 hk2 old (by rw [List.length_take]; omega) fun n' => ?_
    refine wpAny_bind (wpAny_dictEpoch (there _ _) hd ?_)
    rw [if_neg (by simp)]
    refine wpAny_pure ⟨x + 1, n', rfl, hlt, ?_⟩
    rw [List.take_add_one, List.getElem?_eq_getElem hlt]
    rfl
  · obtain ⟨i, n, hr, hi, rfl⟩ := hI
    have : i = es.length := by
      by_cases hlt : i < es.length
      · rw [show es.length - i = (es.length - (i + 1)) + 1 by omega, List.range'_succ] at hr; cases hr
      · omega
    subst this
    rw [List.take_length]
    exact wpAny_pure (h n)
end
/-! ### C(**d), further: the keywords read off, the call -/
def kwOf : List DictEntry → List (Str × Value)
  | [] => []
  | e :: es => (match e.key with | .str x _ => [(x, e.val)] | _ => []) ++ kwOf es
theorem kwOf_app : ∀ l m : List DictEntry, kwOf (l ++ m) = kwOf l ++ kwOf m
  | [], _ => rfl
  | e :: l, m => by
    show _ ++ kwOf (l ++ m) = (_ ++ kwOf l) ++ kwOf m
    rw [kwOf_app l m, List.append_assoc]
section
variable {P : Program} {w : World} {A : Around} {E : Value → Shared → Prop}
theorem kd_read {f : Value} {s : Shared} {d : Addr} {es : List DictEntry} {n : Nat} {Q : List (Str × Value) → Shared → Prop} (hd : s.heap.get? d = some (PySem.W.dictOf es n)) (str : ∀ e ∈ es, ∃ x u, e.key = .str x u) (h : Q (kwOf es) s) :
    wpAny (model P w) A (keywordsIn f d) Q E s := by
  unfold keywordsIn
  refine wpAny_bind (wpAny_dictEntries hd rfl ?_)
  refine wpAny_bind ?_
  rw [← Array.forIn_toList]
  refine wpAny_forIn_list _ (fun rest b s' => s' = s ∧ ∃ pre, es = pre ++ rest ∧ b = kwOf pre) _ (fun x rest b s' hI => ?_) (fun b s' hI => ?_) _ _ ⟨rfl, [], rfl, rfl⟩
  · obtain ⟨rfl, pre, e1, rfl⟩ := hI
    obtain ⟨y, u, ek⟩ := str x (by rw [e1]; exact List.mem_append_right _ List.mem_cons_self)
    rw [ek]
    refine wpAny_pure ⟨rfl, pre ++ [x], by rw [e1, List.append_assoc]; rfl, ?_⟩
    rw [kwOf_app]
    show _ = kwOf pre ++ ((match x.key with | .str x' _ => [(x', x.val)] | _ => []) ++ [])
    rw [ek, List.append_nil]
  · obtain ⟨rfl, pre, e1, rfl⟩ := hI
    rw [List.append_nil] at e1
    subst e1
    exact wpAny_pure h
theorem kd_merged {f : Value} {x : Sem Value} {z : Shared} {a : Addr} {o : Obj} {es : List DictEntry} {ep : Nat} {Q : Addr → Shared → Prop} (ho : z.heap.get? a = some o) (hx : o.ExactDict) (hd : o.data = .dict es.toArray ep) (hk : PySem.KeysOf (mixKind P w) es.toArray)
    (nd : es.Pairwise fun x y => ∀ k, (mixKind P w).is k x.key = true → (mixKind P w).is k y.key = false) (str : ∀ e ∈ es, ∃ x u, e.key = .str x u) (na : (a == sysModules) = false) (few : es.length ≤ 1000)
    (get : ∀ {Q : Value → Shared → Prop} {E : Value → Shared → Prop}, Q (.ref a) { z with heap := z.heap.push (PySem.W.dictOf [] 0) } → wpAny (model P w) A x Q E { z with heap := z.heap.push (PySem.W.dictOf [] 0) })
    (h : ∀ n', Q z.heap.objs.size { z with heap := z.heap.push (PySem.W.dictOf es n') }) :
    wpAny (model P w) A (mergedKeywords f [(none, x)]) Q E z := by
  unfold mergedKeywords
  refine wpAny_bind (wpAny_alloc ?_)
  refine wpAny_bind (wpAny_holding ?_)
  refine wpAny_bind ?_
  rw [List.forIn_cons]
  refine wpAny_bind ?_
  refine wpAny_bind ?_
  refine wpAny_of_eq (a := ()) rfl ?_
  refine wpAny_bind (get ?_)
  refine wpAny_bind (wpAny_onRaise (wpAny_holding (wpAny_tryCatch (wpAny_onRaise (kd_merge ho hx hd hk nd str na few fun n' => ?_)))))
  refine wpAny_pure ?_
  refine wpAny_of_eq (a := ([] : List (Str × Sem Value))) rfl ?_
  refine wpAny_of_eq (a := ()) rfl ?_
  exact wpAny_pure (h n')
/-- the arguments of such a call -/
theorem kd_args {f : Value} {x : Sem Value} {z : Shared} {a : Addr} {o : Obj} {es : List DictEntry} {ep : Nat} {Q : Args → Shared → Prop} (ho : z.heap.get? a = some o) (hx : o.ExactDict) (hd : o.data = .dict es.toArray ep) (hk : PySem.KeysOf (mixKind P w) es.toArray)
    (nd : es.Pairwise fun x y => ∀ k, (mixKind P w).is k x.key = true → (mixKind P w).is k y.key = false) (str : ∀ e ∈ es, ∃ x u, e.key = .str x u) (na : (a == sysModules) = false) (few : es.length ≤ 1000)
    (get : ∀ {Q : Value → Shared → Prop} {E : Value → Shared → Prop}, Q (.ref a) { z with heap := z.heap.push (PySem.W.dictOf [] 0) } → wpAny (model P w) A x Q E { z with heap := z.heap.push (PySem.W.dictOf [] 0) })
    (h : ∀ n', Q ⟨[], kwOf es⟩ { z with heap := z.heap.push (PySem.W.dictOf es n') }) :
    wpAny (model P w) A (evalArgs f true [] [(none, x)]) Q E z := by
  unfold evalArgs
  refine wpAny_bind (wpAny_of_eq (a := []) rfl ?_)
  refine wpAny_bind (wpAny_pure ?_)
  refine wpAny_holding ?_
  rw [if_neg (show ¬ (([(none, x)] : List (Option Str × Sem Value)).all (·.1.isSome) = true) by simp)]
  refine wpAny_bind (kd_merged ho hx hd hk nd str na few get fun n' => ?_)
  refine wpAny_bind (wpAny_of_eq (a := []) rfl ?_)
  refine wpAny_bind (wpAny_holding (kd_read (Heap.get?_push_size _ rfl) str ?_))
  exact wpAny_pure (h n')
end
/-! ### a promise of a def called with keywords, errors too -/
structure DfX (P : Program) (w : World) (K : PySem.W.Frag) (mg : Str → Option Value) (base : Heap) (k : Nat) (nm : Str) (ps : List Str) (sp : Sp) where
  f : Addr
  fd : FuncData
  ok : FnOk P w K mg base (L2.CX P w) k f fd ps sp
  b : Binds K fd ps []
  kp : PySem.W.keepIn K (.ref f) = true
  g : mg nm = some (.ref f)
/-- a promise of a def called with keywords, errors too -/
def FnKwX (CX : CXT) (P : Program) (w : World) (K : PySem.W.Frag) (mg : Str → Option Value) (base : Heap) (k : Nat) (f : Addr) (n : Nat) (ks : List Str) (sp : List V → List V → Hp → VK → XK → Prop) : Prop :=
  ∀ (A : Around) (outer : List Env) (s : Shared) (H : Hp) (us ws : List Value) (vs zs : List V) (Q : VK) (E : XK), Room k A → Env0 P w K mg base A outer s H → Vals vs us → vs.length = n → Vals zs ws → zs.length = ks.length → sp vs zs H Q E →
    codeAny (model P w) A (.call (.ref f) ⟨us, ks.zip ws⟩) (CR CX outer P w H s Q E) s
section
variable {P : Program} {w : World} {K : PySem.W.Frag} {mg : Str → Option Value} {base : Heap} {CX : CXT}
theorem fnKwX (up : StX.CXUp CX) {x qual : Str} {st : Stmt} {f : Addr} {fd : FuncData} {N ps ks : List Str} {pd : Str} {k : Nat} {sp : List V → List V → Hp → VK → XK → Prop} (F : Fun K x qual st f fd) (B : KwBind fd ps pd ks) (few : ks.length ≤ 1000) (S : FnScope N (ps ++ [pd]) (defScope st))
    (body : ∀ (cdv : Value) (A : Around) (outer : List Env) (s : Shared) (H : Hp) (vs zs : List V) (d : Addr) (Q : VK) (E : XK), Room k (A.deeper (envOfC qual (defScope st) s.heap.objs.size f cdv)) → H d = some (.dK ((ks.zip zs).map fun x => ((.inr x.1 : Key), x.2))) → zs.length = ks.length →
      (∃ H0, H0 d = none ∧ H = upd H0 d (.dK ((ks.zip zs).map fun x => ((.inr x.1 : Key), x.2))) ∧ sp vs zs H0 Q E) →
      ∃ t, PSs (cxOf CX P w K mg base N qual (defScope st) f cdv A outer s H E) (defBody st) t ∧ t { nx := fun _ H' => Q .non H', rt := Q } (start N (vs ++ [.ref d])) H) :
    FnKwX CX P w K mg base (k + 1) f ps.length ks sp := by
  intro A outer s H us ws vs zs Q E room e0 rv lv rz lz q
  obtain ⟨oc, od, kV, doc, pm, an, cdv, ct, osl, e, look, code⟩ := F.ex
  subst e
  have lus : us.length = ps.length := by rw [← rv.length]; exact lv
  have lws : ws.length = ks.length := by rw [← rz.length]; exact lz
  have fresh : H s.heap.objs.size = none := e0.hok.fresh (Nat.le_refl _)
  refine StX.run_bnd look code S room e0 (G := fun xs H2 => ∃ d, H d = none ∧ xs = vs ++ [V.ref d] ∧ H2 = upd H d (.dK ((ks.zip zs).map fun x => ((.inr x.1 : Key), x.2)))) (fun A' Ex Q' fin => ?_) fun s2 H2 xs g room2 => ?_
  · rw [B.eq us ws lus lws]
    refine wpAny_bind (wpAny_alloc ?_)
    have names : ((ks.zip ws).map (·.1)) = ks := List.map_fst_zip (Nat.le_of_eq lws.symm)
    refine wpAny_bind (kw_fill (z := s) (ks.zip ws) [] 0 s.toks (fun e he => by cases he) (by rw [names]; exact B.nd) fun n' t' es' pr hs => wpAny_pure ?_)
    rw [List.nil_append]
    have ok : ObjOk P w (upd H s.heap.objs.size (.dK ((ks.zip zs).map fun x => ((.inr x.1 : Key), x.2)))) (s.heap.push (PySem.W.dictOf es' n')) s.heap.objs.size (.dK ((ks.zip zs).map fun x => ((.inr x.1 : Key), x.2))) := by
      refine ⟨?_, beq_eq_false_iff_ne.mpr (Ne.symm (Nat.ne_of_lt (StX.env0_big e0))), _, kv_zip rz lz, _, es'.toArray, n', Heap.get?_push_size _ rfl, ⟨rfl, rfl, rfl⟩, rfl, fun e he => ?_, pr, ?_⟩
      · rw [List.length_map, List.length_zip]
        exact small (by omega)
      · obtain ⟨k', u, ek, eh⟩ := hs e (List.mem_toArray.mp he)
        exact ⟨.inr k', by rw [ek]; exact mixKind_str P w k' u, eh⟩
      · rw [List.map_map]
        have : (ks.zip ws).map ((fun x : Key × Value => x.1) ∘ fun x => ((.inr x.1 : Key), x.2)) = ((ks.zip ws).map (·.1)).map Sum.inr := by rw [List.map_map]; rfl
        rw [this, names]
        exact List.Pairwise.map _ (fun _ _ ne e => ne (Sum.inr.inj e)) B.nd
    have en := StX.env0_laid e0 ok
    have un := StX.un_laid (fs := frs outer) (s := s) (o := PySem.W.dictOf es' n') (u := .dK ((ks.zip zs).map fun x => ((.inr x.1 : Key), x.2))) fresh
    have kp : ∀ b o, s.heap.get? b = some o → (s.heap.push (PySem.W.dictOf es' n')).get? b = some o := fun b o e => Heap.get?_push_of_some _ e
    have z := fin { s with heap := s.heap.push (PySem.W.dictOf es' n'), toks := t' } _ (vs ++ [V.ref s.heap.objs.size]) (us ++ [Value.ref s.heap.objs.size]) ⟨en.frames, en.mod, en.bs, en.bsz, en.funs, en.frf, en.hok, en.bare⟩ un rfl (fun e s' h => up outer s H { s with heap := s.heap.push (PySem.W.dictOf es' n'), toks := t' } _ E e s' un kp rfl h)
      (rv.append (.cons rfl .nil)) (by rw [List.length_append, List.length_append, lv]; rfl) ⟨_, fresh, rfl, rfl⟩
    rw [List.zip_append lus.symm] at z
    exact z
  · obtain ⟨d, nd, rfl, rfl⟩ := g
    exact body cdv A outer s2 _ vs zs d Q E room2 upd_same lz ⟨H, nd, rfl, q⟩
end
/-- f(k = v, ..) of such a def, no values before -/
def tCallKw0X (m : Nat) (sp : List V → List V → Hp → VK → XK → Prop) (E : XK) (tk : TA) : TE := fun σ H Q => tk σ H fun zs H2 => zs.length = m ∧ sp [] zs H2 Q E
theorem pe_callKw0X {X : Cx} {CX : CXT} {E : XK} {k : Nat} {f : Addr} {ks : List Str} {sp : List V → List V → Hp → VK → XK → Prop} {x : Str} {p pos : Pos} {kws : List Keyword} {tk : TA} (F : FnKwX CX X.prog X.w X.K X.mg X.base k f 0 ks sp) (room : Room k X.A) (isG : Gl X x) (at0 : X.mg x = some (.ref f)) (kp : PySem.W.keepIn X.K (.ref f) = true) (hx : Passes CX X E)
    (kargs : PK X kws tk) (all : (backToKw pos (keywordEach kws X.env)).all (·.1.isSome) = true := by rfl) (names : (backToKw pos (keywordEach kws X.env)).filterMap (·.1) = ks := by rfl)
    (nd : (x == ("__debug__" : Str)) = false := by decide) (plain : ((backTo pos (starEach [] X.env)).any (·.1) || (backToKw pos (keywordEach kws X.env)).any (·.1.isNone)) = false := by rfl) :
    PE X (.Call (.Name x p) [] kws pos) (tCallKw0X ks.length sp E tk) := by
  refine ⟨fun pins s σ H Q I h => wpAny_Call_Name_kw (ld_glob I isG at0 ?_ nd)⟩
  refine PySem.W.callWith_KW0 (h₀ := X.base) I.ok.mod.kin kp all ?_ plain
  refine thn (kargs.run pos pins s σ H _ I h) fun ws z ⟨zs, G, J, rz, lz, q⟩ => ⟨J.kIn, ?_⟩
  rw [names]
  refine wpAny_call (codeAny_mono (F X.A X.stack z G [] ws [] zs Q E room J.env0 .nil rfl rz lz q) fun r z' hq => ?_)
  match r, hq with
  | .ok (.ret u), hq => exact J.after hq
  | .error e, hq => exact hx _ _ _ _ _ _ J hq
/-! ### C(**d): a new instance -/
theorem kw_of : ∀ {ks : List Str} {zs : List V} {es : List DictEntry} {vs : List (Key × Value)} {P : Program} {w : World}, zs.length = ks.length → KV ((ks.zip zs).map fun x => ((.inr x.1 : Key), x.2)) vs → PySem.Pairs (mixKind P w) es vs →
    ∃ ws, Vals zs ws ∧ kwOf es = ks.zip ws ∧ (∀ e ∈ es, ∃ x u, e.key = .str x u) ∧ ws.length = ks.length
  | [], [], _, _, _, _, _, kv, pr => by
    cases kv
    cases pr
    exact ⟨[], .nil, rfl, (fun e he => absurd he (by simp)), rfl⟩
  | [], _ :: _, _, _, _, _, h, _, _ => nomatch h
  | _ :: _, [], _, _, _, _, h, _, _ => nomatch h
  | k :: ks, z :: zs, es, vs, P, w, h, kv, pr => by
    cases kv with
    | @cons _ q _ qs r t =>
      obtain ⟨e1, r2⟩ := r
      obtain ⟨q1, q2⟩ := q
      have e1 : (.inr k : Key) = q1 := e1
      subst e1
      cases pr with
      | @cons e _ es' _ h1 h2 h3 =>
        obtain ⟨ws, a1, a2, a3, a4⟩ := kw_of (ks := ks) (zs := zs) (P := P) (w := w) (by simpa using h) t h3
        have h1 : keyIs (.inr k) e.key = true := h1
        rcases keyIs_shape h1 with ⟨i, t', hk, _⟩ | ⟨x, t', hk, ek⟩
        · cases hk
        · cases hk
          refine ⟨q2 :: ws, .cons r2 a1, ?_, fun y hy => ?_, by simp [a4]⟩
          · show (match e.key with | .str x _ => [(x, e.val)] | _ => []) ++ kwOf es' = (k, q2) :: ks.zip ws
            rw [ek, a2, h2]
            rfl
          · rcases List.mem_cons.mp hy with rfl | hy
            · exact ⟨_, _, ek⟩
            · exact a3 y hy
theorem pairs_nd {P : Program} {w : World} : ∀ {es : List DictEntry} {vs : List (Key × Value)}, PySem.Pairs (mixKind P w) es vs → (vs.map (·.1)).Nodup → es.Pairwise fun x y => ∀ k, (mixKind P w).is k x.key = true → (mixKind P w).is k y.key = false
  | _, _, .nil, _ => .nil
  | _, _, .cons (e := e) (kv := kv) (es := es) (kvs := kvs) h1 _ h3, nd => by
    obtain ⟨n1, n2⟩ := List.nodup_cons.mp nd
    refine List.pairwise_cons.mpr ⟨fun y hy k hk => ?_, pairs_nd h3 n2⟩
    have ek : k = kv.1 := (mixKind P w).inj _ _ _ hk h1
    have mem : ∀ {es : List DictEntry} {kvs : List (Key × Value)}, PySem.Pairs (mixKind P w) es kvs → y ∈ es → ∃ p ∈ kvs, (mixKind P w).is p.1 y.key = true := fun {es kvs} h => by
      induction h with
      | nil => exact fun z => nomatch z
      | cons a _ _ ih =>
        intro z
        rcases List.mem_cons.mp z with rfl | z
        · exact ⟨_, List.mem_cons_self, a⟩
        · obtain ⟨p, hp, q⟩ := ih z
          exact ⟨p, List.mem_cons_of_mem _ hp, q⟩
    obtain ⟨p, hp, q⟩ := mem h3 hy
    cases z : (mixKind P w).is k y.key with
    | false => rfl
    | true =>
      have : p.1 = k := (mixKind P w).inj _ _ _ q z
      exact absurd (List.mem_map.mpr ⟨p, hp, this.trans ek⟩) n1
section
variable {X : Cx} {CX : CXT} {k : Nat} {f C : Addr} {E : XK} {sp : List V → List V → Hp → VK → XK → Prop} {ks : List Str}
theorem run_makeKd {pins : List (Addr × Obj)} {σ : L2.St} {H : Hp} {s : Shared} {Q : VK} {ws : List Value} {zs : List V} (M : L2.Mk X.K C f) (F : FnKwX CX X.prog X.w X.K X.mg X.base k f 1 ks sp) (hr : Room (k + 1) X.A) (hx : Passes CX X E) (I : Inv X pins σ H s) (rz : Vals zs ws) (l2 : zs.length = ks.length)
    (h : ∀ x dx, H x = none → H dx = none → dx ≠ x → sp [.ref x] zs (upd (upd H dx (.own x)) x (.ins C dx [])) (fun v H2 => v = .non ∧ Q (.ref x) H2) E) :
    wpAny (model X.prog X.w) X.A (call (.ref C) [] (ks.zip ws)) (L2.EP X pins σ Q) X.xe s := by
  have hq := h (s.heap.objs.size + 1) s.heap.objs.size (I.hok.fresh (Nat.le_succ _)) (I.hok.fresh (Nat.le_refl _)) (Nat.ne_of_lt (Nat.lt_succ_self _))
  have I2 := Inv.made (C := C) I
  refine wpAny_call (make_map (f := f) I.kIn M.makes M.init (beq_iff_eq.mp M.fn) (codeAny_mono (F _ X.stack _ _ [Value.ref (s.heap.objs.size + 1)] ws [.ref (s.heap.objs.size + 1)] zs _ E (hr.make C [] (ks.zip ws))
    (I2.env0.make C [] (ks.zip ws)) (.cons rfl .nil) rfl rz l2 hq) fun r s' hq' => ?_))
  match r, hq' with
  | .error e, hq' => exact hx pins σ _ _ e s' I2 hq'
  | .ok (.ret u), hq' =>
    obtain ⟨v, H', I3, rv, ev, q3⟩ := I2.after hq'
    subst ev
    exact ⟨rv, ⟨V.ref (s.heap.objs.size + 1), H', I3, rfl, q3⟩⟩
end
def tMakeKd (i j : Nat) (C : Addr) (ok : List Str → Prop) (sp : List Str → List V → List V → Hp → VK → XK → Prop) (E : XK) : TE := fun σ H Q => σ[i]? = some (some (.ref C)) ∧ ∃ (d : Addr) (ks : List Str) (zs : List V), σ[j]? = some (some (.ref d)) ∧ H d = some (.dK ((ks.zip zs).map fun x => ((.inr x.1 : Key), x.2))) ∧
  zs.length = ks.length ∧ ks.length ≤ 1000 ∧ ok ks ∧ ∀ x dx, H x = none → H dx = none → dx ≠ x → sp ks [.ref x] zs (upd (upd H dx (.own x)) x (.ins C dx [])) (fun v H2 => v = .non ∧ Q (.ref x) H2) E
theorem pe_makeKd {X : Cx} {CX : CXT} {k i j : Nat} {f C : Addr} {E : XK} {ok : List Str → Prop} {sp : List Str → List V → List V → Hp → VK → XK → Prop} {x y : Str} {p q kp pos : Pos} (M : L2.Mk X.K C f) (F : ∀ ks, ok ks → FnKwX CX X.prog X.w X.K X.mg X.base k f 1 ks (sp ks)) (hr : Room (k + 1) X.A) (hx : Passes CX X E)
    (hN : X.N[i]? = some x) (hv : Vis X.env.scope x) (hN2 : X.N[j]? = some y) (hv2 : Vis X.env.scope y) (hdb : (x == ("__debug__" : Str)) = false := by decide) (hcd : (x == ("__classdict__" : Str)) = false := by decide) (hdb2 : (y == ("__debug__" : Str)) = false := by decide) (hcd2 : (y == ("__classdict__" : Str)) = false := by decide) :
    PE X (.Call (.Name x p) [] [⟨none, .Name y q, kp⟩] pos) (tMakeKd i j C ok sp E) := by
  refine ⟨fun pins s σ H Q I h => ?_⟩
  obtain ⟨hs, d, ks, zs, hs2, hd, l2, few, hok, h⟩ := h
  refine wpAny_Call_Name_kw (raw_name hN hv I hs (fun u r => ?_) hdb hcd)
  cases (show u = Value.ref C from r)
  obtain ⟨_, na, vs, kv, o, es, ep, ho, hx', hda, hko, pr, nd⟩ := I.hok d _ hd
  obtain ⟨ws, rz, e1, str, lw⟩ := kw_of l2 kv pr
  have les : es.toList.length = vs.length := by
    have : ∀ {l : List DictEntry} {m : List (Key × Value)}, PySem.Pairs (mixKind X.prog X.w) l m → l.length = m.length := fun {l m} h => by
      induction h with
      | nil => rfl
      | cons _ _ _ ih => exact congrArg Nat.succ ih
    exact this pr
  have lvs : vs.length ≤ 1000 := by
    have := kv.length
    rw [List.length_map, List.length_zip] at this
    omega
  have I1 : ∀ n (l : List DictEntry), Inv X pins σ H { s with heap := s.heap.push (PySem.W.dictOf l n) } := fun n l => I.kept (t' := s.toks) fun b o e => Heap.get?_push_of_some _ e
  show wpAny _ _ (callWith pos (.ref C) [] [] [(none, do let v ← eval (.Name y q) X.env; standAt pos; pure v)]) _ _ s
  unfold callWith
  refine wpAny_bind (wpAny_holding (kd_args (es := es.toList) ho hx' (by rw [Array.toArray_toList]; exact hda) (by rw [Array.toArray_toList]; exact hko) (pairs_nd pr nd) str na (by omega) (fun {Q' E'} q' => ?_) fun n' => ?_))
  · refine wpAny_bind (raw_name hN2 hv2 (I1 0 []) hs2 (fun u2 r2 => ?_) hdb2 hcd2)
    cases (show u2 = Value.ref d from r2)
    exact wpAny_bind (wpAny_standAt (wpAny_pure q'))
  refine wpAny_bind (wpAny_standAt ?_)
  rw [e1]
  have J := I1 n' es.toList
  obtain ⟨kk, hkk, L⟩ := PySem.W.looks_keep (M := model X.prog X.w) M.kp J.kIn
  refine wpAny_bind (L.here ?_)
  have go := run_makeKd (C := C) (f := f) M (F ks hok) hr hx J rz l2 h
  have tail : ∀ {t : Sem Value}, wpAny (model X.prog X.w) X.A t (L2.EP X pins σ Q) X.xe { s with heap := s.heap.push (PySem.W.dictOf es.toList n') } → wpAny (model X.prog X.w) X.A (t >>= fun r => holding [r] point >>= fun _ => pure r) (L2.EP X pins σ Q) X.xe { s with heap := s.heap.push (PySem.W.dictOf es.toList n') } :=
    fun ht => wpAny_bind (wpAny_mono ht (fun r s₂ hr => wpAny_bind (wpAny_holding (wpAny_point (wpAny_pure hr)))) fun _ _ z => z)
  rcases hkk with rfl | rfl
  · exact tail (by unfold callMarked; exact Calls.wpAny_keep go)
  · exact tail (wpAny_operate' go)
/-! ### def f(self, **letters) with any keywords -/
theorem forIn_pure {α β : Type} {f : α → β → Sem (ForInStep β)} {g : α → β → β} : ∀ (l : List α) (b : β), (∀ x ∈ l, ∀ b, f x b = pure (.yield (g x b))) → (forIn l b f : Sem β) = pure (l.foldl (fun b x => g x b) b)
  | [], b, _ => by rw [List.forIn_nil]; rfl
  | x :: l, b, h => by
    rw [List.forIn_cons, h x List.mem_cons_self]
    show (forIn l (g x b) f : Sem β) = _
    rw [forIn_pure l (g x b) fun y hy => h y (List.mem_cons_of_mem _ hy)]
    rfl
theorem kw_any {kV dc pm cd ct : Value} {an : Option Addr} {ks : List Str} (hs : ∀ k ∈ ks, k ≠ ("self" : Str)) (nd : ks.Nodup) (few : ks.length ≤ 1000) : KwBind (PySem.W.fnOf "__init__" "Renaming.__init__" (defArgs s_Renaming___init__) (defBody s_Renaming___init__) (defScope s_Renaming___init__) .none kV dc pm an cd ct) ["self"] "letters" ks := by
  refine ⟨fun us ws h1 h2 => ?_, nd⟩
  match us, h1 with
  | [u], _ =>
    unfold bindArgs
    have mem : ∀ x ∈ ks.zip ws, x.1 ≠ ("self" : Str) := fun x hx => hs x.1 (List.of_mem_zip hx).1
    have fold : ∀ (l : List (Str × Value)) (a b : List (Str × Value)), l.foldl (fun (s : List (Str × Value) × List (Str × Value)) x => (s.1, s.2 ++ [x])) (a, b) = (a, b ++ l) := fun l => by
      induction l with
      | nil => intro a b; rw [List.append_nil]; rfl
      | cons x l ih => intro a b; rw [List.foldl_cons, ih, List.append_assoc]; rfl
    refine (congrArg (fun (m : Sem (List (Str × Value) × List (Str × Value))) => m >>= _) (forIn_pure (g := fun x (s : List (Str × Value) × List (Str × Value)) => (s.1, s.2 ++ [x])) (ks.zip ws) ([("self", u)], []) fun x hx b => ?_)).trans ?_
    · have hk := mem x hx
      have e : (([("self" : Str)] : List Str).contains x.1 || ([] : List Str).contains x.1) = false := by
        have : (x.1 == ("self" : Str)) = false := beq_eq_false_iff_ne.mpr hk
        show ((x.1 == ("self" : Str)) || false || false) = false
        rw [this]; rfl
      show (if (([("self" : Str)] : List Str).contains x.1 || ([] : List Str).contains x.1) = true then _ else _) = _
      rw [e, if_neg Bool.false_ne_true]
      rfl
    · rw [fold]
      have hlen : ¬ (([] : List (Str × Value)) ++ ks.zip ws).length > sizeLine + 1 := by
        rw [List.nil_append, List.length_zip]
        have : sizeLine = 16777216 := rfl
        omega
      rw [List.nil_append] at hlen ⊢
      generalize ks.zip ws = l at hlen ⊢
      let X : Sem (List (Str × Value)) := (alloc ({ cls := .type "dict", data := .dict #[] } : Obj) : Sem Addr) >>= fun d => (forIn l PUnit.unit fun x _ => (nsSet d x.1 x.2 >>= fun _ => pure (ForInStep.yield PUnit.unit))) >>= fun _ => pure (([("self" : Str)] : List Str).zip [u] ++ [(("letters" : Str), Value.ref d)])
      refine Eq.trans (b := if l.length > sizeLine + 1 then ((unsupported "dict:memory" : Sem Unit) >>= fun _ => X) else X) ?_ (if_neg hlen)
      rfl
/-! ### renamings: their mathematics -/
abbrev Ld := List (Nat × Nat)
def lowc (c : Nat) : Prop := 97 ≤ c ∧ c ≤ 122
def tgt (L : Ld) (c : Nat) : Nat := ((L.find? fun p => p.1 == c).map (·.2)).getD c
structure LdOk (L : Ld) : Prop where
  nd : (L.map (·.1)).Nodup
  low : ∀ p ∈ L, lowc p.1 ∧ lowc p.2
theorem tgt_cons (a b : Nat) (L : Ld) (c : Nat) : tgt ((a, b) :: L) c = if a = c then b else tgt L c := by
  unfold tgt
  rw [List.find?_cons]
  by_cases h : a = c
  · subst h
    rw [if_pos rfl, beq_self_eq_true]; rfl
  · rw [if_neg h, show ((a, b).1 == c) = false from beq_eq_false_iff_ne.mpr h]
theorem tgt_mem : ∀ {L : Ld}, (L.map (·.1)).Nodup → ∀ {a b : Nat}, (a, b) ∈ L → tgt L a = b
  | [], _, _, _, h => nomatch h
  | (x, y) :: L, nd, a, b, h => by
    obtain ⟨n1, n2⟩ := List.nodup_cons.mp nd
    rw [tgt_cons]
    rcases List.mem_cons.mp h with e | h
    · cases e; rw [if_pos rfl]
    · rw [if_neg (fun z => n1 (show x ∈ L.map (·.1) by rw [show x = a from z]; exact List.mem_map.mpr ⟨(a, b), h, rfl⟩))]
      exact tgt_mem n2 h
theorem tgt_out : ∀ {L : Ld} {c : Nat}, ¬ c ∈ L.map (·.1) → tgt L c = c
  | [], _, _ => rfl
  | (x, y) :: L, c, h => by
    rw [tgt_cons, if_neg (fun z => h (by rw [← z]; exact List.mem_cons_self))]
    exact tgt_out fun z => h (List.mem_cons_of_mem _ z)
theorem tgt_low {L : Ld} (ok : LdOk L) {c : Nat} (h : lowc c) : lowc (tgt L c) := by
  by_cases m : c ∈ L.map (·.1)
  · obtain ⟨⟨a, b⟩, hp, e⟩ := List.mem_map.mp m
    have e : a = c := e
    subst e
    rw [tgt_mem ok.nd hp]
    exact (ok.low _ hp).2
  · rw [tgt_out m]; exact h
theorem low26 {l : List Nat} (nd : l.Nodup) (h : ∀ c ∈ l, lowc c) : l.length ≤ 26 := by
  have : ∀ (l m : List Nat), l.Nodup → (∀ x ∈ l, x ∈ m) → l.length ≤ m.length := by
    intro l
    induction l with
    | nil => exact fun m _ _ => Nat.zero_le _
    | cons a l ih =>
      intro m nd hs
      obtain ⟨n1, n2⟩ := List.nodup_cons.mp nd
      have ha := hs a List.mem_cons_self
      have := ih (m.erase a) n2 fun x hx => (List.mem_erase_of_ne (fun z => n1 (by rw [← z]; exact hx))).mpr (hs x (List.mem_cons_of_mem _ hx))
      rw [List.length_erase_of_mem ha] at this
      have := List.length_pos_of_mem ha
      rw [List.length_cons]
      omega
  have := this l ((List.range 26).map (· + 97)) nd fun x hx => by
    obtain ⟨h1, h2⟩ := h x hx
    exact List.mem_map.mpr ⟨x - 97, List.mem_range.mpr (by omega), by omega⟩
  rw [List.length_map, List.length_range] at this
  exact this
theorem LdOk.len {L : Ld} (ok : LdOk L) : L.length ≤ 26 := by
  have := low26 ok.nd fun c hc => by
    obtain ⟨p, hp, rfl⟩ := List.mem_map.mp hc
    exact (ok.low p hp).1
  rw [List.length_map] at this
  exact this
theorem LdOk.filt {L : Ld} (ok : LdOk L) (q : Nat × Nat → Bool) : LdOk (L.filter q) :=
  ⟨(List.Sublist.map _ (List.filter_sublist (p := q) (l := L))).nodup ok.nd, fun p hp => ok.low p (List.mem_filter.mp hp).1⟩
theorem LdOk.perm {L M : Ld} (ok : LdOk L) (pm : M.Perm L) : LdOk M := ⟨(pm.map _).nodup_iff.mpr ok.nd, fun p hp => ok.low p (pm.mem_iff.mp hp)⟩
def movers (L : Ld) : Ld := L.filter fun p => p.1 != p.2
theorem tgt_same {L M : Ld} (ok : LdOk L) (pm : M.Perm (movers L)) (c : Nat) : tgt M c = tgt L c := by
  have okM : LdOk M := (ok.filt _).perm pm
  by_cases m : c ∈ L.map (·.1)
  · obtain ⟨⟨a, b⟩, hp, e⟩ := List.mem_map.mp m
    have e : a = c := e
    subst e
    rw [tgt_mem ok.nd hp]
    by_cases z : a = b
    · subst z
      refine tgt_out fun y => ?_
      obtain ⟨⟨a', b'⟩, hq, e'⟩ := List.mem_map.mp y
      have e' : a' = a := e'
      subst e'
      obtain ⟨q1, q2⟩ := List.mem_filter.mp (pm.mem_iff.mp hq)
      have := (tgt_mem ok.nd q1).symm.trans (tgt_mem ok.nd hp)
      subst this
      simp at q2
    · exact tgt_mem okM.nd (pm.mem_iff.mpr (List.mem_filter.mpr ⟨hp, by simpa using z⟩))
  · rw [tgt_out m]
    refine tgt_out fun y => m ?_
    obtain ⟨p, hq, e'⟩ := List.mem_map.mp y
    exact List.mem_map.mpr ⟨p, (List.mem_filter.mp (pm.mem_iff.mp hq)).1, e'⟩
/-! the way of a letter -/
def grow (f : Nat → Nat) : Nat → List Nat → List Nat
  | 0, w => w
  | n + 1, w => if f (w.getLastD 0) ∈ w then w else grow f n (w ++ [f (w.getLastD 0)])
def wayOf (f : Nat → Nat) (c : Nat) : List Nat := grow f 26 [c]
theorem grow_stop {f : Nat → Nat} {w : List Nat} (h : f (w.getLastD 0) ∈ w) : ∀ n, grow f n w = w
  | 0 => rfl
  | n + 1 => if_pos h
theorem grow_step {f : Nat → Nat} {w : List Nat} (h : ¬ f (w.getLastD 0) ∈ w) (n : Nat) : grow f (n + 1) w = grow f n (w ++ [f (w.getLastD 0)]) := if_neg h
structure Way (f : Nat → Nat) (w : List Nat) : Prop where
  nd : w.Nodup
  low : ∀ c ∈ w, lowc c
  ne : w ≠ []
theorem Way.last {f : Nat → Nat} {w : List Nat} (h : Way f w) : w.getLastD 0 ∈ w := by
  cases w with
  | nil => exact absurd rfl h.ne
  | cons a l =>
    rw [List.getLastD_cons]
    cases l with
    | nil => exact List.mem_cons_self
    | cons b l => rw [List.getLastD_cons]; exact List.mem_cons_of_mem _ (by
        have : ∀ (l : List Nat) (b : Nat), l.getLastD b ∈ b :: l := by
          intro l
          induction l with
          | nil => exact fun b => List.mem_cons_self
          | cons x l ih => intro b; rw [List.getLastD_cons]; exact List.mem_cons_of_mem _ (ih x)
        exact this l b)
theorem Way.more {f : Nat → Nat} (lf : ∀ c, lowc c → lowc (f c)) {w : List Nat} (h : Way f w) (n : ¬ f (w.getLastD 0) ∈ w) : Way f (w ++ [f (w.getLastD 0)]) :=
  ⟨List.nodup_append.mpr ⟨h.nd, List.nodup_cons.mpr ⟨by simp, List.nodup_nil⟩, fun a ha b hb => by rw [List.mem_singleton.mp hb]; rintro rfl; exact n ha⟩,
   fun c hc => by
    rcases List.mem_append.mp hc with hc | hc
    · exact h.low c hc
    · rw [List.mem_singleton.mp hc]; exact lf _ (h.low _ h.last),
   by simp⟩
theorem Way.one {f : Nat → Nat} {c : Nat} (h : lowc c) : Way f [c] := ⟨List.nodup_cons.mpr ⟨by simp, List.nodup_nil⟩, fun x hx => by rw [List.mem_singleton.mp hx]; exact h, by simp⟩
theorem Way.le {f : Nat → Nat} {w : List Nat} (h : Way f w) : w.length ≤ 26 := low26 h.nd h.low
theorem grow_way {f : Nat → Nat} (lf : ∀ c, lowc c → lowc (f c)) : ∀ (n : Nat) (w : List Nat), Way f w → 27 ≤ n + w.length → Way f (grow f n w) ∧ f ((grow f n w).getLastD 0) ∈ grow f n w
  | 0, w, h, l => by have := h.le; omega
  | n + 1, w, h, l => by
    by_cases m : f (w.getLastD 0) ∈ w
    · rw [grow_stop m]; exact ⟨h, m⟩
    · rw [grow_step m]
      exact grow_way lf n _ (h.more lf m) (by rw [List.length_append]; show 27 ≤ n + (w.length + 1); omega)
theorem way_ok {f : Nat → Nat} (lf : ∀ c, lowc c → lowc (f c)) {c : Nat} (h : lowc c) : Way f (wayOf f c) ∧ f ((wayOf f c).getLastD 0) ∈ wayOf f c := grow_way lf 26 [c] (.one h) (Nat.le_refl _)
/-- where the way comes back to -/
def backOf (f : Nat → Nat) (c : Nat) : Nat := (wayOf f c).idxOf (f ((wayOf f c).getLastD 0))
def ledOf (f : Nat → Nat) (c t : Nat) : Nat := if t < backOf f c then (wayOf f c).getD t 0 else (wayOf f c).getD (backOf f c + (t - backOf f c) % ((wayOf f c).length - backOf f c)) 0
theorem back_lt {f : Nat → Nat} (lf : ∀ c, lowc c → lowc (f c)) {c : Nat} (h : lowc c) : backOf f c < (wayOf f c).length := List.idxOf_lt_length_of_mem (way_ok lf h).2
theorem led_at {f : Nat → Nat} (lf : ∀ c, lowc c → lowc (f c)) {c : Nat} (h : lowc c) (t : Nat) : backOf f c + (t - backOf f c) % ((wayOf f c).length - backOf f c) < (wayOf f c).length := by
  have := back_lt lf h
  have := Nat.mod_lt (t - backOf f c) (show 0 < (wayOf f c).length - backOf f c by omega)
  omega
theorem led_short {f : Nat → Nat} {c t : Nat} (h : t < (wayOf f c).length) : ledOf f c t = (wayOf f c).getD t 0 := by
  unfold ledOf
  by_cases g : t < backOf f c
  · rw [if_pos g]
  · rw [if_neg g, Nat.mod_eq_of_lt (by omega)]
    congr 1
    omega
theorem led_long {f : Nat → Nat} {c t : Nat} (b : backOf f c < (wayOf f c).length) (h : ¬ t < (wayOf f c).length) : ledOf f c t = (wayOf f c).getD (backOf f c + (t - backOf f c) % ((wayOf f c).length - backOf f c)) 0 := by
  unfold ledOf
  rw [if_neg (by omega)]
theorem getD_mem {l : List Nat} {i : Nat} (h : i < l.length) : l.getD i 0 ∈ l := by
  rw [List.getD_eq_getElem?_getD, List.getElem?_eq_getElem h]
  exact List.getElem_mem h
theorem led_low {f : Nat → Nat} (lf : ∀ c, lowc c → lowc (f c)) {c : Nat} (h : lowc c) (t : Nat) : lowc (ledOf f c t) := by
  unfold ledOf
  by_cases g : t < backOf f c
  · rw [if_pos g]
    exact (way_ok lf h).1.low _ (getD_mem (by have := back_lt lf h; omega))
  · rw [if_neg g]
    exact (way_ok lf h).1.low _ (getD_mem (led_at lf h t))
def B.mapL (g : Nat → Nat) : B → B
  | .nil => .nil
  | .node l x r => .node (l.mapL g) (g x) (r.mapL g)
theorem B.mapL_size (g : Nat → Nat) : ∀ t : B, (t.mapL g).size = t.size
  | .nil => rfl
  | .node l x r => by
    have h1 := mapL_size g l
    have h2 := mapL_size g r
    simp only [B.mapL, B.size] at *
    rw [h1, h2]
/-! ### is_letter, a renaming in the heap, self[letter] -/
def spOne : Sp := fun vs H Q _ => ∃ c : Nat, vs = [vc c] ∧ Q (.bl (decide (97 ≤ c) && decide (c ≤ 122))) H
structure MDf (P : Program) (w : World) (K : PySem.W.Frag) (mg : Str → Option Value) (base : Heap) (C : Addr) (k : Nat) (m : Str) (ps : List Str) (sp : Sp) where
  f : Addr
  fd : FuncData
  ok : FnOk P w K mg base CX0 k f fd ps sp
  b : Binds K fd ps []
  at_ : Meth K C m f
/-- the class: where its own subscript stands -/
structure RenC (K : PySem.W.Frag) (mg : Str → Option Value) (C gG : Addr) : Prop where
  cl : Cls K C
  nL : NoAttr K C "leads"
  gi : PySem.W.findIn K (.ref C) "__getitem__" = some (some (.ref gG))
  gf : PySem.W.fnIn K gG = true
  gn : PySem.W.isFn K (.ref gG) = true
def renF (d : Addr) : List (Str × V) := [("leads", .ref d)]
theorem ren_look (d : Addr) : (renF d).lookup ("leads" : Str) = some (.ref d) := rfl
def ldK (M : Ld) : List (Key × V) := M.map fun p => (.inr (ch p.1), vc p.2)
/-- a renaming that holds these letters -/
def Rn (C : Addr) (H : Hp) (a : Addr) (M : Ld) : Prop := ∃ dx d, H a = some (.ins C dx (renF d)) ∧ H d = some (.dK (ldK M))
theorem Rn.same {C : Addr} {H H' : Hp} {a : Addr} {M : Ld} (r : Rn C H a M) (s : Same H H') : Rn C H' a M := by
  obtain ⟨dx, d, h1, h2⟩ := r
  exact ⟨dx, d, s _ _ h1, s _ _ h2⟩
theorem val_ld : ∀ (M : Ld) (c : Nat), (valV (ldK M) (.inr (ch c))).getD (vc c) = vc (tgt M c)
  | [], _ => rfl
  | (a, b) :: M, c => by
    show (valV ((.inr (ch a), vc b) :: ldK M) (.inr (ch c))).getD (vc c) = _
    rw [tgt_cons]
    by_cases h : a = c
    · subst h
      rw [valV_pos rfl, if_pos rfl]
      rfl
    · rw [valV_neg (fun z => h (ch_inj (by injection z))), if_neg h]
      exact val_ld M c
section
variable {P : Program} {w : World} {K : PySem.W.Frag} {mg : Str → Option Value} {base : Heap} {f : Addr} {fd : FuncData}
theorem ok_one {k : Nat} (F : Fun K "is_letter" "is_letter" s_is_letter f fd) (M : Mgs mg) : FnOk P w K mg base CX0 (k + 1) f fd ["value"] spOne := by
  refine F.ok sc_is_letter (fun vs H Q E h => ?_) (fun cdv A outer s H vs Q E hr h => ?_)
  · obtain ⟨c, rfl, _⟩ := h
    rfl
  obtain ⟨c, rfl, q⟩ := h
  refine ⟨_, (pss_one (ps_ret (pe_and (pe_callB call_isi rfl M.isinstance (by decide +kernel) (pa_cons (pv 0) (pa_cons (pe_bltn (v := .ty "str") rfl M.str (by decide +kernel) rfl) pa_nil))) (pe_and (pe_cmpR op_eq (pe_callB call_len_str rfl M.len PySem.boot_len (pa_cons (pv 0) pa_nil)) pe_int (nomark _)) (pe_one (pe_chain op_le_str op_le_str pe_str (pv 0) pe_str)))))), ?_⟩
  refine ⟨_, rfl, _, _, _, _, true, rfl, .ty _, .base (.str (tx [c])), kit_ty (by decide +kernel), _, rfl, iteT ?_⟩
  refine ⟨_, rfl, tx [c], rfl, small (by show 1 ≤ 1000; decide), rfl, _, rfl, ?_⟩
  rw [show decide (V.int ((tx [c]).length : Nat) = V.int 1) = true from rfl]
  refine iteT ⟨_, rfl, _, _, rfl, rfl, _, rfl, ?_⟩
  have e1 : (!decide ((ch c).cps.toList < (Str.ofString "a").cps.toList)) = decide (97 ≤ c) := by
    rw [show (Str.ofString "a").cps.toList = [97] by decide +kernel, show (ch c).cps.toList = [c] from rfl]
    by_cases h : c < 97
    · rw [decide_eq_true (by simp [List.cons_lt_cons_iff, h]), decide_eq_false (by omega)]; rfl
    · rw [decide_eq_false (by simp [List.cons_lt_cons_iff, h]), decide_eq_true (by omega)]; rfl
  have e2 : (!decide ((Str.ofString "z").cps.toList < (ch c).cps.toList)) = decide (c ≤ 122) := by
    rw [show (Str.ofString "z").cps.toList = [122] by decide +kernel, show (ch c).cps.toList = [c] from rfl]
    by_cases h : 122 < c
    · rw [decide_eq_true (by simp [List.cons_lt_cons_iff, h]), decide_eq_false (by omega)]; rfl
    · rw [decide_eq_false (by simp [List.cons_lt_cons_iff, h]), decide_eq_true (by omega)]; rfl
  rw [e1]
  by_cases h : 97 ≤ c
  · rw [decide_eq_true h] at q ⊢
    refine iteT ⟨_, _, rfl, rfl, ?_⟩
    rw [e2]
    exact q
  · rw [decide_eq_false h] at q ⊢
    exact iteF q
theorem low_dec {c : Nat} (h : lowc c) : (decide (97 ≤ c) && decide (c ≤ 122)) = true := by rw [decide_eq_true h.1, decide_eq_true h.2]; rfl
end
/-! own subscript -/
def rIxOwn (C : Addr) (sp : Sp) : R2 := fun x y H Q => ∃ a dx fs, x = .ref a ∧ H a = some (.ins C dx fs) ∧ sp [.ref a, y] H Q E0
theorem pe_ixOwn {X : Cx} {a b : Expr} {ta tb : TE} {pos : Pos} {C g : Addr} {n : Nat} {sp : Sp} (hs : PySem.W.findIn X.K (.ref C) "__getitem__" = some (some (.ref g))) (hf : PySem.W.fnIn X.K g = true) (hfn : PySem.W.isFn X.K (.ref g) = true) (F : FnR X.prog X.w X.K X.mg X.base CX0 n g sp) (hr : Room (n + 1) X.A)
    (ha : PE X a ta) (hb : PE X b tb) (hsl : ∀ o i, subscripted b true o i = runValue (.builtin "lifetime.subscript" ⟨[o, i], []⟩)) : PE X (.Subscript a b pos) (tOp (rIxOwn C sp) ta tb) := by
  refine ⟨fun pins s σ H Q I h => ?_⟩
  refine Subscript_ (binT ha hb I h fun v u s2 x y H2 I2 rx ry q => ?_)
  obtain ⟨o, dx, fs, rfl, eo, q⟩ := q
  cases (show v = Value.ref o from rx)
  obtain ⟨mA, O, _, _, _, _⟩ := ins_get I2.hok eo
  obtain ⟨od, J, _⟩ := O.look
  obtain ⟨m, hF⟩ := I2.fr
  refine PySem.W.sub_K hF I2.ok.mod.kin J hs hf hfn (wpAny_mono (wpAny_call (SlX.run_at (us := [.ref o, u]) (ws := [.ref o, y]) F hr.in1 I2.env0.in1 pass0 I2 (.cons rfl (.cons ry .nil)) q)) (fun v s' z => ?_) fun _ _ x => x) (hsl _ _)
  exact z
/-- self[letter] -/
def spGet (C : Addr) : Sp := fun vs H Q _ => ∃ a M c, vs = [.ref a, vc c] ∧ Rn C H a M ∧ lowc c ∧ Q (vc (tgt M c)) H
section
variable {P : Program} {w : World} {K : PySem.W.Frag} {mg : Str → Option Value} {base : Heap} {f : Addr} {fd : FuncData} {C gG : Addr}
theorem ok_get (F : Fun K "__getitem__" "Renaming.__getitem__" s_Renaming___getitem__ f fd) (TD : RenC K mg C gG) (Dis_letter : Df P w K mg base 1 "is_letter" ["value"] spOne) : FnOk P w K mg base CX0 2 f fd ["self", "at"] (spGet C) := by
  refine F.ok sc_Renaming___getitem__ (fun vs H Q E h => ?_) (fun cdv A outer s H vs Q E hr h => ?_)
  · obtain ⟨a, M, c, rfl, _⟩ := h
    rfl
  obtain ⟨a, M, c, rfl, ⟨dx, d, ea, ed⟩, hc, q⟩ := h
  refine ⟨_, (pss_cons (ps_if (pt_not (pt_val (pe_call Dis_letter.ok (hr.mono (by omega)) rfl Dis_letter.g Dis_letter.kp Dis_letter.b .nil pass0 (pa_cons (pv 1) pa_nil))))
      (pss_one ps_never) pss_nil)
    (pss_one (ps_ret (pe_dget2 (Nat.lt_of_le_of_lt (Nat.add_le_add_left (by decide) _) hr.units) (pe_fld (pv 0) rfl) (pv 1) (pv 1) ⟨rfl, rfl, rfl, rfl⟩)))), ?_⟩
  refine ⟨_, rfl, c, rfl, ?_⟩
  rw [low_dec hc]
  refine ⟨_, rfl, iteF ?_⟩
  refine ⟨_, rfl, a, C, dx, _, _, rfl, ea, TD.cl, TD.nL, ren_look d, d, rfl, ?_, _, rfl, _, rfl, _, DGet.k (k := .inr (ch c)) ed, ?_⟩
  · exact .inl ⟨_, .inl ed⟩
  · rw [val_ld]
    exact q
end
/-! ### the letter to which a letter leads in so many steps -/
theorem eqV_vc (a b : Nat) : eqV (vc a) (vc b) = decide (a = b) := by
  show decide (ch a = ch b) = decide (a = b)
  by_cases h : a = b
  · rw [h]; simp
  · rw [decide_eq_false h, decide_eq_false (fun z => h (ch_inj z))]
theorem in_vc (x : Nat) : ∀ l : List Nat, inV (vc x) (l.map vc) = decide (x ∈ l)
  | [] => by simp [inV]
  | a :: l => by
    have e := in_vc x l
    unfold inV at e ⊢
    rw [List.map_cons, List.any_cons, e, eqV_vc]
    by_cases h : a = x
    · subst h; simp
    · by_cases g : x ∈ l
      · simp [g]
      · rw [decide_eq_false h, decide_eq_false g, decide_eq_false (fun z => (List.mem_cons.mp z).elim (fun e => h e.symm) g)]; rfl
theorem flat_vc (l : List Nat) : (l.map vc).all flatV = true := List.all_eq_true.mpr fun v h => by
  obtain ⟨c, _, rfl⟩ := List.mem_map.mp h
  rfl
theorem at_neg {w : List Nat} (h : w ≠ []) : atI (w.map vc) (-1) = some (vc (w.getLastD 0)) := by
  obtain ⟨l, x, rfl⟩ : ∃ l x, w = l ++ [x] := ⟨w.dropLast, w.getLast h, (List.dropLast_concat_getLast h).symm⟩
  rw [List.map_append, show ([x].map vc) = [vc x] from rfl, atI_last, List.getLastD_concat]
theorem at_vc {w : List Nat} {i : Nat} (h : i < w.length) : atI (w.map vc) (i : Int) = some (vc (w.getD i 0)) := by
  refine atI_nat ?_
  rw [List.getElem?_map, List.getD_eq_getElem?_getD, List.getElem?_eq_getElem h]
  rfl
theorem idx_vc {l : List Nat} {x : Nat} (h : x ∈ l) : (l.map vc)[l.idxOf x]? = some (vc x) ∧ ∀ (m : Nat) (z : V), m < l.idxOf x → (l.map vc)[m]? = some z → eqV z (vc x) = false := by
  have hl := List.idxOf_lt_length_of_mem h
  refine ⟨?_, fun m z hm hz => ?_⟩
  · rw [List.getElem?_map, List.getElem?_eq_getElem hl, List.getElem_idxOf hl]
    rfl
  · have ml : m < l.length := by omega
    rw [List.getElem?_map, List.getElem?_eq_getElem ml] at hz
    cases hz
    rw [eqV_vc, decide_eq_false]
    intro e
    have := List.not_of_lt_findIdx (xs := l) (p := fun y => y == x) (i := m) (by unfold List.idxOf at hm; exact hm)
    rw [e] at this
    simp at this
def spAfter (C : Addr) : Sp := fun vs H Q _ => ∃ (a : Addr) (M : Ld) (c t : Nat), vs = [.ref a, vc c, .int (t : Int)] ∧ Rn C H a M ∧ LdOk M ∧ lowc c ∧ ∀ H', Same H H' → Q (vc (ledOf (tgt M) c t)) H'
def B.lows : B → Prop
  | .nil => True
  | .node l x r => l.lows ∧ lowc x ∧ r.lows
def spRen (C : Addr) : Sp := fun vs H Q _ => ∃ (a : Addr) (M : Ld) (v : V) (t : B) (n : Nat), vs = [.ref a, v, .int (n : Int)] ∧ Rn C H a M ∧ LdOk M ∧ BAt H v t ∧ t.lows ∧ ∀ v' H', Same H H' → BAt H' v' (t.mapL fun c => ledOf (tgt M) c n) → Q v' H'
section
variable {P : Program} {w : World} {K : PySem.W.Frag} {mg : Str → Option Value} {base : Heap} {f : Addr} {fd : FuncData} {C gG : Addr}
theorem ok_after (F : Fun K "letter_after" "Renaming.letter_after" s_Renaming_letter_after f fd) (M : Mgs mg) (TD : RenC K mg C gG) (Dget : FnR P w K mg base CX0 2 gG (spGet C)) : FnOk P w K mg base CX0 4 f fd ["self", "letter", "times"] (spAfter C) := by
  refine F.ok sc_Renaming_letter_after (fun vs H Q E h => ?_) (fun cdv A outer s H vs Q E hr h => ?_)
  · obtain ⟨a, M, c, t, rfl, _⟩ := h
    rfl
  obtain ⟨a, L, c, t, rfl, ra, ok, hc, q⟩ := h
  have lf : ∀ c, lowc c → lowc (tgt L c) := fun c => tgt_low ok
  refine ⟨_, (pss_cons (ps_set (i := 3) sc_Renaming_letter_after.nd rfl (.inl rfl) (pe_lst (pa_cons (pv 1) pa_nil)))
    (pss_cons (ps_while PassesOwn.never (pt_cmpR op_notIn_seq (pe_ixOwn TD.gi TD.gf TD.gn Dget (hr.mono (by omega)) (pv 0) (pe_ix ix_list (pv 3) (pe_un un_neg pe_int) (fun _ _ => rfl)) (fun _ _ => rfl)) (pv 3) (by rfl))
      (pss_one (ps_expr (pe_bm PySem.F.plainAttrs_list PySem.F.slot_list_append PySem.F.type_list_append mt_append (pv 3) (pa_cons (pe_ixOwn TD.gi TD.gf TD.gn Dget (hr.mono (by omega)) (pv 0) (pe_ix ix_list (pv 3) (pe_un un_neg pe_int) (fun _ _ => rfl)) (fun _ _ => rfl)) pa_nil)))))
    (pss_cons (ps_set (i := 4) sc_Renaming_letter_after.nd rfl (.inl rfl) (pe_bm PySem.F.plainAttrs_list PySem.F.slot_list_index PySem.F.type_list_index mt_index (pv 3) (pa_cons (pe_ixOwn TD.gi TD.gf TD.gn Dget (hr.mono (by omega)) (pv 0) (pe_ix ix_list (pv 3) (pe_un un_neg pe_int) (fun _ _ => rfl)) (fun _ _ => rfl)) pa_nil)))
    (pss_cons (ps_if (pt_cmpR op_lt (pv 2) (pv 4) (nomark _))
      (pss_one (ps_ret (pe_ix ix_list (pv 3) (pv 2) (fun _ _ => rfl)))) pss_nil)
    (pss_one (ps_ret (pe_ix ix_list (pv 3) (pe_op op_add (pv 4) (pe_op op_mod (pe_op op_sub (pv 2) (pv 4)) (pe_op op_sub (pe_callB call_len_seq rfl M.len PySem.boot_len (pa_cons (pv 3) pa_nil)) (pv 4)))) (fun _ _ => rfl)))))))), ?_⟩
  refine ⟨_, rfl, (by show 1 ≤ sizeLine; decide), fun p np => ?_⟩
  have sN := same_new np (.lst [vc c])
  refine ⟨fun m σ' H' => ∃ w : List Nat, σ' = [some (.ref a), some (vc c), some (.int (t : Int)), some (.ref p), none] ∧ Same H H' ∧ H' p = some (.lst (w.map vc)) ∧ Way (tgt L) w ∧ m + w.length = 27 ∧ grow (tgt L) m w = wayOf (tgt L) c, ⟨26, [c], rfl, sN, upd_same, Way.one hc, rfl, rfl⟩, ?_⟩
  rintro m σ1 H1 ⟨w, rfl, s1, e1, W, ml, gw⟩
  have r1 := ra.same s1
  obtain ⟨dx, d, ea, ed⟩ := r1
  have lw := W.low _ W.last
  refine ⟨_, rfl, _, rfl, 1, rfl, p, _, _, _, rfl, rfl, SqL.of e1, at_neg W.ne, a, dx, _, rfl, ea, a, L, _, rfl, ra.same s1, lw, ?_⟩
  refine ⟨_, rfl, p, _, rfl, .inl (SqL.of e1), rfl, flat_vc w, ?_⟩
  rw [in_vc]
  by_cases st : tgt L (w.getLastD 0) ∈ w
  · rw [decide_eq_true st]
    have wl : w = wayOf (tgt L) c := by rw [← gw, grow_stop st]
    have bl : w.idxOf (tgt L (w.getLastD 0)) = backOf (tgt L) c := by unfold backOf; rw [← wl]
    refine ⟨_, rfl, iteF ?_⟩
    have hb := back_lt lf hc
    have lv := led_at lf hc t
    have le := (way_ok lf hc).1.le
    rw [← wl] at hb lv le
    refine ⟨_, rfl, .inl ⟨rfl, _, SqL.of e1⟩, _, rfl, _, rfl, 1, rfl, p, _, _, _, rfl, rfl, SqL.of e1, at_neg W.ne, a, dx, _, rfl, ea, a, L, _, rfl, ra.same s1, lw, p, _, _, _, _, rfl, rfl, SqL.of e1, rfl, flat_vc w, (idx_vc st).1, ?_⟩
    refine ⟨by rw [eqV_vc]; exact decide_eq_true rfl, (idx_vc st).2, ?_⟩
    rw [bl]
    refine ⟨_, rfl, _, rfl, _, _, rfl, rfl, _, rfl, ?_⟩
    by_cases g : t < backOf (tgt L) c
    · have e : decide ((t : Int) < ((backOf (tgt L) c : Nat) : Int)) = true := decide_eq_true (by omega)
      rw [e]
      refine iteT ⟨_, rfl, _, rfl, p, _, _, _, rfl, rfl, SqL.of e1, at_vc (by omega), ?_⟩
      have q' := q _ s1
      unfold ledOf at q'
      rw [if_pos g, ← wl] at q'
      exact q'
    · have e : decide ((t : Int) < ((backOf (tgt L) c : Nat) : Int)) = false := decide_eq_false (by omega)
      rw [e]
      refine iteF ?_
      have q' := q _ s1
      unfold ledOf at q'
      rw [if_neg g, ← wl] at q'
      refine ⟨_, rfl, _, rfl, _, rfl, _, rfl, _, _, rfl, rfl, _, rfl, p, _, rfl, .inl (SqL.of e1), _, rfl, _, _, rfl, rfl, ?_⟩
      rw [List.length_map]
      refine ⟨_, _, rfl, rfl, (by omega), _, _, rfl, rfl, p, _, _, _, rfl, rfl, SqL.of e1, ?_, q'⟩
      rw [show ((backOf (tgt L) c : Nat) : Int) + ((t : Int) - ((backOf (tgt L) c : Nat) : Int)) % ((w.length : Int) - ((backOf (tgt L) c : Nat) : Int)) = ((backOf (tgt L) c + (t - backOf (tgt L) c) % (w.length - backOf (tgt L) c) : Nat) : Int) by
        rw [Int.natCast_add, Int.natCast_emod, Int.natCast_sub (by omega), Int.natCast_sub (by omega)]]
      exact at_vc lv
  · rw [decide_eq_false st]
    refine ⟨_, rfl, iteT ⟨_, fun σ' H' z => z, ?_⟩⟩
    have wle := W.le
    refine ⟨_, rfl, .inl ⟨rfl, _, SqL.of e1⟩, _, rfl, _, rfl, 1, rfl, p, _, _, _, rfl, rfl, SqL.of e1, at_neg W.ne, a, dx, _, rfl, ea, a, L, _, rfl, ra.same s1, lw, p, _, _, rfl, rfl, e1, (by rw [List.length_map]; show w.length < sizeLine; have : sizeLine = 16777216 := rfl; omega), ?_⟩
    have s2 : Same H (upd H1 p (.lst (w.map vc ++ [vc (tgt L (w.getLastD 0))]))) := fun b o e => by
      rw [upd_ne (ne_of_none e np)]
      exact s1 b o e
    refine ⟨m - 1, by omega, w ++ [tgt L (w.getLastD 0)], rfl, s2, by rw [upd_same, List.map_append]; rfl, W.more lf st, by rw [List.length_append]; show m - 1 + (w.length + 1) = 27; omega, ?_⟩
    rw [← gw, show m = (m - 1) + 1 by omega, grow_step st]
    rfl
end
/-! ### a renaming called with a tree -/
theorem okN {P : Program} {w : World} {K : PySem.W.Frag} {mg : Str → Option Value} {base : Heap} {x qual : Str} {params : Arguments} {body : List Stmt} {scope : Scope} {dvs : List V} {kws : List (Str × V)} {f : Addr} {fd : FuncData} {N ps : List Str} {k : Nat} {sp : Sp} (F : FunD K x qual params body scope dvs kws f fd) (S : FnScope N ps scope) (len : ∀ vs H Q E, sp vs H Q E → vs.length = ps.length)
    (hbody : ∀ (cdv : Value) (A : Around) (outer : List Env) (s : Shared) (H : Hp) (vs : List V) (Q : VK) (E : XK), Room k (A.deeper (envOfC qual scope s.heap.objs.size f cdv)) → sp vs H Q E →
      ∃ t, PSs (cxOf CX0 P w K mg base N qual scope f cdv A outer s H E).nox body t ∧ t { nx := fun _ H' => Q .non H', rt := Q } (start N vs) H) : FnOk P w K mg base CX0 (k + 1) f fd ps sp :=
  F.ok (CX := CX0) S len fun cdv A outer s H vs Q E hr h => by
    obtain ⟨t, h1, h2⟩ := hbody cdv A outer s H vs Q E hr h
    exact ⟨t, h1.nox, h2⟩

def spRenN (C : Addr) (n : Nat) : Sp := fun vs H Q _ => ∃ (a : Addr) (L : Ld) (v : V) (t : B) (m : Nat), vs = [.ref a, v, .int (m : Int)] ∧ Rn C H a L ∧ LdOk L ∧ BAt H v t ∧ t.lows ∧ t.size < n ∧ ∀ v' H', Same H H' → BAt H' v' (t.mapL fun c => ledOf (tgt L) c m) → Q v' H'
section
variable {P : Program} {w : World} {K : PySem.W.Frag} {mg : Str → Option Value} {base : Heap} {f : Addr} {fd : FuncData} {C gG : Addr}
theorem ok_ren (F : Fun K "renamed" "Renaming.renamed" s_Renaming_renamed f fd) (b : Binds K fd ["self", "tree", "times"] []) (at_ : Meth K C "renamed" f) (TD : RenC K mg C gG) (Dla : MDf P w K mg base C 4 "letter_after" ["self", "letter", "times"] (spAfter C)) :
    ∀ n : Nat, FnOk P w K mg base CX0 (n + 5) f fd ["self", "tree", "times"] (spRenN C n)
  | 0 => by
    have no : ∀ vs H Q E, ¬ spRenN C 0 vs H Q E := fun vs H Q E h => by
      obtain ⟨a, L, v, t, m, _, _, _, _, _, h1, _⟩ := h
      omega
    exact ⟨fun vs H Q E h => absurd h (no vs H Q E), fun A outer s H args us vs Q E _ _ _ _ h => absurd h (no vs H Q E)⟩
  | n + 1 => by
    have Dren : MDf P w K mg base C (n + 5) "renamed" ["self", "tree", "times"] (spRenN C n) := ⟨f, fd, ok_ren F b at_ TD Dla n, b, at_⟩
    refine F.ok sc_Renaming_renamed (fun vs H Q E h => ?_) (fun cdv A outer s H vs Q E hr h => ?_)
    · obtain ⟨a, L, v, t, m, rfl, _⟩ := h
      rfl
    obtain ⟨a, L, v, t, m, rfl, ra, ok, hv, lo, hn, q⟩ := h
    refine ⟨_, (pss_cons (ps_if (pt_cmpR op_isN (pv 1) pe_non (nomark _))
      (pss_one (ps_ret pe_non)) pss_nil)
    (pss_cons (ps_asg (pv 1) (pg_tup rfl (pgs_cons (pg_name (i := 3) sc_Renaming_renamed.nd rfl (.inl rfl)) (pgs_cons (pg_name (i := 4) sc_Renaming_renamed.nd rfl (.inl rfl)) (pgs_cons (pg_name (i := 5) sc_Renaming_renamed.nd rfl (.inl rfl)) pgs_nil)))))
    (pss_one (ps_ret (pe_tup (pa_cons (pe_meth (pv 0) TD.cl Dren.at_ Dren.ok (hr.mono (by omega)) Dren.b .nil pass0 (pa_cons (pv 3) (pa_cons (pv 2) pa_nil))) (pa_cons (pe_meth (pv 0) TD.cl Dla.at_ Dla.ok (hr.mono (by omega)) Dla.b .nil pass0 (pa_cons (pv 4) (pa_cons (pv 2) pa_nil))) (pa_cons (pe_meth (pv 0) TD.cl Dren.at_ Dren.ok (hr.mono (by omega)) Dren.b .nil pass0 (pa_cons (pv 5) (pa_cons (pv 2) pa_nil))) pa_nil)))))))), ?_⟩
    rcases hv.inv with ⟨rfl, rfl⟩ | ⟨p, l, r, x, tl, tr, rfl, rfl, ep, hl, hr'⟩
    · exact ⟨_, rfl, rfl, _, rfl, iteT (q .non H (Same.refl H) .nil)⟩
    · have sz : (B.node tl x tr).size = tl.size + 1 + tr.size := rfl
      refine ⟨_, rfl, rfl, _, rfl, iteF ?_⟩
      refine ⟨_, rfl, p, _, rfl, SqT.of ep, rfl, ?_⟩
      obtain ⟨lo1, lo2, lo3⟩ := lo
      obtain ⟨dx, d, ea, ed⟩ := ra
      have ra : Rn C H a L := ⟨dx, d, ea, ed⟩
      refine ⟨_, _, rfl, _, _, rfl, _, _, rfl, rfl, ?_⟩
      refine ⟨_, rfl, a, dx, _, rfl, ea, rfl, _, rfl, _, rfl, a, L, l, tl, m, rfl, ra, ok, hl, lo1, by omega, fun v1 H1 s1 b1 => ?_⟩
      refine ⟨_, rfl, a, dx, _, rfl, s1 _ _ ea, rfl, _, rfl, _, rfl, a, L, x, m, rfl, ra.same s1, ok, lo2, fun H2 s2 => ?_⟩
      refine ⟨_, rfl, a, dx, _, rfl, s2 _ _ (s1 _ _ ea), rfl, _, rfl, _, rfl, a, L, r, tr, m, rfl, (ra.same s1).same s2, ok, (hr'.same (s1.trans s2)), lo3, by omega, fun v3 H3 s3 b3 => ?_⟩
      refine ⟨(by show 3 ≤ sizeLine; decide), fun z nz => ?_⟩
      have k := same_new nz (.tup [v1, vc (ledOf (tgt L) x m), v3])
      exact q _ _ (((s1.trans s2).trans s3).trans k) (.node upd_same (b1.same ((s2.trans s3).trans k)) (b3.same k))
theorem ok_call {n k : Nat} (F : FunD K "__call__" "Renaming.__call__" (defArgs s_Renaming___call__) (defBody s_Renaming___call__) (defScope s_Renaming___call__) [.int 1] [] f fd) (TD : RenC K mg C gG) (Dren : MDf P w K mg base C k "renamed" ["self", "tree", "times"] (spRenN C n)) : FnOk P w K mg base CX0 (k + 1) f fd ["self", "tree", "times"] (spRenN C n) := by
  refine okN F sc_Renaming___call__ (fun vs H Q E h => ?_) (fun cdv A outer s H vs Q E hr h => ?_)
  · obtain ⟨a, L, v, t, m, rfl, _⟩ := h
    rfl
  obtain ⟨a, L, v, t, m, rfl, ⟨dx, d, ea, ed⟩, q⟩ := h
  refine ⟨_, (pss_one (ps_ret (pe_meth (pv 0) TD.cl Dren.at_ Dren.ok (hr.mono (by omega)) Dren.b .nil pass0 (pa_cons (pv 1) (pa_cons (pv 2) pa_nil))))), ?_⟩
  exact ⟨_, rfl, a, dx, _, rfl, ea, rfl, _, rfl, _, rfl, a, L, v, t, m, rfl, ⟨dx, d, ea, ed⟩, q⟩
theorem FnR_or {k : Nat} {sp1 sp2 : Sp} (F1 : FnR P w K mg base CX0 k f sp1) (F2 : FnR P w K mg base CX0 k f sp2) : FnR P w K mg base CX0 k f (fun vs H Q E => sp1 vs H Q E ∨ sp2 vs H Q E) :=
  fun A outer s H us vs Q E hr e0 r h => h.elim (F1 A outer s H us vs Q E hr e0 r) (F2 A outer s H us vs Q E hr e0 r)
/-- a renaming called: with a number of times, or once -/
def spCallR (C : Addr) (n : Nat) : Sp := fun vs H Q E => spRenN C n vs H Q E ∨ spRenN C n (vs ++ [.int 1]) H Q E
end
/-! ### a renaming made -/
theorem lock_back {H H' : Hp} {d : Addr} {u : HO} {od : Obj} (hd : H d = some u) (s : Same (upd H d (.frz od u)) H') : Same H (upd H' d u) := fun b o e => by
  by_cases h : b = d
  · subst h
    rw [hd] at e
    rw [upd_same]; exact e
  · rw [upd_ne h]
    exact s _ _ (by rw [upd_ne h]; exact e)
def But (p : Addr) (H H' : Hp) : Prop := ∀ b o, b ≠ p → H b = some o → H' b = some o
section
variable {J : It} {n : Nat} {G : Hp → Prop} {Y : Nat → Hp → V → Hp → Prop}
theorem dc_it (w : Walk J n G Y) {g : TG} {tt : TT} {tk tv : TE} {vs : List Nat} {σ : L2.St} {H1 : Hp} {D : Addr} {Qd : Hp → Prop} (Pv : Nat → Hp → Prop) (h0 : Pv 0 (upd H1 D (.dK []))) (hG : ∀ i H, i ≤ n → Pv i H → G H)
    (hs : ∀ i x H H', i < n → Pv i H → Y i H x H' → g x (wipe σ vs) H' fun σ2 H2 => wipe σ2 vs = wipe σ vs ∧ tt σ2 H2 fun b H3 =>
      if b = true then tk σ2 H3 fun y H4 => tv σ2 H4 fun z H5 => ∃ kvs k, y = kV k ∧ H5 D = some (.dK kvs) ∧ kvs.length < sizeLine ∧ Pv (i + 1) (upd H5 D (.dK (putK kvs k z))) else Pv (i + 1) H3) (hd : ∀ H, Pv n H → Qd H) :
    ∃ W : Nat → Nat → Hp → Prop, (∃ m, W 0 m (upd H1 D (.dK []))) ∧ ∀ i m H, W i m H →
      (J.stop i H ∧ Qd H) ∨ (J.go i H ∧ ∃ Nx : Hp → Prop, (∀ H', Nx H' → ∃ m', m' < m ∧ W (i + 1) m' H') ∧ ∀ x H', J.yld i H x H' → g x (wipe σ vs) H' fun σ2 H2 => wipe σ2 vs = wipe σ vs ∧ tt σ2 H2 fun b H3 =>
        if b = true then tk σ2 H3 fun y H4 => tv σ2 H4 fun z H5 => ∃ kvs k, y = kV k ∧ H5 D = some (.dK kvs) ∧ kvs.length < sizeLine ∧ Nx (upd H5 D (.dK (putK kvs k z))) else Nx H3) := by
  refine ⟨fun i m H => m + i = n ∧ Pv i H, ⟨n, rfl, h0⟩, fun i m H h => ?_⟩
  obtain ⟨hm, p⟩ := h
  cases m with
  | zero =>
    have e : i = n := by omega
    subst e
    exact .inl ⟨w.stops H (hG i H (Nat.le_refl _) p), hd H p⟩
  | succ m =>
    have lt : i < n := by omega
    have q := hG i H (by omega) p
    exact .inr ⟨w.goes i H lt q, Pv (i + 1), fun H' p' => ⟨m, by omega, by omega, p'⟩, fun x H' y => hs i x H H' lt p (w.yields i H x H' lt q y)⟩
end
theorem val_mem : ∀ {L : Ld}, (L.map (·.1)).Nodup → ∀ {a b : Nat}, (a, b) ∈ L → valV (ldK L) (.inr (ch a)) = some (vc b)
  | [], _, _, _, h => nomatch h
  | (x, y) :: L, nd, a, b, h => by
    obtain ⟨n1, n2⟩ := List.nodup_cons.mp nd
    show valV ((.inr (ch x), vc y) :: ldK L) (.inr (ch a)) = _
    rcases List.mem_cons.mp h with e | h
    · cases e; rw [valV_pos rfl]
    · rw [valV_neg (fun z => n1 (show x ∈ L.map (·.1) by rw [show x = a from ch_inj (by injection z)]; exact List.mem_map.mpr ⟨(a, b), h, rfl⟩))]
      exact val_mem n2 h
theorem val_out : ∀ {L : Ld} {c : Nat}, ¬ c ∈ L.map (·.1) → valV (ldK L) (.inr (ch c)) = none
  | [], _, _ => rfl
  | (x, y) :: L, c, h => by
    show valV ((.inr (ch x), vc y) :: ldK L) (.inr (ch c)) = _
    rw [valV_neg (fun z => h (by rw [← ch_inj (show ch x = ch c by injection z)]; exact List.mem_cons_self))]
    exact val_out fun z => h (List.mem_cons_of_mem _ z)
theorem zip_ld : ∀ L : Ld, ((L.map fun p => ch p.1).zip (L.map fun p => vc p.2)).map (fun x => ((.inr x.1 : Key), x.2)) = ldK L
  | [] => rfl
  | p :: L => by
    show ((.inr (ch p.1) : Key), vc p.2) :: _ = (.inr (ch p.1), vc p.2) :: ldK L
    congr 1
    exact zip_ld L
def unch (x : Str) : Nat := x.cps.toList.headD 0
theorem unch_ch (c : Nat) : unch (ch c) = c := rfl
/-- the letters in order, those that are changed -/
def chg (L : Ld) (cs : List Nat) : Ld := (cs.map fun c => (c, tgt L c)).filter fun p => p.1 != p.2
theorem chg_snoc (L : Ld) (cs : List Nat) (c : Nat) : chg L (cs ++ [c]) = if c = tgt L c then chg L cs else chg L cs ++ [(c, tgt L c)] := by
  unfold chg
  rw [List.map_append, List.filter_append]
  by_cases h : c = tgt L c
  · rw [if_pos h, show [c].map (fun c => (c, tgt L c)) = [(c, tgt L c)] from rfl, List.filter_cons_of_neg (by simpa using h)]
    simp
  · rw [if_neg h, show [c].map (fun c => (c, tgt L c)) = [(c, tgt L c)] from rfl, List.filter_cons_of_pos (by simpa using h)]
    rfl
theorem map_tgt {L : Ld} (nd : (L.map (·.1)).Nodup) : (L.map (·.1)).map (fun c => (c, tgt L c)) = L := by
  rw [List.map_map]
  conv => rhs; rw [← List.map_id L]
  refine List.map_congr_left fun p hp => ?_
  show (p.1, tgt L p.1) = p
  rw [tgt_mem nd (a := p.1) (b := p.2) hp]
theorem chg_perm {L : Ld} (nd : (L.map (·.1)).Nodup) {cs : List Nat} (pm : cs.Perm (L.map (·.1))) : (chg L cs).Perm (movers L) := by
  have := (pm.map fun c => (c, tgt L c)).filter fun p => p.1 != p.2
  rw [map_tgt nd] at this
  exact this
theorem chg_keys {L : Ld} {cs : List Nat} {c : Nat} (h : ¬ c ∈ cs) : ¬ c ∈ (chg L cs).map (·.1) := fun z => by
  obtain ⟨p, hp, e⟩ := List.mem_map.mp z
  obtain ⟨x, hx, e2⟩ := List.mem_map.mp (List.mem_filter.mp hp).1
  subst e2
  exact h (by rw [← show x = c from e]; exact hx)
theorem chg_len (L : Ld) (cs : List Nat) : (chg L cs).length ≤ cs.length := by
  unfold chg
  refine Nat.le_trans (List.length_filter_le _ _) ?_
  rw [List.length_map]
  exact Nat.le_refl _
theorem sc_Renaming___init__ : FnScope ["self", "letters", "letter", "target"] ["self", "letters"] (defScope s_Renaming___init__) := ⟨rfl, rfl, rfl, by decide +kernel, rfl, by decide +kernel, by decide +kernel⟩
def spInitR (C : Addr) (ks : List Str) : List V → List V → Hp → VK → XK → Prop := fun vs zs H Q _ => ∃ (x dx : Addr) (L : Ld), vs = [.ref x] ∧ ks = L.map (fun p => ch p.1) ∧ zs = L.map (fun p => vc p.2) ∧ LdOk L ∧ H x = some (.ins C dx []) ∧
  ∀ H' M, M.Perm (movers L) → But x H H' → Rn C H' x M → Q .non H'
section
variable {P : Program} {w : World} {K : PySem.W.Frag} {mg : Str → Option Value} {base : Heap} {f : Addr} {fd : FuncData} {C gG : Addr}
theorem ok_initR (F : Fun K "__init__" "Renaming.__init__" s_Renaming___init__ f fd) (M : Mgs mg) (TD : RenC K mg C gG) (Dis_letter : Df P w K mg base 1 "is_letter" ["value"] spOne) {ks : List Str} (B : KwBind fd ["self"] "letters" ks) (few : ks.length ≤ 1000) :
    FnKwX CX0 P w K mg base 2 f 1 ks (spInitR C ks) := by
  refine fnKwX (ps := ["self"]) StX.cxUp_none F B few sc_Renaming___init__ fun cdv A outer s H vs zs d Q E hr hd l2 h => ?_
  obtain ⟨H0, nd0, eH, x, dx, L, rfl, rfl, rfl, ok, hx, q⟩ := h
  rw [zip_ld] at hd eH
  have nxd : x ≠ d := ne_of_none hx nd0
  have hxH : H x = some (.ins C dx []) := by rw [eH, upd_ne nxd]; exact hx
  have lK : (ldK L).length = L.length := List.length_map _
  refine ⟨_, (show PSs (cxOf CX0 P w K mg base ["self", "letters", "letter", "target"] "Renaming.__init__" (defScope s_Renaming___init__) f cdv A outer s H E).nox (defBody s_Renaming___init__) _ from (pss_cons (ps_lock (ps_for PassesOwn.never rfl (pi_keys (pv 1)) (pg_name (i := 2) sc_Renaming___init__.nd rfl (.inl rfl))
      (pss_one (ps_if (pt_not (pt_val (pe_call Dis_letter.ok (hr.mono (by omega)) rfl Dis_letter.g Dis_letter.kp Dis_letter.b .nil pass0 (pa_cons (pv 2) pa_nil))))
      (pss_one ps_never) pss_nil))))
    (pss_cons (ps_lock (ps_for PassesOwn.never rfl (pi_values (pv 1)) (pg_name (i := 3) sc_Renaming___init__.nd rfl (.inl rfl))
      (pss_one (ps_if (pt_not (pt_val (pe_call Dis_letter.ok (hr.mono (by omega)) rfl Dis_letter.g Dis_letter.kp Dis_letter.b .nil pass0 (pa_cons (pv 3) pa_nil))))
      (pss_one ps_never) pss_nil))))
    (pss_one (ps_fld (pv 0) (pe_dc (own := [("letter", 2)]) (g := gName 2) rfl sc_Renaming___init__.nd (pi_list (pe_callB (call_sortedD rfl) rfl M.sorted (by decide +kernel) (pa_cons (pv 1) pa_nil))) (blkOk_by (N := ["self", "letters", "letter", "target"]) (sc := defScope s_Renaming___init__) (by decide +kernel)) (fun _ _ _ _ _ => (pg_name (i := 2) sc_Renaming___init__.nd rfl (.inl rfl))) (fun _ _ _ _ _ => pts_one (pt_cmpR op_ne (pe_dget (Nat.lt_of_le_of_lt (Nat.add_le_add_left (by decide) _) hr.units) (pv 1) (pv 2) (fun _ _ => rfl)) (pv 2) (nomark _))) (fun _ _ _ _ _ => (pv 2)) (fun _ _ _ _ _ => (pe_dget (Nat.lt_of_le_of_lt (Nat.add_le_add_left (by decide) _) hr.units) (pv 1) (pv 2) (fun _ _ => rfl)))) rfl))))).nox, ?_⟩
  refine ⟨d, _, hd, trivial, fun od => ?_⟩
  have efz := upd_same (H := H) (a := d) (o := .frz od (.dK (ldK L)))
  have back : ∀ H', Same (upd H d (.frz od (.dK (ldK L)))) H' → Same H (upd H' d (.dK (ldK L))) := fun H' => lock_back hd
  generalize upd H d (.frz od (.dK (ldK L))) = H1 at efz back ⊢
  refine ⟨_, rfl, d, od, rfl, .inl ⟨_, efz, ?_⟩⟩
  refine for_it (walk_keys (d := d) (o := od) (kvs := ldK L)) (fun i σ H' => (∃ o1, σ = [some (.ref x), some (.ref d), o1, none]) ∧ H' = H1) ⟨⟨_, rfl⟩, rfl⟩ (fun i σ H' _ hp => by rw [hp.2]; exact efz) (fun i y σ H' H'' hi hp hy => ?_) (fun σ H' hp => ?_)
  · obtain ⟨⟨o1, rfl⟩, e1⟩ := hp
    obtain ⟨e2, ky, v, hk, rfl⟩ := hy
    subst e2
    unfold ldK at hk
    rw [List.getElem?_map] at hk
    obtain ⟨⟨c, b⟩, hc, he⟩ := Option.map_eq_some_iff.mp hk
    cases he
    refine ⟨_, rfl, c, rfl, ?_⟩
    rw [low_dec (ok.low _ (List.mem_of_getElem? hc)).1]
    refine ⟨_, rfl, iteF ?_⟩
    exact ⟨⟨_, rfl⟩, e1⟩
  obtain ⟨⟨o1, rfl⟩, rfl⟩ := hp
  refine ⟨efz, ?_⟩
  have s1 := back H' (Same.refl _)
  have hd1 : (upd H' d (.dK (ldK L))) d = some (.dK (ldK L)) := upd_same
  clear back efz
  generalize upd H' d (.dK (ldK L)) = H2 at s1 hd1 ⊢
  refine ⟨d, _, hd1, trivial, fun od2 => ?_⟩
  have efz2 := upd_same (H := H2) (a := d) (o := .frz od2 (.dK (ldK L)))
  have back2 : ∀ H', Same (upd H2 d (.frz od2 (.dK (ldK L)))) H' → Same H2 (upd H' d (.dK (ldK L))) := fun H' => lock_back hd1
  generalize upd H2 d (.frz od2 (.dK (ldK L))) = H3 at efz2 back2 ⊢
  refine ⟨_, rfl, d, od2, _, rfl, efz2, ?_⟩
  refine for_it (walk_values (d := d) (o := od2) (kvs := ldK L)) (fun i σ H' => (∃ o2, σ = [some (.ref x), some (.ref d), o1, o2]) ∧ H' = H3) ⟨⟨_, rfl⟩, rfl⟩ (fun i σ H' _ hp => by rw [hp.2]; exact efz2) (fun i y σ H' H'' hi hp hy => ?_) (fun σ H'' hp => ?_)
  · obtain ⟨⟨o2, rfl⟩, e1⟩ := hp
    obtain ⟨e2, ky, hk⟩ := hy
    subst e2
    unfold ldK at hk
    rw [List.getElem?_map] at hk
    obtain ⟨⟨c, b⟩, hc, he⟩ := Option.map_eq_some_iff.mp hk
    cases he
    refine ⟨_, rfl, b, rfl, ?_⟩
    rw [low_dec (ok.low _ (List.mem_of_getElem? hc)).2]
    refine ⟨_, rfl, iteF ?_⟩
    exact ⟨⟨_, rfl⟩, e1⟩
  obtain ⟨⟨o2, rfl⟩, rfl⟩ := hp
  refine ⟨efz2, ?_⟩
  have s2 := s1.trans (back2 H'' (Same.refl _))
  have hd2 : (upd H'' d (.dK (ldK L))) d = some (.dK (ldK L)) := upd_same
  clear back2 efz2
  generalize upd H'' d (.dK (ldK L)) = H4 at s2 hd2 ⊢
  have l26 := ok.len
  refine ⟨_, rfl, d, _, L.map (fun p => ch p.1), rfl, .inl hd2, (by unfold ldK; rw [List.map_map, List.map_map]; rfl), (by rw [List.length_map]; omega), fun ys p pm sd np => ?_⟩
  have ey : (ys.map unch).map ch = ys := by
    rw [List.map_map]
    conv => rhs; rw [← List.map_id ys]
    refine List.map_congr_left fun y hy => ?_
    obtain ⟨q, _, rfl⟩ := List.mem_map.mp (pm.mem_iff.mp hy)
    rfl
  have pc : (ys.map unch).Perm (L.map (·.1)) := by
    have := pm.map unch
    rw [List.map_map] at this
    exact this
  have ev : ys.map V.str = (ys.map unch).map vc := by
    conv => lhs; rw [← ey]
    rw [List.map_map]
    rfl
  rw [ev]
  clear ev ey sd pm
  generalize ys.map unch = cs at pc ⊢
  have ncs : cs.Nodup := pc.nodup_iff.mpr ok.nd
  have lcs : cs.length = L.length := by rw [pc.length_eq, List.length_map]
  refine ⟨p, rfl, ⟨_, SqL.of upd_same⟩, fun D nD => ?_⟩
  have k1 := same_new np (.lst (cs.map vc))
  have npD : p ≠ D := ne_of_none upd_same nD
  have ndD : d ≠ D := ne_of_none (k1 _ _ hd2) nD
  have k2 := same_new nD (.dK [])
  refine dc_it (walk_list (K := K) (a := p) (xs := cs.map vc)) (fun i H' => (∀ b o, b ≠ D → upd H4 p (.lst (cs.map vc)) b = some o → H' b = some o) ∧ H' D = some (.dK (ldK (chg L (cs.take i))))) ⟨fun b o hb e => by rw [upd_ne hb]; exact e, upd_same⟩ (fun i H' _ hp => SqL.of (hp.1 _ _ npD upd_same)) (fun i y H' H'' hi hp hy => ?_) (fun H' hp => ?_)
  · obtain ⟨e1, hy⟩ := hy
    subst e1
    rw [List.getElem?_map] at hy
    obtain ⟨c, hc, rfl⟩ := Option.map_eq_some_iff.mp hy
    have hm : c ∈ L.map (·.1) := pc.mem_iff.mp (List.mem_of_getElem? hc)
    obtain ⟨⟨c', b⟩, hb, ec⟩ := List.mem_map.mp hm
    have ec : c' = c := ec
    subst ec
    have dg : DGet H'' d (.str (ch c')) (some (vc b)) := .inl ⟨_, .inr (ch c'), .inl (hp.1 _ _ ndD (k1 _ _ hd2)), rfl, (val_mem ok.nd hb).symm⟩
    have tk : cs.take (i + 1) = cs.take i ++ [c'] := by rw [List.take_add_one, hc]; rfl
    have et := tgt_mem ok.nd hb
    refine ⟨rfl, _, rfl, _, rfl, d, vc b, rfl, dg, ?_⟩
    refine ⟨_, rfl, rfl, _, rfl, ?_⟩
    have lt : (chg L (cs.take i)).length < sizeLine := by
      have := chg_len L (cs.take i)
      have h2 : (cs.take i).length ≤ cs.length := by rw [List.length_take]; omega
      have h3 : sizeLine = 16777216 := rfl
      omega
    by_cases same : c' = b
    · have e : (!decide (vc b = vc c')) = false := by rw [same]; simp
      rw [e]
      refine iteF ?_
      refine ⟨hp.1, ?_⟩
      rw [tk, chg_snoc, et, if_pos same]
      exact hp.2
    · have e : (!decide (vc b = vc c')) = true := by
        rw [decide_eq_false (fun z => same (ch_inj (by injection z)).symm)]; rfl
      rw [e]
      refine iteT ⟨_, rfl, _, rfl, _, rfl, d, vc b, rfl, dg, ?_⟩
      refine ⟨_, .inr (ch c'), rfl, hp.2, (by unfold ldK; rw [List.length_map]; exact lt), fun b' o hb' e' => by rw [upd_ne hb']; exact hp.1 _ _ hb' e', ?_⟩
      have nin : ¬ c' ∈ cs.take i := fun z => by
        obtain ⟨j, hj⟩ := List.mem_iff_getElem?.mp z
        rw [List.getElem?_take] at hj
        by_cases ji : j < i
        · rw [if_pos ji] at hj
          have := (List.getElem?_inj (by rw [List.length_map] at hi; exact Nat.lt_trans ji hi) ncs).mp (hj.trans hc.symm)
          omega
        · rw [if_neg ji] at hj
          cases hj
      rw [upd_same, putK_new _ (val_out (chg_keys nin)), tk, chg_snoc, et, if_neg same]
      unfold ldK
      rw [List.map_append]
      rfl
  have hx4 : upd H4 p (.lst (cs.map vc)) x = some (.ins C dx []) := k1 _ _ (s2 _ _ hxH)
  have nxD : x ≠ D := ne_of_none hx4 nD
  have hx5 := hp.1 _ _ nxD hx4
  refine ⟨_, rfl, x, C, dx, [], rfl, hx5, TD.cl, TD.nL, (by show 0 < 1000; decide), ?_⟩
  have full : cs.take (cs.map vc).length = cs := by rw [List.length_map, List.take_length]
  rw [full] at hp
  refine q _ (chg L cs) (chg_perm ok.nd pc) (fun b o hb e => ?_) ⟨dx, D, upd_same, by rw [upd_ne nxD.symm]; exact hp.2⟩
  have e0 : H b = some o := by rw [eH, upd_ne (ne_of_none e nd0)]; exact e
  have e4 := k1 _ _ (s2 _ _ e0)
  rw [upd_ne hb]
  exact hp.1 _ _ (ne_of_none e4 nD) e4
end
/-! ### the text of a renaming, read -/
section
open TL
def wordOf (p : Nat × Nat) : List Nat := [p.1, 62, p.2]
def rowText (L : Ld) : Str := Txt.join " " (L.map fun p => tx (wordOf p))
theorem tl_tx (x : List Nat) : tl (tx x) = x := rfl
theorem joinL_len (S : List Nat) : ∀ l : List (List Nat), (joinL S l).length ≤ (l.map (·.length)).sum + l.length * S.length
  | [] => by simp [joinL]
  | [p] => by simp [joinL]
  | p :: q :: r => by
    have := joinL_len S (q :: r)
    show (p ++ (S ++ joinL S (q :: r))).length ≤ _
    rw [List.length_append, List.length_append, List.map_cons, List.sum_cons, List.length_cons]
    have e : ((q :: r).length + 1) * S.length = (q :: r).length * S.length + S.length := Nat.succ_mul _ _
    rw [e]
    omega
theorem rowText_tl (L : Ld) : tl (rowText L) = joinL [32] (L.map wordOf) := by
  unfold rowText
  rw [join_eq, tl_join, List.map_map]
  rfl
theorem sum_words : ∀ L : Ld, ((L.map wordOf).map (·.length)).sum = 3 * L.length
  | [] => rfl
  | p :: L => by
    have := sum_words L
    rw [List.map_cons, List.map_cons, List.sum_cons, this, List.length_cons]
    show 3 + 3 * L.length = 3 * (L.length + 1)
    omega
theorem rowText_len (L : Ld) : (rowText L).length ≤ 4 * L.length := by
  have h := joinL_len [32] (L.map wordOf)
  rw [← rowText_tl, sum_words, List.length_map] at h
  have e : (tl (rowText L)).length = (rowText L).length := Array.length_toList
  have e2 : L.length * ([32] : List Nat).length = L.length := Nat.mul_one _
  omega
theorem rowText_ne {L : Ld} (h : L ≠ []) : rowText L ≠ ("" : Str) := fun e => by
  have h1 := congrArg tl e
  rw [rowText_tl] at h1
  match L, h with
  | [p], _ => cases h1
  | p :: q :: r, _ => cases h1
theorem rowText_split {L : Ld} (ok : LdOk L) (h : L ≠ []) : Txt.split (rowText L) " " = L.map fun p => tx (wordOf p) := by
  refine split_join (s := 32) (S := []) (by decide +kernel) (by decide +kernel) (by simpa using h) fun x hx => ?_
  obtain ⟨p, hp, rfl⟩ := List.mem_map.mp hx
  obtain ⟨⟨a1, a2⟩, b1, b2⟩ := ok.low p hp
  show ¬ 32 ∈ [p.1, 62, p.2]
  simp only [List.mem_cons, List.not_mem_nil, or_false, not_or]
  omega
end
def spLead : Sp := fun vs H Q _ => ∃ p : Nat × Nat, vs = [.str (tx (wordOf p))] ∧ lowc p.1 ∧ lowc p.2 ∧ Q (.bl true) H
def spRead (C : Addr) : Sp := fun vs H Q _ => ∃ L : Ld, vs = [.ref C, .str (rowText L)] ∧ L ≠ [] ∧ LdOk L ∧ ∀ a H' M, M.Perm (movers L) → Same H H' → H a = none → Rn C H' a M → Q (.ref a) H'
section
variable {P : Program} {w : World} {K : PySem.W.Frag} {mg : Str → Option Value} {base : Heap} {f fi : Addr} {fd : FuncData} {C gG : Addr}
theorem ok_lead (F : Fun K "is_lead" "is_lead" s_is_lead f fd) (M : Mgs mg) (Dis_letter : Df P w K mg base 1 "is_letter" ["value"] spOne) : FnOk P w K mg base CX0 2 f fd ["word"] spLead := by
  refine F.ok sc_is_lead (fun vs H Q E h => ?_) (fun cdv A outer s H vs Q E hr h => ?_)
  · obtain ⟨p, rfl, _⟩ := h
    rfl
  obtain ⟨⟨a, b⟩, rfl, ha, hb, q⟩ := h
  refine ⟨_, (pss_one (ps_ret (pe_and (pe_cmpR op_eq (pe_callB call_len_str rfl M.len PySem.boot_len (pa_cons (pv 0) pa_nil)) pe_int (nomark _)) (pe_and (pe_call Dis_letter.ok (hr.mono (by omega)) rfl Dis_letter.g Dis_letter.kp Dis_letter.b .nil pass0 (pa_cons (pe_ix ix_str (pv 0) pe_int (fun _ _ => rfl)) pa_nil)) (pe_and (pe_cmpR op_eq (pe_ix ix_str (pv 0) pe_int (fun _ _ => rfl)) pe_str (nomark _)) (pe_one (pe_call Dis_letter.ok (hr.mono (by omega)) rfl Dis_letter.g Dis_letter.kp Dis_letter.b .nil pass0 (pa_cons (pe_ix ix_str (pv 0) pe_int (fun _ _ => rfl)) pa_nil)))))))), ?_⟩
  have a0 : Str.ofString ">" = ch 62 := by decide +kernel
  refine ⟨_, rfl, tx (wordOf (a, b)), rfl, small (by show 3 ≤ 1000; decide), rfl, _, rfl, ?_⟩
  have i0 : atI ([a, 62, b] : List Nat) 0 = some a := atI_nat (j := 0) rfl
  have i1 : atI ([a, 62, b] : List Nat) 1 = some 62 := atI_nat (j := 1) rfl
  have i2 : atI ([a, 62, b] : List Nat) 2 = some b := atI_nat (j := 2) rfl
  have sm : (tx (wordOf (a, b))).length ≤ sizeLine := small (by show 3 ≤ 1000; decide)
  refine iteT ⟨_, rfl, _, 0, a, rfl, rfl, sm, i0, a, rfl, ?_⟩
  rw [low_dec ha]
  refine ⟨_, rfl, iteT ⟨_, rfl, _, 1, 62, rfl, rfl, sm, i1, rfl, _, rfl, ?_⟩⟩
  rw [show decide (V.str (⟨#[62]⟩ : Str) = V.str (Str.ofString ">")) = true from decide_eq_true (by rw [a0])]
  refine iteT ⟨_, rfl, _, 2, b, rfl, rfl, sm, i2, b, rfl, ?_⟩
  rw [low_dec hb]
  exact q
theorem ok_read (F : Fun K "read" "Renaming.read" s_Renaming_read f fd) (M : Mgs mg) (mEn : mg "enumerate" = none) (MK : L2.Mk K C fi) (Dis_lead : Df P w K mg base 2 "is_lead" ["word"] spLead)
    (Di : ∀ ks : List Str, (∃ L : Ld, ks = L.map (fun p => ch p.1) ∧ LdOk L) → FnKwX CX0 P w K mg base 2 fi 1 ks (spInitR C ks)) : FnOk P w K mg base CX0 4 f fd ["cls", "text"] (spRead C) := by
  refine F.ok sc_Renaming_read (fun vs H Q E h => ?_) (fun cdv A outer s H vs Q E hr h => ?_)
  · obtain ⟨L, rfl, _⟩ := h
    rfl
  obtain ⟨L, rfl, ne, ok, q⟩ := h
  refine ⟨_, (pss_cons (ps_if (pt_not (pt_val (pe_callB call_isi rfl M.isinstance (by decide +kernel) (pa_cons (pv 1) (pa_cons (pe_bltn (v := .ty "str") rfl M.str (by decide +kernel) rfl) pa_nil)))))
      (pss_one ps_never) pss_nil)
    (pss_cons (ps_set (i := 2) sc_Renaming_read.nd rfl (.inl rfl) pe_dnewK)
    (pss_cons (ps_set (i := 3) sc_Renaming_read.nd rfl (.inl rfl) (pe_ifExp (pt_cmpR op_ne (pv 1) pe_str (nomark _)) (pe_split (pv 1) pe_str) (pe_lst pa_nil)))
    (pss_cons (ps_for PassesOwn.never rfl (pi_enum rfl mEn (pa_cons (pv 3) pa_nil)) (pg_tup rfl (pgs_cons (pg_name (i := 4) sc_Renaming_read.nd rfl (.inl rfl)) (pgs_cons (pg_name (i := 5) sc_Renaming_read.nd rfl (.inl rfl)) pgs_nil)))
      (pss_cons (ps_if (PW.pt (pw_or (pt_not (pt_val (pe_call Dis_lead.ok (hr.mono (by omega)) rfl Dis_lead.g Dis_lead.kp Dis_lead.b .nil pass0 (pa_cons (pv 5) pa_nil)))) (pw_or1 (pt_cmp (pc_din (Nat.lt_of_le_of_lt (Nat.add_le_add_left (by decide) _) hr.units) (pe_ix ix_str (pv 5) pe_int (fun _ _ => rfl)) (pv 2))))))
      (pss_one ps_never) pss_nil)
    (pss_one (ps_dput (Nat.lt_of_le_of_lt (Nat.add_le_add_left (by decide) _) hr.units) (pv 2) (pe_ix ix_str (pv 5) pe_int (fun _ _ => rfl)) (pe_ix ix_str (pv 5) pe_int (fun _ _ => rfl)) rfl))))
    (pss_one (ps_ret (pe_makeKd (i := 0) (j := 2) MK Di (hr.mono (by omega)) pass0 rfl (.inl rfl) rfl (.inl rfl)))))))), ?_⟩
  have l26 := ok.len
  have tl := rowText_len L
  have tz : (rowText L).length + 2 ≤ sizeLine := by
    have : sizeLine = 16777216 := rfl
    omega
  refine ⟨_, rfl, _, _, _, _, true, rfl, .ty _, .base (.str (rowText L)), kit_ty (by decide +kernel), _, rfl, iteF ?_⟩
  refine fun d nd => ?_
  have k1 := same_new nd (.dK [])
  refine ⟨_, rfl, rfl, _, rfl, ?_⟩
  rw [show (!decide (V.str (rowText L) = V.str (Str.ofString ""))) = true by rw [decide_eq_false (fun z => rowText_ne ne (by injection z))]; rfl]
  refine iteT ⟨_, rfl, ⟨_, rfl⟩, _, _, rfl, rfl, rfl, tz, fun p np => ?_⟩
  rw [rowText_split ok ne]
  have k2 := same_new np (.lst ((L.map fun p => tx (wordOf p)).map V.str))
  refine ⟨_, rfl, p, _, rfl, SqL.of upd_same, ?_⟩
  have eq : upd (upd H d (.dK [])) p (.lst ((L.map fun p => tx (wordOf p)).map V.str)) p = some (.lst ((L.map fun p => tx (wordOf p)).map V.str)) := upd_same
  have hd : upd (upd H d (.dK [])) p (.lst ((L.map fun p => tx (wordOf p)).map V.str)) d = some (.dK (ldK (L.take 0))) := k2 _ _ upd_same
  have sH := k1.trans k2
  have ndp : d ≠ p := ne_of_none upd_same np
  clear k1 k2
  generalize upd (upd H d (.dK [])) p (.lst ((L.map fun p => tx (wordOf p)).map V.str)) = H2 at eq hd sH ⊢
  refine for_it (walk_enum (K := K) (a := p) (xs := (L.map fun p => tx (wordOf p)).map V.str)) (fun i σ H' => (∃ o4 o5, σ = [some (.ref C), some (.str (rowText L)), some (.ref d), some (.ref p), o4, o5]) ∧ (∀ b o, b ≠ d → H2 b = some o → H' b = some o) ∧ H' d = some (.dK (ldK (L.take i)))) ⟨⟨_, _, rfl⟩, fun _ _ _ e => e, hd⟩ (fun i σ H' _ hp => SqL.of (hp.2.1 _ _ ndp.symm eq)) (fun i y σ H' H'' hi hp hy => ?_) (fun σ H' hp => ?_)
  · obtain ⟨⟨o4, o5, rfl⟩, s3, e3⟩ := hp
    obtain ⟨T, y1, y2, rfl, nT, rfl, h1, h2⟩ := hy
    cases h1
    have h2 : ((L.map fun p => tx (wordOf p)).map V.str)[i]? = some y2 := h2
    rw [List.getElem?_map] at h2
    obtain ⟨z, hz, rfl⟩ := Option.map_eq_some_iff.mp h2
    rw [List.getElem?_map] at hz
    obtain ⟨⟨a, b⟩, hc, rfl⟩ := Option.map_eq_some_iff.mp hz
    obtain ⟨la, lb⟩ := ok.low _ (List.mem_of_getElem? hc)
    have ndT : d ≠ T := ne_of_none e3 nT
    have e4 : upd H' T (.tup [.int (i : Nat), .str (tx (wordOf (a, b)))]) d = some (.dK (ldK (L.take i))) := by rw [upd_ne ndT]; exact e3
    refine ⟨T, _, rfl, SqT.of upd_same, rfl, ?_⟩
    refine ⟨_, _, rfl, _, _, rfl, rfl, ?_⟩
    have nin : ¬ a ∈ (L.take i).map (·.1) := fun z => by
      rw [List.map_take] at z
      obtain ⟨j, hj⟩ := List.mem_iff_getElem?.mp z
      rw [List.getElem?_take] at hj
      by_cases ji : j < i
      · rw [if_pos ji] at hj
        have hi' : i < L.length := by rw [List.length_map, List.length_map] at hi; exact hi
        have := (List.getElem?_inj (by rw [List.length_map]; exact Nat.lt_trans ji hi') ok.nd).mp (hj.trans (show (L.map (·.1))[i]? = some a by rw [List.getElem?_map, hc]; rfl).symm)
        omega
      · rw [if_neg ji] at hj
        cases hj
    have i0 : atI (tx (wordOf (a, b))).cps.toList 0 = some a := atI_nat (j := 0) rfl
    have i2 : atI (tx (wordOf (a, b))).cps.toList 2 = some b := atI_nat (j := 2) rfl
    have sm : (tx (wordOf (a, b))).length ≤ sizeLine := small (by show 3 ≤ 1000; decide)
    refine ⟨_, rfl, (a, b), rfl, la, lb, ?_⟩
    refine ⟨_, rfl, iteF ⟨_, rfl, _, 0, a, rfl, rfl, sm, i0, _, rfl, d, none, rfl, .inl ⟨_, .inr (ch a), .inl e4, rfl, (val_out nin).symm⟩, _, rfl, iteF ?_⟩⟩
    refine ⟨_, rfl, _, 2, b, rfl, rfl, sm, i2, _, rfl, _, rfl, _, 0, a, rfl, rfl, sm, i0, d, _, rfl, .inl ⟨_, .inr (ch a), e4, rfl, ?_, rfl⟩, ?_⟩
    · unfold ldK
      rw [List.length_map, List.length_take]
      have : sizeLine = 16777216 := rfl
      omega
    refine ⟨⟨_, _, rfl⟩, fun b' o hb e => ?_, ?_⟩
    · rw [upd_ne hb, upd_ne (ne_of_none (s3 _ _ hb e) nT)]
      exact s3 _ _ hb e
    · rw [upd_same, putK_new _ (val_out nin), List.take_add_one, hc]
      unfold ldK
      rw [List.map_append]
      rfl
  obtain ⟨⟨o4, o5, rfl⟩, s3, e3⟩ := hp
  rw [List.length_map, List.length_map, List.take_length] at e3
  refine ⟨rfl, d, L.map (fun p => ch p.1), L.map (fun p => vc p.2), rfl, (by rw [zip_ld]; exact e3), by rw [List.length_map, List.length_map], by rw [List.length_map]; omega, ⟨L, rfl, ok⟩, fun x dx nx ndx nxd => ?_⟩
  refine ⟨x, dx, L, rfl, rfl, rfl, ok, upd_same, fun H4 N pN bx rn => ⟨rfl, ?_⟩⟩
  have old : ∀ {b o}, H b = some o → H' b = some o := fun {b o} e => s3 _ _ (ne_of_none e nd) (sH _ _ e)
  refine q x H4 N pN (fun b o e => ?_) ?_ rn
  · have eb := old e
    have bx' : b ≠ x := ne_of_none eb nx
    have bdx : b ≠ dx := ne_of_none eb ndx
    exact bx _ _ bx' (by rw [upd_ne bx', upd_ne bdx]; exact eb)
  · cases hx : H x with
    | none => rfl
    | some o => rw [old hx] at nx; cases nx
end
/-! ### the text of a renaming -/
def spStr (C : Addr) : Sp := fun vs H Q _ => ∃ (a : Addr) (L : Ld), vs = [.ref a] ∧ Rn C H a L ∧ L.length ≤ 26 ∧ LdOk L ∧ ∀ H', Same H H' → Q (.str (rowText L)) H'
theorem word_join (a b : Nat) : ((Str.empty ++ ch a) ++ Str.ofString ">") ++ ch b = tx (wordOf (a, b)) := by
  have h : Str.ofString ">" = ch 62 := by decide +kernel
  rw [h]
  rfl
section
variable {P : Program} {w : World} {K : PySem.W.Frag} {mg : Str → Option Value} {base : Heap} {f fi : Addr} {fd : FuncData} {C gG : Addr}
theorem ok_str (F : Fun K "__str__" "Renaming.__str__" s_Renaming___str__ f fd) (TD : RenC K mg C gG) : FnOk P w K mg base CX0 1 f fd ["self"] (spStr C) := by
  refine F.ok sc_Renaming___str__ (fun vs H Q E h => ?_) (fun cdv A outer s H vs Q E hr h => ?_)
  · obtain ⟨a, L, rfl, _⟩ := h
    rfl
  obtain ⟨a, L, rfl, ⟨dx, d, ea, ed⟩, few, ok, q⟩ := h
  refine ⟨_, (pss_one (ps_ret (pe_bm PySem.F.plainAttrs_str PySem.F.slot_str_join PySem.F.type_str_join mt_join pe_str (pa_cons (pe_lock (pe_lc (own := [("letter", 1)]) (g := gName 1) (tt := tYes) rfl sc_Renaming___str__.nd (pi_keys (pe_fld (pv 0) rfl)) (blkOk_by (N := ["self", "letter"]) (sc := defScope s_Renaming___str__) (by decide +kernel)) (fun _ _ _ _ _ => (pg_name (i := 1) sc_Renaming___str__.nd rfl (.inl rfl))) (fun _ _ _ _ _ => pts_nil) (fun _ _ _ _ _ => (pe_joined (PJ.cons (pe_fmt (pv 1)) (PJ.cons pe_str (PJ.cons (pe_fmt (pe_dget (Nat.lt_of_le_of_lt (Nat.add_le_add_left (by decide) _) hr.units) (show PE _ _ (tFld K (tVar 0) "leads") from pe_fld (pv 0) rfl) (pv 1) (fun _ _ => rfl))) PJ.nil))))))) pa_nil)))), ?_⟩
  have nad : a ≠ d := ne_of ea ed (by intro z; cases z)
  refine ⟨rfl, d, _, ed, trivial, fun od => ?_⟩
  have efz := upd_same (H := H) (a := d) (o := .frz od (.dK (ldK L)))
  have eaz : upd H d (.frz od (.dK (ldK L))) a = some (.ins C dx (renF d)) := by rw [upd_ne nad]; exact ea
  have back : ∀ H', Same (upd H d (.frz od (.dK (ldK L)))) H' → Same H (upd H' d (.dK (ldK L))) := fun H' => lock_back ed
  generalize upd H d (.frz od (.dK (ldK L))) = H1 at efz eaz back ⊢
  refine ⟨_, rfl, a, C, dx, _, _, rfl, eaz, TD.cl, TD.nL, ren_look d, d, od, rfl, .inl ⟨_, efz, fun D nD => ?_⟩⟩
  have nd1 : d ≠ D := ne_of_none efz nD
  have k1 := same_new nD (.lst [])
  refine lc_it (te := fun σ H Q => tJs [tFmt (tVar 1), tC (.str (Str.ofString ">")), tFmt (tDGet (tFld K (tVar 0) "leads") (tVar 1))] Str.empty σ H fun out H1 => Q (.str out) H1) (walk_keys (d := d) (o := od) (kvs := ldK L)) (fun i H' => (∀ b o, b ≠ D → H1 b = some o → H' b = some o) ∧ H' D = some (.lst (((L.take i).map fun p => tx (wordOf p)).map V.str))) ⟨fun b o hb e => by rw [upd_ne hb]; exact e, upd_same⟩ (fun i H' _ hp => hp.1 _ _ nd1 efz) (fun i y H' H'' hi hp hy => ?_) (fun H' hp => ?_)
  · obtain ⟨e1, ky, v, hk, rfl⟩ := hy
    subst e1
    unfold ldK at hk
    rw [List.getElem?_map] at hk
    obtain ⟨⟨c, b⟩, hc, he⟩ := Option.map_eq_some_iff.mp hk
    cases he
    have naD : a ≠ D := ne_of_none eaz nD
    have s1 : ∀ x : Nat, (ch x).length ≤ sizeLine := fun x => small (by show 1 ≤ 1000; decide)
    refine ⟨rfl, ?_⟩
    refine ⟨_, rfl, .inl ⟨_, rfl, s1 c, _, rfl, small (by show 1 ≤ 1000; decide), ?_⟩⟩
    refine ⟨_, rfl, small (by show 2 ≤ 1000; decide), ?_⟩
    refine ⟨_, rfl, a, C, dx, _, _, rfl, hp.1 _ _ naD eaz, TD.cl, TD.nL, ren_look d, _, rfl, d, vc b, rfl, .inl ⟨_, .inr (ch c), .inr ⟨od, hp.1 _ _ nd1 efz⟩, rfl, (val_mem ok.nd (List.mem_of_getElem? hc)).symm⟩, ?_⟩
    refine .inl ⟨_, rfl, s1 b, _, rfl, small (by show 3 ≤ 1000; decide), ?_⟩
    rw [show Str.empty ++ ch c ++ Str.ofString ">" ++ ch b = tx (wordOf (c, b)) from word_join c b]
    refine ⟨_, hp.2, ?_, fun b' o hb e => by rw [upd_ne hb]; exact hp.1 _ _ hb e, ?_⟩
    · rw [List.length_map, List.length_map, List.length_take]
      have : sizeLine = 16777216 := rfl
      omega
    · rw [upd_same, List.take_add_one, hc, List.map_append, List.map_append]
      rfl
  have full : L.take (ldK L).length = L := by unfold ldK; rw [List.length_map, List.take_length]
  rw [full] at hp
  refine ⟨hp.1 _ _ nd1 efz, ?_⟩
  have nDd : D ≠ d := nd1.symm
  refine ⟨_, D, L.map fun p => tx (wordOf p), rfl, rfl, .inl (SqL.of (by rw [upd_ne nDd]; exact hp.2)), ?_, q _ (back _ fun b o e => hp.1 _ _ (ne_of_none e nD) e)⟩
  have e3 : ((L.map fun p => tx (wordOf p)).map (·.length)).sum = 3 * L.length := by
    rw [← sum_words, List.map_map, List.map_map]
    rfl
  rw [e3, List.length_map]
  show 3 * L.length + L.length * 1 ≤ 16777216
  omega
end
/-! ### list(zip(a, b)) of two lists -/
open PySem.Builtin in
theorem zip_nolen : typeLookup (.type "zip") "__len__" = pure none := am_miss_of_fast (by decide +kernel)
theorem zip_nohint : typeLookup (.type "zip") "__length_hint__" = pure none := am_miss_of_fast (by decide +kernel)
/-- a zip that has given out i pairs; the last one is held by the list S -/
structure Zst (z TI TO i1 i2 l1 l2 S : Addr) (xs ys : Array Value) (i : Nat) (h : Heap) : Prop where
  pr : IsPair h TI (.ref i1) (.ref i2)
  it1 : h.IsListIter i1 l1 i
  it2 : h.IsListIter i2 l2 i
  li1 : h.IsList l1 xs
  li2 : h.IsList l2 ys
  out : (IsZip h z TI TO .none ∧ ∃ a b, IsPair h TO a b) ∨ ∃ T f o, IsZipHeld h z TI TO T f ∧ h.get? T = some o ∧ T ≠ z ∧ T ≠ i1 ∧ T ≠ i2 ∧ T ≠ S
/-- the list stands apart -/
structure Zap (z TI TO i1 i2 l1 l2 S : Addr) : Prop extends ZipApart z TI TO i1 i2 l1 l2 where
  sz : S ≠ z
  sTI : S ≠ TI
  sTO : S ≠ TO
  s1 : S ≠ i1
  s2 : S ≠ i2
  sl1 : S ≠ l1
  sl2 : S ≠ l2
section
variable {z TI TO i1 i2 l1 l2 S : Addr} {xs ys : Array Value} {i : Nat}
theorem Zst.keep {h h' : Heap} (Z : Zst z TI TO i1 i2 l1 l2 S xs ys i h) (D : Zap z TI TO i1 i2 l1 l2 S) (k : ∀ b o, b ≠ S → h.get? b = some o → h'.get? b = some o) : Zst z TI TO i1 i2 l1 l2 S xs ys i h' :=
  ⟨k _ _ D.sTI.symm Z.pr, Z.it1.at fun o e => k _ o D.s1.symm e, Z.it2.at fun o e => k _ o D.s2.symm e, Z.li1.at fun o e => k _ o D.sl1.symm e, Z.li2.at fun o e => k _ o D.sl2.symm e, by
    rcases Z.out with ⟨h1, a, b, h2⟩ | ⟨T, f, o, h1, h2, r1, r2, r3, r4⟩
    · exact .inl ⟨k _ _ D.sz.symm h1, a, b, k _ _ D.sTO.symm h2⟩
    · exact .inr ⟨T, f, o, k _ _ D.sz.symm h1, k _ _ r4 h2, r1, r2, r3, r4⟩⟩
variable {prog : Program} {w : World} {A : Around} {E : Value → Shared → Prop} {s : Shared}
theorem zst_item {Q : Option Value → Shared → Prop} {x y : Value} (Z : Zst z TI TO i1 i2 l1 l2 S xs ys i s.heap) (D : Zap z TI TO i1 i2 l1 l2 S) (hS : S < s.heap.objs.size) (hx : xs[i]? = some x) (hy : ys[i]? = some y)
    (q : ∀ h', Zst z TI TO i1 i2 l1 l2 S xs ys (i + 1) h' → IsPair h' s.heap.objs.size x y → (∀ b o, b ∉ [z, TO, i1, i2] → s.heap.get? b = some o → h'.get? b = some o) → Q (some (.ref s.heap.objs.size)) { s with heap := h' }) :
    wpAny (model prog w) A (pyNext (.ref z)) Q E s := by
  have up : ∀ {c o}, s.heap.get? c = some o → s.heap.objs.size ≠ c := fun e => Nat.ne_of_gt (Heap.lt_size e)
  have u1 : s.heap.objs.size ≠ i1 := let ⟨_, e, _⟩ := Z.it1; up e
  have u2 : s.heap.objs.size ≠ i2 := let ⟨_, e, _⟩ := Z.it2; up e
  rcases Z.out with ⟨h1, a, b, h2⟩ | ⟨T, f, o, h1, h2, r1, r2, r3, r4⟩
  · refine wpAny_pyNext_zip_item D.toZipApart h1 Z.pr h2 Z.it1 Z.it2 Z.li1 Z.li2 hx hy fun h' b1 _ b3 b4 b5 _ k => ?_
    have k' : ∀ b o, b ∉ [z, TO, i1, i2] → s.heap.get? b = some o → h'.get? b = some o := fun c o hc e => k c o (fun y => hc (by simp [y])) (fun y => hc (by simp [y])) (fun y => hc (by simp [y])) (fun y => hc (by simp [y])) e
    exact q h' ⟨k _ _ D.TIz D.TITO D.TIi1 D.TIi2 Z.pr, b3, b4, Z.li1.at fun o e => k _ o D.l1z D.l1TO D.l1i1 D.l1i2 e, Z.li2.at fun o e => k _ o D.l2z D.l2TO D.l2i1 D.l2i2 e, .inr ⟨_, false, _, b1, b5, up h1, u1, u2, Nat.ne_of_gt hS⟩⟩ b5 k'
  · refine wpAny_pyNext_zip_item_held D.toZipApart h1 h2 Z.pr Z.it1 Z.it2 Z.li1 Z.li2 hx hy fun h' b1 b3 b4 b5 _ k => ?_
    have k' : ∀ b o, b ∉ [z, TO, i1, i2] → s.heap.get? b = some o → h'.get? b = some o := fun c o hc e => k c o (fun y => hc (by simp [y])) (fun y => hc (by simp [y])) (fun y => hc (by simp [y])) e
    exact q h' ⟨k _ _ D.TIz D.TIi1 D.TIi2 Z.pr, b3, b4, Z.li1.at fun o e => k _ o D.l1z D.l1i1 D.l1i2 e, Z.li2.at fun o e => k _ o D.l2z D.l2i1 D.l2i2 e, .inr ⟨T, true, o, b1, k _ _ r1 r2 r3 h2, r1, r2, r3, r4⟩⟩ b5 k'
theorem zst_end {Q : Option Value → Shared → Prop} (hh : A.handled = none) (Z : Zst z TI TO i1 i2 l1 l2 S xs ys i s.heap) (D : Zap z TI TO i1 i2 l1 l2 S) (he : xs.size ≤ i)
    (q : ∀ h', (∀ b o, b ∉ [z, TO, i1, i2] → s.heap.get? b = some o → h'.get? b = some o) → Q none { s with heap := h' }) : wpAny (model prog w) A (pyNext (.ref z)) Q E s := by
  have en : xs[i]? = none ∨ ys[i]? = none := .inl (Array.getElem?_eq_none he)
  rcases Z.out with ⟨h1, a, b, h2⟩ | ⟨T, f, o, h1, h2, r1, r2, r3, r4⟩
  · exact wpAny_pyNext_zip_end hh D.toZipApart h1 Z.pr h2 Z.it1 Z.it2 Z.li1 Z.li2 en fun h' k => q h' fun c o hc e => k c o (fun y => hc (by simp [y])) (fun y => hc (by simp [y])) (fun y => hc (by simp [y])) (fun y => hc (by simp [y])) e
  · exact wpAny_pyNext_zip_end_held hh D.toZipApart h1 h2 Z.pr Z.it1 Z.it2 Z.li1 Z.li2 en fun h' k => q h' fun c o hc e => k c o (fun y => hc (by simp [y])) (fun y => hc (by simp [y])) (fun y => hc (by simp [y])) e
end
/-- the pairs given out so far stand at ts -/
def Outs (H : Hp) (vx vy : List V) (ts : List Addr) : Prop := ∀ (j : Nat) (t : Addr), ts[j]? = some t → ∃ x y, vx[j]? = some x ∧ vy[j]? = some y ∧ H t = some (.tup [x, y])
section
variable {X : Cx} {pins : List (Addr × Obj)} {σ : L2.St} {z TI TO i1 i2 l1 l2 S : Addr} {vx vy : List V} {xs ys : List Value} {R : Result → Shared → Prop} {A : Around}
theorem zip_gather (hh : A.handled = none) (D : Zap z TI TO i1 i2 l1 l2 S) (rx : Vals vx xs) (ry : Vals vy ys) (le : vx.length = vy.length) (few : vx.length ≤ sizeLine) (res : Value) {H0 : Hp} (nS : H0 S = none)
    (fin : ∀ H' s' ts, Inv X pins σ H' s' → (∀ b o, H0 b = some o → H' b = some o) → ts.length = vx.length → H' S = some (.lst (ts.map V.ref)) → Outs H' vx vy ts → R (.ok (.ret res)) s') :
    ∀ (k i : Nat) (H : Hp) (s : Shared) (ts : List Addr), i + k = vx.length → Inv X pins σ H s → Zst z TI TO i1 i2 l1 l2 S xs.toArray ys.toArray i s.heap → (∀ b ∈ [z, TO, i1, i2], FpOk X pins H b) → (∀ b ∈ [z, TO, i1, i2], b < s.heap.objs.size) → (∀ b o, H0 b = some o → H b = some o) →
      ts.length = i → H S = some (.lst (ts.map V.ref)) → Outs H vx vy ts → codeAny (model X.prog X.w) A (.builtin "list.extend.loop" ⟨[.ref S, .ref z, res], []⟩) R s := by
  have lx : xs.length = vx.length := rx.length.symm
  have ly : ys.length = vy.length := ry.length.symm
  intro k
  induction k with
  | zero =>
    intro i H s ts hi I Z hf lo keep lt eS outs
    refine codeAny_builtin PySem.F.entry_extend_loop ?_
    rw [Around.under_plainId PySem.F.plain_extend_loop _]
    show wpAny _ A.in1 (pyNext (.ref z) >>= _) _ _ _
    refine wpAny_bind (zst_end (A := A.in1) hh Z D (by simp; omega) fun h' k => ?_)
    exact wpAny_pure (fin H _ ts (I.turnedL (t' := s.toks) k hf) keep (by omega) eS outs)
  | succ k ih =>
    intro i H s ts hi I Z hf lo keep lt eS outs
    have hS : S < s.heap.objs.size := by
      obtain ⟨_, its, n, _, e⟩ := I.hok S _ eS
      exact Heap.lt_size e
    obtain ⟨x, hx⟩ : ∃ x, vx[i]? = some x := ⟨vx[i]'(by omega), List.getElem?_eq_getElem (by omega)⟩
    obtain ⟨y, hy⟩ : ∃ y, vy[i]? = some y := ⟨vy[i]'(by omega), List.getElem?_eq_getElem (by omega)⟩
    obtain ⟨u, hu, ru⟩ := rx.get hx
    obtain ⟨v, hv, rv⟩ := ry.get hy
    refine codeAny_builtin PySem.F.entry_extend_loop ?_
    rw [Around.under_plainId PySem.F.plain_extend_loop _]
    show wpAny _ A.in1 (pyNext (.ref z) >>= _) _ _ _
    refine wpAny_bind (zst_item (A := A.in1) Z D hS (by simpa using hu) (by simpa using hv) fun h' Z' pr k' => ?_)
    have nT : H s.heap.objs.size = none := I.hok.fresh (Nat.le_refl _)
    have I1 : Inv X pins σ (upd H s.heap.objs.size (.tup [x, y])) { s with heap := h' } := I.turnedNew (t' := s.toks) k' hf (Nat.le_refl _) ⟨by show 2 ≤ sizeLine; decide, [u, v], .cons ru (.cons rv .nil), ⟨_, pr, rfl, _, rfl⟩⟩
    have nST : S ≠ s.heap.objs.size := Nat.ne_of_lt hS
    have eS1 : upd H s.heap.objs.size (.tup [x, y]) S = some (.lst (ts.map V.ref)) := by rw [upd_ne nST]; exact eS
    obtain ⟨_, its, n, ri, e⟩ := I1.hok S _ eS1
    have li : its.length = ts.length := by rw [← ri.length, List.length_map]
    have up : ∀ b o, b ≠ S → h'.get? b = some o → (h'.update S (Obj.mapSeq (·.push (Value.ref s.heap.objs.size)))).get? b = some o := fun b o hb q => (Heap.get?_update_other _ _ (Ne.symm hb)).trans q
    have eU := Heap.get?_update_self (Obj.mapSeq (·.push (Value.ref s.heap.objs.size))) e rfl
    have eL : (ts ++ [s.heap.objs.size]).map V.ref = ts.map V.ref ++ [V.ref s.heap.objs.size] := by rw [List.map_append]; rfl
    have I2 : Inv X pins σ (upd (upd H s.heap.objs.size (.tup [x, y])) S (.lst ((ts ++ [s.heap.objs.size]).map V.ref))) { s with heap := h'.update S (Obj.mapSeq (·.push (Value.ref s.heap.objs.size))) } := by
      rw [eL]
      exact I1.lset (its' := its ++ [Value.ref s.heap.objs.size]) eS1 e (by simp) (ri.append (.cons rfl .nil)) (by
        rw [List.length_append, List.length_map, lt]
        show i + 1 ≤ sizeLine
        omega)
    have low : ∀ b o, H b = some o → b ≠ s.heap.objs.size := fun b o q => ne_of_none q nT
    show wpAny _ A.in1 (updateSeq S (·.push (Value.ref s.heap.objs.size)) >>= _) _ _ _
    refine wpAny_bind ?_
    refine wpAny_updateSeq e rfl (wpAny_pure ⟨plainId_quiet PySem.F.plain_extend_loop _, ih (i + 1) _ _ (ts ++ [s.heap.objs.size]) (by omega) I2 (Z'.keep D up) (fun b hb => ?_) (fun b hb => Nat.lt_trans (lo b hb) (Heap.lt_size (up _ _ nST.symm pr))) (fun b o q => ?_) (by rw [List.length_append, lt]; rfl) upd_same (fun j t hj => ?_)⟩) (by simp; omega) (by simp; omega)
    · obtain ⟨f1, f2⟩ := hf b hb
      have nb : b ≠ s.heap.objs.size := Nat.ne_of_lt (lo b hb)
      have nbS : b ≠ S := by
        simp only [List.mem_cons, List.not_mem_nil, or_false] at hb
        rcases hb with rfl | rfl | rfl | rfl
        · exact D.sz.symm
        · exact D.sTO.symm
        · exact D.s1.symm
        · exact D.s2.symm
      exact ⟨by rw [upd_ne nbS, upd_ne nb]; exact f1, f2⟩
    · have := keep b o q
      rw [upd_ne (ne_of_none q nS), upd_ne (low _ _ this)]
      exact this
    · by_cases h1 : j < ts.length
      · rw [List.getElem?_append_left h1] at hj
        obtain ⟨x', y', e1, e2, e3⟩ := outs j t hj
        refine ⟨x', y', e1, e2, ?_⟩
        have ntS : t ≠ S := ne_of e3 eS (by intro z; cases z)
        rw [upd_ne ntS, upd_ne (low _ _ e3)]
        exact e3
      · have jl : j < (ts ++ [s.heap.objs.size]).length := (List.getElem?_eq_some_iff.mp hj).1
        rw [List.length_append] at jl
        have je : j = ts.length := by
          have : j < ts.length + 1 := jl
          omega
        subst je
        have : s.heap.objs.size = t := by simpa using hj
        subst this
        rw [lt]
        exact ⟨x, y, hx, hy, by rw [upd_ne nST.symm, upd_same]⟩
/-- list(zip(a, b)) -/
def tListZip (K : PySem.W.Frag) (ta : TA) : TE := fun σ H Q => ta σ H fun vs H1 => ∃ a b xs ys, vs = [.ref a, .ref b] ∧ SqL K H1 a xs ∧ SqL K H1 b ys ∧ xs.length = ys.length ∧
  ∀ (p : Addr) (H' : Hp) (ts : List Addr), Same H1 H' → H1 p = none → H' p = some (.lst (ts.map V.ref)) → ts.length = xs.length → Outs H' xs ys ts → Q (.ref p) H'
theorem pe_listZip {e1 e2 : Expr} {ta : TA} {p q pos pos' : Pos} (hc : X.calm = true) (hL : Gl X "list") (mL : X.mg "list" = none) (hZ : Gl X "zip") (mZ : X.mg "zip" = none) (ha : PA X [e1, e2] ta)
    (hs : starEach [e1, e2] X.env = (false, eval e1 X.env) :: starEach [e2] X.env := by rfl) (hpl : (backTo pos' (starEach [e2] X.env)).any (·.1) = false := by rfl)
    (hs2 : starEach [.Call (.Name "zip" q) [e1, e2] [] pos'] X.env = (false, eval (.Call (.Name "zip" q) [e1, e2] [] pos') X.env) :: starEach [] X.env := by rfl) :
    PE X (.Call (.Name "list" p) [.Call (.Name "zip" q) [e1, e2] [] pos'] [] pos) (tListZip X.K ta) := by
  refine ⟨fun pins s σ H Q I h => ?_⟩
  refine wpAny_Call_Name_kw (ld_blt I hL mL (show bootBuiltins ("list" : Str) = some (.type "list") by decide +kernel) ?_)
  refine PyProof.Rows.callWith_type1 ?_ hs2 rfl
  rw [hs2]
  refine Calls.spliced_cons ?_
  refine Call_ (ld_blt I hZ mZ PyProof.Rows.boot_zip (PyProof.Rows.callWith_type1 (thn (ha.run pos' pins s σ H _ I h) fun us s1 ⟨vs, H1, I1, r1, q1⟩ => ?_) hs hpl))
  obtain ⟨a, b, xs, ys, ex, hx, hy, le, qf⟩ := q1
  subst ex
  obtain ⟨u1, u2, rfl, e1', e2'⟩ := vals2 r1
  cases e1'
  cases e2'
  obtain ⟨its, rv, p1, z1⟩ := I1.list hx
  obtain ⟨its2, rv2, p2, z2⟩ := I1.list hy
  refine call_zip_2 p1.isList p2.isList fun h' hz hTI hTO h1 h2 hsz hk => ?_
  have I2 : Inv X pins σ H1 { s1 with heap := h' } := I1.kept (t' := s1.toks) hk
  refine Calls.spliced_nil ?_
  have lens : its.length = xs.length := rv.length.symm
  have l1lt := p1.lt
  have l2lt := p2.lt
  have f4 : ∀ b ∈ [s1.heap.objs.size + 4, s1.heap.objs.size + 3, s1.heap.objs.size, s1.heap.objs.size + 1], s1.heap.objs.size ≤ b ∧ b < h'.objs.size := fun b hb => by
    simp only [List.mem_cons, List.not_mem_nil, or_false] at hb
    rw [hsz]
    rcases hb with rfl | rfl | rfl | rfl
    · exact ⟨Nat.le_add_right _ _, Nat.add_lt_add_left (by decide) _⟩
    · exact ⟨Nat.le_add_right _ _, Nat.add_lt_add_left (by decide) _⟩
    · exact ⟨Nat.le_refl _, Nat.lt_add_of_pos_right (by decide)⟩
    · exact ⟨Nat.le_add_right _ _, Nat.add_lt_add_left (by decide) _⟩
  have ft : ∀ b ∈ [s1.heap.objs.size + 4, s1.heap.objs.size + 3, s1.heap.objs.size, s1.heap.objs.size + 1], FpOk X pins H1 b := fun b hb => I1.fpOk (f4 b hb).1 (I1.hok.fresh (f4 b hb).1)
  have nS : H1 h'.objs.size = none := I2.hok.fresh (Nat.le_refl _)
  have D0 := PySem.W.ktu_apart s1.heap.objs.size a b p1.lt p2.lt
  have D : Zap (s1.heap.objs.size + 4) (s1.heap.objs.size + 2) (s1.heap.objs.size + 3) s1.heap.objs.size (s1.heap.objs.size + 1) a b h'.objs.size := by
    have c : ∀ k, k < 5 → h'.objs.size ≠ s1.heap.objs.size + k := fun k hk => by rw [hsz]; exact Nat.ne_of_gt (Nat.add_lt_add_left hk _)
    exact { toZipApart := D0, sz := c 4 (by decide), sTI := c 2 (by decide), sTO := c 3 (by decide), s1 := c 0 (by decide), s2 := c 1 (by decide),
            sl1 := by rw [hsz]; exact Nat.ne_of_gt (Nat.lt_of_lt_of_le l1lt (Nat.le_add_right _ _)), sl2 := by rw [hsz]; exact Nat.ne_of_gt (Nat.lt_of_lt_of_le l2lt (Nat.le_add_right _ _)) }
  have L1 : h'.IsList a its.toArray := p1.isList.at fun o e => hk _ o e
  have L2' : h'.IsList b its2.toArray := p2.isList.at fun o e => hk _ o e
  have Z0 : Zst (s1.heap.objs.size + 4) (s1.heap.objs.size + 2) (s1.heap.objs.size + 3) s1.heap.objs.size (s1.heap.objs.size + 1) a b h'.objs.size its.toArray its2.toArray 0 h' := ⟨hTI, h1, h2, L1, L2', .inl ⟨hz, _, _, hTO⟩⟩
  refine callType_codes (s := { s1 with heap := h' }) (Q₁ := fun obj s₁ => obj = .ref h'.objs.size ∧ s₁ = { s1 with heap := h'.push { cls := .type "list", data := .seq #[] } }) PySem.F.called_list (PySem.F.typeCall_list_1 _) PySem.F.entry_list_init
    (code_list_new _ ⟨rfl, rfl⟩) fun obj s₁ g => ?_
  obtain ⟨rfl, rfl⟩ := g
  have eS : (h'.push { cls := .type "list", data := .seq #[] }).get? h'.objs.size = some { cls := .type "list", data := .seq #[] } := Heap.get?_push_size _ rfl
  refine ⟨⟨_, eS, rfl⟩, PySem.F.args_list_init_2 _ _, ?_⟩
  show wpAny _ _ (do let old ← Builtin.List.listItems (.ref h'.objs.size); Builtin.List.listUpdate (.ref h'.objs.size) (fun _ => #[]); letGo old.toList.reverse; Builtin.List.listExtendWith (.ref h'.objs.size) (.ref (s1.heap.objs.size + 4)) .none) _ _ _
  unfold Builtin.List.listItems
  refine wpAny_bind (wpAny_bind (wpAny_seqItems eS rfl (wpAny_pure ?_)))
  refine wpAny_bind (wpAny_updateSeq eS rfl ?_)
  have eS2 := Heap.get?_update_self (Obj.mapSeq (fun _ => (#[] : Array Value))) eS rfl
  have up : ∀ c o, c ≠ h'.objs.size → h'.get? c = some o → ((h'.push { cls := .type "list", data := .seq #[] }).update h'.objs.size (Obj.mapSeq (fun _ => (#[] : Array Value)))).get? c = some o :=
    fun c o hc e => (Heap.get?_update_other _ _ (Ne.symm hc)).trans (Heap.get?_push_of_some _ e)
  refine wpAny_bind (wpAny_letGo ?_)
  have hT : ({ s1 with heap := (h'.push { cls := .type "list", data := .seq #[] }).update h'.objs.size (Obj.mapSeq (fun _ => (#[] : Array Value))) } : Shared).TypeIs (.ref (s1.heap.objs.size + 4)) "zip" := ⟨_, up _ _ D.sz.symm hz, rfl⟩
  unfold Builtin.List.listExtendWith
  refine wpAny_bind (wpAny_typeOf hT ?_)
  have q1 : Builtin.List.listSameRef (.ref h'.objs.size) (.ref (s1.heap.objs.size + 4)) = false := by simp [Builtin.List.listSameRef, D.sz]
  have q2 : (Value.type "zip" == Value.type "list") = false := by decide
  have q3 : (Value.type "zip" == Value.type "tuple") = false := by decide
  simp only [q1, q2, q3, Bool.or_false, Bool.false_eq_true, if_false]
  refine wpAny_bind (wpAny_pyIter_zip (up _ _ D.sz.symm hz) ?_)
  refine wpAny_bind (wpAny_holding ?_)
  unfold Builtin.List.listLengthHint
  refine wpAny_bind (wpAny_specialOf hT zip_nolen ?_)
  refine wpAny_bind (wpAny_specialOf hT zip_nohint ?_)
  refine wpAny_pure ?_
  show wpAny _ _ (rule "list.extend.makes-room" >>= fun _ => Builtin.List.listTouch (.ref h'.objs.size) >>= fun _ =>
    again (.builtin "list.extend.loop" ⟨[.ref h'.objs.size, .ref (s1.heap.objs.size + 4), .none], []⟩)) _ _ _
  refine wpAny_bind (wpAny_rule ?_)
  refine wpAny_bind ?_
  show wpAny _ _ (updateSeq h'.objs.size (·.push .none) >>= fun _ => updateSeq h'.objs.size (·.pop)) _ _ _
  refine wpAny_bind (wpAny_updateSeq eS2 rfl ?_)
  have eS3 := Heap.get?_update_self (Obj.mapSeq (·.push Value.none)) eS2 rfl
  refine wpAny_updateSeq eS3 rfl ?_
  have eS4 := Heap.get?_update_self (Obj.mapSeq (·.pop)) eS3 rfl
  have up4 : ∀ c o, c ≠ h'.objs.size → h'.get? c = some o → ((((h'.push { cls := .type "list", data := .seq #[] }).update h'.objs.size (Obj.mapSeq (fun _ => (#[] : Array Value)))).update h'.objs.size (Obj.mapSeq (·.push Value.none))).update h'.objs.size (Obj.mapSeq (·.pop))).get? c = some o :=
    fun c o hc e => (Heap.get?_update_other _ _ (Ne.symm hc)).trans ((Heap.get?_update_other _ _ (Ne.symm hc)).trans (up c o hc e))
  generalize hh4 : (((h'.push { cls := .type "list", data := .seq #[] }).update h'.objs.size (Obj.mapSeq (fun _ => (#[] : Array Value)))).update h'.objs.size (Obj.mapSeq (·.push Value.none))).update h'.objs.size (Obj.mapSeq (·.pop)) = h4 at up4 eS4 ⊢
  have I3 : Inv X pins σ (upd H1 h'.objs.size (.lst ([] : List V))) { s1 with heap := h4 } := I2.laid (t' := s1.toks) (fun c o e => up4 c o (Nat.ne_of_lt (Heap.lt_size e)) e) (Nat.le_refl _) ⟨by show 0 ≤ sizeLine; decide, [], _, .nil, eS4⟩
  refine wpAny_pure ⟨plainId_quiet PySem.F.plain_extend_loop _, ?_⟩
  refine zip_gather (X := X) (pins := pins) (σ := σ) (A := X.A.in1) (H0 := H1) (I1.ok.hd hc) D rv rv2 le z1 .none nS (fun H' s' ts J old lt eT outs => ?_) xs.length 0 _ _ [] (Nat.zero_add _) I3 (Z0.keep D up4) (fun b hb => ?_) (fun b hb => ?_) (fun b o e => ?_) rfl upd_same (fun j t hj => by simp at hj)
  · exact ⟨rfl, V.ref h'.objs.size, H', J, rfl, qf _ H' ts old nS eT lt outs⟩
  · obtain ⟨f1, f2⟩ := ft b hb
    have nb : b ≠ h'.objs.size := Nat.ne_of_lt (f4 b hb).2
    exact ⟨by rw [upd_ne nb]; exact f1, f2⟩
  · exact Nat.lt_trans (f4 b hb).2 (Heap.lt_size eS4)
  · rw [upd_ne (ne_of_none e nS)]
    exact e
end
/-! ### _law_table -/
inductive PrsAt (H : Hp) : List V → Ld → Prop
  | nil : PrsAt H [] []
  | cons {a : Addr} {x y : Nat} {vs : List V} {L : Ld} : H a = some (.tup [vc x, vc y]) → PrsAt H vs L → PrsAt H (.ref a :: vs) ((x, y) :: L)
theorem PrsAt.keep {H H' : Hp} {vs : List V} {L : Ld} (h : PrsAt H vs L) (k : KeepT H H') : PrsAt H' vs L := by
  induction h with
  | nil => exact .nil
  | cons e _ ih => exact .cons (k _ _ e) ih
theorem PrsAt.snoc {H : Hp} {vs : List V} {L : Ld} (h : PrsAt H vs L) {a : Addr} {x y : Nat} (e : H a = some (.tup [vc x, vc y])) : PrsAt H (vs ++ [.ref a]) (L ++ [(x, y)]) := by
  induction h with
  | nil => exact .cons e .nil
  | cons e' _ ih => exact .cons e' ih
theorem PrsAt.length {H : Hp} {vs : List V} {L : Ld} (h : PrsAt H vs L) : vs.length = L.length := by
  induction h with
  | nil => rfl
  | cons _ _ ih => exact congrArg Nat.succ ih
theorem PrsAt.get {H : Hp} {vs : List V} {L : Ld} (h : PrsAt H vs L) : ∀ {i : Nat} {v : V}, vs[i]? = some v → ∃ a x y, v = .ref a ∧ L[i]? = some (x, y) ∧ H a = some (.tup [vc x, vc y]) := by
  induction h with
  | nil => intro i v h; simp at h
  | cons e _ ih =>
    intro i v h
    cases i with
    | zero => cases h; exact ⟨_, _, _, rfl, rfl, e⟩
    | succ i => exact ih h
theorem tor_of {ta tb : TT} {σ : L2.St} {H : Hp} {Q : Bool → Hp → Prop} {a b : Bool} (h1 : ∀ Q', Q' a H → ta σ H Q') (h2 : ∀ Q', Q' b H → tb σ H Q') (h : Q (a || b) H) : tOr ta tb σ H Q := by
  refine h1 _ ?_
  cases a with
  | true => exact iteT h
  | false => exact iteF (h2 _ h)
theorem keep_lst {H : Hp} {p : Addr} {xs : List V} (e : H p = some (.lst xs)) (ys : List V) : KeepT H (upd H p (.lst ys)) := fun b o h => by
  rw [upd_ne (ne_of h e (by intro z; cases z))]
  exact h
theorem LdOk.of {L : Ld} {xs : List Nat} (e : L.map (·.1) = xs) (nd : xs.Nodup) (lo : ∀ c ∈ xs, lowc c) (l2 : ∀ p ∈ L, lowc p.2) : LdOk L :=
  ⟨by rw [e]; exact nd, fun p hp => ⟨lo _ (by rw [← e]; exact List.mem_map.mpr ⟨p, hp, rfl⟩), l2 p hp⟩⟩
theorem ne_of_keys {L : Ld} {xs : List Nat} (e : L.map (·.1) = xs) (h : 1 ≤ xs.length) : L ≠ [] := fun z => by
  rw [← e, z] at h
  exact absurd h (by decide)
theorem outs_prs {H : Hp} : ∀ {ts : List Addr} {xs ys : List Nat}, ts.length = xs.length → xs.length = ys.length → Outs H (xs.map vc) (ys.map vc) ts → PrsAt H (ts.map V.ref) (xs.zip ys)
  | [], [], [], _, _, _ => .nil
  | t :: ts, x :: xs, y :: ys, h1, h2, o => by
    obtain ⟨x', y', e1, e2, e3⟩ := o 0 t rfl
    cases (show vc x = x' from Option.some.inj e1)
    cases (show vc y = y' from Option.some.inj e2)
    exact .cons e3 (outs_prs (Nat.succ.inj h1) (Nat.succ.inj h2) fun j t hj => o (j + 1) t hj)
  | [], _ :: _, _, h, _, _ => by cases h
  | _ :: _, [], _, h, _, _ => by cases h
  | _, [], _ :: _, _, h, _ => by cases h
  | _, _ :: _, [], _, h, _ => by cases h
def TabAt (H : Hp) (p : Addr) (L : Ld) : Prop := ∃ vs, H p = some (.lst vs) ∧ PrsAt H vs L
def spTable : Sp := fun vs H Q _ => ∃ (D : Deck) (n : Nat), vs = [.ref D.dk] ∧ DeckOk H D n ∧ n + 60 ≤ 1000000 ∧ ∀ (p : Addr) (L : Ld) (n' : Nat) (H' : Hp), DeckOk H' D n' → n' ≤ n + 60 → SameD D H H' → TabAt H' p L → L ≠ [] → LdOk L → Off D p → Q (.ref p) H'
def abcN : List Nat := (List.range 26).map (· + 97)
theorem abcN_is : ((Str.ofString "abcdefghijklmnopqrstuvwxyz").cps.toList.map fun c => V.str ⟨#[c]⟩) = abcN.map vc := by decide +kernel
theorem abcN_nd : abcN.Nodup := by decide +kernel
theorem abcN_low : ∀ c ∈ abcN, lowc c := fun c h => by
  obtain ⟨k, hk, rfl⟩ := List.mem_map.mp h
  have := List.mem_range.mp hk
  exact ⟨by omega, by omega⟩
theorem abcN_len : abcN.length = 26 := by decide +kernel
theorem erase_vc : ∀ (l : List Nat) (k : Nat), (l.map vc).eraseIdx k = (l.eraseIdx k).map vc
  | [], _ => rfl
  | _ :: _, 0 => rfl
  | a :: l, k + 1 => congrArg (vc a :: ·) (erase_vc l k)
theorem perm_ix : ∀ (l : List Nat) (k : Nat) (h : k < l.length), (l[k] :: l.eraseIdx k).Perm l
  | [], k, h => absurd h (Nat.not_lt_zero _)
  | a :: l, 0, _ => .refl _
  | a :: l, k + 1, h => (List.Perm.swap a (l[k]'(Nat.lt_of_succ_lt_succ h)) _).trans ((perm_ix l k (Nat.lt_of_succ_lt_succ h)).cons a)
theorem perm_pop {l : List Nat} {k : Nat} (h : k < l.length) (xs : List Nat) : ((xs ++ [l[k]]) ++ l.eraseIdx k).Perm (xs ++ l) := by
  rw [List.append_assoc]
  refine List.Perm.append_left xs ?_
  exact perm_ix l k h
section
variable {P : Program} {w : World} {K : PySem.W.Frag} {mg : Str → Option Value} {base : Heap} {f : Addr} {fd : FuncData}
theorem ok_table (F : Fun K "_law_table" "_law_table" s__law_table f fd) (M : Mgs mg) (D_law_draw : Df P w K mg base 1 "_law_draw" ["_law_state", "_law_below"] spDraw) : FnOk P w K mg base CX0 2 f fd ["_law_state"] spTable := by
  refine F.ok sc__law_table (fun vs H Q E h => ?_) (fun cdv A outer s H vs Q E hr h => ?_)
  · obtain ⟨D, n, rfl, _⟩ := h
    rfl
  obtain ⟨D, n, rfl, d, hn, q⟩ := h
  refine ⟨_, (pss_cons (ps_asg (pe_tup (pa_cons (pe_callTy (call_signs rfl) rfl M.list (by decide +kernel) (pa_cons pe_str pa_nil)) (pa_cons (pe_call D_law_draw.ok (hr.mono (by omega)) rfl D_law_draw.g D_law_draw.kp D_law_draw.b .nil pass0 (pa_cons (pv 0) (pa_cons pe_int pa_nil))) pa_nil))) (pg_tup rfl (pgs_cons (pg_name (i := 1) sc__law_table.nd rfl (.inr rfl)) (pgs_cons (pg_name (i := 2) sc__law_table.nd rfl (.inl rfl)) pgs_nil))))
    (pss_cons (ps_set (i := 3) sc__law_table.nd rfl (.inr rfl) (pe_callTy call_list_of rfl M.list (by decide +kernel) (pa_cons (pv 1) pa_nil)))
    (pss_cons (ps_setLc (i := 5) (own := [("_law_again", 4)]) (g := gName 4) (tt := tYes) (by rfl) sc__law_table.nd rfl rfl (sw_true rfl rfl rfl (by decide +kernel)) (pi_range1 rfl M.range (pa_cons (pe_op op_sub (pe_ix ix_list (pe_lst (pa_cons pe_int (pa_cons pe_int (pa_cons pe_int (pa_cons pe_int (pa_cons pe_int pa_nil)))))) (pv 2) (fun _ _ => rfl)) (pe_call D_law_draw.ok (hr.mono (by omega)) rfl D_law_draw.g D_law_draw.kp D_law_draw.b .nil pass0 (pa_cons (pv 0) (pa_cons pe_int pa_nil)))) pa_nil)) (blkOk_by (N := ["_law_state", "_law_letters_here", "_law_way", "_law_left", "_law_again", "_law_some", "_law_letter", "_law_shift"]) (sc := defScope s__law_table) (by decide +kernel)) (fun _ _ _ _ _ => (pg_name (i := 4) sc__law_table.nd rfl (.inl rfl))) (fun _ _ _ _ _ => pts_nil) (fun _ _ _ _ _ => (show PE _ _ (tBM K _ _ _ _) from pe_bm PySem.F.plainAttrs_list PySem.F.slot_list_pop PySem.F.type_list_pop mt_popAt (pv 3) (pa_cons (pe_call D_law_draw.ok (hr.mono (by omega)) rfl D_law_draw.g D_law_draw.kp D_law_draw.b .nil pass0 (pa_cons (pv 0) (pa_cons (pe_callB (show CallR _ (.builtin "len") (rLenSeq K) from call_len_seq) rfl M.len PySem.boot_len (pa_cons (pv 3) pa_nil)) pa_nil))) pa_nil))))
    (pss_cons (ps_if (PW.pt (pw_or (pt_cmpR op_eq (pv 2) pe_int (nomark _)) (pw_or1 (pt_cmpR op_eq (pv 2) pe_int (nomark _)))))
      (pss_one (ps_ret (pe_lc (own := [("_law_letter", 6)]) (g := gName 6) (tt := tYes) rfl sc__law_table.nd (pi_list (pv 5)) (blkOk_by (N := ["_law_state", "_law_letters_here", "_law_way", "_law_left", "_law_again", "_law_some", "_law_letter", "_law_shift"]) (sc := defScope s__law_table) (by decide +kernel)) (fun _ _ _ _ _ => (pg_name (i := 6) sc__law_table.nd rfl (.inl rfl))) (fun _ _ _ _ _ => pts_nil) (fun _ _ _ _ _ => (pe_tup (pa_cons (pv 6) (pa_cons (pe_ix (show IxR _ (rIxL K) from ix_list) (pv 1) (pe_call D_law_draw.ok (hr.mono (by omega)) rfl D_law_draw.g D_law_draw.kp D_law_draw.b .nil pass0 (pa_cons (pv 0) (pa_cons pe_int pa_nil))) (fun _ _ => rfl)) pa_nil))))))) pss_nil)
    (pss_cons (ps_if (pt_cmpR op_eq (pv 2) pe_int (nomark _))
      (pss_one (ps_ret (pe_lc (own := [("_law_letter", 6)]) (g := gName 6) (tt := tYes) rfl sc__law_table.nd (pi_list (pv 5)) (blkOk_by (N := ["_law_state", "_law_letters_here", "_law_way", "_law_left", "_law_again", "_law_some", "_law_letter", "_law_shift"]) (sc := defScope s__law_table) (by decide +kernel)) (fun _ _ _ _ _ => (pg_name (i := 6) sc__law_table.nd rfl (.inl rfl))) (fun _ _ _ _ _ => pts_nil) (fun _ _ _ _ _ => (pe_tup (pa_cons (pv 6) (pa_cons (pv 6) pa_nil))))))) pss_nil)
    (pss_cons (ps_set (i := 7) sc__law_table.nd rfl (.inl rfl) (pe_op op_add pe_int (pe_call D_law_draw.ok (hr.mono (by omega)) rfl D_law_draw.g D_law_draw.kp D_law_draw.b .nil pass0 (pa_cons (pv 0) (pa_cons (pe_callB call_len_seq rfl M.len PySem.boot_len (pa_cons (pv 5) pa_nil)) pa_nil)))))
    (pss_one (ps_ret (pe_listZip rfl rfl M.list rfl M.zip (pa_cons (pv 5) (pa_cons (pe_op op_cat (pe_slice sl_list (pv 5) (po_some (pv 7)) po_none) (pe_slice sl_list (pv 5) po_none (po_some (pv 7)))) pa_nil))))))))))), ?_⟩
  refine ⟨_, rfl, by decide +kernel, fun sa nsa => ?_⟩
  rw [abcN_is]
  have q1 := same_new nsa (.lst (abcN.map vc))
  have na := d.new nsa
  refine ⟨_, rfl, D, n, 5, rfl, d.same q1, by omega, by decide, by decide, fun wy H1 w0 w1 d1 s1 => ⟨(by show 2 ≤ sizeLine; decide), fun tp ntp => ⟨tp, _, rfl, SqT.of upd_same, rfl, _, _, rfl, _, _, rfl, rfl, ?_⟩⟩⟩
  have q2 := same_new ntp (.tup [.ref sa, .int wy])
  have d2 := d1.same q2
  have sd : SameD D H (upd H1 tp (.tup [.ref sa, .int wy])) := (SameD.of q1).trans (s1.trans (.of q2))
  have esa : (upd H1 tp (.tup [.ref sa, .int wy])) sa = some (.lst (abcN.map vc)) := q2 _ _ (s1.at na upd_same)
  generalize upd H1 tp (.tup [.ref sa, .int wy]) = H2 at d2 sd esa
  refine ⟨_, rfl, sa, _, rfl, .inl (SqL.of esa), fun sb nsb => ?_⟩
  have q3 := same_new nsb (.lst (abcN.map vc))
  have nb := d2.new nsb
  have d3 := d2.same q3
  have sd3 := sd.trans (SameD.of q3)
  have esa3 := q3 _ _ esa
  have esb3 : upd H2 sb (.lst (abcN.map vc)) sb = some (.lst (abcN.map vc)) := upd_same
  have nab : sa ≠ sb := ne_of_none esa nsb
  generalize upd H2 sb (.lst (abcN.map vc)) = H3 at d3 sd3 esa3 esb3 ⊢
  refine ⟨(by show 5 ≤ sizeLine; decide), fun l nl => ?_⟩
  have q4 := same_new nl (.lst [.int 3, .int 26, .int 12, .int 6, .int 2])
  obtain ⟨b, hb, b0, b1⟩ : ∃ b : Int, atI [V.int 3, V.int 26, V.int 12, V.int 6, V.int 2] wy = some (.int b) ∧ 2 ≤ b ∧ b ≤ 26 := by
    have : wy = 0 ∨ wy = 1 ∨ wy = 2 ∨ wy = 3 ∨ wy = 4 := by omega
    rcases this with rfl | rfl | rfl | rfl | rfl
    · exact ⟨3, rfl, by decide, by decide⟩
    · exact ⟨26, rfl, by decide, by decide⟩
    · exact ⟨12, rfl, by decide, by decide⟩
    · exact ⟨6, rfl, by decide, by decide⟩
    · exact ⟨2, rfl, by decide, by decide⟩
  refine ⟨_, rfl, l, _, _, _, rfl, rfl, SqL.of upd_same, hb, ?_⟩
  refine ⟨_, rfl, D, n + 1, 2, rfl, d3.same q4, by omega, by decide, by decide, fun j H4 j0 j1 d4 s4 => ?_⟩
  have nl' := d3.new nl
  have esa4 := s4.at na (q4 _ _ esa3)
  have esb4 := s4.at nb (q4 _ _ esb3)
  have sd4 := sd3.trans ((SameD.of q4).trans s4)
  obtain ⟨m, hm⟩ : ∃ m : Nat, b - j = (m : Int) := ⟨(b - j).toNat, by omega⟩
  have m1 : 1 ≤ m := by omega
  have m26 : m ≤ 26 := by omega
  refine ⟨_, _, rfl, rfl, ?_⟩
  refine ⟨_, rfl, by omega, by omega, ?_⟩
  rw [hm, Int.toNat_natCast]
  intro fa nfa
  have nf := d4.new nfa
  have nsf : sa ≠ fa := ne_of_none esa4 nfa
  have nbf : sb ≠ fa := ne_of_none esb4 nfa
  have nfH : H fa = none := sd4.free d4 nfa
  have nbH : H sb = none := sd.free d2 nsb
  have kf := same_new nfa (.lst [])
  refine lc_range (lo := 0) (n := m) (fun i H' => ∃ (n' : Nat) (xs rest : List Nat), DeckOk H' D n' ∧ n' ≤ n + 2 + i ∧ SameD D H H' ∧ xs.length = i ∧ (xs ++ rest).Perm abcN ∧ H' fa = some (.lst (xs.map vc)) ∧ H' sb = some (.lst (rest.map vc)) ∧ H' sa = some (.lst (abcN.map vc)))
    ⟨n + 2, [], abcN, d4.same kf, by omega, sd4.trans (.of kf), rfl, .refl _, upd_same, kf _ _ esb4, kf _ _ esa4⟩ (fun i H' hi hp => ?_) (fun H' hp => ?_)
  · obtain ⟨n', xs, rest, d', hn', s', hmi, pm, ef, es, ea⟩ := hp
    have h26 : xs.length + rest.length = 26 := by rw [← List.length_append, pm.length_eq, abcN_len]
    refine ⟨rfl, kept ?_⟩
    refine ⟨.ref sb, rfl, .inl ⟨rfl, _, SqL.of es⟩, _, rfl, _, rfl, sb, _, rfl, .inl (SqL.of es), D, n', _, rfl, d', by omega, ?_, ?_, fun j H4 j0 j1 d4 s4 => ?_⟩
    · rw [List.length_map]; omega
    · rw [List.length_map]; omega
    rw [List.length_map] at j1
    have hj : j.toNat < rest.length := by omega
    have es4 := s4.at nb es
    have ef4 := s4.at nf ef
    have ea4 := s4.at na ea
    refine ⟨sb, _, j, j.toNat, vc rest[j.toNat], rfl, rfl, es4, by omega, by omega, ?_, ?_, ?_⟩
    · exact (ixN_seq (ixN_nat j0 (by rw [List.length_map]; omega))).1
    · rw [List.getElem?_map, List.getElem?_eq_getElem hj]; rfl
    have ef5 : (upd H4 sb (.lst ((rest.map vc).eraseIdx j.toNat))) fa = some (.lst (xs.map vc)) := by rw [upd_ne nbf.symm]; exact ef4
    refine ⟨_, ef5, by rw [List.length_map]; exact small1000 (by omega), n' + 1, xs ++ [rest[j.toNat]], rest.eraseIdx j.toNat, (d4.put nb _).put nf _, by omega, ((s'.trans s4).put nbH _).put nfH _, by rw [List.length_append, hmi]; rfl, (perm_pop hj xs).trans pm, by rw [upd_same, List.map_append]; rfl, by rw [upd_ne nbf, upd_same, erase_vc], by rw [upd_ne nsf, upd_ne nab]; exact ea4⟩
  obtain ⟨n', xs, rest, d', hn', s', hmi, pm, ef, es, ea⟩ := hp
  have xnd : xs.Nodup := (List.nodup_append.mp (pm.nodup_iff.mpr abcN_nd)).1
  have xlo : ∀ c ∈ xs, lowc c := fun c hc => abcN_low c (pm.mem_iff.mp (List.mem_append_left _ hc))
  have lm : 1 ≤ xs.length := by omega
  show tOr (tTest (tOp rEq (tVar 2) (tC (V.int 0)))) (tTest (tOp rEq (tVar 2) (tC (V.int 2)))) _ _ _
  refine tor_of (a := decide (V.int wy = V.int 0)) (b := decide (V.int wy = V.int 2)) (fun Q' q => ⟨_, rfl, rfl, _, rfl, q⟩) (fun Q' q => ⟨_, rfl, rfl, _, rfl, q⟩) ?_
  refine ite2 (fun _ => ?_) (fun _ => ?_)
  · refine ⟨_, rfl, fa, rfl, ⟨_, SqL.of ef⟩, fun LL nL => ?_⟩
    have kl := same_new nL (.lst [])
    have nl2 := d'.new nL
    have nlH : H LL = none := s'.free d' nL
    have naL : sa ≠ LL := ne_of_none ea nL
    have nfL : fa ≠ LL := ne_of_none ef nL
    refine lc_it (walk_list (K := K) (a := fa) (xs := xs.map vc)) (fun i H' => ∃ (n' : Nat) (vs : List V) (L' : Ld), DeckOk H' D n' ∧ n' ≤ n + 28 + i ∧ SameD D H H' ∧ H' fa = some (.lst (xs.map vc)) ∧ H' sa = some (.lst (abcN.map vc)) ∧ L'.map (·.1) = xs.take i ∧ (∀ p ∈ L', lowc p.2) ∧ H' LL = some (.lst vs) ∧ PrsAt H' vs L')
      ⟨n', [], [], d'.same kl, by omega, s'.trans (.of kl), kl _ _ ef, kl _ _ ea, rfl, (fun _ h => nomatch h), upd_same, .nil⟩ (fun i H' _ hp => by obtain ⟨_, _, _, _, _, _, e, _⟩ := hp; exact SqL.of e) (fun i y H' H'' hi hp hy => ?_) (fun H' hp => ?_)
    · obtain ⟨e1, hy⟩ := hy
      subst e1
      rw [List.getElem?_map] at hy
      obtain ⟨c, hc, rfl⟩ := Option.map_eq_some_iff.mp hy
      rw [List.length_map] at hi
      obtain ⟨n2, vs, L', d2, hn2, s2, ef2, ea2, ek, el, eL, pr⟩ := hp
      refine ⟨rfl, kept ?_⟩
      refine ⟨_, rfl, _, rfl, _, rfl, D, n2, 26, rfl, d2, by omega, by decide, by decide, fun j H4 j0 j1 d4 s4 => ?_⟩
      have jl : j.toNat < abcN.length := by rw [abcN_len]; omega
      obtain ⟨x, ja, la⟩ : ∃ x, atI (abcN.map vc) j = some (vc x) ∧ lowc x := ⟨abcN.getD j.toNat 0, by have := at_vc (w := abcN) jl; rw [Int.toNat_of_nonneg j0] at this; exact this, abcN_low _ (getD_mem jl)⟩
      refine ⟨sa, _, j, _, rfl, rfl, SqL.of (s4.at na ea2), ja, (by show 2 ≤ sizeLine; decide), fun T nT => ?_⟩
      have kT := same_new nT (.tup [vc c, vc x])
      have eL4 := kT _ _ (s4.at nl2 eL)
      have ntL : T ≠ LL := fun z => by rw [z, s4.at nl2 eL] at nT; cases nT
      refine ⟨vs, eL4, ?_, n2 + 1, vs ++ [.ref T], L' ++ [(c, x)], (d4.same kT).put nl2 _, by omega, ((s2.trans s4).trans (.of kT)).put nlH _, by rw [upd_ne nfL]; exact kT _ _ (s4.at nf ef2), by rw [upd_ne naL]; exact kT _ _ (s4.at na ea2), ?_, fun p hp => ?_, upd_same, ?_⟩
      · rw [pr.length, show L'.length = i by rw [← List.length_map (f := (·.1)), ek, List.length_take]; omega]
        have : sizeLine = 16777216 := rfl
        omega
      · rw [List.map_append, ek, List.take_add_one, hc]
        rfl
      · rcases List.mem_append.mp hp with h | h
        · exact el p h
        · rw [List.mem_singleton.mp h]; exact la
      · have p4 := (pr.keep (s4.keepT d2)).keep (fun b o h => kT b _ h)
        exact (p4.keep (keep_lst eL4 _)).snoc (by rw [upd_ne ntL, upd_same])
    · obtain ⟨n2, vs, L', d2, hn2, s2, ef2, ea2, ek, el, eL, pr⟩ := hp
      rw [List.length_map] at ek hn2
      rw [List.take_length] at ek
      exact q LL L' n2 H' d2 (by omega) s2 ⟨vs, eL, pr⟩ (ne_of_keys ek lm) (.of ek xnd xlo el) nl2
  refine ⟨_, rfl, rfl, _, rfl, ite2 (fun _ => ?_) (fun _ => ?_)⟩
  · refine ⟨_, rfl, fa, rfl, ⟨_, SqL.of ef⟩, fun LL nL => ?_⟩
    have kl := same_new nL (.lst [])
    have nl2 := d'.new nL
    have nlH : H LL = none := s'.free d' nL
    have nfL : fa ≠ LL := ne_of_none ef nL
    refine lc_it (walk_list (K := K) (a := fa) (xs := xs.map vc)) (fun i H' => ∃ (vs : List V) (L' : Ld), DeckOk H' D n' ∧ SameD D H H' ∧ H' fa = some (.lst (xs.map vc)) ∧ L'.map (·.1) = xs.take i ∧ (∀ p ∈ L', lowc p.2) ∧ H' LL = some (.lst vs) ∧ PrsAt H' vs L')
      ⟨[], [], d'.same kl, s'.trans (.of kl), kl _ _ ef, rfl, (fun _ h => nomatch h), upd_same, .nil⟩ (fun i H' _ hp => by obtain ⟨_, _, _, _, e, _⟩ := hp; exact SqL.of e) (fun i y H' H'' hi hp hy => ?_) (fun H' hp => ?_)
    · obtain ⟨e1, hy⟩ := hy
      subst e1
      rw [List.getElem?_map] at hy
      obtain ⟨c, hc, rfl⟩ := Option.map_eq_some_iff.mp hy
      rw [List.length_map] at hi
      obtain ⟨vs, L', d2, s2, ef2, ek, el, eL, pr⟩ := hp
      refine ⟨rfl, kept ?_⟩
      refine ⟨_, rfl, _, rfl, (by show 2 ≤ sizeLine; decide), fun T nT => ?_⟩
      have kT := same_new nT (.tup [vc c, vc c])
      have eL4 := kT _ _ eL
      have ntL : T ≠ LL := fun z => by rw [z, eL] at nT; cases nT
      refine ⟨vs, eL4, ?_, vs ++ [.ref T], L' ++ [(c, c)], (d2.same kT).put nl2 _, (s2.trans (.of kT)).put nlH _, by rw [upd_ne nfL]; exact kT _ _ ef2, ?_, fun p hp => ?_, upd_same, ?_⟩
      · rw [pr.length, show L'.length = i by rw [← List.length_map (f := (·.1)), ek, List.length_take]; omega]
        have : sizeLine = 16777216 := rfl
        omega
      · rw [List.map_append, ek, List.take_add_one, hc]
        rfl
      · rcases List.mem_append.mp hp with h | h
        · exact el p h
        · rw [List.mem_singleton.mp h]; exact xlo _ (List.mem_of_getElem? hc)
      · exact ((pr.keep (fun b o h => kT b _ h)).keep (keep_lst eL4 _)).snoc (by rw [upd_ne ntL, upd_same])
    · obtain ⟨vs, L', d2, s2, ef2, ek, el, eL, pr⟩ := hp
      rw [List.length_map, List.take_length] at ek
      exact q LL L' n' H' d2 (by omega) s2 ⟨vs, eL, pr⟩ (ne_of_keys ek lm) (.of ek xnd xlo el) nl2
  refine ⟨_, rfl, _, rfl, fa, _, rfl, .inl (SqL.of ef), D, n', _, rfl, d', by omega, ?_, ?_, fun j H4 j0 j1 d4 s4 => ?_⟩
  · rw [List.length_map]; omega
  · rw [List.length_map]; omega
  rw [List.length_map] at j1
  refine ⟨_, _, rfl, rfl, ?_⟩
  obtain ⟨k, hk⟩ : ∃ k : Nat, 1 + j = (k : Int) := ⟨(1 + j).toNat, by omega⟩
  have kx : k ≤ xs.length := by omega
  show gName 7 (V.int (1 + j)) _ _ _
  rw [hk]
  have ef4 := s4.at nf ef
  refine ⟨_, rfl, _, rfl, _, rfl, _, rfl, fa, _, rfl, SqL.of ef4, fun p1 np1 => ?_⟩
  rw [cut_from, ← List.map_drop]
  have k1 := same_new np1 (.lst ((xs.drop k).map vc))
  have e1 : upd H4 p1 (.lst ((xs.drop k).map vc)) p1 = some (.lst ((xs.drop k).map vc)) := upd_same
  have ef5 := k1 _ _ ef4
  have d5 := d4.same k1
  have s5 := (s'.trans s4).trans (SameD.of k1)
  generalize upd H4 p1 (.lst ((xs.drop k).map vc)) = H5 at e1 ef5 d5 s5 ⊢
  refine ⟨_, rfl, _, rfl, _, rfl, fa, _, rfl, SqL.of ef5, fun p2 np2 => ?_⟩
  rw [cut_to, ← List.map_take]
  have k2 := same_new np2 (.lst ((xs.take k).map vc))
  have e2 : upd H5 p2 (.lst ((xs.take k).map vc)) p2 = some (.lst ((xs.take k).map vc)) := upd_same
  have ef6 := k2 _ _ ef5
  have e16 := k2 _ _ e1
  have d6 := d5.same k2
  have s6 := s5.trans (SameD.of k2)
  generalize upd H5 p2 (.lst ((xs.take k).map vc)) = H6 at e2 e16 ef6 d6 s6 ⊢
  refine ⟨p1, p2, _, _, rfl, rfl, e16, e2, ?_, fun p3 np3 => ?_⟩
  · rw [List.length_map, List.length_map, List.length_drop, List.length_take]
    have : sizeLine = 16777216 := rfl
    omega
  rw [← List.map_append]
  have k3 := same_new np3 (.lst ((xs.drop k ++ xs.take k).map vc))
  have l2 : xs.length = (xs.drop k ++ xs.take k).length := by
    rw [List.length_append, List.length_drop, List.length_take]
    omega
  refine ⟨fa, p3, _, _, rfl, SqL.of (k3 _ _ ef6), SqL.of upd_same, by rw [List.length_map, List.length_map]; exact l2, fun p H' ts k4 nP eP lt outs => ?_⟩
  rw [List.length_map] at lt
  have d7 := (d6.same k3)
  have key : (xs.zip (xs.drop k ++ xs.take k)).map (·.1) = xs := List.map_fst_zip (Nat.le_of_eq l2)
  refine q p _ (n' + 1) H' (d7.same k4) (by omega) ((s6.trans (.of k3)).trans (.of k4)) ⟨_, eP, outs_prs lt l2 outs⟩ (ne_of_keys key lm) (.of key xnd xlo fun z hz => ?_) (d7.new nP)
  have := (List.of_mem_zip (a := z.1) (b := z.2) hz).2
  rcases List.mem_append.mp this with h | h
  · exact xlo _ (List.mem_of_mem_drop h)
  · exact xlo _ (List.mem_of_mem_take h)
end
/-! ### _law_to, _law_text, _law_led, _law_due -/
theorem found_tgt (c : Nat) : ∀ L : Ld, ((L.filter fun p => p.1 == c).map (·.2) ++ [c])[0]? = some (tgt L c)
  | [] => rfl
  | (a, b) :: L => by
    rw [tgt_cons]
    by_cases h : a = c
    · rw [List.filter_cons_of_pos (by simpa using h), if_pos h]; rfl
    · rw [List.filter_cons_of_neg (by simpa using h), if_neg h]
      exact found_tgt c L
theorem TabAt.same {H H' : Hp} {p : Addr} {L : Ld} (t : TabAt H p L) (s : Same H H') : TabAt H' p L := by
  obtain ⟨vs, h1, h2⟩ := t
  exact ⟨vs, s _ _ h1, h2.keep fun b xs e => s _ _ e⟩
def spTo : Sp := fun vs H Q _ => ∃ (p : Addr) (L : Ld) (c : Nat), vs = [.ref p, vc c] ∧ TabAt H p L ∧ L.length ≤ 26 ∧ ∀ H', Same H H' → Q (vc (tgt L c)) H'
def spText : Sp := fun vs H Q _ => ∃ (p : Addr) (L : Ld), vs = [.ref p] ∧ TabAt H p L ∧ L.length ≤ 26 ∧ ∀ H', Same H H' → Q (.str (rowText L)) H'
def spLedL : Sp := fun vs H Q _ => ∃ (p : Addr) (L : Ld) (c t : Nat), vs = [.ref p, vc c, .int (t : Int)] ∧ TabAt H p L ∧ LdOk L ∧ lowc c ∧ ∀ H', Same H H' → Q (vc (ledOf (tgt L) c t)) H'
section
variable {P : Program} {w : World} {K : PySem.W.Frag} {mg : Str → Option Value} {base : Heap} {f : Addr} {fd : FuncData}
theorem ok_to (F : Fun K "_law_to" "_law_to" s__law_to f fd) (M : Mgs mg) : FnOk P w K mg base CX0 1 f fd ["_law_rows", "_law_letter"] spTo := by
  refine F.ok sc__law_to (fun vs H Q E h => ?_) (fun cdv A outer s H vs Q E hr h => ?_)
  · obtain ⟨p, L, c, rfl, _⟩ := h
    rfl
  obtain ⟨p, L, c, rfl, ⟨vs, ep, pr⟩, few, q⟩ := h
  refine ⟨_, (pss_cons (ps_setLc (i := 4) (own := [("_law_own", 2), ("_law_other", 3)]) (g := gTup K 2 (gCons (gName 2) (gCons (gName 3) gNil))) (by rfl) sc__law_to.nd rfl rfl (sw_true rfl rfl rfl (by decide +kernel)) (pi_list (pv 0)) (blkOk_by (N := ["_law_rows", "_law_letter", "_law_own", "_law_other", "_law_found"]) (sc := defScope s__law_to) (by decide +kernel)) (fun _ _ _ _ _ => (pg_tup rfl (pgs_cons (pg_name (i := 2) sc__law_to.nd rfl (.inl rfl)) (pgs_cons (pg_name (i := 3) sc__law_to.nd rfl (.inl rfl)) pgs_nil)))) (fun _ _ _ _ _ => pts_one (pt_cmpR op_eq (pv 2) (pv 1) (nomark _))) (fun _ _ _ _ _ => (pv 3)))
    (pss_one (ps_ret (pe_ix ix_list (pe_op op_cat (pv 4) (pe_lst (pa_cons (pv 1) pa_nil))) pe_int (fun _ _ => rfl))))), ?_⟩
  refine ⟨_, rfl, p, rfl, ⟨_, SqL.of ep⟩, fun D nD => ?_⟩
  have k1 := same_new nD (.lst [])
  have npD : p ≠ D := ne_of_none ep nD
  refine lc_it (walk_list (K := K) (a := p) (xs := vs)) (fun i H' => (∀ b o, b ≠ D → H b = some o → H' b = some o) ∧ H' D = some (.lst ((((L.take i).filter fun p => p.1 == c).map (·.2)).map vc))) ⟨fun b o hb e => by rw [upd_ne hb]; exact e, upd_same⟩ (fun i H' _ hp => SqL.of (hp.1 _ _ npD ep)) (fun i y H' H'' hi hp hy => ?_) (fun H' hp => ?_)
  · obtain ⟨e1, hy⟩ := hy
    subst e1
    obtain ⟨a, x, z, rfl, hL, ea⟩ := pr.get hy
    have naD : a ≠ D := ne_of_none ea nD
    have ea' := hp.1 _ _ naD ea
    refine ⟨a, _, rfl, SqT.of ea', rfl, _, _, rfl, _, _, rfl, rfl, rfl, ?_⟩
    have tk : L.take (i + 1) = L.take i ++ [(x, z)] := by rw [List.take_add_one, hL]; rfl
    refine ⟨_, rfl, _, rfl, rfl, _, rfl, ?_⟩
    have il : i < L.length := (List.getElem?_eq_some_iff.mp hL).1
    by_cases hx : x = c
    · have e : decide (vc x = vc c) = true := decide_eq_true (by rw [hx])
      rw [e]
      refine iteT ⟨_, rfl, _, hp.2, ?_, fun b o hb h => by rw [upd_ne hb]; exact hp.1 _ _ hb h, ?_⟩
      · rw [List.length_map, List.length_map]
        have := List.length_filter_le (fun p : Nat × Nat => p.1 == c) (L.take i)
        have h2 : (L.take i).length ≤ 26 := by rw [List.length_take]; omega
        have h3 : sizeLine = 16777216 := rfl
        omega
      · rw [upd_same, tk, List.filter_append, List.map_append, List.map_append]
        rw [List.filter_cons_of_pos (a := (x, z)) (by simpa using hx)]
        rfl
    · have e : decide (vc x = vc c) = false := decide_eq_false fun z => hx (ch_inj (by injection z))
      rw [e]
      refine iteF ⟨hp.1, ?_⟩
      rw [tk, List.filter_append, List.filter_cons_of_neg (a := (x, z)) (by simpa using hx), List.filter_nil, List.append_nil]
      exact hp.2
  rw [pr.length, List.take_length] at hp
  obtain ⟨s1, eD⟩ := hp
  have sm : Same H H' := fun b o e => s1 _ _ (ne_of_none e nD) e
  refine ⟨_, rfl, _, rfl, (by show 1 ≤ sizeLine; decide), fun l nl => ?_⟩
  have k2 := same_new nl (.lst [vc c])
  refine ⟨D, l, _, _, rfl, rfl, k2 _ _ eD, upd_same, ?_, fun p3 np3 => ?_⟩
  · rw [List.length_map, List.length_map]
    have := List.length_filter_le (fun p : Nat × Nat => p.1 == c) L
    have h3 : sizeLine = 16777216 := rfl
    show _ + 1 ≤ sizeLine
    omega
  have ft := found_tgt c L
  refine ⟨p3, _, 0, _, rfl, rfl, SqL.of upd_same, atI_nat (j := 0) (v := vc (tgt L c)) ?_, q _ (sm.trans (k2.trans (same_new np3 _)))⟩
  rw [show [vc c] = [c].map vc from rfl, ← List.map_append, List.getElem?_map, ft]
  rfl
theorem ok_text (F : Fun K "_law_text" "_law_text" s__law_text f fd) (M : Mgs mg) : FnOk P w K mg base CX0 1 f fd ["_law_rows"] spText := by
  refine F.ok sc__law_text (fun vs H Q E h => ?_) (fun cdv A outer s H vs Q E hr h => ?_)
  · obtain ⟨p, L, rfl, _⟩ := h
    rfl
  obtain ⟨p, L, rfl, ⟨vs, ep, pr⟩, few, q⟩ := h
  refine ⟨_, (pss_one (ps_ret (pe_bm PySem.F.plainAttrs_str PySem.F.slot_str_join PySem.F.type_str_join mt_join pe_str (pa_cons (pe_lc (own := [("_law_own", 1), ("_law_other", 2)]) (g := gTup K 2 (gCons (gName 1) (gCons (gName 2) gNil))) (tt := tYes) rfl sc__law_text.nd (pi_list (pv 0)) (blkOk_by (N := ["_law_rows", "_law_own", "_law_other"]) (sc := defScope s__law_text) (by decide +kernel)) (fun _ _ _ _ _ => (pg_tup rfl (pgs_cons (pg_name (i := 1) sc__law_text.nd rfl (.inl rfl)) (pgs_cons (pg_name (i := 2) sc__law_text.nd rfl (.inl rfl)) pgs_nil)))) (fun _ _ _ _ _ => pts_nil) (fun _ _ _ _ _ => (pe_op op_add_str (pe_op op_add_str (pv 1) pe_str) (pv 2)))) pa_nil)))), ?_⟩
  refine ⟨rfl, _, rfl, p, rfl, ⟨_, SqL.of ep⟩, fun D nD => ?_⟩
  have k1 := same_new nD (.lst [])
  have npD : p ≠ D := ne_of_none ep nD
  refine lc_it (walk_list (K := K) (a := p) (xs := vs)) (fun i H' => (∀ b o, b ≠ D → H b = some o → H' b = some o) ∧ H' D = some (.lst (((L.take i).map fun p => tx (wordOf p)).map V.str))) ⟨fun b o hb e => by rw [upd_ne hb]; exact e, upd_same⟩ (fun i H' _ hp => SqL.of (hp.1 _ _ npD ep)) (fun i y H' H'' hi hp hy => ?_) (fun H' hp => ?_)
  · obtain ⟨e1, hy⟩ := hy
    subst e1
    obtain ⟨a, x, z, rfl, hL, ea⟩ := pr.get hy
    have naD : a ≠ D := ne_of_none ea nD
    have ea' := hp.1 _ _ naD ea
    refine ⟨a, _, rfl, SqT.of ea', rfl, _, _, rfl, _, _, rfl, rfl, rfl, kept ?_⟩
    have tk : L.take (i + 1) = L.take i ++ [(x, z)] := by rw [List.take_add_one, hL]; rfl
    have il : i < L.length := (List.getElem?_eq_some_iff.mp hL).1
    refine ⟨_, rfl, _, _, rfl, rfl, small (by show 2 ≤ 1000; decide), _, rfl, _, _, rfl, rfl, small (by show 3 ≤ 1000; decide), ?_⟩
    rw [show ch x ++ Str.ofString ">" ++ ch z = tx (wordOf (x, z)) from word_join x z]
    refine ⟨_, hp.2, ?_, fun b' o hb e => by rw [upd_ne hb]; exact hp.1 _ _ hb e, ?_⟩
    · rw [List.length_map, List.length_map, List.length_take]
      have : sizeLine = 16777216 := rfl
      omega
    · rw [upd_same, tk, List.map_append, List.map_append]
      rfl
  rw [pr.length, List.take_length] at hp
  obtain ⟨s1, eD⟩ := hp
  refine ⟨_, D, L.map fun p => tx (wordOf p), rfl, rfl, .inl (SqL.of eD), ?_, q _ fun b o e => s1 _ _ (ne_of_none e nD) e⟩
  have e3 : ((L.map fun p => tx (wordOf p)).map (·.length)).sum = 3 * L.length := by
    rw [← sum_words, List.map_map, List.map_map]
    rfl
  rw [e3, List.length_map]
  show 3 * L.length + L.length * 1 ≤ 16777216
  omega
theorem ok_led (F : Fun K "_law_led" "_law_led" s__law_led f fd) (M : Mgs mg) (D_law_to : Df P w K mg base 1 "_law_to" ["_law_rows", "_law_letter"] spTo) : FnOk P w K mg base CX0 2 f fd ["_law_rows", "_law_letter", "_law_times"] spLedL := by
  refine F.ok sc__law_led (fun vs H Q E h => ?_) (fun cdv A outer s H vs Q E hr h => ?_)
  · obtain ⟨p, L, c, t, rfl, _⟩ := h
    rfl
  obtain ⟨rp, L, c, t, rfl, ra, ok, hc, q⟩ := h
  have lf : ∀ c, lowc c → lowc (tgt L c) := fun c => tgt_low ok
  have few := ok.len
  refine ⟨_, (pss_cons (ps_set (i := 3) sc__law_led.nd rfl (.inl rfl) (pe_lst (pa_cons (pv 1) pa_nil)))
    (pss_cons (ps_while PassesOwn.never (pt_cmpR op_notIn_seq (pe_call D_law_to.ok (hr.mono (by omega)) rfl D_law_to.g D_law_to.kp D_law_to.b .nil pass0 (pa_cons (pv 0) (pa_cons (pe_ix ix_list (pv 3) (pe_un un_neg pe_int) (fun _ _ => rfl)) pa_nil))) (pv 3) (by rfl))
      (pss_one (ps_expr (pe_bm PySem.F.plainAttrs_list PySem.F.slot_list_append PySem.F.type_list_append mt_append (pv 3) (pa_cons (pe_call D_law_to.ok (hr.mono (by omega)) rfl D_law_to.g D_law_to.kp D_law_to.b .nil pass0 (pa_cons (pv 0) (pa_cons (pe_ix ix_list (pv 3) (pe_un un_neg pe_int) (fun _ _ => rfl)) pa_nil))) pa_nil)))))
    (pss_cons (ps_set (i := 4) sc__law_led.nd rfl (.inl rfl) (pe_bm PySem.F.plainAttrs_list PySem.F.slot_list_index PySem.F.type_list_index mt_index (pv 3) (pa_cons (pe_call D_law_to.ok (hr.mono (by omega)) rfl D_law_to.g D_law_to.kp D_law_to.b .nil pass0 (pa_cons (pv 0) (pa_cons (pe_ix ix_list (pv 3) (pe_un un_neg pe_int) (fun _ _ => rfl)) pa_nil))) pa_nil)))
    (pss_cons (ps_if (pt_cmpR op_lt (pv 2) (pe_callB call_len_seq rfl M.len PySem.boot_len (pa_cons (pv 3) pa_nil)) (nomark _))
      (pss_one (ps_ret (pe_ix ix_list (pv 3) (pv 2) (fun _ _ => rfl)))) pss_nil)
    (pss_one (ps_ret (pe_ix ix_list (pv 3) (pe_op op_add (pv 4) (pe_op op_mod (pe_op op_sub (pv 2) (pv 4)) (pe_op op_sub (pe_callB call_len_seq rfl M.len PySem.boot_len (pa_cons (pv 3) pa_nil)) (pv 4)))) (fun _ _ => rfl)))))))), ?_⟩
  refine ⟨_, rfl, (by show 1 ≤ sizeLine; decide), fun p np => ?_⟩
  have sN := same_new np (.lst [vc c])
  refine ⟨fun m σ' H' => ∃ w : List Nat, σ' = [some (.ref rp), some (vc c), some (.int (t : Int)), some (.ref p), none] ∧ Same H H' ∧ H' p = some (.lst (w.map vc)) ∧ Way (tgt L) w ∧ m + w.length = 27 ∧ grow (tgt L) m w = wayOf (tgt L) c, ⟨26, [c], rfl, sN, upd_same, Way.one hc, rfl, rfl⟩, ?_⟩
  rintro m σ1 H1 ⟨w, rfl, s1, e1, W, ml, gw⟩
  refine ⟨_, rfl, _, rfl, 1, rfl, p, _, _, _, rfl, rfl, SqL.of e1, at_neg W.ne, rp, L, _, rfl, ra.same s1, few, fun H2 s2 => ?_⟩
  have e2 := s2 _ _ e1
  have s12 := s1.trans s2
  refine ⟨_, rfl, p, _, rfl, .inl (SqL.of e2), rfl, flat_vc w, ?_⟩
  rw [in_vc]
  by_cases st : tgt L (w.getLastD 0) ∈ w
  · rw [decide_eq_true st]
    have wl : w = wayOf (tgt L) c := by rw [← gw, grow_stop st]
    have bl : w.idxOf (tgt L (w.getLastD 0)) = backOf (tgt L) c := by unfold backOf; rw [← wl]
    refine ⟨_, rfl, iteF ?_⟩
    have hb := back_lt lf hc
    have lv := led_at lf hc t
    have le := (way_ok lf hc).1.le
    have hb0 := hb
    rw [← wl] at hb lv le
    refine ⟨_, rfl, .inl ⟨rfl, _, SqL.of e2⟩, _, rfl, _, rfl, 1, rfl, p, _, _, _, rfl, rfl, SqL.of e2, at_neg W.ne, rp, L, _, rfl, ra.same s12, few, fun H3 s3 => ?_⟩
    have e3 := s3 _ _ e2
    have s13 := s12.trans s3
    refine ⟨p, _, _, _, _, rfl, rfl, SqL.of e3, rfl, flat_vc w, (idx_vc st).1, by rw [eqV_vc]; exact decide_eq_true rfl, (idx_vc st).2, ?_⟩
    rw [bl]
    refine ⟨_, rfl, _, rfl, p, _, rfl, .inl (SqL.of e3), _, _, rfl, rfl, _, rfl, ?_⟩
    rw [List.length_map]
    by_cases g : t < w.length
    · have e : decide ((t : Int) < ((w.length : Nat) : Int)) = true := decide_eq_true (by omega)
      rw [e]
      refine iteT ⟨_, rfl, _, rfl, p, _, _, _, rfl, rfl, SqL.of e3, at_vc g, ?_⟩
      have q' := q _ s13
      rw [led_short (by rw [← wl]; exact g), ← wl] at q'
      exact q'
    · have e : decide ((t : Int) < ((w.length : Nat) : Int)) = false := decide_eq_false (by omega)
      rw [e]
      refine iteF ?_
      have q' := q _ s13
      rw [led_long hb0 (by rw [← wl]; exact g), ← wl] at q'
      refine ⟨_, rfl, _, rfl, _, rfl, _, rfl, _, _, rfl, rfl, _, rfl, p, _, rfl, .inl (SqL.of e3), _, rfl, _, _, rfl, rfl, ?_⟩
      rw [List.length_map]
      refine ⟨_, _, rfl, rfl, (by omega), _, _, rfl, rfl, p, _, _, _, rfl, rfl, SqL.of e3, ?_, q'⟩
      rw [show ((backOf (tgt L) c : Nat) : Int) + ((t : Int) - ((backOf (tgt L) c : Nat) : Int)) % ((w.length : Int) - ((backOf (tgt L) c : Nat) : Int)) = ((backOf (tgt L) c + (t - backOf (tgt L) c) % (w.length - backOf (tgt L) c) : Nat) : Int) by
        rw [Int.natCast_add, Int.natCast_emod, Int.natCast_sub (by omega), Int.natCast_sub (by omega)]]
      exact at_vc lv
  · rw [decide_eq_false st]
    refine ⟨_, rfl, iteT ⟨_, fun σ' H' z => z, ?_⟩⟩
    have wle := W.le
    refine ⟨_, rfl, .inl ⟨rfl, _, SqL.of e2⟩, _, rfl, _, rfl, 1, rfl, p, _, _, _, rfl, rfl, SqL.of e2, at_neg W.ne, rp, L, _, rfl, ra.same s12, few, fun H3 s3 => ?_⟩
    have e3 := s3 _ _ e2
    have s13 := s12.trans s3
    refine ⟨p, _, _, rfl, rfl, e3, (by rw [List.length_map]; show w.length < sizeLine; have : sizeLine = 16777216 := rfl; omega), ?_⟩
    have s2' : Same H (upd H3 p (.lst (w.map vc ++ [vc (tgt L (w.getLastD 0))]))) := fun b o e => by
      rw [upd_ne (ne_of_none e np)]
      exact s13 b o e
    refine ⟨m - 1, by omega, w ++ [tgt L (w.getLastD 0)], rfl, s2', by rw [upd_same, List.map_append]; rfl, W.more lf st, by rw [List.length_append]; show m - 1 + (w.length + 1) = 27; omega, ?_⟩
    rw [← gw, show m = (m - 1) + 1 by omega, grow_step st]
    rfl
def spDueN (n : Nat) : Sp := fun vs H Q _ => ∃ (v : V) (rp : Addr) (t : B) (L : Ld) (m : Nat), vs = [v, .ref rp, .int (m : Int)] ∧ BAt H v t ∧ TabAt H rp L ∧ LdOk L ∧ t.lows ∧ t.size < n ∧ ∀ v' H', Same H H' → BAt H' v' (t.mapL fun c => ledOf (tgt L) c m) → Q v' H'
theorem ok_due (F : Fun K "_law_due" "_law_due" s__law_due f fd) (b : Binds K fd ["_law_tree_here", "_law_rows", "_law_times"] []) (g : mg "_law_due" = some (.ref f)) (M : Mgs mg) (D_law_led : Df P w K mg base 2 "_law_led" ["_law_rows", "_law_letter", "_law_times"] spLedL) :
    ∀ n : Nat, FnOk P w K mg base CX0 (n + 3) f fd ["_law_tree_here", "_law_rows", "_law_times"] (spDueN n)
  | 0 => by
    have no : ∀ vs H Q E, ¬ spDueN 0 vs H Q E := fun vs H Q E h => by
      obtain ⟨v, rp, t, L, m, _, _, _, _, _, h1, _⟩ := h
      omega
    exact ⟨fun vs H Q E h => absurd h (no vs H Q E), fun A outer s H args us vs Q E _ _ _ _ h => absurd h (no vs H Q E)⟩
  | n + 1 => by
    have Dself : Df P w K mg base (n + 3) "_law_due" ["_law_tree_here", "_law_rows", "_law_times"] (spDueN n) := ⟨f, fd, ok_due F b g M D_law_led n, b, F.kp, g⟩
    refine F.ok sc__law_due (fun vs H Q E h => ?_) (fun cdv A outer s H vs Q E hr h => ?_)
    · obtain ⟨v, rp, t, L, m, rfl, _⟩ := h
      rfl
    obtain ⟨v, rp, t, L, m, rfl, hv, ta, ok, lo, hn, q⟩ := h
    refine ⟨_, (pss_cons (ps_if (pt_cmpR op_isN (pv 0) pe_non (nomark _))
      (pss_one (ps_ret pe_non)) pss_nil)
    (pss_cons (ps_par (i := 3) (j := 4) (by rfl) sc__law_due.nd rfl rfl (by decide) rfl rfl (pa_cons (pe_call Dself.ok (hr.mono (by omega)) rfl Dself.g Dself.kp Dself.b .nil pass0 (pa_cons (pe_ix ix_tup (pv 0) pe_int (fun _ _ => rfl)) (pa_cons (pv 1) (pa_cons (pv 2) pa_nil)))) (pa_cons (pe_call Dself.ok (hr.mono (by omega)) rfl Dself.g Dself.kp Dself.b .nil pass0 (pa_cons (pe_ix ix_tup (pv 0) pe_int (fun _ _ => rfl)) (pa_cons (pv 1) (pa_cons (pv 2) pa_nil)))) pa_nil)) (by rfl))
    (pss_one (ps_ret (pe_tup (pa_cons (pv 3) (pa_cons (pe_call D_law_led.ok (hr.mono (by omega)) rfl D_law_led.g D_law_led.kp D_law_led.b .nil pass0 (pa_cons (pv 1) (pa_cons (pe_ix ix_tup (pv 0) pe_int (fun _ _ => rfl)) (pa_cons (pv 2) pa_nil)))) (pa_cons (pv 4) pa_nil)))))))), ?_⟩
    rcases hv.inv with ⟨rfl, rfl⟩ | ⟨p, l, r, x, tl, tr, rfl, rfl, ep, hl, hr'⟩
    · exact ⟨_, rfl, rfl, _, rfl, iteT (q .non H (Same.refl H) .nil)⟩
    · have sz : (B.node tl x tr).size = tl.size + 1 + tr.size := rfl
      obtain ⟨lo1, lo2, lo3⟩ := lo
      refine ⟨_, rfl, rfl, _, rfl, iteF ?_⟩
      refine ⟨_, rfl, p, _, 0, _, rfl, rfl, SqT.of ep, atI_nat (j := 0) rfl, _, rfl, _, rfl, l, rp, tl, L, m, rfl, hl, ta, ok, lo1, by omega, fun v1 H1 s1 b1 => ?_⟩
      refine ⟨_, rfl, p, _, 2, _, rfl, rfl, SqT.of (s1 _ _ ep), atI_nat (j := 2) rfl, _, rfl, _, rfl, r, rp, tr, L, m, rfl, hr'.same s1, ta.same s1, ok, lo3, by omega, fun v2 H2 s2 b2 => ⟨_, _, rfl, ?_⟩⟩
      have s12 := s1.trans s2
      refine ⟨_, rfl, _, rfl, _, rfl, p, _, 1, _, rfl, rfl, SqT.of (s12 _ _ ep), atI_nat (j := 1) rfl, _, rfl, rp, L, x, m, rfl, ta.same s12, ok, lo2, fun H3 s3 => ?_⟩
      refine ⟨_, rfl, (by show 3 ≤ sizeLine; decide), fun z nz => ?_⟩
      have k := same_new nz (.tup [v1, vc (ledOf (tgt L) x m), v2])
      exact q _ _ ((s12.trans s3).trans k) (.node upd_same (b1.same ((s2.trans s3).trans k)) (b2.same (s3.trans k)))
end
/-! ### the law -/
def rStrOwn (C : Addr) (sp : Sp) : List V → Hp → VK → Prop := fun xs H Q => ∃ a dx fs, xs = [.ref a] ∧ H a = some (.ins C dx fs) ∧ sp [.ref a] H (fun z H' => ∃ x : Str, z = .str x ∧ Q z H') E0
theorem call_strOwn {X : Cx} {C g : Addr} {n : Nat} {sp : Sp} (hs : PySem.W.findIn X.K (.ref C) "__str__" = some (some (.ref g))) (hf : PySem.W.isFn X.K (.ref g) = true) (F : FnR X.prog X.w X.K X.mg X.base CX0 n g sp) (hr : Room (n + 2) X.A) : CallR X (.type "str") (rStrOwn C sp) := by
  intro pins s σ H xs us Q I r h
  obtain ⟨a, dx, fs, rfl, ea, q⟩ := h
  obtain ⟨u, rfl, ru⟩ := r.one
  cases (show u = Value.ref a from ru)
  obtain ⟨mA, O, _, _, _, _⟩ := ins_get I.hok ea
  obtain ⟨od, J, _⟩ := O.look
  have hr2 : Room n X.A.in1.in1 := (show Room (n + 1) X.A.in1 from Room.in1 hr).in1
  refine PySem.W.kso_call hr2.units0 I.kIn J hs hf (wpAny_mono (wpAny_call (SlX.run_at (us := [.ref a]) (ws := [.ref a]) F hr2 I.env0.in1.in1 pass0 I (.cons rfl .nil) q)) (fun v s' z => ?_) fun _ _ x => x)
  obtain ⟨z', H', I', rz, x, en, qz⟩ := z
  subst en
  obtain ⟨t, e⟩ := (show ∃ t, v = Value.str x t from rz)
  cases e
  exact ⟨.str x, H', I', ⟨_, rfl⟩, qz⟩
theorem low_lows : ∀ {t : B}, t.low → t.lows
  | .nil, _ => trivial
  | .node _ _ _, ⟨h1, h2, h3⟩ => ⟨low_lows h1, h2, low_lows h3⟩
theorem mapL_lows {g : Nat → Nat} (h : ∀ c, lowc c → lowc (g c)) : ∀ {t : B}, t.lows → (t.mapL g).lows
  | .nil, _ => trivial
  | .node _ _ _, ⟨h1, h2, h3⟩ => ⟨mapL_lows h h1, h _ h2, mapL_lows h h3⟩
theorem B.okR : ∀ {t : B}, t.lows → okR t.data = true ∧ wtR t.data ≤ 4 + 25 * t.size ∧ t.data.depth ≤ t.size
  | .nil, _ => ⟨rfl, by decide, by decide⟩
  | .node l x r, ⟨h1, h2, h3⟩ => by
    obtain ⟨a1, a2, a3⟩ := B.okR h1
    obtain ⟨b1, b2, b3⟩ := B.okR h3
    have hc : ((ch x).cps.toList.all (· < 128)) = true := by
      show ([x].all (· < 128)) = true
      have := h2.2
      simp; omega
    have hl : (ch x).length = 1 := rfl
    refine ⟨?_, ?_, ?_⟩
    · simp only [B.data, Tw.okR, okRs, a1, b1, hc, hl]
      decide
    · simp only [B.data, wtR, wtRs, hl, B.size]
      omega
    · simp only [B.data, PyData.depth, PyData.depthAll, B.size]
      omega
theorem sized {H H' : Hp} {D : Deck} {n : Nat} (s : SameD D H H') (d : DeckOk H D n) {b : Addr} {o : HO} (e : H b = some o) (nl : ∀ xs, o ≠ .lst xs) : H' b = some o := by
  obtain ⟨⟨x1, h1⟩, ⟨x2, h2⟩⟩ := d.lists
  exact s b o (fun z => by rw [z, h1] at e; exact nl _ (Option.some.inj e).symm) (fun z => by rw [z, h2] at e; exact nl _ (Option.some.inj e).symm) e
theorem Rn.sameD {C : Addr} {H H' : Hp} {a : Addr} {N : Ld} {D : Deck} {n : Nat} (r : Rn C H a N) (s : SameD D H H') (d : DeckOk H D n) : Rn C H' a N := by
  obtain ⟨dx, x, h1, h2⟩ := r
  exact ⟨dx, x, sized s d h1 (fun _ z => by cases z), sized s d h2 (fun _ z => by cases z)⟩
theorem TabAt.sameD {H H' : Hp} {p : Addr} {L : Ld} {D : Deck} {n : Nat} (t : TabAt H p L) (o : Off D p) (s : SameD D H H') (d : DeckOk H D n) : TabAt H' p L := by
  obtain ⟨vs, h1, h2⟩ := t
  exact ⟨vs, s.at o h1, h2.keep (s.keepT d)⟩
theorem rowText_low {L : Ld} (ok : LdOk L) : (rowText L).length ≤ 128 ∧ (rowText L).cps.toList.all (· < 128) = true := by
  refine ⟨by have := rowText_len L; have := ok.len; omega, ?_⟩
  show (TL.tl (rowText L)).all (· < 128) = true
  rw [rowText_tl]
  have : ∀ M : Ld, (∀ p ∈ M, lowc p.1 ∧ lowc p.2) → ∀ c ∈ TL.joinL [32] (M.map wordOf), c < 128 := by
    intro M
    induction M with
    | nil => intro _ c h; cases h
    | cons p M ih =>
      intro hM c h
      have hp := hM p List.mem_cons_self
      have hw : ∀ c ∈ wordOf p, c < 128 := fun c h => by
        have : c = p.1 ∨ c = 62 ∨ c = p.2 := by simpa [wordOf] using h
        have := hp.1.2
        have := hp.2.2
        omega
      cases M with
      | nil => exact hw c h
      | cons q M =>
        have h : c ∈ wordOf p ++ ([32] ++ TL.joinL [32] ((q :: M).map wordOf)) := h
        rcases List.mem_append.mp h with h | h
        · exact hw c h
        · rcases List.mem_append.mp h with h | h
          · rw [List.mem_singleton.mp h]; decide
          · exact ih (fun p hp => hM p (List.mem_cons_of_mem _ hp)) c h
  rw [List.all_eq_true]
  exact fun c hc => decide_eq_true (this L ok.low c hc)
theorem kept_ok {t : B} {N : Ld} (lo : t.lows) (z : t.size ≤ 12) (ok : LdOk N) : okR (.list [t.data, .str (rowText N)]) = true ∧ wtR (.list [t.data, .str (rowText N)]) ≤ 1000000 ∧ (PyData.list [t.data, .str (rowText N)]).depth ≤ 60 := by
  obtain ⟨a1, a2, a3⟩ := B.okR lo
  obtain ⟨b1, b2⟩ := rowText_low ok
  refine ⟨?_, ?_, ?_⟩
  · simp only [okR, okRs, a1, b2, decide_eq_true b1, Bool.and_self]
  · simp only [wtR, wtRs]
    omega
  · simp only [PyData.depth, PyData.depthAll]
    omega
theorem pair_ok {t : B} (lo : t.lows) (z : t.size ≤ 12) : okR (.list [t.data, t.data]) = true ∧ wtR (.list [t.data, t.data]) ≤ 1000000 ∧ (PyData.list [t.data, t.data]).depth ≤ 60 := by
  obtain ⟨a1, a2, a3⟩ := B.okR lo
  refine ⟨?_, ?_, ?_⟩
  · simp only [okR, okRs, a1, Bool.and_self]
  · simp only [wtR, wtRs]
    omega
  · simp only [PyData.depth, PyData.depthAll]
    omega
theorem five_ok {t : B} (lo : t.lows) (z : t.size ≤ 12) : okR (.list [t.data, t.data, t.data, .none, .none]) = true ∧ wtR (.list [t.data, t.data, t.data, .none, .none]) ≤ 1000000 ∧ (PyData.list [t.data, t.data, t.data, .none, .none]).depth ≤ 60 := by
  obtain ⟨a1, a2, a3⟩ := B.okR lo
  refine ⟨?_, ?_, ?_⟩
  · simp only [okR, okRs, a1, Bool.and_self]
  · simp only [wtR, wtRs]
    omega
  · simp only [PyData.depth, PyData.depthAll]
    omega
theorem BAt.non {H : Hp} {v : V} (h : BAt H v .nil) : v = .non := by cases h; rfl
def AllI (xs : List V) : Prop := ∀ x ∈ xs, ∃ m : Nat, x = V.int (m : Int)
theorem AllI.nil : AllI [] := fun _ h => nomatch h
theorem AllI.cons {i : Int} {xs : List V} (h0 : 0 ≤ i) (h : AllI xs) : AllI (.int i :: xs) := fun x hx => by
  rcases List.mem_cons.mp hx with rfl | hx
  · exact ⟨i.toNat, by rw [Int.toNat_of_nonneg h0]⟩
  · exact h x hx
theorem ne_self (x : Str) : (!decide (V.str x = V.str x)) = false := by simp
theorem InsC.of {X : Cx} {C : Addr} {H : Hp} {a : Addr} {N : Ld} (r : Rn C H a N) : StX.InsC X H a C := by
  obtain ⟨dx, d, h1, _⟩ := r
  exact .inr ⟨dx, _, h1⟩
section
variable {P : Program} {w : World} {K : PySem.W.Frag} {mg : Str → Option Value} {base : Heap} {f : Addr} {fd : FuncData}
theorem run_law {s : Shared} {H : Hp} {a0 : Addr} {ns : List Int} {C gR gO gS pm : Addr} {mc : Value} (F : Fun K "law" "law" s_law f fd) (bd : BindsTo s fd ⟨[.ref a0], []⟩ [("_law_script", .ref a0)]) (en : Env0 P w K mg base callerA [] s H) (hS : SqL K H a0 (ns.map V.int))
    (M : Mgs mg) (D_law_start : Df P w K mg base 1 "_law_start" ["_law_script"] (spDeck K)) (D_law_draw : Df P w K mg base 1 "_law_draw" ["_law_state", "_law_below"] spDraw) (D_law_table : Df P w K mg base 2 "_law_table" ["_law_state"] spTable) (D_law_tree : Df P w K mg base 29 "_law_tree" ["_law_state", "_law_limit"] spTree)
    (D_law_text : Df P w K mg base 1 "_law_text" ["_law_rows"] spText) (D_law_due : Df P w K mg base 16 "_law_due" ["_law_tree_here", "_law_rows", "_law_times"] (spDueN 13)) (gC : mg "Renaming" = some (.ref C)) (CR : ClX.CRead K C mc) (CM : ClX.CMet K C mc "read" pm gR) (FR : FnR P w K mg base CX0 4 gR (spRead C))
    (cO : StX.CallO K C gO) (FO : FnR P w K mg base CX0 19 gO (spCallR C 13)) (cS : PySem.W.findIn K (.ref C) "__str__" = some (some (.ref gS))) (fS : PySem.W.isFn K (.ref gS) = true) (FS : FnR P w K mg base CX0 1 gS (spStr C)) :
    codeAny (model P w) callerA (.call (.ref f) ⟨[.ref a0], []⟩) (L2.CR CX0 [] P w H s (fun v _ => v = .bl true) fun _ _ _ => False) s := by
  refine enter_def (k := 76) (vs := [.ref a0]) (us := [.ref a0]) F sc_law ⟨rfl, by decide, by decide⟩ en bd (.cons rfl .nil) rfl fun cdv hr => ?_
  refine ⟨_, (pss_cons (ps_set (i := 1) sc_law.nd rfl (.inl rfl) (pe_call D_law_start.ok (hr.mono (by omega)) rfl D_law_start.g D_law_start.kp D_law_start.b .nil pass0 (pa_cons (pv 0) pa_nil)))
    (pss_cons (ps_for PassesOwn.never rfl (pi_range1 rfl M.range (pa_cons pe_int pa_nil)) (pg_name (i := 2) sc_law.nd rfl (.inl rfl))
      (pss_cons (ps_par (i := 3) (j := 4) (by rfl) sc_law.nd rfl rfl (by decide) rfl rfl (pa_cons (pe_call D_law_table.ok (hr.mono (by omega)) rfl D_law_table.g D_law_table.kp D_law_table.b .nil pass0 (pa_cons (pv 1) pa_nil)) (pa_cons (pe_call D_law_tree.ok (hr.mono (by omega)) rfl D_law_tree.g D_law_tree.kp D_law_tree.b .nil pass0 (pa_cons (pv 1) (pa_cons pe_int pa_nil))) pa_nil)) (by rfl))
    (pss_cons (ps_set (i := 5) sc_law.nd rfl (.inl rfl) (ClX.pe_cmeth (pe_glob (v := .ref C) rfl gC rfl) CR CM FR (hr.mono (by omega)) pass0 (pa_cons (pe_call D_law_text.ok (hr.mono (by omega)) rfl D_law_text.g D_law_text.kp D_law_text.b .nil pass0 (pa_cons (pv 3) pa_nil)) pa_nil)))
    (pss_cons (ps_set (i := 6) sc_law.nd rfl (.inl rfl) (pe_callB (call_reprR rfl hr.units) rfl M.repr (by decide +kernel) (pa_cons (pe_lst (pa_cons (pv 4) (pa_cons (pe_callTy (call_strOwn cS fS FS (hr.mono (by omega))) rfl M.str (by decide +kernel) (pa_cons (pv 5) pa_nil)) pa_nil))) pa_nil)))
    (pss_cons (ps_set (i := 7) sc_law.nd rfl (.inl rfl) (pe_lst (pa_cons (StX.pe_callO (pv 5) cO FO (hr.mono (by omega)) pass0 (pa_cons (pv 4) pa_nil)) (pa_cons (StX.pe_callO (pv 5) cO FO (hr.mono (by omega)) pass0 (pa_cons (pv 4) (pa_cons pe_int pa_nil))) (pa_cons (StX.pe_callO (pv 5) cO FO (hr.mono (by omega)) pass0 (pa_cons (pv 4) pa_nil)) (pa_cons (StX.pe_callO (pv 5) cO FO (hr.mono (by omega)) pass0 (pa_cons pe_non pa_nil)) (pa_cons (StX.pe_callO (pv 5) cO FO (hr.mono (by omega)) pass0 (pa_cons pe_non (pa_cons (pe_op op_pow pe_int pe_int) pa_nil))) pa_nil)))))))
    (pss_cons (ps_set (i := 8) sc_law.nd rfl (.inl rfl) (pe_call D_law_due.ok (hr.mono (by omega)) rfl D_law_due.g D_law_due.kp D_law_due.b .nil pass0 (pa_cons (pv 4) (pa_cons (pv 3) (pa_cons pe_int pa_nil)))))
    (pss_cons (ps_if (pt_cmpR op_ne (pe_callB (call_reprR rfl hr.units) rfl M.repr (by decide +kernel) (pa_cons (pv 7) pa_nil)) (pe_callB (call_reprR rfl hr.units) rfl M.repr (by decide +kernel) (pa_cons (pe_lst (pa_cons (pv 8) (pa_cons (pv 8) (pa_cons (pv 8) (pa_cons pe_non (pa_cons pe_non pa_nil)))))) pa_nil)) (nomark _))
      (pss_one (ps_ret pe_bl)) pss_nil)
    (pss_cons (ps_for PassesOwn.never rfl (pi_list (pe_lst (pa_cons pe_int (pa_cons pe_int (pa_cons pe_int (pa_cons pe_int (pa_cons pe_int (pa_cons pe_int (pa_cons (pe_op op_pow pe_int pe_int) (pa_cons (pe_op op_sub (pe_op op_pow pe_int pe_int) pe_int) (pa_cons (pe_call D_law_draw.ok (hr.mono (by omega)) rfl D_law_draw.g D_law_draw.kp D_law_draw.b .nil pass0 (pa_cons (pv 1) (pa_cons pe_int pa_nil))) (pa_cons (pe_call D_law_draw.ok (hr.mono (by omega)) rfl D_law_draw.g D_law_draw.kp D_law_draw.b .nil pass0 (pa_cons (pv 1) (pa_cons (pe_op op_pow pe_int pe_int) pa_nil))) pa_nil)))))))))))) (pg_name (i := 9) sc_law.nd rfl (.inl rfl))
      (pss_cons (ps_set (i := 8) sc_law.nd rfl (.inl rfl) (pe_call D_law_due.ok (hr.mono (by omega)) rfl D_law_due.g D_law_due.kp D_law_due.b .nil pass0 (pa_cons (pv 4) (pa_cons (pv 3) (pa_cons (pv 9) pa_nil)))))
    (pss_one (ps_if (pt_cmpR op_ne (pe_callB (call_reprR rfl hr.units) rfl M.repr (by decide +kernel) (pa_cons (pe_lst (pa_cons (StX.pe_callO (pv 5) cO FO (hr.mono (by omega)) pass0 (pa_cons (pv 4) (pa_cons (pv 9) pa_nil))) (pa_cons (StX.pe_callO (pv 5) cO FO (hr.mono (by omega)) pass0 (pa_cons (pv 4) (pa_cons (pv 9) pa_nil))) pa_nil))) pa_nil)) (pe_callB (call_reprR rfl hr.units) rfl M.repr (by decide +kernel) (pa_cons (pe_lst (pa_cons (pv 8) (pa_cons (pv 8) pa_nil))) pa_nil)) (nomark _))
      (pss_one (ps_ret pe_bl)) pss_nil))))
    (pss_one (ps_if (pt_cmpR op_ne (pe_callB (call_reprR rfl hr.units) rfl M.repr (by decide +kernel) (pa_cons (pe_lst (pa_cons (pv 4) (pa_cons (pe_callTy (call_strOwn cS fS FS (hr.mono (by omega))) rfl M.str (by decide +kernel) (pa_cons (pv 5) pa_nil)) pa_nil))) pa_nil)) (pv 6) (nomark _))
      (pss_one (ps_ret pe_bl)) pss_nil))))))))))
    (pss_one (ps_ret pe_bl)))), ?_⟩
  refine ⟨_, rfl, a0, ns, rfl, hS, fun D H1 d1 s1 => ?_⟩
  refine ⟨8, rfl, by decide, by decide, ?_⟩
  refine for_range (lo := 0) (n := 8) (fun i σ H' => ∃ (o2 o3 o4 o5 o6 o7 o8 o9 : Option V) (c : Nat), σ = [some (.ref a0), some (.ref D.dk), o2, o3, o4, o5, o6, o7, o8, o9] ∧ DeckOk H' D c ∧ c ≤ 100 * i) ⟨none, none, none, none, none, none, none, none, 0, rfl, d1, by omega⟩ (fun i σ H2 hi hp => ?_) (fun σ H2 hp => rfl)
  obtain ⟨o2, o3, o4, o5, o6, o7, o8, o9, c0, rfl, d2, hc⟩ := hp
  refine ⟨_, rfl, D, c0, rfl, d2, by omega, fun p L n3 H3 d3 hn3 s3 tab neL okL oP => ?_⟩
  refine ⟨_, rfl, D, n3, 12, rfl, d3, by omega, by decide, by decide, fun v t n4 H4 d4 hn4 s4 bt t1 t12 tlow => ⟨_, _, rfl, ?_⟩⟩
  have tab4 := tab.sameD oP s4 d3
  have lo := low_lows tlow
  have l26 := okL.len
  refine ⟨rfl, _, rfl, p, L, rfl, tab4, l26, fun H5 s5 => ?_⟩
  refine ⟨L, rfl, neL, okL, fun a H6 N pN s6 na rn => ?_⟩
  have okN : LdOk N := (okL.filt _).perm pN
  have eT : tgt N = tgt L := funext fun c => tgt_same okL pN c
  have d6 := (d4.same s5).same s6
  have tab6 := (tab4.same s5).same s6
  have bt6 := (bt.same s5).same s6
  clear s4 s5 s6 d3 d4 tab tab4 bt s3
  obtain ⟨k1, k2, k3⟩ := kept_ok lo t12 okN
  have lf : ∀ c, lowc c → lowc (tgt L c) := fun c => tgt_low okL
  obtain ⟨dx, dd, ea, ed⟩ := id rn
  refine ⟨_, rfl, _, rfl, a, dx, renF dd, rfl, ea, a, N, rfl, rn, okN.len, okN, fun H7 s7 => ⟨_, rfl, (by show 2 ≤ sizeLine; decide), fun l nl => ?_⟩⟩
  have kl := same_new nl (.lst [v, .str (rowText N)])
  have bt8 := (bt6.same s7).same kl
  refine ⟨l, .list [t.data, .str (rowText N)], rfl, .lst (SqL.of upd_same) (.cons bt8.dp (.cons (.str _) .nil)), k1, k2, k3, ?_⟩
  have rn8 := (rn.same s7).same kl
  have tab8 := (tab6.same s7).same kl
  have d8 := (d6.same s7).same kl
  clear kl s7 bt6 rn tab6 d6 ea ed
  generalize upd H7 l (.lst [v, .str (rowText N)]) = H8 at bt8 rn8 tab8 d8 ⊢
  have dl : ∀ m, (t.mapL fun c => ledOf (tgt L) c m).lows := fun m => mapL_lows (fun c hc => led_low lf hc m) lo
  have dz : ∀ m, (t.mapL fun c => ledOf (tgt L) c m).size ≤ 12 := fun m => by rw [B.mapL_size]; exact t12
  refine ⟨_, rfl, a, rfl, _, rfl, InsC.of rn8, .inr ⟨a, N, v, t, 1, rfl, rn8, okN, bt8, lo, by omega, fun v1 H9 s9 b9 => ?_⟩⟩
  rw [eT] at b9
  refine ⟨_, rfl, a, rfl, _, rfl, InsC.of (rn8.same s9), .inl ⟨a, N, v, t, 1, rfl, rn8.same s9, okN, bt8.same s9, lo, by omega, fun v2 HA sA bA => ?_⟩⟩
  rw [eT] at bA
  have s8A := s9.trans sA
  refine ⟨_, rfl, a, rfl, _, rfl, InsC.of (rn8.same s8A), .inr ⟨a, N, v, t, 1, rfl, rn8.same s8A, okN, bt8.same s8A, lo, by omega, fun v3 HB sB bB => ?_⟩⟩
  rw [eT] at bB
  have s8B := s8A.trans sB
  refine ⟨_, rfl, a, rfl, InsC.of (rn8.same s8B), .inr ⟨a, N, .non, .nil, 1, rfl, rn8.same s8B, okN, .nil, trivial, by decide, fun v4 HC sC bC => ?_⟩⟩
  have e4 := BAt.non (show BAt HC v4 .nil from bC)
  subst e4
  have s8C := s8B.trans sC
  refine ⟨_, rfl, a, rfl, _, _, rfl, rfl, ⟨by decide, by decide, by decide⟩, InsC.of (rn8.same s8C), .inl ⟨a, N, .non, .nil, 1000000000000, rfl, rn8.same s8C, okN, .nil, trivial, by decide, fun v5 HD sD bD => ?_⟩⟩
  have e5 := BAt.non (show BAt HD v5 .nil from bD)
  subst e5
  refine ⟨(by show 5 ≤ sizeLine; decide), fun tp ntp => ?_⟩
  have kt := same_new ntp (.lst [v1, v2, v3, .non, .non])
  have s8E := (s8C.trans sD).trans kt
  have tk : upd HD tp (.lst [v1, v2, v3, .non, .non]) tp = some (.lst [v1, v2, v3, .non, .non]) := upd_same
  have b1 := ((((b9.same sA).same sB).same sC).same sD).same kt
  have b2 := (((bA.same sB).same sC).same sD).same kt
  have b3 := ((bB.same sC).same sD).same kt
  generalize upd HD tp (.lst [v1, v2, v3, .non, .non]) = HE at kt s8E tk b1 b2 b3 ⊢
  have rnE := rn8.same s8E
  have tabE := tab8.same s8E
  have btE := bt8.same s8E
  have dE := d8.same s8E
  refine ⟨_, rfl, _, rfl, v, p, t, L, 1, rfl, btE, tabE, okL, lo, by omega, fun v8 HF sF b8 => ?_⟩
  obtain ⟨f1, f2, f3⟩ := five_ok (dl 1) (dz 1)
  refine ⟨_, rfl, tp, _, rfl, .lst (SqL.of (sF _ _ tk)) (.cons (b1.same sF).dp (.cons (b2.same sF).dp (.cons (b3.same sF).dp (.cons .non (.cons .non .nil))))), f1, f2, f3, ?_⟩
  refine ⟨_, rfl, _, rfl, _, rfl, (by show 5 ≤ sizeLine; decide), fun l5 nl5 => ?_⟩
  have k5 := same_new nl5 (.lst [v8, v8, v8, .non, .non])
  have b85 := (b8.same k5).dp (K := K)
  refine ⟨l5, _, rfl, .lst (SqL.of upd_same) (.cons b85 (.cons b85 (.cons b85 (.cons .non (.cons .non .nil))))), f1, f2, f3, ?_⟩
  refine ⟨rfl, _, rfl, ?_⟩
  rw [ne_self]
  refine iteF ?_
  have sEG := sF.trans k5
  have rnG := rnE.same sEG
  have tabG := tabE.same sEG
  have btG := btE.same sEG
  have dG := dE.same sEG
  clear sEG k5 b85 sF b8 b1 b2 b3 kt s8E tk rnE tabE btE dE s8C s8B s8A sA sB sC sD b9 bA bB bC bD rn8 tab8 bt8 d8 s9
  generalize upd HF l5 (.lst [v8, v8, v8, .non, .non]) = HG at rnG tabG btG dG ⊢
  refine ⟨_, _, rfl, rfl, ⟨by decide, by decide, by decide⟩, _, _, rfl, rfl, ⟨by decide, by decide, by decide⟩, _, _, rfl, rfl, _, rfl, D, n4, 60, rfl, dG, by omega, by decide, by decide, fun i1 HH g0 g1 dH sH => ?_⟩
  have rnH := rnG.sameD sH dG
  have tabH := tabG.sameD oP sH dG
  have btH := btG.keep (sH.keepT dG)
  refine ⟨_, rfl, _, _, rfl, rfl, ⟨by decide, by decide, by decide⟩, D, n4 + 1, _, rfl, dH, by omega, by decide, by decide, fun i2 HI j0 j1 dI sI => ?_⟩
  have rnI := rnH.sameD sI dH
  have tabI := tabH.sameD oP sI dH
  have btI := btH.keep (sI.keepT dH)
  refine ⟨(by show 10 ≤ sizeLine; decide), fun q0 nq => ?_⟩
  have kq := same_new nq (.lst [.int 0, .int 2, .int 3, .int 25, .int 26, .int 27, .int (10 ^ Int.toNat 12), .int (10 ^ Int.toNat 12 - 1), .int i1, .int i2])
  have all : AllI [.int 0, .int 2, .int 3, .int 25, .int 26, .int 27, .int (10 ^ Int.toNat 12), .int (10 ^ Int.toNat 12 - 1), .int i1, .int i2] :=
    .cons (by decide) (.cons (by decide) (.cons (by decide) (.cons (by decide) (.cons (by decide) (.cons (by decide) (.cons (by decide) (.cons (by decide) (.cons g0 (.cons j0 .nil)))))))))
  have eq : upd HI q0 (.lst [.int 0, .int 2, .int 3, .int 25, .int 26, .int 27, .int (10 ^ Int.toNat 12), .int (10 ^ Int.toNat 12 - 1), .int i1, .int i2]) q0 = some (.lst [.int 0, .int 2, .int 3, .int 25, .int 26, .int 27, .int (10 ^ Int.toNat 12), .int (10 ^ Int.toNat 12 - 1), .int i1, .int i2]) := upd_same
  generalize [V.int 0, V.int 2, V.int 3, V.int 25, V.int 26, V.int 27, V.int (10 ^ Int.toNat 12), V.int (10 ^ Int.toNat 12 - 1), V.int i1, V.int i2] = zs at kq all eq ⊢
  have rnJ := rnI.same kq
  have tabJ := tabI.same kq
  have btJ := btI.same kq
  have dJ := dI.same kq
  generalize upd HI q0 (.lst zs) = HJ at eq rnJ tabJ btJ dJ ⊢
  refine ⟨q0, rfl, ⟨_, SqL.of eq⟩, ?_⟩
  refine for_it (walk_list (K := K) (a := q0) (xs := zs)) (fun k σ H' => Same HJ H' ∧ ∃ x8 x9 : Option V, σ = [some (.ref a0), some (.ref D.dk), some (.int (0 + (i : Int))), some (.ref p), some v, some (.ref a), some (.str (PyData.list [t.data, PyData.str (rowText N)]).shown), some (.ref tp), x8, x9]) ⟨Same.refl _, _, _, rfl⟩ (fun k σ H' _ hp => SqL.of (hp.1 _ _ eq)) (fun k x σ HK H'' hk hp hy => ?_) (fun σ HK hp => ?_)
  · obtain ⟨e1, hy⟩ := hy
    subst e1
    obtain ⟨sJ, x8, x9, rfl⟩ := hp
    obtain ⟨m, rfl⟩ := all x (List.mem_of_getElem? hy)
    refine ⟨_, rfl, _, rfl, _, rfl, v, p, t, L, m, rfl, btJ.same sJ, tabJ.same sJ, okL, lo, by omega, fun w8 HL sL b8 => ?_⟩
    have s1 := sJ.trans sL
    refine ⟨_, rfl, a, rfl, _, rfl, _, rfl, InsC.of (rnJ.same s1), .inl ⟨a, N, v, t, m, rfl, rnJ.same s1, okN, btJ.same s1, lo, by omega, fun w1 HM sM b1 => ?_⟩⟩
    rw [eT] at b1
    have s2 := s1.trans sM
    refine ⟨_, rfl, a, rfl, _, rfl, _, rfl, InsC.of (rnJ.same s2), .inl ⟨a, N, v, t, m, rfl, rnJ.same s2, okN, btJ.same s2, lo, by omega, fun w2 HN sN b2 => ?_⟩⟩
    rw [eT] at b2
    refine ⟨(by show 2 ≤ sizeLine; decide), fun la nla => ?_⟩
    have ka := same_new nla (.lst [w1, w2])
    obtain ⟨f1, f2, f3⟩ := pair_ok (dl m) (dz m)
    refine ⟨la, _, rfl, .lst (SqL.of upd_same) (.cons ((b1.same sN).same ka).dp (.cons (b2.same ka).dp .nil)), f1, f2, f3, ?_⟩
    refine ⟨_, rfl, _, rfl, (by show 2 ≤ sizeLine; decide), fun lb nlb => ?_⟩
    have kb := same_new nlb (.lst [w8, w8])
    have b8' := ((((b8.same sM).same sN).same ka).same kb).dp (K := K)
    refine ⟨lb, _, rfl, .lst (SqL.of upd_same) (.cons b8' (.cons b8' .nil)), f1, f2, f3, ?_⟩
    refine ⟨rfl, _, rfl, ?_⟩
    rw [ne_self]
    exact iteF ⟨s2.trans (sN.trans (ka.trans kb)), _, _, rfl⟩
  obtain ⟨sJ, x8, x9, rfl⟩ := hp
  have rnK := rnJ.same sJ
  obtain ⟨dx2, dd2, ea2, ed2⟩ := id rnK
  refine ⟨_, rfl, _, rfl, a, dx2, renF dd2, rfl, ea2, a, N, rfl, rnK, okN.len, okN, fun HL sL => ⟨_, rfl, (by show 2 ≤ sizeLine; decide), fun le nle => ?_⟩⟩
  have ke := same_new nle (.lst [v, .str (rowText N)])
  have bE := ((btJ.same sJ).same sL).same ke
  refine ⟨le, .list [t.data, .str (rowText N)], rfl, .lst (SqL.of upd_same) (.cons bE.dp (.cons (.str _) .nil)), k1, k2, k3, ?_⟩
  refine ⟨_, rfl, rfl, _, rfl, ?_⟩
  rw [ne_self]
  refine iteF ?_
  exact ⟨_, _, _, _, _, _, _, _, n4 + 2, rfl, ((dJ.same sJ).same sL).same ke, by omega⟩
end
theorem bd_of_call {K : PySem.W.Frag} {g : Addr} {fd : FuncData} (FD : FunD K "__call__" "Renaming.__call__" (defArgs s_Renaming___call__) (defBody s_Renaming___call__) (defScope s_Renaming___call__) [.int 1] [] g fd) : ∃ ds, Vals [.int 1] ds ∧ Binds K fd ["self", "tree", "times"] ds := FD.binds1 (ps := ["self", "tree", "times"]) 2 0 (by simp) rfl (fun T kV doc pm an cdv ct us its h1 h2 => match us, its, h1, h2 with | [_, _], [_], _, _ => ⟨_, rfl, rfl⟩)
theorem b_of_call {K : PySem.W.Frag} {g : Addr} {fd : FuncData} (FD : FunD K "__call__" "Renaming.__call__" (defArgs s_Renaming___call__) (defBody s_Renaming___call__) (defScope s_Renaming___call__) [.int 1] [] g fd) : Binds K fd ["self", "tree", "times"] [] := by
  obtain ⟨dz, vz, bz⟩ := FD.binds1 (ps := ["self", "tree", "times"]) 3 1 (by simp) rfl (fun T kV doc pm an cdv ct us its h1 h2 => match us, its, h1, h2 with | [_, _, _], [_], _, _ => ⟨_, rfl, rfl⟩)
  cases vz
  exact bz
theorem ch_self (c : Nat) : ch c ≠ ("self" : Str) := fun h => by
  have := congrArg (fun x => x.cps.size) h
  have h1 : (ch c).cps.size = 1 := rfl
  have h2 : ("self" : Str).cps.size = 4 := by decide +kernel
  rw [h1, h2] at this
  exact absurd this (by decide)
theorem keys_self {ks : List Str} {L : Ld} (e : ks = L.map fun p => ch p.1) : ∀ k ∈ ks, k ≠ ("self" : Str) := fun k hk => by
  rw [e] at hk
  obtain ⟨p, _, rfl⟩ := List.mem_map.mp hk
  exact ch_self _
theorem keys_nd {ks : List Str} {L : Ld} (e : ks = L.map fun p => ch p.1) (ok : LdOk L) : ks.Nodup := by
  rw [e, show (L.map fun p => ch p.1) = (L.map (·.1)).map ch by rw [List.map_map]; rfl]
  exact List.Pairwise.map _ (fun _ _ h e => h (ch_inj e)) ok.nd
theorem keys_few {ks : List Str} {L : Ld} (e : ks = L.map fun p => ch p.1) (ok : LdOk L) : ks.length ≤ 1000 := by
  rw [e, List.length_map]
  have := ok.len
  omega
/-! ### what the top has left -/
theorem all_mk {l : PySem.W.OpenLaw} {w : World} {K : PySem.W.Frag} {h : Heap} {mg : Str → Option Value} {fa f1 f2 f3 f4 f5 f6 f7 f8 f9 f10 f11 f12 f13  : Addr} (X : K.In h) (G : h.Ns mainGlobals mg) (hfa : mg "law" = some (.ref fa))
    {od1 an1 od2 an2 od3 an3 od4 an4 od5 an5 od6 an6 od7 an7 od8 an8 od9 an9 od10 an10 od11 an11 od12 an12 od13 an13 : Option Addr} {sl1 sl2 sl3 sl4 sl5 sl6 sl7 sl8 sl9 sl10 sl11 sl12 sl13 : Array (Option Value)}
    {oc1 kV1 dc1 pm1 cd1 ct1 oc2 kV2 dc2 pm2 cd2 ct2 oc3 kV3 dc3 pm3 cd3 ct3 oc4 kV4 dc4 pm4 cd4 ct4 oc5 kV5 dc5 pm5 cd5 ct5 oc6 kV6 dc6 pm6 cd6 ct6 oc7 kV7 dc7 pm7 cd7 ct7 oc8 kV8 dc8 pm8 cd8 ct8 oc9 kV9 dc9 pm9 cd9 ct9 oc10 kV10 dc10 pm10 cd10 ct10 oc11 kV11 dc11 pm11 cd11 ct11 oc12 kV12 dc12 pm12 cd12 ct12 oc13 kV13 dc13 pm13 cd13 ct13 : Value}
     {CD g_init g_read g_call pm T_call : Addr} {rest : List Value} {oc_init kw_init dc_init pm_init cd_init ct_init oc_read kw_read dc_read pm_read cd_read ct_read oc_call kw_call dc_call pm_call cd_call ct_call : Value} {od_init an_init od_read an_read od_call an_call to_call : Option Addr} {sl_init sl_read sl_call ts_call : Array (Option Value)} {tn_call : Nat} {tt_call : Tok} {g_getitem : Addr} {oc_getitem kw_getitem dc_getitem pm_getitem cd_getitem ct_getitem : Value} {od_getitem an_getitem : Option Addr} {sl_getitem : Array (Option Value)} {g_letter_after : Addr} {oc_letter_after kw_letter_after dc_letter_after pm_letter_after cd_letter_after ct_letter_after : Value} {od_letter_after an_letter_after : Option Addr} {sl_letter_after : Array (Option Value)} {g_renamed : Addr} {oc_renamed kw_renamed dc_renamed pm_renamed cd_renamed ct_renamed : Value} {od_renamed an_renamed : Option Addr} {sl_renamed : Array (Option Value)} {g_str : Addr} {oc_str kw_str dc_str pm_str cd_str ct_str : Value} {od_str an_str : Option Addr} {sl_str : Array (Option Value)}
    (aR : PySem.W.nsIn K mainGlobals "Renaming" = some (some (.ref CD)))
    (pg : PySem.W.plainGet K CD Str.empty = true)
    (hd : PySem.W.hasDictIn K CD = true)
    (po : PySem.W.plainOver K CD = true)
    (sa : PySem.W.findIn K (.ref CD) "__setattr__" = some (some (.builtin "object.__setattr__")))
    (mk : PySem.W.makesIn K CD = true)
    (kc : PySem.W.keepIn K (.ref CD) = true)
    (nL : PySem.W.findIn K (.ref CD) "leads" = some none)
    (rd : PySem.W.readsIn K CD (.type "type") = true)
    (gaD : PySem.W.specialIn K (.ref CD) "__getattribute__" = some (some (.builtin "type.__getattribute__")))
    (rf : PySem.W.findCls K (.ref CD) (.type "type") "read" = some (.get (.builtin "classmethod.__get__") (.ref pm) .none (.ref CD)))
    (rr : PySem.W.recIn K pm "classmethod" = some (.ref g_read :: rest))
    (ri : PySem.W.fnIn K g_read = true)
    (at_init : PySem.W.findIn K (.ref CD) "__init__" = some (some (.ref g_init)))
    (fn_init : PySem.W.isFn K (.ref g_init) = true)
    (at_call : PySem.W.findIn K (.ref CD) "__call__" = some (some (.ref g_call)))
    (fn_call : PySem.W.isFn K (.ref g_call) = true)
    (fi_call : PySem.W.fnIn K g_call = true)
    (kp_init : PySem.W.keepIn K (.ref g_init) = true)
    (lk_init : K.lookup g_init = some ⟨oc_init, od_init, .func (PySem.W.fnOf "__init__" "Renaming.__init__" (defArgs s_Renaming___init__) (defBody s_Renaming___init__) (defScope s_Renaming___init__) .none kw_init dc_init pm_init an_init cd_init ct_init), sl_init⟩)
    (cd_f_init : PySem.W.codeIn K cd_init "Renaming.__init__" = true)
    (kp_read : PySem.W.keepIn K (.ref g_read) = true)
    (lk_read : K.lookup g_read = some ⟨oc_read, od_read, .func (PySem.W.fnOf "read" "Renaming.read" (defArgs s_Renaming_read) (defBody s_Renaming_read) (defScope s_Renaming_read) .none kw_read dc_read pm_read an_read cd_read ct_read), sl_read⟩)
    (cd_f_read : PySem.W.codeIn K cd_read "Renaming.read" = true)
    (kp_call : PySem.W.keepIn K (.ref g_call) = true)
    (lk_call : K.lookup g_call = some ⟨oc_call, od_call, .func (PySem.W.fnOf "__call__" "Renaming.__call__" (defArgs s_Renaming___call__) (defBody s_Renaming___call__) (defScope s_Renaming___call__) (.ref T_call) kw_call dc_call pm_call an_call cd_call ct_call), sl_call⟩)
    (cd_f_call : PySem.W.codeIn K cd_call "Renaming.__call__" = true)
    (tl_call : K.lookup T_call = some ⟨.type "tuple", to_call, .seq #[.int 1 tt_call] tn_call, ts_call⟩)
    (at_getitem : PySem.W.findIn K (.ref CD) "__getitem__" = some (some (.ref g_getitem)))
    (fn_getitem : PySem.W.isFn K (.ref g_getitem) = true)
    (kp_getitem : PySem.W.keepIn K (.ref g_getitem) = true)
    (lk_getitem : K.lookup g_getitem = some ⟨oc_getitem, od_getitem, .func (PySem.W.fnOf "__getitem__" "Renaming.__getitem__" (defArgs s_Renaming___getitem__) (defBody s_Renaming___getitem__) (defScope s_Renaming___getitem__) .none kw_getitem dc_getitem pm_getitem an_getitem cd_getitem ct_getitem), sl_getitem⟩)
    (cd_f_getitem : PySem.W.codeIn K cd_getitem "Renaming.__getitem__" = true)
    (at_letter_after : PySem.W.findIn K (.ref CD) "letter_after" = some (some (.ref g_letter_after)))
    (fn_letter_after : PySem.W.isFn K (.ref g_letter_after) = true)
    (kp_letter_after : PySem.W.keepIn K (.ref g_letter_after) = true)
    (lk_letter_after : K.lookup g_letter_after = some ⟨oc_letter_after, od_letter_after, .func (PySem.W.fnOf "letter_after" "Renaming.letter_after" (defArgs s_Renaming_letter_after) (defBody s_Renaming_letter_after) (defScope s_Renaming_letter_after) .none kw_letter_after dc_letter_after pm_letter_after an_letter_after cd_letter_after ct_letter_after), sl_letter_after⟩)
    (cd_f_letter_after : PySem.W.codeIn K cd_letter_after "Renaming.letter_after" = true)
    (at_renamed : PySem.W.findIn K (.ref CD) "renamed" = some (some (.ref g_renamed)))
    (fn_renamed : PySem.W.isFn K (.ref g_renamed) = true)
    (kp_renamed : PySem.W.keepIn K (.ref g_renamed) = true)
    (lk_renamed : K.lookup g_renamed = some ⟨oc_renamed, od_renamed, .func (PySem.W.fnOf "renamed" "Renaming.renamed" (defArgs s_Renaming_renamed) (defBody s_Renaming_renamed) (defScope s_Renaming_renamed) .none kw_renamed dc_renamed pm_renamed an_renamed cd_renamed ct_renamed), sl_renamed⟩)
    (cd_f_renamed : PySem.W.codeIn K cd_renamed "Renaming.renamed" = true)
    (at_str : PySem.W.findIn K (.ref CD) "__str__" = some (some (.ref g_str)))
    (fn_str : PySem.W.isFn K (.ref g_str) = true)
    (kp_str : PySem.W.keepIn K (.ref g_str) = true)
    (lk_str : K.lookup g_str = some ⟨oc_str, od_str, .func (PySem.W.fnOf "__str__" "Renaming.__str__" (defArgs s_Renaming___str__) (defBody s_Renaming___str__) (defScope s_Renaming___str__) .none kw_str dc_str pm_str an_str cd_str ct_str), sl_str⟩)
    (cd_f_str : PySem.W.codeIn K cd_str "Renaming.__str__" = true)
    (fi_getitem : PySem.W.fnIn K g_getitem = true)
    (a1 : PySem.W.nsIn K mainGlobals "is_letter" = some (some (.ref f1)))
    (l1 : K.lookup f1 = some ⟨oc1, od1, .func (PySem.W.fnOf "is_letter" "is_letter" (defArgs s_is_letter) (defBody s_is_letter) (defScope s_is_letter) .none kV1 dc1 pm1 an1 cd1 ct1), sl1⟩)
    (c1 : PySem.W.codeIn K cd1 "is_letter" = true)
    (k1 : PySem.W.keepIn K (.ref f1) = true)
    (a2 : PySem.W.nsIn K mainGlobals "is_lead" = some (some (.ref f2)))
    (l2 : K.lookup f2 = some ⟨oc2, od2, .func (PySem.W.fnOf "is_lead" "is_lead" (defArgs s_is_lead) (defBody s_is_lead) (defScope s_is_lead) .none kV2 dc2 pm2 an2 cd2 ct2), sl2⟩)
    (c2 : PySem.W.codeIn K cd2 "is_lead" = true)
    (k2 : PySem.W.keepIn K (.ref f2) = true)
    (a3 : PySem.W.nsIn K mainGlobals "_law_start" = some (some (.ref f3)))
    (l3 : K.lookup f3 = some ⟨oc3, od3, .func (PySem.W.fnOf "_law_start" "_law_start" (defArgs s__law_start) (defBody s__law_start) (defScope s__law_start) .none kV3 dc3 pm3 an3 cd3 ct3), sl3⟩)
    (c3 : PySem.W.codeIn K cd3 "_law_start" = true)
    (k3 : PySem.W.keepIn K (.ref f3) = true)
    (a4 : PySem.W.nsIn K mainGlobals "_law_draw" = some (some (.ref f4)))
    (l4 : K.lookup f4 = some ⟨oc4, od4, .func (PySem.W.fnOf "_law_draw" "_law_draw" (defArgs s__law_draw) (defBody s__law_draw) (defScope s__law_draw) .none kV4 dc4 pm4 an4 cd4 ct4), sl4⟩)
    (c4 : PySem.W.codeIn K cd4 "_law_draw" = true)
    (k4 : PySem.W.keepIn K (.ref f4) = true)
    (a5 : PySem.W.nsIn K mainGlobals "_law_letters" = some (some (.ref f5)))
    (l5 : K.lookup f5 = some ⟨oc5, od5, .func (PySem.W.fnOf "_law_letters" "_law_letters" (defArgs s__law_letters) (defBody s__law_letters) (defScope s__law_letters) .none kV5 dc5 pm5 an5 cd5 ct5), sl5⟩)
    (c5 : PySem.W.codeIn K cd5 "_law_letters" = true)
    (k5 : PySem.W.keepIn K (.ref f5) = true)
    (a6 : PySem.W.nsIn K mainGlobals "_law_grown" = some (some (.ref f6)))
    (l6 : K.lookup f6 = some ⟨oc6, od6, .func (PySem.W.fnOf "_law_grown" "_law_grown" (defArgs s__law_grown) (defBody s__law_grown) (defScope s__law_grown) .none kV6 dc6 pm6 an6 cd6 ct6), sl6⟩)
    (c6 : PySem.W.codeIn K cd6 "_law_grown" = true)
    (k6 : PySem.W.keepIn K (.ref f6) = true)
    (a7 : PySem.W.nsIn K mainGlobals "_law_tree" = some (some (.ref f7)))
    (l7 : K.lookup f7 = some ⟨oc7, od7, .func (PySem.W.fnOf "_law_tree" "_law_tree" (defArgs s__law_tree) (defBody s__law_tree) (defScope s__law_tree) .none kV7 dc7 pm7 an7 cd7 ct7), sl7⟩)
    (c7 : PySem.W.codeIn K cd7 "_law_tree" = true)
    (k7 : PySem.W.keepIn K (.ref f7) = true)
    (a8 : PySem.W.nsIn K mainGlobals "_law_table" = some (some (.ref f8)))
    (l8 : K.lookup f8 = some ⟨oc8, od8, .func (PySem.W.fnOf "_law_table" "_law_table" (defArgs s__law_table) (defBody s__law_table) (defScope s__law_table) .none kV8 dc8 pm8 an8 cd8 ct8), sl8⟩)
    (c8 : PySem.W.codeIn K cd8 "_law_table" = true)
    (k8 : PySem.W.keepIn K (.ref f8) = true)
    (a9 : PySem.W.nsIn K mainGlobals "_law_to" = some (some (.ref f9)))
    (l9 : K.lookup f9 = some ⟨oc9, od9, .func (PySem.W.fnOf "_law_to" "_law_to" (defArgs s__law_to) (defBody s__law_to) (defScope s__law_to) .none kV9 dc9 pm9 an9 cd9 ct9), sl9⟩)
    (c9 : PySem.W.codeIn K cd9 "_law_to" = true)
    (k9 : PySem.W.keepIn K (.ref f9) = true)
    (a10 : PySem.W.nsIn K mainGlobals "_law_text" = some (some (.ref f10)))
    (l10 : K.lookup f10 = some ⟨oc10, od10, .func (PySem.W.fnOf "_law_text" "_law_text" (defArgs s__law_text) (defBody s__law_text) (defScope s__law_text) .none kV10 dc10 pm10 an10 cd10 ct10), sl10⟩)
    (c10 : PySem.W.codeIn K cd10 "_law_text" = true)
    (k10 : PySem.W.keepIn K (.ref f10) = true)
    (a11 : PySem.W.nsIn K mainGlobals "_law_led" = some (some (.ref f11)))
    (l11 : K.lookup f11 = some ⟨oc11, od11, .func (PySem.W.fnOf "_law_led" "_law_led" (defArgs s__law_led) (defBody s__law_led) (defScope s__law_led) .none kV11 dc11 pm11 an11 cd11 ct11), sl11⟩)
    (c11 : PySem.W.codeIn K cd11 "_law_led" = true)
    (k11 : PySem.W.keepIn K (.ref f11) = true)
    (a12 : PySem.W.nsIn K mainGlobals "_law_due" = some (some (.ref f12)))
    (l12 : K.lookup f12 = some ⟨oc12, od12, .func (PySem.W.fnOf "_law_due" "_law_due" (defArgs s__law_due) (defBody s__law_due) (defScope s__law_due) .none kV12 dc12 pm12 an12 cd12 ct12), sl12⟩)
    (c12 : PySem.W.codeIn K cd12 "_law_due" = true)
    (k12 : PySem.W.keepIn K (.ref f12) = true)
    (a13 : PySem.W.nsIn K mainGlobals "law" = some (some (.ref f13)))
    (l13 : K.lookup f13 = some ⟨oc13, od13, .func (PySem.W.fnOf "law" "law" (defArgs s_law) (defBody s_law) (defScope s_law) .none kV13 dc13 pm13 an13 cd13 ct13), sl13⟩)
    (c13 : PySem.W.codeIn K cd13 "law" = true)
    (k13 : PySem.W.keepIn K (.ref f13) = true)
    (z1 : PySem.W.nsIn K mainGlobals "zip" = some none)
    (z2 : PySem.W.nsIn K mainGlobals "all" = some none)
    (z3 : PySem.W.nsIn K mainGlobals "repr" = some none)
    (z4 : PySem.W.nsIn K mainGlobals "len" = some none)
    (z5 : PySem.W.nsIn K mainGlobals "isinstance" = some none)
    (z6 : PySem.W.nsIn K mainGlobals "list" = some none)
    (z7 : PySem.W.nsIn K mainGlobals "tuple" = some none)
    (z8 : PySem.W.nsIn K mainGlobals "str" = some none)
    (z9 : PySem.W.nsIn K mainGlobals "int" = some none)
    (z10 : PySem.W.nsIn K mainGlobals "bool" = some none)
    (z11 : PySem.W.nsIn K mainGlobals "dict" = some none)
    (z12 : PySem.W.nsIn K mainGlobals "range" = some none)
    (z13 : PySem.W.nsIn K mainGlobals "sorted" = some none)
    (z14 : PySem.W.nsIn K mainGlobals "abs" = some none)
    (z15 : PySem.W.nsIn K mainGlobals "min" = some none)
    (z16 : PySem.W.nsIn K mainGlobals "max" = some none)
    (z17 : PySem.W.nsIn K mainGlobals "enumerate" = some none)
    : ∀ (base : Heap) (H : Hp) (s : Shared) (a : Addr) (ns : List Int), K.In base → base.Ns mainGlobals mg → Env0 l.prog w K mg base callerA [] s H → SqL K H a (ns.map V.int) → ns.length ≤ 63 →
      codeAny (model l.prog w) callerA (.call (.ref fa) ⟨[.ref a], []⟩) (CR CX0 [] l.prog w H s (fun v _ => v = .bl true) fun _ _ _ => False) s := by
  intro base H s a ns _ _ en hS hn
  have e := hfa.symm.trans (PySem.W.mg_of X G a13)
  cases e
  have F1 := fun_mk (st := s_is_letter) l1 c1 k1
  have g1 := PySem.W.mg_of X G a1
  have F2 := fun_mk (st := s_is_lead) l2 c2 k2
  have g2 := PySem.W.mg_of X G a2
  have F3 := fun_mk (st := s__law_start) l3 c3 k3
  have g3 := PySem.W.mg_of X G a3
  have F4 := fun_mk (st := s__law_draw) l4 c4 k4
  have g4 := PySem.W.mg_of X G a4
  have F5 := fun_mk (st := s__law_letters) l5 c5 k5
  have g5 := PySem.W.mg_of X G a5
  have F6 := fun_mk (st := s__law_grown) l6 c6 k6
  have g6 := PySem.W.mg_of X G a6
  have F7 := fun_mk (st := s__law_tree) l7 c7 k7
  have g7 := PySem.W.mg_of X G a7
  have F8 := fun_mk (st := s__law_table) l8 c8 k8
  have g8 := PySem.W.mg_of X G a8
  have F9 := fun_mk (st := s__law_to) l9 c9 k9
  have g9 := PySem.W.mg_of X G a9
  have F10 := fun_mk (st := s__law_text) l10 c10 k10
  have g10 := PySem.W.mg_of X G a10
  have F11 := fun_mk (st := s__law_led) l11 c11 k11
  have g11 := PySem.W.mg_of X G a11
  have F12 := fun_mk (st := s__law_due) l12 c12 k12
  have g12 := PySem.W.mg_of X G a12
  have F13 := fun_mk (st := s_law) l13 c13 k13
  have m_zip := PySem.W.mg_none_of X G z1
  have m_all := PySem.W.mg_none_of X G z2
  have m_repr := PySem.W.mg_none_of X G z3
  have m_len := PySem.W.mg_none_of X G z4
  have m_isinstance := PySem.W.mg_none_of X G z5
  have m_list := PySem.W.mg_none_of X G z6
  have m_tuple := PySem.W.mg_none_of X G z7
  have m_str := PySem.W.mg_none_of X G z8
  have m_int := PySem.W.mg_none_of X G z9
  have m_bool := PySem.W.mg_none_of X G z10
  have m_dict := PySem.W.mg_none_of X G z11
  have m_range := PySem.W.mg_none_of X G z12
  have m_sorted := PySem.W.mg_none_of X G z13
  have m_abs := PySem.W.mg_none_of X G z14
  have m_min := PySem.W.mg_none_of X G z15
  have m_max := PySem.W.mg_none_of X G z16
  have m_enumerate := PySem.W.mg_none_of X G z17
  have b1 := F1.binds (ps := ["value"]) fun _ _ _ _ _ _ us hl => match us, hl with | [_], _ => rfl
  have b2 := F2.binds (ps := ["word"]) fun _ _ _ _ _ _ us hl => match us, hl with | [_], _ => rfl
  have b3 := F3.binds (ps := ["_law_script"]) fun _ _ _ _ _ _ us hl => match us, hl with | [_], _ => rfl
  have b4 := F4.binds (ps := ["_law_state", "_law_below"]) fun _ _ _ _ _ _ us hl => match us, hl with | [_, _], _ => rfl
  have b5 := F5.binds (ps := ["_law_state", "_law_many"]) fun _ _ _ _ _ _ us hl => match us, hl with | [_, _], _ => rfl
  have b6 := F6.binds (ps := ["_law_state", "_law_letters_here", "_law_way"]) fun _ _ _ _ _ _ us hl => match us, hl with | [_, _, _], _ => rfl
  have b7 := F7.binds (ps := ["_law_state", "_law_limit"]) fun _ _ _ _ _ _ us hl => match us, hl with | [_, _], _ => rfl
  have b8 := F8.binds (ps := ["_law_state"]) fun _ _ _ _ _ _ us hl => match us, hl with | [_], _ => rfl
  have b9 := F9.binds (ps := ["_law_rows", "_law_letter"]) fun _ _ _ _ _ _ us hl => match us, hl with | [_, _], _ => rfl
  have b10 := F10.binds (ps := ["_law_rows"]) fun _ _ _ _ _ _ us hl => match us, hl with | [_], _ => rfl
  have b11 := F11.binds (ps := ["_law_rows", "_law_letter", "_law_times"]) fun _ _ _ _ _ _ us hl => match us, hl with | [_, _, _], _ => rfl
  have b12 := F12.binds (ps := ["_law_tree_here", "_law_rows", "_law_times"]) fun _ _ _ _ _ _ us hl => match us, hl with | [_, _, _], _ => rfl
  have M : Mgs mg := ⟨m_zip, m_all, m_repr, m_len, m_isinstance, m_list, m_tuple, m_str, m_int, m_bool, m_dict, m_range, m_sorted, m_abs, m_min, m_max⟩
  have F_init := fun_mk (st := s_Renaming___init__) lk_init cd_f_init kp_init
  have F_read := fun_mk (st := s_Renaming_read) lk_read cd_f_read kp_read
  have b_read := F_read.binds (ps := ["cls", "text"]) fun _ _ _ _ _ _ us hl => match us, hl with | [_, _], _ => rfl
  have FD_call : FunD K "__call__" "Renaming.__call__" (defArgs s_Renaming___call__) (defBody s_Renaming___call__) (defScope s_Renaming___call__) [.int 1] [] g_call _ := ⟨⟨_, _, _, _, _, _, _, _, _, _, rfl, lk_call, cd_f_call, .inr ⟨by simp, T_call, _, [.int 1 tt_call], _, rfl, tl_call, rfl, .cons ⟨_, rfl⟩ .nil⟩, .inl rfl⟩, kp_call⟩
  obtain ⟨dn_call, vd_call, bd_call⟩ := bd_of_call FD_call
  have b_call := b_of_call FD_call
  have F_getitem := fun_mk (st := s_Renaming___getitem__) lk_getitem cd_f_getitem kp_getitem
  have b_getitem := F_getitem.binds (ps := ["self", "at"]) fun _ _ _ _ _ _ us hl => match us, hl with | [_, _], _ => rfl
  have F_letter_after := fun_mk (st := s_Renaming_letter_after) lk_letter_after cd_f_letter_after kp_letter_after
  have b_letter_after := F_letter_after.binds (ps := ["self", "letter", "times"]) fun _ _ _ _ _ _ us hl => match us, hl with | [_, _, _], _ => rfl
  have F_renamed := fun_mk (st := s_Renaming_renamed) lk_renamed cd_f_renamed kp_renamed
  have b_renamed := F_renamed.binds (ps := ["self", "tree", "times"]) fun _ _ _ _ _ _ us hl => match us, hl with | [_, _, _], _ => rfl
  have F_str := fun_mk (st := s_Renaming___str__) lk_str cd_f_str kp_str
  have b_str := F_str.binds (ps := ["self"]) fun _ _ _ _ _ _ us hl => match us, hl with | [_], _ => rfl
  have gR := PySem.W.mg_of X G aR
  have TD : RenC K mg CD g_getitem := ⟨⟨pg, hd, po, sa⟩, nL, at_getitem, fi_getitem, fn_getitem⟩
  have Dis_letter : Df l.prog w K mg base 1 "is_letter" ["value"] spOne := ⟨f1, _, ok_one (k := 0) F1 M, b1, k1, g1⟩
  have Dis_lead : Df l.prog w K mg base 2 "is_lead" ["word"] spLead := ⟨f2, _, ok_lead F2 M Dis_letter, b2, k2, g2⟩
  have FG : FnR l.prog w K mg base CX0 2 g_getitem (spGet CD) := (FnOk.raw (ok_get F_getitem TD Dis_letter) b_getitem .nil).imp fun vs H Q E h => by rw [List.append_nil]; exact h
  have Dla : MDf l.prog w K mg base CD 4 "letter_after" ["self", "letter", "times"] (spAfter CD) := ⟨g_letter_after, _, ok_after F_letter_after M TD FG, b_letter_after, ⟨at_letter_after, fn_letter_after, kp_letter_after⟩⟩
  have Dren : MDf l.prog w K mg base CD 18 "renamed" ["self", "tree", "times"] (spRenN CD 13) := ⟨g_renamed, _, ok_ren F_renamed b_renamed ⟨at_renamed, fn_renamed, kp_renamed⟩ TD Dla 13, b_renamed, ⟨at_renamed, fn_renamed, kp_renamed⟩⟩
  have FO1 : FnR l.prog w K mg base CX0 19 g_call (spRenN CD 13) := (FnOk.raw (ok_call FD_call TD Dren) b_call .nil).imp fun vs H Q E h => by rw [List.append_nil]; exact h
  have FO : FnR l.prog w K mg base CX0 19 g_call (spCallR CD 13) := FnR_or FO1 (FnOk.raw (ok_call FD_call TD Dren) bd_call vd_call)
  have FS : FnR l.prog w K mg base CX0 1 g_str (spStr CD) := (FnOk.raw (ok_str F_str TD) b_str .nil).imp fun vs H Q E h => by rw [List.append_nil]; exact h
  have DI : ∀ ks : List Str, (∃ L : Ld, ks = L.map (fun p => ch p.1) ∧ LdOk L) → FnKwX CX0 l.prog w K mg base 2 g_init 1 ks (spInitR CD ks) := fun ks ⟨L, e, ok⟩ => ok_initR F_init M TD Dis_letter (kw_any (keys_self e) (keys_nd e ok) (keys_few e ok)) (keys_few e ok)
  have FR : FnR l.prog w K mg base CX0 4 g_read (spRead CD) := (FnOk.raw (ok_read F_read M m_enumerate ⟨mk, at_init, fn_init, kc⟩ Dis_lead DI) b_read .nil).imp fun vs H Q E h => by rw [List.append_nil]; exact h
  have D_law_start : Df l.prog w K mg base 1 "_law_start" ["_law_script"] (spDeck K) := ⟨f3, _, ok_start (k := 0) F3 M, b3, k3, g3⟩
  have D_law_draw : Df l.prog w K mg base 1 "_law_draw" ["_law_state", "_law_below"] spDraw := ⟨f4, _, ok_draw (k := 0) F4 M, b4, k4, g4⟩
  have D_law_letters : Df l.prog w K mg base 2 "_law_letters" ["_law_state", "_law_many"] spLett := ⟨f5, _, ok_lett F5 M D_law_draw, b5, k5, g5⟩
  have D_law_grown : Df l.prog w K mg base 28 "_law_grown" ["_law_state", "_law_letters_here", "_law_way"] (spGrown 27) := ⟨f6, _, ok_grown F6 b6 g6 M D_law_draw 27, b6, k6, g6⟩
  have D_law_tree : Df l.prog w K mg base 29 "_law_tree" ["_law_state", "_law_limit"] spTree := ⟨f7, _, ok_tree F7 M D_law_draw D_law_letters D_law_grown, b7, k7, g7⟩
  have D_law_table : Df l.prog w K mg base 2 "_law_table" ["_law_state"] spTable := ⟨f8, _, ok_table F8 M D_law_draw, b8, k8, g8⟩
  have D_law_to : Df l.prog w K mg base 1 "_law_to" ["_law_rows", "_law_letter"] spTo := ⟨f9, _, ok_to F9 M, b9, k9, g9⟩
  have D_law_text : Df l.prog w K mg base 1 "_law_text" ["_law_rows"] spText := ⟨f10, _, ok_text F10 M, b10, k10, g10⟩
  have D_law_led : Df l.prog w K mg base 2 "_law_led" ["_law_rows", "_law_letter", "_law_times"] spLedL := ⟨f11, _, ok_led F11 M D_law_to, b11, k11, g11⟩
  have D_law_due : Df l.prog w K mg base 16 "_law_due" ["_law_tree_here", "_law_rows", "_law_times"] (spDueN 13) := ⟨f12, _, ok_due F12 b12 g12 M D_law_led 13, b12, k12, g12⟩
  exact run_law F13 (.of_eq rfl) en hS M D_law_start D_law_draw D_law_table D_law_tree D_law_text D_law_due gR ⟨rd, gaD⟩ ⟨rf, ⟨_, rr⟩, ri⟩ FR ⟨at_call, fn_call, fi_call⟩ FO at_str fn_str FS
theorem walk_at {l : PySem.W.OpenLaw} {q : Program} {loose : List Str} {XP : (Str → Option Value) → Heap → Prop} {YP : World → Heap → Prop} {d : DefRec} {K : Params → PySem.W.Frag} (most : l.most = some 63) (noDf : d.params.defaults = [])
    (inK : ∀ (w : World) (h : Heap), YP w h → (K w.params).In h)
    (F : ∀ (w : World) (mg : Str → Option Value) (fa : Addr) (h : Heap), (K w.params).In h → h.Ns mainGlobals mg → mg d.name = some (.ref fa) →
      ∀ (base : Heap) (H : Hp) (s : Shared) (a : Addr) (ns : List Int), (K w.params).In base → base.Ns mainGlobals mg → Env0 l.prog w (K w.params) mg base callerA [] s H → SqL (K w.params) H a (ns.map V.int) → ns.length ≤ 63 →
        codeAny (model l.prog w) callerA (.call (.ref fa) ⟨[.ref a], []⟩) (CR CX0 [] l.prog w H s (fun v _ => v = .bl true) fun _ _ _ => False) s) :
    PySem.W.WalkO q loose XP YP l.row.toRowW d [] (fun f vs => PySem.call f vs) := by
  refine Att.attach_call most noDf ?_
  intro w s₀ s₁ mg mb fa o pm cd doc a vs ns G Y ho hd hcd hmg hobj hints hlen hg
  exact law_at (inK w _ Y) G.T.g G.T.b G.T.builtins G.T.nolimit hg hobj hints (Nat.le_trans hlen (by decide)) fun base H h1 h2 en hS => F w mg fa _ (inK w _ Y) G.T.g hmg base H s₁ a ns h1 h2 en hS hlen
end Tw
open PySem PySem.W PyProof.Rows
set_option maxRecDepth 100000 in
set_option maxHeartbeats 0 in
theorem PySem.Challenge.cw_treewalks_k18_renamed_trees_holds : PySem.Challenge.rw_treewalks_k18_renamed_trees.Holds := by
  w_on; o_law; k_head; (case hw => w_witness2)
  k_fill
  refine Tw.walk_at (l := PySem.Challenge.rw_treewalks_k18_renamed_trees) rfl rfl (fun w h Y => by first | exact PySem.W.kIn_of Y | exact PySem.W.km_in_of Y) ?F
  case F =>
    intro w mg fa h KX G hmg
    refine' Tw.all_mk KX G hmg ?aR ?pg ?hd ?po ?sa ?mk ?kc ?nL ?rd ?gaD ?rf ?rr ?ri ?at_init ?fn_init ?at_call ?fn_call ?fi_call ?kp_init ?lk_init ?cd_f_init ?kp_read ?lk_read ?cd_f_read ?kp_call ?lk_call ?cd_f_call ?tl_call ?at_getitem ?fn_getitem ?kp_getitem ?lk_getitem ?cd_f_getitem ?at_letter_after ?fn_letter_after ?kp_letter_after ?lk_letter_after ?cd_f_letter_after ?at_renamed ?fn_renamed ?kp_renamed ?lk_renamed ?cd_f_renamed ?at_str ?fn_str ?kp_str ?lk_str ?cd_f_str ?fi_getitem ?a1 ?l1 ?c1 ?k1 ?a2 ?l2 ?c2 ?k2 ?a3 ?l3 ?c3 ?k3 ?a4 ?l4 ?c4 ?k4 ?a5 ?l5 ?c5 ?k5 ?a6 ?l6 ?c6 ?k6 ?a7 ?l7 ?c7 ?k7 ?a8 ?l8 ?c8 ?k8 ?a9 ?l9 ?c9 ?k9 ?a10 ?l10 ?c10 ?k10 ?a11 ?l11 ?c11 ?k11 ?a12 ?l12 ?c12 ?k12 ?a13 ?l13 ?c13 ?k13 ?z1 ?z2 ?z3 ?z4 ?z5 ?z6 ?z7 ?z8 ?z9 ?z10 ?z11 ?z12 ?z13 ?z14 ?z15 ?z16 ?z17
    (case aR => first | k_is | rfl | decide +kernel)
    (case pg => first | k_is | rfl | decide +kernel)
    (case hd => first | k_is | rfl | decide +kernel)
    (case po => first | k_is | rfl | decide +kernel)
    (case sa => first | k_is | rfl | decide +kernel)
    (case mk => first | k_is | rfl | decide +kernel)
    (case kc => first | k_is | rfl | decide +kernel)
    (case nL => first | k_is | rfl | decide +kernel)
    (case rd => first | k_is | rfl | decide +kernel)
    (case gaD => first | k_is | rfl | decide +kernel)
    (case rf => first | k_is | rfl | decide +kernel)
    (case rr => first | k_is | rfl | decide +kernel)
    (case ri => first | k_is | rfl | decide +kernel)
    (case at_init => first | k_is | rfl | decide +kernel)
    (case fn_init => first | k_is | rfl | decide +kernel)
    (case at_call => first | k_is | rfl | decide +kernel)
    (case fn_call => first | k_is | rfl | decide +kernel)
    (case fi_call => first | k_is | rfl | decide +kernel)
    (case kp_init => first | k_is | rfl | decide +kernel)
    (case lk_init => first | k_is | rfl | decide +kernel)
    (case cd_f_init => first | k_is | rfl | decide +kernel)
    (case kp_read => first | k_is | rfl | decide +kernel)
    (case lk_read => first | k_is | rfl | decide +kernel)
    (case cd_f_read => first | k_is | rfl | decide +kernel)
    (case kp_call => first | k_is | rfl | decide +kernel)
    (case lk_call => first | k_is | rfl | decide +kernel)
    (case cd_f_call => first | k_is | rfl | decide +kernel)
    (case tl_call => first | k_is | rfl | decide +kernel)
    (case at_getitem => first | k_is | rfl | decide +kernel)
    (case fn_getitem => first | k_is | rfl | decide +kernel)
    (case kp_getitem => first | k_is | rfl | decide +kernel)
    (case lk_getitem => first | k_is | rfl | decide +kernel)
    (case cd_f_getitem => first | k_is | rfl | decide +kernel)
    (case at_letter_after => first | k_is | rfl | decide +kernel)
    (case fn_letter_after => first | k_is | rfl | decide +kernel)
    (case kp_letter_after => first | k_is | rfl | decide +kernel)
    (case lk_letter_after => first | k_is | rfl | decide +kernel)
    (case cd_f_letter_after => first | k_is | rfl | decide +kernel)
    (case at_renamed => first | k_is | rfl | decide +kernel)
    (case fn_renamed => first | k_is | rfl | decide +kernel)
    (case kp_renamed => first | k_is | rfl | decide +kernel)
    (case lk_renamed => first | k_is | rfl | decide +kernel)
    (case cd_f_renamed => first | k_is | rfl | decide +kernel)
    (case at_str => first | k_is | rfl | decide +kernel)
    (case fn_str => first | k_is | rfl | decide +kernel)
    (case kp_str => first | k_is | rfl | decide +kernel)
    (case lk_str => first | k_is | rfl | decide +kernel)
    (case cd_f_str => first | k_is | rfl | decide +kernel)
    (case fi_getitem => first | k_is | rfl | decide +kernel)
    (case a1 => k_is)
    (case l1 => k_is)
    (case c1 => k_is)
    (case k1 => k_is)
    (case a2 => k_is)
    (case l2 => k_is)
    (case c2 => k_is)
    (case k2 => k_is)
    (case a3 => k_is)
    (case l3 => k_is)
    (case c3 => k_is)
    (case k3 => k_is)
    (case a4 => k_is)
    (case l4 => k_is)
    (case c4 => k_is)
    (case k4 => k_is)
    (case a5 => k_is)
    (case l5 => k_is)
    (case c5 => k_is)
    (case k5 => k_is)
    (case a6 => k_is)
    (case l6 => k_is)
    (case c6 => k_is)
    (case k6 => k_is)
    (case a7 => k_is)
    (case l7 => k_is)
    (case c7 => k_is)
    (case k7 => k_is)
    (case a8 => k_is)
    (case l8 => k_is)
    (case c8 => k_is)
    (case k8 => k_is)
    (case a9 => k_is)
    (case l9 => k_is)
    (case c9 => k_is)
    (case k9 => k_is)
    (case a10 => k_is)
    (case l10 => k_is)
    (case c10 => k_is)
    (case k10 => k_is)
    (case a11 => k_is)
    (case l11 => k_is)
    (case c11 => k_is)
    (case k11 => k_is)
    (case a12 => k_is)
    (case l12 => k_is)
    (case c12 => k_is)
    (case k12 => k_is)
    (case a13 => k_is)
    (case l13 => k_is)
    (case c13 => k_is)
    (case k13 => k_is)
    (case z1 => k_is)
    (case z2 => k_is)
    (case z3 => k_is)
    (case z4 => k_is)
    (case z5 => k_is)
    (case z6 => k_is)
    (case z7 => k_is)
    (case z8 => k_is)
    (case z9 => k_is)
    (case z10 => k_is)
    (case z11 => k_is)
    (case z12 => k_is)
    (case z13 => k_is)
    (case z14 => k_is)
    (case z15 => k_is)
    (case z16 => k_is)
    (case z17 => k_is)
