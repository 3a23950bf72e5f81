import PyProof.Rows.All
import Wide.All
import OpenK.AllK
import HandS.CallLocal
import HandS.CallSlots
import HandS.ClsMeth
import HandS.Defaults
import HandS.DictComp
import HandS.EndTab
import HandS.ExcField
import HandS.ExcIs
import HandS.ExcOwn
import HandS.FStr
import HandS.FStrTup
import HandS.Flow
import HandS.ForExc
import HandS.ForMost
import HandS.IsInst
import HandS.Lambda
import HandS.More
import HandS.NoneIn
import HandS.Property
import HandS.Replace
import HandS.ReplaceDef
import HandS.ReplaceList
import HandS.ReplaceLit
import HandS.Set
import HandS.SetFor
import HandS.SetTxt0
import HandS.SlotsOwn
import HandS.Sort
import HandS.Star
import HandS.Strs
import HandS.Style
import HandS.TryMany
import HandS.TupAny
import HandS.TupSets
import HandS.Walk
import HandS.Wide
import HandS.WideBits
import HandS.Zip
import KE.DataCmp
import KE.GoesMore
import KE.GoesZip
import KE.KCallOwn
import KE.KExcInit
import KE.KExcIs
import KE.KParD
import KE.KSortTupG
import KE.KSortTupUse
import KE.SortData
import KE.SortKeyHeap
import PyProof.CollectStr
import PyProof.P3Eq
import PyProof.Rows.SortShellAny
import Wide.FinOn
import KE.GoesEnum
import PySem.Challenge.RW_treewalks_k44_sure_labels
set_option Elab.async false
set_option maxRecDepth 100000
set_option maxHeartbeats 4000000
namespace Tw
open PySem PySem.Spec PyProof.Rows L2
/-! ### trees over signs -/
abbrev ch (c : Nat) : Str := ⟨#[c]⟩
def tx (l : List Nat) : Str := ⟨l.toArray⟩
theorem tx_cps (l : List Nat) : (tx l).cps.toList = l := rfl
theorem tx_size (l : List Nat) : (tx l).cps.size = l.length := rfl
theorem tx_len (l : List Nat) : (tx l).length = l.length := rfl
theorem tx_one (c : Nat) : tx [c] = ch c := rfl
theorem tx_app (a b : List Nat) : tx a ++ tx b = tx (a ++ b) := by
  show (⟨(tx a).cps ++ (tx b).cps⟩ : Str) = _
  simp [tx]
theorem ch_app (c : Nat) (b : List Nat) : ch c ++ tx b = tx (c :: b) := tx_app [c] b
theorem tx_inj {a b : List Nat} (h : tx a = tx b) : a = b := congrArg (fun z : Str => z.cps.toList) h
theorem ch_inj {a b : Nat} (h : ch a = ch b) : a = b := by have := tx_inj (a := [a]) (b := [b]) h; simpa using this
theorem ch_lt (a b : Nat) : decide ((ch a).cps.toList < (ch b).cps.toList) = decide (a < b) := by
  have : ((ch a).cps.toList < (ch b).cps.toList) ↔ a < b := by
    show [a] < [b] ↔ _
    simp [List.cons_lt_cons_iff]
  simp only [this]
theorem tx_to (l : List Nat) (k : Nat) : cutS (tx l) none (some (k : Int)) = tx (l.take k) := by
  unfold cutS tx
  show (⟨_⟩ : Str) = ⟨_⟩
  rw [HT.sIx_nat, HT.sIx_none]
  show (⟨((l.drop 0).take (min k l.length - 0)).toArray⟩ : Str) = ⟨(l.take k).toArray⟩
  rw [List.drop_zero, Nat.sub_zero, Nat.min_def]
  split
  · rfl
  · rw [List.take_of_length_le (Nat.le_refl _), List.take_of_length_le (by omega)]
theorem tx_from (l : List Nat) (k : Nat) : cutS (tx l) (some (k : Int)) none = tx (l.drop k) := by
  unfold cutS tx
  show (⟨_⟩ : Str) = ⟨_⟩
  rw [HT.sIx_nat, HT.sIx_none]
  show (⟨((l.drop (min k l.length)).take (l.length - min k l.length)).toArray⟩ : Str) = ⟨(l.drop k).toArray⟩
  by_cases h : k ≤ l.length
  · rw [Nat.min_eq_left h, List.take_of_length_le (by rw [List.length_drop]; omega)]
  · rw [Nat.min_eq_right (by omega), List.drop_eq_nil_of_le (Nat.le_refl _), List.drop_eq_nil_of_le (by omega), List.take_nil]
theorem joinL_ones : ∀ l : List Nat, TL.joinL [] (l.map fun c => [c]) = l
  | [] => rfl
  | [c] => rfl
  | c :: d :: r => by
    have := joinL_ones (d :: r)
    show [c] ++ ([] ++ TL.joinL [] ((d :: r).map fun c => [c])) = _
    rw [this]; rfl
theorem tx_join (l : List Nat) : Txt.join (Str.ofString "") (l.map ch) = tx l := by
  rw [TL.join_eq]
  have e := TL.tl_join (Str.ofString "") (l.map ch)
  refine TL.ext_tl (e.trans ?_)
  rw [List.map_map]
  exact joinL_ones l
theorem tx_joinOk (l : List Nat) (h : l.length ≤ 1000) : ((l.map ch).map (·.length)).sum + (l.map ch).length * (Str.ofString "").length ≤ 16777216 := by
  have e0 : (Str.ofString "").length = 0 := by decide +kernel
  have e1 : ∀ l : List Nat, ((l.map ch).map (·.length)).sum = l.length := by
    intro l
    induction l with
    | nil => rfl
    | cons c r ih =>
      rw [List.map_cons, List.map_cons, List.sum_cons, ih, List.length_cons]
      show 1 + r.length = _
      omega
  rw [e0, e1]
  omega
inductive B where
  | nil
  | node (l : B) (x : Nat) (r : B)
  deriving DecidableEq
def B.size : B → Nat
  | .nil => 0
  | .node l _ r => l.size + 1 + r.size
def B.deep : B → Nat
  | .nil => 0
  | .node l _ r => 1 + max l.deep r.deep
def B.data : B → PyData
  | .nil => .none
  | .node l x r => .tuple [l.data, .str (ch x), r.data]
def B.pre : B → List Nat
  | .nil => []
  | .node l x r => x :: (l.pre ++ r.pre)
def B.mid : B → List Nat
  | .nil => []
  | .node l x r => l.mid ++ x :: r.mid
theorem B.deep_le : ∀ t : B, t.deep ≤ t.size
  | .nil => Nat.le_refl _
  | .node l _ r => by
    have h1 := l.deep_le
    have h2 := r.deep_le
    show 1 + max l.deep r.deep ≤ l.size + 1 + r.size
    omega
theorem B.pre_len : ∀ t : B, t.pre.length = t.size
  | .nil => rfl
  | .node l x r => by
    have h1 := l.pre_len
    have h2 := r.pre_len
    show (x :: (l.pre ++ r.pre)).length = l.size + 1 + r.size
    rw [List.length_cons, List.length_append]
    omega
theorem B.mid_len : ∀ t : B, t.mid.length = t.size
  | .nil => rfl
  | .node l x r => by
    have h1 := l.mid_len
    have h2 := r.mid_len
    show (l.mid ++ x :: r.mid).length = l.size + 1 + r.size
    rw [List.length_append, List.length_cons]
    omega
theorem B.mid_mem (t : B) (c : Nat) : c ∈ t.mid ↔ c ∈ t.pre := by
  induction t with
  | nil => exact Iff.rfl
  | node l x r h1 h2 =>
    show c ∈ l.mid ++ x :: r.mid ↔ c ∈ x :: (l.pre ++ r.pre)
    rw [List.mem_append, List.mem_cons, List.mem_cons, List.mem_append, h1, h2]
    constructor
    · rintro (h | h | h)
      · exact .inr (.inl h)
      · exact .inl h
      · exact .inr (.inr h)
    · rintro (h | h | h)
      · exact .inr (.inl h)
      · exact .inl h
      · exact .inr (.inr h)
/-- the tree t lies at v -/
inductive BAt (H : Hp) : V → B → Prop
  | nil : BAt H .non .nil
  | node {a : Addr} {l r : V} {x : Nat} {tl tr : B} : H a = some (.tup [l, .str (ch x), r]) → BAt H l tl → BAt H r tr → BAt H (.ref a) (.node tl x tr)
/-- tuples stand still -/
def KeepT (H H' : Hp) : Prop := ∀ b xs, H b = some (.tup xs) → H' b = some (.tup xs)
theorem KeepT.refl (H : Hp) : KeepT H H := fun _ _ h => h
theorem KeepT.trans {H H1 H2 : Hp} (a : KeepT H H1) (b : KeepT H1 H2) : KeepT H H2 := fun c xs h => b c xs (a c xs h)
theorem Same.keepT {H H' : Hp} (h : Same H H') : KeepT H H' := fun b xs e => h b _ e
theorem BAt.keep {H H' : Hp} (k : KeepT H H') {v : V} {t : B} (h : BAt H v t) : BAt H' v t := by
  induction h with
  | nil => exact .nil
  | node e _ _ h1 h2 => exact .node (k _ _ e) h1 h2
theorem BAt.same {H H' : Hp} (k : Same H H') {v : V} {t : B} (h : BAt H v t) : BAt H' v t := h.keep (Tw.Same.keepT k)
theorem BAt.dp {K : PySem.W.Frag} {H : Hp} {v : V} {t : B} (h : BAt H v t) : Dp K H v t.data := by
  induction h with
  | nil => exact .non
  | node e _ _ h1 h2 => exact .tup (SqT.of e) (.cons h1 (.cons (.str _) (.cons h2 .nil)))
theorem BAt.inv {H : Hp} {v : V} {t : B} (h : BAt H v t) : (v = .non ∧ t = .nil) ∨ ∃ a l r x tl tr, v = .ref a ∧ t = .node tl x tr ∧ H a = some (.tup [l, .str (ch x), r]) ∧ BAt H l tl ∧ BAt H r tr := by
  cases h with
  | nil => exact .inl ⟨rfl, rfl⟩
  | node e h1 h2 => exact .inr ⟨_, _, _, _, _, _, rfl, rfl, e, h1, h2⟩
theorem same_new {H : Hp} {p : Addr} (h : H p = none) (o : HO) : Same H (upd H p o) := fun b u q => by rw [upd_ne (ne_of_none q h)]; exact q
theorem small {n : Nat} (h : n ≤ 1000) : n ≤ sizeLine := Nat.le_of_lt (small1000 h)
theorem at_map {α : Type} {f : α → V} {ns : List α} {i : Int} {v : α} (h0 : 0 ≤ i) (h : ns[i.toNat]? = some v) : atI (ns.map f) i = some (f v) := by
  have e : i = ((i.toNat : Nat) : Int) := by omega
  rw [e]
  exact atI_nat (by rw [List.getElem?_map, h]; rfl)
theorem ixN_nat {n : Nat} {i : Int} (h0 : 0 ≤ i) (h : i < n) : ixN n i = some i.toNat := by
  unfold ixN
  first
    | rw [if_pos h0, if_pos h]
    | (rw [if_pos h0]; rw [if_pos (by omega)])
    | simp [h0, h]
theorem cut_to (xs : List V) (k : Nat) : cutV xs none (some (k : Int)) = xs.take k := by
  unfold cutV
  rw [HT.sIx_nat, HT.sIx_none, List.drop_zero, Nat.sub_zero]
  rw [Nat.min_def]
  split
  · rfl
  · rw [List.take_of_length_le (Nat.le_refl _), List.take_of_length_le (by omega)]
theorem cut_from (xs : List V) (k : Nat) : cutV xs (some (k : Int)) none = xs.drop k := by
  unfold cutV
  rw [HT.sIx_nat, HT.sIx_none]
  by_cases h : k ≤ xs.length
  · rw [Nat.min_eq_left h, List.take_of_length_le (by rw [List.length_drop]; omega)]
  · rw [Nat.min_eq_right (by omega), List.drop_eq_nil_of_le (Nat.le_refl _), List.drop_eq_nil_of_le (by omega), List.take_nil]
theorem kept {σ : L2.St} {H : Hp} {A B : Hp → Prop} (h : A H) : tYes σ H (fun b H3 => if b = true then A H3 else B H3) := by
  show if true = true then A H else B H
  exact iteT h
theorem erase_map {α β : Type} (f : α → β) : ∀ (l : List α) (i : Nat), (l.map f).eraseIdx i = (l.eraseIdx i).map f
  | [], _ => rfl
  | _ :: _, 0 => rfl
  | x :: l, i + 1 => congrArg (f x :: ·) (erase_map f l i)
/-- a def that stands at a name, with its promise -/
structure Df (P : Program) (w : World) (K : PySem.W.Frag) (mg : Str → Option Value) (base : Heap) (k : Nat) (nm : Str) (ps : List Str) (sp : Sp) where
  f : Addr
  fd : FuncData
  ok : FnOk P w K mg base CX0 k f fd ps sp
  b : Binds K fd ps []
  kp : PySem.W.keepIn K (.ref f) = true
  g : mg nm = some (.ref f)
structure Mgs (mg : Str → Option Value) : Prop where
  zip : mg "zip" = none
  all : mg "all" = none
  repr : mg "repr" = none
  sum : mg "sum" = none
  len : mg "len" = none
  isinstance : mg "isinstance" = none
  list : mg "list" = none
  tuple : mg "tuple" = none
  str : mg "str" = none
  int : mg "int" = none
  bool : mg "bool" = none
  dict : mg "dict" = none
  range : mg "range" = none
  sorted : mg "sorted" = none
  abs : mg "abs" = none
  min : mg "min" = none
  max : mg "max" = none
theorem vals_signs : ∀ (l : List Nat) (vs : List Value), vs.length = l.length → (∀ (j : Nat) (v : Value), vs[j]? = some v → ∃ c u, l[j]? = some c ∧ v = .str ⟨#[c]⟩ u) → Vals (l.map fun c => V.str ⟨#[c]⟩) vs
  | [], [], _, _ => .nil
  | [], _ :: _, h, _ => by simp at h
  | _ :: _, [], h, _ => by simp at h
  | c :: l, v :: vs, h, k => by
    obtain ⟨c', u, e, rfl⟩ := k 0 v rfl
    cases e
    exact .cons ⟨u, rfl⟩ (vals_signs l vs (by simpa using h) fun j v e => k (j + 1) v e)
theorem call_signs {X : Cx} (hc : X.calm = true) : CallR X (.type "list") (fun xs H Q => ∃ x : Str, xs = [.str x] ∧ x.cps.size ≤ 1000 ∧ ∀ p, H p = none → Q (.ref p) (upd H p (.lst (x.cps.toList.map fun c => V.str ⟨#[c]⟩)))) := by
  intro pins s σ H xs us Q I r h
  obtain ⟨x, rfl, hz, q⟩ := h
  obtain ⟨u, rfl, t, rfl⟩ := vals1 r
  have hz' : x.cps.size ≤ sizeLine := small hz
  refine call_list_str (I.ok.hd hc) x t (fun h' tk acc' c' hk hS hacc => ?_) hz'
  have hv : Vals (x.cps.toList.map fun c => V.str ⟨#[c]⟩) acc'.toList := vals_signs _ _ (by rw [Array.length_toList, Array.length_toList]; exact hacc.1) fun j v e => by
    obtain ⟨c, u, h1, h2⟩ := hacc.2 j v (by rw [← Array.getElem?_toList]; exact e)
    exact ⟨c, u, by rw [Array.getElem?_toList]; exact h1, h2⟩
  exact ⟨.ref s.heap.objs.size, _, I.laid (t' := tk) hk (Nat.le_refl _) (show ObjOk X.prog X.w _ h' _ (.lst _) from ⟨by rw [List.length_map, Array.length_toList]; exact hz', acc'.toList, c', hv, by rw [Array.toArray_toList]; exact hS⟩), rfl, q _ (I.hok.fresh (Nat.le_refl _))⟩
/-- for c in text -/
theorem for_text {x : Str} {g : TG} {tb : TS} {D : Ends} {σ : L2.St} {H : Hp} (Pv : Nat → L2.St → Hp → Prop) (h0 : Pv 0 σ H)
    (hs : ∀ i c σ H, x.cps.toList[i]? = some c → Pv i σ H → g (.str ⟨#[c]⟩) σ H fun σ2 H2 => tb { D with nx := Pv (i + 1), ct := Pv (i + 1), bk := D.nx } σ2 H2)
    (hd : ∀ σ H, Pv x.cps.toList.length σ H → D.nx σ H) :
    ∃ W : Nat → Nat → L2.St → Hp → Prop, (∃ m, W 0 m σ H) ∧ ∀ i m σ H, W i m σ H →
      ((Its x).stop i H ∧ D.nx σ H) ∨ ((Its x).go i H ∧ ∃ N : L2.St → Hp → Prop, (∀ σ' H', N σ' H' → ∃ m', m' < m ∧ W (i + 1) m' σ' H') ∧ ∀ v H', (Its x).yld i H v H' → g v σ H' fun σ2 H2 => tb { D with nx := N, ct := N, bk := D.nx } σ2 H2) := by
  refine for_it walk_str Pv h0 (fun _ _ _ _ _ => trivial) (fun i v σ H H' hi hp hy => ?_) (fun σ H hp => hd σ H (by rw [Array.length_toList]; exact hp))
  obtain ⟨rfl, c, hc, rfl⟩ := hy
  exact hs i c σ H' (by rw [Array.getElem?_toList]; exact hc) hp
theorem lc_text {x : Str} {g : TG} {tt : TT} {te : TE} {vs : List Nat} {σ : L2.St} {H1 : Hp} {D : Addr} {Qd : Hp → Prop} (Pv : Nat → Hp → Prop) (h0 : Pv 0 (upd H1 D (.lst [])))
    (hs : ∀ i c H, x.cps.toList[i]? = some c → Pv i H → g (.str ⟨#[c]⟩) (wipe σ vs) H fun σ2 H2 => wipe σ2 vs = wipe σ vs ∧ tt σ2 H2 fun b H3 =>
      if b = true then te σ2 H3 fun y H4 => ∃ acc, H4 D = some (.lst acc) ∧ acc.length < sizeLine ∧ Pv (i + 1) (upd H4 D (.lst (acc ++ [y]))) else Pv (i + 1) H3) (hd : ∀ H, Pv x.cps.toList.length H → Qd H) :
    ∃ W : Nat → Nat → Hp → Prop, (∃ m, W 0 m (upd H1 D (.lst []))) ∧ ∀ i m H, W i m H →
      ((Its x).stop i H ∧ Qd H) ∨ ((Its x).go i H ∧ ∃ Nx : Hp → Prop, (∀ H', Nx H' → ∃ m', m' < m ∧ W (i + 1) m' H') ∧ ∀ v H', (Its x).yld i H v H' → g v (wipe σ vs) H' fun σ2 H2 => wipe σ2 vs = wipe σ vs ∧ tt σ2 H2 fun b H3 =>
        if b = true then te σ2 H3 fun y H4 => ∃ acc, H4 D = some (.lst acc) ∧ acc.length < sizeLine ∧ Nx (upd H4 D (.lst (acc ++ [y]))) else Nx H3) := by
  refine lc_it walk_str Pv h0 (fun _ _ _ _ => trivial) (fun i v H H' hi hp hy => ?_) (fun H hp => hd H (by rw [Array.length_toList]; exact hp))
  obtain ⟨rfl, c, hc, rfl⟩ := hy
  exact hs i c H' (by rw [Array.getElem?_toList]; exact hc) hp
/-! ### the text by places -/
def top (i : Nat) : Stmt := PySem.Challenge.pw_treewalks_k44_sure_labels.main.body.getD i (.Pass ⟨0, 0, 0, 0⟩)
abbrev s_is_letter : Stmt := top 11
abbrev s_is_row : Stmt := top 14
abbrev s_three_rows : Stmt := top 15
abbrev s_whole_of : Stmt := top 16
abbrev s_common_letters : Stmt := top 17
abbrev s_allowed_splits : Stmt := top 18
abbrev s_counts_of : Stmt := top 19
abbrev s_add_counts : Stmt := top 20
abbrev s_live_splits : Stmt := top 21
abbrev s_live_roots : Stmt := top 22
abbrev s_sure_rows : Stmt := top 23
abbrev s__law_deck : Stmt := top 25
abbrev s__law_draw : Stmt := top 26
abbrev s__law_mixed : Stmt := top 27
abbrev s__law_same : Stmt := top 28
abbrev s__law_size : Stmt := top 29
abbrev s__law_shapes : Stmt := top 30
abbrev s__law_spots : Stmt := top 31
abbrev s__law_letter : Stmt := top 32
abbrev s__law_labelled : Stmt := top 33
abbrev s__law_shape : Stmt := top 34
abbrev s__law_tree : Stmt := top 35
abbrev s__law_walks : Stmt := top 36
abbrev s__law_hidden : Stmt := top 37
abbrev s__law_rows : Stmt := top 38
abbrev s__law_due : Stmt := top 39
abbrev s__law_told : Stmt := top 40
abbrev s_law : Stmt := top 41
abbrev s_BadRow___init__ : Stmt := inClass (top 4) 0
abbrev s_NotAlike___init__ : Stmt := inClass (top 5) 0
abbrev s_NoKind___init__ : Stmt := inClass (top 8) 0
theorem sc_is_letter : FnScope ["value"] ["value"] (defScope s_is_letter) := ⟨rfl, rfl, rfl, by decide +kernel, rfl, by decide +kernel, by decide +kernel⟩
theorem sc_is_row : FnScope ["value", "sign"] ["value"] (defScope s_is_row) := ⟨rfl, rfl, rfl, by decide +kernel, rfl, by decide +kernel, by decide +kernel⟩
theorem sc_three_rows : FnScope ["rows", "name", "names", "size", "kind"] ["rows"] (defScope s_three_rows) := ⟨rfl, rfl, rfl, by decide +kernel, rfl, by decide +kernel, by decide +kernel⟩
theorem sc_whole_of : FnScope ["given"] ["given"] (defScope s_whole_of) := ⟨rfl, rfl, rfl, by decide +kernel, rfl, by decide +kernel, by decide +kernel⟩
theorem sc_common_letters : FnScope ["signs", "known"] ["signs"] (defScope s_common_letters) := ⟨rfl, rfl, rfl, by decide +kernel, rfl, by decide +kernel, by decide +kernel⟩
theorem sc_allowed_splits : FnScope ["given", "stretch", "size", "first", "between", "last", "found", "many", "letters", "left", "right"] ["given", "stretch"] (defScope s_allowed_splits) := ⟨rfl, rfl, rfl, by decide +kernel, rfl, by decide +kernel, by decide +kernel⟩
theorem sc_counts_of : FnScope ["given", "counts"] ["given"] (defScope s_counts_of) := ⟨rfl, rfl, rfl, by decide +kernel, rfl, by decide +kernel, by decide +kernel⟩
theorem sc_add_counts : FnScope ["given", "stretch", "counts", "total", "letters", "left", "right"] ["given", "stretch", "counts"] (defScope s_add_counts) := ⟨rfl, rfl, rfl, by decide +kernel, rfl, by decide +kernel, by decide +kernel⟩
theorem sc_live_splits : FnScope ["given", "counts", "stretch", "splits", "letters", "left", "right"] ["given", "counts", "stretch"] (defScope s_live_splits) := ⟨rfl, rfl, rfl, by decide +kernel, rfl, by decide +kernel, by decide +kernel⟩
theorem sc_live_roots : FnScope ["given", "counts", "found", "waiting", "seen", "stretch", "letters", "left", "right"] ["given", "counts"] (defScope s_live_roots) := ⟨rfl, rfl, rfl, by decide +kernel, rfl, by decide +kernel, by decide +kernel⟩
theorem sc__law_deck : FnScope ["_law_script", "_law_cells", "_law_cell"] ["_law_script"] (defScope s__law_deck) := ⟨rfl, rfl, rfl, by decide +kernel, rfl, by decide +kernel, by decide +kernel⟩
theorem sc__law_draw : FnScope ["_law_deck_here", "_law_many", "_law_at", "_law_digit", "_law_mixed_here"] ["_law_deck_here", "_law_many"] (defScope s__law_draw) := ⟨rfl, rfl, rfl, by decide +kernel, rfl, by decide +kernel, by decide +kernel⟩
theorem sc__law_mixed : FnScope ["_law_deck_here", "_law_row", "_law_left", "_law_found"] ["_law_deck_here", "_law_row"] (defScope s__law_mixed) := ⟨rfl, rfl, rfl, by decide +kernel, rfl, by decide +kernel, by decide +kernel⟩
theorem sc__law_same : FnScope ["_law_found", "_law_due_here", "_law_k"] ["_law_found", "_law_due_here"] (defScope s__law_same) := ⟨rfl, rfl, rfl, by decide +kernel, rfl, by decide +kernel, by decide +kernel⟩
theorem sc__law_size : FnScope ["_law_tree_here"] ["_law_tree_here"] (defScope s__law_size) := ⟨rfl, rfl, rfl, by decide +kernel, rfl, by decide +kernel, by decide +kernel⟩
theorem sc__law_shapes : FnScope ["_law_many", "_law_found", "_law_size_here", "_law_some", "_law_split", "_law_left", "_law_right"] ["_law_many"] (defScope s__law_shapes) := ⟨rfl, rfl, rfl, by decide +kernel, rfl, by decide +kernel, by decide +kernel⟩
theorem sc__law_spots : FnScope ["_law_shape_here", "_law_a", "_law_b", "_law_c", "_law_many", "_law_split", "_law_found"] ["_law_shape_here", "_law_a", "_law_b", "_law_c"] (defScope s__law_spots) := ⟨rfl, rfl, rfl, by decide +kernel, rfl, by decide +kernel, by decide +kernel⟩
theorem sc__law_letter : FnScope ["_law_rows_here", "_law_spot", "_law_k", "_law_known"] ["_law_rows_here", "_law_spot"] (defScope s__law_letter) := ⟨rfl, rfl, rfl, by decide +kernel, rfl, by decide +kernel, by decide +kernel⟩
theorem sc__law_labelled : FnScope ["_law_shape_here", "_law_letters", "_law_split"] ["_law_shape_here", "_law_letters"] (defScope s__law_labelled) := ⟨rfl, rfl, rfl, by decide +kernel, rfl, by decide +kernel, by decide +kernel⟩
theorem sc__law_shape : FnScope ["_law_deck_here", "_law_many", "_law_way", "_law_split"] ["_law_deck_here", "_law_many", "_law_way"] (defScope s__law_shape) := ⟨rfl, rfl, rfl, by decide +kernel, rfl, by decide +kernel, by decide +kernel⟩
theorem sc__law_tree : FnScope ["_law_deck_here", "_law_most", "_law_many", "_law_some", "_law_node", "_law_letters"] ["_law_deck_here", "_law_most"] (defScope s__law_tree) := ⟨rfl, rfl, rfl, by decide +kernel, rfl, by decide +kernel, by decide +kernel⟩
theorem sc__law_walks : FnScope ["_law_tree_here", "_law_one", "_law_other", "_law_label"] ["_law_tree_here"] (defScope s__law_walks) := ⟨rfl, rfl, rfl, by decide +kernel, rfl, by decide +kernel, by decide +kernel⟩
theorem sc__law_hidden : FnScope ["_law_deck_here", "_law_row", "_law_way", "_law_sign"] ["_law_deck_here", "_law_row"] (defScope s__law_hidden) := ⟨rfl, rfl, rfl, by decide +kernel, rfl, by decide +kernel, by decide +kernel⟩
theorem sc__law_rows : FnScope ["_law_deck_here", "_law_most", "_law_row", "_law_rows_here", "_law_which", "_law_spot"] ["_law_deck_here", "_law_most"] (defScope s__law_rows) := ⟨rfl, rfl, rfl, by decide +kernel, rfl, by decide +kernel, by decide +kernel⟩
theorem sc__law_due : FnScope ["_law_rows_here", "_law_many", "_law_some", "_law_shape_here", "_law_spots_here", "_law_spot", "_law_letters", "_law_signs", "_law_sign", "_law_k", "_law_found", "_law_place", "_law_texts"] ["_law_rows_here"] (defScope s__law_due) := ⟨rfl, rfl, rfl, by decide +kernel, rfl, by decide +kernel, by decide +kernel⟩
theorem sc__law_told : FnScope ["_law_call", "e", "_law_alone"] ["_law_call"] (defScope s__law_told) := ⟨rfl, rfl, rfl, by decide +kernel, rfl, by decide +kernel, by decide +kernel⟩
theorem sc_law : FnScope ["_law_script", "_law_deck_here", "_law_turn", "_law_a", "_law_b", "_law_c", "_law_blank", "_law_due_here", "_law_again"] ["_law_script"] (defScope s_law) := ⟨rfl, rfl, rfl, by decide +kernel, rfl, by decide +kernel, by decide +kernel⟩
theorem sc_BadRow___init__ : FnScope ["self", "name"] ["self", "name"] (defScope s_BadRow___init__) := ⟨rfl, rfl, rfl, by decide +kernel, rfl, by decide +kernel, by decide +kernel⟩
theorem sc_NotAlike___init__ : FnScope ["self", "name"] ["self", "name"] (defScope s_NotAlike___init__) := ⟨rfl, rfl, rfl, by decide +kernel, rfl, by decide +kernel, by decide +kernel⟩
theorem sc_NoKind___init__ : FnScope ["self", "value"] ["self", "value"] (defScope s_NoKind___init__) := ⟨rfl, rfl, rfl, by decide +kernel, rfl, by decide +kernel, by decide +kernel⟩
/-! ### def f(a, .., **d), called with keywords: a new dict of them -/
theorem push_last (h : Heap) (o : Obj) (f : Obj → Obj) : (h.push o).update h.objs.size f = h.push (f o) := by
  obtain ⟨objs, l⟩ := h
  show (⟨(objs.push o).modify objs.size f, l⟩ : Heap) = ⟨objs.push (f o), l⟩
  refine congrArg (fun z => (⟨z, l⟩ : Heap)) (Array.ext_getElem? fun i => ?_)
  rw [Array.getElem?_modify, Array.getElem?_push, Array.getElem?_push]
  by_cases e : objs.size = i
  · subst e
    simp
  · rw [if_neg e, if_neg (fun z => e z.symm), if_neg (fun z => e z.symm)]
section
variable {P : Program} {w : World} {A : Around} {E : Value → Shared → Prop}
/-- one entry more -/
theorem kw_put {z : Shared} {es : List DictEntry} {n t : Nat} {k : Str} {v : Value} {Q : Unit → Shared → Prop} (new : ∀ e ∈ es, ∃ k' u, e.key = .str k' u ∧ k' ≠ k)
    (h : ∀ n' t', Q () { z with heap := z.heap.push (PySem.W.dictOf (es ++ [⟨PyData.keyHash w.params k, .str k t, v⟩]) n'), toks := t' }) :
    wpAny (model P w) A (nsSet z.heap.objs.size k v) Q E { z with heap := z.heap.push (PySem.W.dictOf es n), toks := t } := by
  have here : (z.heap.push (PySem.W.dictOf es n)).get? z.heap.objs.size = some (PySem.W.dictOf es n) := Heap.get?_push_size _ rfl
  have other : ∀ e ∈ es, e.key.isStr k = false := fun e he => by
    obtain ⟨k', u, ek, ne⟩ := new e he
    rw [ek]
    exact beq_eq_false_iff_ne.mpr ne
  have named : aRefKeyMayBeTheName k es.toArray = false := by
    rw [aRefKeyMayBeTheName_at]
    have : es.toArray.any (·.refKey) = false := by
      rw [← Array.any_toList]
      refine List.any_eq_false.mpr fun e he => ?_
      obtain ⟨k', u, ek, _⟩ := new e he
      show ¬ e.refKey = true
      unfold DictEntry.refKey
      rw [ek]
      exact Bool.false_ne_true
    rw [this, Bool.and_false]
  unfold nsSet
  refine wpAny_bind (wpAny_bind (wpAny_askSetting (wpAny_pure ?_)))
  refine wpAny_bind (wpAny_mkText ?_)
  refine wpAny_bind (wpAny_loadPart here ?_)
  show wpAny _ _ (if aRefKeyMayBeTheName k es.toArray = true then _ else _) _ _ _
  rw [named]
  refine wpAny_updatePart (s := { z with heap := z.heap.push (PySem.W.dictOf es n), toks := t + 1 }) here ?_
  rw [push_last, PySem.W.putName_dict, PySem.W.putL_new other]
  exact h _ _
/-- all entries -/
theorem kw_fill {z : Shared} {Q : PUnit → Shared → Prop} : ∀ (ex : List (Str × Value)) (es : List DictEntry) (n t : Nat), (∀ e ∈ es, ∃ k' u, e.key = .str k' u ∧ ∀ x ∈ ex, k' ≠ x.1) → (ex.map (·.1)).Nodup →
    (∀ n' t' es', Pairs (mixKind P w) es' (ex.map fun x => ((.inr x.1 : Key), x.2)) → (∀ e ∈ es', ∃ k u, e.key = .str k u ∧ e.hash = PyData.keyHash w.params k) → Q ⟨⟩ { z with heap := z.heap.push (PySem.W.dictOf (es ++ es') n'), toks := t' }) →
    wpAny (model P w) A (forIn ex PUnit.unit fun x _ => (nsSet z.heap.objs.size x.1 x.2 >>= fun _ => pure (ForInStep.yield PUnit.unit))) Q E { z with heap := z.heap.push (PySem.W.dictOf es n), toks := t }
  | [], es, n, t, _, _, h => by
    rw [List.forIn_nil]
    refine wpAny_pure ?_
    have := h n t [] .nil (fun e he => by cases he)
    rw [List.append_nil] at this
    exact this
  | (k, v) :: ex, es, n, t, old, nd, h => by
    obtain ⟨nk, nd⟩ := List.nodup_cons.mp (show (k :: ex.map (·.1)).Nodup from nd)
    rw [List.forIn_cons]
    refine wpAny_bind (wpAny_bind (kw_put (fun e he => ?_) fun n1 t1 => wpAny_pure ?_))
    · obtain ⟨k', u, ek, ne⟩ := old e he
      exact ⟨k', u, ek, ne (k, v) List.mem_cons_self⟩
    refine kw_fill ex _ n1 t1 (fun e he => ?_) nd fun n' t' es' pr hs => ?_
    · rcases List.mem_append.mp he with he | he
      · obtain ⟨k', u, ek, ne⟩ := old e he
        exact ⟨k', u, ek, fun x hx => ne x (List.mem_cons_of_mem _ hx)⟩
      · rw [List.mem_singleton.mp he]
        exact ⟨k, t, rfl, fun x hx e => nk (List.mem_map.mpr ⟨x, hx, e.symm⟩)⟩
    · have := h n' t' (⟨PyData.keyHash w.params k, .str k t, v⟩ :: es') (.cons (mixKind_str P w k t) rfl pr) (fun e he => by
        rcases List.mem_cons.mp he with rfl | he
        · exact ⟨k, t, rfl, rfl⟩
        · exact hs e he)
      rw [List.append_assoc]
      exact this
end
/-- what such a def's binding comes to -/
structure KwBind (fd : FuncData) (ps : List Str) (pd : Str) (ks : List Str) : Prop where
  eq : ∀ us ws : List Value, us.length = ps.length → ws.length = ks.length → bindArgs fd ⟨us, ks.zip ws⟩ =
    ((alloc ({ cls := .type "dict", data := .dict #[] } : Obj) : Sem Addr) >>= fun d => (forIn (ks.zip ws) PUnit.unit fun x _ => (nsSet d x.1 x.2 >>= fun _ => pure (ForInStep.yield PUnit.unit))) >>= fun _ => pure (ps.zip us ++ [(pd, Value.ref d)]))
  nd : ks.Nodup
/-- its promise: vs the values, zs the keywords' -/
def FnKw (P : Program) (w : World) (K : PySem.W.Frag) (mg : Str → Option Value) (base : Heap) (k : Nat) (f : Addr) (n : Nat) (ks : List Str) (sp : List V → List V → Hp → VK → Prop) : Prop :=
  ∀ (A : Around) (outer : List Env) (s : Shared) (H : Hp) (us ws : List Value) (vs zs : List V) (Q : VK), Room k A → Env0 P w K mg base A outer s H → Vals vs us → vs.length = n → Vals zs ws → zs.length = ks.length → sp vs zs H Q →
    codeAny (model P w) A (.call (.ref f) ⟨us, ks.zip ws⟩) (CR CX0 outer P w H s Q E0) s
theorem kv_zip : ∀ {ks : List Str} {zs : List V} {ws : List Value}, Vals zs ws → zs.length = ks.length → KV ((ks.zip zs).map fun x => ((.inr x.1 : Key), x.2)) ((ks.zip ws).map fun x => ((.inr x.1 : Key), x.2))
  | [], _, _, .nil, _ => .nil
  | k :: ks, _, _, .cons r h, e => .cons ⟨rfl, r⟩ (kv_zip h (by simpa using e))
section
variable {P : Program} {w : World} {K : PySem.W.Frag} {mg : Str → Option Value} {base : Heap}
theorem fnKw {x qual : Str} {st : Stmt} {f : Addr} {fd : FuncData} {N ps ks : List Str} {pd : Str} {k : Nat} {sp : List V → List V → Hp → VK → Prop} (F : Fun K x qual st f fd) (B : KwBind fd ps pd ks) (few : ks.length ≤ 1000) (S : FnScope N (ps ++ [pd]) (defScope st))
    (body : ∀ (cdv : Value) (A : Around) (outer : List Env) (s : Shared) (H : Hp) (vs zs : List V) (d : Addr) (Q : VK), Room k (A.deeper (envOfC qual (defScope st) s.heap.objs.size f cdv)) → H d = some (.dK ((ks.zip zs).map fun x => ((.inr x.1 : Key), x.2))) → zs.length = ks.length →
      (∃ H0, H0 d = none ∧ H = upd H0 d (.dK ((ks.zip zs).map fun x => ((.inr x.1 : Key), x.2))) ∧ sp vs zs H0 Q) →
      ∃ t, PSs (cxOf CX0 P w K mg base N qual (defScope st) f cdv A outer s H E0).nox (defBody st) t ∧ t { nx := fun _ H' => Q .non H', rt := Q } (start N (vs ++ [.ref d])) H) :
    FnKw P w K mg base (k + 1) f ps.length ks sp := by
  intro A outer s H us ws vs zs Q room e0 rv lv rz lz q
  obtain ⟨oc, od, kV, doc, pm, an, cdv, ct, osl, e, look, code⟩ := F.ex
  subst e
  have lus : us.length = ps.length := by rw [← rv.length]; exact lv
  have lws : ws.length = ks.length := by rw [← rz.length]; exact lz
  have fresh : H s.heap.objs.size = none := e0.hok.fresh (Nat.le_refl _)
  refine StX.run_bnd look code S room e0 (G := fun xs H2 => ∃ d, H d = none ∧ xs = vs ++ [V.ref d] ∧ H2 = upd H d (.dK ((ks.zip zs).map fun x => ((.inr x.1 : Key), x.2)))) (fun A' Ex Q' fin => ?_) fun s2 H2 xs g room2 => ?_
  · rw [B.eq us ws lus lws]
    refine wpAny_bind (wpAny_alloc ?_)
    have names : ((ks.zip ws).map (·.1)) = ks := List.map_fst_zip (Nat.le_of_eq lws.symm)
    refine wpAny_bind (kw_fill (z := s) (ks.zip ws) [] 0 s.toks (fun e he => by cases he) (by rw [names]; exact B.nd) fun n' t' es' pr hs => wpAny_pure ?_)
    rw [List.nil_append]
    have ok : ObjOk P w (upd H s.heap.objs.size (.dK ((ks.zip zs).map fun x => ((.inr x.1 : Key), x.2)))) (s.heap.push (PySem.W.dictOf es' n')) s.heap.objs.size (.dK ((ks.zip zs).map fun x => ((.inr x.1 : Key), x.2))) := by
      refine ⟨?_, beq_eq_false_iff_ne.mpr (Ne.symm (Nat.ne_of_lt (StX.env0_big e0))), _, kv_zip rz lz, _, es'.toArray, n', Heap.get?_push_size _ rfl, ⟨rfl, rfl, rfl⟩, rfl, fun e he => ?_, pr, ?_⟩
      · rw [List.length_map, List.length_zip]
        exact small (by omega)
      · obtain ⟨k', u, ek, eh⟩ := hs e (List.mem_toArray.mp he)
        exact ⟨.inr k', by rw [ek]; exact mixKind_str P w k' u, eh⟩
      · rw [List.map_map]
        have : (ks.zip ws).map ((fun x : Key × Value => x.1) ∘ fun x => ((.inr x.1 : Key), x.2)) = ((ks.zip ws).map (·.1)).map Sum.inr := by rw [List.map_map]; rfl
        rw [this, names]
        exact List.Pairwise.map _ (fun _ _ ne e => ne (Sum.inr.inj e)) B.nd
    have en := StX.env0_laid e0 ok
    have un := StX.un_laid (fs := frs outer) (s := s) (o := PySem.W.dictOf es' n') (u := .dK ((ks.zip zs).map fun x => ((.inr x.1 : Key), x.2))) fresh
    have z := fin { s with heap := s.heap.push (PySem.W.dictOf es' n'), toks := t' } _ (vs ++ [V.ref s.heap.objs.size]) (us ++ [Value.ref s.heap.objs.size]) ⟨en.frames, en.mod, en.bs, en.bsz, en.funs, en.frf, en.hok, en.bare⟩ un rfl (fun _ _ h => h.elim)
      (rv.append (.cons rfl .nil)) (by rw [List.length_append, List.length_append, lv]; rfl) ⟨_, fresh, rfl, rfl⟩
    rw [List.zip_append lus.symm] at z
    exact z
  · obtain ⟨d, nd, rfl, rfl⟩ := g
    obtain ⟨t, rule, read⟩ := body cdv A outer s2 _ vs zs d Q room2 upd_same lz ⟨H, nd, rfl, q⟩
    exact ⟨t, rule.nox, read⟩
end
/-- f(e, .., k = v, ..) of such a def -/
def tCallKw (n m : Nat) (sp : List V → List V → Hp → VK → Prop) (t tk : TA) : TE := fun σ H Q => t σ H fun vs H1 => tk σ H1 fun zs H2 => vs.length = n ∧ zs.length = m ∧ sp vs zs H2 Q
theorem pe_callKw {X : Cx} {k n : Nat} {f : Addr} {ks : List Str} {sp : List V → List V → Hp → VK → Prop} {x : Str} {p pos : Pos} {e : Expr} {es : List Expr} {kws : List Keyword} {t tk : TA} (F : FnKw X.prog X.w X.K X.mg X.base k f n ks sp) (room : Room k X.A) (isG : Gl X x) (at0 : X.mg x = some (.ref f)) (kp : PySem.W.keepIn X.K (.ref f) = true)
    (args : PA X (e :: es) t) (kargs : PK X kws tk) (all : (backToKw pos (keywordEach kws X.env)).all (·.1.isSome) = true := by rfl) (names : (backToKw pos (keywordEach kws X.env)).filterMap (·.1) = ks := by rfl)
    (nd : (x == ("__debug__" : Str)) = false := by decide) (he : starEach (e :: es) X.env = (false, eval e X.env) :: starEach es X.env := by rfl)
    (plain : ((backTo pos (starEach (e :: es) X.env)).any (·.1) || (backToKw pos (keywordEach kws X.env)).any (·.1.isNone)) = false := by rfl) :
    PE X (.Call (.Name x p) (e :: es) kws pos) (tCallKw n ks.length sp t tk) := by
  refine ⟨fun pins s σ H Q I h => wpAny_Call_Name_kw (ld_glob I isG at0 ?_ nd)⟩
  refine PySem.W.callWith_KW (h₀ := X.base) I.ok.mod.kin kp all (thn (args.run pos pins s σ H _ I h) fun us s1 ⟨vs, H1, I1, rv, q1⟩ => ?_) plain he
  refine thn (kargs.run pos pins s1 σ H1 _ I1 q1) fun ws s2 ⟨zs, H2, I2, rz, l1, l2, q2⟩ => ⟨I2.kIn, ?_⟩
  rw [names]
  refine wpAny_call (codeAny_mono (F X.A X.stack s2 H2 us ws vs zs Q room I2.env0 rv l1 rz l2 q2) fun r z hq => ?_)
  match r, hq with
  | .ok (.ret u), hq => exact I2.after hq
/-! ### xs != [], xs == [] -/
section
variable {X : Cx}
theorem op_neL (hu : X.A.units < cLine) : OpR X (compareOp .NotEq) (fun x y H Q => ∃ a b xs, x = .ref a ∧ y = .ref b ∧ SqL X.K H a xs ∧ SqL X.K H b [] ∧ Q (.bl (!xs.isEmpty)) H) := by
  intro pins s σ H x y v u Q I rx ry h
  obtain ⟨a, b, xs, rfl, rfl, hx, hy, q⟩ := h
  cases rx
  cases ry
  obtain ⟨its, r1, t1, _⟩ := I.list hx
  obtain ⟨its2, r2, t2, _⟩ := I.list hy
  cases r2
  cases r1 with
  | nil =>
    have rc := SeqAt.RcNeAt.lists (A := X.A) (s := s) (items := ([] : List Value).toArray) (items2 := ([] : List Value).toArray) (e := fun _ => true) t1.isList t2.isList rfl hu (fun j h1 _ => absurd h1 (by simp))
    exact rc X.prog X.w X.xe _ ⟨.bl _, H, I, rfl, q⟩
  | cons _ _ =>
    have rc := SeqAt.RcNeAt.lists_lengths (A := X.A) (s := s) t1.isList t2.isList (by simp) hu
    exact rc X.prog X.w X.xe _ ⟨.bl _, H, I, rfl, q⟩
theorem cmpOf_ltS {prog : Program} {w : World} {A : Around} (x y : Str) (t u : Tok) :
    CmpOf prog w A .Lt (fun i v => (#[Value.str x t, Value.str y u])[i]? = some v) (fun i j => decide (([x, y].getD i x).cps.toList < ([x, y].getD j x).cps.toList)) := fun i j vi vj s Q E hi hj h => by
  have one : ∀ (i : Nat) (v : Value), (#[Value.str x t, Value.str y u])[i]? = some v → ∃ tk, v = .str ([x, y].getD i x) tk := fun i v e => by
    match i with
    | 0 => exact ⟨t, by simpa using e.symm⟩
    | 1 => exact ⟨u, by simpa using e.symm⟩
    | n + 2 => simp at e
  obtain ⟨t1, rfl⟩ := one i vi hi
  obtain ⟨t2, rfl⟩ := one j vj hj
  exact lt_str h
theorem cmpOf_gtS {prog : Program} {w : World} {A : Around} (x y : Str) (t u : Tok) :
    CmpOf prog w A .Gt (fun i v => (#[Value.str x t, Value.str y u])[i]? = some v) (fun i j => decide (([x, y].getD j x).cps.toList < ([x, y].getD i x).cps.toList)) := fun i j vi vj s Q E hi hj h => by
  have one : ∀ (i : Nat) (v : Value), (#[Value.str x t, Value.str y u])[i]? = some v → ∃ tk, v = .str ([x, y].getD i x) tk := fun i v e => by
    match i with
    | 0 => exact ⟨t, by simpa using e.symm⟩
    | 1 => exact ⟨u, by simpa using e.symm⟩
    | n + 2 => simp at e
  obtain ⟨t1, rfl⟩ := one i vi hi
  obtain ⟨t2, rfl⟩ := one j vj hj
  exact PySem.P.gt_str h
theorem argBest1 (bt : Nat → Nat → Bool) : argBest bt 1 = if bt 1 0 = true then 1 else 0 := rfl
theorem max_two_str {prog : Program} {w : World} {A : Around} {E : Value → Shared → Prop} {s : Shared} {Q : Value → Shared → Prop} {x y : Str} {t u : Tok} (hh : A.handled = none)
    (h : ∀ h' tk, (∀ c o, s.heap.get? c = some o → h'.get? c = some o) → Q (if x.cps.toList < y.cps.toList then .str y u else .str x t) { s with heap := h', toks := tk }) :
    wpAny (model prog w) A (call (.builtin "max") [.str x t, .str y u]) Q E s := by
  have hT : (s.heap.push { cls := .type "tuple", data := .seq #[.str x t, .str y u] }).IsTuple s.heap.objs.size #[.str x t, .str y u] := ⟨_, Heap.get?_push_size _ rfl, rfl, 0, rfl⟩
  refine call_max_two (wpAny_pyIter_tuple hT ?_)
  have hsz : (s.heap.push { cls := .type "tuple", data := .seq #[.str x t, .str y u] }).objs.size = s.heap.objs.size + 1 := Heap.size_push ..
  refine ⟨_, [_, s.heap.objs.size], [_], _, _, _, _, rfl, Walks.tuple (A := A.in1) hh _ s.heap.objs.size (by rw [hsz]; exact Nat.ne_of_lt (Nat.lt_succ_self _)) #[.str x t, .str y u],
    ⟨⟨_, Heap.get?_push_size _ rfl, rfl, rfl⟩, hT.push _⟩, fun c hc => ?_, by simp, cmpOf_gtS x y t u, fun v h' tk hP hk => ?_⟩
  · show c < ((s.heap.push _).push _).objs.size
    rw [Heap.size_push, hsz]
    rcases List.mem_cons.mp hc with rfl | hc
    · rw [hsz]; exact Nat.lt_succ_self _
    · rcases List.mem_cons.mp hc with rfl | hc
      · exact Nat.lt_succ_of_lt (Nat.lt_succ_self _)
      · cases hc
  · have hold : ∀ c o, s.heap.get? c = some o → h'.get? c = some o := fun c o e => by
      refine hk c o (fun hm => ?_) (Heap.get?_push_of_some _ (Heap.get?_push_of_some _ e))
      rcases List.mem_cons.mp hm with e1 | hm
      · have := Heap.lt_size e; rw [e1, hsz] at this; exact Nat.lt_irrefl _ (Nat.lt_of_succ_lt this)
      · cases hm
    have := h h' tk hold
    have hv : v = if x.cps.toList < y.cps.toList then .str y u else .str x t := by
      rw [show #[Value.str x t, Value.str y u].size - 1 = 1 from rfl, argBest1] at hP
      replace hP : #[Value.str x t, Value.str y u][if decide (x.cps.toList < y.cps.toList) = true then 1 else 0]? = some v := hP
      by_cases hc : x.cps.toList < y.cps.toList
      · rw [if_pos (decide_eq_true hc)] at hP
        rw [if_pos hc]
        exact (Option.some.inj hP).symm
      · rw [if_neg (fun z => hc (of_decide_eq_true z))] at hP
        rw [if_neg hc]
        exact (Option.some.inj hP).symm
    rw [hv]; exact this
theorem min_two_str {prog : Program} {w : World} {A : Around} {E : Value → Shared → Prop} {s : Shared} {Q : Value → Shared → Prop} {x y : Str} {t u : Tok} (hh : A.handled = none)
    (h : ∀ h' tk, (∀ c o, s.heap.get? c = some o → h'.get? c = some o) → Q (if y.cps.toList < x.cps.toList then .str y u else .str x t) { s with heap := h', toks := tk }) :
    wpAny (model prog w) A (call (.builtin "min") [.str x t, .str y u]) Q E s := by
  have hT : (s.heap.push { cls := .type "tuple", data := .seq #[.str x t, .str y u] }).IsTuple s.heap.objs.size #[.str x t, .str y u] := ⟨_, Heap.get?_push_size _ rfl, rfl, 0, rfl⟩
  refine call_min_two (wpAny_pyIter_tuple hT ?_)
  have hsz : (s.heap.push { cls := .type "tuple", data := .seq #[.str x t, .str y u] }).objs.size = s.heap.objs.size + 1 := Heap.size_push ..
  refine ⟨_, [_, s.heap.objs.size], [_], _, _, _, _, rfl, Walks.tuple (A := A.in1) hh _ s.heap.objs.size (by rw [hsz]; exact Nat.ne_of_lt (Nat.lt_succ_self _)) #[.str x t, .str y u],
    ⟨⟨_, Heap.get?_push_size _ rfl, rfl, rfl⟩, hT.push _⟩, fun c hc => ?_, by simp, cmpOf_ltS x y t u, fun v h' tk hP hk => ?_⟩
  · show c < ((s.heap.push _).push _).objs.size
    rw [Heap.size_push, hsz]
    rcases List.mem_cons.mp hc with rfl | hc
    · rw [hsz]; exact Nat.lt_succ_self _
    · rcases List.mem_cons.mp hc with rfl | hc
      · exact Nat.lt_succ_of_lt (Nat.lt_succ_self _)
      · cases hc
  · have hold : ∀ c o, s.heap.get? c = some o → h'.get? c = some o := fun c o e => by
      refine hk c o (fun hm => ?_) (Heap.get?_push_of_some _ (Heap.get?_push_of_some _ e))
      rcases List.mem_cons.mp hm with e1 | hm
      · have := Heap.lt_size e; rw [e1, hsz] at this; exact Nat.lt_irrefl _ (Nat.lt_of_succ_lt this)
      · cases hm
    have := h h' tk hold
    have hv : v = if y.cps.toList < x.cps.toList then .str y u else .str x t := by
      rw [show #[Value.str x t, Value.str y u].size - 1 = 1 from rfl, argBest1] at hP
      replace hP : #[Value.str x t, Value.str y u][if decide (y.cps.toList < x.cps.toList) = true then 1 else 0]? = some v := hP
      by_cases hc : y.cps.toList < x.cps.toList
      · rw [if_pos (decide_eq_true hc)] at hP
        rw [if_pos hc]
        exact (Option.some.inj hP).symm
      · rw [if_neg (fun z => hc (of_decide_eq_true z))] at hP
        rw [if_neg hc]
        exact (Option.some.inj hP).symm
    rw [hv]; exact this
theorem call_max2S (hc : X.calm = true) : CallR X (.builtin "max") (fun xs H Q => ∃ a b : Nat, xs = [.str (ch a), .str (ch b)] ∧ Q (.str (ch (max a b))) H) := by
  intro pins s σ H xs us Q I r h
  obtain ⟨a, b, rfl, q⟩ := h
  obtain ⟨u, w', rfl, ⟨t, rfl⟩, ⟨t', rfl⟩⟩ := vals2 r
  refine max_two_str (I.ok.hd hc) fun h' tk k => ⟨_, H, I.kept k, ?_, q⟩
  have e : ((ch a).cps.toList < (ch b).cps.toList) ↔ a < b := by
    have := ch_lt a b
    simpa using this
  by_cases hj : a < b
  · rw [if_pos (e.mpr hj), Nat.max_eq_right (Nat.le_of_lt hj)]; exact ⟨_, rfl⟩
  · rw [if_neg (fun z => hj (e.mp z)), Nat.max_eq_left (by omega)]; exact ⟨_, rfl⟩
theorem call_min2S (hc : X.calm = true) : CallR X (.builtin "min") (fun xs H Q => ∃ a b : Nat, xs = [.str (ch a), .str (ch b)] ∧ Q (.str (ch (min a b))) H) := by
  intro pins s σ H xs us Q I r h
  obtain ⟨a, b, rfl, q⟩ := h
  obtain ⟨u, w', rfl, ⟨t, rfl⟩, ⟨t', rfl⟩⟩ := vals2 r
  refine min_two_str (I.ok.hd hc) fun h' tk k => ⟨_, H, I.kept k, ?_, q⟩
  have e : ((ch b).cps.toList < (ch a).cps.toList) ↔ b < a := by
    have := ch_lt b a
    simpa using this
  by_cases hj : b < a
  · rw [if_pos (e.mpr hj), Nat.min_eq_right (Nat.le_of_lt hj)]; exact ⟨_, rfl⟩
  · rw [if_neg (fun z => hj (e.mp z)), Nat.min_eq_left (by omega)]; exact ⟨_, rfl⟩
end
/-! ### the deck -/
structure Deck where
  dk : Addr
  ca : Addr
  ra : Addr
structure DeckOk (H : Hp) (D : Deck) (n : Nat) : Prop where
  ex : ∃ cells rests : List Int, H D.dk = some (.lst [.ref D.ca, .int (n : Int), .ref D.ra]) ∧ H D.ca = some (.lst (cells.map V.int)) ∧ H D.ra = some (.lst (rests.map V.int)) ∧ 0 < cells.length ∧ rests.length = cells.length ∧ cells.length ≤ 64
  dc : D.dk ≠ D.ca
  dr : D.dk ≠ D.ra
  cr : D.ca ≠ D.ra
/-- all stands still but the deck's list and its rests -/
def SameD (D : Deck) (H H' : Hp) : Prop := ∀ b o, b ≠ D.dk → b ≠ D.ra → H b = some o → H' b = some o
theorem SameD.refl (D : Deck) (H : Hp) : SameD D H H := fun _ _ _ _ h => h
theorem SameD.trans {D : Deck} {H H1 H2 : Hp} (a : SameD D H H1) (b : SameD D H1 H2) : SameD D H H2 := fun c o h1 h2 h => b c o h1 h2 (a c o h1 h2 h)
theorem SameD.of {D : Deck} {H H' : Hp} (h : Same H H') : SameD D H H' := fun b o _ _ e => h b o e
theorem DeckOk.lists {H : Hp} {D : Deck} {n : Nat} (d : DeckOk H D n) : (∃ xs, H D.dk = some (.lst xs)) ∧ (∃ xs, H D.ra = some (.lst xs)) := by
  obtain ⟨c, r, h1, _, h3, _⟩ := d.ex
  exact ⟨⟨_, h1⟩, ⟨_, h3⟩⟩
theorem SameD.keepT {D : Deck} {H H' : Hp} {n : Nat} (h : SameD D H H') (d : DeckOk H D n) : KeepT H H' := fun b xs e => by
  obtain ⟨⟨x1, h1⟩, ⟨x2, h2⟩⟩ := d.lists
  exact h b _ (ne_of e h1 (by intro z; cases z)) (ne_of e h2 (by intro z; cases z)) e
theorem SameD.free {D : Deck} {H H' : Hp} {n : Nat} (h : SameD D H H') (d : DeckOk H' D n) {p : Addr} (e : H' p = none) : H p = none := by
  obtain ⟨⟨x1, h1⟩, ⟨x2, h2⟩⟩ := d.lists
  have n1 : p ≠ D.dk := fun z => by rw [z, h1] at e; cases e
  have n2 : p ≠ D.ra := fun z => by rw [z, h2] at e; cases e
  cases q : H p with
  | none => rfl
  | some o =>
    rw [h p o n1 n2 q] at e
    cases e
theorem DeckOk.same {H H' : Hp} {D : Deck} {n : Nat} (d : DeckOk H D n) (h : Same H H') : DeckOk H' D n := by
  obtain ⟨c, r, h1, h2, h3, h4⟩ := d.ex
  exact ⟨⟨c, r, h _ _ h1, h _ _ h2, h _ _ h3, h4⟩, d.dc, d.dr, d.cr⟩
structure Off (D : Deck) (p : Addr) : Prop where
  dk : p ≠ D.dk
  ca : p ≠ D.ca
  ra : p ≠ D.ra
theorem DeckOk.new {H : Hp} {D : Deck} {n : Nat} (d : DeckOk H D n) {p : Addr} (e : H p = none) : Off D p := by
  obtain ⟨c, r, h1, h2, h3, _⟩ := d.ex
  refine ⟨fun z => ?_, fun z => ?_, fun z => ?_⟩
  · rw [z, h1] at e
    cases e
  · rw [z, h2] at e
    cases e
  · rw [z, h3] at e
    cases e
theorem DeckOk.put {H : Hp} {D : Deck} {n : Nat} (d : DeckOk H D n) {p : Addr} (f : Off D p) (o : HO) : DeckOk (upd H p o) D n := by
  obtain ⟨c, r, h1, h2, h3, h4⟩ := d.ex
  exact ⟨⟨c, r, by rw [upd_ne f.dk.symm]; exact h1, by rw [upd_ne f.ca.symm]; exact h2, by rw [upd_ne f.ra.symm]; exact h3, h4⟩, d.dc, d.dr, d.cr⟩
theorem SameD.put {D : Deck} {H H' : Hp} {p : Addr} (s : SameD D H H') (e : H p = none) (o : HO) : SameD D H (upd H' p o) := fun b u h1 h2 h => by
  rw [upd_ne (ne_of_none h e)]
  exact s b u h1 h2 h
theorem SameD.at {D : Deck} {H H' : Hp} {p : Addr} {o : HO} (s : SameD D H H') (f : Off D p) (e : H p = some o) : H' p = some o := s p o f.dk f.ra e
theorem modB (z p : Int) (h0 : 0 < p) : 0 ≤ z % p ∧ z % p < p := ⟨Int.emod_nonneg z (by omega), Int.emod_lt_of_pos z h0⟩
def spDraw : Sp := fun vs H Q _ => ∃ (D : Deck) (n : Nat) (m : Int), vs = [.ref D.dk, .int m] ∧ DeckOk H D n ∧ n < 1000000 ∧ 0 < m ∧ m < 1073741824 ∧ ∀ (i : Int) (H' : Hp), 0 ≤ i → i < m → DeckOk H' D (n + 1) → SameD D H H' → Q (.int i) H'
theorem sq_le {n : Nat} (h : n ≤ 1000000) : 69621 * (n : Int) * (n : Int) ≤ 69621000000000000 ∧ 0 ≤ 69621 * (n : Int) * (n : Int) := by
  have h1 : (n : Int) * (n : Int) ≤ 1000000 * 1000000 := Int.mul_le_mul (by omega) (by omega) (by omega) (by omega)
  have h0 : 0 ≤ (n : Int) * (n : Int) := Int.mul_nonneg (by omega) (by omega)
  rw [Int.mul_assoc]
  omega
section
variable {P : Program} {w : World} {K : PySem.W.Frag} {mg : Str → Option Value} {base : Heap} {f : Addr} {fd : FuncData}
theorem ok_draw {k : Nat} (F : Fun K "_law_draw" "_law_draw" s__law_draw f fd) (M : Mgs mg) : FnOk P w K mg base CX0 (k + 1) f fd ["_law_deck_here", "_law_many"] spDraw := by
  refine F.ok sc__law_draw (fun vs H Q E h => ?_) (fun cdv A outer s H vs Q E hr h => ?_)
  · obtain ⟨D, n, m, rfl, _⟩ := h
    rfl
  obtain ⟨D, n, m, rfl, d, hn, m0, m1, q⟩ := h
  obtain ⟨cells, rests, e1, e2, e3, c0, cr, c1⟩ := d.ex
  have cl : ((cells.map V.int).length : Int) = (cells.length : Int) := by rw [List.length_map]
  have z0 : atI [V.ref D.ca, V.int (n : Int), V.ref D.ra] 0 = some (.ref D.ca) := atI_nat (j := 0) rfl
  have z1 : atI [V.ref D.ca, V.int (n : Int), V.ref D.ra] 1 = some (.int (n : Int)) := atI_nat (j := 1) rfl
  refine ⟨_, (pss_cons (ps_set (i := 2) sc__law_draw.nd rfl (.inl rfl) (pe_op op_mod (pe_ix ix_list (pv 0) pe_int (fun _ _ => rfl)) (pe_callB call_len_seq rfl M.len PySem.boot_len (pa_cons (pe_ix ix_list (pv 0) pe_int (fun _ _ => rfl)) pa_nil))))
    (pss_cons (ps_asg (pe_op op_add (pe_ix ix_list (pv 0) pe_int (fun _ _ => rfl)) pe_int) (pg_sub (pv 0) pe_int set_list))
    (pss_cons (ps_if (pt_cmpR op_gt (pe_ix ix_list (pe_ix ix_list (pv 0) pe_int (fun _ _ => rfl)) (pv 2) (fun _ _ => rfl)) pe_int (nomark _))
      (pss_cons (ps_set (i := 3) sc__law_draw.nd rfl (.inl rfl) (pe_op op_mod (pe_ix ix_list (pe_ix ix_list (pv 0) pe_int (fun _ _ => rfl)) (pv 2) (fun _ _ => rfl)) (pv 1)))
    (pss_cons (ps_asg (pe_op op_fdiv (pe_ix ix_list (pe_ix ix_list (pv 0) pe_int (fun _ _ => rfl)) (pv 2) (fun _ _ => rfl)) (pv 1)) (pg_sub (pe_ix ix_list (pv 0) pe_int (fun _ _ => rfl)) (pv 2) set_list))
    (pss_one (ps_ret (pv 3))))) pss_nil)
    (pss_cons (ps_set (i := 4) sc__law_draw.nd rfl (.inl rfl) (pe_op op_mod (pe_op op_pow (pe_op op_add (pe_op op_add (pe_op op_mod (pe_ix ix_list (pe_ix ix_list (pv 0) pe_int (fun _ _ => rfl)) (pv 2) (fun _ _ => rfl)) pe_int) (pe_op op_mul pe_int (pe_ix ix_list (pv 0) pe_int (fun _ _ => rfl)))) pe_int) pe_int) pe_int))
    (pss_cons (ps_set (i := 4) sc__law_draw.nd rfl (.inl rfl) (pe_op op_mod (pe_op op_pow (pe_op op_add (pv 4) (pe_op op_mul (pe_op op_mul pe_int (pe_ix ix_list (pv 0) pe_int (fun _ _ => rfl))) (pe_ix ix_list (pv 0) pe_int (fun _ _ => rfl)))) pe_int) pe_int))
    (pss_one (ps_ret (pe_op op_mod (pe_op op_fdiv (pv 4) pe_int) (pv 1))))))))), ?_⟩
  refine ⟨_, rfl, D.dk, _, _, _, rfl, rfl, SqL.of e1, z1, _, rfl, D.dk, _, _, _, rfl, rfl, SqL.of e1, z0, D.ca, _, rfl, .inl (SqL.of e2), _, _, rfl, rfl, (by show (0 : Int) < ((cells.map V.int).length : Int); rw [cl]; omega), ?_⟩
  have i0 : 0 ≤ (n : Int) % ((cells.map V.int).length : Int) := Int.emod_nonneg _ (by rw [cl]; omega)
  have i1 : (n : Int) % ((cells.map V.int).length : Int) < (cells.length : Int) := by
    rw [cl]
    exact Int.emod_lt_of_pos _ (by omega)
  have l1 : ((n : Int) % ((cells.map V.int).length : Int)).toNat < rests.length := by omega
  have l2 : ((n : Int) % ((cells.map V.int).length : Int)).toNat < cells.length := by omega
  have a1 := at_map (f := V.int) i0 (List.getElem?_eq_getElem l1)
  have a2 := at_map (f := V.int) i0 (List.getElem?_eq_getElem l2)
  have ix1 : ixN (rests.map V.int).length ((n : Int) % ((cells.map V.int).length : Int)) = some ((n : Int) % ((cells.map V.int).length : Int)).toNat := ixN_nat i0 (by rw [List.length_map (as := rests), cr]; exact i1)
  refine ⟨_, rfl, D.dk, _, _, _, rfl, rfl, SqL.of e1, z1, _, _, rfl, rfl, _, rfl, D.dk, _, _, 1, rfl, rfl, e1, rfl, ?_⟩
  have x1 : (upd H D.dk (.lst [.ref D.ca, .int ((n : Int) + 1), .ref D.ra])) D.dk = some (.lst [.ref D.ca, .int ((n + 1 : Nat) : Int), .ref D.ra]) := upd_same
  have x2 : (upd H D.dk (.lst [.ref D.ca, .int ((n : Int) + 1), .ref D.ra])) D.ca = some (.lst (cells.map V.int)) := by rw [upd_ne d.dc.symm]; exact e2
  have x3 : (upd H D.dk (.lst [.ref D.ca, .int ((n : Int) + 1), .ref D.ra])) D.ra = some (.lst (rests.map V.int)) := by rw [upd_ne d.dr.symm]; exact e3
  have sd : SameD D H (upd H D.dk (.lst [.ref D.ca, .int ((n : Int) + 1), .ref D.ra])) := fun b o h1 _ e => by rw [upd_ne h1]; exact e
  have y0 : atI [V.ref D.ca, V.int ((n + 1 : Nat) : Int), V.ref D.ra] 0 = some (.ref D.ca) := atI_nat (j := 0) rfl
  have y1 : atI [V.ref D.ca, V.int ((n + 1 : Nat) : Int), V.ref D.ra] 1 = some (.int ((n + 1 : Nat) : Int)) := atI_nat (j := 1) rfl
  have y2 : atI [V.ref D.ca, V.int ((n + 1 : Nat) : Int), V.ref D.ra] 2 = some (.ref D.ra) := atI_nat (j := 2) rfl
  have sx1 := SqL.of (K := K) x1
  refine ⟨_, rfl, D.dk, _, _, _, rfl, rfl, sx1, y2, _, rfl, D.ra, _, _, _, rfl, rfl, SqL.of x3, a1, _, _, rfl, rfl, _, rfl, ite2 (fun _ => ?_) (fun _ => ?_)⟩
  · refine ⟨_, rfl, D.dk, _, _, _, rfl, rfl, sx1, y2, _, rfl, D.ra, _, _, _, rfl, rfl, SqL.of x3, a1, _, rfl, _, _, rfl, rfl, m0, ?_⟩
    refine ⟨_, rfl, D.dk, _, _, _, rfl, rfl, sx1, y2, _, rfl, D.ra, _, _, _, rfl, rfl, SqL.of x3, a1, _, rfl, _, _, rfl, rfl, ⟨by omega, by omega⟩, ?_⟩
    refine ⟨_, rfl, D.dk, _, _, _, rfl, rfl, sx1, y2, _, rfl, D.ra, _, _, _, rfl, rfl, x3, ix1, ?_⟩
    refine ⟨_, rfl, ?_⟩
    refine q _ _ (Int.emod_nonneg _ (by omega)) (Int.emod_lt_of_pos _ m0) ⟨⟨cells, rests.set ((n : Int) % ((cells.map V.int).length : Int)).toNat (rests[((n : Int) % ((cells.map V.int).length : Int)).toNat] / m), ?_, ?_, ?_, c0, ?_, c1⟩, d.dc, d.dr, d.cr⟩ ?_
    · rw [upd_ne d.dr]; exact x1
    · rw [upd_ne d.cr]; exact x2
    · rw [upd_same, List.map_set]
    · rw [List.length_set]; exact cr
    · exact sd.trans fun b o _ h2 e => by rw [upd_ne h2]; exact e
  · have b1 := modB cells[((n : Int) % ((cells.map V.int).length : Int)).toNat] 2147483629 (by decide)
    have b2 := sq_le (n := n + 1) (by omega)
    refine ⟨_, rfl, D.dk, _, _, _, rfl, rfl, sx1, y0, _, rfl, D.ca, _, _, _, rfl, rfl, SqL.of x2, a2, _, _, rfl, rfl, (show (0 : Int) < 2147483629 by decide), _, rfl, D.dk, _, _, _, rfl, rfl, sx1, y1, _, _, rfl, rfl, .inl ⟨by decide, by decide⟩, _, _, rfl, rfl, _, _, rfl, rfl, _, _, rfl, rfl, ⟨by decide, by decide, by omega⟩, _, _, rfl, rfl, (show (0 : Int) < 2147483647 by decide), ?_⟩
    generalize (cells[((n : Int) % ((cells.map V.int).length : Int)).toNat] % 2147483629 + 48271 * ((n + 1 : Nat) : Int) + 7) ^ Int.toNat 3 = g1
    have b3 := modB g1 2147483647 (by decide)
    refine ⟨_, rfl, _, rfl, D.dk, _, _, _, rfl, rfl, sx1, y1, _, _, rfl, rfl, .inl ⟨by decide, by decide⟩, _, rfl, D.dk, _, _, _, rfl, rfl, sx1, y1, _, _, rfl, rfl, .inr ⟨by omega, by omega⟩, _, _, rfl, rfl, _, _, rfl, rfl, ⟨by decide, by decide, by omega⟩, _, _, rfl, rfl, (show (0 : Int) < 2147483587 by decide), ?_⟩
    refine ⟨_, rfl, _, _, rfl, rfl, ⟨by decide, by decide⟩, _, rfl, _, _, rfl, rfl, m0, ?_⟩
    exact q _ _ (Int.emod_nonneg _ (by omega)) (Int.emod_lt_of_pos _ m0) ⟨⟨cells, rests, x1, x2, x3, c0, cr, c1⟩, d.dc, d.dr, d.cr⟩ sd
end
/-! ### _law_deck -/
theorem rep_flat {α : Type} (a : α) : ∀ m : Nat, (List.replicate m [a]).flatten = List.replicate m a
  | 0 => rfl
  | m + 1 => by
    rw [List.replicate_succ, List.replicate_succ, List.flatten_cons, rep_flat a m]
    rfl
def spDeck (K : PySem.W.Frag) : Sp := fun vs H Q _ => ∃ (a : Addr) (ns : List Int), vs = [.ref a] ∧ SqL K H a (ns.map V.int) ∧ ∀ (D : Deck) (H' : Hp), DeckOk H' D 0 → Same H H' → Q (.ref D.dk) H'
section
variable {P : Program} {w : World} {K : PySem.W.Frag} {mg : Str → Option Value} {base : Heap} {f : Addr} {fd : FuncData}
theorem ok_deck {k : Nat} (F : Fun K "_law_deck" "_law_deck" s__law_deck f fd) (M : Mgs mg) : FnOk P w K mg base CX0 (k + 1) f fd ["_law_script"] (spDeck K) := by
  refine F.ok sc__law_deck (fun vs H Q E h => ?_) (fun cdv A outer s H vs Q E hr h => ?_)
  · obtain ⟨a, ns, rfl, _⟩ := h
    rfl
  obtain ⟨a, ns, rfl, hS, q⟩ := h
  refine ⟨_, (pss_cons (ps_set (i := 1) sc__law_deck.nd rfl (.inl rfl) (pe_op op_cat (pe_callTy call_list_of rfl M.list (by decide +kernel) (pa_cons (pe_slice sl_list (pv 0) po_none (po_some pe_int)) pa_nil)) (pe_op op_rep (pe_lst (pa_cons pe_int pa_nil)) (pe_callTy call_int1 rfl M.int (by decide +kernel) (pa_cons (pe_cmpR op_eq (pe_callB call_len_seq rfl M.len PySem.boot_len (pa_cons (pv 0) pa_nil)) pe_int (nomark _)) pa_nil)))))
    (pss_one (ps_ret (pe_lst (pa_cons (pv 1) (pa_cons pe_int (pa_cons (pe_lc (own := [("_law_cell", 2)]) (g := gName 2) (tt := tYes) rfl sc__law_deck.nd (pi_list (pv 1)) (blkOk_by (N := ["_law_script", "_law_cells", "_law_cell"]) (sc := defScope s__law_deck) (by decide +kernel)) (fun _ _ _ _ _ => (pg_name (i := 2) sc__law_deck.nd rfl (.inl rfl))) (fun _ _ _ _ _ => pts_nil) (fun _ _ _ _ _ => (pe_op op_mul (pe_callB call_abs rfl M.abs (by decide +kernel) (pa_cons (pv 2) pa_nil)) (pe_callTy call_int1 rfl M.int (by decide +kernel) (pa_cons (pe_cmpR op_ge (pe_callB call_abs rfl M.abs (by decide +kernel) (pa_cons (pv 2) pa_nil)) (pe_op op_pow pe_int pe_int) (nomark _)) pa_nil))))) pa_nil))))))), ?_⟩
  refine ⟨.ref a, rfl, 63, rfl, a, ns.map V.int, rfl, hS, fun c nc => ?_⟩
  rw [show (63 : Int) = ((63 : Nat) : Int) from rfl, cut_to, ← List.map_take]
  have s1 := same_new nc (.lst ((ns.take 63).map V.int))
  have ec := upd_same (H := H) (a := c) (o := .lst ((ns.take 63).map V.int))
  generalize upd H c (.lst ((ns.take 63).map V.int)) = H1 at s1 ec
  refine ⟨c, _, rfl, .inl (SqL.of ec), fun c2 nc2 => ?_⟩
  have s2 := same_new nc2 (.lst ((ns.take 63).map V.int))
  have ec2 := upd_same (H := H1) (a := c2) (o := .lst ((ns.take 63).map V.int))
  generalize upd H1 c2 (.lst ((ns.take 63).map V.int)) = H2 at s2 ec2
  refine ⟨(by show 1 ≤ sizeLine; decide), fun z nz => ?_⟩
  have s3 := same_new nz (.lst [.int 11])
  have ez := upd_same (H := H2) (a := z) (o := .lst [.int 11])
  have ec3 := s3 _ _ ec2
  generalize upd H2 z (.lst [.int 11]) = H3 at s3 ez ec3
  have sH := (s1.trans s2).trans s3
  refine ⟨.ref a, rfl, a, _, rfl, .inl (sH.seq hS), rfl, .inr ⟨_, rfl, z, _, _, rfl, rfl, ez, ?_, ?_, ?_, fun y ny => ?_⟩⟩
  · split <;> decide
  · split <;> decide
  · split <;> decide
  have s4 := same_new ny (.lst (List.replicate (Int.toNat (if decide (V.int ((ns.map V.int).length : Int) = V.int 0) = true then 1 else 0)) [V.int 11]).flatten)
  obtain ⟨ex, hex, hexl⟩ : ∃ ex : List Int, (List.replicate (Int.toNat (if decide (V.int ((ns.map V.int).length : Int) = V.int 0) = true then 1 else 0)) [V.int 11]).flatten = ex.map V.int ∧ 0 < (ns.take 63).length + ex.length ∧ (ns.take 63).length + ex.length ≤ 63 := by
    by_cases h0 : ns.length = 0
    · refine ⟨[11], ?_, Nat.succ_pos _, ?_⟩
      · rw [show (decide (V.int ((ns.map V.int).length : Int) = V.int 0)) = true by rw [List.length_map, h0]; rfl]
        rfl
      · rw [List.length_take, h0]
        decide
    · refine ⟨[], ?_, ?_, ?_⟩
      · rw [show (decide (V.int ((ns.map V.int).length : Int) = V.int 0)) = false by
          apply decide_eq_false
          intro z
          have z' := V.int.inj z
          rw [List.length_map] at z'
          omega]
        rfl
      · rw [List.length_take, List.length_nil]; omega
      · rw [List.length_take, List.length_nil]; omega
  refine ⟨c2, y, _, _, rfl, rfl, s4 _ _ ec3, upd_same, ?_, fun p np => ?_⟩
  · rw [hex, List.length_map, List.length_map]
    exact small (by omega)
  have s5 := same_new np (.lst ((ns.take 63).map V.int ++ (List.replicate (Int.toNat (if decide (V.int ((ns.map V.int).length : Int) = V.int 0) = true then 1 else 0)) [V.int 11]).flatten))
  have s6 := sH.trans (s4.trans s5)
  refine ⟨.ref p, rfl, _, rfl, p, rfl, ⟨_, SqL.of upd_same⟩, fun r nr => ?_⟩
  rw [hex, ← List.map_append] at s5 s6 nr ⊢
  generalize hH2 : upd (upd H3 y (.lst (ex.map V.int))) p (.lst ((ns.take 63 ++ ex).map V.int)) = H4 at s5 s6 nr ⊢
  have ep : H4 p = some (.lst ((ns.take 63 ++ ex).map V.int)) := by rw [← hH2]; exact upd_same
  have hpr : p ≠ r := ne_of_none ep nr
  refine lc_list (K := K) (a := p) (xs := (ns.take 63 ++ ex).map V.int) (fun i H' => Same H4 H' ∧ ∃ ys : List Int, ys.length = i ∧ H' r = some (.lst (ys.map V.int))) ⟨same_new nr _, [], rfl, upd_same⟩ (fun i H' _ hp => SqL.of (hp.1 _ _ ep)) (fun i x H' hx hp => ?_) (fun H5 hp => ?_)
  · obtain ⟨sm, ys, hy, hd⟩ := hp
    rw [List.getElem?_map] at hx
    obtain ⟨v, hv, rfl⟩ := Option.map_eq_some_iff.mp hx
    have hi : i < 64 := by
      have := (List.getElem?_eq_some_iff.mp hv).1
      rw [List.length_append] at this
      omega
    refine ⟨rfl, kept ?_⟩
    refine ⟨_, rfl, _, rfl, _, rfl, _, rfl, _, _, rfl, rfl, ⟨by decide, by decide, by decide⟩, _, _, rfl, rfl, .inr ⟨_, rfl, _, _, rfl, rfl, .inr ?_, _, hd, by rw [List.length_map]; exact small1000 (by omega), fun b o e => ?_, ys ++ [(if v < 0 then -v else v) * (if decide ((10 : Int) ^ Int.toNat 18 ≤ (if v < 0 then -v else v)) = true then 1 else 0)], by rw [List.length_append, hy]; rfl, ?_⟩⟩
    · generalize decide ((10 : Int) ^ Int.toNat 18 ≤ (if v < 0 then -v else v)) = bb
      cases bb <;> decide
    · rw [upd_ne (ne_of_none e nr)]
      exact sm _ _ e
    · rw [upd_same, List.map_append]
      rfl
  · obtain ⟨sm, ys, hy, hd⟩ := hp
    refine ⟨(by show 3 ≤ sizeLine; decide), fun t nt => ?_⟩
    have s9 := same_new nt (.lst [.ref p, .int 0, .ref r])
    have ep3 := sm _ _ ep
    refine q ⟨t, p, r⟩ _ ⟨⟨ns.take 63 ++ ex, ys, upd_same, s9 _ _ ep3, s9 _ _ hd, ?_, ?_, ?_⟩, (ne_of_none ep3 nt).symm, (ne_of_none hd nt).symm, hpr⟩ (s6.trans (sm.trans s9))
    · rw [List.length_append]; omega
    · rw [hy, List.length_map]
    · rw [List.length_append]; omega
end
/-! ### _law_pick, _law_mixed -/
abbrev vc (c : Nat) : V := .str (ch c)
abbrev vt (z : List Nat) : V := .str (tx z)
theorem at_ge {α : Type} {xs : List α} {i : Int} (h0 : 0 ≤ i) (h : i.toNat < xs.length) : atI xs i = some xs[i.toNat] := by
  have e := atI_nat (xs := xs) (j := i.toNat) (List.getElem?_eq_getElem h)
  rwa [Int.toNat_of_nonneg h0] at e
theorem erase_perm {α : Type} : ∀ {l : List α} {i : Nat} (h : i < l.length), List.Perm (l[i] :: l.eraseIdx i) l
  | x :: l, 0, _ => List.Perm.refl _
  | x :: l, i + 1, h => by
    have := erase_perm (l := l) (i := i) (Nat.lt_of_succ_lt_succ h)
    show List.Perm (l[i]'(Nat.lt_of_succ_lt_succ h) :: x :: l.eraseIdx i) (x :: l)
    exact (List.Perm.swap _ _ _).trans (this.cons x)
section
variable {P : Program} {w : World} {K : PySem.W.Frag} {mg : Str → Option Value} {base : Heap} {f : Addr} {fd : FuncData}
def spMixed : Sp := fun vs H Q _ => ∃ (D : Deck) (n : Nat) (a : Addr) (ls : List V), vs = [.ref D.dk, .ref a] ∧ DeckOk H D n ∧ n + ls.length ≤ 1000000 ∧ H a = some (.lst ls) ∧ Off D a ∧ ls.length ≤ 60 ∧
  ∀ (p : Addr) (zs : List V) (H' : Hp), DeckOk H' D (n + ls.length) → SameD D H H' → H p = none → H' p = some (.lst zs) → zs.Perm ls → Off D p → Q (.ref p) H'
theorem ok_mixed {k : Nat} (F : Fun K "_law_mixed" "_law_mixed" s__law_mixed f fd) (M : Mgs mg) (D_law_draw : Df P w K mg base (k + 1) "_law_draw" ["_law_deck_here", "_law_many"] spDraw) : FnOk P w K mg base CX0 (k + 2) f fd ["_law_deck_here", "_law_row"] spMixed := by
  refine F.ok sc__law_mixed (fun vs H Q E h => ?_) (fun cdv A outer s H vs Q E hr h => ?_)
  · obtain ⟨D, n, a, ls, rfl, _⟩ := h
    rfl
  obtain ⟨D, n, a, ls, rfl, d, hn, ea, oa, hl, q⟩ := h
  refine ⟨_, (pss_cons (ps_set (i := 2) sc__law_mixed.nd rfl (.inl rfl) (pe_callTy call_list_of rfl M.list (by decide +kernel) (pa_cons (pv 1) pa_nil)))
    (pss_cons (ps_set (i := 3) sc__law_mixed.nd rfl (.inl rfl) (pe_lst pa_nil))
    (pss_cons (ps_while PassesOwn.never (pt_cmpR (op_neL hr.units0) (pv 2) (pe_lst pa_nil) (nomark _))
      (pss_one (ps_expr (pe_bm PySem.F.plainAttrs_list PySem.F.slot_list_append PySem.F.type_list_append mt_append (pv 3) (pa_cons (pe_bm PySem.F.plainAttrs_list PySem.F.slot_list_pop PySem.F.type_list_pop mt_popAt (pv 2) (pa_cons (pe_call D_law_draw.ok (hr.mono (by omega)) rfl D_law_draw.g D_law_draw.kp D_law_draw.b .nil pass0 (pa_cons (pv 0) (pa_cons (pe_callB call_len_seq rfl M.len PySem.boot_len (pa_cons (pv 2) pa_nil)) pa_nil))) pa_nil)) pa_nil)))))
    (pss_one (ps_ret (pv 3)))))), ?_⟩
  refine ⟨_, rfl, a, _, rfl, .inl (SqL.of ea), fun ra nra => ?_⟩
  refine ⟨(by show 0 ≤ sizeLine; decide), fun fa nfa => ?_⟩
  have q1 := same_new nra (.lst ls)
  have q2 := same_new nfa (.lst [])
  have era := q2 _ _ (upd_same (H := H) (a := ra) (o := .lst ls))
  have nrf : ra ≠ fa := ne_of_none upd_same nfa
  have nfaH : H fa = none := by
    rw [upd_ne nrf.symm] at nfa
    exact nfa
  have ora := d.new nra
  have ofa := d.new nfaH
  refine while_by (fun σ H' => σ = [some (.ref D.dk), some (.ref a), some (.ref ra), some (.ref fa)] ∧ ∃ rest xs : List V, DeckOk H' D (n + xs.length) ∧ SameD D H H' ∧ H' ra = some (.lst rest) ∧ H' fa = some (.lst xs) ∧ (xs ++ rest).Perm ls) (fun σ H' => match H' ra with | some (.lst xs) => xs.length | _ => 0)
    ⟨rfl, ls, [], (d.same q1).same q2, SameD.of (q1.trans q2), era, upd_same, List.Perm.refl _⟩ (fun σ H' hp => ?_) ?_
  · obtain ⟨rfl, rest, xs, d', s', er, ef, pm⟩ := hp
    have hlen : xs.length + rest.length = ls.length := by rw [← List.length_append]; exact pm.length_eq
    refine ⟨_, rfl, (by show 0 ≤ sizeLine; decide), fun el ne => ?_⟩
    have q3 := same_new ne (.lst [])
    refine ⟨ra, el, _, rfl, rfl, SqL.of (q3 _ _ er), SqL.of upd_same, _, rfl, ?_⟩
    have d1 := d'.same q3
    have s1 := s'.trans (SameD.of q3)
    have er1 := q3 _ _ er
    have ef1 := q3 _ _ ef
    generalize upd H' el (.lst []) = H1 at d1 s1 er1 ef1
    cases hg : rest with
    | nil =>
      refine iteF ?_
      subst hg
      rw [List.append_nil] at pm
      rw [List.length_nil, Nat.add_zero] at hlen
      rw [hlen] at d1
      exact ⟨_, rfl, q fa xs H1 d1 s1 nfaH ef1 pm ofa⟩
    | cons g0 gr =>
      refine iteT ?_
      have r0 : 0 < rest.length := by rw [hg]; exact Nat.succ_pos _
      refine ⟨_, rfl, .inl ⟨rfl, _, SqL.of ef1⟩, _, rfl, .inl ⟨rfl, _, SqL.of er1⟩, _, rfl, _, rfl, ra, _, rfl, .inl (SqL.of er1), D, _, _, rfl, d1, by omega, by omega, by omega, fun j H2 j0 j1 d2 s2 => ?_⟩
      have hj : j.toNat < rest.length := by omega
      have er2 := s2.at ora er1
      have ef2 := s2.at ofa ef1
      refine ⟨ra, _, j, j.toNat, rest[j.toNat], rfl, rfl, er2, by omega, by omega, (ixN_seq (ixN_nat j0 (by omega))).1, List.getElem?_eq_getElem hj, ?_⟩
      have ef3 : (upd H2 ra (.lst (rest.eraseIdx j.toNat))) fa = some (.lst xs) := by rw [upd_ne nrf.symm]; exact ef2
      refine ⟨fa, _, _, rfl, rfl, ef3, small1000 (by omega), ?_⟩
      refine ⟨⟨rfl, rest.eraseIdx j.toNat, xs ++ [rest[j.toNat]], ?_, ((s1.trans s2).put nra _).put nfaH _, ?_, upd_same, ?_⟩, ?_⟩
      · rw [List.length_append]
        exact (d2.put ora _).put ofa _
      · rw [upd_ne nrf, upd_same]
      · rw [List.append_assoc]
        exact (List.Perm.append_left xs (erase_perm hj)).trans pm
      · show (match (upd (upd H2 ra _) fa (.lst (xs ++ [rest[j.toNat]]))) ra with | some (.lst xs) => xs.length | _ => 0) < (match H' ra with | some (.lst xs) => xs.length | _ => 0)
        rw [upd_ne nrf, upd_same, er]
        show (rest.eraseIdx j.toNat).length < rest.length
        rw [List.length_eraseIdx_of_lt hj]
        omega
  · intro σ H' Q1 Q2 hQ h
    obtain ⟨v, e, h0, h⟩ := h
    refine ⟨v, e, h0, fun el ne => ?_⟩
    obtain ⟨a, b, zs, h1, h2, h3, h4, k, h5, h6⟩ := h el ne
    exact ⟨a, b, zs, h1, h2, h3, h4, k, h5, hQ _ _ h6⟩
end
theorem iteS {x y : Str} {A B : Prop} (h : x = y) (a : A) : if decide (V.str x = V.str y) = true then A else B := by
  rw [if_pos (decide_eq_true (congrArg V.str h))]; exact a
theorem iteR {x y : Str} {A B : Prop} (h : x ≠ y) (b : B) : if decide (V.str x = V.str y) = true then A else B := by
  rw [if_neg (fun z => h (V.str.inj (of_decide_eq_true z)))]; exact b
theorem take_next {α : Type} {zs : List α} {i : Nat} {c : α} (h : zs[i]? = some c) : zs.take (i + 1) = zs.take i ++ [c] := by
  rw [List.take_succ, h]
  rfl
abbrev vn (n : Nat) : V := .int (n : Int)
/-! ### walks -/
inductive Kd where
  | first
  | between
  | last
  deriving DecidableEq
def Kd.str : Kd → Str
  | .first => "first"
  | .between => "between"
  | .last => "last"
def B.post : B → List Nat
  | .nil => []
  | .node l x r => l.post ++ r.post ++ [x]
def B.wk (k : Kd) (t : B) : List Nat := match k with
  | .first => t.pre
  | .between => t.mid
  | .last => t.post
def B.steps (k : Kd) : B → List Nat → List (List Nat × Nat)
  | .nil, _ => []
  | .node l x r, q => match k with
    | .first => [(q, x)] ++ l.steps k (q ++ [108]) ++ r.steps k (q ++ [114])
    | .between => l.steps k (q ++ [108]) ++ [(q, x)] ++ r.steps k (q ++ [114])
    | .last => l.steps k (q ++ [108]) ++ r.steps k (q ++ [114]) ++ [(q, x)]
theorem B.steps_wk (k : Kd) (t : B) : ∀ q : List Nat, (t.steps k q).map (·.2) = t.wk k := by
  induction t with
  | nil => intro q; cases k <;> rfl
  | node l x r h1 h2 =>
    intro q
    have a := h1 (q ++ [108])
    have b := h2 (q ++ [114])
    cases k
    · show ([(q, x)] ++ l.steps .first (q ++ [108]) ++ r.steps .first (q ++ [114])).map (·.2) = x :: (l.pre ++ r.pre)
      rw [List.map_append, List.map_append, a, b]; rfl
    · show (l.steps .between (q ++ [108]) ++ [(q, x)] ++ r.steps .between (q ++ [114])).map (·.2) = l.mid ++ x :: r.mid
      rw [List.map_append, List.map_append, a, b]
      show l.mid ++ [x] ++ r.mid = _
      rw [List.append_assoc]; rfl
    · show (l.steps .last (q ++ [108]) ++ r.steps .last (q ++ [114]) ++ [(q, x)]).map (·.2) = l.post ++ r.post ++ [x]
      rw [List.map_append, List.map_append, a, b]; rfl
theorem B.wk_len (k : Kd) (t : B) : (t.wk k).length = t.size := by
  cases k
  · exact t.pre_len
  · exact t.mid_len
  · show t.post.length = t.size
    induction t with
    | nil => rfl
    | node l x r h1 h2 =>
      show (l.post ++ r.post ++ [x]).length = l.size + 1 + r.size
      rw [List.length_append, List.length_append, h1, h2, List.length_cons, List.length_nil]
      omega
theorem B.steps_len (k : Kd) (t : B) (q : List Nat) : (t.steps k q).length = t.size := by
  rw [← t.wk_len k, ← t.steps_wk k q, List.length_map]
inductive StAt (H : Hp) : List V → List (List Nat × Nat) → Prop
  | nil : StAt H [] []
  | cons {a : Addr} {q : List Nat} {x : Nat} {vs : List V} {ss : List (List Nat × Nat)} : H a = some (.tup [.str (tx q), .str (ch x)]) → StAt H vs ss → StAt H (.ref a :: vs) ((q, x) :: ss)
theorem StAt.keep {H H' : Hp} (k : KeepT H H') {vs : List V} {ss : List (List Nat × Nat)} (h : StAt H vs ss) : StAt H' vs ss := by
  induction h with
  | nil => exact .nil
  | cons e _ ih => exact .cons (k _ _ e) ih
theorem StAt.same {H H' : Hp} (k : Same H H') {vs : List V} {ss : List (List Nat × Nat)} (h : StAt H vs ss) : StAt H' vs ss := h.keep (Tw.Same.keepT k)
theorem StAt.app {H : Hp} {vs us : List V} {ss ts : List (List Nat × Nat)} (h : StAt H vs ss) (g : StAt H us ts) : StAt H (vs ++ us) (ss ++ ts) := by
  induction h with
  | nil => exact g
  | cons e _ ih => exact .cons e ih
theorem StAt.len {H : Hp} {vs : List V} {ss : List (List Nat × Nat)} (h : StAt H vs ss) : vs.length = ss.length := by
  induction h with
  | nil => rfl
  | cons _ _ ih => rw [List.length_cons, List.length_cons, ih]
theorem StAt.get {H : Hp} {vs : List V} {ss : List (List Nat × Nat)} (h : StAt H vs ss) : ∀ {i : Nat} {v : V}, vs[i]? = some v → ∃ a q x, v = .ref a ∧ ss[i]? = some (q, x) ∧ H a = some (.tup [.str (tx q), .str (ch x)]) := by
  induction h with
  | nil => intro i v e; simp at e
  | cons e _ ih =>
    intro i v he
    cases i with
    | zero => cases he; exact ⟨_, _, _, rfl, rfl, e⟩
    | succ i => exact ih he
theorem str_l : Str.ofString "l" = tx [108] := by decide +kernel
theorem str_r : Str.ofString "r" = tx [114] := by decide +kernel
theorem str_0 : Str.ofString "" = tx [] := by decide +kernel
/-! ### walks of trees -/
theorem map_vc (l : List Nat) : l.map vc = (l.map ch).map V.str := by rw [List.map_map]; rfl
def spDeep (n : Nat) : Sp := fun vs H Q _ => ∃ (v : V) (t : B) (k : Kd) (q : List Nat), vs = [v, .str k.str, .str (tx q)] ∧ BAt H v t ∧ t.size < n ∧ t.size + q.length ≤ 200 ∧
  ∀ (p : Addr) (us : List V) (H' : Hp), Same H H' → H' p = some (.lst us) → StAt H' us (t.steps k q) → Q (.ref p) H'
section
variable {P : Program} {w : World} {K : PySem.W.Frag} {mg : Str → Option Value} {base : Heap} {f : Addr} {fd : FuncData}
/-- the tuple KINDS of the text -/
structure KindsT (K : PySem.W.Frag) (mg : Str → Option Value) (a : Addr) : Prop where
  mg : mg "KINDS" = some (.ref a)
  sq : ∀ H : Hp, SqT K H a [.str "first", .str "between", .str "last", .str "level"]
def spKind : Sp := fun vs H Q _ => ∃ k : Kd, vs = [.str k.str] ∧ Q (.bl true) H
def spSteps : Sp := fun vs H Q _ => ∃ (v : V) (t : B) (k : Kd), vs = [v, .str k.str] ∧ BAt H v t ∧ t.size ≤ 50 ∧
  ∀ (p : Addr) (us : List V) (H' : Hp), Same H H' → H' p = some (.lst us) → StAt H' us (t.steps k []) → Q (.ref p) H'
def spWalk : Sp := fun vs H Q _ => ∃ (v : V) (t : B) (k : Kd), vs = [v, .str k.str] ∧ BAt H v t ∧ t.size ≤ 50 ∧ ∀ H', Same H H' → Q (.str (tx (t.wk k))) H'
end
/-! ### a def entered at one caller -/
theorem enter_def {P : Program} {w : World} {K : PySem.W.Frag} {mg : Str → Option Value} {base : Heap} {f : Addr} {fd : FuncData} {N ps : List Str} {k : Nat} {x qual : Str} {st : Stmt} (F : Fun K x qual st f fd) (S : FnScope N ps (defScope st))
    {A : Around} {outer : List Env} {s : Shared} {H : Hp} {args : Args} {us : List Value} {vs : List V} {Q : VK} {E : XK}
    (room : Room (k + 1) A) (en : Env0 P w K mg base A outer s H) (bd : BindsTo s fd args (ps.zip us)) (rel : Vals vs us) (hln : vs.length = ps.length)
    (body : ∀ cdv : Value, Room k (A.deeper (envOfC qual (defScope st) s.heap.objs.size f cdv)) →
      ∃ t, PSs (cxOf CX0 P w K mg base N qual (defScope st) f cdv A outer s H E).nox (defBody st) t ∧ t { nx := fun _ H' => Q .non H', rt := Q } (start N vs) H) :
    codeAny (model P w) A (.call (.ref f) args) (CR CX0 outer P w H s Q E) s := by
  obtain ⟨oc, od, kV, doc, pm, an, cdv, ct, osl, rfl, look, code⟩ := F.ex
  have still : ∀ b o, base.get? b = some o → s.heap.get? b = some o := fun b o e => (en.bs b o e).1
  have inK : K.In s.heap := en.mod.kin.keeps still
  have noL : s.heap.NoLimit := en.mod.nolimit.keeps still
  have kinds : ∀ y ∈ ps.zip us, (defScope st).names.lookup y.1 = some .local ∨
      ((defScope st).names.lookup y.1 = some .cell ∧ ((cellsFrom (s.heap.objs.size + 1) (defScope st).names []).lookup y.1).isSome = true) := by
    rintro ⟨nm, u⟩ hy
    cases S.par nm (List.of_mem_zip hy).1 with
    | inl z => exact .inl z
    | inr z => exact .inr ⟨z, PySem.W.cellsFrom_some _ _ _ (.inl z)⟩
  have step := codeAny_call_function (prog := P) (w := w) (A := A) (s := s) room.depth (inK _ _ look) rfl S.co S.gen rfl (PySem.W.codeRec_of inK code)
    (R := CR CX0 outer P w H s Q E) (args := args)
  refine step (bd _ _ _ _ ?_)
  refine wpAny_newFunctionEnv_cells S.kind kinds ?_
  intro env isEnv s1 inC
  subst isEnv
  refine ⟨noL.keeps inC.toInCall.keep, codeAny_func ?_⟩
  obtain ⟨t, ht, hq⟩ := body cdv (room.deeper _)
  have J : Inv (cxOf CX0 P w K mg base N qual (defScope st) f cdv A outer s H E) [] (start N vs) H s1 := inv_start S room.hd en hln rel inC
  refine wpAny_mono (ht.nox.run [] s1 (start N vs) H _ J hq) ?_ ?_
  · intro fl s' done
    cases fl with
    | ret u =>
      obtain ⟨v, σ', H', I', rv, qv⟩ := done
      exact ⟨v, H', I'.os, I'.bare, I'.base, I'.hok, rv, qv⟩
    | next =>
      obtain ⟨σ', H', I', qv⟩ := done
      exact ⟨V.non, H', I'.os, I'.bare, I'.base, I'.hok, rfl, qv⟩
    | brk => exact done.elim fun _ z => z.elim fun _ z => z.2.elim
    | cont => exact done.elim fun _ z => z.elim fun _ z => z.2.elim
  · intro e s' z
    exact z
/-! ### the law's own call -/
theorem law_at {P : Program} {w : World} {K : PySem.W.Frag} {mg mb : Str → Option Value} {fa a : Addr} {s₁ : Shared} {vs : List Value} {ns : List Int}
    (inK : K.In s₁.heap) (gl : s₁.heap.Ns mainGlobals mg) (bl : s₁.heap.Ns builtinsNs mb) (isB : ∀ x : Str, x ≠ "__name__" → mb x = bootBuiltins x) (lim : s₁.heap.NoLimit) (gens : s₁.gens = #[])
    (obj : s₁.heap.get? a = some { cls := .type "list", data := .seq vs.toArray }) (hints : IntsAre vs ns) (few : ns.length ≤ sizeLine)
    (run : ∀ (base : Heap) (H : Hp), K.In base → base.Ns mainGlobals mg → Env0 P w K mg base callerA [] s₁ H → SqL K H a (ns.map V.int) →
      codeAny (model P w) callerA (.call (.ref fa) ⟨[.ref a], []⟩) (CR CX0 [] P w H s₁ (fun v _ => v = .bl true) fun _ _ _ => False) s₁) :
    codeAny (model P w) callerA (.call (.ref fa) ⟨[.ref a], []⟩) (fun r s' => r = .ok (.ret (.bool true)) ∧ OldK s₁.heap s'.heap ∧ s'.os = s₁.os ∧ AllBare s'.gens) s₁ := by
  have rel := vals_ints hints
  have lens := hints.length
  have found : ∃ H : Hp, Only H ∧ SqL K H a (ns.map V.int) ∧ HOk P w H s₁.heap ∧ (∀ b u, H b = some u → b = a ∧ K.lookup a = none) := by
    cases inText : K.lookup a with
    | some o =>
      have same := inK a o inText
      rw [obj] at same
      cases same
      have never : ∀ (u : HO), (none : Option HO) ≠ some u := fun u z => by cases z
      refine ⟨fun _ => none, fun _ => .inl rfl, ?_, (fun b u z => (never u z).elim), (fun b u z => (never u z).elim)⟩
      refine .inr ⟨_, vs.toArray, _, inText, rfl, rfl, rfl, ?_, ?_⟩
      · rw [List.size_toArray, lens]
        exact few
      · rw [List.toList_toArray]
        exact rel
    | none =>
      let here : HO := .frz { cls := .type "list", data := .seq vs.toArray } (.lst (ns.map V.int))
      have only : ∀ b u, (if b = a then some here else none) = some u → b = a ∧ u = here := fun b u z => by
        by_cases hb : b = a
        · rw [if_pos hb] at z
          exact ⟨hb, (Option.some.inj z).symm⟩
        · rw [if_neg hb] at z
          cases z
      refine ⟨fun b => if b = a then some here else none, fun b => ?_, .inl (.inr ⟨{ cls := .type "list", data := .seq vs.toArray }, if_pos rfl⟩), fun b u z => ?_, fun b u z => ⟨(only b u z).1, rfl⟩⟩
      · by_cases hb : b = a
        · exact .inr ⟨_, _, if_pos hb⟩
        · exact .inl (if_neg hb)
      · obtain ⟨rfl, rfl⟩ := only b u z
        exact ⟨obj, by rw [List.length_map]; exact few, vs, _, rel, obj⟩
  obtain ⟨H, hO, hS, hok, hA⟩ := found
  have under : ∀ {b : Addr} {o : Obj}, s₁.heap.get? b = some o → H b = none → (hidT s₁.heap H).get? b = some o := fun e z => hidT_get e z
  have notDict : ∀ {b : Addr} {o : Obj} {es : Array DictEntry} {ep : Nat}, s₁.heap.get? b = some o → o.data = .dict es ep → H b = none := by
    intro b o es ep e isD
    cases z : H b with
    | none => rfl
    | some u =>
      obtain ⟨rfl, _⟩ := hA b u z
      rw [obj] at e
      cases e
      cases isD
  have ns' : ∀ {b : Addr} {m : Str → Option Value}, s₁.heap.Ns b m → (hidT s₁.heap H).Ns b m := by
    rintro b m ⟨o, es, ep, e, isD, r⟩
    exact ⟨o, es, ep, under e (notDict e isD), isD, r⟩
  have inK' : K.In (hidT s₁.heap H) := by
    intro b o e
    refine under (inK b o e) ?_
    cases z : H b with
    | none => rfl
    | some u =>
      obtain ⟨rfl, no⟩ := hA b u z
      rw [no] at e
      cases e
  obtain ⟨mc, l1, l2⟩ := lim
  have env : Env0 P w K mg (hidT s₁.heap H) callerA [] s₁ H :=
    ⟨rfl, ⟨inK', ns' gl, ⟨mb, ns' bl, isB⟩, ⟨mc, ns' l1, l2⟩⟩, fun _ _ e => of_hidT e, Nat.le_of_eq (hidT_size _ _), trivial, (fun _ hb => nomatch hb), hok, .of_eq gens⟩
  refine codeAny_mono (run _ H inK' (ns' gl) env hS) ?_
  intro r s' h
  cases r with
  | error e => exact h.elim
  | ok fl =>
    cases fl with
    | next => exact h.elim
    | brk => exact h.elim
    | cont => exact h.elim
    | ret u =>
      obtain ⟨v, H', os, bare, un, hok', rv, isT⟩ := h
      subst isT
      cases rv
      refine ⟨rfl, OldK.of_keep ?_, os, bare⟩
      intro b o e
      cases z : H b with
      | none => exact un.keep b o e z (fun y => nomatch y) (fun y => nomatch y)
      | some u =>
        rcases hO b with y | ⟨ob, xs, y⟩
        · rw [z] at y
          cases y
        · have y2 := un.frzs b ob _ y
          obtain ⟨e1, _⟩ := hok b _ y
          obtain ⟨e2, _⟩ := hok' b _ y2
          rw [e] at e1
          cases e1
          exact e2
/-! ### defs that ask for repr: the guards are carried -/
structure FnOkG (P : Program) (w : World) (K : PySem.W.Frag) (mg : Str → Option Value) (base : Heap) (k : Nat) (f : Addr) (fd : FuncData) (ps : List Str) (sp : Sp) : Prop where
  len : ∀ vs H Q E, sp vs H Q E → vs.length = ps.length
  run : ∀ (A : Around) (outer : List Env) (s : Shared) (H : Hp) (args : Args) (us : List Value) (vs : List V) (Q : VK) (E : XK), A.guards = some [] → Room k A → Env0 P w K mg base A outer s H →
    BindsTo s fd args (ps.zip us) → Vals vs us → sp vs H Q E → codeAny (model P w) A (.call (.ref f) args) (CR CX0 outer P w H s Q E) s
theorem fnG {P : Program} {w : World} {K : PySem.W.Frag} {mg : Str → Option Value} {base : Heap} {f : Addr} {fd : FuncData} {N ps : List Str} {k : Nat} {x qual : Str} {st : Stmt} {sp : Sp} (F : Fun K x qual st f fd) (S : FnScope N ps (defScope st))
    (len : ∀ vs H Q E, sp vs H Q E → vs.length = ps.length)
    (body : ∀ (cdv : Value) (A : Around) (outer : List Env) (s : Shared) (H : Hp) (vs : List V) (Q : VK) (E : XK), A.guards = some [] → Room k (A.deeper (envOfC qual (defScope st) s.heap.objs.size f cdv)) → sp vs H Q E →
      ∃ t, PSs (cxOf CX0 P w K mg base N qual (defScope st) f cdv A outer s H E).nox (defBody st) t ∧ t { nx := fun _ H' => Q .non H', rt := Q } (start N vs) H) :
    FnOkG P w K mg base (k + 1) f fd ps sp := by
  refine ⟨len, ?_⟩
  intro A outer s H args us vs Q E gs room en bd rel hsp
  exact enter_def F S room en bd rel (len _ _ _ _ hsp) fun cdv hr => body cdv A outer s H vs Q E gs hr hsp
theorem pe_callG {X : Cx} {k : Nat} {f : Addr} {fd : FuncData} {ps : List Str} {sp : Sp} {x : Str} {p pos : Pos} {e : Expr} {es : List Expr} {t : TA}
    (G : FnOkG X.prog X.w X.K X.mg X.base k f fd ps sp) (gs : X.A.guards = some []) (room : Room k X.A) (isG : Gl X x) (at0 : X.mg x = some (.ref f)) (kp : PySem.W.keepIn X.K (.ref f) = true) (bd : Binds X.K fd ps []) (args : PA X (e :: es) t)
    (nd : (x == ("__debug__" : Str)) = false := by decide) (he : starEach (e :: es) X.env = (false, eval e X.env) :: starEach es X.env := by rfl) (hp : (backTo pos (starEach es X.env)).any (·.1) = false := by rfl) :
    PE X (.Call (.Name x p) (e :: es) [] pos) (tCall sp [] E0 t) := by
  constructor
  intro pins s σ H Q I h
  refine wpAny_Call_Name_kw (ld_glob I isG at0 ?_ nd)
  refine PySem.W.callWith_K (h₀ := X.base) I.ok.mod.kin kp (thn (args.run pos pins s σ H _ I h) ?_) he hp
  rintro us s1 ⟨vs, H1, I1, rel, q⟩
  refine ⟨I1.kIn, ?_⟩
  have q' : sp vs H1 Q E0 := by
    rw [List.append_nil] at q
    exact q
  have hl : (us ++ []).length = ps.length := by
    rw [List.append_nil, ← rel.length]
    exact G.len _ _ _ _ q'
  have bd' := bd s1 us I1.kIn hl
  rw [List.append_nil] at bd'
  refine wpAny_call (codeAny_mono (G.run X.A X.stack s1 H1 ⟨us, []⟩ us vs Q E0 gs room I1.env0 bd' rel q') ?_)
  intro r s' done
  cases r with
  | error e => exact done.elim
  | ok fl =>
    cases fl with
    | ret u => exact I1.after done
    | next => exact done.elim
    | brk => exact done.elim
    | cont => exact done.elim
/-- a def that asks for repr, with its promise -/
structure DfG (P : Program) (w : World) (K : PySem.W.Frag) (mg : Str → Option Value) (base : Heap) (k : Nat) (nm : Str) (ps : List Str) (sp : Sp) where
  f : Addr
  fd : FuncData
  ok : FnOkG P w K mg base k f fd ps sp
  b : Binds K fd ps []
  kp : PySem.W.keepIn K (.ref f) = true
  g : mg nm = some (.ref f)
/-! ### repr of data without dicts -/
mutual
def okR : PyData → Bool
  | .none => true
  | .bool _ => true
  | .int i => decide (0 ≤ i) && decide (i < 10 ^ 30)
  | .str x => decide (x.length ≤ 64) && x.cps.toList.all (· < 128)
  | .list xs => okRs xs
  | .tuple xs => okRs xs
  | .dict _ => false
def okRs : List PyData → Bool
  | [] => true
  | x :: xs => okR x && okRs xs
end
mutual
def wtR : PyData → Nat
  | .none => 4
  | .bool _ => 5
  | .int _ => 31
  | .str x => 10 * x.length + 2
  | .list xs => 3 + wtRs xs
  | .tuple xs => 3 + wtRs xs
  | .dict _ => 0
def wtRs : List PyData → Nat
  | [] => 0
  | x :: xs => wtR x + 2 + wtRs xs
end
theorem small_shown {i : Int} (h0 : 0 ≤ i) (h : i < 10 ^ 30) : (Str.ofString (toString i)).length ≤ 31 ∧ i.natAbs.log2 < 1920 := by
  refine ⟨Nat.le_trans (toString_length_le h0 (by decide) h) (by decide), ?_⟩
  by_cases z : i.natAbs = 0
  · rw [z]; decide
  · rw [Nat.log2_lt z]
    have h2 : i.natAbs < 10 ^ 30 := by omega
    exact Nat.lt_of_lt_of_le h2 (Nat.le_trans (show 10 ^ 30 ≤ 2 ^ 100 by decide) (Nat.pow_le_pow_right (by decide) (by decide)))
theorem listText_leR (ts : List Str) : (listText ts).length ≤ piled ts + 3 := by
  have h := textFrom_len_le ts 0 "["
  have e : (listText ts).length = (textFrom 0 "[" ts).length + 1 := by
    show (textFrom 0 "[" ts ++ "]").length = _
    rw [strLen_append]
    rfl
  have z : ∀ l : List Str, (l.map (·.length)).sum + 2 * l.length = piled l := by
    intro l
    induction l with
    | nil => rfl
    | cons t l ih =>
      rw [piled_cons, List.map_cons, List.sum_cons, List.length_cons]
      omega
  have z2 := z ts
  have z3 : (("[" : String) : Str).length = 1 := rfl
  omega
mutual
theorem shownR : ∀ d : PyData, okR d = true → d.shown.length ≤ wtR d ∧ d.showable = true ∧ d.hasDict = false
  | .none, _ => by
    simp only [PyData.shown, wtR, PyData.showable, PyData.hasDict, and_true]
    decide +kernel
  | .bool b, _ => by
    simp only [PyData.shown, wtR, PyData.showable, PyData.hasDict, and_true]
    cases b <;> decide +kernel
  | .int i, h => by
    simp only [okR, Bool.and_eq_true, decide_eq_true_eq] at h
    obtain ⟨h1, h2⟩ := small_shown h.1 h.2
    simp only [PyData.shown, wtR, PyData.showable, PyData.hasDict, decide_eq_true_eq, and_true]
    exact ⟨h1, h2⟩
  | .str x, h => by
    simp only [okR, Bool.and_eq_true, decide_eq_true_eq, List.all_eq_true] at h
    have h1 := StrLaws.reprText_len x (fun c hc => Nat.lt_of_lt_of_le (h.2 c hc) (by decide))
    simp only [PyData.shown, wtR, PyData.showable, PyData.hasDict, and_true]
    omega
  | .list xs, h => by
    simp only [okR] at h
    obtain ⟨h1, h2, h3⟩ := shownRs xs h
    simp only [PyData.shown, wtR, PyData.showable, PyData.hasDict]
    exact ⟨Nat.le_trans (listText_leR _) (by omega), h2, h3⟩
  | .tuple xs, h => by
    simp only [okR] at h
    obtain ⟨h1, h2, h3⟩ := shownRs xs h
    simp only [PyData.shown, wtR, PyData.showable, PyData.hasDict]
    exact ⟨Nat.le_trans (fmt_text _) (by omega), h2, h3⟩
  | .dict _, h => by
    simp only [okR] at h
    exact absurd h Bool.false_ne_true
theorem shownRs : ∀ ds : List PyData, okRs ds = true → piled (PyData.shownAll ds) ≤ wtRs ds ∧ PyData.showableAll ds = true ∧ PyData.hasDictAll ds = false
  | [], _ => by
    simp only [PyData.shownAll, wtRs, PyData.showableAll, PyData.hasDictAll, and_true]
    exact Nat.le_refl _
  | d :: ds, h => by
    simp only [okRs, Bool.and_eq_true] at h
    obtain ⟨h1, h2, h5⟩ := shownR d h.1
    obtain ⟨h3, h4, h6⟩ := shownRs ds h.2
    simp only [PyData.shownAll, wtRs, PyData.showableAll, PyData.hasDictAll, h2, h4, h5, h6, Bool.and_self, Bool.or_self, and_true]
    rw [piled_cons]
    omega
end
def rReprR (K : PySem.W.Frag) : List V → Hp → VK → Prop := fun xs H Q => ∃ (a : Addr) (d : PyData), xs = [.ref a] ∧ Dp K H (.ref a) d ∧ okR d = true ∧ wtR d ≤ 1000000 ∧ d.depth ≤ 60 ∧ Q (.str d.shown) H
theorem call_reprR {X : Cx} (hg : X.A.guards = some []) (hu : X.A.units + 64 < cLine) : CallR X (.builtin "repr") (rReprR X.K) := by
  intro pins s σ H xs us Q I r h
  obtain ⟨a, d, rfl, hd, hs, hw, hz, q⟩ := h
  obtain ⟨u, rfl, rx⟩ := vals1 r
  cases rx
  obtain ⟨h1, h2, h3⟩ := shownR d hs
  obtain ⟨as, rd⟩ := Dp.reads I d _ _ hd rfl
  exact repr_of_reads' rd h2 (PyData.noDict_hsm h3) hg (by omega) (fun _ _ e => e) (fun h' u tk hk => ⟨.str d.shown, H, I.kept (t' := tk) hk, ⟨u, rfl⟩, q⟩) (by show _ ≤ 16777216; omega)
/-! ### zip of two texts -/
section
variable {X : Cx}
/-- new pairs of the signs of x and y -/
def ItzS (x y : Str) : It :=
  ⟨fun i _ => i < x.cps.size ∧ i < y.cps.size,
    fun i H v H' => ∃ (p : Addr) (c d : Nat), v = .ref p ∧ H p = none ∧ H' = upd H p (.tup [.str ⟨#[c]⟩, .str ⟨#[d]⟩]) ∧ x.cps[i]? = some c ∧ y.cps[i]? = some d,
    fun i _ => i = min x.cps.size y.cps.size⟩
theorem turn_zipS {P : Program} {w : World} {K : PySem.W.Frag} {elts : List Expr} {kk : Nat} {tpos : Pos} {x y : Str} {t1 t2 : Tok} {z ti to i1 i2 : Addr} (S : ZipSep2 z ti to i1 i2 [i1] [i2]) :
    Turn P w K (.Tuple elts kk tpos) (ItzS x y) [z, ti, to, i1, i2] z
      (fun i h => IsZip h z ti to .none ∧ IsTupOf2 h ti (.ref i1) (.ref i2) ∧ (∃ a b, IsTupOf2 h to a b) ∧ h.IsStrIter i1 (strIterType x) x t1 i ∧ h.IsStrIter i2 (strIterType y) y t2 i) where
  mem := by simp
  obj := fun i h st c hc => by
    obtain ⟨hz, hti, ⟨a, b, hto⟩, ⟨o1, e1, _, d1⟩, ⟨o2, e2, _, d2⟩⟩ := st
    have hc' : c = z ∨ c = ti ∨ c = to ∨ c = i1 ∨ c = i2 := by simpa using hc
    rcases hc' with q | q | q | q | q
    · rw [q]; exact ⟨_, hz, fun v q2 => nomatch q2⟩
    · rw [q]; exact ⟨_, hti, fun v q2 => nomatch q2⟩
    · rw [q]; exact ⟨_, hto, fun v q2 => nomatch q2⟩
    · exact ⟨o1, by rw [q]; exact e1, fun v q => by rw [d1] at q; cases q⟩
    · exact ⟨o2, by rw [q]; exact e2, fun v q => by rw [d2] at q; cases q⟩
  keep := fun i h h' st k => by
    obtain ⟨hz, hti, ⟨a, b, hto⟩, ⟨o1, e1, r1⟩, ⟨o2, e2, r2⟩⟩ := st
    exact ⟨k z (by simp) _ hz, k ti (by simp) _ hti, ⟨a, b, k to (by simp) _ hto⟩, ⟨o1, k i1 (by simp) _ e1, r1⟩, ⟨o2, k i2 (by simp) _ e2, r2⟩⟩
  item := by
    intro X hP hw hK hc i pins s σ H E I hf st hg
    subst hP hw hK
    obtain ⟨hz, hti, ⟨a0, b0, hto⟩, h1, h2⟩ := st
    have quiet : X.A.in1.handled = none := I.ok.hd hc
    have zlt : z < s.heap.objs.size := Heap.lt_size hz
    refine wpAny_pyNext_zipD2_item S (Draws.text quiet i1 x t1) (Draws.text quiet i2 y t2) hz hti hto h1 h2 hg.1 hg.2 fun u1 u2 h' tk p1 p2 z' to' j1 j2 hT hsz hk => ?_
    obtain ⟨c, tc, ec, rfl⟩ := p1
    obtain ⟨d, td, ed, rfl⟩ := p2
    refine ⟨_, rfl, wpAny_letOwnedTupleGo_zip (s := { s with heap := h', toks := tk }) z' fun h'' z'' sb => ?_⟩
    have hT2 : h''.get? s.heap.objs.size = some { cls := .type "tuple", data := .seq #[.str ⟨#[c]⟩ tc, .str ⟨#[d]⟩ td] } := (sb.2 _ (Nat.ne_of_gt zlt)).trans hT
    have new : ObjOk X.prog X.w (upd H s.heap.objs.size (.tup [.str ⟨#[c]⟩, .str ⟨#[d]⟩])) h'' s.heap.objs.size (.tup [.str ⟨#[c]⟩, .str ⟨#[d]⟩]) :=
      ⟨by show 2 ≤ sizeLine; decide, [.str ⟨#[c]⟩ tc, .str ⟨#[d]⟩ td], .cons ⟨_, rfl⟩ (.cons ⟨_, rfl⟩ .nil), ⟨_, hT2, rfl, _, rfl⟩⟩
    have I1 : Inv X pins σ (upd H s.heap.objs.size (.tup [.str ⟨#[c]⟩, .str ⟨#[d]⟩])) { s with heap := h'', toks := tk } :=
      I.turnedNew (t' := tk) (ch := [z, ti, to, i1, i2]) (fun c o hb q => (sb.2 c (fun e => hb (by simp [e]))).trans (hk c o (fun e => hb (by simp [e])) (fun e => hb (by simp [e])) (fun e => hb (by simp [e])) (fun e => hb (by simp [e])) q)) hf (Nat.le_refl _) new
    refine ⟨.ref s.heap.objs.size, _, I1, rfl, ⟨_, c, d, rfl, I.hok.fresh (Nat.le_refl _), rfl, ec, ed⟩, ⟨z'', (sb.2 _ S.TIz).trans (hk _ _ S.TIz S.TITO S.TIi1 S.TIi2 hti), ⟨_, _, (sb.2 _ S.TOz).trans to'⟩, ?_, ?_⟩, fun c hcm => ?_⟩
    · obtain ⟨o, e, r⟩ := j1
      exact ⟨o, (sb.2 _ S.zi1.symm).trans e, r⟩
    · obtain ⟨o, e, r⟩ := j2
      exact ⟨o, (sb.2 _ S.zi2.symm).trans e, r⟩
    · have lt : c < s.heap.objs.size := by
        have hc' : c = z ∨ c = ti ∨ c = to ∨ c = i1 ∨ c = i2 := by simpa using hcm
        rcases hc' with q | q | q | q | q
        · rw [q]; exact zlt
        · rw [q]; exact Heap.lt_size hti
        · rw [q]; exact Heap.lt_size hto
        · rw [q]; obtain ⟨_, e, _⟩ := h1; exact Heap.lt_size e
        · rw [q]; obtain ⟨_, e, _⟩ := h2; exact Heap.lt_size e
      rw [upd_ne (Nat.ne_of_lt lt)]
      exact (hf c hcm).1
  done := by
    intro X hP hw hK hc i pins s σ H E I hf st hg
    subst hP hw hK
    obtain ⟨hz, hti, ⟨a0, b0, hto⟩, h1, h2⟩ := st
    have quiet : X.A.in1.handled = none := I.ok.hd hc
    have hg' : i = min x.cps.size y.cps.size := hg
    exact wpAny_pyNext_zipD2_end S (Draws.text quiet i1 x t1) (Draws.text quiet i2 y t2) hz hti hto h1 h2 (by omega) (by omega) (by omega) fun h' tk hk => ⟨rfl, I.turnedL (t' := tk) (ch := [z, ti, to, i1, i2]) (fun c o hb q =>
      hk c o (fun e => hb (by simp [e])) (fun e => hb (by simp [e])) (fun e => hb (by simp [e])) (fun e => hb (by simp [e])) q) hf⟩
  self := fun A i s Q E st h => wpAny_pyIter_zip st.1 h
def iZipS (ta : TA) : TI := fun σ H R => ta σ H fun vs H1 => ∃ x y : Str, vs = [.str x, .str y] ∧ R (ItzS x y) H1
theorem pi_zipS {e e2 : Expr} {ta : TA} {p pos tpos : Pos} {elts : List Expr} {kk : Nat} (hg : Gl X "zip") (hm : X.mg "zip" = none) (ha : PA X [e, e2] ta)
    (hs : starEach [e, e2] X.env = (false, eval e X.env) :: starEach [e2] X.env := by rfl) (hpl : (backTo pos (starEach [e2] X.env)).any (·.1) = false := by rfl) :
    PI X (.Tuple elts kk tpos) (.Call (.Name "zip" p) [e, e2] [] pos) (iZipS ta) := by
  refine ⟨fun pins s σ H R I h => ?_⟩
  refine Call_ (ld_blt I hg hm PyProof.Rows.boot_zip (PyProof.Rows.callWith_type1 (thn (ha.run pos pins s σ H _ I h) fun us s1 h1 => ?_) hs hpl))
  obtain ⟨vs, H1, I1, r1, x, y, rfl, q⟩ := h1
  obtain ⟨u, u2, rfl, ⟨t1, rfl⟩, ⟨t2, rfl⟩⟩ := vals2 r1
  refine zip_begins2 (begins_text x t1) (begins_text y t2) trivial trivial fun h' hz hti hto g1 g2 hsz hk => wpAny_pyIter_zip hz ?_
  have I2 : Inv X pins σ H1 { s1 with heap := h' } := I1.kept (t' := s1.toks) hk
  have young : ∀ c, c ∈ [s1.heap.objs.size + 4, s1.heap.objs.size + 2, s1.heap.objs.size + 3, s1.heap.objs.size, s1.heap.objs.size + 1] → FpOk X pins H1 c := fun c hc => by
    have le : s1.heap.objs.size ≤ c := by
      have hc' : c = s1.heap.objs.size + 4 ∨ c = s1.heap.objs.size + 2 ∨ c = s1.heap.objs.size + 3 ∨ c = s1.heap.objs.size ∨ c = s1.heap.objs.size + 1 := by simpa using hc
      rcases hc' with q | q | q | q | q <;> (rw [q]; first | exact Nat.le_add_right _ _ | exact Nat.le_refl _)
    exact I1.fpOk le (I1.hok.fresh le)
  have apart : ∀ (n a b : Nat), a ≠ b → n + a ≠ n + b := fun n a b h z => h (Nat.add_left_cancel z)
  refine ⟨s1.heap.objs.size + 4, [s1.heap.objs.size + 4, s1.heap.objs.size + 2, s1.heap.objs.size + 3, s1.heap.objs.size, s1.heap.objs.size + 1], _, _, H1, rfl, I2, turn_zipS (t1 := t1) (t2 := t2) ?_, ⟨hz, hti, ⟨_, _, hto⟩, ⟨_, g1, rfl, rfl⟩, ⟨_, g2, rfl, rfl⟩⟩, young, q⟩
  have n0 : s1.heap.objs.size = s1.heap.objs.size + 0 := rfl
  refine ⟨apart _ _ _ (by decide), apart _ _ _ (by decide), apart _ _ _ (by decide), ?_, by simp, ?_, ?_, apart _ _ _ (by decide), by simp, ?_, ?_, ?_, ?_⟩
  · exact apart _ 2 0 (by decide)
  · intro h; exact apart _ 4 0 (by decide) (List.mem_singleton.mp h)
  · intro h; exact apart _ 3 0 (by decide) (List.mem_singleton.mp h)
  · intro h; exact apart _ 4 1 (by decide) (List.mem_singleton.mp h)
  · intro h; exact apart _ 3 1 (by decide) (List.mem_singleton.mp h)
  · intro h; exact apart _ 0 1 (by decide) (List.mem_singleton.mp h)
  · intro h; exact apart _ 1 0 (by decide) (List.mem_singleton.mp h)
theorem pi_or {tg e : Expr} {w1 w2 : TI} (a : PI X tg e w1) (b : PI X tg e w2) : PI X tg e (fun σ H R => w1 σ H R ∨ w2 σ H R) :=
  ⟨fun pins s σ H R I h => h.elim (fun h => a.run pins s σ H R I h) fun h => b.run pins s σ H R I h⟩
theorem walk_zipS {x y : Str} {n : Nat} (hn : n = min x.cps.size y.cps.size) : Walk (ItzS x y) n (fun _ => True) (fun i H v H' => ∃ (p : Addr) (c d : Nat), v = .ref p ∧ H p = none ∧ H' = upd H p (.tup [.str ⟨#[c]⟩, .str ⟨#[d]⟩]) ∧ x.cps[i]? = some c ∧ y.cps[i]? = some d) :=
  ⟨fun i _ hi _ => ⟨by omega, by omega⟩, fun _ _ => hn, fun _ _ _ _ _ _ q => q⟩
end
/-! ### comprehensions of two clauses; text * count -/
theorem lc2_it {J : It} {n : Nat} {G : Hp → Prop} {Y : Nat → Hp → V → Hp → Prop} (w : Walk J n G Y) {g : TG} {tt : TT} {wi1 : TI} {g1 : TG} {tt1 : TT} {te : TE} {vs vs1 : List Nat} {σ : L2.St} {H1 : Hp} {D : Addr} {Qd : Hp → Prop} (Pv : Nat → Hp → Prop) (h0 : Pv 0 (upd H1 D (.lst []))) (hG : ∀ i H, i ≤ n → Pv i H → G H)
    (hs : ∀ i x H H', i < n → Pv i H → Y i H x H' → g x (wipe σ vs) H' fun σ2 H2 => wipe σ2 vs = wipe σ vs ∧ tt σ2 H2 fun b H3 =>
      if b = true then wi1 σ2 H3 fun J1 H4 => ∃ W1 : Nat → Nat → Hp → Prop, (∃ m, W1 0 m H4) ∧ ∀ j k H, W1 j k H →
        (J1.stop j H ∧ Pv (i + 1) H) ∨ (J1.go j H ∧ ∃ Nx1 : Hp → Prop, (∀ H', Nx1 H' → ∃ k', k' < k ∧ W1 (j + 1) k' H') ∧ ∀ x H', J1.yld j H x H' → g1 x (wipe σ2 vs1) H' fun σ3 H5 => wipe σ3 vs1 = wipe σ2 vs1 ∧ tt1 σ3 H5 fun b H6 =>
          if b = true then te σ3 H6 fun y H7 => ∃ acc, H7 D = some (.lst acc) ∧ acc.length < sizeLine ∧ Nx1 (upd H7 D (.lst (acc ++ [y]))) else Nx1 H6)
      else Pv (i + 1) H3) (hd : ∀ H, Pv n H → Qd H) :
    ∃ W : Nat → Nat → Hp → Prop, (∃ m, W 0 m (upd H1 D (.lst []))) ∧ ∀ i m H, W i m H →
      (J.stop i H ∧ Qd H) ∨ (J.go i H ∧ ∃ Nx : Hp → Prop, (∀ H', Nx H' → ∃ m', m' < m ∧ W (i + 1) m' H') ∧ ∀ x H', J.yld i H x H' → g x (wipe σ vs) H' fun σ2 H2 => wipe σ2 vs = wipe σ vs ∧ tt σ2 H2 fun b H3 =>
        if b = true then wi1 σ2 H3 fun J1 H4 => ∃ W1 : Nat → Nat → Hp → Prop, (∃ m, W1 0 m H4) ∧ ∀ j k H, W1 j k H →
          (J1.stop j H ∧ Nx H) ∨ (J1.go j H ∧ ∃ Nx1 : Hp → Prop, (∀ H', Nx1 H' → ∃ k', k' < k ∧ W1 (j + 1) k' H') ∧ ∀ x H', J1.yld j H x H' → g1 x (wipe σ2 vs1) H' fun σ3 H5 => wipe σ3 vs1 = wipe σ2 vs1 ∧ tt1 σ3 H5 fun b H6 =>
            if b = true then te σ3 H6 fun y H7 => ∃ acc, H7 D = some (.lst acc) ∧ acc.length < sizeLine ∧ Nx1 (upd H7 D (.lst (acc ++ [y]))) else Nx1 H6)
        else Nx H3) := by
  refine ⟨fun i m H => m = n - i ∧ i ≤ n ∧ Pv i H, ⟨n, by simp, Nat.zero_le _, h0⟩, ?_⟩
  rintro i m H ⟨rfl, hi, p⟩
  have q := hG i H hi p
  by_cases hlt : i < n
  · exact .inr ⟨w.goes i H hlt q, Pv (i + 1), fun H' p' => ⟨n - (i + 1), by omega, rfl, hlt, p'⟩, fun x H' y => hs i x H H' hlt p (w.yields i H x H' hlt q y)⟩
  · have e : i = n := by omega
    subst e
    exact .inl ⟨w.stops H q, hd H p⟩
theorem in_it {J : It} {n : Nat} {G : Hp → Prop} {Y : Nat → Hp → V → Hp → Prop} (w : Walk J n G Y) {g : TG} {tt : TT} {te : TE} {vs : List Nat} {σ : L2.St} {H4 : Hp} {D : Addr} {Nx : Hp → Prop} (Pv : Nat → Hp → Prop) (h0 : Pv 0 H4) (hG : ∀ i H, i ≤ n → Pv i H → G H)
    (hs : ∀ i x H H', i < n → Pv i H → Y i H x H' → g x (wipe σ vs) H' fun σ2 H2 => wipe σ2 vs = wipe σ vs ∧ tt σ2 H2 fun b H3 =>
      if b = true then te σ2 H3 fun y H4 => ∃ acc, H4 D = some (.lst acc) ∧ acc.length < sizeLine ∧ Pv (i + 1) (upd H4 D (.lst (acc ++ [y]))) else Pv (i + 1) H3) (hd : ∀ H, Pv n H → Nx H) :
    ∃ W : Nat → Nat → Hp → Prop, (∃ m, W 0 m H4) ∧ ∀ i m H, W i m H →
      (J.stop i H ∧ Nx H) ∨ (J.go i H ∧ ∃ Nx1 : Hp → Prop, (∀ H', Nx1 H' → ∃ m', m' < m ∧ W (i + 1) m' H') ∧ ∀ x H', J.yld i H x H' → g x (wipe σ vs) H' fun σ2 H2 => wipe σ2 vs = wipe σ vs ∧ tt σ2 H2 fun b H3 =>
        if b = true then te σ2 H3 fun y H4 => ∃ acc, H4 D = some (.lst acc) ∧ acc.length < sizeLine ∧ Nx1 (upd H4 D (.lst (acc ++ [y]))) else Nx1 H3) := by
  refine ⟨fun i m H => m = n - i ∧ i ≤ n ∧ Pv i H, ⟨n, by simp, Nat.zero_le _, h0⟩, ?_⟩
  rintro i m H ⟨rfl, hi, p⟩
  have q := hG i H hi p
  by_cases hlt : i < n
  · exact .inr ⟨w.goes i H hlt q, Pv (i + 1), fun H' p' => ⟨n - (i + 1), by omega, rfl, hlt, p'⟩, fun x H' y => hs i x H H' hlt p (w.yields i H x H' hlt q y)⟩
  · have e : i = n := by omega
    subst e
    exact .inl ⟨w.stops H q, hd H p⟩
/-- trees at vs -/
theorem foldl_cat (x : Array Nat) : ∀ (m : Nat) (a : Array Nat), (List.replicate m x).foldl (· ++ ·) a = a ++ (List.replicate m x.toList).flatten.toArray
  | 0, a => by simp
  | m + 1, a => by
    rw [List.replicate_succ, List.foldl_cons, foldl_cat x m, List.replicate_succ, List.flatten_cons]
    apply Array.ext'
    simp
theorem flat_ones (c m : Nat) : (List.replicate m [c]).flatten = List.replicate m c := by
  induction m with
  | zero => rfl
  | succ m ih => rw [List.replicate_succ, List.flatten_cons, ih, List.replicate_succ]; rfl
/-- one sign, often -/
theorem op_timesS {X : Cx} : OpR X (binaryOp .Mult) (fun x y H Q => ∃ (c : Nat) (m : Nat), x = .str (tx [c]) ∧ y = .int (m : Int) ∧ 1 ≤ m ∧ m ≤ 1000 ∧ Q (.str (tx (List.replicate m c))) H) := by
  intro pins s σ H x y v u Q I rx ry h
  obtain ⟨c, m, rfl, rfl, h1, h2, q⟩ := h
  obtain ⟨t, rfl⟩ := rx
  obtain ⟨t', rfl⟩ := ry
  have one : (tx [c]).length = 1 := rfl
  have far : (1 : Int) ≤ (2 ^ 63 - 1) / (m : Int) := (Int.le_ediv_iff_mul_le (by omega)).mpr (by omega)
  refine PySem.P.mul_str (by rw [decide_eq_false (by omega), decide_eq_false (by omega)]; rfl) (fun _ _ => by rw [one]; have := far; omega) (fun _ _ => by unfold Builtin.Str.tooLong; exact decide_eq_false (by rw [one]; have : (1000 : Nat) ≤ sizeLine := (by decide); omega)) ?_
  rw [if_neg (show ¬ (m : Int) < 1 by omega)]
  by_cases h0 : m = 1
  · subst h0
    rw [if_pos (show (((1 : Nat) : Int) == 1 || (tx [c]).length == 0) = true from rfl)]
    exact ⟨.str (tx [c]), H, I, ⟨t, rfl⟩, q⟩
  · have no : ¬ (((m : Int) == 1 || (tx [c]).length == 0) = true) := by
      rw [one]
      simp
      omega
    rw [if_neg no]
    have e : (⟨(List.replicate (m : Int).toNat (tx [c]).cps).foldl (· ++ ·) #[]⟩ : Str) = tx (List.replicate m c) := by
      rw [foldl_cat, ← flat_ones]
      simp [tx]
    rw [e]
    refine ⟨?_, .str _, H, I.tok _, ⟨_, rfl⟩, q⟩
    rw [tx_len, List.length_replicate]
    exact small h2
/-! ### rows: signs, is_letter, is_row -/
def sgn (c : Nat) : Prop := c = 63 ∨ (97 ≤ c ∧ c ≤ 122)
structure RowOk (r : List Nat) : Prop where
  ne : r ≠ []
  few : r.length ≤ 12
  all : ∀ c ∈ r, sgn c
theorem str_q : Str.ofString "?" = ch 63 := by decide +kernel
def spOne : Sp := fun vs H Q _ => ∃ c : Nat, vs = [vc c] ∧ Q (.bl (decide (97 ≤ c) && decide (c ≤ 122))) H
def spRow : Sp := fun vs H Q _ => ∃ r : List Nat, vs = [vt r] ∧ RowOk r ∧ ∀ H', Same H H' → Q (.bl true) H'
section
variable {P : Program} {w : World} {K : PySem.W.Frag} {mg : Str → Option Value} {base : Heap} {f : Addr} {fd : FuncData}
theorem ok_one {k : Nat} (F : Fun K "is_letter" "is_letter" s_is_letter f fd) (M : Mgs mg) : FnOk P w K mg base CX0 (k + 1) f fd ["value"] spOne := by
  refine F.ok sc_is_letter (fun vs H Q E h => ?_) (fun cdv A outer s H vs Q E hr h => ?_)
  · obtain ⟨c, rfl, _⟩ := h
    rfl
  obtain ⟨c, rfl, q⟩ := h
  refine ⟨_, (pss_one (ps_ret (pe_and (pe_callB call_isi rfl M.isinstance (by decide +kernel) (pa_cons (pv 0) (pa_cons (pe_bltn (v := .ty "str") rfl M.str (by decide +kernel) rfl) pa_nil))) (pe_and (pe_cmpR op_eq (pe_callB call_len_str rfl M.len PySem.boot_len (pa_cons (pv 0) pa_nil)) pe_int (nomark _)) (pe_one (pe_chain op_le_str op_le_str pe_str (pv 0) pe_str)))))), ?_⟩
  refine ⟨_, rfl, _, _, _, _, true, rfl, .ty _, .base (.str (tx [c])), kit_ty (by decide +kernel), _, rfl, iteT ?_⟩
  refine ⟨_, rfl, tx [c], rfl, small (by show 1 ≤ 1000; decide), rfl, _, rfl, ?_⟩
  rw [show decide (V.int ((tx [c]).length : Nat) = V.int 1) = true from rfl]
  refine iteT ⟨_, rfl, _, _, rfl, rfl, _, rfl, ?_⟩
  have e1 : (!decide ((ch c).cps.toList < (Str.ofString "a").cps.toList)) = decide (97 ≤ c) := by
    rw [show (Str.ofString "a").cps.toList = [97] by decide +kernel, show (ch c).cps.toList = [c] from rfl]
    by_cases h : c < 97
    · rw [decide_eq_true (by simp [List.cons_lt_cons_iff, h]), decide_eq_false (by omega)]; rfl
    · rw [decide_eq_false (by simp [List.cons_lt_cons_iff, h]), decide_eq_true (by omega)]; rfl
  have e2 : (!decide ((Str.ofString "z").cps.toList < (ch c).cps.toList)) = decide (c ≤ 122) := by
    rw [show (Str.ofString "z").cps.toList = [122] by decide +kernel, show (ch c).cps.toList = [c] from rfl]
    by_cases h : 122 < c
    · rw [decide_eq_true (by simp [List.cons_lt_cons_iff, h]), decide_eq_false (by omega)]; rfl
    · rw [decide_eq_false (by simp [List.cons_lt_cons_iff, h]), decide_eq_true (by omega)]; rfl
  rw [e1]
  by_cases h : 97 ≤ c
  · rw [decide_eq_true h] at q ⊢
    refine iteT ⟨_, _, rfl, rfl, ?_⟩
    rw [e2]
    exact q
  · rw [decide_eq_false h] at q ⊢
    exact iteF q
theorem ok_row {tM : Tok} (F : Fun K "is_row" "is_row" s_is_row f fd) (M : Mgs mg) (mMAX : mg "MAX_NODES" = some (.int 12 tM)) (Dis_letter : Df P w K mg base 1 "is_letter" ["value"] spOne) : FnOk P w K mg base CX0 2 f fd ["value"] spRow := by
  refine F.ok sc_is_row (fun vs H Q E h => ?_) (fun cdv A outer s H vs Q E hr h => ?_)
  · obtain ⟨r, rfl, _⟩ := h
    rfl
  obtain ⟨r, rfl, ok, q⟩ := h
  refine ⟨_, (pss_cons (ps_if (PW.pt (pw_or (pt_not (pt_val (pe_callB call_isi rfl M.isinstance (by decide +kernel) (pa_cons (pv 0) (pa_cons (pe_bltn (v := .ty "str") rfl M.str (by decide +kernel) rfl) pa_nil))))) (pw_or1 (pt_not (pt_chain op_le op_le pe_int (pe_callB call_len_str rfl M.len PySem.boot_len (pa_cons (pv 0) pa_nil)) (pe_glob (v := .int _) rfl mMAX ⟨_, rfl⟩))))))
      (pss_one (ps_ret pe_bl)) pss_nil)
    (pss_one (ps_ret (pe_callB (cr_all rfl) rfl M.all (by decide +kernel) (pa_cons (pe_lc (own := [("sign", 1)]) (g := gName 1) (tt := tYes) rfl sc_is_row.nd (pi_str (pv 0)) (blkOk_by (N := ["value", "sign"]) (sc := defScope s_is_row) (by decide +kernel)) (fun _ _ _ _ _ => (pg_name (i := 1) sc_is_row.nd rfl (.inl rfl))) (fun _ _ _ _ _ => pts_nil) (fun _ _ _ _ _ => (pe_or (pe_cmpR op_eq (pv 1) pe_str (nomark _)) (pe_one (pe_call Dis_letter.ok (hr.mono (by omega)) rfl Dis_letter.g Dis_letter.kp Dis_letter.b .nil pass0 (pa_cons (pv 1) pa_nil)))))) pa_nil))))), ?_⟩
  have r0 : 0 < r.length := List.length_pos_iff.mpr ok.ne
  have few := ok.few
  refine ⟨_, rfl, _, _, _, _, true, rfl, .ty _, .base (.str (tx r)), kit_ty (by decide +kernel), _, rfl, ?_⟩
  have few2 : ((tx r).length : Int) ≤ 12 := by rw [tx_len]; omega
  have more2 : (1 : Int) ≤ ((tx r).length : Int) := by rw [tx_len]; omega
  refine ⟨_, rfl, _, rfl, small (by rw [tx_len]; omega), _, _, rfl, rfl, ?_⟩
  refine ⟨_, rfl, ?_⟩
  rw [decide_eq_true more2]
  refine iteT ⟨_, _, rfl, rfl, _, rfl, ?_⟩
  rw [decide_eq_true few2]
  refine iteF ?_
  refine ⟨_, rfl, tx r, rfl, fun D nD => ?_⟩
  have q1 := same_new nD (.lst [])
  refine lc_text (x := tx r) (fun i H' => Same H H' ∧ H' D = some (.lst ((List.replicate i true).map V.bl))) ⟨q1, upd_same⟩ (fun i c H' hc hp => ?_) (fun H' hp => ?_)
  · obtain ⟨sm, ed⟩ := hp
    have hc : r[i]? = some c := hc
    have hi := (List.getElem?_eq_some_iff.mp hc).1
    have sg := ok.all c (List.mem_of_getElem? hc)
    have out : ∀ Qn : Hp → Prop, (∀ H2, (Same H H2 ∧ H2 D = some (.lst ((List.replicate (i + 1) true).map V.bl))) → Qn H2) → ∃ acc, H' D = some (.lst acc) ∧ acc.length < sizeLine ∧ Qn (upd H' D (.lst (acc ++ [V.bl true]))) := fun Qn hq => by
      refine ⟨_, ed, ?_, hq _ ⟨fun b o e => ?_, ?_⟩⟩
      · rw [List.length_map, List.length_replicate]; exact small1000 (by omega)
      · rw [upd_ne (ne_of_none e nD)]; exact sm _ _ e
      · rw [upd_same, List.replicate_succ', List.map_append]; rfl
    refine ⟨rfl, kept ?_⟩
    refine ⟨_, rfl, rfl, _, rfl, ?_⟩
    rw [str_q]
    by_cases h63 : c = 63
    · subst h63
      rw [decide_eq_true (show V.str ⟨#[63]⟩ = V.str (ch 63) from rfl)]
      exact iteT (out _ fun _ z => z)
    · rw [decide_eq_false (show ¬ V.str ⟨#[c]⟩ = V.str (ch 63) from fun z => h63 (ch_inj (V.str.inj z)))]
      refine iteF ⟨_, rfl, c, rfl, ?_⟩
      have hl : 97 ≤ c ∧ c ≤ 122 := by
        rcases sg with z | z
        · exact absurd z h63
        · exact z
      rw [decide_eq_true hl.1, decide_eq_true hl.2]
      exact out _ fun _ z => z
  · obtain ⟨sm, ed⟩ := hp
    refine ⟨D, _, rfl, SqL.of ed, ?_⟩
    have e : (List.replicate (tx r).cps.toList.length true).all id = true := by simp
    rw [e]
    exact q H' sm
end
/-! ### three_rows -/
abbrev Rows := List (Kd × List Nat)
def rowsK (L : Rows) : List (Key × V) := L.map fun p => (.inr p.1.str, vt p.2)
def rowOf (L : Rows) (n : Nat) (k : Kd) : List Nat := ((L.find? fun p => decide (p.1 = k)).map (·.2)).getD (List.replicate n 63)
theorem Kd.inj {a b : Kd} (h : a.str = b.str) : a = b := by
  cases a <;> cases b <;> first | rfl | exact absurd h (by decide +kernel)
theorem rows_val (k : Kd) : ∀ L : Rows, valV (rowsK L) (.inr k.str) = ((L.find? fun p => decide (p.1 = k)).map (·.2)).map vt
  | [] => rfl
  | (j, r) :: L => by
    by_cases h : j = k
    · subst h
      rw [show rowsK ((j, r) :: L) = (.inr j.str, vt r) :: rowsK L from rfl, valV_pos rfl, List.find?_cons_of_pos (by simp)]
      rfl
    · rw [show rowsK ((j, r) :: L) = (.inr j.str, vt r) :: rowsK L from rfl, valV_neg (fun e => h (Kd.inj (Sum.inr.inj e))), List.find?_cons_of_neg (by simpa using h)]
      exact rows_val k L
theorem rows_there {L : Rows} (nd : (L.map (·.1)).Nodup) {k : Kd} {r : List Nat} (h : (k, r) ∈ L) : L.find? (fun p => decide (p.1 = k)) = some (k, r) := by
  induction L with
  | nil => cases h
  | cons p L ih =>
    obtain ⟨j, z⟩ := p
    obtain ⟨h1, h2⟩ := List.nodup_cons.mp (show (j :: L.map (·.1)).Nodup from nd)
    rcases List.mem_cons.mp h with e | e
    · cases e
      exact List.find?_cons_of_pos (by simp)
    · rw [List.find?_cons_of_neg (by
        have : j ≠ k := fun z => h1 (List.mem_map.mpr ⟨_, e, z.symm⟩)
        simpa using this)]
      exact ih h2 e
theorem rowOf_there {L : Rows} {n : Nat} (nd : (L.map (·.1)).Nodup) {k : Kd} {r : List Nat} (h : (k, r) ∈ L) : rowOf L n k = r := by
  unfold rowOf
  rw [rows_there nd h]
  rfl
theorem lock_back {H H' : Hp} {d : Addr} {u : HO} {od : Obj} (hd : H d = some u) (s : Same (upd H d (.frz od u)) H') : Same H (upd H' d u) := fun b o e => by
  by_cases h : b = d
  · subst h
    rw [hd] at e
    rw [upd_same]; exact e
  · rw [upd_ne h]
    exact s _ _ (by rw [upd_ne h]; exact e)
/-- the tuple ROW_KINDS of the text -/
structure RowT (K : PySem.W.Frag) (mg : Str → Option Value) (a : Addr) : Prop where
  mg : mg "ROW_KINDS" = some (.ref a)
  sq : ∀ H : Hp, SqT K H a [.str "first", .str "between", .str "last"]
def spThree : Sp := fun vs H Q _ => ∃ (d : Addr) (L : Rows) (n : Nat), vs = [.ref d] ∧ H d = some (.dK (rowsK L)) ∧ L ≠ [] ∧ (L.map (·.1)).Nodup ∧ L.length ≤ 3 ∧ (∀ p ∈ L, RowOk p.2 ∧ p.2.length = n) ∧
  ∀ (t : Addr) (H' : Hp), Same H H' → H' t = some (.tup [vt (rowOf L n .first), vt (rowOf L n .between), vt (rowOf L n .last)]) → Q (.ref t) H'
section
variable {P : Program} {w : World} {K : PySem.W.Frag} {mg : Str → Option Value} {base : Heap} {f : Addr} {fd : FuncData}
theorem ok_three {aR : Addr} (F : Fun K "three_rows" "three_rows" s_three_rows f fd) (M : Mgs mg) (Rk : RowT K mg aR) (Dis_row : Df P w K mg base 2 "is_row" ["value"] spRow) : FnOk P w K mg base CX0 3 f fd ["rows"] spThree := by
  refine F.ok sc_three_rows (fun vs H Q E h => ?_) (fun cdv A outer s H vs Q E hr h => ?_)
  · obtain ⟨d, L, n, rfl, _⟩ := h
    rfl
  obtain ⟨d, L, n, rfl, hd, ne, nd, few, ok, q⟩ := h
  refine ⟨_, (pss_cons (ps_lock (ps_for PassesOwn.never rfl (pi_keys (pv 0)) (pg_name (i := 1) sc_three_rows.nd rfl (.inl rfl))
      (pss_one (ps_if (pt_cmpR op_notIn_seq (pv 1) (pe_glob (v := .ref _) rfl Rk.mg rfl) (by rfl))
      (pss_one ps_never) pss_nil))))
    (pss_cons (ps_if (pt_not (pt_truth (pv 0) (by intro _; rfl)))
      (pss_one ps_never) pss_nil)
    (pss_cons (ps_lock (ps_for PassesOwn.never rfl (pi_keys (pv 0)) (pg_name (i := 1) sc_three_rows.nd rfl (.inl rfl))
      (pss_one (ps_if (pt_not (pt_val (pe_call Dis_row.ok (hr.mono (by omega)) rfl Dis_row.g Dis_row.kp Dis_row.b .nil pass0 (pa_cons (pe_dget (Nat.lt_of_le_of_lt (Nat.add_le_add_left (by decide) _) hr.units) (pv 0) (pv 1) (fun _ _ => rfl)) pa_nil))))
      (pss_one ps_never) pss_nil))))
    (pss_cons (ps_set (i := 2) sc_three_rows.nd rfl (.inl rfl) (pe_callTy (call_listD rfl) rfl M.list (by decide +kernel) (pa_cons (pv 0) pa_nil)))
    (pss_cons (ps_set (i := 3) sc_three_rows.nd rfl (.inr rfl) (pe_callB call_len_str rfl M.len PySem.boot_len (pa_cons (pe_dget (Nat.lt_of_le_of_lt (Nat.add_le_add_left (by decide) _) hr.units) (pv 0) (pe_ix ix_list (pv 2) pe_int (fun _ _ => rfl)) (fun _ _ => rfl)) pa_nil)))
    (pss_cons (ps_for PassesOwn.never rfl (pi_list (pv 2)) (pg_name (i := 1) sc_three_rows.nd rfl (.inl rfl))
      (pss_one (ps_if (pt_cmpR op_ne (pe_callB call_len_str rfl M.len PySem.boot_len (pa_cons (pe_dget (Nat.lt_of_le_of_lt (Nat.add_le_add_left (by decide) _) hr.units) (pv 0) (pv 1) (fun _ _ => rfl)) pa_nil)) (pv 3) (nomark _))
      (pss_one ps_never) pss_nil)))
    (pss_one (ps_ret (pe_callTy call_tuple_of rfl M.tuple (by decide +kernel) (pa_cons (pe_lc (own := [("kind", 4)]) (g := gName 4) (tt := tYes) rfl sc_three_rows.nd (pi_tup (pe_glob (v := .ref _) rfl Rk.mg rfl)) (blkOk_by (N := ["rows", "name", "names", "size", "kind"]) (sc := defScope s_three_rows) (by decide +kernel)) (fun _ _ _ _ _ => (pg_name (i := 4) sc_three_rows.nd rfl (.inl rfl))) (fun _ _ _ _ _ => pts_nil) (fun _ _ _ _ _ => (pe_dget2 (Nat.lt_of_le_of_lt (Nat.add_le_add_left (by decide) _) hr.units) (pv 0) (pv 4) (pe_op op_timesS pe_str (pv 3)) ⟨rfl, rfl, rfl, rfl⟩))) pa_nil)))))))))), ?_⟩
  have lK : (rowsK L).length = L.length := List.length_map _
  refine ⟨d, _, hd, trivial, fun od => ?_⟩
  have efz := upd_same (H := H) (a := d) (o := .frz od (.dK (rowsK L)))
  have back : ∀ H', Same (upd H d (.frz od (.dK (rowsK L)))) H' → Same H (upd H' d (.dK (rowsK L))) := fun H' => lock_back hd
  generalize upd H d (.frz od (.dK (rowsK L))) = H1 at efz back ⊢
  refine ⟨_, rfl, d, od, rfl, .inl ⟨_, efz, ?_⟩⟩
  refine for_it (walk_keys (d := d) (o := od) (kvs := rowsK L)) (fun i σ H' => (∃ o1, σ = [some (.ref d), o1, none, none, none]) ∧ H' = H1) ⟨⟨_, rfl⟩, rfl⟩ (fun i σ H' _ hp => by rw [hp.2]; exact efz) (fun i x σ H' H'' hi hp hy => ?_) (fun σ H' hp => ?_)
  · obtain ⟨⟨o1, rfl⟩, e1⟩ := hp
    obtain ⟨e2, ky, v, hk, rfl⟩ := hy
    subst e2
    unfold rowsK at hk
    rw [List.getElem?_map] at hk
    obtain ⟨⟨k, r⟩, hc, he⟩ := Option.map_eq_some_iff.mp hk
    cases he
    refine ⟨_, rfl, aR, _, rfl, .inr (Rk.sq _), rfl, ?_, ?_⟩
    · rfl
    have e : (if true = true then !inV (.str k.str) [.str "first", .str "between", .str "last"] else inV (.str k.str) [.str "first", .str "between", .str "last"]) = false := by
      cases k <;> decide +kernel
    refine ⟨_, rfl, ?_⟩
    show if (if true = true then !inV (.str k.str) [.str "first", .str "between", .str "last"] else inV (.str k.str) [.str "first", .str "between", .str "last"]) = true then _ else _
    rw [e]
    refine iteF ?_
    exact ⟨⟨_, rfl⟩, e1⟩
  · obtain ⟨⟨o1, rfl⟩, rfl⟩ := hp
    refine ⟨efz, ?_⟩
    have s1 := back H' (Same.refl _)
    have hd1 : (upd H' d (.dK (rowsK L))) d = some (.dK (rowsK L)) := upd_same
    clear back efz
    generalize upd H' d (.dK (rowsK L)) = H2 at s1 hd1
    have nek : (!(rowsK L).isEmpty) = true := by
      cases L with
      | nil => exact absurd rfl ne
      | cons _ _ => rfl
    refine ⟨_, rfl, true, .inr (.inr ⟨_, hd1, nek.symm⟩), ?_⟩
    refine iteF ?_
    have val : ∀ {k : Kd} {r : List Nat}, (k, r) ∈ L → valV (rowsK L) (.inr k.str) = some (vt r) := fun {k r} hm => by
      rw [rows_val, rows_there nd hm]; rfl
    have len : ∀ {k : Kd} {r : List Nat}, (k, r) ∈ L → (tx r).length = n := fun {k r} hm => by
      rw [tx_len]; exact (ok _ hm).2
    have n12 : 1 ≤ n ∧ n ≤ 12 := by
      obtain ⟨p, L', rfl⟩ := List.exists_cons_of_ne_nil ne
      obtain ⟨a, b⟩ := ok p List.mem_cons_self
      have := List.length_pos_iff.mpr a.ne
      have := a.few
      omega
    refine ⟨d, _, hd1, trivial, fun od2 => ?_⟩
    have efz2 := upd_same (H := H2) (a := d) (o := .frz od2 (.dK (rowsK L)))
    have back2 : ∀ H', Same (upd H2 d (.frz od2 (.dK (rowsK L)))) H' → Same H2 (upd H' d (.dK (rowsK L))) := fun H' => lock_back hd1
    generalize upd H2 d (.frz od2 (.dK (rowsK L))) = H3 at efz2 back2 ⊢
    refine ⟨_, rfl, d, od2, rfl, .inl ⟨_, efz2, ?_⟩⟩
    refine for_it (walk_keys (d := d) (o := od2) (kvs := rowsK L)) (fun i σ H' => (∃ o1, σ = [some (.ref d), o1, none, none, none]) ∧ Same H3 H') ⟨⟨_, rfl⟩, Same.refl _⟩ (fun i σ H' _ hp => hp.2 _ _ efz2) (fun i x σ H' H'' hi hp hy => ?_) (fun σ H' hp => ?_)
    · obtain ⟨⟨o1, rfl⟩, sm⟩ := hp
      obtain ⟨e2, ky, v, hk, rfl⟩ := hy
      subst e2
      unfold rowsK at hk
      rw [List.getElem?_map] at hk
      obtain ⟨⟨k, r⟩, hc, he⟩ := Option.map_eq_some_iff.mp hk
      cases he
      have hm := List.mem_of_getElem? hc
      refine ⟨_, rfl, _, rfl, d, vt r, rfl, .inl ⟨_, .inr k.str, .inr ⟨od2, sm _ _ efz2⟩, rfl, (val hm).symm⟩, ?_⟩
      refine ⟨r, rfl, (ok _ hm).1, fun H4 s4 => ?_⟩
      refine ⟨_, rfl, iteF ?_⟩
      exact ⟨⟨_, rfl⟩, sm.trans s4⟩
    obtain ⟨⟨o1, rfl⟩, sm⟩ := hp
    refine ⟨sm _ _ efz2, ?_⟩
    have s3 := s1.trans (back2 H' sm)
    have hd3 : (upd H' d (.dK (rowsK L))) d = some (.dK (rowsK L)) := upd_same
    clear back2 efz2 sm
    generalize upd H' d (.dK (rowsK L)) = H5 at s3 hd3
    refine ⟨_, rfl, d, _, rfl, .inl hd3, fun p np => ?_⟩
    have ndp : d ≠ p := ne_of_none hd3 np
    have k1 := same_new np (.lst ((rowsK L).map fun kv => kV kv.1))
    have ep := upd_same (H := H5) (a := p) (o := .lst ((rowsK L).map fun kv => kV kv.1))
    have s6 := s3.trans k1
    have hd6 := k1 _ _ hd3
    generalize upd H5 p (.lst ((rowsK L).map fun kv => kV kv.1)) = H6 at s6 hd6 ep
    have nmE : ((rowsK L).map fun kv => kV kv.1) = L.map fun p => V.str p.1.str := by
      unfold rowsK; rw [List.map_map]; rfl
    rw [nmE] at ep
    obtain ⟨⟨k0, r0⟩, L', eL⟩ := List.exists_cons_of_ne_nil ne
    have hm0 : (k0, r0) ∈ L := by rw [eL]; exact List.mem_cons_self
    have at0 : atI (L.map fun p => V.str p.1.str) 0 = some (.str k0.str) := by
      rw [eL]; exact atI_nat (j := 0) rfl
    refine ⟨_, rfl, _, rfl, p, _, _, _, rfl, rfl, SqL.of ep, at0, d, vt r0, rfl, .inl ⟨_, .inr k0.str, .inl hd6, rfl, (val hm0).symm⟩, ?_⟩
    refine ⟨_, rfl, small (by rw [len hm0]; omega), ?_⟩
    rw [len hm0]
    refine ⟨_, rfl, p, rfl, ⟨_, SqL.of ep⟩, ?_⟩
    refine for_list (K := K) (a := p) (xs := L.map fun p => V.str p.1.str) (fun j σ Hx => ∃ o1, σ = [some (.ref d), o1, some (.ref p), some (.int (n : Int)), none] ∧ Hx = H6) ⟨_, rfl, rfl⟩ (fun j σ Hx _ hp => by obtain ⟨_, _, e⟩ := hp; rw [e]; exact SqL.of ep) (fun j x σ Hx hx hp => ?_) (fun σ Hx hp => ?_)
    · obtain ⟨o2, rfl, e6⟩ := hp
      subst e6
      rw [List.getElem?_map] at hx
      obtain ⟨⟨k, r⟩, hc, he⟩ := Option.map_eq_some_iff.mp hx
      cases he
      have hm := List.mem_of_getElem? hc
      refine ⟨_, rfl, _, rfl, d, vt r, rfl, .inl ⟨_, .inr k.str, .inl hd6, rfl, (val hm).symm⟩, ?_⟩
      refine ⟨_, rfl, small (by rw [len hm]; omega), ?_⟩
      rw [len hm]
      refine ⟨_, rfl, rfl, _, rfl, ?_⟩
      rw [show decide (V.int (n : Int) = V.int (n : Int)) = true from decide_eq_true rfl]
      refine iteF ?_
      exact ⟨_, rfl, rfl⟩
    obtain ⟨o2, rfl, e6⟩ := hp
    subst e6
    refine ⟨aR, rfl, ⟨_, Rk.sq _⟩, fun D nD => ?_⟩
    have kD := same_new nD (.lst [])
    refine lc_tup (K := K) (a := aR) (xs := [.str "first", .str "between", .str "last"]) (fun j H' => Same Hx H' ∧ H' D = some (.lst (([Kd.first, Kd.between, Kd.last].take j).map fun k => vt (rowOf L n k)))) ⟨kD, upd_same⟩ (fun j H' _ hp => Rk.sq _) (fun j x H7 hx7 hp => ?_) (fun H7 hp => ?_)
    · obtain ⟨sm, eD⟩ := hp
      obtain ⟨kk, rfl, hk⟩ : ∃ kk : Kd, x = .str kk.str ∧ [Kd.first, Kd.between, Kd.last][j]? = some kk := by
        match j, hx7 with
        | 0, h => cases h; exact ⟨.first, rfl, rfl⟩
        | 1, h => cases h; exact ⟨.between, rfl, rfl⟩
        | 2, h => cases h; exact ⟨.last, rfl, rfl⟩
      refine ⟨rfl, kept ?_⟩
      refine ⟨_, rfl, d, rfl, .inl ⟨_, .inl (sm _ _ hd6)⟩, _, rfl, _, rfl, 63, n, ?_, rfl, n12.1, by omega, _, .inl ⟨_, .inr kk.str, .inl (sm _ _ hd6), rfl, rfl⟩, ?_⟩
      · rw [str_q]; rfl
      rw [rows_val]
      have ev : (Option.map vt (Option.map (fun x => x.2) (List.find? (fun p => decide (p.1 = kk)) L))).getD (V.str (tx (List.replicate n 63))) = vt (rowOf L n kk) := by
        unfold rowOf
        cases List.find? (fun p => decide (p.1 = kk)) L <;> rfl
      rw [ev]
      refine ⟨_, eD, ?_, fun b o e => ?_, ?_⟩
      · rw [List.length_map, List.length_take]; exact small1000 (by show min j 3 ≤ 1000; omega)
      · rw [upd_ne (ne_of_none e nD)]; exact sm _ _ e
      · rw [upd_same, take_next hk, List.map_append]; rfl
    · obtain ⟨sm, eD⟩ := hp
      refine ⟨D, _, rfl, .inl ⟨SqL.of eD, fun t nt => ?_⟩⟩
      exact q t _ (s6.trans (sm.trans (same_new nt _))) upd_same
end
/-! ### walks, tree_fits, fits -/
def tst (r x : List Nat) : List Bool := (r.zip x).map fun p => decide (p.1 = 63) || decide (p.1 = p.2)
def fit (r x : List Nat) : Bool := (tst r x).all id
def fit3 (a b c : List Nat) (t : B) : Bool := fit a t.pre && (fit b t.mid && fit c t.post)
theorem walk_zipT {K : PySem.W.Frag} {a b : Addr} {xs ys : List V} {n : Nat} (hn : n = min xs.length ys.length) : Walk (RZ.ItzT K a b) n (fun H => SqT K H a xs ∧ SqT K H b ys) (YPair (fun i => xs[i]?) (fun i => ys[i]?)) :=
  ⟨fun i H hi h => ⟨xs, ys, xs[i]'(by omega), ys[i]'(by omega), h.1, h.2, List.getElem?_eq_getElem _, List.getElem?_eq_getElem _⟩, fun H h => ⟨xs, ys, h.1, h.2, by omega⟩, fun i H v H' hi h q => by
    obtain ⟨T, x, y, e1, e2, e3, e4, e5⟩ := q
    exact ⟨T, x, y, e1, e2, e3, e4 xs h.1, e5 ys h.2⟩⟩
theorem tst_len (r x : List Nat) : (tst r x).length ≤ r.length := by
  unfold tst
  rw [List.length_map, List.length_zip]
  omega
theorem in_two (e l : Nat) : inV (vc e) [vc 63, vc l] = (decide (e = 63) || decide (e = l)) := by
  have q : ∀ a b : Nat, eqV (vc a) (vc b) = decide (b = a) := fun a b => by
    by_cases h : b = a
    · subst h
      rw [decide_eq_true rfl]
      show eqV (.str _) (.str _) = true
      simp [eqV]
    · rw [decide_eq_false h]
      show eqV (.str _) (.str _) = false
      have : ¬ ch a = ch b := fun z => h (ch_inj z).symm
      simp [eqV, this]
  unfold inV
  rw [List.any_cons, List.any_cons, List.any_nil, q, q, Bool.or_false]
def spWalksT : Sp := fun vs H Q _ => ∃ (v : V) (t : B) (p : Addr), vs = [v, .ref p] ∧ BAt H v t ∧ t.size ≤ 50 ∧ H p = some (.tup [.str "first", .str "between", .str "last"]) ∧ ∀ (d : Addr) (H' : Hp), Same H H' → H' d = some (.tup [vt t.pre, vt t.mid, vt t.post]) → Q (.ref d) H'
def spWalks : Sp := fun vs H Q E => ∃ ws rest, vs = ws ++ rest ∧ ws.length = ["tree"].length ∧ rest.length ≤ sizeLine ∧ ∀ p, H p = Option.none → spWalksT (ws ++ [V.ref p]) (upd H p (.tup rest)) Q E
structure DfR (P : Program) (w : World) (K : PySem.W.Frag) (mg : Str → Option Value) (base : Heap) (k : Nat) (nm : Str) (sp : Sp) where
  f : Addr
  ok : FnR P w K mg base CX0 k f sp
  kp : PySem.W.keepIn K (.ref f) = true
  g : mg nm = some (.ref f)
def spTreeFits : Sp := fun vs H Q _ => ∃ (v : V) (t : B) (g : Addr) (a b c : List Nat) (n : Nat), vs = [v, .ref g] ∧ BAt H v t ∧ t.size ≤ 30 ∧ H g = some (.tup [vt a, vt b, vt c]) ∧ a.length = n ∧ b.length = n ∧ c.length = n ∧ n ≤ 12 ∧ ∀ H', Same H H' → Q (.bl (decide (t.size = n) && fit3 a b c t)) H'
def spFits (ks : List Kd) : List V → List V → Hp → VK → Prop := fun vs zs H Q => ∃ (v : V) (t : B) (L : Rows) (n : Nat), vs = [v] ∧ L.map (·.1) = ks ∧ zs = L.map (fun p => vt p.2) ∧ BAt H v t ∧ t.size ≤ 30 ∧ L ≠ [] ∧ (L.map (·.1)).Nodup ∧ L.length ≤ 3 ∧ (∀ p ∈ L, RowOk p.2 ∧ p.2.length = n) ∧
  ∀ H', Same H H' → Q (.bl (decide (t.size = n) && fit3 (rowOf L n .first) (rowOf L n .between) (rowOf L n .last) t)) H'
theorem rowOf_len {L : Rows} {n : Nat} (ok : ∀ p ∈ L, RowOk p.2 ∧ p.2.length = n) (k : Kd) : (rowOf L n k).length = n := by
  unfold rowOf
  cases h : L.find? (fun p => decide (p.1 = k)) with
  | none => exact List.length_replicate
  | some p => exact (ok p (List.mem_of_find?_eq_some h)).2
section
variable {P : Program} {w : World} {K : PySem.W.Frag} {mg : Str → Option Value} {base : Heap} {f : Addr} {fd : FuncData}
theorem rows_zip (L : Rows) : (((L.map (·.1)).map Kd.str).zip (L.map fun p => vt p.2)).map (fun x => ((.inr x.1 : Key), x.2)) = rowsK L := by
  induction L with
  | nil => rfl
  | cons p L ih => exact congrArg (_ :: ·) ih
end
/-! ### shapes, labelled -/
inductive S where
  | nil
  | node (l r : S)
def S.size : S → Nat
  | .nil => 0
  | .node l r => 1 + l.size + r.size
inductive ShAt (H : Hp) : V → S → Prop
  | nil : ShAt H .non .nil
  | node {a : Addr} {l r : V} {tl tr : S} : H a = some (.tup [l, r]) → ShAt H l tl → ShAt H r tr → ShAt H (.ref a) (.node tl tr)
theorem ShAt.keep {H H' : Hp} (k : KeepT H H') {v : V} {t : S} (h : ShAt H v t) : ShAt H' v t := by
  induction h with
  | nil => exact .nil
  | node e _ _ h1 h2 => exact .node (k _ _ e) h1 h2
theorem ShAt.inv {H : Hp} {v : V} {t : S} (h : ShAt H v t) : (v = .non ∧ t = .nil) ∨ ∃ a l r tl tr, v = .ref a ∧ t = .node tl tr ∧ H a = some (.tup [l, r]) ∧ ShAt H l tl ∧ ShAt H r tr := by
  cases h with
  | nil => exact .inl ⟨rfl, rfl⟩
  | node e h1 h2 => exact .inr ⟨_, _, _, _, _, rfl, rfl, e, h1, h2⟩
theorem ShAt.same {H H' : Hp} (k : Same H H') {v : V} {t : S} (h : ShAt H v t) : ShAt H' v t := h.keep (Tw.Same.keepT k)
theorem at_last2 {l r : V} : atI [l, r] (-1) = some r := by rfl
theorem tx_mid (l : List Nat) (i j : Nat) (h : i ≤ j) (hj : j ≤ l.length) : cutS (tx l) (some (i : Int)) (some (j : Int)) = tx ((l.drop i).take (j - i)) := by
  unfold cutS tx
  show (⟨_⟩ : Str) = ⟨_⟩
  rw [HT.sIx_nat, HT.sIx_nat]
  show (⟨((l.drop (min i l.length)).take (min j l.length - min i l.length)).toArray⟩ : Str) = _
  rw [Nat.min_eq_left (show i ≤ l.length by omega), Nat.min_eq_left hj]
/-- a tree's shape -/
def B.shp : B → S
  | .nil => .nil
  | .node l _ r => .node l.shp r.shp
def spSSize (n : Nat) : Sp := fun vs H Q _ => ∃ (v : V) (t : S), vs = [v] ∧ ShAt H v t ∧ t.size < n ∧ Q (.int (t.size : Int)) H
def spLab (n : Nat) : Sp := fun vs H Q _ => ∃ (v : V) (t : S) (ls : List Nat), vs = [v, vt ls] ∧ ShAt H v t ∧ t.size < n ∧ t.size ≤ 20 ∧ ls.length = t.size ∧
  ∀ (u : V) (b : B) (H' : Hp), Same H H' → BAt H' u b → b.pre = ls → b.shp = t → Q u H'
def spShape (n : Nat) : Sp := fun vs H Q _ => ∃ (D : Deck) (c : Nat) (m y : Nat), vs = [.ref D.dk, .int (m : Int), .int (y : Int)] ∧ DeckOk H D c ∧ c + m < 1000000 ∧ m < n ∧ m ≤ 20 ∧ y < 4 ∧
  ∀ (u : V) (t : S) (H' : Hp), SameD D H H' → DeckOk H' D (c + m) → ShAt H' u t → t.size = m → Q u H'
section
variable {P : Program} {w : World} {K : PySem.W.Frag} {mg : Str → Option Value} {base : Heap} {f : Addr} {fd : FuncData}
theorem ok_ssize (F : Fun K "_law_size" "_law_size" s__law_size f fd) (b : Binds K fd ["_law_tree_here"] []) (g : mg "_law_size" = some (.ref f)) : ∀ n : Nat, FnOk P w K mg base CX0 n f fd ["_law_tree_here"] (spSSize n)
  | 0 => by
    have no : ∀ vs H Q E, ¬ spSSize 0 vs H Q E := fun vs H Q E h => by
      obtain ⟨v, t, _, _, h1, _⟩ := h
      omega
    exact ⟨fun vs H Q E h => absurd h (no vs H Q E), fun A outer s H args us vs Q E _ _ _ _ h => absurd h (no vs H Q E)⟩
  | n + 1 => by
    have Dself : Df P w K mg base n "_law_size" ["_law_tree_here"] (spSSize n) := ⟨f, fd, ok_ssize F b g n, b, F.kp, g⟩
    refine F.ok sc__law_size (fun vs H Q E h => ?_) (fun cdv A outer s H vs Q E hr h => ?_)
    · obtain ⟨v, t, rfl, _⟩ := h
      rfl
    obtain ⟨v, t, rfl, hv, hn, q⟩ := h
    refine ⟨_, (pss_one (ps_ret (pe_ifExp (pt_cmpR op_isN (pv 0) pe_non (nomark _)) pe_int (pe_op op_add (pe_op op_add pe_int (pe_call Dself.ok (hr.mono (by omega)) rfl Dself.g Dself.kp Dself.b .nil pass0 (pa_cons (pe_ix ix_tup (pv 0) pe_int (fun _ _ => rfl)) pa_nil))) (pe_call Dself.ok (hr.mono (by omega)) rfl Dself.g Dself.kp Dself.b .nil pass0 (pa_cons (pe_ix ix_tup (pv 0) (pe_un un_neg pe_int) (fun _ _ => rfl)) pa_nil)))))), ?_⟩
    rcases hv.inv with ⟨rfl, rfl⟩ | ⟨a, l, r, tl, tr, rfl, rfl, ea, hl, hr'⟩
    · exact ⟨_, rfl, rfl, _, rfl, iteT q⟩
    · refine ⟨_, rfl, rfl, _, rfl, iteF ?_⟩
      have sz : 1 + tl.size + tr.size < n + 1 := hn
      refine ⟨_, rfl, a, _, _, _, rfl, rfl, SqT.of ea, atI_nat (j := 0) rfl, l, tl, rfl, hl, by omega, _, _, rfl, rfl, ?_⟩
      refine ⟨_, rfl, _, rfl, a, _, _, _, rfl, rfl, SqT.of ea, at_last2, r, tr, rfl, hr', by omega, _, _, rfl, rfl, ?_⟩
      have e : ((S.node tl tr).size : Int) = 1 + (tl.size : Int) + (tr.size : Int) := by
        show ((1 + tl.size + tr.size : Nat) : Int) = _
        omega
      rw [e] at q
      exact q
theorem ok_lab (F : Fun K "_law_labelled" "_law_labelled" s__law_labelled f fd) (b : Binds K fd ["_law_shape_here", "_law_letters"] []) (g : mg "_law_labelled" = some (.ref f)) (D_law_size : Df P w K mg base 30 "_law_size" ["_law_tree_here"] (spSSize 30)) : ∀ n : Nat, FnOk P w K mg base CX0 (30 + n) f fd ["_law_shape_here", "_law_letters"] (spLab n)
  | 0 => by
    have no : ∀ vs H Q E, ¬ spLab 0 vs H Q E := fun vs H Q E h => by
      obtain ⟨v, t, _, _, _, h1, _⟩ := h
      omega
    exact ⟨fun vs H Q E h => absurd h (no vs H Q E), fun A outer s H args us vs Q E _ _ _ _ h => absurd h (no vs H Q E)⟩
  | n + 1 => by
    have Dself : Df P w K mg base (30 + n) "_law_labelled" ["_law_shape_here", "_law_letters"] (spLab n) := ⟨f, fd, ok_lab F b g D_law_size n, b, F.kp, g⟩
    refine F.ok (k := 30 + n) sc__law_labelled (fun vs H Q E h => ?_) (fun cdv A outer s H vs Q E hr h => ?_)
    · obtain ⟨v, t, ls, rfl, _⟩ := h
      rfl
    obtain ⟨v, t, ls, rfl, hv, hn, h20, hl, q⟩ := h
    refine ⟨_, (pss_cons (ps_if (pt_cmpR op_isN (pv 0) pe_non (nomark _))
      (pss_one (ps_ret pe_non)) pss_nil)
    (pss_cons (ps_set (i := 2) sc__law_labelled.nd rfl (.inl rfl) (pe_call D_law_size.ok (hr.mono (by omega)) rfl D_law_size.g D_law_size.kp D_law_size.b .nil pass0 (pa_cons (pe_ix ix_tup (pv 0) pe_int (fun _ _ => rfl)) pa_nil)))
    (pss_one (ps_ret (pe_tup (pa_cons (pe_call Dself.ok (hr.mono (by omega)) rfl Dself.g Dself.kp Dself.b .nil pass0 (pa_cons (pe_ix ix_tup (pv 0) pe_int (fun _ _ => rfl)) (pa_cons (pe_slice sl_str (pv 1) (po_some pe_int) (po_some (pe_op op_add (pv 2) pe_int))) pa_nil))) (pa_cons (pe_ix ix_str (pv 1) pe_int (fun _ _ => rfl)) (pa_cons (pe_call Dself.ok (hr.mono (by omega)) rfl Dself.g Dself.kp Dself.b .nil pass0 (pa_cons (pe_ix ix_tup (pv 0) (pe_un un_neg pe_int) (fun _ _ => rfl)) (pa_cons (pe_slice sl_str (pv 1) (po_some (pe_op op_add (pv 2) pe_int)) po_none) pa_nil))) pa_nil)))))))), ?_⟩
    rcases hv.inv with ⟨rfl, rfl⟩ | ⟨a, l, r, tl, tr, rfl, rfl, ea, hL, hR⟩
    · refine ⟨_, rfl, rfl, _, rfl, iteT ?_⟩
      exact q .non .nil H (Same.refl _) .nil (List.length_eq_zero_iff.mp hl).symm rfl
    · refine ⟨_, rfl, rfl, _, rfl, iteF ?_⟩
      have sz : 1 + tl.size + tr.size < n + 1 := hn
      have s20 : 1 + tl.size + tr.size ≤ 20 := h20
      have hl : ls.length = 1 + tl.size + tr.size := hl
      obtain ⟨x, rest, rfl⟩ := List.exists_cons_of_length_pos (show 0 < ls.length by omega)
      have rl : rest.length = tl.size + tr.size := by rw [List.length_cons] at hl; omega
      refine ⟨_, rfl, a, _, _, _, rfl, rfl, SqT.of ea, atI_nat (j := 0) rfl, l, tl, rfl, hL, by omega, ?_⟩
      have lz : (tx (x :: rest)).length ≤ sizeLine := small (by rw [tx_len]; omega)
      refine ⟨_, rfl, a, _, _, _, rfl, rfl, SqT.of ea, atI_nat (j := 0) rfl, ?_⟩
      refine ⟨_, rfl, 1, rfl, _, rfl, _, _, rfl, rfl, ((tl.size + 1 : Nat) : Int), rfl, _, rfl, lz, ?_⟩
      rw [show (1 : Int) = ((1 : Nat) : Int) from rfl, tx_mid _ _ _ (by omega) (by rw [List.length_cons]; omega)]
      show spLab n [l, vt ((rest.take (tl.size + 1 - 1)))] H _ E0
      rw [Nat.add_sub_cancel]
      refine ⟨l, tl, rest.take tl.size, rfl, hL, by omega, by omega, by rw [List.length_take]; omega, fun u1 b1 H1 s1 h1 e1 j1 => ?_⟩
      refine ⟨_, rfl, _, _, _, rfl, rfl, lz, atI_nat (j := 0) rfl, ?_⟩
      refine ⟨_, rfl, _, rfl, a, _, _, _, rfl, rfl, SqT.of (s1 _ _ ea), at_last2, ?_⟩
      refine ⟨_, rfl, _, rfl, _, _, rfl, rfl, ((tl.size + 1 : Nat) : Int), rfl, _, rfl, lz, ?_⟩
      rw [tx_from]
      show spLab n [r, vt (rest.drop tl.size)] H1 _ E0
      refine ⟨r, tr, rest.drop tl.size, rfl, hR.same s1, by omega, by omega, by rw [List.length_drop]; omega, fun u2 b2 H2 s2 h2 e2 j2 => ⟨(by show 3 ≤ sizeLine; decide), fun p np => ?_⟩⟩
      have k3 := same_new np (.tup [u1, vc x, u2])
      refine q (.ref p) (.node b1 x b2) _ (s1.trans (s2.trans k3)) (.node upd_same ((h1.same s2).same k3) (h2.same k3)) ?_ (by show S.node b1.shp b2.shp = _; rw [j1, j2])
      show x :: (b1.pre ++ b2.pre) = _
      rw [e1, e2, List.take_append_drop]
theorem ok_shape (F : Fun K "_law_shape" "_law_shape" s__law_shape f fd) (b : Binds K fd ["_law_deck_here", "_law_many", "_law_way"] []) (g : mg "_law_shape" = some (.ref f)) (D_law_draw : Df P w K mg base 1 "_law_draw" ["_law_deck_here", "_law_many"] spDraw) : ∀ n : Nat, FnOk P w K mg base CX0 (1 + n) f fd ["_law_deck_here", "_law_many", "_law_way"] (spShape n)
  | 0 => by
    have no : ∀ vs H Q E, ¬ spShape 0 vs H Q E := fun vs H Q E h => by
      obtain ⟨D, c, m, y, _, _, _, h1, _⟩ := h
      omega
    exact ⟨fun vs H Q E h => absurd h (no vs H Q E), fun A outer s H args us vs Q E _ _ _ _ h => absurd h (no vs H Q E)⟩
  | n + 1 => by
    have Dself : Df P w K mg base (1 + n) "_law_shape" ["_law_deck_here", "_law_many", "_law_way"] (spShape n) := ⟨f, fd, ok_shape F b g D_law_draw n, b, F.kp, g⟩
    refine F.ok (k := 1 + n) sc__law_shape (fun vs H Q E h => ?_) (fun cdv A outer s H vs Q E hr h => ?_)
    · obtain ⟨D, c, m, y, rfl, _⟩ := h
      rfl
    obtain ⟨D, c, m, y, rfl, d, hc, hn, h20, y4, q⟩ := h
    refine ⟨_, (pss_cons (ps_if (pt_cmpR op_eq (pv 1) pe_int (nomark _))
      (pss_one (ps_ret pe_non)) pss_nil)
    (pss_cons (ps_set (i := 3) sc__law_shape.nd rfl (.inl rfl) (pe_ix ix_list (pe_lst (pa_cons (pe_call D_law_draw.ok (hr.mono (by omega)) rfl D_law_draw.g D_law_draw.kp D_law_draw.b .nil pass0 (pa_cons (pv 0) (pa_cons (pv 1) pa_nil))) (pa_cons pe_int (pa_cons (pe_op op_sub (pv 1) pe_int) (pa_cons (pe_op op_mul (pe_op op_sub (pv 1) pe_int) (pe_op op_mod (pv 1) pe_int)) pa_nil))))) (pv 2) (fun _ _ => rfl)))
    (pss_one (ps_ret (pe_tup (pa_cons (pe_call Dself.ok (hr.mono (by omega)) rfl Dself.g Dself.kp Dself.b .nil pass0 (pa_cons (pv 0) (pa_cons (pv 3) (pa_cons (pv 2) pa_nil)))) (pa_cons (pe_call Dself.ok (hr.mono (by omega)) rfl Dself.g Dself.kp Dself.b .nil pass0 (pa_cons (pv 0) (pa_cons (pe_op op_sub (pe_op op_sub (pv 1) pe_int) (pv 3)) (pa_cons (pv 2) pa_nil)))) pa_nil))))))), ?_⟩
    refine ⟨_, rfl, rfl, _, rfl, ?_⟩
    by_cases h0 : m = 0
    · subst h0
      refine iteT ?_
      exact q .non .nil H (SameD.refl _ _) d .nil rfl
    · rw [decide_eq_false (show ¬ V.int (m : Int) = V.int 0 from fun z => h0 (by have := V.int.inj z; omega))]
      refine iteF ?_
      refine ⟨_, rfl, _, rfl, D, c, _, rfl, d, by omega, by omega, by omega, fun i H1 i0 i1 d1 s1 => ?_⟩
      refine ⟨_, rfl, _, _, rfl, rfl, ?_⟩
      refine ⟨_, rfl, _, _, rfl, rfl, _, rfl, _, _, rfl, rfl, (show (0 : Int) < 2 by decide), _, _, rfl, rfl, .inr ⟨by omega, by omega⟩, ?_⟩
      refine ⟨(by show 4 ≤ sizeLine; decide), fun p np => ?_⟩
      have k1 := same_new np (.lst [V.int i, .int 0, .int ((m : Int) - 1), .int (((m : Int) - 1) * ((m : Int) % 2))])
      obtain ⟨sp, hat, lo, hi⟩ : ∃ sp : Nat, atI [V.int i, .int 0, .int ((m : Int) - 1), .int (((m : Int) - 1) * ((m : Int) % 2))] (y : Int) = some (.int (sp : Int)) ∧ 0 ≤ sp ∧ sp < m := by
        have h4 : y = 0 ∨ y = 1 ∨ y = 2 ∨ y = 3 := by omega
        rcases h4 with rfl | rfl | rfl | rfl
        · exact ⟨i.toNat, by rw [atI_nat (j := 0) rfl, Int.toNat_of_nonneg i0], Nat.zero_le _, by omega⟩
        · exact ⟨0, atI_nat (j := 1) rfl, Nat.zero_le _, by omega⟩
        · exact ⟨m - 1, by rw [atI_nat (j := 2) rfl, show ((m : Int) - 1) = ((m - 1 : Nat) : Int) by omega], Nat.zero_le _, by omega⟩
        · rcases (show m % 2 = 0 ∨ m % 2 = 1 by omega) with e | e
          · exact ⟨0, by rw [atI_nat (j := 3) rfl, show (m : Int) % 2 = 0 by omega, Int.mul_zero]; rfl, Nat.zero_le _, by omega⟩
          · exact ⟨m - 1, by rw [atI_nat (j := 3) rfl, show (m : Int) % 2 = 1 by omega, Int.mul_one, show ((m : Int) - 1) = ((m - 1 : Nat) : Int) by omega], Nat.zero_le _, by omega⟩
      refine ⟨_, rfl, p, _, _, _, rfl, rfl, SqL.of upd_same, hat, ?_⟩
      have d2 := d1.same k1
      have sA := s1.trans (SameD.of k1)
      generalize upd H1 p (.lst [V.int i, .int 0, .int ((m : Int) - 1), .int (((m : Int) - 1) * ((m : Int) % 2))]) = H2 at d2 sA
      refine ⟨_, rfl, _, rfl, _, rfl, D, c + 1, sp, y, rfl, d2, by omega, by omega, by omega, y4, fun u1 t1 H3 s3 d3 h1 e1 => ?_⟩
      refine ⟨_, rfl, _, rfl, _, _, rfl, rfl, _, rfl, _, _, rfl, rfl, _, rfl, D, c + 1 + sp, m - 1 - sp, y, ?_, d3, by omega, by omega, by omega, y4, fun u2 t2 H4 s4 d4 h2 e2 => ⟨(by show 2 ≤ sizeLine; decide), fun z nz => ?_⟩⟩
      · rw [show ((m - 1 - sp : Nat) : Int) = (m : Int) - 1 - (sp : Int) by omega]; rfl
      have kz := same_new nz (.tup [u1, u2])
      have d5 := d4.same kz
      rw [show c + 1 + sp + (m - 1 - sp) = c + m by omega] at d5
      refine q (.ref z) (.node t1 t2) _ (sA.trans (s3.trans (s4.trans (SameD.of kz)))) d5 (.node upd_same ((h1.keep (s4.keepT d3)).same kz) (h2.same kz)) ?_
      show 1 + t1.size + t2.size = m
      omega
end
/-! ### _law_tree, _law_walks -/
def lowT (t : B) : Prop := ∀ c ∈ t.pre, 97 ≤ c ∧ c ≤ 122
def spTree : Sp := fun vs H Q _ => ∃ (D : Deck) (n m : Nat), vs = [.ref D.dk, .int (m : Int)] ∧ DeckOk H D n ∧ n + 60 < 1000000 ∧ 0 < m ∧ m ≤ 12 ∧
  ∀ (u : V) (t : B) (c : Nat) (H' : Hp), n ≤ c → c ≤ n + 60 → DeckOk H' D c → SameD D H H' → BAt H' u t → t ≠ .nil → t.size ≤ m → lowT t → Q u H'
theorem some_low {y : Nat} (h : y < 4) : ∃ ls : List Nat, atI [V.str (Str.ofString "a"), .str (Str.ofString "ab"), .str (Str.ofString "abc"), .str (Str.ofString "abcdefghijklmnopqrstuvwxyz")] (y : Int) = some (vt ls) ∧ ls ≠ [] ∧ ls.length ≤ 26 ∧ ∀ c ∈ ls, 97 ≤ c ∧ c ≤ 122 := by
  have h4 : y = 0 ∨ y = 1 ∨ y = 2 ∨ y = 3 := by omega
  rcases h4 with rfl | rfl | rfl | rfl
  · exact ⟨(Str.ofString "a").cps.toList, atI_nat (j := 0) rfl, by decide +kernel, by decide +kernel, by decide +kernel⟩
  · exact ⟨(Str.ofString "ab").cps.toList, atI_nat (j := 1) rfl, by decide +kernel, by decide +kernel, by decide +kernel⟩
  · exact ⟨(Str.ofString "abc").cps.toList, atI_nat (j := 2) rfl, by decide +kernel, by decide +kernel, by decide +kernel⟩
  · exact ⟨(Str.ofString "abcdefghijklmnopqrstuvwxyz").cps.toList, atI_nat (j := 3) rfl, by decide +kernel, by decide +kernel, by decide +kernel⟩
theorem all_vc {l : List Nat} : ∀ zs : List V, (∀ x ∈ zs, x ∈ l.map vc) → ∃ cs : List Nat, zs = cs.map vc ∧ ∀ c ∈ cs, c ∈ l
  | [], _ => ⟨[], rfl, fun c h => nomatch h⟩
  | x :: zs, h => by
    obtain ⟨cs, e, hc⟩ := all_vc zs fun y hy => h y (List.mem_cons_of_mem _ hy)
    obtain ⟨c, h1, rfl⟩ := List.mem_map.mp (h x List.mem_cons_self)
    exact ⟨c :: cs, by rw [e]; rfl, fun d hd => by
      rcases List.mem_cons.mp hd with rfl | hd
      · exact h1
      · exact hc d hd⟩
section
variable {P : Program} {w : World} {K : PySem.W.Frag} {mg : Str → Option Value} {base : Heap} {f : Addr} {fd : FuncData}
theorem ok_tree (F : Fun K "_law_tree" "_law_tree" s__law_tree f fd) (M : Mgs mg) (D_law_draw : Df P w K mg base 1 "_law_draw" ["_law_deck_here", "_law_many"] spDraw) (D_law_mixed : Df P w K mg base 2 "_law_mixed" ["_law_deck_here", "_law_row"] spMixed)
    (D_law_labelled : Df P w K mg base 51 "_law_labelled" ["_law_shape_here", "_law_letters"] (spLab 21)) (D_law_shape : Df P w K mg base 22 "_law_shape" ["_law_deck_here", "_law_many", "_law_way"] (spShape 21)) : FnOk P w K mg base CX0 52 f fd ["_law_deck_here", "_law_most"] spTree := by
  refine F.ok sc__law_tree (fun vs H Q E h => ?_) (fun cdv A outer s H vs Q E hr h => ?_)
  · obtain ⟨D, n, m, rfl, _⟩ := h
    rfl
  obtain ⟨D, n, m, rfl, d, hn, m0, m12, q⟩ := h
  refine ⟨_, (pss_cons (ps_set (i := 2) sc__law_tree.nd rfl (.inl rfl) (pe_op op_add pe_int (pe_call D_law_draw.ok (hr.mono (by omega)) rfl D_law_draw.g D_law_draw.kp D_law_draw.b .nil pass0 (pa_cons (pv 0) (pa_cons (pv 1) pa_nil)))))
    (pss_cons (ps_set (i := 3) sc__law_tree.nd rfl (.inr rfl) (pe_ix ix_list (pe_lst (pa_cons pe_str (pa_cons pe_str (pa_cons pe_str (pa_cons pe_str pa_nil))))) (pe_call D_law_draw.ok (hr.mono (by omega)) rfl D_law_draw.g D_law_draw.kp D_law_draw.b .nil pass0 (pa_cons (pv 0) (pa_cons pe_int pa_nil))) (fun _ _ => rfl)))
    (pss_cons (ps_set (i := 5) sc__law_tree.nd rfl (.inl rfl) (pe_bm PySem.F.plainAttrs_str PySem.F.slot_str_join PySem.F.type_str_join mt_join pe_str (pa_cons (pe_lc (own := [("_law_node", 4)]) (g := gName 4) (tt := tYes) rfl sc__law_tree.nd (pi_range1 rfl M.range (pa_cons (pv 2) pa_nil)) (blkOk_by (N := ["_law_deck_here", "_law_most", "_law_many", "_law_some", "_law_node", "_law_letters"]) (sc := defScope s__law_tree) (by decide +kernel)) (fun _ _ _ _ _ => (pg_name (i := 4) sc__law_tree.nd rfl (.inl rfl))) (fun _ _ _ _ _ => pts_nil) (fun _ _ _ _ _ => (pe_ix ix_str (pv 3) (pe_call D_law_draw.ok (hr.mono (by omega)) rfl D_law_draw.g D_law_draw.kp D_law_draw.b .nil pass0 (pa_cons (pv 0) (pa_cons (pe_callB call_len_str rfl M.len PySem.boot_len (pa_cons (pv 3) pa_nil)) pa_nil))) (fun _ _ => rfl)))) pa_nil)))
    (pss_cons (ps_if (pt_cmpR op_eq (pe_call D_law_draw.ok (hr.mono (by omega)) rfl D_law_draw.g D_law_draw.kp D_law_draw.b .nil pass0 (pa_cons (pv 0) (pa_cons pe_int pa_nil))) pe_int (nomark _))
      (pss_one (ps_set (i := 5) sc__law_tree.nd rfl (.inl rfl) (pe_slice sl_str (pe_bm PySem.F.plainAttrs_str PySem.F.slot_str_join PySem.F.type_str_join mt_join pe_str (pa_cons (pe_call D_law_mixed.ok (hr.mono (by omega)) rfl D_law_mixed.g D_law_mixed.kp D_law_mixed.b .nil pass0 (pa_cons (pv 0) (pa_cons (pe_callTy (call_signs rfl) rfl M.list (by decide +kernel) (pa_cons pe_str pa_nil)) pa_nil))) pa_nil)) po_none (po_some (pv 2))))) pss_nil)
    (pss_one (ps_ret (pe_call D_law_labelled.ok (hr.mono (by omega)) rfl D_law_labelled.g D_law_labelled.kp D_law_labelled.b .nil pass0 (pa_cons (pe_call D_law_shape.ok (hr.mono (by omega)) rfl D_law_shape.g D_law_shape.kp D_law_shape.b .nil pass0 (pa_cons (pv 0) (pa_cons (pv 2) (pa_cons (pe_op op_mul (pe_op op_mod (pe_call D_law_draw.ok (hr.mono (by omega)) rfl D_law_draw.g D_law_draw.kp D_law_draw.b .nil pass0 (pa_cons (pv 0) (pa_cons pe_int pa_nil))) pe_int) (pe_callTy call_int1 rfl M.int (by decide +kernel) (pa_cons (pe_cmpR op_gt (pv 2) pe_int (nomark _)) pa_nil))) pa_nil)))) (pa_cons (pv 5) pa_nil))))))))), ?_⟩
  refine ⟨_, rfl, _, rfl, D, n, _, rfl, d, by omega, by omega, by omega, fun i H1 i0 i1 d1 s1 => ?_⟩
  obtain ⟨z, rfl⟩ : ∃ z : Nat, i = (z : Int) := ⟨i.toNat, by omega⟩
  refine ⟨_, _, rfl, rfl, ?_⟩
  refine ⟨(by show 4 ≤ sizeLine; decide), fun p np => ?_⟩
  have k1 := same_new np (.lst [V.str (Str.ofString "a"), .str (Str.ofString "ab"), .str (Str.ofString "abc"), .str (Str.ofString "abcdefghijklmnopqrstuvwxyz")])
  have ep := upd_same (H := H1) (a := p) (o := .lst [V.str (Str.ofString "a"), .str (Str.ofString "ab"), .str (Str.ofString "abc"), .str (Str.ofString "abcdefghijklmnopqrstuvwxyz")])
  have op := d1.new np
  have d2 := d1.same k1
  have s2 := s1.trans (SameD.of k1)
  generalize upd H1 p (.lst [V.str (Str.ofString "a"), .str (Str.ofString "ab"), .str (Str.ofString "abc"), .str (Str.ofString "abcdefghijklmnopqrstuvwxyz")]) = H2 at ep d2 s2
  refine ⟨_, rfl, D, n + 1, _, rfl, d2, by omega, by decide, by decide, fun j H3 j0 j1 d3 s3 => ?_⟩
  obtain ⟨y, rfl⟩ : ∃ y : Nat, j = (y : Int) := ⟨j.toNat, by omega⟩
  obtain ⟨ls, hat, lne, l26, low⟩ := some_low (show y < 4 by omega)
  refine ⟨p, _, _, _, rfl, rfl, SqL.of (s3.at op ep), hat, ?_⟩
  have s4 := s2.trans s3
  have l0 : 0 < ls.length := List.length_pos_iff.mpr lne
  have hz : (1 : Int) + (z : Int) = ((z + 1 : Nat) : Int) := by omega
  refine ⟨rfl, _, rfl, (1 : Int) + (z : Int), rfl, (by omega), (by omega), fun L nL => ?_⟩
  rw [show ((1 : Int) + (z : Int)).toNat = z + 1 by omega]
  have nLH : H L = none := s4.free d3 nL
  refine lc_range (lo := 0) (n := z + 1) (fun j H' => ∃ xs : List Nat, xs.length = j ∧ DeckOk H' D (n + 2 + j) ∧ SameD D H H' ∧ H' L = some (.lst (xs.map vc)) ∧ Off D L ∧ ∀ c ∈ xs, 97 ≤ c ∧ c ≤ 122)
    ⟨[], rfl, d3.same (same_new nL _), s4.put nLH _, upd_same, d3.new nL, fun c h => nomatch h⟩ (fun j H' hj hp => ?_) (fun H4 hp => ?_)
  · obtain ⟨xs, hx, d4, s5, eL, oL, lo⟩ := hp
    have lz : (tx ls).length ≤ sizeLine := small (by rw [tx_len]; omega)
    refine ⟨rfl, kept ?_⟩
    refine ⟨_, rfl, _, rfl, _, rfl, _, rfl, lz, D, n + 2 + j, _, rfl, d4, by omega, by rw [tx_len]; omega, by rw [tx_len]; omega, fun i H5 i0 i1 d5 s6 => ?_⟩
    rw [tx_len] at i1
    have hi : i.toNat < ls.length := by omega
    refine ⟨_, _, _, rfl, rfl, lz, at_ge (xs := ls) i0 hi, ?_⟩
    refine ⟨_, s6.at oL eL, ?_, xs ++ [ls[i.toNat]], by rw [List.length_append, hx]; rfl, d5.put oL _, ?_, ?_, oL, fun c hc => ?_⟩
    · rw [List.length_map]; exact small1000 (by omega)
    · exact (s5.trans s6).put nLH _
    · rw [upd_same, List.map_append]; rfl
    · rcases List.mem_append.mp hc with hc | hc
      · exact lo c hc
      · rw [List.mem_singleton.mp hc]
        exact low _ (List.getElem_mem hi)
  obtain ⟨xs, hx, d4, s5, eL, oL, lo⟩ := hp
  have m12' : z + 1 ≤ 12 := by omega
  have eL2 : H4 L = some (.lst ((xs.map ch).map V.str)) := by rw [eL, map_vc]
  refine ⟨_, L, xs.map ch, rfl, rfl, .inl (SqL.of eL2), tx_joinOk _ (by omega), ?_⟩
  rw [tx_join]
  refine ⟨_, rfl, D, n + 2 + (z + 1), _, rfl, d4, by omega, by decide, by decide, fun i H5 i0 i1 d5 s6 => ⟨rfl, _, rfl, ?_⟩⟩
  have s7 := s5.trans s6
  -- the end
  refine ite2 (fun _ => ?_) (fun _ => ?_)
  · refine ⟨rfl, _, rfl, Str.ofString "abcdefghijklmnopqrstuvwxyz", rfl, (by decide +kernel), fun ra nra => ?_⟩
    have e26 : (Str.ofString "abcdefghijklmnopqrstuvwxyz").cps.toList.length = 26 := by decide +kernel
    have low26 : ∀ c ∈ (Str.ofString "abcdefghijklmnopqrstuvwxyz").cps.toList, 97 ≤ c ∧ c ≤ 122 := by decide +kernel
    have kA := same_new nra (.lst ((Str.ofString "abcdefghijklmnopqrstuvwxyz").cps.toList.map vc))
    have era := upd_same (H := H5) (a := ra) (o := .lst ((Str.ofString "abcdefghijklmnopqrstuvwxyz").cps.toList.map vc))
    have ora := d5.new nra
    have dA := d5.same kA
    generalize (Str.ofString "abcdefghijklmnopqrstuvwxyz").cps.toList = AL at e26 low26 kA era dA ⊢
    have sA := s7.trans (SameD.of kA)
    refine ⟨D, n + 2 + (z + 1) + 1, ra, AL.map vc, rfl, dA, by rw [List.length_map]; omega, era, ora, by rw [List.length_map]; omega, fun p9 zs H6 dM sM np9 ep9 pm op9 => ?_⟩
    obtain ⟨cs, rfl, hcs⟩ := all_vc zs fun x hx => pm.mem_iff.mp hx
    have lc : cs.length = 26 := by
      have := pm.length_eq
      rw [List.length_map, List.length_map] at this
      omega
    rw [List.length_map, e26] at dM
    have ep8 : H6 p9 = some (.lst ((cs.map ch).map V.str)) := by rw [ep9, map_vc]
    refine ⟨_, p9, cs.map ch, rfl, rfl, .inl (SqL.of ep8), tx_joinOk _ (by omega), ?_⟩
    rw [tx_join]
    refine ⟨_, rfl, (1 : Int) + (z : Int), rfl, _, rfl, small (by rw [tx_len]; omega), ?_⟩
    rw [hz, tx_to]
    have SX := sA.trans sM
    have LX : (cs.take (z + 1)).length = z + 1 := by rw [List.length_take]; omega
    have OX : ∀ c ∈ cs.take (z + 1), 97 ≤ c ∧ c ≤ 122 := fun c hc => low26 c (hcs c (List.mem_of_mem_take hc))
    refine ⟨_, rfl, _, rfl, _, rfl, D, (n + 2 + (z + 1) + 1 + 26), _, rfl, dM, by omega, by decide, by decide, fun i9 H7 i90 i91 d7 s8 => ?_⟩
    refine ⟨_, _, rfl, rfl, (show (0 : Int) < 4 by decide), _, rfl, _, _, rfl, rfl, .inr ⟨_, rfl, _, _, rfl, rfl, .inl ⟨by omega, by omega⟩, ?_⟩⟩
    have pz : decide ((1 : Int) + (z : Int) > 0) = true := decide_eq_true (by omega)
    refine ⟨D, (n + 2 + (z + 1) + 1 + 26) + 1, z + 1, (i9 % 4).toNat, ?_, d7, by omega, by omega, by omega, by omega, fun u1 t1 H8 s9 d8 h1 e1 => ?_⟩
    · show [V.ref D.dk, V.int (1 + (z : Int)), V.int (i9 % 4 * (if decide ((1 : Int) + (z : Int) > 0) = true then 1 else 0))] = _
      rw [pz, if_pos rfl, Int.mul_one, hz, Int.toNat_of_nonneg (by omega)]
    refine ⟨_, rfl, u1, t1, _, rfl, h1, by omega, by omega, by rw [e1]; exact LX, fun u2 b H9 sB hb eb _ => ?_⟩
    refine q u2 b ((n + 2 + (z + 1) + 1 + 26) + 1 + (z + 1)) H9 (by omega) (by omega) (d8.same sB) (SX.trans (s8.trans (s9.trans (SameD.of sB)))) hb (fun e => ?_) ?_ (fun c hc => ?_)
    · have := congrArg List.length eb
      rw [e, LX] at this
      exact absurd this (by show ¬ (0 = z + 1); omega)
    · rw [← b.pre_len, eb, LX]; omega
    · rw [eb] at hc
      exact OX c hc
  · refine ⟨_, rfl, _, rfl, _, rfl, D, (n + 2 + (z + 1) + 1), _, rfl, d5, by omega, by decide, by decide, fun i9 H7 i90 i91 d7 s8 => ?_⟩
    refine ⟨_, _, rfl, rfl, (show (0 : Int) < 4 by decide), _, rfl, _, _, rfl, rfl, .inr ⟨_, rfl, _, _, rfl, rfl, .inl ⟨by omega, by omega⟩, ?_⟩⟩
    have pz : decide ((1 : Int) + (z : Int) > 0) = true := decide_eq_true (by omega)
    refine ⟨D, (n + 2 + (z + 1) + 1) + 1, z + 1, (i9 % 4).toNat, ?_, d7, by omega, by omega, by omega, by omega, fun u1 t1 H8 s9 d8 h1 e1 => ?_⟩
    · show [V.ref D.dk, V.int (1 + (z : Int)), V.int (i9 % 4 * (if decide ((1 : Int) + (z : Int) > 0) = true then 1 else 0))] = _
      rw [pz, if_pos rfl, Int.mul_one, hz, Int.toNat_of_nonneg (by omega)]
    refine ⟨_, rfl, u1, t1, _, rfl, h1, by omega, by omega, by rw [e1]; exact hx, fun u2 b H9 sB hb eb _ => ?_⟩
    refine q u2 b ((n + 2 + (z + 1) + 1) + 1 + (z + 1)) H9 (by omega) (by omega) (d8.same sB) (s7.trans (s8.trans (s9.trans (SameD.of sB)))) hb (fun e => ?_) ?_ (fun c hc => ?_)
    · have := congrArg List.length eb
      rw [e, hx] at this
      exact absurd this (by show ¬ (0 = z + 1); omega)
    · rw [← b.pre_len, eb, hx]; omega
    · rw [eb] at hc
      exact lo c hc
end
/-! ### _law_walks, _law_hidden -/
def spLWalks (n : Nat) : Sp := fun vs H Q _ => ∃ (v : V) (t : B), vs = [v] ∧ BAt H v t ∧ t.size < n ∧ t.size ≤ 20 ∧ ∀ (d : Addr) (H' : Hp), Same H H' → H' d = some (.tup [vt t.pre, vt t.mid, vt t.post]) → Q (.ref d) H'
def spHid : Sp := fun vs H Q _ => ∃ (D : Deck) (n : Nat) (r : List Nat), vs = [.ref D.dk, vt r] ∧ DeckOk H D n ∧ n + 20 < 1000000 ∧ RowOk r ∧
  ∀ (z : List Nat) (c : Nat) (H' : Hp), n ≤ c → c ≤ n + 13 → DeckOk H' D c → SameD D H H' → RowOk z → z.length = r.length → Q (vt z) H'
theorem B.post_len (t : B) : t.post.length = t.size := t.wk_len .last
section
variable {P : Program} {w : World} {K : PySem.W.Frag} {mg : Str → Option Value} {base : Heap} {f : Addr} {fd : FuncData}
theorem ok_lwalks (F : Fun K "_law_walks" "_law_walks" s__law_walks f fd) (b : Binds K fd ["_law_tree_here"] []) (g : mg "_law_walks" = some (.ref f)) : ∀ n : Nat, FnOk P w K mg base CX0 n f fd ["_law_tree_here"] (spLWalks n)
  | 0 => by
    have no : ∀ vs H Q E, ¬ spLWalks 0 vs H Q E := fun vs H Q E h => by
      obtain ⟨v, t, _, _, h1, _⟩ := h
      omega
    exact ⟨fun vs H Q E h => absurd h (no vs H Q E), fun A outer s H args us vs Q E _ _ _ _ h => absurd h (no vs H Q E)⟩
  | n + 1 => by
    have Dself : Df P w K mg base n "_law_walks" ["_law_tree_here"] (spLWalks n) := ⟨f, fd, ok_lwalks F b g n, b, F.kp, g⟩
    refine F.ok sc__law_walks (fun vs H Q E h => ?_) (fun cdv A outer s H vs Q E hr h => ?_)
    · obtain ⟨v, t, rfl, _⟩ := h
      rfl
    obtain ⟨v, t, rfl, hv, hn, h20, q⟩ := h
    refine ⟨_, (pss_cons (ps_if (pt_cmpR op_isN (pv 0) pe_non (nomark _))
      (pss_one (ps_ret (pe_tup (pa_cons pe_str (pa_cons pe_str (pa_cons pe_str pa_nil)))))) pss_nil)
    (pss_cons (ps_par (i := 1) (j := 2) (by rfl) sc__law_walks.nd rfl rfl (by decide) rfl rfl (pa_cons (pe_call Dself.ok (hr.mono (by omega)) rfl Dself.g Dself.kp Dself.b .nil pass0 (pa_cons (pe_ix ix_tup (pv 0) pe_int (fun _ _ => rfl)) pa_nil)) (pa_cons (pe_call Dself.ok (hr.mono (by omega)) rfl Dself.g Dself.kp Dself.b .nil pass0 (pa_cons (pe_ix ix_tup (pv 0) pe_int (fun _ _ => rfl)) pa_nil)) pa_nil)) (by rfl))
    (pss_cons (ps_set (i := 3) sc__law_walks.nd rfl (.inl rfl) (pe_ix ix_tup (pv 0) pe_int (fun _ _ => rfl)))
    (pss_one (ps_ret (pe_tup (pa_cons (pe_op op_add_str (pe_op op_add_str (pv 3) (pe_ix ix_tup (pv 1) pe_int (fun _ _ => rfl))) (pe_ix ix_tup (pv 2) pe_int (fun _ _ => rfl))) (pa_cons (pe_op op_add_str (pe_op op_add_str (pe_ix ix_tup (pv 1) pe_int (fun _ _ => rfl)) (pv 3)) (pe_ix ix_tup (pv 2) pe_int (fun _ _ => rfl))) (pa_cons (pe_op op_add_str (pe_op op_add_str (pe_ix ix_tup (pv 1) pe_int (fun _ _ => rfl)) (pe_ix ix_tup (pv 2) pe_int (fun _ _ => rfl))) (pv 3)) pa_nil))))))))), ?_⟩
    rcases hv.inv with ⟨rfl, rfl⟩ | ⟨a, l, r, x, tl, tr, rfl, rfl, ea, hl, hr'⟩
    · refine ⟨_, rfl, rfl, _, rfl, iteT ⟨(by show 3 ≤ sizeLine; decide), fun p np => ?_⟩⟩
      refine q p _ (same_new np _) ?_
      rw [upd_same, str_0]
      rfl
    · refine ⟨_, rfl, rfl, _, rfl, iteF ?_⟩
      have sz : tl.size + 1 + tr.size < n + 1 := hn
      have s20 : tl.size + 1 + tr.size ≤ 20 := h20
      refine ⟨_, rfl, a, _, _, _, rfl, rfl, SqT.of ea, atI_nat (j := 0) rfl, l, tl, rfl, hl, by omega, by omega, fun d1 H1 s1 e1 => ?_⟩
      refine ⟨_, rfl, a, _, _, _, rfl, rfl, SqT.of (s1 _ _ ea), atI_nat (j := 2) rfl, r, tr, rfl, hr'.same s1, by omega, by omega, fun d2 H2 s2 e2 => ⟨_, _, rfl, ?_⟩⟩
      have ea2 := s2 _ _ (s1 _ _ ea)
      have e1' := s2 _ _ e1
      have l1 := tl.pre_len
      have l2 := tl.mid_len
      have l3 := tl.post_len
      have r1 := tr.pre_len
      have r2 := tr.mid_len
      have r3 := tr.post_len
      refine ⟨_, rfl, a, _, _, _, rfl, rfl, SqT.of ea2, atI_nat (j := 1) rfl, ?_⟩
      refine ⟨_, rfl, _, rfl, d1, _, _, _, rfl, rfl, SqT.of e1', atI_nat (j := 0) rfl, ?_⟩
      refine ⟨tx [x], tx tl.pre, rfl, rfl, small (by rw [tx_len, tx_len]; show 1 + _ ≤ 1000; omega), ?_⟩
      rw [tx_app]
      refine ⟨_, rfl, d2, _, _, _, rfl, rfl, SqT.of e2, atI_nat (j := 0) rfl, _, _, rfl, rfl, small (by rw [tx_len, tx_len, List.length_append]; show 1 + _ + _ ≤ 1000; omega), ?_⟩
      rw [tx_app]
      refine ⟨_, rfl, d1, _, _, _, rfl, rfl, SqT.of e1', atI_nat (j := 1) rfl, _, rfl, _, tx [x], rfl, rfl, small (by rw [tx_len, tx_len]; show _ + 1 ≤ 1000; omega), ?_⟩
      rw [tx_app]
      refine ⟨_, rfl, d2, _, _, _, rfl, rfl, SqT.of e2, atI_nat (j := 1) rfl, _, _, rfl, rfl, small (by rw [tx_len, tx_len, List.length_append]; show _ + 1 + _ ≤ 1000; omega), ?_⟩
      rw [tx_app]
      refine ⟨_, rfl, d1, _, _, _, rfl, rfl, SqT.of e1', atI_nat (j := 2) rfl, _, rfl, d2, _, _, _, rfl, rfl, SqT.of e2, atI_nat (j := 2) rfl, _, _, rfl, rfl, small (by rw [tx_len, tx_len]; omega), ?_⟩
      rw [tx_app]
      refine ⟨_, rfl, _, tx [x], rfl, rfl, small (by rw [tx_len, tx_len, List.length_append]; show _ + _ + 1 ≤ 1000; omega), ?_⟩
      rw [tx_app]
      refine ⟨(by show 3 ≤ sizeLine; decide), fun p np => q p _ (s1.trans (s2.trans (same_new np _))) ?_⟩
      rw [upd_same]
      show some (HO.tup [vt ([x] ++ tl.pre ++ tr.pre), vt (tl.mid ++ [x] ++ tr.mid), vt (tl.post ++ tr.post ++ [x])]) = some (HO.tup [vt (x :: (tl.pre ++ tr.pre)), vt (tl.mid ++ x :: tr.mid), vt (tl.post ++ tr.post ++ [x])])
      rw [List.append_assoc tl.mid]
      rfl
theorem ok_hidden (F : Fun K "_law_hidden" "_law_hidden" s__law_hidden f fd) (M : Mgs mg) (D_law_draw : Df P w K mg base 1 "_law_draw" ["_law_deck_here", "_law_many"] spDraw) : FnOk P w K mg base CX0 2 f fd ["_law_deck_here", "_law_row"] spHid := by
  refine F.ok sc__law_hidden (fun vs H Q E h => ?_) (fun cdv A outer s H vs Q E hr h => ?_)
  · obtain ⟨D, n, r, rfl, _⟩ := h
    rfl
  obtain ⟨D, n, r, rfl, d, hn, ok, q⟩ := h
  have r0 : 0 < r.length := List.length_pos_iff.mpr ok.ne
  have r12 := ok.few
  refine ⟨_, (pss_cons (ps_set (i := 2) sc__law_hidden.nd rfl (.inl rfl) (pe_call D_law_draw.ok (hr.mono (by omega)) rfl D_law_draw.g D_law_draw.kp D_law_draw.b .nil pass0 (pa_cons (pv 0) (pa_cons pe_int pa_nil))))
    (pss_cons (ps_if (pt_cmpR op_eq (pv 2) pe_int (nomark _))
      (pss_one (ps_ret (pv 1))) pss_nil)
    (pss_cons (ps_if (pt_cmpR op_eq (pv 2) pe_int (nomark _))
      (pss_one (ps_ret (pe_op op_timesS pe_str (pe_callB call_len_str rfl M.len PySem.boot_len (pa_cons (pv 1) pa_nil))))) pss_nil)
    (pss_one (ps_ret (pe_bm PySem.F.plainAttrs_str PySem.F.slot_str_join PySem.F.type_str_join mt_join pe_str (pa_cons (pe_lc (own := [("_law_sign", 3)]) (g := gName 3) (tt := tYes) rfl sc__law_hidden.nd (pi_str (pv 1)) (blkOk_by (N := ["_law_deck_here", "_law_row", "_law_way", "_law_sign"]) (sc := defScope s__law_hidden) (by decide +kernel)) (fun _ _ _ _ _ => (pg_name (i := 3) sc__law_hidden.nd rfl (.inl rfl))) (fun _ _ _ _ _ => pts_nil) (fun _ _ _ _ _ => (pe_ix (show IxR _ (rIxL K) from ix_list) (pe_lst (pa_cons (pv 3) (pa_cons pe_str pa_nil))) (pe_callTy call_int1 rfl M.int (by decide +kernel) (pa_cons (pe_cmpR op_eq (pe_call D_law_draw.ok (hr.mono (by omega)) rfl D_law_draw.g D_law_draw.kp D_law_draw.b .nil pass0 (pa_cons (pv 0) (pa_cons pe_int pa_nil))) pe_int (nomark _)) pa_nil)) (fun _ _ => rfl)))) pa_nil))))))), ?_⟩
  refine ⟨_, rfl, D, n, _, rfl, d, by omega, by decide, by decide, fun i H1 i0 i1 d1 s1 => ?_⟩
  refine ⟨_, rfl, rfl, _, rfl, ite2 (fun _ => ?_) (fun _ => ?_)⟩
  · exact ⟨_, rfl, q r (n + 1) H1 (by omega) (by omega) d1 s1 ok rfl⟩
  refine ⟨_, rfl, rfl, _, rfl, ite2 (fun _ => ?_) (fun _ => ?_)⟩
  · refine ⟨_, rfl, _, rfl, small (by rw [tx_len]; omega), 63, r.length, ?_, rfl, by omega, by omega, ?_⟩
    · rw [str_q]; rfl
    · exact q (List.replicate r.length 63) (n + 1) H1 (by omega) (by omega) d1 s1 ⟨by intro e; have := congrArg List.length e; rw [List.length_replicate] at this; exact absurd this (by show ¬ (r.length = 0); omega), by rw [List.length_replicate]; exact r12, fun c hc => .inl (List.eq_of_mem_replicate hc)⟩ List.length_replicate
  refine ⟨rfl, _, rfl, _, rfl, fun L nL => ?_⟩
  have nLH : H L = none := s1.free d1 nL
  refine lc_text (x := tx r) (fun j H' => ∃ xs : List Nat, xs.length = j ∧ DeckOk H' D (n + 1 + j) ∧ SameD D H H' ∧ H' L = some (.lst (xs.map vc)) ∧ Off D L ∧ ∀ c ∈ xs, sgn c) ⟨[], rfl, d1.same (same_new nL _), s1.put nLH _, upd_same, d1.new nL, fun c h => nomatch h⟩ (fun j c H' hc hp => ?_) (fun H4 hp => ?_)
  · obtain ⟨xs, hx, d4, s5, eL, oL, lo⟩ := hp
    have hc : r[j]? = some c := hc
    have hj := (List.getElem?_eq_some_iff.mp hc).1
    have sg := ok.all c (List.mem_of_getElem? hc)
    refine ⟨rfl, kept ?_⟩
    refine ⟨_, rfl, (by show 2 ≤ sizeLine; decide), fun p np => ?_⟩
    have kp := same_new np (.lst [vc c, V.str (Str.ofString "?")])
    have ep := upd_same (H := H') (a := p) (o := .lst [vc c, V.str (Str.ofString "?")])
    have op := d4.new np
    have eL2 := kp _ _ eL
    have d5 := d4.same kp
    have s6 := s5.trans (SameD.of kp)
    generalize upd H' p (.lst [vc c, V.str (Str.ofString "?")]) = H5 at ep eL2 d5 s6
    refine ⟨_, rfl, D, n + 1 + j, _, rfl, d5, by omega, by decide, by decide, fun i9 H6 i90 i91 d6 s7 => ?_⟩
    have out : ∀ e : Nat, sgn e → ∃ acc, H6 L = some (.lst acc) ∧ acc.length < sizeLine ∧ (∃ xs : List Nat, xs.length = j + 1 ∧ DeckOk (upd H6 L (.lst (acc ++ [vc e]))) D (n + 1 + (j + 1)) ∧ SameD D H (upd H6 L (.lst (acc ++ [vc e]))) ∧ upd H6 L (.lst (acc ++ [vc e])) L = some (.lst (xs.map vc)) ∧ Off D L ∧ ∀ c ∈ xs, sgn c) := fun e he => by
      refine ⟨_, s7.at oL eL2, ?_, xs ++ [e], by rw [List.length_append, hx]; rfl, d6.put oL _, (s6.trans s7).put nLH _, by rw [upd_same, List.map_append]; rfl, oL, fun c hc => ?_⟩
      · rw [List.length_map]; exact small1000 (by omega)
      · rcases List.mem_append.mp hc with hc | hc
        · exact lo c hc
        · rw [List.mem_singleton.mp hc]; exact he
    refine ⟨rfl, .inr ⟨_, rfl, ?_⟩⟩
    by_cases hb : i9 = 0
    · rw [show (if decide (V.int i9 = V.int 0) = true then (1 : Int) else 0) = 1 by rw [hb]; rfl]
      refine ⟨p, _, 1, V.str (Str.ofString "?"), rfl, rfl, SqL.of (s7.at op ep), atI_nat (j := 1) rfl, ?_⟩
      rw [str_q]
      exact out 63 (.inl rfl)
    · rw [show (if decide (V.int i9 = V.int 0) = true then (1 : Int) else 0) = 0 by rw [decide_eq_false (fun z => hb (V.int.inj z))]; rfl]
      exact ⟨p, _, 0, vc c, rfl, rfl, SqL.of (s7.at op ep), atI_nat (j := 0) rfl, out c sg⟩
  obtain ⟨xs, hx, d4, s5, eL, oL, lo⟩ := hp
  have hx : xs.length = r.length := hx
  have eL2 : H4 L = some (.lst ((xs.map ch).map V.str)) := by rw [eL, map_vc]
  refine ⟨_, L, xs.map ch, rfl, rfl, .inl (SqL.of eL2), tx_joinOk _ (by omega), ?_⟩
  rw [tx_join]
  exact q xs (n + 1 + r.length) H4 (by omega) (by omega) d4 s5 ⟨fun e => by rw [e] at hx; exact absurd hx (by show ¬ (0 = r.length); omega), by omega, lo⟩ hx
end
/-! ### _law_rows, _law_is_like -/
def spLRows : Sp := fun vs H Q _ => ∃ (D : Deck) (n m : Nat), vs = [.ref D.dk, .int (m : Int)] ∧ DeckOk H D n ∧ n + 200 < 1000000 ∧ 0 < m ∧ m ≤ 12 ∧
  ∀ (p : Addr) (a b c : List Nat) (e : Nat) (H' : Hp), n ≤ e → e ≤ n + 110 → DeckOk H' D e → SameD D H H' → H' p = some (.tup [vt a, vt b, vt c]) → RowOk a → RowOk b → RowOk c → b.length = a.length → c.length = a.length → a.length ≤ m → Q (.ref p) H'
def spLike : Sp := fun vs H Q _ => ∃ r x : List Nat, vs = [vt r, vt x] ∧ r.length ≤ 12 ∧ x.length ≤ 30 ∧ ∀ H', Same H H' → Q (.bl (decide (r.length = x.length) && fit r x)) H'
theorem DeckOk.of_tup {H : Hp} {D : Deck} {n : Nat} {p : Addr} {xs : List V} (d : DeckOk H D n) (e : H p = some (.tup xs)) : Off D p := by
  obtain ⟨c, r, h1, h2, h3, _⟩ := d.ex
  refine ⟨fun z => ?_, fun z => ?_, fun z => ?_⟩
  · rw [z, h1] at e
    cases e
  · rw [z, h2] at e
    cases e
  · rw [z, h3] at e
    cases e
theorem B.post_mem (t : B) (c : Nat) : c ∈ t.post ↔ c ∈ t.pre := by
  induction t with
  | nil => exact Iff.rfl
  | node l x r h1 h2 =>
    show c ∈ l.post ++ r.post ++ [x] ↔ c ∈ x :: (l.pre ++ r.pre)
    rw [List.mem_append, List.mem_append, List.mem_singleton, List.mem_cons, List.mem_append, h1, h2]
    constructor
    · rintro ((h | h) | h)
      · exact .inr (.inl h)
      · exact .inr (.inr h)
      · exact .inl h
    · rintro (h | h | h)
      · exact .inr h
      · exact .inl (.inl h)
      · exact .inl (.inr h)
theorem wk_row {t : B} (lo : lowT t) (ne : t ≠ .nil) (h : t.size ≤ 12) (k : Kd) : RowOk (t.wk k) ∧ (t.wk k).length = t.size := by
  have l := t.wk_len k
  have s0 : 0 < t.size := by
    cases t with
    | nil => exact absurd rfl ne
    | node a x b => show 0 < a.size + 1 + b.size; omega
  refine ⟨⟨fun e => by rw [e] at l; exact absurd l (by show ¬ (0 = t.size); omega), by omega, fun c hc => .inr (lo c ?_)⟩, l⟩
  cases k
  · exact hc
  · exact (t.mid_mem c).mp hc
  · exact (t.post_mem c).mp hc
theorem wk_at {t : B} {i : Nat} {x : V} (h : [vt t.pre, vt t.mid, vt t.post][i]? = some x) : ∃ k : Kd, x = vt (t.wk k) := by
  match i, h with
  | 0, h => cases h; exact ⟨.first, rfl⟩
  | 1, h => cases h; exact ⟨.between, rfl⟩
  | 2, h => cases h; exact ⟨.last, rfl⟩
theorem abzq {y : Nat} (h : y < 4) : ∃ c, atI (Str.ofString "abz?").cps.toList (y : Int) = some c ∧ sgn c := by
  have e : (Str.ofString "abz?").cps.toList = [97, 98, 122, 63] := by decide +kernel
  rw [e]
  have h4 : y = 0 ∨ y = 1 ∨ y = 2 ∨ y = 3 := by omega
  rcases h4 with rfl | rfl | rfl | rfl
  · exact ⟨97, rfl, .inr (by decide)⟩
  · exact ⟨98, rfl, .inr (by decide)⟩
  · exact ⟨122, rfl, .inr (by decide)⟩
  · exact ⟨63, rfl, .inl rfl⟩
theorem row_put {r : List Nat} {s c : Nat} (ok : RowOk r) (h : s < r.length) (hc : sgn c) : RowOk (r.take s ++ [c] ++ r.drop (s + 1)) ∧ (r.take s ++ [c] ++ r.drop (s + 1)).length = r.length := by
  have l : (r.take s ++ [c] ++ r.drop (s + 1)).length = r.length := by
    rw [List.length_append, List.length_append, List.length_take, List.length_drop]
    show min s r.length + 1 + (r.length - (s + 1)) = r.length
    omega
  have few := ok.few
  refine ⟨⟨fun e => by rw [e] at l; exact absurd l (by show ¬ (0 = r.length); omega), by omega, fun d hd => ?_⟩, l⟩
  rcases List.mem_append.mp hd with hd | hd
  · rcases List.mem_append.mp hd with hd | hd
    · exact ok.all d (List.mem_of_mem_take hd)
    · rw [List.mem_singleton.mp hd]; exact hc
  · exact ok.all d (List.mem_of_mem_drop hd)
section
variable {P : Program} {w : World} {K : PySem.W.Frag} {mg : Str → Option Value} {base : Heap} {f : Addr} {fd : FuncData}
theorem ok_lrows (F : Fun K "_law_rows" "_law_rows" s__law_rows f fd) (M : Mgs mg) (D_law_draw : Df P w K mg base 1 "_law_draw" ["_law_deck_here", "_law_many"] spDraw) (D_law_tree : Df P w K mg base 52 "_law_tree" ["_law_deck_here", "_law_most"] spTree)
    (D_law_walks : Df P w K mg base 21 "_law_walks" ["_law_tree_here"] (spLWalks 21)) (D_law_hidden : Df P w K mg base 2 "_law_hidden" ["_law_deck_here", "_law_row"] spHid) : FnOk P w K mg base CX0 53 f fd ["_law_deck_here", "_law_most"] spLRows := by
  refine F.ok sc__law_rows (fun vs H Q E h => ?_) (fun cdv A outer s H vs Q E hr h => ?_)
  · obtain ⟨D, n, m, rfl, _⟩ := h
    rfl
  obtain ⟨D, n, m, rfl, d, hn, m0, m12, q⟩ := h
  refine ⟨_, (pss_cons (ps_setLc (i := 3) (own := [("_law_row", 2)]) (g := gName 2) (tt := tYes) (by rfl) sc__law_rows.nd rfl rfl (sw_true rfl rfl rfl (by decide +kernel)) (pi_tup (pe_call D_law_walks.ok (hr.mono (by omega)) rfl D_law_walks.g D_law_walks.kp D_law_walks.b .nil pass0 (pa_cons (pe_call D_law_tree.ok (hr.mono (by omega)) rfl D_law_tree.g D_law_tree.kp D_law_tree.b .nil pass0 (pa_cons (pv 0) (pa_cons (pv 1) pa_nil))) pa_nil))) (blkOk_by (N := ["_law_deck_here", "_law_most", "_law_row", "_law_rows_here", "_law_which", "_law_spot"]) (sc := defScope s__law_rows) (by decide +kernel)) (fun _ _ _ _ _ => (pg_name (i := 2) sc__law_rows.nd rfl (.inl rfl))) (fun _ _ _ _ _ => pts_nil) (fun _ _ _ _ _ => (pe_call D_law_hidden.ok (hr.mono (by omega)) rfl D_law_hidden.g D_law_hidden.kp D_law_hidden.b .nil pass0 (pa_cons (pv 0) (pa_cons (pv 2) pa_nil)))))
    (pss_cons (ps_if (pt_cmpR op_eq (pe_call D_law_draw.ok (hr.mono (by omega)) rfl D_law_draw.g D_law_draw.kp D_law_draw.b .nil pass0 (pa_cons (pv 0) (pa_cons pe_int pa_nil))) pe_int (nomark _))
      (pss_cons (ps_par (i := 4) (j := 5) (by rfl) sc__law_rows.nd rfl rfl (by decide) rfl rfl (pa_cons (pe_call D_law_draw.ok (hr.mono (by omega)) rfl D_law_draw.g D_law_draw.kp D_law_draw.b .nil pass0 (pa_cons (pv 0) (pa_cons pe_int pa_nil))) (pa_cons (pe_call D_law_draw.ok (hr.mono (by omega)) rfl D_law_draw.g D_law_draw.kp D_law_draw.b .nil pass0 (pa_cons (pv 0) (pa_cons (pe_callB call_len_str rfl M.len PySem.boot_len (pa_cons (pe_ix ix_list (pv 3) pe_int (fun _ _ => rfl)) pa_nil)) pa_nil))) pa_nil)) (by rfl))
    (pss_one (ps_asg (pe_op op_add_str (pe_op op_add_str (pe_slice sl_str (pe_ix ix_list (pv 3) (pv 4) (fun _ _ => rfl)) po_none (po_some (pv 5))) (pe_ix ix_str pe_str (pe_call D_law_draw.ok (hr.mono (by omega)) rfl D_law_draw.g D_law_draw.kp D_law_draw.b .nil pass0 (pa_cons (pv 0) (pa_cons pe_int pa_nil))) (fun _ _ => rfl))) (pe_slice sl_str (pe_ix ix_list (pv 3) (pv 4) (fun _ _ => rfl)) (po_some (pe_op op_add (pv 5) pe_int)) po_none)) (pg_sub (pv 3) (pv 4) set_list)))) pss_nil)
    (pss_one (ps_ret (pe_tup (pa_cons (pe_ix ix_list (pv 3) pe_int (fun _ _ => rfl)) (pa_cons (pe_ix ix_list (pv 3) pe_int (fun _ _ => rfl)) (pa_cons (pe_ix ix_list (pv 3) pe_int (fun _ _ => rfl)) pa_nil)))))))), ?_⟩
  refine ⟨_, rfl, _, rfl, D, n, m, rfl, d, by omega, m0, m12, fun u t c H1 c0 c1 d1 s1 hb tne tz lo => ?_⟩
  refine ⟨u, t, rfl, hb, by omega, by omega, fun p H2 s2 ep => ?_⟩
  refine ⟨p, rfl, ⟨_, SqT.of ep⟩, fun L nL => ?_⟩
  have d2 := d1.same s2
  have s3 := s1.trans (SameD.of s2)
  have nLH : H L = none := s3.free d2 nL
  have op := d2.of_tup ep
  refine lc_tup (K := K) (a := p) (xs := [vt t.pre, vt t.mid, vt t.post]) (fun j H' => ∃ (xs : List (List Nat)) (e : Nat), xs.length = j ∧ c ≤ e ∧ e ≤ c + 13 * j ∧ DeckOk H' D e ∧ SameD D H H' ∧ H' p = some (.tup [vt t.pre, vt t.mid, vt t.post]) ∧ H' L = some (.lst (xs.map vt)) ∧ Off D L ∧ ∀ x ∈ xs, RowOk x ∧ x.length = t.size)
    ⟨[], c, rfl, by omega, by omega, d2.same (same_new nL _), s3.put nLH _, (same_new nL _) _ _ ep, upd_same, d2.new nL, fun c h => nomatch h⟩ (fun j H' _ hp => by obtain ⟨_, _, _, _, _, _, _, e, _⟩ := hp; exact SqT.of e) (fun j x H' hx hp => ?_) (fun H4 hp => ?_)
  · obtain ⟨xs, e, hl, e0, e1, d4, s4, ep4, eL, oL, all⟩ := hp
    obtain ⟨k, rfl⟩ := wk_at hx
    obtain ⟨rk, rl⟩ := wk_row lo tne (by omega) k
    have j3 : j < 3 := (List.getElem?_eq_some_iff.mp hx).1
    refine ⟨rfl, kept ?_⟩
    refine ⟨_, rfl, _, rfl, D, e, _, rfl, d4, by omega, rk, fun z e' H5 e2 e3 d5 s5 okz lz => ?_⟩
    refine ⟨_, s5.at oL eL, ?_, xs ++ [z], e', by rw [List.length_append, hl]; rfl, by omega, by omega, d5.put oL _, (s4.trans s5).put nLH _, ?_, by rw [upd_same, List.map_append]; rfl, oL, fun y hy => ?_⟩
    · rw [List.length_map]; exact small1000 (by omega)
    · rw [upd_ne (fun z => by rw [z] at ep4; rw [eL] at ep4; cases ep4)]
      exact s5.at op ep4
    · rcases List.mem_append.mp hy with hy | hy
      · exact all y hy
      · rw [List.mem_singleton.mp hy]
        exact ⟨okz, by rw [lz, rl]⟩
  obtain ⟨xs, e, hl, e0, e1, d4, s4, ep4, eL, oL, all⟩ := hp
  obtain ⟨x0, x1, x2, rfl⟩ : ∃ x0 x1 x2, xs = [x0, x1, x2] := by
    match xs, hl with
    | [x0, x1, x2], _ => exact ⟨_, _, _, rfl⟩
  have e1' : e ≤ c + 39 := e1
  refine ⟨_, rfl, D, e, _, rfl, d4, by omega, by decide, by decide, fun i H5 i0 i1 d5 s5 => ⟨rfl, _, rfl, ?_⟩⟩
  have eL5 := s5.at oL eL
  have s6 := s4.trans s5
  have a0 := all x0 List.mem_cons_self
  have a1 := all x1 (List.mem_cons_of_mem _ List.mem_cons_self)
  have a2 := all x2 (List.mem_cons_of_mem _ (List.mem_cons_of_mem _ List.mem_cons_self))
  have t0 : 0 < t.size := by rw [← a0.2]; exact List.length_pos_iff.mpr a0.1.ne
  refine ite2 (fun _ => ?_) (fun _ => ?_)
  · refine ⟨_, rfl, D, e + 1, _, rfl, d5, by omega, by decide, by decide, fun w1 H6 w10 w11 d6 s7 => ?_⟩
    have eL6 := s7.at oL eL5
    refine ⟨_, rfl, _, rfl, L, _, _, _, rfl, rfl, SqL.of eL6, atI_nat (j := 0) rfl, _, rfl, small (by rw [tx_len, a0.2]; omega), D, e + 2, _, rfl, d6, by omega, by rw [tx_len, a0.2]; omega, by rw [tx_len, a0.2]; omega, fun w2 H7 w20 w21 d7 s8 => ⟨_, _, rfl, ?_⟩⟩
    rw [tx_len, a0.2] at w21
    have eL7 := s8.at oL eL6
    obtain ⟨j, rfl⟩ : ∃ j : Nat, w1 = (j : Int) := ⟨w1.toNat, by omega⟩
    obtain ⟨k, rfl⟩ : ∃ k : Nat, w2 = (k : Int) := ⟨w2.toNat, by omega⟩
    obtain ⟨xj, hj⟩ : ∃ xj, [x0, x1, x2][j]? = some xj := ⟨_, List.getElem?_eq_getElem (show j < 3 by omega)⟩
    have oj := all xj (List.mem_of_getElem? hj)
    have lj : (tx xj).length ≤ sizeLine := small (by rw [tx_len, oj.2]; omega)
    have hat : atI ([x0, x1, x2].map vt) (j : Int) = some (vt xj) := atI_nat (by rw [List.getElem?_map, hj]; rfl)
    refine ⟨_, rfl, _, rfl, L, _, _, _, rfl, rfl, SqL.of eL7, hat, ?_⟩
    refine ⟨_, rfl, (k : Int), rfl, _, rfl, lj, ?_⟩
    rw [tx_to]
    refine ⟨_, rfl, D, e + 3, _, rfl, d7, by omega, by decide, by decide, fun w3 H8 w30 w31 d8 s9 => ?_⟩
    obtain ⟨y, rfl⟩ : ∃ y : Nat, w3 = (y : Int) := ⟨w3.toNat, by omega⟩
    obtain ⟨cc, hcc, hsg⟩ := abzq (show y < 4 by omega)
    refine ⟨_, _, _, rfl, rfl, (by decide +kernel), hcc, ?_⟩
    refine ⟨_, tx [cc], rfl, rfl, small (by rw [tx_len, tx_len, List.length_take]; show _ + 1 ≤ 1000; omega), ?_⟩
    rw [tx_app]
    have eL8 := s9.at oL eL7
    refine ⟨_, rfl, _, rfl, L, _, _, _, rfl, rfl, SqL.of eL8, hat, ?_⟩
    refine ⟨_, rfl, _, _, rfl, rfl, ((k + 1 : Nat) : Int), rfl, _, rfl, lj, ?_⟩
    rw [tx_from]
    refine ⟨_, _, rfl, rfl, small (by rw [tx_len, tx_len, List.length_append, List.length_take, List.length_drop]; show _ + 1 + _ ≤ 1000; omega), ?_⟩
    rw [tx_app]
    have row := row_put oj.1 (s := k) (c := cc) (by rw [oj.2]; omega) hsg
    refine ⟨_, rfl, _, rfl, L, _, _, j, rfl, rfl, eL8, ?_, ?_⟩
    · exact (ixN_nat (n := 3) (i := (j : Int)) (by omega) (by omega)).trans (by rw [Int.toNat_natCast])
    obtain ⟨y0, y1, y2, ey, ally⟩ : ∃ y0 y1 y2, ([x0, x1, x2].map vt).set j (vt (xj.take k ++ [cc] ++ xj.drop (k + 1))) = [vt y0, vt y1, vt y2] ∧ ∀ x ∈ [y0, y1, y2], RowOk x ∧ x.length = t.size := by
      have rw' := row.2.trans oj.2
      have h3 : j = 0 ∨ j = 1 ∨ j = 2 := by omega
      rcases h3 with rfl | rfl | rfl
      · refine ⟨_, x1, x2, rfl, fun x hx => ?_⟩
        rcases List.mem_cons.mp hx with rfl | hx
        · exact ⟨row.1, rw'⟩
        · exact all x (List.mem_cons_of_mem _ hx)
      · refine ⟨x0, _, x2, rfl, fun x hx => ?_⟩
        rcases List.mem_cons.mp hx with rfl | hx
        · exact a0
        rcases List.mem_cons.mp hx with rfl | hx
        · exact ⟨row.1, rw'⟩
        · rw [List.mem_singleton.mp hx]; exact a2
      · refine ⟨x0, x1, _, rfl, fun x hx => ?_⟩
        rcases List.mem_cons.mp hx with rfl | hx
        · exact a0
        rcases List.mem_cons.mp hx with rfl | hx
        · exact a1
        · rw [List.mem_singleton.mp hx]; exact ⟨row.1, rw'⟩
    have b0 := ally y0 List.mem_cons_self
    have b1 := ally y1 (List.mem_cons_of_mem _ List.mem_cons_self)
    have b2 := ally y2 (List.mem_cons_of_mem _ (List.mem_cons_of_mem _ List.mem_cons_self))
    have sE := ((s6.trans s7).trans (s8.trans s9)).put nLH (.lst (([x0, x1, x2].map vt).set j (vt (xj.take k ++ [cc] ++ xj.drop (k + 1)))))
    have dE := d8.put oL (.lst (([x0, x1, x2].map vt).set j (vt (xj.take k ++ [cc] ++ xj.drop (k + 1)))))
    have ez : (upd H8 L (.lst (([x0, x1, x2].map vt).set j (vt (xj.take k ++ [cc] ++ xj.drop (k + 1)))))) L = some (.lst [vt y0, vt y1, vt y2]) := by rw [upd_same, ey]
    refine ⟨_, rfl, L, _, _, _, rfl, rfl, SqL.of ez, atI_nat (j := 0) rfl, _, rfl, L, _, _, _, rfl, rfl, SqL.of ez, atI_nat (j := 1) rfl, _, rfl, L, _, _, _, rfl, rfl, SqL.of ez, atI_nat (j := 2) rfl, (by show 3 ≤ sizeLine; decide), fun z nz => ?_⟩
    exact q z y0 y1 y2 (e + 3 + 1) _ (by omega) (by omega) (dE.same (same_new nz _)) (sE.trans (SameD.of (same_new nz _))) upd_same b0.1 b1.1 b2.1 (by rw [b0.2, b1.2]) (by rw [b0.2, b2.2]) (by rw [b0.2]; omega)
  · refine ⟨_, rfl, L, _, _, _, rfl, rfl, SqL.of eL5, atI_nat (j := 0) rfl, _, rfl, L, _, _, _, rfl, rfl, SqL.of eL5, atI_nat (j := 1) rfl, _, rfl, L, _, _, _, rfl, rfl, SqL.of eL5, atI_nat (j := 2) rfl, (by show 3 ≤ sizeLine; decide), fun z nz => ?_⟩
    exact q z x0 x1 x2 (e + 1) _ (by omega) (by omega) (d5.same (same_new nz _)) (s6.trans (SameD.of (same_new nz _))) upd_same a0.1 a1.1 a2.1 (by rw [a0.2, a1.2]) (by rw [a0.2, a2.2]) (by rw [a0.2]; omega)
end
/-! ### a token at a def's start; common_letters -/
section
variable {X : Cx}
/-- a name is set to what wants a token -/
theorem pst_setT {i : Nat} {x : Str} {e : Expr} {te : TE} {pos pos' : Pos} (hN : X.N.Nodup) (hi : X.N[i]? = some x) (hx : Loc X.env.scope x) (he : PET X e te) (hs : swapsWith e (some (.Name x pos')) pos.line X.env = pure false := by rfl)
    (hf : X.fn x = true ∨ X.env.scope.names.lookup x = some .local := by first | exact .inl rfl | exact .inr rfl) : PST X (.Assign [.Name x pos'] e pos) (tAsg te (gName i)) := by
  intro pins s σ H D tk I h
  refine wpAny_Assign_Name ?_ hs
  refine thn (he pins s σ H _ tk I h) fun v s1 q => ?_
  obtain ⟨y, G, J, r, q⟩ := q
  exact store_ok J hN hi hx r (fun z K => ⟨_, G, K, q⟩) hf
end
section
variable {X : Cx}
theorem PSsT.nox {st : List Stmt} {t : TS} (h : PSsT X.nox st t) : PSsT X st t := fun pins s σ H D r0 I q =>
  wpAny_mono (h pins s σ H D r0 (I.wish _) q) (fun _ _ w => w.unwish) fun _ _ w => w.elim
end
/-- a def without cells whose body wants a token out: its parameters gave one -/
theorem Fun.okT {P : Program} {w : World} {K : PySem.W.Frag} {mg : Str → Option Value} {base : Heap} {x qual : Str} {st : Stmt} {f : Addr} {fd : FuncData} {N ps : List Str} {k : Nat} {sp : Sp} (F : Fun K x qual st f fd) (S : FnScope N ps (defScope st))
    (noCell : ∀ y ∈ (defScope st).names, y.2 ≠ .cell) (one : 1 ≤ ps.length) (len : ∀ vs H Q E, sp vs H Q E → vs.length = ps.length)
    (body : ∀ (cdv : Value) (A : Around) (outer : List Env) (s : Shared) (H : Hp) (vs : List V) (Q : VK) (E : XK), Room k (A.deeper (envOfC qual (defScope st) s.heap.objs.size f cdv)) → sp vs H Q E →
      ∃ t, PSsT (cxOf CX0 P w K mg base N qual (defScope st) f cdv A outer s H E).nox (defBody st) t ∧ t { nx := fun _ H' => Q .non H', rt := Q } (start N vs) H) : FnOk P w K mg base CX0 (k + 1) f fd ps sp := by
  obtain ⟨oc, od, kV, doc, pm, an, cdv, ct, osl, e, look, code⟩ := F.ex
  subst e
  refine fn_ofT look code S noCell one len fun A outer s H vs Q E room q => ?_
  obtain ⟨t, rule, read⟩ := body cdv A outer s H vs Q E room q
  exact ⟨t, PSsT.nox rule, read⟩
/-! ### the letters that three signs allow -/
def alph : List Nat := (List.range 26).map (· + 97)
theorem str_al : Str.ofString "abcdefghijklmnopqrstuvwxyz" = tx alph := by decide +kernel
def knownL (l : List Nat) : List Nat := l.filter fun c => decide (c ≠ 63)
def comm (l : List Nat) : List Nat := match knownL l with
  | [] => alph
  | c :: r => if c :: r = List.replicate (r.length + 1) c then [c] else []
theorem repl_del (a : Nat) : ∀ l : List Nat, PySem.StrLaws.replL [a] [] l = l.filter fun c => decide (c ≠ a)
  | [] => by rw [PySem.StrLaws.replL_nil]; rfl
  | c :: r => by
    by_cases h : c = a
    · subst h
      rw [PySem.StrLaws.replL_hit (by simp) rfl]
      show [] ++ PySem.StrLaws.replL [c] [] r = _
      rw [List.nil_append, repl_del c r, List.filter_cons_of_neg (by simp)]
    · rw [PySem.StrLaws.replL_miss (by show ¬ [c] = [a]; exact fun z => h (List.cons.inj z).1), repl_del a r, List.filter_cons_of_pos (by simpa using h)]
theorem del_tx (a : Nat) (l : List Nat) : Txt.replace (tx l) (ch a) (tx []) = tx (l.filter fun c => decide (c ≠ a)) := by
  refine TL.ext_tl ?_
  show (Txt.replace (tx l) (ch a) (tx [])).cps.toList = _
  rw [PySem.StrLaws.replace_list (show 1 ≤ (ch a).length from Nat.le_refl _)]
  exact repl_del a l
def spComm : Sp := fun vs H Q _ => ∃ l : List Nat, vs = [vt l] ∧ l.length ≤ 100 ∧ Q (vt (comm l)) H
section
variable {P : Program} {w : World} {K : PySem.W.Frag} {mg : Str → Option Value} {base : Heap} {f : Addr} {fd : FuncData}
theorem ok_comm {k : Nat} {tL : Tok} (F : Fun K "common_letters" "common_letters" s_common_letters f fd) (M : Mgs mg) (mLET : mg "LETTERS" = some (.str "abcdefghijklmnopqrstuvwxyz" tL)) : FnOk P w K mg base CX0 (k + 1) f fd ["signs"] spComm := by
  refine Tw.Fun.okT F sc_common_letters (by decide +kernel) (by decide) (fun vs H Q E h => ?_) (fun cdv A outer s H vs Q E hr h => ?_)
  · obtain ⟨l, rfl, _⟩ := h
    rfl
  obtain ⟨l, rfl, hl, q⟩ := h
  refine ⟨_, (psst_cons (pst_setT (i := 1) sc_common_letters.nd rfl (.inl rfl) (CwR.pet_replC (pv 0)))
    (PSsT.of (pss_cons (ps_if (pt_cmpR op_eq (pv 1) pe_str (nomark _))
      (pss_one (ps_ret (pe_glob (v := .str _) rfl mLET ⟨_, rfl⟩))) pss_nil)
    (pss_one (ps_ret (pe_ifExp (pt_cmpR op_eq (pv 1) (pe_op op_timesS (pe_ix ix_str (pv 1) pe_int (fun _ _ => rfl)) (pe_callB call_len_str rfl M.len PySem.boot_len (pa_cons (pv 1) pa_nil))) (nomark _)) (pe_ix ix_str (pv 1) pe_int (fun _ _ => rfl)) pe_str)))))), ?_⟩
  refine ⟨_, rfl, tx l, rfl, ?_, ?_⟩
  · rw [str_0, tx_len]; show l.length + (l.length + 1) * 0 ≤ 16777216; omega
  rw [str_0, str_q, del_tx]
  show tSeq _ _ _ [_, some (vt (knownL l))] H
  have kl : (knownL l).length ≤ l.length := List.length_filter_le _ _
  unfold comm at q
  cases hk : knownL l with
  | nil =>
    rw [hk] at q
    have q : Q (vt alph) H := q
    refine ⟨_, rfl, rfl, _, rfl, iteS rfl ?_⟩
    show Q (V.str (Str.ofString "abcdefghijklmnopqrstuvwxyz")) H
    rw [str_al]
    exact q
  | cons c r =>
    rw [hk] at q kl
    have q : Q (vt (if c :: r = List.replicate (r.length + 1) c then [c] else [])) H := q
    have kl' : r.length + 1 ≤ l.length := kl
    refine ⟨_, rfl, rfl, _, rfl, iteR (fun z => List.cons_ne_nil _ _ (tx_inj z)) ?_⟩
    have lz : (tx (c :: r)).length ≤ sizeLine := small (by rw [tx_len, List.length_cons]; omega)
    refine ⟨_, rfl, _, rfl, _, _, _, rfl, rfl, lz, atI_nat (j := 0) rfl, _, rfl, _, rfl, lz, c, r.length + 1, rfl, rfl, by omega, by omega, rfl, _, rfl, ?_⟩
    by_cases h : c :: r = List.replicate (r.length + 1) c
    · rw [if_pos h] at q
      rw [decide_eq_true (show V.str (tx (c :: r)) = V.str (tx (List.replicate (r.length + 1) c)) from congrArg (fun z => V.str (tx z)) h)]
      exact iteT ⟨_, rfl, _, _, _, rfl, rfl, lz, atI_nat (j := 0) rfl, q⟩
    · rw [if_neg h] at q
      rw [decide_eq_false (fun z => h (tx_inj (V.str.inj z)))]
      exact iteF q
end
/-! ### allowed_splits -/
abbrev St4 := Nat × Nat × Nat × Nat
structure G3 where
  a : List Nat
  b : List Nat
  c : List Nat
abbrev Split := List Nat × St4 × St4
def stV (t : St4) : List V := [.int (t.1 : Int), .int (t.2.1 : Int), .int (t.2.2.1 : Int), .int (t.2.2.2 : Int)]
def leftS (t : St4) (s : Nat) : St4 := (s, t.2.1 + 1, t.2.2.1, t.2.2.2)
def rightS (t : St4) (s : Nat) : St4 := (t.1 - 1 - s, t.2.1 + 1 + s, t.2.2.1 + s + 1, t.2.2.2 + s)
def letS (G : G3) (t : St4) (s : Nat) : List Nat := comm [G.a.getD t.2.1 63, G.b.getD (t.2.2.1 + s) 63, G.c.getD (t.2.2.2 + t.1 - 1) 63]
def splAt (G : G3) (t : St4) (s : Nat) : List Split := if letS G t s = [] then [] else [(letS G t s, leftS t s, rightS t s)]
def spl (G : G3) (t : St4) : List Split := (List.range t.1).flatMap (splAt G t)
structure OkS (n : Nat) (t : St4) : Prop where
  i : t.2.1 + t.1 ≤ n
  j : t.2.2.1 + t.1 ≤ n
  k : t.2.2.2 + t.1 ≤ n
theorem OkS.left {n : Nat} {t : St4} (h : OkS n t) {s : Nat} (hs : s < t.1) : OkS n (leftS t s) := by
  obtain ⟨m, i, j, k⟩ := t
  obtain ⟨h1, h2, h3⟩ := h
  refine ⟨?_, ?_, ?_⟩ <;> simp only [leftS] at * <;> omega
theorem OkS.right {n : Nat} {t : St4} (h : OkS n t) {s : Nat} (hs : s < t.1) : OkS n (rightS t s) := by
  obtain ⟨m, i, j, k⟩ := t
  obtain ⟨h1, h2, h3⟩ := h
  refine ⟨?_, ?_, ?_⟩ <;> simp only [rightS] at * <;> omega
theorem spl_mem {G : G3} {t : St4} {x : Split} (h : x ∈ spl G t) : ∃ s, s < t.1 ∧ x.1 = letS G t s ∧ x.1 ≠ [] ∧ x.2.1 = leftS t s ∧ x.2.2 = rightS t s := by
  obtain ⟨s, hs, hx⟩ := List.mem_flatMap.mp h
  unfold splAt at hx
  split at hx
  · cases hx
  · next hn =>
    rw [List.mem_singleton.mp hx]
    exact ⟨s, List.mem_range.mp hs, rfl, hn, rfl, rfl⟩
theorem comm_len (l : List Nat) : (comm l).length ≤ 26 := by
  unfold comm
  split
  · decide
  · split
    · exact Nat.le_add_left _ _
    · exact Nat.zero_le _
inductive SpAt (H : Hp) : List V → List Split → Prop
  | nil : SpAt H [] []
  | cons {p l r : Addr} {x : Split} {us : List V} {xs : List Split} : H p = some (.tup [vt x.1, .ref l, .ref r]) → H l = some (.tup (stV x.2.1)) → H r = some (.tup (stV x.2.2)) → SpAt H us xs → SpAt H (.ref p :: us) (x :: xs)
theorem SpAt.keep {H H' : Hp} (k : KeepT H H') {us : List V} {xs : List Split} (h : SpAt H us xs) : SpAt H' us xs := by
  induction h with
  | nil => exact .nil
  | cons e1 e2 e3 _ ih => exact .cons (k _ _ e1) (k _ _ e2) (k _ _ e3) ih
theorem SpAt.app {H : Hp} {us vs : List V} {xs ys : List Split} (h : SpAt H us xs) (g : SpAt H vs ys) : SpAt H (us ++ vs) (xs ++ ys) := by
  induction h with
  | nil => exact g
  | cons e1 e2 e3 _ ih => exact .cons e1 e2 e3 ih
theorem SpAt.len {H : Hp} {us : List V} {xs : List Split} (h : SpAt H us xs) : us.length = xs.length := by
  induction h with
  | nil => rfl
  | cons _ _ _ _ ih => exact congrArg Nat.succ ih
theorem SpAt.get {H : Hp} {us : List V} {xs : List Split} (h : SpAt H us xs) : ∀ {i : Nat} {u : V}, us[i]? = some u → ∃ (p l r : Addr) (x : Split), u = .ref p ∧ xs[i]? = some x ∧ H p = some (.tup [vt x.1, .ref l, .ref r]) ∧ H l = some (.tup (stV x.2.1)) ∧ H r = some (.tup (stV x.2.2)) := by
  induction h with
  | nil => intro i u e; simp at e
  | cons e1 e2 e3 _ ih =>
    intro i u e
    match i, e with
    | 0, e => cases e; exact ⟨_, _, _, _, rfl, rfl, e1, e2, e3⟩
    | i + 1, e => exact ih e
theorem spl_len (G : G3) (t : St4) : ∀ s : Nat, ((List.range s).flatMap (splAt G t)).length ≤ s
  | 0 => Nat.le_refl _
  | s + 1 => by
    rw [List.range_succ, List.flatMap_append, List.length_append]
    have h := spl_len G t s
    have : ([s].flatMap (splAt G t)).length ≤ 1 := by
      show (splAt G t s ++ []).length ≤ 1
      rw [List.append_nil]
      unfold splAt
      split
      · exact Nat.zero_le _
      · exact Nat.le_refl _
    omega
theorem getD_at {l : List Nat} {i : Nat} (h : i < l.length) : atI l (i : Int) = some (l.getD i 63) := by
  rw [List.getD_eq_getElem?_getD, List.getElem?_eq_getElem h]
  exact atI_nat (List.getElem?_eq_getElem h)
def G3.tup (G : G3) : List V := [vt G.a, vt G.b, vt G.c]
structure G3.Ok (G : G3) (n : Nat) : Prop where
  a : G.a.length = n
  b : G.b.length = n
  c : G.c.length = n
  few : n ≤ 12
def spAllowed : Sp := fun vs H Q _ => ∃ (g t : Addr) (G : G3) (n : Nat) (st : St4), vs = [.ref g, .ref t] ∧ H g = some (.tup G.tup) ∧ G.Ok n ∧ H t = some (.tup (stV st)) ∧ OkS n st ∧
  ∀ (p : Addr) (us : List V) (H' : Hp), Same H H' → H p = none → H' p = some (.lst us) → SpAt H' us (spl G st) → Q (.ref p) H'
theorem same_none {H H' : Hp} (s : Same H H') {p : Addr} (h : H' p = none) : H p = none := by
  cases z : H p with
  | none => rfl
  | some o => rw [s _ _ z] at h; cases h
theorem same_put {H H' : Hp} (s : Same H H') {p : Addr} (h : H p = none) (o : HO) : Same H (upd H' p o) := fun b u e => by
  rw [upd_ne (fun z => by rw [z, h] at e; cases e)]
  exact s b u e
section
variable {P : Program} {w : World} {K : PySem.W.Frag} {mg : Str → Option Value} {base : Heap} {f : Addr} {fd : FuncData}
theorem ok_allowed (F : Fun K "allowed_splits" "allowed_splits" s_allowed_splits f fd) (M : Mgs mg) (Dcommon_letters : Df P w K mg base 1 "common_letters" ["signs"] spComm) : FnOk P w K mg base CX0 2 f fd ["given", "stretch"] spAllowed := by
  refine F.ok sc_allowed_splits (fun vs H Q E h => ?_) (fun cdv A outer s H vs Q E hr h => ?_)
  · obtain ⟨g, t, G, n, st, rfl, _⟩ := h
    rfl
  obtain ⟨g, t, G, n, ⟨m, i, j, k⟩, rfl, eg, gok, et, ⟨h1, h2, h3⟩, q⟩ := h
  have h1 : i + m ≤ n := h1
  have h2 : j + m ≤ n := h2
  have h3 : k + m ≤ n := h3
  have n12 := gok.few
  refine ⟨_, (pss_cons (ps_asg (pv 1) (pg_tup rfl (pgs_cons (pg_name (i := 2) sc_allowed_splits.nd rfl (.inl rfl)) (pgs_cons (pg_name (i := 3) sc_allowed_splits.nd rfl (.inl rfl)) (pgs_cons (pg_name (i := 4) sc_allowed_splits.nd rfl (.inl rfl)) (pgs_cons (pg_name (i := 5) sc_allowed_splits.nd rfl (.inl rfl)) pgs_nil))))))
    (pss_cons (ps_set (i := 6) sc_allowed_splits.nd rfl (.inl rfl) (pe_lst pa_nil))
    (pss_cons (ps_for PassesOwn.never rfl (pi_range1 rfl M.range (pa_cons (pv 2) pa_nil)) (pg_name (i := 7) sc_allowed_splits.nd rfl (.inl rfl))
      (pss_cons (ps_set (i := 8) sc_allowed_splits.nd rfl (.inl rfl) (pe_call Dcommon_letters.ok (hr.mono (by omega)) rfl Dcommon_letters.g Dcommon_letters.kp Dcommon_letters.b .nil pass0 (pa_cons (pe_op op_add_str (pe_op op_add_str (pe_ix ix_str (pe_ix ix_tup (pv 0) pe_int (fun _ _ => rfl)) (pv 3) (fun _ _ => rfl)) (pe_ix ix_str (pe_ix ix_tup (pv 0) pe_int (fun _ _ => rfl)) (pe_op op_add (pv 4) (pv 7)) (fun _ _ => rfl))) (pe_ix ix_str (pe_ix ix_tup (pv 0) pe_int (fun _ _ => rfl)) (pe_op op_sub (pe_op op_add (pv 5) (pv 2)) pe_int) (fun _ _ => rfl))) pa_nil)))
    (pss_one (ps_if (pt_truth (pv 8) (by intro _; rfl))
      (pss_cons (ps_set (i := 9) sc_allowed_splits.nd rfl (.inl rfl) (pe_tup (pa_cons (pv 7) (pa_cons (pe_op op_add (pv 3) pe_int) (pa_cons (pv 4) (pa_cons (pv 5) pa_nil))))))
    (pss_cons (ps_set (i := 10) sc_allowed_splits.nd rfl (.inl rfl) (pe_tup (pa_cons (pe_op op_sub (pe_op op_sub (pv 2) pe_int) (pv 7)) (pa_cons (pe_op op_add (pe_op op_add (pv 3) pe_int) (pv 7)) (pa_cons (pe_op op_add (pe_op op_add (pv 4) (pv 7)) pe_int) (pa_cons (pe_op op_add (pv 5) (pv 7)) pa_nil))))))
    (pss_one (ps_expr (pe_bm PySem.F.plainAttrs_list PySem.F.slot_list_append PySem.F.type_list_append mt_append (pv 6) (pa_cons (pe_tup (pa_cons (pv 8) (pa_cons (pv 9) (pa_cons (pv 10) pa_nil)))) pa_nil)))))) pss_nil))))
    (pss_one (ps_ret (pv 6)))))), ?_⟩
  refine ⟨_, rfl, t, _, rfl, SqT.of et, rfl, _, _, rfl, _, _, rfl, _, _, rfl, _, _, rfl, rfl, ?_⟩
  refine ⟨(by show 0 ≤ sizeLine; decide), fun L nL => ?_⟩
  have kL := same_new nL (.lst [])
  refine ⟨_, rfl, (m : Int), rfl, by omega, by omega, ?_⟩
  rw [Int.toNat_natCast]
  refine for_range (lo := 0) (n := m) (fun s σ H' => ∃ (o7 o8 o9 o10 : Option V) (us : List V), σ = [some (.ref g), some (.ref t), some (.int (m : Int)), some (.int (i : Int)), some (.int (j : Int)), some (.int (k : Int)), some (.ref L), o7, o8, o9, o10] ∧ Same H H' ∧ H' L = some (.lst us) ∧ SpAt H' us ((List.range s).flatMap (splAt G (m, i, j, k)))) ⟨_, _, _, _, [], rfl, kL, upd_same, .nil⟩ (fun s σ H1 hs hp => ?_) (fun σ H1 hp => ?_)
  · obtain ⟨o7, o8, o9, o10, us, rfl, sm, eL, sp⟩ := hp
    have eg1 := sm _ _ eg
    have hl : us.length ≤ 12 := by
      rw [sp.len]
      have := spl_len G (m, i, j, k) s
      omega
    have la : (tx G.a).length ≤ sizeLine := small (by rw [tx_len, gok.a]; omega)
    have lb : (tx G.b).length ≤ sizeLine := small (by rw [tx_len, gok.b]; omega)
    have lc : (tx G.c).length ≤ sizeLine := small (by rw [tx_len, gok.c]; omega)
    have ha : atI G.a (i : Int) = some (G.a.getD i 63) := getD_at (by rw [gok.a]; omega)
    have hb : atI G.b ((j : Int) + (0 + (s : Int))) = some (G.b.getD (j + s) 63) := by
      rw [show (j : Int) + (0 + (s : Int)) = ((j + s : Nat) : Int) by omega]
      exact getD_at (by rw [gok.b]; omega)
    have hc : atI G.c ((k : Int) + (m : Int) - 1) = some (G.c.getD (k + m - 1) 63) := by
      rw [show (k : Int) + (m : Int) - 1 = ((k + m - 1 : Nat) : Int) by omega]
      exact getD_at (by rw [gok.c]; omega)
    refine ⟨_, rfl, g, _, _, _, rfl, rfl, SqT.of eg1, atI_nat (j := 0) rfl, _, rfl, _, _, _, rfl, rfl, la, ha, ?_⟩
    refine ⟨_, rfl, g, _, _, _, rfl, rfl, SqT.of eg1, atI_nat (j := 1) rfl, _, rfl, _, rfl, _, _, rfl, rfl, _, _, _, rfl, rfl, lb, hb, tx [G.a.getD i 63], tx [G.b.getD (j + s) 63], rfl, rfl, small (by rw [tx_len, tx_len]; show 1 + 1 ≤ 1000; decide), ?_⟩
    rw [tx_app]
    refine ⟨_, rfl, g, _, _, _, rfl, rfl, SqT.of eg1, atI_nat (j := 2) rfl, _, rfl, _, rfl, _, _, rfl, rfl, _, _, rfl, rfl, _, _, _, rfl, rfl, lc, hc, _, tx [G.c.getD (k + m - 1) 63], rfl, rfl, small (by rw [tx_len, tx_len]; show 2 + 1 ≤ 1000; decide), ?_⟩
    rw [tx_app]
    refine ⟨[G.a.getD i 63, G.b.getD (j + s) 63, G.c.getD (k + m - 1) 63], rfl, (by show 3 ≤ 100; decide), ?_⟩
    show gName 8 (vt (letS G (m, i, j, k) s)) _ H1 _
    have cl := comm_len [G.a.getD i 63, G.b.getD (j + s) 63, G.c.getD (k + m - 1) 63]
    refine ⟨_, rfl, !(letS G (m, i, j, k) s).isEmpty, ⟨small (by rw [tx_len]; exact Nat.le_trans cl (by decide)), ?_⟩, ?_⟩
    · rw [tx_len]
      cases letS G (m, i, j, k) s with
      | nil => rfl
      | cons _ _ => exact (bne_iff_ne.mpr (by show ¬ (((_ + 1 : Nat) : Int) = 0); omega)).symm
    have hst : [s].flatMap (splAt G (m, i, j, k)) = splAt G (m, i, j, k) s := List.append_nil _
    cases hL : letS G (m, i, j, k) s with
    | nil =>
      refine iteF ?_
      refine ⟨_, _, _, _, us, rfl, sm, eL, ?_⟩
      rw [List.range_succ, List.flatMap_append, hst]
      unfold splAt
      rw [hL, if_pos rfl, List.append_nil]
      exact sp
    | cons c0 r0 =>
      refine iteT ?_
      refine ⟨_, rfl, _, rfl, _, _, rfl, rfl, _, rfl, _, rfl, (by show 4 ≤ sizeLine; decide), fun l nl => ?_⟩
      have vl : [V.int (0 + (s : Int)), .int ((i : Int) + 1), .int (j : Int), .int (k : Int)] = stV (leftS (m, i, j, k) s) := by
        simp [stV, leftS]
      have vr : [V.int ((m : Int) - 1 - (0 + (s : Int))), .int ((i : Int) + 1 + (0 + (s : Int))), .int ((j : Int) + (0 + (s : Int)) + 1), .int ((k : Int) + (0 + (s : Int)))] = stV (rightS (m, i, j, k) s) := by
        unfold stV rightS
        simp only [Int.zero_add]
        rw [show ((m - 1 - s : Nat) : Int) = (m : Int) - 1 - (s : Int) by omega]
        rfl
      have k1 := same_new nl (.tup (stV (leftS (m, i, j, k) s)))
      have el := upd_same (H := H1) (a := l) (o := .tup (stV (leftS (m, i, j, k) s)))
      have sm2 := sm.trans k1
      have eL2 := k1 _ _ eL
      have sp2 := sp.keep (Tw.Same.keepT k1)
      rw [← vl] at k1 el sm2 eL2 sp2
      refine ⟨_, rfl, _, _, rfl, rfl, _, rfl, _, _, rfl, rfl, _, rfl, _, _, rfl, rfl, _, rfl, _, _, rfl, rfl, _, rfl, _, rfl, _, _, rfl, rfl, _, _, rfl, rfl, _, rfl, _, rfl, _, _, rfl, rfl, (by show 4 ≤ sizeLine; decide), fun r nr => ?_⟩
      have k2 := same_new nr (.tup (stV (rightS (m, i, j, k) s)))
      have er := upd_same (H := upd H1 l (.tup [V.int (0 + (s : Int)), .int ((i : Int) + 1), .int (j : Int), .int (k : Int)])) (a := r) (o := .tup (stV (rightS (m, i, j, k) s)))
      rw [← vr] at k2 er
      have el := k2 _ _ el
      have sm3 := sm2.trans k2
      have eL3 := k2 _ _ eL2
      have sp3 := sp2.keep (Tw.Same.keepT k2)
      refine ⟨_, rfl, .inl ⟨rfl, _, SqL.of eL3⟩, _, rfl, _, rfl, _, rfl, (by show 3 ≤ sizeLine; decide), fun p np => ?_⟩
      have k3 := same_new np (.tup [vt (c0 :: r0), .ref l, .ref r])
      have ep := upd_same (H := upd (upd H1 l (.tup [V.int (0 + (s : Int)), .int ((i : Int) + 1), .int (j : Int), .int (k : Int)])) r (.tup [V.int ((m : Int) - 1 - (0 + (s : Int))), .int ((i : Int) + 1 + (0 + (s : Int))), .int ((j : Int) + (0 + (s : Int)) + 1), .int ((k : Int) + (0 + (s : Int)))])) (a := p) (o := .tup [vt (c0 :: r0), .ref l, .ref r])
      have el := k3 _ _ el
      have er := k3 _ _ er
      have sm4 := sm3.trans k3
      have eL4 := k3 _ _ eL3
      have sp4 := sp3.keep (Tw.Same.keepT k3)
      have el := el.trans (congrArg (fun z => some (HO.tup z)) vl)
      have er := er.trans (congrArg (fun z => some (HO.tup z)) vr)
      refine ⟨L, us, _, rfl, rfl, eL4, small1000 (by omega), _, _, _, _, us ++ [.ref p], rfl, same_put sm4 nL _, upd_same, ?_⟩
      rw [List.range_succ, List.flatMap_append, hst]
      have one : splAt G (m, i, j, k) s = [(c0 :: r0, leftS (m, i, j, k) s, rightS (m, i, j, k) s)] := by
        unfold splAt
        rw [hL, if_neg (List.cons_ne_nil _ _)]
      rw [one]
      refine (sp4.app (.cons ep el er .nil)).keep fun b xs e => ?_
      rw [upd_ne (fun z => by rw [z, eL4] at e; cases e)]
      exact e
  · obtain ⟨o7, o8, o9, o10, us, rfl, sm, eL, sp⟩ := hp
    exact ⟨_, rfl, q L us H1 sm nL eL sp⟩
end
/-! ### how many trees fit a stretch: cnt; add_counts, counts_of -/
def cntF (G : G3) : Nat → St4 → Nat
  | 0, _ => 0
  | f + 1, t => if t.1 = 0 then 1 else ((spl G t).map fun x => x.1.length * cntF G f x.2.1 * cntF G f x.2.2).sum
def cnt (G : G3) (t : St4) : Nat := cntF G (t.1 + 1) t
theorem spl_small {G : G3} {t : St4} {x : Split} (h : x ∈ spl G t) : x.2.1.1 + x.2.2.1 + 1 = t.1 := by
  obtain ⟨s, hs, _, _, e1, e2⟩ := spl_mem h
  rw [e1, e2]
  simp only [leftS, rightS]
  omega
theorem cntF_any (G : G3) : ∀ (f g : Nat) (t : St4), t.1 < f → t.1 < g → cntF G f t = cntF G g t
  | 0, _, _, h, _ => absurd h (Nat.not_lt_zero _)
  | _, 0, _, _, h => absurd h (Nat.not_lt_zero _)
  | f + 1, g + 1, t, h1, h2 => by
    show (if t.1 = 0 then 1 else _) = if t.1 = 0 then 1 else _
    split
    · rfl
    · refine congrArg List.sum (List.map_congr_left fun x hx => ?_)
      have := spl_small hx
      rw [cntF_any G f g x.2.1 (by omega) (by omega), cntF_any G f g x.2.2 (by omega) (by omega)]
def term (G : G3) (x : Split) : Nat := x.1.length * cnt G x.2.1 * cnt G x.2.2
theorem cnt_eq (G : G3) (t : St4) : cnt G t = if t.1 = 0 then 1 else ((spl G t).map (term G)).sum := by
  show (if t.1 = 0 then 1 else _) = _
  split
  · rfl
  · refine congrArg List.sum (List.map_congr_left fun x hx => ?_)
    have := spl_small hx
    unfold term cnt
    rw [cntF_any G t.1 (x.2.1.1 + 1) x.2.1 (by omega) (by omega), cntF_any G t.1 (x.2.2.1 + 1) x.2.2 (by omega) (by omega)]
theorem sum_bound {m : Nat} : ∀ l : List Nat, (∀ x ∈ l, x ≤ m) → l.sum ≤ l.length * m
  | [], _ => Nat.zero_le _
  | x :: l, h => by
    have h1 := h x List.mem_cons_self
    have h2 := sum_bound l fun y hy => h y (List.mem_cons_of_mem _ hy)
    rw [List.sum_cons, List.length_cons, Nat.add_mul]
    omega
theorem cnt_le (G : G3) : ∀ (m : Nat) (t : St4), t.1 = m → m ≤ 12 → cnt G t ≤ 312 ^ m := by
  intro m
  induction m using Nat.strongRecOn with
  | ind m ih =>
    intro t ht h12
    rw [cnt_eq]
    split
    · exact Nat.pos_of_ne_zero (by simp)
    · next h0 =>
      have lt := spl_len G t t.1
      have b := sum_bound (m := 26 * 312 ^ (m - 1)) ((spl G t).map (term G)) fun y hy => by
        obtain ⟨x, hx, rfl⟩ := List.mem_map.mp hy
        have sm := spl_small hx
        obtain ⟨s, _, e1, _⟩ := spl_mem hx
        have c1 := ih x.2.1.1 (by omega) x.2.1 rfl (by omega)
        have c2 := ih x.2.2.1 (by omega) x.2.2 rfl (by omega)
        have c0 : x.1.length ≤ 26 := by rw [e1]; exact comm_len _
        have e : 312 ^ x.2.1.1 * 312 ^ x.2.2.1 = 312 ^ (m - 1) := by rw [← Nat.pow_add]; congr 1; omega
        unfold term
        rw [Nat.mul_assoc, ← e]
        exact Nat.mul_le_mul c0 (Nat.mul_le_mul c1 c2)
      rw [List.length_map] at b
      have e : 312 ^ m = 12 * (26 * 312 ^ (m - 1)) := by
        obtain ⟨k, rfl⟩ : ∃ k, m = k + 1 := ⟨m - 1, by omega⟩
        rw [Nat.add_sub_cancel, Nat.pow_succ]
        omega
      rw [e]
      exact Nat.le_trans b (Nat.mul_le_mul_right _ (Nat.le_trans lt (by omega)))
theorem cnt_small (G : G3) {t : St4} (h : t.1 ≤ 5) : cnt G t < 2 ^ 42 := by
  have := cnt_le G t.1 t rfl (by omega)
  have h2 : 312 ^ t.1 ≤ 312 ^ 5 := Nat.pow_le_pow_right (by decide) h
  exact Nat.lt_of_le_of_lt (Nat.le_trans this h2) (by decide)
theorem mul_ok {a x y : Nat} (ha : a ≤ 26) (h : x < 2 ^ 42 ∨ y < 2 ^ 42) : CMul ((a : Int) * (x : Int)) (y : Int) := by
  rcases h with h | h
  · refine .inl ⟨?_, ?_⟩
    · have : (0 : Int) ≤ (a : Int) * (x : Int) := Int.mul_nonneg (by omega) (by omega)
      omega
    · have h1 : a * x ≤ 26 * x := Nat.mul_le_mul_right _ ha
      have h2 : ((a * x : Nat) : Int) = (a : Int) * (x : Int) := by rw [Int.natCast_mul]
      rw [← h2]
      omega
  · exact .inr ⟨by omega, by omega⟩
/-! the dict of counts -/
def keyS (t : St4) : List Key := [.inl (t.1 : Int), .inl (t.2.1 : Int), .inl (t.2.2.1 : Int), .inl (t.2.2.2 : Int)]
theorem key_vals (t : St4) : (keyS t).map kV = stV t := rfl
theorem key_inj {t u : St4} (h : keyS t = keyS u) : t = u := by
  obtain ⟨m, i, j, k⟩ := t
  obtain ⟨m', i', j', k'⟩ := u
  simp only [keyS, List.cons.injEq, Sum.inl.injEq, and_true] at h
  obtain ⟨h1, h2, h3, h4⟩ := h
  have e1 : m = m' := by omega
  have e2 : i = i' := by omega
  have e3 : j = j' := by omega
  have e4 : k = k' := by omega
  rw [e1, e2, e3, e4]
abbrev Kvs := List (List Key × V)
structure Tab (G : G3) (n : Nat) (kvs : Kvs) : Prop where
  all : ∀ p ∈ kvs, ∃ t, OkS n t ∧ p = (keyS t, V.int (cnt G t : Int))
  nd : (kvs.map (·.1)).Nodup
  cl : ∀ (t : St4) (v : V), (keyS t, v) ∈ kvs → ∀ x ∈ spl G t, (keyS x.2.1, V.int (cnt G x.2.1 : Int)) ∈ kvs ∧ (keyS x.2.2, V.int (cnt G x.2.2 : Int)) ∈ kvs
theorem val_of {kvs : Kvs} (nd : (kvs.map (·.1)).Nodup) {k : List Key} {v : V} (h : (k, v) ∈ kvs) : valV kvs k = some v := by
  induction kvs with
  | nil => cases h
  | cons p kvs ih =>
    obtain ⟨h1, h2⟩ := List.nodup_cons.mp (show (p.1 :: kvs.map (·.1)).Nodup from nd)
    rcases List.mem_cons.mp h with e | e
    · subst e
      exact valV_pos rfl
    · rw [valV_neg (fun z => h1 (List.mem_map.mpr ⟨_, e, z.symm⟩))]
      exact ih h2 e
theorem val_some {kvs : Kvs} {k : List Key} {v : V} (h : valV kvs k = some v) : (k, v) ∈ kvs := by
  unfold valV at h
  obtain ⟨p, hp, e⟩ := Option.map_eq_some_iff.mp h
  have h1 := List.mem_of_find?_eq_some hp
  have h2 := List.find?_some hp
  have e1 : p.1 = k := of_decide_eq_true h2
  rw [← e1, ← e]
  exact h1
theorem Tab.get {G : G3} {n : Nat} {kvs : Kvs} (T : Tab G n kvs) {t : St4} {v : V} (h : (keyS t, v) ∈ kvs) : v = .int (cnt G t : Int) := by
  obtain ⟨u, _, e⟩ := T.all _ h
  have e1 := congrArg Prod.fst e
  have e2 := congrArg Prod.snd e
  have : t = u := key_inj e1
  subst this
  exact e2
theorem Tab.val {G : G3} {n : Nat} {kvs : Kvs} (T : Tab G n kvs) {t : St4} (h : (keyS t, V.int (cnt G t : Int)) ∈ kvs) : valV kvs (keyS t) = some (.int (cnt G t : Int)) := val_of T.nd h
/-- a key's code, below 13^4 -/
def code (k : List Key) : Nat := match k with
  | [.inl m, .inl i, .inl j, .inl l] => ((m.toNat * 13 + i.toNat) * 13 + j.toNat) * 13 + l.toNat
  | _ => 0
theorem code_lt {n : Nat} {t : St4} (h : OkS n t) (h12 : n ≤ 12) : code (keyS t) < 28561 := by
  obtain ⟨m, i, j, k⟩ := t
  obtain ⟨h1, h2, h3⟩ := h
  simp only at h1 h2 h3
  show ((((m : Int).toNat * 13 + (i : Int).toNat) * 13 + (j : Int).toNat) * 13 + (k : Int).toNat) < 28561
  simp only [Int.toNat_natCast]
  omega
theorem code_inj {n : Nat} {t u : St4} (h : OkS n t) (g : OkS n u) (h12 : n ≤ 12) (e : code (keyS t) = code (keyS u)) : t = u := by
  obtain ⟨m, i, j, k⟩ := t
  obtain ⟨m', i', j', k'⟩ := u
  obtain ⟨h1, h2, h3⟩ := h
  obtain ⟨g1, g2, g3⟩ := g
  simp only at h1 h2 h3 g1 g2 g3
  have e : ((((m : Int).toNat * 13 + (i : Int).toNat) * 13 + (j : Int).toNat) * 13 + (k : Int).toNat) = ((((m' : Int).toNat * 13 + (i' : Int).toNat) * 13 + (j' : Int).toNat) * 13 + (k' : Int).toNat) := e
  simp only [Int.toNat_natCast] at e
  have e1 : m = m' := by omega
  have e2 : i = i' := by omega
  have e3 : j = j' := by omega
  have e4 : k = k' := by omega
  rw [e1, e2, e3, e4]
theorem nodup_le {α : Type} [DecidableEq α] : ∀ {l m : List α}, l.Nodup → (∀ x ∈ l, x ∈ m) → l.length ≤ m.length
  | [], m, _, _ => Nat.zero_le _
  | x :: l, m, nd, h => by
    obtain ⟨n1, n2⟩ := List.nodup_cons.mp nd
    have hx := h x List.mem_cons_self
    have := nodup_le (l := l) (m := m.erase x) n2 fun y hy => (List.mem_erase_of_ne (fun z : y = x => n1 (z ▸ hy))).mpr (h y (List.mem_cons_of_mem _ hy))
    rw [List.length_erase_of_mem hx] at this
    have : 0 < m.length := List.length_pos_of_mem hx
    rw [List.length_cons]
    omega
theorem Tab.len {G : G3} {n : Nat} {kvs : Kvs} (T : Tab G n kvs) (h12 : n ≤ 12) : kvs.length ≤ 28561 := by
  have nd : ((kvs.map (·.1)).map code).Nodup := by
    have nd := T.nd
    have all : ∀ k ∈ kvs.map (·.1), ∃ t, OkS n t ∧ k = keyS t := fun k hk => by
      obtain ⟨p, hp, rfl⟩ := List.mem_map.mp hk
      obtain ⟨t, ok, e⟩ := T.all p hp
      exact ⟨t, ok, by rw [e]⟩
    generalize kvs.map (·.1) = ks at nd all
    induction ks with
    | nil => exact List.nodup_nil
    | cons k ks ih =>
      obtain ⟨h1, h2⟩ := List.nodup_cons.mp nd
      refine List.nodup_cons.mpr ⟨fun hm => ?_, ih h2 fun x hx => all x (List.mem_cons_of_mem _ hx)⟩
      obtain ⟨k', hk', e⟩ := List.mem_map.mp hm
      obtain ⟨t, ok, rfl⟩ := all k List.mem_cons_self
      obtain ⟨u, ok', rfl⟩ := all k' (List.mem_cons_of_mem _ hk')
      have : u = t := code_inj ok' ok h12 e
      subst this
      exact h1 hk'
  have := nodup_le (m := List.range 28561) nd fun x hx => by
    obtain ⟨k, hk, rfl⟩ := List.mem_map.mp hx
    obtain ⟨p, hp, rfl⟩ := List.mem_map.mp hk
    obtain ⟨t, ok, e⟩ := T.all p hp
    rw [e]
    exact List.mem_range.mpr (code_lt ok h12)
  rw [List.length_map, List.length_map, List.length_range] at this
  exact this
theorem Tab.put {G : G3} {n : Nat} {kvs : Kvs} (T : Tab G n kvs) {t : St4} (ok : OkS n t) (hc : ∀ x ∈ spl G t, (keyS x.2.1, V.int (cnt G x.2.1 : Int)) ∈ kvs ∧ (keyS x.2.2, V.int (cnt G x.2.2 : Int)) ∈ kvs) :
    Tab G n (putK kvs (keyS t) (.int (cnt G t : Int))) ∧ (∀ p ∈ kvs, p ∈ putK kvs (keyS t) (.int (cnt G t : Int))) ∧ (keyS t, V.int (cnt G t : Int)) ∈ putK kvs (keyS t) (.int (cnt G t : Int)) := by
  cases h : valV kvs (keyS t) with
  | none =>
    rw [putK_new _ h]
    refine ⟨⟨fun p hp => ?_, ?_, fun u v hu x hx => ?_⟩, fun p hp => List.mem_append_left _ hp, List.mem_append_right _ List.mem_cons_self⟩
    · rcases List.mem_append.mp hp with hp | hp
      · exact T.all p hp
      · rw [List.mem_singleton.mp hp]
        exact ⟨t, ok, rfl⟩
    · rw [List.map_append]
      refine List.nodup_append.mpr ⟨T.nd, List.nodup_cons.mpr ⟨by simp, List.nodup_nil⟩, fun a ha b hb => ?_⟩
      rw [List.mem_singleton.mp hb]
      rintro rfl
      obtain ⟨p, hp, e⟩ := List.mem_map.mp ha
      have e : p.1 = keyS t := e
      have : valV kvs (keyS t) = some p.2 := val_of T.nd (by rw [← e]; exact hp)
      rw [h] at this
      cases this
    · rcases List.mem_append.mp hu with hu | hu
      · obtain ⟨a, b⟩ := T.cl u v hu x hx
        exact ⟨List.mem_append_left _ a, List.mem_append_left _ b⟩
      · have e := congrArg Prod.fst (List.mem_singleton.mp hu)
        have : u = t := key_inj e
        subst this
        obtain ⟨a, b⟩ := hc x hx
        exact ⟨List.mem_append_left _ a, List.mem_append_left _ b⟩
  | some v =>
    have hm := val_some h
    have ev := T.get hm
    subst ev
    have e : putK kvs (keyS t) (.int (cnt G t : Int)) = kvs := by
      unfold putK
      rw [valV_any, h, if_pos (show (some (V.int (cnt G t : Int))).isSome = true from rfl)]
      have : ∀ kv ∈ kvs, (fun kv : List Key × V => if kv.1 = keyS t then (kv.1, V.int (cnt G t : Int)) else kv) kv = kv := fun kv hkv => by
        show (if kv.1 = keyS t then (kv.1, V.int (cnt G t : Int)) else kv) = kv
        split
        · next e1 =>
          have : valV kvs kv.1 = some kv.2 := val_of T.nd hkv
          rw [e1, h] at this
          rw [Option.some.inj this]
        · rfl
      rw [List.map_congr_left this]
      exact List.map_id' kvs
    rw [e]
    exact ⟨T, fun p hp => hp, hm⟩
theorem seq_cut {t u : TS} {D : Ends} {σ : L2.St} {H : Hp} (I : L2.St → Hp → Prop) (h2 : ∀ σ' H', I σ' H' → u D σ' H') (h1 : (∀ σ' H', I σ' H' → u D σ' H') → t { D with nx := u D } σ H) : tSeq t u D σ H := h1 h2
theorem seq_cutN {t u : TS} {D : Ends} {r1 : VK} {r2 r3 : L2.St → Hp → Prop} {σ : L2.St} {H : Hp} (I : L2.St → Hp → Prop) (h2 : ∀ σ' H', I σ' H' → u D σ' H') (h1 : (∀ σ' H', I σ' H' → u D σ' H') → t { D with nx := u D } σ H) : (Ends.mk (tSeq t u D) r1 r2 r3).nx σ H := h1 h2
theorem small1000' {n : Nat} (h : n ≤ 28561) : n < sizeLine := Nat.lt_of_le_of_lt h (by decide)
/-- all stands still but the dict at d -/
def SameB (d : Addr) (H H' : Hp) : Prop := ∀ b o, b ≠ d → H b = some o → H' b = some o
theorem SameB.trans {d : Addr} {H H1 H2 : Hp} (a : SameB d H H1) (b : SameB d H1 H2) : SameB d H H2 := fun c o h e => b c o h (a c o h e)
theorem SameB.of {d : Addr} {H H' : Hp} (h : Same H H') : SameB d H H' := fun b o _ e => h b o e
theorem SameB.tup {d : Addr} {H H' : Hp} {kvs : Kvs} (s : SameB d H H') (hd : H d = some (.dT kvs)) {b : Addr} {xs : List V} (e : H b = some (.tup xs)) : H' b = some (.tup xs) := s b _ (fun z => by rw [z, hd] at e; cases e) e
theorem SameB.keepT {d : Addr} {H H' : Hp} {kvs : Kvs} (s : SameB d H H') (hd : H d = some (.dT kvs)) : KeepT H H' := fun b xs e => s.tup hd e
def spAdd (N : Nat) : Sp := fun vs H Q _ => ∃ (g t d : Addr) (G : G3) (n : Nat) (st : St4) (kvs : Kvs), vs = [.ref g, .ref t, .ref d] ∧ H g = some (.tup G.tup) ∧ G.Ok n ∧ H t = some (.tup (stV st)) ∧ OkS n st ∧ st.1 < N ∧ H d = some (.dT kvs) ∧ Tab G n kvs ∧
  ∀ (kvs' : Kvs) (H' : Hp), SameB d H H' → H' d = some (.dT kvs') → Tab G n kvs' → (∀ p ∈ kvs, p ∈ kvs') → (keyS st, V.int (cnt G st : Int)) ∈ kvs' → Q .non H'
section
variable {P : Program} {w : World} {K : PySem.W.Frag} {mg : Str → Option Value} {base : Heap} {f : Addr} {fd : FuncData}
theorem ok_add (F : Fun K "add_counts" "add_counts" s_add_counts f fd) (M : Mgs mg) (b : Binds K fd ["given", "stretch", "counts"] []) (g : mg "add_counts" = some (.ref f)) (Dallowed_splits : Df P w K mg base 2 "allowed_splits" ["given", "stretch"] spAllowed) : ∀ N : Nat, FnOk P w K mg base CX0 (2 + N) f fd ["given", "stretch", "counts"] (spAdd N)
  | 0 => by
    have no : ∀ vs H Q E, ¬ spAdd 0 vs H Q E := fun vs H Q E h => by
      obtain ⟨g, t, d, G, n, st, kvs, _, _, _, _, _, h1, _⟩ := h
      omega
    exact ⟨fun vs H Q E h => absurd h (no vs H Q E), fun A outer s H args us vs Q E _ _ _ _ h => absurd h (no vs H Q E)⟩
  | N + 1 => by
    have Dself : Df P w K mg base (2 + N) "add_counts" ["given", "stretch", "counts"] (spAdd N) := ⟨f, fd, ok_add F M b g Dallowed_splits N, b, F.kp, g⟩
    refine F.ok (k := 2 + N) sc_add_counts (fun vs H Q E h => ?_) (fun cdv A outer s H vs Q E hr h => ?_)
    · obtain ⟨g, t, d, G, n, st, kvs, rfl, _⟩ := h
      rfl
    obtain ⟨g, t, d, G, n, st, kvs, rfl, eg, gok, et, ok, hN, ed, T, q⟩ := h
    have n12 := gok.few
    refine ⟨_, (pss_cons (ps_if (pt_cmp (pc_din (Nat.lt_of_le_of_lt (Nat.add_le_add_left (by decide) _) hr.units) (pv 1) (pv 2)))
      (pss_one ps_retN) pss_nil)
    (pss_cons (ps_set (i := 3) sc_add_counts.nd rfl (.inl rfl) (pe_ifExp (pt_cmpR op_eq (pe_ix ix_tup (pv 1) pe_int (fun _ _ => rfl)) pe_int (nomark _)) pe_int pe_int))
    (pss_cons (ps_for PassesOwn.never rfl (pi_list (pe_call Dallowed_splits.ok (hr.mono (by omega)) rfl Dallowed_splits.g Dallowed_splits.kp Dallowed_splits.b .nil pass0 (pa_cons (pv 0) (pa_cons (pv 1) pa_nil)))) (pg_tup rfl (pgs_cons (pg_name (i := 4) sc_add_counts.nd rfl (.inl rfl)) (pgs_cons (pg_name (i := 5) sc_add_counts.nd rfl (.inl rfl)) (pgs_cons (pg_name (i := 6) sc_add_counts.nd rfl (.inl rfl)) pgs_nil))))
      (pss_cons (ps_expr (pe_call Dself.ok (hr.mono (by omega)) rfl Dself.g Dself.kp Dself.b .nil pass0 (pa_cons (pv 0) (pa_cons (pv 5) (pa_cons (pv 2) pa_nil)))))
    (pss_cons (ps_expr (pe_call Dself.ok (hr.mono (by omega)) rfl Dself.g Dself.kp Dself.b .nil pass0 (pa_cons (pv 0) (pa_cons (pv 6) (pa_cons (pv 2) pa_nil)))))
    (pss_one (ps_aug (i := 3) sc_add_counts.nd rfl (.inl rfl) (pe_op op_mul (pe_op op_mul (pe_callB call_len_str rfl M.len PySem.boot_len (pa_cons (pv 4) pa_nil)) (pe_dget (Nat.lt_of_le_of_lt (Nat.add_le_add_left (by decide) _) hr.units) (pv 2) (pv 5) (fun _ _ => rfl))) (pe_dget (Nat.lt_of_le_of_lt (Nat.add_le_add_left (by decide) _) hr.units) (pv 2) (pv 6) (fun _ _ => rfl))) ip_add)))))
    (pss_one (ps_dput (Nat.lt_of_le_of_lt (Nat.add_le_add_left (by decide) _) hr.units) (pv 2) (pv 1) (pv 3) rfl))))), ?_⟩
    refine ⟨_, rfl, _, rfl, d, valV kvs (keyS st), rfl, .inr ⟨kvs, keyS st, t, .inl ed, rfl, et, rfl⟩, _, rfl, ?_⟩
    cases hv : valV kvs (keyS st) with
    | some v =>
      refine iteT ?_
      have hm := val_some hv
      have ev := T.get hm
      subst ev
      exact q kvs H (fun b o _ e => e) ed T (fun p hp => hp) hm
    | none =>
      refine iteF ?_
      refine seq_cutN (fun σ H' => σ = [some (.ref g), some (.ref t), some (.ref d), some (.int ((if st.1 = 0 then 1 else 0 : Nat) : Int)), none, none, none] ∧ H' = H) (fun σ H1 hp => ?_) (fun fin => ?_)
      · obtain ⟨rfl, rfl⟩ := hp
        refine ⟨_, rfl, _, rfl, g, t, G, n, st, rfl, eg, gok, et, ok, fun p us H2 s2 np ep sp => ?_⟩
        refine ⟨p, rfl, ⟨_, SqL.of ep⟩, ?_⟩
        have npd : p ≠ d := fun z => by rw [z, ed] at np; cases np
        refine for_list (K := K) (a := p) (xs := us) (fun x σ H' => ∃ (o4 o5 o6 : Option V) (kv' : Kvs), σ = [some (.ref g), some (.ref t), some (.ref d), some (.int (((if st.1 = 0 then 1 else 0) + (((spl G st).take x).map (term G)).sum : Nat) : Int)), o4, o5, o6] ∧ SameB d H2 H' ∧ H' d = some (.dT kv') ∧ Tab G n kv' ∧ (∀ p ∈ kvs, p ∈ kv') ∧ ∀ y ∈ (spl G st).take x, (keyS y.2.1, V.int (cnt G y.2.1 : Int)) ∈ kv' ∧ (keyS y.2.2, V.int (cnt G y.2.2 : Int)) ∈ kv')
          ⟨_, _, _, kvs, rfl, fun b o _ e => e, s2 _ _ ed, T, fun p hp => hp, fun y hy => nomatch hy⟩ (fun x σ H' _ hp => by obtain ⟨_, _, _, _, _, s3, _⟩ := hp; exact SqL.of (s3 _ _ npd ep)) (fun x u σ H' hx hp => ?_) (fun σ H' hp => ?_)
        · obtain ⟨o4, o5, o6, kv', rfl, s3, ed3, T3, sup3, cl3⟩ := hp
          obtain ⟨pp, l, r, xx, rfl, exx, e1, e2, e3⟩ := sp.get hx
          have ed2 := s2 _ _ ed
          have e1' := s3.tup ed2 e1
          have e2' := s3.tup ed2 e2
          have e3' := s3.tup ed2 e3
          have eg' := s3.tup ed2 (s2 _ _ eg)
          have hm := List.mem_of_getElem? exx
          have sm := spl_small hm
          obtain ⟨sx, hsx, q1, q2, q3, q4⟩ := spl_mem hm
          have okl : OkS n xx.2.1 := by rw [q3]; exact ok.left hsx
          have okr : OkS n xx.2.2 := by rw [q4]; exact ok.right hsx
          refine ⟨pp, _, rfl, SqT.of e1', rfl, _, _, rfl, _, _, rfl, _, _, rfl, rfl, ?_⟩
          refine ⟨_, rfl, _, rfl, _, rfl, g, l, d, G, n, xx.2.1, kv', rfl, eg', gok, e2', okl, by omega, ed3, T3, fun kv4 H4 s4 ed4 T4 sup4 m4 => ?_⟩
          have eg4 := s4.tup ed3 eg'
          have e24 := s4.tup ed3 e2'
          have e34 := s4.tup ed3 e3'
          refine ⟨_, rfl, _, rfl, _, rfl, g, r, d, G, n, xx.2.2, kv4, rfl, eg4, gok, e34, okr, by omega, ed4, T4, fun kv5 H5 s5 ed5 T5 sup5 m5 => ?_⟩
          have e25 := s5.tup ed4 e24
          have e35 := s5.tup ed4 e34
          have g1 : DGet H5 d (.ref l) (some (.int (cnt G xx.2.1 : Int))) := .inr ⟨kv5, keyS xx.2.1, l, .inl ed5, rfl, e25, (T5.val (sup5 _ m4)).symm⟩
          have g2 : DGet H5 d (.ref r) (some (.int (cnt G xx.2.2 : Int))) := .inr ⟨kv5, keyS xx.2.2, r, .inl ed5, rfl, e35, (T5.val m5).symm⟩
          have nx : spl G st ≠ [] := fun z => by rw [z] at hm; cases hm
          have st12 : st.1 ≤ 12 := by have := ok.i; omega
          have l26 : xx.1.length ≤ 26 := by rw [q1]; exact comm_len _
          refine ⟨_, rfl, _, rfl, _, rfl, small (by rw [tx_len]; omega), _, rfl, _, rfl, d, _, rfl, g1, _, _, rfl, rfl, .inl ⟨by rw [tx_len]; omega, by rw [tx_len]; omega⟩, _, rfl, _, rfl, d, _, rfl, g2, _, _, rfl, rfl, ?_, ?_⟩
          · rw [tx_len]
            refine mul_ok l26 ?_
            rcases (show xx.2.1.1 ≤ 5 ∨ xx.2.2.1 ≤ 5 by omega) with z | z
            · exact .inl (cnt_small G z)
            · exact .inr (cnt_small G z)
          have e : (((if st.1 = 0 then 1 else 0) + (((spl G st).take x).map (term G)).sum : Nat) : Int) + ((tx xx.1).length : Int) * (cnt G xx.2.1 : Int) * (cnt G xx.2.2 : Int) = (((if st.1 = 0 then 1 else 0) + (((spl G st).take (x + 1)).map (term G)).sum : Nat) : Int) := by
            rw [take_next exx, List.map_append, List.sum_append, tx_len, show ([xx].map (term G)).sum = xx.1.length * cnt G xx.2.1 * cnt G xx.2.2 from Nat.add_zero _]
            generalize (if st.1 = 0 then 1 else 0 : Nat) = z0
            rw [← Int.natCast_mul, ← Int.natCast_mul]
            omega
          refine ⟨_, _, rfl, rfl, some (vt xx.1), some (.ref l), some (.ref r), kv5, ?_, s3.trans (s4.trans s5), ed5, T5, fun p hp => sup5 p (sup4 p (sup3 p hp)), fun y hy => ?_⟩
          rotate_left
          · rw [take_next exx] at hy
            rcases List.mem_append.mp hy with hy | hy
            · obtain ⟨a, b⟩ := cl3 y hy
              exact ⟨sup5 _ (sup4 _ a), sup5 _ (sup4 _ b)⟩
            · rw [List.mem_singleton.mp hy]
              exact ⟨sup5 _ m4, m5⟩
          exact congrArg (fun z => [some (.ref g), some (.ref t), some (.ref d), some (V.int z), some (vt xx.1), some (.ref l), some (.ref r)]) e
        · obtain ⟨o4, o5, o6, kv', rfl, s3, ed3, T3, sup3, cl3⟩ := hp
          have et3 := s3.tup (s2 _ _ ed) (s2 _ _ et)
          have ll := sp.len
          rw [ll, List.take_length] at cl3 ⊢
          have e : ((if st.1 = 0 then 1 else 0) + ((spl G st).map (term G)).sum : Nat) = cnt G st := by
            rw [cnt_eq]
            by_cases z : st.1 = 0
            · rw [if_pos z, if_pos z]
              have : spl G st = [] := by unfold spl; rw [z]; rfl
              rw [this]
              rfl
            · rw [if_neg z, if_neg z, Nat.zero_add]
          rw [e]
          obtain ⟨T4, sup4, m4⟩ := T3.put ok cl3
          refine ⟨_, rfl, _, rfl, _, rfl, d, _, rfl, .inr ⟨kv', keyS st, t, ed3, rfl, et3, small1000' (T3.len n12), rfl⟩, ?_⟩
          exact q _ _ (fun b o hb e => by rw [upd_ne hb]; exact s3 b o hb (s2 _ _ e)) upd_same T4 (fun p hp => sup4 p (sup3 p hp)) m4
      · refine ⟨_, rfl, t, _, _, _, rfl, rfl, SqT.of et, atI_nat (j := 0) rfl, rfl, _, rfl, ?_⟩
        by_cases z : st.1 = 0
        · rw [decide_eq_true (show V.int (st.1 : Int) = V.int 0 by rw [z]; rfl)]
          refine iteT (fin _ _ ⟨?_, rfl⟩)
          rw [if_pos z]
          rfl
        · rw [decide_eq_false (show ¬ V.int (st.1 : Int) = V.int 0 from fun e => z (by have := V.int.inj e; omega))]
          refine iteF (fin _ _ ⟨?_, rfl⟩)
          rw [if_neg z]
          rfl
end
/-! ### whole_of, counts_of, count_trees -/
/-- f(k = v, ..), no values before -/
def tCallKw0 (m : Nat) (sp : List V → List V → Hp → VK → Prop) (tk : TA) : TE := fun σ H Q => tk σ H fun zs H2 => zs.length = m ∧ sp [] zs H2 Q
theorem pe_callKw0 {X : Cx} {k : Nat} {f : Addr} {ks : List Str} {sp : List V → List V → Hp → VK → Prop} {x : Str} {p pos : Pos} {kws : List Keyword} {tk : TA} (F : FnKw X.prog X.w X.K X.mg X.base k f 0 ks sp) (room : Room k X.A) (isG : Gl X x) (at0 : X.mg x = some (.ref f)) (kp : PySem.W.keepIn X.K (.ref f) = true)
    (kargs : PK X kws tk) (all : (backToKw pos (keywordEach kws X.env)).all (·.1.isSome) = true := by rfl) (names : (backToKw pos (keywordEach kws X.env)).filterMap (·.1) = ks := by rfl)
    (nd : (x == ("__debug__" : Str)) = false := by decide) (plain : ((backTo pos (starEach [] X.env)).any (·.1) || (backToKw pos (keywordEach kws X.env)).any (·.1.isNone)) = false := by rfl) :
    PE X (.Call (.Name x p) [] kws pos) (tCallKw0 ks.length sp tk) := by
  refine ⟨fun pins s σ H Q I h => wpAny_Call_Name_kw (ld_glob I isG at0 ?_ nd)⟩
  refine PySem.W.callWith_KW0 (h₀ := X.base) I.ok.mod.kin kp all ?_ plain
  refine thn (kargs.run pos pins s σ H _ I h) fun ws z ⟨zs, G, J, rz, lz, q⟩ => ⟨J.kIn, ?_⟩
  rw [names]
  refine wpAny_call (codeAny_mono (F X.A X.stack z G [] ws [] zs Q room J.env0 .nil rfl rz lz q) fun r z' hq => ?_)
  match r, hq with
  | .ok (.ret u), hq => exact J.after hq
abbrev wholeS (n : Nat) : St4 := (n, 0, 0, 0)
theorem whole_ok (n : Nat) : OkS n (wholeS n) := ⟨Nat.le_of_eq (Nat.zero_add n), Nat.le_of_eq (Nat.zero_add n), Nat.le_of_eq (Nat.zero_add n)⟩
def spWhole : Sp := fun vs H Q _ => ∃ (g : Addr) (G : G3) (n : Nat), vs = [.ref g] ∧ H g = some (.tup G.tup) ∧ G.Ok n ∧ ∀ (t : Addr) (H' : Hp), Same H H' → H' t = some (.tup (stV (wholeS n))) → Q (.ref t) H'
def spCounts : Sp := fun vs H Q _ => ∃ (g : Addr) (G : G3) (n : Nat), vs = [.ref g] ∧ H g = some (.tup G.tup) ∧ G.Ok n ∧
  ∀ (d : Addr) (kvs : Kvs) (H' : Hp), Same H H' → H d = none → H' d = some (.dT kvs) → Tab G n kvs → (keyS (wholeS n), V.int (cnt G (wholeS n) : Int)) ∈ kvs → Q (.ref d) H'
def g3 (L : Rows) (n : Nat) : G3 := ⟨rowOf L n .first, rowOf L n .between, rowOf L n .last⟩
/-- rows that are given by name -/
structure Named (ks : List Kd) (zs : List V) (L : Rows) (n : Nat) : Prop where
  ks : L.map (·.1) = ks
  zs : zs = L.map fun p => vt p.2
  ne : L ≠ []
  nd : (L.map (·.1)).Nodup
  few : L.length ≤ 3
  ok : ∀ p ∈ L, RowOk p.2 ∧ p.2.length = n
theorem Named.g {ks : List Kd} {zs : List V} {L : Rows} {n : Nat} (h : Named ks zs L n) : (g3 L n).Ok n := by
  obtain ⟨p, L', e⟩ := List.exists_cons_of_ne_nil h.ne
  obtain ⟨a, b⟩ := h.ok p (by rw [e]; exact List.mem_cons_self)
  have := a.few
  exact ⟨rowOf_len h.ok .first, rowOf_len h.ok .between, rowOf_len h.ok .last, by omega⟩
def spCountT (ks : List Kd) : List V → List V → Hp → VK → Prop := fun vs zs H Q => vs = [] ∧ ∃ (L : Rows) (n : Nat), Named ks zs L n ∧ ∀ H', Same H H' → Q (.int (cnt (g3 L n) (wholeS n) : Int)) H'
section
variable {P : Program} {w : World} {K : PySem.W.Frag} {mg : Str → Option Value} {base : Heap} {f : Addr} {fd : FuncData}
theorem ok_whole {k : Nat} (F : Fun K "whole_of" "whole_of" s_whole_of f fd) (M : Mgs mg) : FnOk P w K mg base CX0 (k + 1) f fd ["given"] spWhole := by
  refine F.ok sc_whole_of (fun vs H Q E h => ?_) (fun cdv A outer s H vs Q E hr h => ?_)
  · obtain ⟨g, G, n, rfl, _⟩ := h
    rfl
  obtain ⟨g, G, n, rfl, eg, gok, q⟩ := h
  refine ⟨_, (pss_one (ps_ret (pe_tup (pa_cons (pe_callB call_len_str rfl M.len PySem.boot_len (pa_cons (pe_ix ix_tup (pv 0) pe_int (fun _ _ => rfl)) pa_nil)) (pa_cons pe_int (pa_cons pe_int (pa_cons pe_int pa_nil))))))), ?_⟩
  refine ⟨_, rfl, g, _, _, _, rfl, rfl, SqT.of eg, atI_nat (j := 0) rfl, _, rfl, small (by rw [tx_len, gok.a]; exact Nat.le_trans gok.few (by decide)), (by show 4 ≤ sizeLine; decide), fun p np => ?_⟩
  refine q p _ (same_new np _) ?_
  rw [upd_same, tx_len, gok.a]
  rfl
theorem ok_counts (F : Fun K "counts_of" "counts_of" s_counts_of f fd) (Dwhole_of : Df P w K mg base 1 "whole_of" ["given"] spWhole) (Dadd_counts : Df P w K mg base 16 "add_counts" ["given", "stretch", "counts"] (spAdd 14)) : FnOk P w K mg base CX0 17 f fd ["given"] spCounts := by
  refine F.ok sc_counts_of (fun vs H Q E h => ?_) (fun cdv A outer s H vs Q E hr h => ?_)
  · obtain ⟨g, G, n, rfl, _⟩ := h
    rfl
  obtain ⟨g, G, n, rfl, eg, gok, q⟩ := h
  have n12 := gok.few
  refine ⟨_, (pss_cons (ps_set (i := 1) sc_counts_of.nd rfl (.inl rfl) pe_dnewT)
    (pss_cons (ps_expr (pe_call Dadd_counts.ok (hr.mono (by omega)) rfl Dadd_counts.g Dadd_counts.kp Dadd_counts.b .nil pass0 (pa_cons (pv 0) (pa_cons (pe_call Dwhole_of.ok (hr.mono (by omega)) rfl Dwhole_of.g Dwhole_of.kp Dwhole_of.b .nil pass0 (pa_cons (pv 0) pa_nil)) (pa_cons (pv 1) pa_nil)))))
    (pss_one (ps_ret (pv 1))))), ?_⟩
  refine fun d nd => ?_
  have k1 := same_new nd (.dT [])
  have ed := upd_same (H := H) (a := d) (o := .dT [])
  have eg1 := k1 _ _ eg
  refine ⟨_, rfl, _, rfl, g, G, n, rfl, eg1, gok, fun t H2 s2 et => ?_⟩
  refine ⟨_, rfl, g, t, d, G, n, wholeS n, [], rfl, s2 _ _ eg1, gok, et, whole_ok n, (by show n < 14; omega), s2 _ _ ed, ⟨fun p hp => (nomatch hp), List.nodup_nil, fun t v hp => (nomatch hp)⟩, fun kvs H3 s3 ed3 T _ m => ?_⟩
  refine ⟨_, rfl, q d kvs H3 (fun b o e => ?_) nd ed3 T m⟩
  exact s3 b o (fun z => by rw [z, nd] at e; cases e) (s2 _ _ (k1 _ _ e))
end
/-! ### live_splits, choices -/
/-- an expression's truth as a test -/
def tTr (K : PySem.W.Frag) (te : TE) : TT := fun σ H Q => te σ H fun x H' => ∃ k, TruV K x H' k ∧ Q k H'
def isLive (G : G3) (x : Split) : Bool := decide (cnt G x.2.1 ≠ 0) && decide (cnt G x.2.2 ≠ 0)
def live (G : G3) (t : St4) : List Split := (spl G t).filter (isLive G)
/-- the dict of counts, whole for the stretch -/
structure Has (G : G3) (n : Nat) (st : St4) (H : Hp) (d : Addr) : Prop where
  ex : ∃ kvs : Kvs, H d = some (.dT kvs) ∧ Tab G n kvs ∧ (keyS st, V.int (cnt G st : Int)) ∈ kvs
theorem Has.same {G : G3} {n : Nat} {st : St4} {H H' : Hp} {d : Addr} (h : Has G n st H d) (s : Same H H') : Has G n st H' d := by
  obtain ⟨kvs, e, T, m⟩ := h.ex
  exact ⟨kvs, s _ _ e, T, m⟩
theorem Has.get {G : G3} {n : Nat} {st : St4} {H : Hp} {d : Addr} (h : Has G n st H d) {t : Addr} (e : H t = some (.tup (stV st))) : DGet H d (.ref t) (some (.int (cnt G st : Int))) := by
  obtain ⟨kvs, ed, T, m⟩ := h.ex
  exact .inr ⟨kvs, keyS st, t, .inl ed, rfl, e, (T.val m).symm⟩
theorem Has.left {G : G3} {n : Nat} {st : St4} {H : Hp} {d : Addr} (h : Has G n st H d) {x : Split} (hx : x ∈ spl G st) : Has G n x.2.1 H d ∧ Has G n x.2.2 H d := by
  obtain ⟨kvs, ed, T, m⟩ := h.ex
  obtain ⟨a, b⟩ := T.cl st _ m x hx
  exact ⟨⟨kvs, ed, T, a⟩, ⟨kvs, ed, T, b⟩⟩
theorem filt_next {α : Type} {l : List α} {i : Nat} {c : α} (p : α → Bool) (h : l[i]? = some c) : (l.take (i + 1)).filter p = (l.take i).filter p ++ (if p c = true then [c] else []) := by
  rw [take_next h, List.filter_append, List.filter_cons, List.filter_nil]
def spLive : Sp := fun vs H Q _ => ∃ (g d t : Addr) (G : G3) (n : Nat) (st : St4), vs = [.ref g, .ref d, .ref t] ∧ H g = some (.tup G.tup) ∧ G.Ok n ∧ H t = some (.tup (stV st)) ∧ OkS n st ∧ Has G n st H d ∧
  ∀ (p : Addr) (us : List V) (H' : Hp), Same H H' → H p = none → H' p = some (.lst us) → SpAt H' us (live G st) → Q (.ref p) H'
section
variable {P : Program} {w : World} {K : PySem.W.Frag} {mg : Str → Option Value} {base : Heap} {f : Addr} {fd : FuncData}
theorem ok_live (F : Fun K "live_splits" "live_splits" s_live_splits f fd) (M : Mgs mg) (Dallowed_splits : Df P w K mg base 2 "allowed_splits" ["given", "stretch"] spAllowed) : FnOk P w K mg base CX0 3 f fd ["given", "counts", "stretch"] spLive := by
  refine F.ok sc_live_splits (fun vs H Q E h => ?_) (fun cdv A outer s H vs Q E hr h => ?_)
  · obtain ⟨g, d, t, G, n, st, rfl, _⟩ := h
    rfl
  obtain ⟨g, d, t, G, n, st, rfl, eg, gok, et, ok, hd, q⟩ := h
  have n12 := gok.few
  refine ⟨_, (pss_cons (ps_set (i := 3) sc_live_splits.nd rfl (.inl rfl) (pe_call Dallowed_splits.ok (hr.mono (by omega)) rfl Dallowed_splits.g Dallowed_splits.kp Dallowed_splits.b .nil pass0 (pa_cons (pv 0) (pa_cons (pv 2) pa_nil))))
    (pss_one (ps_ret (pe_lc (own := [("letters", 4), ("left", 5), ("right", 6)]) (g := gTup K 3 (gCons (gName 4) (gCons (gName 5) (gCons (gName 6) gNil)))) (tt := tAnd (tTr K (tDGet (tVar 1) (tVar 5))) (tTr K (tDGet (tVar 1) (tVar 6)))) rfl sc_live_splits.nd (pi_list (pv 3)) (blkOk_by (N := ["given", "counts", "stretch", "splits", "letters", "left", "right"]) (sc := defScope s_live_splits) (by decide +kernel)) (fun _ _ _ _ _ => (pg_tup rfl (pgs_cons (pg_name (i := 4) sc_live_splits.nd rfl (.inl rfl)) (pgs_cons (pg_name (i := 5) sc_live_splits.nd rfl (.inl rfl)) (pgs_cons (pg_name (i := 6) sc_live_splits.nd rfl (.inl rfl)) pgs_nil))))) (fun _ _ _ _ _ => pts_one (PW.pt (pw_and (pt_truth (pe_dget (Nat.lt_of_le_of_lt (Nat.add_le_add_left (by decide) _) hr.units) (pv 1) (pv 5) (fun _ _ => rfl)) (by intro _; rfl)) (pw_and1 (pt_truth (pe_dget (Nat.lt_of_le_of_lt (Nat.add_le_add_left (by decide) _) hr.units) (pv 1) (pv 6) (fun _ _ => rfl)) (by intro _; rfl)))))) (fun _ _ _ _ _ => (pe_tup (pa_cons (pv 4) (pa_cons (pv 5) (pa_cons (pv 6) pa_nil))))))))), ?_⟩
  refine ⟨_, rfl, _, rfl, g, t, G, n, st, rfl, eg, gok, et, ok, fun p us H1 s1 np ep sp => ?_⟩
  refine ⟨_, rfl, p, rfl, ⟨_, SqL.of ep⟩, fun D nD => ?_⟩
  have q1 := same_new nD (.lst [])
  have hd1 := hd.same s1
  have ll := sp.len
  have sl := spl_len G st st.1
  have st12 : st.1 ≤ 12 := by have := ok.i; omega
  refine lc_list (K := K) (a := p) (xs := us) (fun i H' => Same H1 H' ∧ ∃ vs, H' D = some (.lst vs) ∧ SpAt H' vs (((spl G st).take i).filter (isLive G))) ⟨q1, [], upd_same, .nil⟩ (fun i H' _ hp => SqL.of (hp.1 _ _ ep)) (fun i x H' hx hp => ?_) (fun H' hp => ?_)
  · obtain ⟨sm, vs, eD, sv⟩ := hp
    obtain ⟨pp, l, r, xx, rfl, exx, e1, e2, e3⟩ := sp.get hx
    have e1' := sm _ _ e1
    have e2' := sm _ _ e2
    have e3' := sm _ _ e3
    obtain ⟨hl, hr2⟩ := (hd1.same sm).left (List.mem_of_getElem? exx)
    have vl : vs.length ≤ 12 := by
      rw [sv.len]
      refine Nat.le_trans (List.length_filter_le _ _) ?_
      rw [List.length_take]
      have : (spl G st).length ≤ st.1 := sl
      omega
    have hf := filt_next (isLive G) exx
    refine ⟨pp, _, rfl, SqT.of e1', rfl, _, _, rfl, _, _, rfl, _, _, rfl, rfl, rfl, ?_⟩
    refine ⟨_, rfl, _, rfl, d, _, rfl, hl.get e2', decide (cnt G xx.2.1 ≠ 0), ?_, ?_⟩
    · show _ = ((cnt G xx.2.1 : Int) != 0)
      by_cases z : cnt G xx.2.1 = 0
      · rw [z]; rfl
      · rw [decide_eq_true z]; exact (bne_iff_ne.mpr (by omega)).symm
    cases hA : decide (cnt G xx.2.1 ≠ 0) with
    | false =>
      refine iteF ?_
      have no : isLive G xx = false := by unfold isLive; rw [hA]; rfl
      rw [show ((spl G st).take (i + 1)).filter (isLive G) = ((spl G st).take i).filter (isLive G) by rw [hf, no]; exact List.append_nil _]
      first | exact ⟨sm, vs, eD, sv⟩ | exact iteF ⟨sm, vs, eD, sv⟩
    | true =>
      refine iteT ⟨_, rfl, _, rfl, d, _, rfl, hr2.get e3', decide (cnt G xx.2.2 ≠ 0), ?_, ?_⟩
      · show _ = ((cnt G xx.2.2 : Int) != 0)
        by_cases z : cnt G xx.2.2 = 0
        · rw [z]; rfl
        · rw [decide_eq_true z]; exact (bne_iff_ne.mpr (by omega)).symm
      cases hB : decide (cnt G xx.2.2 ≠ 0) with
      | false =>
        have no : isLive G xx = false := by unfold isLive; rw [hA, hB]; rfl
        rw [show ((spl G st).take (i + 1)).filter (isLive G) = ((spl G st).take i).filter (isLive G) by rw [hf, no]; exact List.append_nil _]
        first | exact ⟨sm, vs, eD, sv⟩ | exact iteF ⟨sm, vs, eD, sv⟩
      | true =>
        have yes : isLive G xx = true := by unfold isLive; rw [hA, hB]; rfl
        rw [show ((spl G st).take (i + 1)).filter (isLive G) = ((spl G st).take i).filter (isLive G) ++ [xx] by rw [hf, yes]; rfl]
        refine ⟨_, rfl, _, rfl, _, rfl, (by show 3 ≤ sizeLine; decide), fun z nz => ?_⟩
        have k1 := same_new nz (.tup [vt xx.1, .ref l, .ref r])
        have eD1 := k1 _ _ eD
        have sm1 := sm.trans k1
        have sv1 := sv.keep (Tw.Same.keepT k1)
        refine ⟨_, eD1, small1000 (by omega), fun b o e => by rw [upd_ne (ne_of_none e nD)]; exact sm1 _ _ e, vs ++ [.ref z], upd_same, ?_⟩
        refine (sv1.app (.cons upd_same (k1 _ _ e2') (k1 _ _ e3') .nil)).keep fun b xs e => ?_
        rw [upd_ne (fun z' => by rw [z', eD1] at e; cases e)]
        exact e
  · obtain ⟨sm, vs, eD, sv⟩ := hp
    have : (spl G st).take us.length = spl G st := by rw [ll, List.take_length]
    rw [this] at sv
    exact q D vs H' (s1.trans sm) (same_none s1 nD) eD sv
end
/-! ### small defs of the law -/
theorem sqT_same {K : PySem.W.Frag} {H H' : Hp} {a : Addr} {xs : List V} (e : Same H H') (h : SqT K H a xs) : SqT K H' a xs := by
  rcases h with (h | ⟨o, h⟩) | h
  · exact .inl (.inl (e _ _ h))
  · exact .inl (.inr ⟨o, e _ _ h⟩)
  · exact .inr h
mutual
theorem dp_same {K : PySem.W.Frag} {H H' : Hp} (e : Same H H') : ∀ {v : V} {d : PyData}, Dp K H v d → Dp K H' v d
  | _, _, .non => .non
  | _, _, .bl b => .bl b
  | _, _, .int i => .int i
  | _, _, .str x => .str x
  | _, _, .lst h a => .lst (e.seq h) (dpAll_same e a)
  | _, _, .tup h a => .tup (sqT_same e h) (dpAll_same e a)
theorem dpAll_same {K : PySem.W.Frag} {H H' : Hp} (e : Same H H') : ∀ {vs : List V} {ds : List PyData}, DpAll K H vs ds → DpAll K H' vs ds
  | _, _, .nil => .nil
  | _, _, .cons h a => .cons (dp_same e h) (dpAll_same e a)
end
def rReprV (K : PySem.W.Frag) : List V → Hp → VK → Prop := fun xs H Q => ∃ (v : V) (d : PyData), xs = [v] ∧ Dp K H v d ∧ okR d = true ∧ wtR d ≤ 1000000 ∧ d.depth ≤ 60 ∧ Q (.str d.shown) H
theorem call_reprV {X : Cx} (hg : X.A.guards = some []) (hu : X.A.units + 64 < cLine) : CallR X (.builtin "repr") (rReprV X.K) := by
  intro pins s σ H xs us Q I r h
  obtain ⟨v, d, rfl, hd, hs, hw, hz, q⟩ := h
  obtain ⟨u, rfl, rx⟩ := vals1 r
  obtain ⟨h1, h2, h3⟩ := shownR d hs
  have fits : d.shown.length ≤ sizeLine := by show _ ≤ 16777216; omega
  have rds := Dp.reads I d v u hd rx
  have fin : ∀ (h' : Heap) (t : Tok) (tk : Tok), (∀ b o, s.heap.get? b = some o → h'.get? b = some o) → EP X pins σ Q (.str d.shown t) { s with heap := h', toks := tk } := fun h' t tk hk => ⟨.str d.shown, H, I.kept (t' := tk) hk, ⟨t, rfl⟩, q⟩
  cases hd with
  | non =>
    cases rx
    simp only [PyData.shown] at fin
    exact PySem.P.repr_of_none (fin s.heap _ _ fun _ _ e => e)
  | bl b =>
    cases rx
    simp only [PyData.shown] at fin
    exact PySem.P.repr_of_bool (fin s.heap _ _ fun _ _ e => e)
  | int i =>
    obtain ⟨t, rfl⟩ := rx
    simp only [PyData.shown] at fin
    simp only [PyData.showable, decide_eq_true_eq] at h2
    exact PySem.P.repr_of_int h2 (fin s.heap _ _ fun _ _ e => e)
  | str x =>
    obtain ⟨t, rfl⟩ := rx
    simp only [PyData.shown] at fin fits
    exact PySem.P.repr_of_str (fin s.heap _ _ fun _ _ e => e) fits
  | lst _ _ =>
    cases rx
    obtain ⟨as, rd⟩ := rds
    exact repr_of_reads' rd h2 (PyData.noDict_hsm h3) hg (by omega) (fun _ _ e => e) (fun h' u tk hk => fin h' u tk hk) fits
  | tup _ _ =>
    cases rx
    obtain ⟨as, rd⟩ := rds
    exact repr_of_reads' rd h2 (PyData.noDict_hsm h3) hg (by omega) (fun _ _ e => e) (fun h' u tk hk => fin h' u tk hk) fits
def rLtD (K : PySem.W.Frag) : V → V → Hp → VK → Prop := fun x y H Q => ∃ d e, Dp K H x d ∧ Dp K H y e ∧ PySem.W.alike d e = true ∧ d ≠ .none ∧ min d.depth e.depth ≤ 60 ∧ Q (.bl (PySem.W.dataLt d e)) H
theorem op_ltD {X : Cx} (hu : X.A.units + 64 < cLine) : OpR X (compareOp .Lt) (rLtD X.K) := by
  intro pins s σ H x y v u Q I rx ry h
  obtain ⟨d, e, hd, he, al, nn, dp, q⟩ := h
  obtain ⟨as, r1⟩ := Dp.reads I d x v hd rx
  obtain ⟨bs, r2⟩ := Dp.reads I e y u he ry
  exact PySem.W.lt_data r1 r2 al nn (by omega) ⟨.bl _, H, I, rfl, q⟩
/-- a tree's key -/
def keyD : B → PyData
  | .nil => .tuple []
  | .node l x r => .tuple [.str (ch x), .int (l.size : Int), keyD l, keyD r]
inductive KeyAt (H : Hp) : V → B → Prop
  | nil {a : Addr} : H a = some (.tup []) → KeyAt H (.ref a) .nil
  | node {a : Addr} {u v : V} {l r : B} {x : Nat} : H a = some (.tup [vc x, .int (l.size : Int), u, v]) → KeyAt H u l → KeyAt H v r → KeyAt H (.ref a) (.node l x r)
theorem KeyAt.keep {H H' : Hp} (k : KeepT H H') {v : V} {t : B} (h : KeyAt H v t) : KeyAt H' v t := by
  induction h with
  | nil e => exact .nil (k _ _ e)
  | node e _ _ h1 h2 => exact .node (k _ _ e) h1 h2
theorem KeyAt.same {H H' : Hp} (k : Same H H') {v : V} {t : B} (h : KeyAt H v t) : KeyAt H' v t := h.keep (Tw.Same.keepT k)
theorem KeyAt.dp {K : PySem.W.Frag} {H : Hp} {v : V} {t : B} (h : KeyAt H v t) : Dp K H v (keyD t) := by
  induction h with
  | nil e => exact .tup (SqT.of e) .nil
  | node e _ _ h1 h2 => exact .tup (SqT.of e) (.cons (.str _) (.cons (.int _) (.cons h1 (.cons h2 .nil))))
def spKey (n : Nat) : Sp := fun vs H Q _ => ∃ (v : V) (b : B), vs = [v] ∧ BAt H v b ∧ b.size < n ∧ b.size ≤ 20 ∧ ∀ (u : Addr) (H' : Hp), Same H H' → KeyAt H' (.ref u) b → Q (.ref u) H'
def spSSizeB (n : Nat) : Sp := fun vs H Q _ => ∃ (v : V) (t : B), vs = [v] ∧ BAt H v t ∧ t.size < n ∧ Q (.int (t.size : Int)) H
def spPow : Sp := fun vs H Q _ => ∃ m : Nat, vs = [.int (m : Int)] ∧ m ≤ 12 ∧ Q (.int ((26 ^ m : Nat) : Int)) H
def spSameI : Sp := fun vs H Q _ => ∃ i : Nat, vs = [.int (i : Int), .int (i : Int)] ∧ i < 10 ^ 30 ∧ ∀ H', Same H H' → Q (.bl true) H'
theorem kit_tl {K : PySem.W.Frag} {a : String} (h1 : kitB a "tuple" = some false) (h2 : kitB a "list" = some false) : PySem.W.kitAny K (.type a) [.type "tuple", .type "list"] = some false := by
  refine kitAny_cons (kit_ty h1) (fun e => kitAny_cons (kit_ty h2) (fun e2 => ?_) fun e2 => ?_) fun e => ?_
  · rw [kitAny_nil]
  · cases e2
  · cases e
section
variable {P : Program} {w : World} {K : PySem.W.Frag} {mg : Str → Option Value} {base : Heap} {f : Addr} {fd : FuncData}
theorem ok_sizeB (F : Fun K "_law_size" "_law_size" s__law_size f fd) (b : Binds K fd ["_law_tree_here"] []) (g : mg "_law_size" = some (.ref f)) : ∀ n : Nat, FnOk P w K mg base CX0 n f fd ["_law_tree_here"] (spSSizeB n)
  | 0 => by
    have no : ∀ vs H Q E, ¬ spSSizeB 0 vs H Q E := fun vs H Q E h => by
      obtain ⟨v, t, _, _, h1, _⟩ := h
      omega
    exact ⟨fun vs H Q E h => absurd h (no vs H Q E), fun A outer s H args us vs Q E _ _ _ _ h => absurd h (no vs H Q E)⟩
  | n + 1 => by
    have Dself : Df P w K mg base n "_law_size" ["_law_tree_here"] (spSSizeB n) := ⟨f, fd, ok_sizeB F b g n, b, F.kp, g⟩
    refine F.ok sc__law_size (fun vs H Q E h => ?_) (fun cdv A outer s H vs Q E hr h => ?_)
    · obtain ⟨v, t, rfl, _⟩ := h
      rfl
    obtain ⟨v, t, rfl, hv, hn, q⟩ := h
    refine ⟨_, (pss_one (ps_ret (pe_ifExp (pt_cmpR op_isN (pv 0) pe_non (nomark _)) pe_int (pe_op op_add (pe_op op_add pe_int (pe_call Dself.ok (hr.mono (by omega)) rfl Dself.g Dself.kp Dself.b .nil pass0 (pa_cons (pe_ix ix_tup (pv 0) pe_int (fun _ _ => rfl)) pa_nil))) (pe_call Dself.ok (hr.mono (by omega)) rfl Dself.g Dself.kp Dself.b .nil pass0 (pa_cons (pe_ix ix_tup (pv 0) (pe_un un_neg pe_int) (fun _ _ => rfl)) pa_nil)))))), ?_⟩
    rcases hv.inv with ⟨rfl, rfl⟩ | ⟨a, l, r, x, tl, tr, rfl, rfl, ea, hl, hr'⟩
    · exact ⟨_, rfl, rfl, _, rfl, iteT q⟩
    · refine ⟨_, rfl, rfl, _, rfl, iteF ?_⟩
      have sz : tl.size + 1 + tr.size < n + 1 := hn
      refine ⟨_, rfl, a, _, _, _, rfl, rfl, SqT.of ea, atI_nat (j := 0) rfl, l, tl, rfl, hl, by omega, _, _, rfl, rfl, ?_⟩
      refine ⟨_, rfl, _, rfl, a, _, _, _, rfl, rfl, SqT.of ea, (show atI [l, .str (ch x), r] (-1) = some r from rfl), r, tr, rfl, hr', by omega, _, _, rfl, rfl, ?_⟩
      have e : ((B.node tl x tr).size : Int) = 1 + (tl.size : Int) + (tr.size : Int) := by
        show ((tl.size + 1 + tr.size : Nat) : Int) = _
        omega
      rw [e] at q
      exact q
theorem ok_sameI (F : Fun K "_law_same" "_law_same" s__law_same f fd) (M : Mgs mg) (mrepr : mg "repr" = none) : FnOkG P w K mg base 1 f fd ["_law_found", "_law_due_here"] spSameI := by
  refine fnG F sc__law_same (fun vs H Q E h => ?_) (fun cdv A outer s H vs Q E gs hr h => ?_)
  · obtain ⟨i, rfl, _⟩ := h
    rfl
  obtain ⟨i, rfl, h30, q⟩ := h
  refine ⟨_, (pss_cons (ps_if (pt_val (pe_callB call_isiT rfl M.isinstance (by decide +kernel) (pa_cons (pv 1) (pa_cons (pe_tup (pa_cons (pe_bltn (v := .ty "tuple") rfl M.tuple (by decide +kernel) rfl) (pa_cons (pe_bltn (v := .ty "list") rfl M.list (by decide +kernel) rfl) pa_nil))) pa_nil))))
      (pss_cons ps_never (pss_cons ps_never (pss_one ps_never))) pss_nil)
    (pss_one (ps_ret (pe_cmpR op_eq (pe_callB (call_reprV gs hr.units) rfl mrepr (by decide +kernel) (pa_cons (pv 0) pa_nil)) (pe_callB (call_reprV gs hr.units) rfl mrepr (by decide +kernel) (pa_cons (pv 1) pa_nil)) (nomark _))))), ?_⟩
  refine ⟨_, rfl, (by show 2 ≤ sizeLine; decide), fun tp np => ?_⟩
  have k1 := same_new np (.tup [.ty "tuple", .ty "list"])
  refine ⟨.int (i : Int), tp, _, _, _, false, rfl, upd_same, .cons (.ty _) (.cons (.ty _) .nil), .base (.int _), kit_tl (by decide +kernel) (by decide +kernel), _, rfl, iteF ?_⟩
  have okI : okR (.int (i : Int)) = true := by
    simp only [okR, Bool.and_eq_true, decide_eq_true_eq]
    exact ⟨by omega, by omega⟩
  have wtI : wtR (.int (i : Int)) ≤ 1000000 := by show 31 ≤ 1000000; decide
  have dpI : (PyData.int (i : Int)).depth ≤ 60 := by show 0 ≤ 60; decide
  refine ⟨_, rfl, .int (i : Int), .int (i : Int), rfl, .int _, okI, wtI, dpI, _, rfl, .int (i : Int), .int (i : Int), rfl, .int _, okI, wtI, dpI, rfl, ?_⟩
  rw [decide_eq_true rfl]
  exact q _ k1
end
/-! ### the count by all shapes -/
def shL : Nat → List (List S)
  | 0 => [[.nil]]
  | n + 1 => shL n ++ [(List.range (n + 1)).flatMap fun s => ((shL n).getD s []).flatMap fun l => ((shL n).getD (n - s) []).map fun r => .node l r]
def shapes (n : Nat) : List S := (shL n).getD n []
theorem shL_len : ∀ n : Nat, (shL n).length = n + 1
  | 0 => rfl
  | n + 1 => by
    show (shL n ++ [_]).length = _
    rw [List.length_append, shL_len n]; rfl
theorem shL_get {i : Nat} : ∀ n : Nat, i ≤ n → (shL n).getD i [] = shapes i
  | 0, h => by
    have : i = 0 := by omega
    subst this; rfl
  | n + 1, h => by
    by_cases e : i = n + 1
    · subst e; rfl
    · rw [← shL_get n (by omega)]
      show (shL n ++ [_]).getD i [] = _
      rw [List.getD_eq_getElem?_getD, List.getD_eq_getElem?_getD, List.getElem?_append_left (by rw [shL_len]; omega)]
theorem fm_congr {α β : Type} {f g : α → List β} : ∀ {l : List α}, (∀ x ∈ l, f x = g x) → l.flatMap f = l.flatMap g
  | [], _ => rfl
  | x :: l, h => by rw [List.flatMap_cons, List.flatMap_cons, h x List.mem_cons_self, fm_congr fun y hy => h y (List.mem_cons_of_mem _ hy)]
theorem shapes_succ (n : Nat) : shapes (n + 1) = (List.range (n + 1)).flatMap fun s => (shapes s).flatMap fun l => (shapes (n - s)).map fun r => .node l r := by
  show (shL n ++ [_]).getD (n + 1) [] = _
  rw [List.getD_eq_getElem?_getD, List.getElem?_append_right (by rw [shL_len]; omega), shL_len, Nat.sub_self]
  show ((List.range (n + 1)).flatMap fun s => ((shL n).getD s []).flatMap fun l => ((shL n).getD (n - s) []).map fun r => S.node l r) = _
  refine fm_congr fun s hs => ?_
  have := List.mem_range.mp hs
  rw [shL_get n (by omega), shL_get n (by omega)]
theorem shapes_size : ∀ (n : Nat) (x : S), x ∈ shapes n → x.size = n := by
  intro n
  induction n using Nat.strongRecOn with
  | ind n ih =>
    intro x hx
    match n, ih, hx with
    | 0, _, hx =>
      rw [List.mem_singleton.mp hx]; rfl
    | n + 1, ih, hx =>
      rw [shapes_succ] at hx
      obtain ⟨s, hs, hx⟩ := List.mem_flatMap.mp hx
      obtain ⟨l, hl, hx⟩ := List.mem_flatMap.mp hx
      obtain ⟨r, hr, rfl⟩ := List.mem_map.mp hx
      have := List.mem_range.mp hs
      have h1 := ih s (by omega) l hl
      have h2 := ih (n - s) (by omega) r hr
      show 1 + l.size + r.size = n + 1
      omega
/-- the letters of a shape's nodes at a stretch, the root first -/
def letsOf (G : G3) : S → St4 → List (List Nat)
  | .nil, _ => []
  | .node l r, t => letS G t l.size :: (letsOf G l (leftS t l.size) ++ letsOf G r (rightS t l.size))
def prodL (l : List (List Nat)) : Nat := (l.map List.length).foldr (· * ·) 1
theorem prodL_app : ∀ l m : List (List Nat), prodL (l ++ m) = prodL l * prodL m
  | [], m => (Nat.one_mul _).symm
  | x :: l, m => by
    show x.length * prodL (l ++ m) = x.length * prodL l * prodL m
    rw [prodL_app l m, Nat.mul_assoc]
theorem sum_times_l {α : Type} (g : α → Nat) (k : Nat) : ∀ l : List α, (l.map fun x => k * g x).sum = k * (l.map g).sum
  | [] => (Nat.mul_zero _).symm
  | x :: l => by rw [List.map_cons, List.sum_cons, List.map_cons, List.sum_cons, sum_times_l g k l, Nat.mul_add]
theorem sum_flat {α β : Type} (g : α → List β) (v : β → Nat) (f : α → Nat) : ∀ l : List α, (∀ x ∈ l, ((g x).map v).sum = f x) → ((l.flatMap g).map v).sum = (l.map f).sum
  | [], _ => rfl
  | x :: l, h => by
    rw [List.flatMap_cons, List.map_append, List.sum_append, List.map_cons, List.sum_cons, h x List.mem_cons_self, sum_flat g v f l fun y hy => h y (List.mem_cons_of_mem _ hy)]
theorem sum_times_r {α : Type} (g : α → Nat) (k : Nat) : ∀ l : List α, (l.map fun x => g x * k).sum = (l.map g).sum * k
  | [] => (Nat.zero_mul _).symm
  | x :: l => by rw [List.map_cons, List.sum_cons, List.map_cons, List.sum_cons, sum_times_r g k l, Nat.add_mul]
theorem cnt_shapes {G : G3} : ∀ (m : Nat) (t : St4), t.1 = m → cnt G t = ((shapes m).map fun x => prodL (letsOf G x t)).sum := by
  intro m
  induction m using Nat.strongRecOn with
  | ind m ih =>
    intro t ht
    rw [cnt_eq]
    split
    · next z =>
      have : m = 0 := by omega
      subst this; rfl
    · next z =>
      obtain ⟨j, rfl⟩ : ∃ j, m = j + 1 := ⟨m - 1, by omega⟩
      rw [shapes_succ]
      unfold spl
      rw [sum_flat (splAt G t) (term G) (fun s => (letS G t s).length * cnt G (leftS t s) * cnt G (rightS t s)), ht]
      · rw [sum_flat _ _ (fun s => (letS G t s).length * cnt G (leftS t s) * cnt G (rightS t s))]
        intro s hs
        have hs := List.mem_range.mp hs
        have h2 : (rightS t s).1 = j - s := by show t.1 - 1 - s = _; omega
        rw [ih s (by omega) (leftS t s) rfl, ih (j - s) (by omega) (rightS t s) h2]
        rw [sum_flat _ _ (fun l => ((letS G t s).length * prodL (letsOf G l (leftS t s))) * ((shapes (j - s)).map fun x => prodL (letsOf G x (rightS t s))).sum)]
        · rw [sum_times_r, sum_times_l]
        · intro l hl
          have sz := shapes_size s l hl
          rw [List.map_map, ← sum_times_l]
          refine congrArg List.sum (List.map_congr_left fun r hr => ?_)
          show (letS G t l.size).length * prodL (letsOf G l (leftS t l.size) ++ letsOf G r (rightS t l.size)) = _
          rw [prodL_app, sz, Nat.mul_assoc]
      · intro s hs
        unfold splAt
        split
        · next e => rw [e]; simp
        · rw [List.map_cons, List.map_nil, List.sum_cons, List.sum_nil, Nat.add_zero]
          rfl
/-! ### the letter that three signs tell -/
/-- as the law tells it: "?" if no sign tells one, "" if they contradict one another -/
def lettOf (l : List Nat) : List Nat := match knownL l with
  | [] => [63]
  | c :: r => if c :: r = List.replicate (r.length + 1) c then [c] else []
theorem comm_lett (l : List Nat) : (comm l).length = if lettOf l = [] then 0 else if lettOf l = [63] then 26 else 1 := by
  unfold comm lettOf
  cases h : knownL l with
  | nil => rfl
  | cons c r =>
    have hc : c ≠ 63 := by
      have : c ∈ knownL l := by rw [h]; exact List.mem_cons_self
      exact of_decide_eq_true (List.mem_filter.mp this).2
    show (if c :: r = List.replicate (r.length + 1) c then [c] else []).length = if (if c :: r = List.replicate (r.length + 1) c then [c] else []) = [] then 0 else if (if c :: r = List.replicate (r.length + 1) c then [c] else []) = [63] then 26 else 1
    by_cases e : c :: r = List.replicate (r.length + 1) c
    · rw [if_pos e, if_neg (by simp), if_neg (by simpa using hc)]
      rfl
    · rw [if_neg e, if_pos rfl]
      rfl
theorem prod_lett : ∀ ls : List (List Nat), prodL (ls.map comm) = if [] ∈ ls.map lettOf then 0 else 26 ^ ((ls.map lettOf).count [63])
  | [] => rfl
  | l :: ls => by
    have ih := prod_lett ls
    show (comm l).length * prodL (ls.map comm) = _
    rw [ih, comm_lett, List.map_cons]
    by_cases e0 : lettOf l = []
    · rw [if_pos e0, e0, if_pos List.mem_cons_self, Nat.zero_mul]
    rw [if_neg e0]
    by_cases em : [] ∈ ls.map lettOf
    · rw [if_pos em, if_pos (List.mem_cons_of_mem _ em), Nat.mul_zero]
    · have en : ¬ [] ∈ lettOf l :: ls.map lettOf := fun h => by
        rcases List.mem_cons.mp h with h | h
        · exact e0 h.symm
        · exact em h
      rw [if_neg em, if_neg en]
      by_cases e63 : lettOf l = [63]
      · rw [if_pos e63, e63, List.count_cons_self, Nat.pow_succ, Nat.mul_comm]
      · rw [if_neg e63, Nat.one_mul, List.count_cons_of_ne e63]
/-- the places of a shape's nodes in the three walks, the root first -/
def spotsOf : S → Nat → Nat → Nat → List (Nat × Nat × Nat)
  | .nil, _, _, _ => []
  | .node l r, a, b, c => (a, b + l.size, c + (1 + l.size + r.size) - 1) :: (spotsOf l (a + 1) b c ++ spotsOf r (a + 1 + l.size) (b + l.size + 1) (c + l.size))
def sigs (G : G3) (p : Nat × Nat × Nat) : List Nat := [G.a.getD p.1 63, G.b.getD p.2.1 63, G.c.getD p.2.2 63]
theorem lets_spots {G : G3} : ∀ (x : S) (t : St4), t.1 = x.size → letsOf G x t = (spotsOf x t.2.1 t.2.2.1 t.2.2.2).map fun p => comm (sigs G p)
  | .nil, _, _ => rfl
  | .node l r, (m, i, j, k), h => by
    have h : m = 1 + l.size + r.size := h
    subst h
    have h1 := lets_spots (G := G) l (leftS (1 + l.size + r.size, i, j, k) l.size) rfl
    have h2 := lets_spots (G := G) r (rightS (1 + l.size + r.size, i, j, k) l.size) (by show 1 + l.size + r.size - 1 - l.size = r.size; omega)
    show letS G (1 + l.size + r.size, i, j, k) l.size :: (letsOf G l _ ++ letsOf G r _) = _
    rw [h1, h2]
    show _ = (comm (sigs G (i, j + l.size, k + (1 + l.size + r.size) - 1))) :: ((spotsOf l (i + 1) j k ++ spotsOf r (i + 1 + l.size) (j + l.size + 1) (k + l.size)).map fun p => comm (sigs G p))
    rw [List.map_append]
    rfl
/-- the law's number -/
def lawNum (G : G3) (n : Nat) : Nat := ((shapes n).map fun x => if [] ∈ ((spotsOf x 0 0 0).map fun p => lettOf (sigs G p)) then 0 else 26 ^ (((spotsOf x 0 0 0).map fun p => lettOf (sigs G p)).count [63])).sum
theorem law_num (G : G3) (n : Nat) : cnt G (wholeS n) = lawNum G n := by
  rw [cnt_shapes n (wholeS n) rfl]
  unfold lawNum
  refine congrArg List.sum (List.map_congr_left fun x hx => ?_)
  rw [lets_spots x (wholeS n) (shapes_size n x hx).symm]
  have := prod_lett ((spotsOf x 0 0 0).map (sigs G))
  rw [List.map_map, List.map_map] at this
  exact this
/-! ### _law_spots -/
inductive TsAt (H : Hp) : List V → List (Nat × Nat × Nat) → Prop
  | nil : TsAt H [] []
  | cons {q : Addr} {x : Nat × Nat × Nat} {us : List V} {xs : List (Nat × Nat × Nat)} : H q = some (.tup [.int (x.1 : Int), .int (x.2.1 : Int), .int (x.2.2 : Int)]) → TsAt H us xs → TsAt H (.ref q :: us) (x :: xs)
theorem TsAt.same {H H' : Hp} (k : Same H H') {us : List V} {xs : List (Nat × Nat × Nat)} (h : TsAt H us xs) : TsAt H' us xs := by
  induction h with
  | nil => exact .nil
  | cons e _ ih => exact .cons (k _ _ e) ih
theorem TsAt.app {H : Hp} {us vs : List V} {xs ys : List (Nat × Nat × Nat)} (h : TsAt H us xs) (g : TsAt H vs ys) : TsAt H (us ++ vs) (xs ++ ys) := by
  induction h with
  | nil => exact g
  | cons e _ ih => exact .cons e ih
theorem TsAt.len {H : Hp} {us : List V} {xs : List (Nat × Nat × Nat)} (h : TsAt H us xs) : us.length = xs.length := by
  induction h with
  | nil => rfl
  | cons _ _ ih => exact congrArg Nat.succ ih
theorem spots_len : ∀ (x : S) (a b c : Nat), (spotsOf x a b c).length = x.size
  | .nil, _, _, _ => rfl
  | .node l r, a, b, c => by
    show (spotsOf l _ _ _ ++ spotsOf r _ _ _).length + 1 = 1 + l.size + r.size
    rw [List.length_append, spots_len l, spots_len r]
    omega
def spSpots (n : Nat) : Sp := fun vs H Q _ => ∃ (v : V) (x : S) (a b c : Nat), vs = [v, .int (a : Int), .int (b : Int), .int (c : Int)] ∧ ShAt H v x ∧ x.size < n ∧ x.size ≤ 12 ∧ ∀ (p : Addr) (us : List V) (H' : Hp), Same H H' → H' p = some (.lst us) → TsAt H' us (spotsOf x a b c) → Q (.ref p) H'
section
variable {P : Program} {w : World} {K : PySem.W.Frag} {mg : Str → Option Value} {base : Heap} {f : Addr} {fd : FuncData}
theorem ok_lspots (F : Fun K "_law_spots" "_law_spots" s__law_spots f fd) (b : Binds K fd ["_law_shape_here", "_law_a", "_law_b", "_law_c"] []) (g : mg "_law_spots" = some (.ref f)) (D_law_size : Df P w K mg base 30 "_law_size" ["_law_tree_here"] (spSSize 30)) : ∀ n : Nat, FnOk P w K mg base CX0 (30 + n) f fd ["_law_shape_here", "_law_a", "_law_b", "_law_c"] (spSpots n)
  | 0 => by
    have no : ∀ vs H Q E, ¬ spSpots 0 vs H Q E := fun vs H Q E h => by
      obtain ⟨v, x, a, b, c, _, _, h1, _⟩ := h
      omega
    exact ⟨fun vs H Q E h => absurd h (no vs H Q E), fun A outer s H args us vs Q E _ _ _ _ h => absurd h (no vs H Q E)⟩
  | n + 1 => by
    have Dself : Df P w K mg base (30 + n) "_law_spots" ["_law_shape_here", "_law_a", "_law_b", "_law_c"] (spSpots n) := ⟨f, fd, ok_lspots F b g D_law_size n, b, F.kp, g⟩
    refine F.ok (k := 30 + n) sc__law_spots (fun vs H Q E h => ?_) (fun cdv A outer s H vs Q E hr h => ?_)
    · obtain ⟨v, x, a, b, c, rfl, _⟩ := h
      rfl
    obtain ⟨v, x, a, bb, c, rfl, hv, hn, h12, q⟩ := h
    refine ⟨_, (pss_cons (ps_if (pt_cmpR op_isN (pv 0) pe_non (nomark _))
      (pss_one (ps_ret (pe_lst pa_nil))) pss_nil)
    (pss_cons (ps_par (i := 4) (j := 5) (by rfl) sc__law_spots.nd rfl rfl (by decide) rfl rfl (pa_cons (pe_call D_law_size.ok (hr.mono (by omega)) rfl D_law_size.g D_law_size.kp D_law_size.b .nil pass0 (pa_cons (pv 0) pa_nil)) (pa_cons (pe_call D_law_size.ok (hr.mono (by omega)) rfl D_law_size.g D_law_size.kp D_law_size.b .nil pass0 (pa_cons (pe_ix ix_tup (pv 0) pe_int (fun _ _ => rfl)) pa_nil)) pa_nil)) (by rfl))
    (pss_cons (ps_set (i := 6) sc__law_spots.nd rfl (.inl rfl) (pe_op op_cat (pe_lst (pa_cons (pe_tup (pa_cons (pv 1) (pa_cons (pe_op op_add (pv 2) (pv 5)) (pa_cons (pe_op op_sub (pe_op op_add (pv 3) (pv 4)) pe_int) pa_nil)))) pa_nil)) (pe_call Dself.ok (hr.mono (by omega)) rfl Dself.g Dself.kp Dself.b .nil pass0 (pa_cons (pe_ix ix_tup (pv 0) pe_int (fun _ _ => rfl)) (pa_cons (pe_op op_add (pv 1) pe_int) (pa_cons (pv 2) (pa_cons (pv 3) pa_nil)))))))
    (pss_one (ps_ret (pe_op op_cat (pv 6) (pe_call Dself.ok (hr.mono (by omega)) rfl Dself.g Dself.kp Dself.b .nil pass0 (pa_cons (pe_ix ix_tup (pv 0) (pe_un un_neg pe_int) (fun _ _ => rfl)) (pa_cons (pe_op op_add (pe_op op_add (pv 1) pe_int) (pv 5)) (pa_cons (pe_op op_add (pe_op op_add (pv 2) (pv 5)) pe_int) (pa_cons (pe_op op_add (pv 3) (pv 5)) pa_nil))))))))))), ?_⟩
    rcases hv.inv with ⟨rfl, rfl⟩ | ⟨ad, l, r, tl, tr, rfl, rfl, ea, hl, hr'⟩
    · refine ⟨_, rfl, rfl, _, rfl, iteT ⟨(by show 0 ≤ sizeLine; decide), fun p np => ?_⟩⟩
      exact q p [] _ (same_new np _) upd_same .nil
    · have sz : 1 + tl.size + tr.size < n + 1 := hn
      have s12 : 1 + tl.size + tr.size ≤ 12 := h12
      refine ⟨_, rfl, rfl, _, rfl, iteF ?_⟩
      refine ⟨_, rfl, _, .node tl tr, rfl, hv, by show 1 + tl.size + tr.size < 30; omega, _, rfl, ad, _, _, _, rfl, rfl, SqT.of ea, atI_nat (j := 0) rfl, l, tl, rfl, hl, by omega, _, _, rfl, ?_⟩
      have e3 : (c : Int) + ((S.node tl tr).size : Int) - 1 = ((c + (1 + tl.size + tr.size) - 1 : Nat) : Int) := by
        show (c : Int) + ((1 + tl.size + tr.size : Nat) : Int) - 1 = _
        omega
      refine ⟨_, rfl, _, rfl, _, rfl, _, _, rfl, rfl, _, rfl, _, rfl, _, _, rfl, rfl, _, _, rfl, rfl, (by show 3 ≤ sizeLine; decide), fun q1 nq1 => ?_⟩
      have k1 := same_new nq1 (.tup [.int (a : Int), .int ((bb : Int) + (tl.size : Int)), .int ((c : Int) + ((S.node tl tr).size : Int) - 1)])
      have eq1 := upd_same (H := H) (a := q1) (o := .tup [.int (a : Int), .int ((bb : Int) + (tl.size : Int)), .int ((c : Int) + ((S.node tl tr).size : Int) - 1)])
      generalize upd H q1 (.tup [.int (a : Int), .int ((bb : Int) + (tl.size : Int)), .int ((c : Int) + ((S.node tl tr).size : Int) - 1)]) = H1 at k1 eq1 ⊢
      rw [e3] at eq1
      refine ⟨(by show 1 ≤ sizeLine; decide), fun p1 np1 => ?_⟩
      have k2 := same_new np1 (.lst [.ref q1])
      have ep1 := upd_same (H := H1) (a := p1) (o := .lst [.ref q1])
      have eq2 := k2 _ _ eq1
      generalize upd H1 p1 (.lst [.ref q1]) = H2 at k2 ep1 eq2 ⊢
      have s12' := k1.trans k2
      refine ⟨_, rfl, ad, _, _, _, rfl, rfl, SqT.of (s12' _ _ ea), atI_nat (j := 0) rfl, _, rfl, _, _, rfl, rfl, _, rfl, _, rfl, l, tl, a + 1, bb, c, rfl, hl.same s12', by omega, by omega, fun p2 us2 H3 s3 e2 t2 => ?_⟩
      have l2 := t2.len
      rw [spots_len] at l2
      refine ⟨p1, p2, _, _, rfl, rfl, s3 _ _ ep1, e2, Nat.le_of_lt (small1000 (by show 1 + us2.length ≤ 1000; omega)), fun p3 np3 => ?_⟩
      have k4 := same_new np3 (.lst ([.ref q1] ++ us2))
      have ep3 := upd_same (H := H3) (a := p3) (o := .lst ([.ref q1] ++ us2))
      generalize upd H3 p3 (.lst ([.ref q1] ++ us2)) = H4 at k4 ep3 ⊢
      have s4 := s12'.trans (s3.trans k4)
      refine ⟨_, rfl, _, rfl, _, rfl, ad, _, _, _, rfl, rfl, SqT.of (s4 _ _ ea), (show atI [l, r] (-1) = some r from rfl), _, rfl, _, _, rfl, rfl, _, rfl, _, _, rfl, rfl, _, rfl, _, rfl, _, _, rfl, rfl, _, _, rfl, rfl, _, rfl, _, rfl, _, _, rfl, rfl, r, tr, a + 1 + tl.size, bb + tl.size + 1, c + tl.size, rfl, hr'.same s4, by omega, by omega, fun p5 us5 H5 s5 e5 t5 => ?_⟩
      have l5 := t5.len
      rw [spots_len] at l5
      refine ⟨p3, p5, _, _, rfl, rfl, s5 _ _ ep3, e5, Nat.le_of_lt (small1000 (by rw [List.length_append]; show 1 + us2.length + us5.length ≤ 1000; omega)), fun p6 np6 => ?_⟩
      have k6 := same_new np6 (.lst ([.ref q1] ++ us2 ++ us5))
      refine q p6 _ _ (s4.trans (s5.trans k6)) upd_same ?_
      have sq := (s3.trans k4).trans (s5.trans k6)
      exact TsAt.app (us := [.ref q1] ++ us2) (TsAt.app (us := [.ref q1]) (xs := [(a, bb + tl.size, c + (1 + tl.size + tr.size) - 1)]) (.cons (sq _ _ eq2) .nil) (t2.same (k4.trans (s5.trans k6)))) (t5.same k6)
end
/-! ### _law_letter -/
def spLetter : Sp := fun vs H Q _ => ∃ (p s : Addr) (a b c : List Nat) (i j k : Nat), vs = [.ref p, .ref s] ∧ H p = some (.tup [vt a, vt b, vt c]) ∧ H s = some (.tup [.int (i : Int), .int (j : Int), .int (k : Int)]) ∧ i < a.length ∧ j < b.length ∧ k < c.length ∧ a.length ≤ 12 ∧ b.length ≤ 12 ∧ c.length ≤ 12 ∧ (∀ y ∈ a ++ b ++ c, y < 128) ∧
  ∀ H', Same H H' → Q (vt (lettOf [a.getD i 63, b.getD j 63, c.getD k 63])) H'
theorem known_snoc (l : List Nat) (x : Nat) : knownL (l ++ [x]) = knownL l ++ if x ≠ 63 then [x] else [] := by
  unfold knownL
  rw [List.filter_append]
  by_cases h : x = 63 <;> simp [h]
theorem if_f {b : Bool} {p q : Prop} (e : b = false) (h : q) : if b = true then p else q := by subst e; exact h
theorem if_t {b : Bool} {p q : Prop} (e : b = true) (h : p) : if b = true then p else q := by subst e; exact h
def chsD (l : List Nat) : List PyData := l.map fun c => .str (ch c)
theorem dp_chs {K : PySem.W.Frag} {H : Hp} : ∀ l : List Nat, DpAll K H (l.map vc) (chsD l)
  | [] => .nil
  | _ :: l => .cons (.str _) (dp_chs l)
theorem eqv_ch (a b : Nat) : PyData.eqv (.str (ch a)) (.str (ch b)) = decide (a = b) := by
  by_cases h : a = b
  · subst h; rw [decide_eq_true rfl]; simp [PyData.eqv]
  · rw [decide_eq_false h]
    have : ¬ ch a = ch b := fun z => h (ch_inj z)
    simp [PyData.eqv, this]
theorem eqv_chs : ∀ l m : List Nat, PyData.eqv (.list (chsD l)) (.list (chsD m)) = decide (l = m)
  | [], [] => by simp [chsD, PyData.eqv, PyData.eqvAll]
  | [], _ :: _ => by simp [chsD, PyData.eqv, PyData.eqvAll]
  | _ :: _, [] => by simp [chsD, PyData.eqv, PyData.eqvAll]
  | a :: l, b :: m => by
    have ih := eqv_chs l m
    have e := eqv_ch a b
    simp only [chsD, List.map_cons, PyData.eqv, PyData.eqvAll] at ih e ⊢
    rw [ih, e]
    by_cases h1 : a = b <;> by_cases h2 : l = m <;> simp [h1, h2]
theorem str_ok {a : Nat} (h : a < 128) : PyData.strOk (ch a) = true := by
  simp [PyData.strOk, ch]
  omega
theorem shaped_chs (l : List Nat) (hl : ∀ c ∈ l, c < 128) : SeqAt.shaped (.list (chsD l)) = true := by
  have h : ∀ l : List Nat, (∀ c ∈ l, c < 128) → PyData.canLayAll0 (chsD l) = true ∧ PyData.depthAll (chsD l) = 0 := fun l => by
    induction l with
    | nil => exact fun _ => ⟨by simp [chsD, PyData.canLayAll0], by simp [chsD, PyData.depthAll]⟩
    | cons a l ih =>
      intro hl
      obtain ⟨h1, h2⟩ := ih fun c hc => hl c (List.mem_cons_of_mem _ hc)
      have ha := hl a List.mem_cons_self
      have hs : PySem.PyData.canLay0 (.str (ch a)) = true := by
        simp only [PyData.canLay0]
        exact str_ok ha
      unfold chsD at *
      simp [PyData.canLayAll0, PyData.depthAll, PyData.depth, hs, h1, h2]
  obtain ⟨h1, h2⟩ := h l hl
  simp [SeqAt.shaped, PyData.canLay0, PyData.depth, h1, h2]
section
variable {P : Program} {w : World} {K : PySem.W.Frag} {mg : Str → Option Value} {base : Heap} {f : Addr} {fd : FuncData}
theorem ok_letter (F : Fun K "_law_letter" "_law_letter" s__law_letter f fd) (M : Mgs mg) : FnOk P w K mg base CX0 1 f fd ["_law_rows_here", "_law_spot"] spLetter := by
  refine F.ok sc__law_letter (fun vs H Q E h => ?_) (fun cdv A outer s H vs Q E hr h => ?_)
  · obtain ⟨p, s, a, b, c, i, j, k, rfl, _⟩ := h
    rfl
  obtain ⟨p, sp, a, b, c, i, j, k, rfl, ep, es, hi, hj, hk, la, lb, lc, all, q⟩ := h
  refine ⟨_, (pss_cons (ps_setLc (i := 3) (own := [("_law_k", 2)]) (g := gName 2) (by rfl) sc__law_letter.nd rfl rfl (sw_true rfl rfl rfl (by decide +kernel)) (pi_range1 rfl M.range (pa_cons pe_int pa_nil)) (blkOk_by (N := ["_law_rows_here", "_law_spot", "_law_k", "_law_known"]) (sc := defScope s__law_letter) (by decide +kernel)) (fun _ _ _ _ _ => (pg_name (i := 2) sc__law_letter.nd rfl (.inl rfl))) (fun _ _ _ _ _ => pts_one (pt_cmpR op_ne (pe_ix ix_str (pe_ix (show IxR _ (rIxT K) from ix_tup) (pv 0) (pv 2) (fun _ _ => rfl)) (pe_ix (show IxR _ (rIxT K) from ix_tup) (pv 1) (pv 2) (fun _ _ => rfl)) (fun _ _ => rfl)) pe_str (nomark _))) (fun _ _ _ _ _ => (pe_ix ix_str (pe_ix (show IxR _ (rIxT K) from ix_tup) (pv 0) (pv 2) (fun _ _ => rfl)) (pe_ix (show IxR _ (rIxT K) from ix_tup) (pv 1) (pv 2) (fun _ _ => rfl)) (fun _ _ => rfl))))
    (pss_cons (ps_if (pt_cmpR (op_eqD hr.units) (pv 3) (pe_lst pa_nil) (nomark _))
      (pss_one (ps_ret pe_str)) pss_nil)
    (pss_one (ps_ret (pe_ifExp (pt_cmpR (op_eqD hr.units) (pv 3) (pe_op op_rep (pe_lst (pa_cons (pe_ix ix_list (pv 3) pe_int (fun _ _ => rfl)) pa_nil)) (pe_callB call_len_seq rfl M.len PySem.boot_len (pa_cons (pv 3) pa_nil))) (nomark _)) (pe_ix ix_list (pv 3) pe_int (fun _ _ => rfl)) pe_str))))), ?_⟩
  let sg : List Nat := [a.getD i 63, b.getD j 63, c.getD k 63]
  refine ⟨3, rfl, by decide, by decide, fun L nL => ?_⟩
  have kL := same_new nL (.lst [])
  refine lc_range (lo := 0) (n := 3) (fun m H' => Same H H' ∧ H' L = some (.lst ((knownL (sg.take m)).map vc))) ⟨kL, upd_same⟩ (fun m H' hm hp => ?_) (fun H2 hp => ?_)
  · obtain ⟨s2, eL⟩ := hp
    have ep2 := s2 _ _ ep
    have es2 := s2 _ _ es
    obtain ⟨r, o, g1, g2, g3, lr⟩ : ∃ (r : List Nat) (o : Nat), atI [vt a, vt b, vt c] (0 + (m : Int)) = some (vt r) ∧ atI [V.int (i : Int), .int (j : Int), .int (k : Int)] (0 + (m : Int)) = some (.int (o : Int)) ∧ sg[m]? = some (r.getD o 63) ∧ o < r.length ∧ r.length ≤ 12 := by
      match m, hm with
      | 0, _ => exact ⟨a, i, rfl, rfl, rfl, hi, la⟩
      | 1, _ => exact ⟨b, j, rfl, rfl, rfl, hj, lb⟩
      | 2, _ => exact ⟨c, k, rfl, rfl, rfl, hk, lc⟩
    have g4 : atI (tx r).cps.toList (o : Int) = some (r.getD o 63) := getD_at lr.1
    have nx : knownL (sg.take (m + 1)) = knownL (sg.take m) ++ if r.getD o 63 ≠ 63 then [r.getD o 63] else [] := by rw [take_next g3, known_snoc]
    refine ⟨rfl, ?_⟩
    refine ⟨_, rfl, _, rfl, p, _, _, _, rfl, rfl, SqT.of ep2, g1, _, rfl, _, rfl, sp, _, _, _, rfl, rfl, SqT.of es2, g2, ?_⟩
    refine ⟨_, _, _, rfl, rfl, small (by rw [tx_len]; omega), g4, rfl, _, rfl, ?_⟩
    by_cases h : r.getD o 63 = 63
    · refine if_f (by show (!decide (V.str (ch (r.getD o 63)) = V.str (Str.ofString "?"))) = false; rw [h, str_q, decide_eq_true rfl]; rfl) ⟨s2, ?_⟩
      rw [nx, if_neg (by simpa using h), List.append_nil]
      exact eL
    · refine if_t (by show (!decide (V.str (ch (r.getD o 63)) = V.str (Str.ofString "?"))) = true; rw [str_q, decide_eq_false (fun z => h (ch_inj (V.str.inj z)))]; rfl) ?_
      refine ⟨_, rfl, _, rfl, p, _, _, _, rfl, rfl, SqT.of ep2, g1, _, rfl, _, rfl, sp, _, _, _, rfl, rfl, SqT.of es2, g2, ?_⟩
      refine ⟨_, _, _, rfl, rfl, small (by rw [tx_len]; omega), g4, _, eL, ?_, fun b' o' e' => ?_, ?_⟩
      · rw [List.length_map]
        have h1 : (knownL (sg.take m)).length ≤ (sg.take m).length := List.length_filter_le _ _
        rw [List.length_take] at h1
        exact small1000 (by omega)
      · rw [upd_ne (ne_of_none e' nL)]; exact s2 _ _ e'
      · rw [upd_same, nx, if_pos h, List.map_append]; rfl
  · obtain ⟨s2, eL⟩ := hp
    have eL : H2 L = some (.lst ((knownL sg).map vc)) := eL
    have gm : ∀ (x : List Nat) (o : Nat), o < x.length → x.getD o 63 ∈ x := fun x o ho => by
      rw [List.getD_eq_getElem?_getD, List.getElem?_eq_getElem ho]
      exact List.getElem_mem _
    have sgl : ∀ y ∈ knownL sg, y < 128 := fun y hy => by
      have hy := (List.mem_filter.mp hy).1
      rcases List.mem_cons.mp hy with rfl | hy
      · exact all _ (List.mem_append_left _ (List.mem_append_left _ (gm a i hi)))
      rcases List.mem_cons.mp hy with rfl | hy
      · exact all _ (List.mem_append_left _ (List.mem_append_right _ (gm b j hj)))
      · rw [List.mem_singleton.mp hy]
        exact all _ (List.mem_append_right _ (gm c k hk))
    have lk : (knownL sg).length ≤ 3 := List.length_filter_le _ _
    have q : ∀ H', Same H H' → Q (vt (lettOf sg)) H' := q
    refine ⟨_, rfl, (by show 0 ≤ sizeLine; decide), fun z nz => ?_⟩
    have kz := same_new nz (.lst [])
    have eLz := kz _ _ eL
    refine ⟨_, _, .lst (SqL.of eLz) (dp_chs (knownL sg)), .lst (SqL.of upd_same) (dp_chs []), shaped_chs _ sgl, shaped_chs _ (fun c h => nomatch h), _, rfl, ?_⟩
    rw [eqv_chs]
    unfold lettOf at q
    generalize upd H2 z (.lst []) = H3 at kz eLz ⊢
    have s3 := s2.trans kz
    cases hk : knownL sg with
    | nil =>
      rw [hk] at q
      refine if_t (decide_eq_true rfl) ?_
      have := q H3 s3
      show Q (V.str (Str.ofString "?")) H3
      rw [str_q]
      exact this
    | cons c0 r0 =>
      rw [hk] at q eLz lk sgl
      have lk : r0.length + 1 ≤ 3 := lk
      refine if_f (decide_eq_false (List.cons_ne_nil _ _)) ?_
      refine ⟨_, rfl, _, rfl, L, _, _, _, rfl, rfl, SqL.of eLz, atI_nat (j := 0) rfl, (by show 1 ≤ sizeLine; decide), fun y ny => ?_⟩
      have ky := same_new ny (.lst [vc c0])
      have eLy := ky _ _ eLz
      have ey := upd_same (H := H3) (a := y) (o := .lst [vc c0])
      generalize upd H3 y (.lst [vc c0]) = H4 at ky eLy ey ⊢
      have ln : ((c0 :: r0).map vc).length = r0.length + 1 := by rw [List.length_map, List.length_cons]
      refine ⟨_, rfl, L, _, rfl, .inl (SqL.of eLy), y, _, _, rfl, rfl, ey, by rw [ln]; omega, by rw [ln]; omega, ?_, fun t nt => ?_⟩
      · show ([vc c0] : List V).length * (((c0 :: r0).map vc).length : Int).toNat ≤ sizeLine
        rw [ln, Int.toNat_natCast]
        show 1 * (r0.length + 1) ≤ 16777216
        omega
      have kt := same_new nt (.lst (List.replicate (((c0 :: r0).map vc).length : Int).toNat [vc c0]).flatten)
      have eLt := kt _ _ eLy
      have er : (List.replicate (((c0 :: r0).map vc).length : Int).toNat [vc c0]).flatten = (List.replicate (r0.length + 1) c0).map vc := by
        rw [ln, Int.toNat_natCast, List.map_replicate]
        exact List.flatten_replicate_singleton
      have et := upd_same (H := H4) (a := t) (o := .lst (List.replicate (((c0 :: r0).map vc).length : Int).toNat [vc c0]).flatten)
      generalize upd H4 t (.lst (List.replicate (((c0 :: r0).map vc).length : Int).toNat [vc c0]).flatten) = H5 at kt eLt et ⊢
      rw [er] at et
      refine ⟨_, _, .lst (SqL.of eLt) (dp_chs (c0 :: r0)), .lst (SqL.of et) (dp_chs (List.replicate (r0.length + 1) c0)), shaped_chs _ sgl, shaped_chs _ (fun y hy => by rw [List.eq_of_mem_replicate hy]; exact sgl _ List.mem_cons_self), _, rfl, ?_⟩
      rw [eqv_chs]
      have q5 := q H5 (s3.trans (ky.trans kt))
      by_cases h : c0 :: r0 = List.replicate (r0.length + 1) c0
      · have q5 : Q (vt (if c0 :: r0 = List.replicate (r0.length + 1) c0 then [c0] else [])) H5 := q5
        rw [if_pos h] at q5
        refine if_t (decide_eq_true h) ?_
        exact ⟨_, rfl, L, _, _, _, rfl, rfl, SqL.of eLt, atI_nat (j := 0) rfl, q5⟩
      · have q5 : Q (vt (if c0 :: r0 = List.replicate (r0.length + 1) c0 then [c0] else [])) H5 := q5
        rw [if_neg h] at q5
        refine if_f (decide_eq_false h) ?_
        show Q (V.str (Str.ofString "")) H5
        rw [str_0]
        exact q5
end
/-! ### _law_shapes -/
inductive ShsAt (H : Hp) : List V → List S → Prop
  | nil : ShsAt H [] []
  | cons {v : V} {x : S} {us : List V} {xs : List S} : ShAt H v x → ShsAt H us xs → ShsAt H (v :: us) (x :: xs)
theorem ShsAt.keep {H H' : Hp} (k : KeepT H H') {us : List V} {xs : List S} (h : ShsAt H us xs) : ShsAt H' us xs := by
  induction h with
  | nil => exact .nil
  | cons e _ ih => exact .cons (e.keep k) ih
theorem ShsAt.same {H H' : Hp} (k : Same H H') {us : List V} {xs : List S} (h : ShsAt H us xs) : ShsAt H' us xs := h.keep (Tw.Same.keepT k)
theorem ShsAt.app {H : Hp} {us vs : List V} {xs ys : List S} (h : ShsAt H us xs) (g : ShsAt H vs ys) : ShsAt H (us ++ vs) (xs ++ ys) := by
  induction h with
  | nil => exact g
  | cons e _ ih => exact .cons e ih
theorem ShsAt.len {H : Hp} {us : List V} {xs : List S} (h : ShsAt H us xs) : us.length = xs.length := by
  induction h with
  | nil => rfl
  | cons _ _ ih => exact congrArg Nat.succ ih
theorem ShsAt.get {H : Hp} {us : List V} {xs : List S} (h : ShsAt H us xs) : ∀ {i : Nat} {u : V}, us[i]? = some u → ∃ c, xs[i]? = some c ∧ ShAt H u c := by
  induction h with
  | nil => intro i u e; simp at e
  | cons a _ ih =>
    intro i u e
    match i, e with
    | 0, e => cases e; exact ⟨_, rfl, a⟩
    | i + 1, e => exact ih e
inductive LsAt (H : Hp) (L : Addr) : List V → List (List S) → Prop
  | nil : LsAt H L [] []
  | cons {p : Addr} {us : List V} {xs : List S} {vs : List V} {xss : List (List S)} : p ≠ L → H p = some (.lst us) → ShsAt H us xs → LsAt H L vs xss → LsAt H L (.ref p :: vs) (xs :: xss)
theorem LsAt.but {H H' : Hp} {L : Addr} {ws : List V} (eL : H L = some (.lst ws)) (k : ∀ a o, a ≠ L → H a = some o → H' a = some o) {vs : List V} {xss : List (List S)} (h : LsAt H L vs xss) : LsAt H' L vs xss := by
  induction h with
  | nil => exact .nil
  | cons n e s _ ih => exact .cons n (k _ _ n e) (s.keep fun a o ea => k _ _ (fun z => by rw [z, eL] at ea; cases ea) ea) ih
theorem LsAt.same {H H' : Hp} {L : Addr} (k : Same H H') {vs : List V} {xss : List (List S)} (h : LsAt H L vs xss) : LsAt H' L vs xss := by
  induction h with
  | nil => exact .nil
  | cons n e s _ ih => exact .cons n (k _ _ e) (s.same k) ih
theorem LsAt.app {H : Hp} {L : Addr} {us vs : List V} {xs ys : List (List S)} (h : LsAt H L us xs) (g : LsAt H L vs ys) : LsAt H L (us ++ vs) (xs ++ ys) := by
  induction h with
  | nil => exact g
  | cons n e s _ ih => exact .cons n e s ih
theorem LsAt.len {H : Hp} {L : Addr} {us : List V} {xs : List (List S)} (h : LsAt H L us xs) : us.length = xs.length := by
  induction h with
  | nil => rfl
  | cons _ _ _ _ ih => exact congrArg Nat.succ ih
theorem LsAt.get {H : Hp} {L : Addr} {vs : List V} {xss : List (List S)} (h : LsAt H L vs xss) : ∀ {i : Nat}, i < xss.length → ∃ p us, vs[i]? = some (.ref p) ∧ p ≠ L ∧ H p = some (.lst us) ∧ ShsAt H us (xss.getD i []) := by
  induction h with
  | nil => intro i e; exact absurd e (Nat.not_lt_zero _)
  | cons n e s _ ih =>
    intro i hi
    match i, hi with
    | 0, _ => exact ⟨_, _, rfl, n, e, s⟩
    | i + 1, hi => exact ih (Nat.lt_of_succ_lt_succ hi)
theorem shapes_few {i : Nat} (h : i ≤ 5) : (shapes i).length ≤ 42 := by
  have h : i = 0 ∨ i = 1 ∨ i = 2 ∨ i = 3 ∨ i = 4 ∨ i = 5 := by omega
  rcases h with rfl | rfl | rfl | rfl | rfl | rfl <;> decide +kernel
theorem fm_few {α β : Type} (f : α → List β) (k : Nat) : ∀ l : List α, (∀ x ∈ l, (f x).length ≤ k) → (l.flatMap f).length ≤ k * l.length
  | [], _ => Nat.zero_le _
  | x :: l, h => by
    rw [List.flatMap_cons, List.length_append, List.length_cons, Nat.mul_add, Nat.mul_one]
    have h1 := h x List.mem_cons_self
    have h2 := fm_few f k l fun y hy => h y (List.mem_cons_of_mem _ hy)
    omega
/-- the shapes of n + 1 nodes whose left part has the shape l -/
def shR (m : Nat) (l : S) : List S := (shapes m).map fun r => .node l r
def shS (n s : Nat) : List S := (shapes s).flatMap (shR (n - s))
theorem shapes_succ' (n : Nat) : shapes (n + 1) = (List.range (n + 1)).flatMap (shS n) := shapes_succ n
theorem shL_succ (n : Nat) : shL (n + 1) = shL n ++ [shapes (n + 1)] := by
  have e : shL (n + 1) = shL n ++ [(List.range (n + 1)).flatMap fun s => ((shL n).getD s []).flatMap fun l => ((shL n).getD (n - s) []).map fun r => S.node l r] := rfl
  have g : (shL (n + 1)).getD (n + 1) [] = shapes (n + 1) := shL_get (n + 1) (Nat.le_refl _)
  rw [e, List.getD_eq_getElem?_getD, List.getElem?_append_right (by rw [shL_len]; omega), shL_len, Nat.sub_self] at g
  rw [e, ← g]
  rfl
theorem shR_len {m : Nat} (h : m ≤ 5) (l : S) : (shR m l).length ≤ 42 := by
  unfold shR
  rw [List.length_map]
  exact shapes_few h
theorem shS_len {n s : Nat} (h : n ≤ 5) (hs : s ≤ 5) : (shS n s).length ≤ 1764 := by
  have := fm_few (shR (n - s)) 42 (shapes s) fun l _ => shR_len (by omega) l
  have := shapes_few hs
  unfold shS
  omega
theorem shP_len {n j : Nat} (h : n ≤ 5) (hj : j ≤ 5) : ((List.range j).flatMap (shS n)).length ≤ 8820 := by
  have := fm_few (shS n) 1764 (List.range j) fun s hs => shS_len h (by have := List.mem_range.mp hs; omega)
  rw [List.length_range] at this
  omega
def spShapes : Sp := fun vs H Q _ => ∃ n : Nat, vs = [.int (n : Int)] ∧ n ≤ 5 ∧ ∀ (p : Addr) (us : List V) (H' : Hp), Same H H' → H' p = some (.lst us) → ShsAt H' us (shapes n) → Q (.ref p) H'
section
variable {P : Program} {w : World} {K : PySem.W.Frag} {mg : Str → Option Value} {base : Heap} {f : Addr} {fd : FuncData}
theorem ok_shapes (F : Fun K "_law_shapes" "_law_shapes" s__law_shapes f fd) (M : Mgs mg) : FnOk P w K mg base CX0 1 f fd ["_law_many"] spShapes := by
  refine F.ok sc__law_shapes (fun vs H Q E h => ?_) (fun cdv A outer s H vs Q E hr h => ?_)
  · obtain ⟨n, rfl, _⟩ := h
    rfl
  obtain ⟨n, rfl, hn, q⟩ := h
  refine ⟨_, (pss_cons (ps_set (i := 1) sc__law_shapes.nd rfl (.inl rfl) (pe_lst (pa_cons (pe_lst (pa_cons pe_non pa_nil)) pa_nil)))
    (pss_cons (ps_for PassesOwn.never rfl (pi_range2 rfl M.range (pa_cons pe_int (pa_cons (pe_op op_add (pv 0) pe_int) pa_nil))) (pg_name (i := 2) sc__law_shapes.nd rfl (.inl rfl))
      (pss_cons (ps_set (i := 3) sc__law_shapes.nd rfl (.inl rfl) (pe_lst pa_nil))
    (pss_cons (ps_for PassesOwn.never rfl (pi_range1 rfl M.range (pa_cons (pv 2) pa_nil)) (pg_name (i := 4) sc__law_shapes.nd rfl (.inl rfl))
      (pss_one (ps_for PassesOwn.never rfl (pi_list (pe_ix ix_list (pv 1) (pv 4) (fun _ _ => rfl))) (pg_name (i := 5) sc__law_shapes.nd rfl (.inr rfl))
      (pss_one (ps_set (i := 3) sc__law_shapes.nd rfl (.inl rfl) (pe_op op_cat (pv 3) (pe_lc (own := [("_law_right", 6)]) (g := gName 6) (tt := tYes) rfl sc__law_shapes.nd (pi_list (pe_ix ix_list (pv 1) (pe_op op_sub (pe_op op_sub (pv 2) pe_int) (pv 4)) (fun _ _ => rfl))) (blkOk_by (N := ["_law_many", "_law_found", "_law_size_here", "_law_some", "_law_split", "_law_left", "_law_right"]) (sc := defScope s__law_shapes) (by decide +kernel)) (fun _ _ _ _ _ => (pg_name (i := 6) sc__law_shapes.nd rfl (.inl rfl))) (fun _ _ _ _ _ => pts_nil) (fun _ _ _ _ _ => (pe_tup (pa_cons (pv 5) (pa_cons (pv 6) pa_nil)))))))))))
    (pss_one (ps_expr (pe_bm PySem.F.plainAttrs_list PySem.F.slot_list_append PySem.F.type_list_append mt_append (pv 1) (pa_cons (pv 3) pa_nil)))))))
    (pss_one (ps_ret (pe_ix ix_list (pv 1) (pv 0) (fun _ _ => rfl)))))), ?_⟩
  refine ⟨(by show 1 ≤ sizeLine; decide), fun p0 np0 => ?_⟩
  have k0 := same_new np0 (.lst [.non])
  have e0 := upd_same (H := H) (a := p0) (o := .lst [.non])
  generalize upd H p0 (.lst [.non]) = H0 at k0 e0 ⊢
  refine ⟨(by show 1 ≤ sizeLine; decide), fun L nL => ?_⟩
  have kL := same_new nL (.lst [.ref p0])
  have pL : p0 ≠ L := fun z => by rw [z, nL] at e0; cases e0
  refine ⟨_, rfl, _, _, rfl, rfl, 1, (n : Int) + 1, rfl, ⟨by decide, by decide, by omega, by omega⟩, ?_⟩
  rw [show ((n : Int) + 1 - 1).toNat = n by omega]
  refine for_range (lo := 1) (n := n) (fun i σ H' => Same H H' ∧ (∃ vs, H' L = some (.lst vs) ∧ LsAt H' L vs (shL i)) ∧ ∃ o2 o3 o4 o5 : Option V, σ = [some (.int (n : Int)), some (.ref L), o2, o3, o4, o5, none]) ⟨k0.trans kL, ⟨_, upd_same, .cons pL (kL _ _ e0) (.cons .nil .nil) .nil⟩, none, none, none, none, rfl⟩ (fun i σ H2 hi hp => ?_) (fun σ H2 hp => ?_)
  · obtain ⟨s2, ⟨vs, eL, ls⟩, o2, o3, o4, o5, rfl⟩ := hp
    have lv := ls.len
    rw [shL_len] at lv
    refine ⟨(by show 0 ≤ sizeLine; decide), fun p1 np1 => ?_⟩
    have k1 := same_new np1 (.lst [])
    have e1 := upd_same (H := H2) (a := p1) (o := .lst [])
    have n1 : p1 ≠ L := fun z => by rw [z, eL] at np1; cases np1
    have eL1 := k1 _ _ eL
    have ls1 := ls.same k1
    generalize upd H2 p1 (.lst []) = H3 at k1 e1 eL1 ls1 ⊢
    refine ⟨_, rfl, (1 : Int) + (i : Int), rfl, by omega, by omega, ?_⟩
    rw [show ((1 : Int) + (i : Int)).toNat = i + 1 by omega]
    refine for_range (lo := 0) (n := i + 1) (fun j σ H' => Same H3 H' ∧ ∃ (p : Addr) (us : List V) (o4 o5 : Option V), σ = [some (.int (n : Int)), some (.ref L), some (.int (1 + (i : Int))), some (.ref p), o4, o5, none] ∧ p ≠ L ∧ H' p = some (.lst us) ∧ ShsAt H' us ((List.range j).flatMap (shS i))) ⟨Same.refl _, p1, [], o4, o5, rfl, n1, e1, .nil⟩ (fun j σ H4 hj hp => ?_) (fun σ H4 hp => ?_)
    · obtain ⟨s4, p, us, o4', o5', rfl, np, ep, hs⟩ := hp
      have eL4 := s4 _ _ eL1
      have ls4 := ls1.same s4
      obtain ⟨pj, uj, gj, nj, ej, hj'⟩ := ls4.get (i := j) (by rw [shL_len]; omega)
      rw [shL_get i (by omega)] at hj'
      obtain ⟨pk, uk, gk, nk, ek, hk'⟩ := ls4.get (i := i - j) (by rw [shL_len]; omega)
      rw [shL_get i (by omega)] at hk'
      refine ⟨_, rfl, _, rfl, L, _, _, _, rfl, rfl, SqL.of eL4, (by rw [Int.zero_add]; exact atI_nat gj), ?_⟩
      refine ⟨pj, rfl, ⟨_, SqL.of ej⟩, ?_⟩
      have lj := hj'.len
      have lk := hk'.len
      have fk := shapes_few (i := i - j) (by omega)
      have fj := shapes_few (i := j) (by omega)
      have fp := shP_len (n := i) (j := j) (by omega) (by omega)
      refine for_list (K := K) (a := pj) (xs := uj) (fun m σ H' => Same H4 H' ∧ ∃ (p : Addr) (us : List V) (o5 : Option V), σ = [some (.int (n : Int)), some (.ref L), some (.int (1 + (i : Int))), some (.ref p), some (.int (0 + (j : Int))), o5, none] ∧ p ≠ L ∧ H' p = some (.lst us) ∧ ShsAt H' us ((List.range j).flatMap (shS i) ++ ((shapes j).take m).flatMap (shR (i - j)))) ⟨Same.refl _, p, us, o5', rfl, np, ep, by rw [List.take_zero, List.flatMap_nil, List.append_nil]; exact hs⟩ (fun m σ H' _ hp => SqL.of (hp.1 _ _ ej)) (fun m u σ H5 hu hp => ?_) (fun σ H5 hp => ?_)
      · obtain ⟨s5, p', us', o5'', rfl, np', ep', hs'⟩ := hp
        obtain ⟨x, hx, hux⟩ := hj'.get hu
        have eL5 := s5 _ _ eL4
        have ek5 := s5 _ _ ek
        have hk5 := hk'.same s5
        have hux5 := hux.same s5
        have mj : m < (shapes j).length := (List.getElem?_eq_some_iff.mp hx).1
        have l5 : us'.length ≤ 10584 := by
          have h1 := fm_few (shR (i - j)) 42 ((shapes j).take m) fun l _ => shR_len (by omega) l
          rw [List.length_take] at h1
          rw [hs'.len, List.length_append]
          omega
        refine ⟨_, rfl, _, rfl, _, rfl, _, _, rfl, rfl, _, rfl, _, _, rfl, rfl, L, _, _, _, rfl, rfl, SqL.of eL5, (by rw [show (1 : Int) + (i : Int) - 1 - (0 + (j : Int)) = ((i - j : Nat) : Int) by omega]; exact atI_nat gk), ?_⟩
        refine ⟨pk, rfl, ⟨_, SqL.of ek5⟩, fun D nD => ?_⟩
        have kD := same_new nD (.lst [])
        refine lc_list (K := K) (a := pk) (xs := uk) (fun y H' => Same H5 H' ∧ ∃ zs, H' D = some (.lst zs) ∧ ShsAt H' zs (((shapes (i - j)).take y).map fun r => S.node x r)) ⟨kD, [], upd_same, .nil⟩ (fun y H' _ hp => SqL.of (hp.1 _ _ ek5)) (fun y v H6 hv hp => ?_) (fun H6 hp => ?_)
        · obtain ⟨s6, zs, eD, hz⟩ := hp
          obtain ⟨r, hr2, hvr⟩ := hk5.get hv
          have yk : y < (shapes (i - j)).length := (List.getElem?_eq_some_iff.mp hr2).1
          refine ⟨rfl, kept ?_⟩
          refine ⟨_, rfl, _, rfl, (by show 2 ≤ sizeLine; decide), fun z nz => ?_⟩
          have kz := same_new nz (.tup [u, v])
          have eD7 := kz _ _ eD
          have lz := hz.len
          rw [List.length_map, List.length_take] at lz
          refine ⟨_, eD7, small1000 (by omega), fun b o e => by rw [upd_ne (ne_of_none e nD)]; exact (s6.trans kz) _ _ e, zs ++ [.ref z], upd_same, ?_⟩
          rw [take_next hr2, List.map_append]
          refine ShsAt.keep (H := upd H6 z (.tup [u, v])) (fun b xs e => ?_) ((hz.same kz).app (.cons (.node upd_same ((hux5.same s6).same kz) ((hvr.same s6).same kz)) .nil))
          rw [upd_ne (fun z' => by rw [z', eD7] at e; cases e)]
          exact e
        · obtain ⟨s6, zs, eD, hz⟩ := hp
          have lz := hz.len
          rw [List.length_map, lk, List.take_length] at lz
          rw [lk, List.take_length] at hz
          refine ⟨p', D, _, _, rfl, rfl, s6 _ _ ep', eD, (by show us'.length + zs.length ≤ 16777216; omega), fun p3 np3 => ?_⟩
          have k3 := same_new np3 (.lst (us' ++ zs))
          refine ⟨s5.trans (s6.trans k3), p3, us' ++ zs, _, rfl, fun z => ?_, upd_same, ?_⟩
          · rw [z, s6 _ _ eL5] at np3
            cases np3
          · rw [take_next hx, List.flatMap_append, ← List.append_assoc]
            refine ((hs'.same s6).same k3).app ?_
            rw [List.flatMap_cons, List.flatMap_nil, List.append_nil]
            exact hz.same k3
      · obtain ⟨s5, p', us', o5'', rfl, np', ep', hs'⟩ := hp
        rw [lj, List.take_length] at hs'
        refine ⟨s4.trans s5, p', us', _, _, rfl, np', ep', ?_⟩
        rw [List.range_succ, List.flatMap_append, List.flatMap_cons, List.flatMap_nil, List.append_nil]
        exact hs'
    · obtain ⟨s4, p, us, o4', o5', rfl, np, ep, hs⟩ := hp
      rw [← shapes_succ'] at hs
      have eL4 := s4 _ _ eL1
      have ls4 := ls1.same s4
      refine ⟨_, rfl, (.inl ⟨rfl, _, SqL.of eL4⟩), _, rfl, L, _, _, rfl, rfl, eL4, small1000 (by omega), ?_⟩
      refine ⟨fun b o e => ?_, ⟨vs ++ [.ref p], upd_same, ?_⟩, _, _, _, _, rfl⟩
      · rw [upd_ne (ne_of_none (k0 _ _ e) nL)]
        exact (s2.trans (k1.trans s4)) _ _ e
      · rw [shL_succ]
        exact LsAt.but eL4 (fun a o n e => by rw [upd_ne n]; exact e) (ls4.app (.cons np ep hs .nil))
  · obtain ⟨s2, ⟨vs, eL, ls⟩, o2, o3, o4, o5, rfl⟩ := hp
    obtain ⟨p, us, gp, _, ep, hs⟩ := ls.get (i := n) (by rw [shL_len]; omega)
    rw [shL_get n (Nat.le_refl n)] at hs
    exact ⟨_, rfl, _, rfl, L, _, _, _, rfl, rfl, SqL.of eL, atI_nat gp, q p us H2 s2 ep hs⟩
end
/-! ### live_roots -/
inductive Reach (G : G3) (n : Nat) : St4 → Prop
  | whole : Reach G n (wholeS n)
  | left {t : St4} {x : Split} : Reach G n t → x ∈ live G t → Reach G n x.2.1
  | right {t : St4} {x : Split} : Reach G n t → x ∈ live G t → Reach G n x.2.2
theorem live_spl {G : G3} {t : St4} {x : Split} (h : x ∈ live G t) : x ∈ spl G t := (List.mem_filter.mp h).1
theorem OkS.kid {G : G3} {n : Nat} {t : St4} {x : Split} (h : OkS n t) (hx : x ∈ spl G t) : OkS n x.2.1 ∧ OkS n x.2.2 := by
  obtain ⟨s, hs, _, _, e1, e2⟩ := spl_mem hx
  rw [e1, e2]
  exact ⟨h.left hs, h.right hs⟩
theorem Reach.ok {G : G3} {n : Nat} {t : St4} (h : Reach G n t) : OkS n t := by
  induction h with
  | whole => exact whole_ok n
  | left _ hx ih => exact (ih.kid (live_spl hx)).1
  | right _ hx ih => exact (ih.kid (live_spl hx)).2
theorem Reach.has {G : G3} {n : Nat} {t : St4} {H : Hp} {d : Addr} (h : Reach G n t) (hd : Has G n (wholeS n) H d) : Has G n t H d := by
  induction h with
  | whole => exact hd
  | left _ hx ih => exact (ih.left (live_spl hx)).1
  | right _ hx ih => exact (ih.left (live_spl hx)).2
abbrev Ent := List Nat × (Nat × Nat × Nat)
def spotX (t : St4) (x : Split) : Nat × Nat × Nat := (t.2.1, x.2.2.2.2.1 - 1, t.2.2.2 + t.1 - 1)
def entX (t : St4) (x : Split) : Ent := (x.1, spotX t x)
inductive EntAt (H : Hp) : List V → List Ent → Prop
  | nil : EntAt H [] []
  | cons {p q : Addr} {e : Ent} {us : List V} {es : List Ent} : H p = some (.tup [vt e.1, .ref q]) → H q = some (.tup [.int (e.2.1 : Int), .int (e.2.2.1 : Int), .int (e.2.2.2 : Int)]) → EntAt H us es → EntAt H (.ref p :: us) (e :: es)
theorem EntAt.keep {H H' : Hp} (k : KeepT H H') {us : List V} {es : List Ent} (h : EntAt H us es) : EntAt H' us es := by
  induction h with
  | nil => exact .nil
  | cons e1 e2 _ ih => exact .cons (k _ _ e1) (k _ _ e2) ih
theorem EntAt.app {H : Hp} {us vs : List V} {xs ys : List Ent} (h : EntAt H us xs) (g : EntAt H vs ys) : EntAt H (us ++ vs) (xs ++ ys) := by
  induction h with
  | nil => exact g
  | cons e1 e2 _ ih => exact .cons e1 e2 ih
theorem EntAt.len {H : Hp} {us : List V} {xs : List Ent} (h : EntAt H us xs) : us.length = xs.length := by
  induction h with
  | nil => rfl
  | cons _ _ _ ih => exact congrArg Nat.succ ih
theorem EntAt.get {H : Hp} {us : List V} {xs : List Ent} (h : EntAt H us xs) : ∀ {i : Nat} {u : V}, us[i]? = some u → ∃ (p q : Addr) (e : Ent), u = .ref p ∧ xs[i]? = some e ∧ H p = some (.tup [vt e.1, .ref q]) ∧ H q = some (.tup [.int (e.2.1 : Int), .int (e.2.2.1 : Int), .int (e.2.2.2 : Int)]) := by
  induction h with
  | nil => intro i u e; simp at e
  | cons e1 e2 _ ih =>
    intro i u e
    match i, e with
    | 0, e => cases e; exact ⟨_, _, _, rfl, rfl, e1, e2⟩
    | i + 1, e => exact ih e
inductive StL (H : Hp) : List V → List St4 → Prop
  | nil : StL H [] []
  | cons {a : Addr} {t : St4} {us : List V} {ts : List St4} : H a = some (.tup (stV t)) → StL H us ts → StL H (.ref a :: us) (t :: ts)
theorem StL.keep {H H' : Hp} (k : KeepT H H') {us : List V} {ts : List St4} (h : StL H us ts) : StL H' us ts := by
  induction h with
  | nil => exact .nil
  | cons e1 _ ih => exact .cons (k _ _ e1) ih
theorem StL.app {H : Hp} {us vs : List V} {xs ys : List St4} (h : StL H us xs) (g : StL H vs ys) : StL H (us ++ vs) (xs ++ ys) := by
  induction h with
  | nil => exact g
  | cons e1 _ ih => exact .cons e1 ih
theorem StL.len {H : Hp} {us : List V} {xs : List St4} (h : StL H us xs) : us.length = xs.length := by
  induction h with
  | nil => rfl
  | cons _ _ ih => exact congrArg Nat.succ ih
theorem StL.last {H : Hp} {vs : List V} {ts : List St4} (h : StL H vs ts) : vs ≠ [] → ∃ a t ts', vs[vs.length - 1]? = some (.ref a) ∧ ts = ts' ++ [t] ∧ H a = some (.tup (stV t)) ∧ StL H vs.dropLast ts' := by
  induction h with
  | nil => intro z; exact absurd rfl z
  | @cons a t vs ts e hh ih =>
    intro _
    cases vs with
    | nil => cases hh; exact ⟨a, t, [], rfl, rfl, e, .nil⟩
    | cons w ws =>
      obtain ⟨u, t', m, e1, e2, e3, e4⟩ := ih (by simp)
      refine ⟨u, t', t :: m, ?_, by rw [e2]; rfl, e3, .cons e e4⟩
      show (w :: ws)[(w :: ws).length - 1]? = some (.ref u)
      exact e1
abbrev seenK (ss : List St4) : Kvs := ss.map fun t => (keyS t, V.bl true)
theorem val_seen (t : St4) : ∀ ss : List St4, valV (seenK ss) (keyS t) = if t ∈ ss then some (.bl true) else none
  | [] => rfl
  | u :: ss => by
    by_cases h : u = t
    · subst h
      rw [if_pos List.mem_cons_self]
      exact valV_pos rfl
    · show valV ((keyS u, V.bl true) :: seenK ss) (keyS t) = _
      rw [valV_neg (fun z => h (key_inj z)), val_seen t ss]
      by_cases g : t ∈ ss
      · rw [if_pos g, if_pos (List.mem_cons_of_mem _ g)]
      · rw [if_neg g, if_neg (fun z => by
          rcases List.mem_cons.mp z with z | z
          · exact h z.symm
          · exact g z)]
theorem seen_len {n : Nat} (h12 : n ≤ 12) {ss : List St4} (nd : ss.Nodup) (all : ∀ t ∈ ss, OkS n t) : ss.length ≤ 28561 := by
  have nd2 : (ss.map fun t => code (keyS t)).Nodup := by
    induction ss with
    | nil => exact List.nodup_nil
    | cons k ks ih =>
      obtain ⟨h1, h2⟩ := List.nodup_cons.mp nd
      refine List.nodup_cons.mpr ⟨fun hm => ?_, ih h2 fun x hx => all x (List.mem_cons_of_mem _ hx)⟩
      obtain ⟨k', hk', e⟩ := List.mem_map.mp hm
      have : k' = k := code_inj (all k' (List.mem_cons_of_mem _ hk')) (all k List.mem_cons_self) h12 e
      subst this
      exact h1 hk'
  have := nodup_le (m := List.range 28561) nd2 fun x hx => by
    obtain ⟨t, ht, rfl⟩ := List.mem_map.mp hx
    exact List.mem_range.mpr (code_lt (all t ht) h12)
  rw [List.length_map, List.length_range] at this
  exact this
theorem live_len (G : G3) {n : Nat} {t : St4} (h : OkS n t) (h12 : n ≤ 12) : (live G t).length ≤ 12 := by
  refine Nat.le_trans (List.length_filter_le _ _) (Nat.le_trans (spl_len G t t.1) ?_)
  have := h.i
  omega
/-- how the search for live roots stands -/
structure RI (G : G3) (n : Nat) (es : List Ent) (ws ss : List St4) : Prop where
  nd : ss.Nodup
  re : ∀ t ∈ ss ++ ws, Reach G n t
  wh : wholeS n ∈ ss ++ ws
  cl : ∀ t ∈ ss, ∀ x ∈ live G t, x.2.1 ∈ ss ++ ws ∧ x.2.2 ∈ ss ++ ws
  ent : ∀ e, e ∈ es ↔ ∃ t ∈ ss, ∃ x ∈ live G t, e = entX t x
  le : es.length ≤ 12 * ss.length
  lw : ws.length ≤ 1 + 24 * ss.length
theorem RI.start (G : G3) (n : Nat) : RI G n [] [wholeS n] [] where
  nd := List.nodup_nil
  re := fun t ht => by rw [List.mem_singleton.mp ht]; exact .whole
  wh := List.mem_cons_self
  cl := fun t ht => nomatch ht
  ent := fun e => ⟨fun h => (nomatch h), fun h => (by obtain ⟨_, h, _⟩ := h; cases h)⟩
  le := Nat.le_refl _
  lw := Nat.le_refl _
theorem RI.skip {G : G3} {n : Nat} {es : List Ent} {ws ss : List St4} {t : St4} (h : RI G n es (ws ++ [t]) ss) (ht : t ∈ ss) : RI G n es ws ss where
  nd := h.nd
  re := fun u hu => h.re u (by rw [← List.append_assoc]; exact List.mem_append_left _ hu)
  wh := by
    have := h.wh
    rw [← List.append_assoc] at this
    rcases List.mem_append.mp this with z | z
    · exact z
    · rw [List.mem_singleton.mp z]; exact List.mem_append_left _ ht
  cl := fun u hu x hx => by
    have := h.cl u hu x hx
    rw [← List.append_assoc] at this
    refine ⟨?_, ?_⟩
    · rcases List.mem_append.mp this.1 with z | z
      · exact z
      · rw [List.mem_singleton.mp z]; exact List.mem_append_left _ ht
    · rcases List.mem_append.mp this.2 with z | z
      · exact z
      · rw [List.mem_singleton.mp z]; exact List.mem_append_left _ ht
  ent := h.ent
  le := h.le
  lw := by have := h.lw; rw [List.length_append] at this; omega
def kidsX (x : Split) : List St4 := [x.2.1, x.2.2]
theorem kids_len : ∀ l : List Split, (l.flatMap kidsX).length = 2 * l.length
  | [] => rfl
  | x :: l => by rw [List.flatMap_cons, List.length_append, kids_len l, List.length_cons]; show 2 + _ = _; omega
theorem RI.step {G : G3} {n : Nat} (h12 : n ≤ 12) {es : List Ent} {ws ss : List St4} {t : St4} (h : RI G n es (ws ++ [t]) ss) (ht : ¬ t ∈ ss) : RI G n (es ++ (live G t).map (entX t)) (ws ++ (live G t).flatMap kidsX) (ss ++ [t]) := by
  have rt : Reach G n t := h.re t (List.mem_append_right _ (List.mem_append_right _ List.mem_cons_self))
  have ll := live_len G rt.ok h12
  have mv : ∀ u, u ∈ ss ++ (ws ++ [t]) → u ∈ (ss ++ [t]) ++ (ws ++ (live G t).flatMap kidsX) := fun u hu => by
    rcases List.mem_append.mp hu with z | z
    · exact List.mem_append_left _ (List.mem_append_left _ z)
    · rcases List.mem_append.mp z with z | z
      · exact List.mem_append_right _ (List.mem_append_left _ z)
      · exact List.mem_append_left _ (List.mem_append_right _ z)
  refine ⟨List.nodup_append.mpr ⟨h.nd, List.nodup_cons.mpr ⟨by simp, List.nodup_nil⟩, fun a ha b hb => ?_⟩, fun u hu => ?_, mv _ h.wh, fun u hu x hx => ?_, fun e => ⟨fun he => ?_, fun he => ?_⟩, ?_, ?_⟩
  · rw [List.mem_singleton.mp hb]
    rintro rfl
    exact ht ha
  · rcases List.mem_append.mp hu with z | z
    · rcases List.mem_append.mp z with z | z
      · exact h.re u (List.mem_append_left _ z)
      · rw [List.mem_singleton.mp z]; exact rt
    · rcases List.mem_append.mp z with z | z
      · exact h.re u (List.mem_append_right _ (List.mem_append_left _ z))
      · obtain ⟨x, hx, hz⟩ := List.mem_flatMap.mp z
        rcases List.mem_cons.mp hz with rfl | hz
        · exact .left rt hx
        · rw [List.mem_singleton.mp hz]; exact .right rt hx
  · rcases List.mem_append.mp hu with z | z
    · obtain ⟨a, b⟩ := h.cl u z x hx
      exact ⟨mv _ a, mv _ b⟩
    · have : u = t := List.mem_singleton.mp z
      subst this
      exact ⟨List.mem_append_right _ (List.mem_append_right _ (List.mem_flatMap.mpr ⟨x, hx, List.mem_cons_self⟩)), List.mem_append_right _ (List.mem_append_right _ (List.mem_flatMap.mpr ⟨x, hx, List.mem_cons_of_mem _ List.mem_cons_self⟩))⟩
  · rcases List.mem_append.mp he with z | z
    · obtain ⟨u, hu, x, hx, e⟩ := (h.ent e).mp z
      exact ⟨u, List.mem_append_left _ hu, x, hx, e⟩
    · obtain ⟨x, hx, rfl⟩ := List.mem_map.mp z
      exact ⟨t, List.mem_append_right _ List.mem_cons_self, x, hx, rfl⟩
  · obtain ⟨u, hu, x, hx, rfl⟩ := he
    rcases List.mem_append.mp hu with z | z
    · exact List.mem_append_left _ ((h.ent _).mpr ⟨u, z, x, hx, rfl⟩)
    · have : u = t := List.mem_singleton.mp z
      subst this
      exact List.mem_append_right _ (List.mem_map.mpr ⟨x, hx, rfl⟩)
  · have := h.le
    rw [List.length_append, List.length_map, List.length_append]
    show es.length + _ ≤ 12 * (ss.length + 1)
    omega
  · have := h.lw
    rw [List.length_append] at this
    rw [List.length_append, kids_len, List.length_append]
    have : ws.length + 1 ≤ 1 + 24 * ss.length := this
    show ws.length + 2 * _ ≤ 1 + 24 * (ss.length + 1)
    omega
theorem RI.done {G : G3} {n : Nat} {es : List Ent} {ss : List St4} (h : RI G n es [] ss) (e : Ent) : e ∈ es ↔ ∃ t x, Reach G n t ∧ x ∈ live G t ∧ e = entX t x := by
  have re := h.re
  have wh := h.wh
  have cl := h.cl
  rw [List.append_nil] at re wh
  have all : ∀ t, Reach G n t → t ∈ ss := fun t ht => by
    induction ht with
    | whole => exact wh
    | left _ hx ih => have := (cl _ ih _ hx).1; rw [List.append_nil] at this; exact this
    | right _ hx ih => have := (cl _ ih _ hx).2; rw [List.append_nil] at this; exact this
  rw [h.ent]
  exact ⟨fun ⟨t, ht, x, hx, e⟩ => ⟨t, x, re t ht, hx, e⟩, fun ⟨t, x, ht, hx, e⟩ => ⟨t, all t ht, x, hx, e⟩⟩
def spRoots : Sp := fun vs H Q _ => ∃ (g d : Addr) (G : G3) (n : Nat), vs = [.ref g, .ref d] ∧ H g = some (.tup G.tup) ∧ G.Ok n ∧ Has G n (wholeS n) H d ∧
  ∀ (p : Addr) (us : List V) (es : List Ent) (H' : Hp), Same H H' → H' p = some (.lst us) → EntAt H' us es → us.length ≤ 342732 → (∀ e, e ∈ es ↔ ∃ t x, Reach G n t ∧ x ∈ live G t ∧ e = entX t x) → Q (.ref p) H'
theorem at_upd {H : Hp} {a b : Addr} {o o' : HO} (e : H b = some o) (n : b ≠ a) : upd H a o' b = some o := by rw [upd_ne n]; exact e
def roomR (σ : L2.St) (H : Hp) : Nat := match σ[3]?, σ[4]? with
  | some (some (V.ref W)), some (some (V.ref S)) => (match H W with | some (.lst ws) => ws.length | _ => 0) + 25 * (28561 - (match H S with | some (.dT kv) => kv.length | _ => 0))
  | _, _ => 0
theorem roomR_eq {σ : L2.St} {H : Hp} {W S : Addr} {ws : List V} {kv : Kvs} (e3 : σ[3]? = some (some (.ref W))) (e4 : σ[4]? = some (some (.ref S))) (eW : H W = some (.lst ws)) (eS : H S = some (.dT kv)) : roomR σ H = ws.length + 25 * (28561 - kv.length) := by
  unfold roomR
  rw [e3, e4]
  simp only
  rw [eW, eS]
section
variable {P : Program} {w : World} {K : PySem.W.Frag} {mg : Str → Option Value} {base : Heap} {f : Addr} {fd : FuncData}
theorem ok_roots (F : Fun K "live_roots" "live_roots" s_live_roots f fd) (M : Mgs mg) (Dwhole_of : Df P w K mg base 1 "whole_of" ["given"] spWhole) (Dlive_splits : Df P w K mg base 3 "live_splits" ["given", "counts", "stretch"] spLive) : FnOk P w K mg base CX0 4 f fd ["given", "counts"] spRoots := by
  refine F.ok sc_live_roots (fun vs H Q E h => ?_) (fun cdv A outer s H vs Q E hr h => ?_)
  · obtain ⟨g, d, G, n, rfl, _⟩ := h
    rfl
  obtain ⟨g, d, G, n, rfl, eg, gok, hd, q⟩ := h
  have n12 := gok.few
  refine ⟨_, (pss_cons (ps_set (i := 2) sc_live_roots.nd rfl (.inl rfl) (pe_lst pa_nil))
    (pss_cons (ps_set (i := 3) sc_live_roots.nd rfl (.inl rfl) (pe_lst (pa_cons (pe_call Dwhole_of.ok (hr.mono (by omega)) rfl Dwhole_of.g Dwhole_of.kp Dwhole_of.b .nil pass0 (pa_cons (pv 0) pa_nil)) pa_nil)))
    (pss_cons (ps_set (i := 4) sc_live_roots.nd rfl (.inl rfl) pe_dnewT)
    (pss_cons (ps_while PassesOwn.never (pt_truth (pv 3) (by intro _; rfl))
      (pss_cons (ps_set (i := 5) sc_live_roots.nd rfl (.inl rfl) (pe_bm0 PySem.F.plainAttrs_list PySem.F.slot_list_pop PySem.F.type_list_pop mt_pop (pv 3)))
    (pss_cons (ps_if (pt_cmp (pc_din (Nat.lt_of_le_of_lt (Nat.add_le_add_left (by decide) _) hr.units) (pv 5) (pv 4)))
      (pss_one ps_continue) pss_nil)
    (pss_cons (ps_dput (Nat.lt_of_le_of_lt (Nat.add_le_add_left (by decide) _) hr.units) (pv 4) (pv 5) pe_bl rfl)
    (pss_one (ps_for PassesOwn.never rfl (pi_list (pe_call Dlive_splits.ok (hr.mono (by omega)) rfl Dlive_splits.g Dlive_splits.kp Dlive_splits.b .nil pass0 (pa_cons (pv 0) (pa_cons (pv 1) (pa_cons (pv 5) pa_nil))))) (pg_tup rfl (pgs_cons (pg_name (i := 6) sc_live_roots.nd rfl (.inl rfl)) (pgs_cons (pg_name (i := 7) sc_live_roots.nd rfl (.inl rfl)) (pgs_cons (pg_name (i := 8) sc_live_roots.nd rfl (.inl rfl)) pgs_nil))))
      (pss_cons (ps_expr (pe_bm PySem.F.plainAttrs_list PySem.F.slot_list_append PySem.F.type_list_append mt_append (pv 2) (pa_cons (pe_tup (pa_cons (pv 6) (pa_cons (pe_tup (pa_cons (pe_ix ix_tup (pv 5) pe_int (fun _ _ => rfl)) (pa_cons (pe_op op_sub (pe_ix ix_tup (pv 8) pe_int (fun _ _ => rfl)) pe_int) (pa_cons (pe_op op_sub (pe_op op_add (pe_ix ix_tup (pv 5) pe_int (fun _ _ => rfl)) (pe_ix ix_tup (pv 5) pe_int (fun _ _ => rfl))) pe_int) pa_nil)))) pa_nil))) pa_nil)))
    (pss_one (ps_expr (pe_bm PySem.F.plainAttrs_list PySem.F.slot_list_extend PySem.F.type_list_extend mt_extend (pv 3) (pa_cons (pe_lst (pa_cons (pv 7) (pa_cons (pv 8) pa_nil))) pa_nil)))))))))))
    (pss_one (ps_ret (pv 2))))))), ?_⟩
  refine ⟨(by show 0 ≤ sizeLine; decide), fun L nL => ?_⟩
  have kL := same_new nL (.lst [])
  have eL0 := upd_same (H := H) (a := L) (o := .lst [])
  generalize upd H L (.lst []) = H1 at kL eL0 ⊢
  refine ⟨_, rfl, g, G, n, rfl, kL _ _ eg, gok, fun t0 H2 s2 et0 => ⟨(by show 1 ≤ sizeLine; decide), fun W nW => ?_⟩⟩
  have kW := same_new nW (.lst [V.ref t0])
  have eW0 := upd_same (H := H2) (a := W) (o := .lst [V.ref t0])
  generalize upd H2 W (.lst [V.ref t0]) = H3 at kW eW0 ⊢
  refine fun S nS => ?_
  have kS := same_new nS (.dT [])
  have eS0 := upd_same (H := H3) (a := S) (o := .dT [])
  have nL2 : L ≠ W := fun z => by have := s2 _ _ eL0; rw [z, nW] at this; cases this
  have eL3 := kW _ _ (s2 _ _ eL0)
  have nLS : L ≠ S := fun z => by rw [z, nS] at eL3; cases eL3
  have nWS : W ≠ S := fun z => by rw [z, nS] at eW0; cases eW0
  have nW' : H W = none := same_none (kL.trans s2) nW
  have nS' : H S = none := same_none (kL.trans (s2.trans kW)) nS
  have k0 := kL.trans (s2.trans (kW.trans kS))
  have eW4 := kS _ _ eW0
  have eL4 := kS _ _ eL3
  have et4 := kS _ _ (kW _ _ et0)
  generalize upd H3 S (.dT []) = H4 at kS eS0 k0 eW4 eL4 et4 ⊢
  refine while_by (c := fun σ H' Q' => tVar 3 σ H' fun x H2 => ∃ k, TruV K x H2 k ∧ Q' k H2) (fun σ H' => ∃ (o5 o6 o7 o8 : Option V) (us wv : List V) (es : List Ent) (ws ss : List St4), σ = [some (.ref g), some (.ref d), some (.ref L), some (.ref W), some (.ref S), o5, o6, o7, o8] ∧ Same H H' ∧ H' L = some (.lst us) ∧ H' W = some (.lst wv) ∧ H' S = some (.dT (seenK ss)) ∧ EntAt H' us es ∧ StL H' wv ws ∧ RI G n es ws ss)
    roomR ?_ (fun σ H' hp => ?_) ?_
  · exact ⟨none, none, none, none, [], [.ref t0], [], [wholeS n], [], rfl, k0, eL4, eW4, eS0, .nil, .cons et4 .nil, RI.start G n⟩
  · obtain ⟨o5, o6, o7, o8, us, wv, es, ws, ss, rfl, sm, eL, eW, eS, fE, fW, R⟩ := hp
    refine ⟨_, rfl, !wv.isEmpty, .inl ⟨wv, SqL.of eW, rfl⟩, ?_⟩
    have sl := seen_len n12 R.nd fun t ht => (R.re t (List.mem_append_left _ ht)).ok
    cases wv with
    | nil =>
      refine iteF ⟨_, rfl, ?_⟩
      cases fW
      refine q L us es H' sm eL fE ?_ R.done
      have := R.le
      rw [fE.len]
      omega
    | cons w0 wv0 =>
      refine iteT ?_
      obtain ⟨a, t, ws', ep, rfl, ea, fW'⟩ := fW.last (by simp)
      refine ⟨.ref W, rfl, .inl ⟨rfl, _, SqL.of eW⟩, W, _, .ref a, rfl, rfl, eW, ep, ?_⟩
      have sm2 : Same H (upd H' W (.lst (w0 :: wv0).dropLast)) := same_put sm nW' _
      have kt : KeepT H' (upd H' W (.lst (w0 :: wv0).dropLast)) := fun b xs z => by
        rw [upd_ne (ne_of z eW (by intro z; cases z))]
        exact z
      have eW2 : (upd H' W (.lst (w0 :: wv0).dropLast)) W = some (.lst (w0 :: wv0).dropLast) := upd_same
      have eL2 := at_upd (o' := .lst (w0 :: wv0).dropLast) eL nL2
      have eS2 := at_upd (o' := .lst (w0 :: wv0).dropLast) eS nWS.symm
      have ea2 := kt _ _ ea
      have fE2 := fE.keep kt
      have fW2 := fW'.keep kt
      have m0 : roomR [some (.ref g), some (.ref d), some (.ref L), some (.ref W), some (.ref S), o5, o6, o7, o8] H' = wv0.length + 1 + 25 * (28561 - (seenK ss).length) := roomR_eq rfl rfl eW eS
      rw [m0]
      have ld : (w0 :: wv0).dropLast.length = wv0.length := by rw [List.length_dropLast]; rfl
      generalize (w0 :: wv0).dropLast = W1 at eW2 fW2 ld sm2 kt eL2 eS2 ea2 fE2 ⊢
      generalize upd H' W (.lst W1) = H5 at sm2 eW2 eL2 eS2 ea2 fE2 fW2 kt ⊢
      have rt : Reach G n t := R.re t (List.mem_append_right _ (List.mem_append_right _ List.mem_cons_self))
      refine ⟨_, rfl, _, rfl, S, valV (seenK ss) (keyS t), rfl, .inr ⟨seenK ss, keyS t, a, .inl eS2, rfl, ea2, rfl⟩, _, rfl, ?_⟩
      rw [val_seen]
      by_cases hs : t ∈ ss
      · rw [if_pos hs]
        refine iteT ⟨⟨_, _, _, _, us, W1, es, ws', ss, rfl, sm2, eL2, eW2, eS2, fE2, fW2, R.skip hs⟩, ?_⟩
        rw [roomR_eq rfl rfl eW2 eS2]
        omega
      · rw [if_neg hs]
        refine iteF ?_
        have R2 := R.step n12 hs
        have sl2 := seen_len n12 R2.nd fun t ht => (R2.re t (List.mem_append_left _ ht)).ok
        have sl3 : ss.length + 1 ≤ 28561 := by rw [List.length_append] at sl2; exact sl2
        refine ⟨_, rfl, _, rfl, S, _, rfl, .inr ⟨seenK ss, keyS t, a, eS2, rfl, ea2, small1000' (by rw [List.length_map]; omega), rfl⟩, ?_⟩
        have hn : valV (seenK ss) (keyS t) = none := by rw [val_seen, if_neg hs]
        have epk : putK (seenK ss) (keyS t) (.bl true) = seenK (ss ++ [t]) := by
          rw [putK_new _ hn]
          show _ = List.map _ _
          rw [List.map_append]
          rfl
        rw [epk]
        have sm3 : Same H (upd H5 S (.dT (seenK (ss ++ [t])))) := same_put sm2 nS' _
        have kt3 : KeepT H5 (upd H5 S (.dT (seenK (ss ++ [t])))) := fun b xs z => by
          rw [upd_ne (ne_of z eS2 (by intro z; cases z))]
          exact z
        have eS3 : upd H5 S (.dT (seenK (ss ++ [t]))) S = some (.dT (seenK (ss ++ [t]))) := upd_same
        have eL3 := at_upd (o' := .dT (seenK (ss ++ [t]))) eL2 nLS
        have eW3 := at_upd (o' := .dT (seenK (ss ++ [t]))) eW2 nWS
        have ea3 := kt3 _ _ ea2
        have fE3 := fE2.keep kt3
        have fW3 := fW2.keep kt3
        generalize upd H5 S (.dT (seenK (ss ++ [t]))) = H6 at sm3 kt3 eS3 eL3 eW3 ea3 fE3 fW3 ⊢
        refine ⟨_, rfl, _, rfl, _, rfl, g, d, a, G, n, t, rfl, sm3 _ _ eg, gok, ea3, rt.ok, rt.has (hd.same sm3), fun p lv H7 s7 np7 ep7 sp => ?_⟩
        have ll := live_len G rt.ok n12
        have sl7 := sp.len
        have npL : p ≠ L := fun z => by rw [z, eL3] at np7; cases np7
        have npW : p ≠ W := fun z => by rw [z, eW3] at np7; cases np7
        have lw7 := fW3.len
        have lu7 := fE3.len
        have rl := R.le
        have rw' := R.lw
        rw [List.length_append] at rw'
        have rw' : ws'.length + 1 ≤ 1 + 24 * ss.length := rw'
        refine ⟨p, rfl, ⟨_, SqL.of ep7⟩, ?_⟩
        refine for_list (K := K) (a := p) (xs := lv) (fun x σ H' => ∃ (o6 o7 o8 : Option V) (us wv : List V), σ = [some (.ref g), some (.ref d), some (.ref L), some (.ref W), some (.ref S), some (.ref a), o6, o7, o8] ∧ Same H H' ∧ KeepT H7 H' ∧ H' p = some (.lst lv) ∧ H' L = some (.lst us) ∧ H' W = some (.lst wv) ∧ H' S = some (.dT (seenK (ss ++ [t]))) ∧ EntAt H' us (es ++ ((live G t).take x).map (entX t)) ∧ StL H' wv (ws' ++ ((live G t).take x).flatMap kidsX))
          ⟨o6, o7, o8, us, W1, rfl, sm3.trans s7, fun _ _ e => e, ep7, s7 _ _ eL3, s7 _ _ eW3, s7 _ _ eS3, by rw [List.take_zero, List.map_nil, List.append_nil]; exact fE3.keep (Tw.Same.keepT s7), by rw [List.take_zero, List.flatMap_nil, List.append_nil]; exact fW3.keep (Tw.Same.keepT s7)⟩ (fun x σ H' _ hp => by obtain ⟨_, _, _, _, _, _, _, _, e, _⟩ := hp; exact SqL.of e) (fun x u σ H8 hx hp => ?_) (fun σ H8 hp => ?_)
        · obtain ⟨o6, o7, o8, us8, wv8, rfl, s8, k8, ep8, eL8, eW8, eS8, fE8, fW8⟩ := hp
          obtain ⟨pp, l, r, xx, rfl, exx, e1, e2, e3⟩ := sp.get hx
          have e1' := k8 _ _ e1
          have e2' := k8 _ _ e2
          have e3' := k8 _ _ e3
          have ea8 := k8 _ _ (s7 _ _ ea3)
          have hm := List.mem_of_getElem? exx
          have sm := spl_small (live_spl hm)
          obtain ⟨sx, hsx, q1, q2, q3, q4⟩ := spl_mem (live_spl hm)
          have tl : ((live G t).take x).length ≤ 12 := by rw [List.length_take]; omega
          have le8 := fE8.len
          rw [List.length_append, List.length_map] at le8
          have lw8 := fW8.len
          rw [List.length_append, kids_len] at lw8
          refine ⟨pp, _, rfl, SqT.of e1', rfl, _, _, rfl, _, _, rfl, _, _, rfl, rfl, ?_⟩
          refine ⟨_, rfl, .inl ⟨rfl, _, SqL.of eL8⟩, _, rfl, _, rfl, a, _, _, _, rfl, rfl, SqT.of ea8, atI_nat (j := 1) rfl, _, rfl, r, _, _, _, rfl, rfl, SqT.of e3', atI_nat (j := 2) rfl, _, _, rfl, rfl, _, rfl, a, _, _, _, rfl, rfl, SqT.of ea8, atI_nat (j := 3) rfl, _, rfl, a, _, _, _, rfl, rfl, SqT.of ea8, atI_nat (j := 0) rfl, _, _, rfl, rfl, _, _, rfl, rfl, (by show 3 ≤ sizeLine; decide), fun q1 nq1 => ?_⟩
          have q4' : xx.2.2.2.2.1 = t.2.2.1 + sx + 1 := by rw [q4]; rfl
          have ev : [V.int (t.2.1 : Int), V.int ((xx.2.2.2.2.1 : Int) - 1), V.int ((t.2.2.2 : Int) + (t.1 : Int) - 1)] = [V.int ((entX t xx).2.1 : Int), .int ((entX t xx).2.2.1 : Int), .int ((entX t xx).2.2.2 : Int)] := by
            show _ = [V.int (t.2.1 : Int), V.int ((xx.2.2.2.2.1 - 1 : Nat) : Int), V.int ((t.2.2.2 + t.1 - 1 : Nat) : Int)]
            rw [show ((xx.2.2.2.2.1 - 1 : Nat) : Int) = (xx.2.2.2.2.1 : Int) - 1 by omega, show ((t.2.2.2 + t.1 - 1 : Nat) : Int) = (t.2.2.2 : Int) + (t.1 : Int) - 1 by omega]
          have k1 := same_new nq1 (.tup [V.int (t.2.1 : Int), V.int ((xx.2.2.2.2.1 : Int) - 1), V.int ((t.2.2.2 : Int) + (t.1 : Int) - 1)])
          have eq1 := upd_same (H := H8) (a := q1) (o := .tup [V.int (t.2.1 : Int), V.int ((xx.2.2.2.2.1 : Int) - 1), V.int ((t.2.2.2 : Int) + (t.1 : Int) - 1)])
          generalize upd H8 q1 (.tup [V.int (t.2.1 : Int), V.int ((xx.2.2.2.2.1 : Int) - 1), V.int ((t.2.2.2 : Int) + (t.1 : Int) - 1)]) = H9 at k1 eq1 ⊢
          rw [ev] at eq1
          refine ⟨(by show 2 ≤ sizeLine; decide), fun p1 np1 => ?_⟩
          have k2 := same_new np1 (.tup [vt xx.1, .ref q1])
          have ep1 := upd_same (H := H9) (a := p1) (o := .tup [vt xx.1, .ref q1])
          have eq2 := k2 _ _ eq1
          generalize upd H9 p1 (.tup [vt xx.1, .ref q1]) = HA at k2 ep1 eq2 ⊢
          have kA := k1.trans k2
          have eLA := kA _ _ eL8
          refine ⟨L, us8, _, rfl, rfl, eLA, Nat.lt_of_le_of_lt (show us8.length ≤ 400000 by omega) (by decide), ?_⟩
          have sB : Same H (upd HA L (.lst (us8 ++ [.ref p1]))) := same_put (s8.trans kA) nL _
          have kB : KeepT HA (upd HA L (.lst (us8 ++ [.ref p1]))) := fun b xs z => by
            rw [upd_ne (ne_of z eLA (by intro z; cases z))]
            exact z
          have eLB : upd HA L (.lst (us8 ++ [.ref p1])) L = some (.lst (us8 ++ [.ref p1])) := upd_same
          have epB := at_upd (o' := .lst (us8 ++ [.ref p1])) (kA _ _ ep8) npL
          have eWB := at_upd (o' := .lst (us8 ++ [.ref p1])) (kA _ _ eW8) nL2.symm
          have eSB := at_upd (o' := .lst (us8 ++ [.ref p1])) (kA _ _ eS8) nLS.symm
          generalize upd HA L (.lst (us8 ++ [.ref p1])) = HB at sB kB eLB epB eWB eSB ⊢
          have kAB : KeepT H8 HB := (Tw.Same.keepT kA).trans kB
          refine ⟨_, rfl, .inl ⟨rfl, _, SqL.of eWB⟩, _, rfl, _, rfl, (by show 2 ≤ sizeLine; decide), fun z nz => ?_⟩
          have kz := same_new nz (.lst [V.ref l, .ref r])
          have ez := upd_same (H := HB) (a := z) (o := .lst [V.ref l, .ref r])
          have eWz := kz _ _ eWB
          refine ⟨W, z, _, _, rfl, rfl, eWz, ez, Nat.le_of_lt (Nat.lt_of_le_of_lt (show _ ≤ 700000 by show wv8.length + 2 ≤ 700000; omega) (by decide)), ?_⟩
          have nzW : z ≠ W := fun e => by rw [e, eWB] at nz; cases nz
          have kC : KeepT HB (upd (upd HB z (.lst [V.ref l, .ref r])) W (.lst (wv8 ++ [V.ref l, .ref r]))) := fun b xs e => by
            have := kz _ _ e
            rw [upd_ne (ne_of this eWz (by intro z; cases z))]
            exact this
          refine ⟨_, _, _, us8 ++ [.ref p1], wv8 ++ [V.ref l, .ref r], rfl, same_put (sB.trans kz) nW' _, k8.trans (kAB.trans kC), at_upd (kz _ _ epB) npW, at_upd (kz _ _ eLB) nL2, upd_same, at_upd (kz _ _ eSB) nWS.symm, ?_, ?_⟩
          · rw [take_next exx, List.map_append, ← List.append_assoc]
            exact (fE8.keep (kAB.trans kC)).app (.cons ((kB.trans kC) _ _ ep1) ((kB.trans kC) _ _ eq2) .nil)
          · rw [take_next exx, List.flatMap_append, ← List.append_assoc]
            exact (fW8.keep (kAB.trans kC)).app (.cons ((kAB.trans kC) _ _ e2') (.cons ((kAB.trans kC) _ _ e3') .nil))
        · obtain ⟨o6, o7, o8, us8, wv8, rfl, s8, k8, ep8, eL8, eW8, eS8, fE8, fW8⟩ := hp
          have tk : (live G t).take lv.length = live G t := by rw [sl7, List.take_length]
          rw [tk] at fE8 fW8
          refine ⟨⟨_, _, _, _, us8, wv8, _, _, ss ++ [t], rfl, s8, eL8, eW8, eS8, fE8, fW8, R2⟩, ?_⟩
          rw [roomR_eq rfl rfl eW8 eS8, fW8.len, List.length_append, kids_len, List.length_map, List.length_map, List.length_append]
          show ws'.length + 2 * (live G t).length + 25 * (28561 - (ss.length + 1)) < _
          omega
  · intro σ H' Q1 Q2 hQ h
    obtain ⟨v', e, k', t, q'⟩ := h
    exact ⟨v', e, k', t, hQ _ _ q'⟩
end
/-! ### an own error without fields; single_letters, _law_told -/
abbrev veT : List Value := [.type "ValueError", .type "Exception", .type "BaseException", .type "object"]
structure Err0 (K : PySem.W.Frag) (mg : Str → Option Value) (cn : Str) (C : Addr) : Prop where
  g : mg cn = some (.ref C)
  k : PySem.W.keepIn K (.ref C) = true
  q : PySem.W.excIn K C veT "ValueError.__new__" = true
  e : PySem.W.subIn K (.ref C) (.type "BaseException") = some true
  t : PySem.W.typeIn K (.ref C) = some (.type "type")
  x : ExcC K C
section
variable {X : Cx} {p pos : Pos}
theorem pmk_own0 {C : Addr} {bmB : List Value} {B newId initId : String} {x : Str} (F : ExcBaseFacts B newId initId bmB) (q : PySem.W.excIn X.K C bmB newId = true) (gC : X.mg x = some (.ref C))
    (kC : PySem.W.keepIn X.K (.ref C) = true) (r : Raises X (.ref C)) (hg : Gl X x) (hdb : (x == ("__debug__" : Str)) = false := by decide) :
    PMk X (.Call (.Name x p) [] [] pos) (fun _ H Q => Q (.ref C) none H) := by
  intro pins s σ H Q I h
  refine wpAny_Call_Name_kw (ld_glob I hg gC ?_ hdb)
  refine PySem.W.callWith_K0 (first := []) I.kIn kC ?_
  show wpAny _ _ (call (.ref C) []) _ _ _
  obtain ⟨bm, N, nm, qn, bs, hdct, sn, sub, ab, col, dd, k0, k1, k2, k3, k5, mN, hC, hN, hni, T⟩ := exc_obj I.kIn q
  refine wpAny_call_exc_subT F T hC hN hni (fun h' e hm => ?_) (Nat.zero_le _)
  exact mk_of I hm r h (I.hok.gone hm.new)
end
section
variable {X : Cx} {a D : Addr} {cls : Value} {d : Option Addr} {oe : Obj} {pn : List (Addr × Obj)}
/-- isinstance(e, c) of the error of a clause, an own one without fields -/
def rIsX0 (K : PySem.W.Frag) (a : Addr) (cls : Value) (d : Option Addr) : List V → Hp → VK → Prop := fun xs H Q => ∃ D c u b, cls = .ref D ∧ d = none ∧ ExcC K D ∧ xs = [.ref a, c] ∧ ClsV c u ∧ PySem.W.kitOne K (.ref D) u = some b ∧ Q (.bl b) H
def rIsXT0 (K : PySem.W.Frag) (a : Addr) (cls : Value) (d : Option Addr) : List V → Hp → VK → Prop := fun xs H Q => ∃ D tp cs us b, cls = .ref D ∧ d = none ∧ ExcC K D ∧ xs = [.ref a, .ref tp] ∧ H tp = some (.tup cs) ∧ Paired ClsV cs us ∧ PySem.W.kitAny K (.ref D) us = some b ∧ Q (.bl b) H
theorem inst0 {pins : List (Addr × Obj)} {s : Shared} {σ : L2.St} {H : Hp} (hz : Zc (.ref D) none oe) (hf : ∃ vs, oe.data = .fields vs) (I : Inv (X.suite a ((a, oe) :: pn)) pins σ H s) : PySem.W.InstAt s.heap a oe D none := by
  have hget := (I.pin (a, oe) (List.mem_append_left _ List.mem_cons_self)).1
  obtain ⟨vs, hv⟩ := hf
  obtain ⟨oc, od, oda, osl⟩ := oe
  obtain ⟨h1, h2⟩ := hz
  dsimp only at h1 h2 hv
  subst h1 h2 hv
  exact ⟨hget, rfl, rfl, trivial⟩
theorem call_isX0 (hz : Zc cls d oe) (hf : ∃ vs, oe.data = .fields vs) : CallR (X.suite a ((a, oe) :: pn)) (.builtin "isinstance") (rIsX0 X.K a cls d) := by
  rintro pins s σ H xs us Q I r ⟨D, c, u, b, rfl, rfl, C, rfl, k, e, q⟩
  obtain ⟨u1, u2, rfl, r1, r2⟩ := vals2 r
  cases k.eq r2
  cases (show u1 = Value.ref a from r1)
  exact PySem.W.kia_one (PySem.W.handS_kitx_exc C.hg C.hk C.hs C.hd C.ha C.hn C.ht C.hm) I.kIn (inst0 hz hf I) e (by intro z; cases z) fun tk => ⟨.bl b, H, I.tok tk, rfl, q⟩
theorem call_isXT0 (hz : Zc cls d oe) (hf : ∃ vs, oe.data = .fields vs) : CallR (X.suite a ((a, oe) :: pn)) (.builtin "isinstance") (rIsXT0 X.K a cls d) := by
  rintro pins s σ H xs us Q I r ⟨D, tp, cs, ws, b, rfl, rfl, C, rfl, hT, k, e, q⟩
  obtain ⟨u1, u2, rfl, r1, r2⟩ := vals2 r
  cases (show u2 = Value.ref tp from r2)
  cases (show u1 = Value.ref a from r1)
  have okT : ObjOk X.prog X.w H s.heap tp (.tup cs) := I.hok tp _ hT
  obtain ⟨-, its, rv, ⟨oc, od', dt, sl⟩, there, kind, n, data⟩ := okT
  dsimp only at kind data
  subst kind data
  cases ClsV.all k rv
  exact PySem.W.kia_tup (PySem.W.handS_kitx_exc C.hg C.hk C.hs C.hd C.ha C.hn C.ht C.hm) I.kIn (inst0 hz hf I) there e (by intro z; cases z) fun tk => ⟨.bl b, H, I.tok tk, rfl, q⟩
end
structure DfX (P : Program) (w : World) (K : PySem.W.Frag) (mg : Str → Option Value) (base : Heap) (k : Nat) (nm : Str) (ps : List Str) (sp : Sp) where
  f : Addr
  fd : FuncData
  ok : FnOk P w K mg base (L2.CX P w) k f fd ps sp
  b : Binds K fd ps []
  kp : PySem.W.keepIn K (.ref f) = true
  g : mg nm = some (.ref f)
/-- a promise of a def called with keywords, errors too -/
def FnKwX (CX : CXT) (P : Program) (w : World) (K : PySem.W.Frag) (mg : Str → Option Value) (base : Heap) (k : Nat) (f : Addr) (n : Nat) (ks : List Str) (sp : List V → List V → Hp → VK → XK → Prop) : Prop :=
  ∀ (A : Around) (outer : List Env) (s : Shared) (H : Hp) (us ws : List Value) (vs zs : List V) (Q : VK) (E : XK), Room k A → Env0 P w K mg base A outer s H → Vals vs us → vs.length = n → Vals zs ws → zs.length = ks.length → sp vs zs H Q E →
    codeAny (model P w) A (.call (.ref f) ⟨us, ks.zip ws⟩) (CR CX outer P w H s Q E) s
section
variable {P : Program} {w : World} {K : PySem.W.Frag} {mg : Str → Option Value} {base : Heap} {CX : CXT}
theorem fnKwX (up : StX.CXUp CX) {x qual : Str} {st : Stmt} {f : Addr} {fd : FuncData} {N ps ks : List Str} {pd : Str} {k : Nat} {sp : List V → List V → Hp → VK → XK → Prop} (F : Fun K x qual st f fd) (B : KwBind fd ps pd ks) (few : ks.length ≤ 1000) (S : FnScope N (ps ++ [pd]) (defScope st))
    (body : ∀ (cdv : Value) (A : Around) (outer : List Env) (s : Shared) (H : Hp) (vs zs : List V) (d : Addr) (Q : VK) (E : XK), Room k (A.deeper (envOfC qual (defScope st) s.heap.objs.size f cdv)) → H d = some (.dK ((ks.zip zs).map fun x => ((.inr x.1 : Key), x.2))) → zs.length = ks.length →
      (∃ H0, H0 d = none ∧ H = upd H0 d (.dK ((ks.zip zs).map fun x => ((.inr x.1 : Key), x.2))) ∧ sp vs zs H0 Q E) →
      ∃ t, PSs (cxOf CX P w K mg base N qual (defScope st) f cdv A outer s H E) (defBody st) t ∧ t { nx := fun _ H' => Q .non H', rt := Q } (start N (vs ++ [.ref d])) H) :
    FnKwX CX P w K mg base (k + 1) f ps.length ks sp := by
  intro A outer s H us ws vs zs Q E room e0 rv lv rz lz q
  obtain ⟨oc, od, kV, doc, pm, an, cdv, ct, osl, e, look, code⟩ := F.ex
  subst e
  have lus : us.length = ps.length := by rw [← rv.length]; exact lv
  have lws : ws.length = ks.length := by rw [← rz.length]; exact lz
  have fresh : H s.heap.objs.size = none := e0.hok.fresh (Nat.le_refl _)
  refine StX.run_bnd look code S room e0 (G := fun xs H2 => ∃ d, H d = none ∧ xs = vs ++ [V.ref d] ∧ H2 = upd H d (.dK ((ks.zip zs).map fun x => ((.inr x.1 : Key), x.2)))) (fun A' Ex Q' fin => ?_) fun s2 H2 xs g room2 => ?_
  · rw [B.eq us ws lus lws]
    refine wpAny_bind (wpAny_alloc ?_)
    have names : ((ks.zip ws).map (·.1)) = ks := List.map_fst_zip (Nat.le_of_eq lws.symm)
    refine wpAny_bind (kw_fill (z := s) (ks.zip ws) [] 0 s.toks (fun e he => by cases he) (by rw [names]; exact B.nd) fun n' t' es' pr hs => wpAny_pure ?_)
    rw [List.nil_append]
    have ok : ObjOk P w (upd H s.heap.objs.size (.dK ((ks.zip zs).map fun x => ((.inr x.1 : Key), x.2)))) (s.heap.push (PySem.W.dictOf es' n')) s.heap.objs.size (.dK ((ks.zip zs).map fun x => ((.inr x.1 : Key), x.2))) := by
      refine ⟨?_, beq_eq_false_iff_ne.mpr (Ne.symm (Nat.ne_of_lt (StX.env0_big e0))), _, kv_zip rz lz, _, es'.toArray, n', Heap.get?_push_size _ rfl, ⟨rfl, rfl, rfl⟩, rfl, fun e he => ?_, pr, ?_⟩
      · rw [List.length_map, List.length_zip]
        exact small (by omega)
      · obtain ⟨k', u, ek, eh⟩ := hs e (List.mem_toArray.mp he)
        exact ⟨.inr k', by rw [ek]; exact mixKind_str P w k' u, eh⟩
      · rw [List.map_map]
        have : (ks.zip ws).map ((fun x : Key × Value => x.1) ∘ fun x => ((.inr x.1 : Key), x.2)) = ((ks.zip ws).map (·.1)).map Sum.inr := by rw [List.map_map]; rfl
        rw [this, names]
        exact List.Pairwise.map _ (fun _ _ ne e => ne (Sum.inr.inj e)) B.nd
    have en := StX.env0_laid e0 ok
    have un := StX.un_laid (fs := frs outer) (s := s) (o := PySem.W.dictOf es' n') (u := .dK ((ks.zip zs).map fun x => ((.inr x.1 : Key), x.2))) fresh
    have kp : ∀ b o, s.heap.get? b = some o → (s.heap.push (PySem.W.dictOf es' n')).get? b = some o := fun b o e => Heap.get?_push_of_some _ e
    have z := fin { s with heap := s.heap.push (PySem.W.dictOf es' n'), toks := t' } _ (vs ++ [V.ref s.heap.objs.size]) (us ++ [Value.ref s.heap.objs.size]) ⟨en.frames, en.mod, en.bs, en.bsz, en.funs, en.frf, en.hok, en.bare⟩ un rfl (fun e s' h => up outer s H { s with heap := s.heap.push (PySem.W.dictOf es' n'), toks := t' } _ E e s' un kp rfl h)
      (rv.append (.cons rfl .nil)) (by rw [List.length_append, List.length_append, lv]; rfl) ⟨_, fresh, rfl, rfl⟩
    rw [List.zip_append lus.symm] at z
    exact z
  · obtain ⟨d, nd, rfl, rfl⟩ := g
    exact body cdv A outer s2 _ vs zs d Q E room2 upd_same lz ⟨H, nd, rfl, q⟩
end
/-- f(k = v, ..) of such a def, no values before -/
def tCallKw0X (m : Nat) (sp : List V → List V → Hp → VK → XK → Prop) (E : XK) (tk : TA) : TE := fun σ H Q => tk σ H fun zs H2 => zs.length = m ∧ sp [] zs H2 Q E
theorem pe_callKw0X {X : Cx} {CX : CXT} {E : XK} {k : Nat} {f : Addr} {ks : List Str} {sp : List V → List V → Hp → VK → XK → Prop} {x : Str} {p pos : Pos} {kws : List Keyword} {tk : TA} (F : FnKwX CX X.prog X.w X.K X.mg X.base k f 0 ks sp) (room : Room k X.A) (isG : Gl X x) (at0 : X.mg x = some (.ref f)) (kp : PySem.W.keepIn X.K (.ref f) = true) (hx : Passes CX X E)
    (kargs : PK X kws tk) (all : (backToKw pos (keywordEach kws X.env)).all (·.1.isSome) = true := by rfl) (names : (backToKw pos (keywordEach kws X.env)).filterMap (·.1) = ks := by rfl)
    (nd : (x == ("__debug__" : Str)) = false := by decide) (plain : ((backTo pos (starEach [] X.env)).any (·.1) || (backToKw pos (keywordEach kws X.env)).any (·.1.isNone)) = false := by rfl) :
    PE X (.Call (.Name x p) [] kws pos) (tCallKw0X ks.length sp E tk) := by
  refine ⟨fun pins s σ H Q I h => wpAny_Call_Name_kw (ld_glob I isG at0 ?_ nd)⟩
  refine PySem.W.callWith_KW0 (h₀ := X.base) I.ok.mod.kin kp all ?_ plain
  refine thn (kargs.run pos pins s σ H _ I h) fun ws z ⟨zs, G, J, rz, lz, q⟩ => ⟨J.kIn, ?_⟩
  rw [names]
  refine wpAny_call (codeAny_mono (F X.A X.stack z G [] ws [] zs Q E room J.env0 .nil rfl rz lz q) fun r z' hq => ?_)
  match r, hq with
  | .ok (.ret u), hq => exact J.after hq
  | .error e, hq => exact hx _ _ _ _ _ _ J hq
end Tw --
/-! ### enumerate of a tuple -/
namespace PySem
open Sem (wp)
open AutoSeq1 (wpAny_loadPart')
set_option maxHeartbeats 1000000 in
theorem meets_enumerate_newB1 {v : Value} {o : Obj} {H : Heap → Prop} (B : Begins v o H) :
    Meets (Builtin.«enumerate.__new__» ⟨[.type "enumerate", v], []⟩) (fun _ R s => H s.heap ∧
      R (.ok (.ret (.ref (s.heap.push o).objs.size))) { s with heap := (s.heap.push o).push { cls := .type "enumerate", data := .fields #[.none, .bool false, .ref s.heap.objs.size, rawInt 0, .none, .none] } }) :=
  .of_wp fun prog w A R s h => by
    obtain ⟨hp, g, d, tk, os⟩ := s; obtain ⟨h1, h⟩ := h
    have hsub := sub_enumerate
    have q1 : ∀ {A' : Around} {E : Value → Shared → Prop} {Q : Value → Shared → Prop}, Q (.ref hp.objs.size) ⟨hp.push o, g, d, tk, os⟩ → wpAny (model prog w) A' (pyIter v) Q E ⟨hp, g, d, tk, os⟩ :=
      fun q => B.iter prog w _ _ ⟨hp, g, d, tk, os⟩ _ h1 q
    wp_walk using q1
    refine wpAny_stack_any fun st => wpAny_pure ?_
    split
    · rename_i c _ _ _ _ _
      cases (c == Value.type "enumerate")
      · wp_walk using q1
        exact ⟨_, rfl, h⟩
      · wp_walk using q1
        exact ⟨_, rfl, h⟩
    · wp_walk using q1
      exact ⟨_, rfl, h⟩
section
variable {prog : Program} {w : World} {A : Around} {E : Value → Shared → Prop} {s : Shared}
theorem enum_begins1 {v : Value} {o : Obj} {H : Heap → Prop} {Q : Value → Shared → Prop} (B : Begins v o H) (h1 : H s.heap)
    (h : ∀ h', IsEnum h' (s.heap.objs.size + 1) s.heap.objs.size 0 .none → h'.get? s.heap.objs.size = some o → h'.objs.size = s.heap.objs.size + 2 →
      (∀ b o, s.heap.get? b = some o → h'.get? b = some o) → Q (.ref (s.heap.objs.size + 1)) { s with heap := h' }) :
    wpAny (model prog w) A (call (.type "enumerate") [v]) Q E s := by
  refine callType_new F.called_enumerate (by decide) (F.typeCall_enumerate_1 _) (F.newCall_enumerate_1 _) (fun obj => F.args_object_init_2 obj _) F.entry_enumerate_new
    (meets_enumerate_newB1 B) ⟨h1, ?_⟩
  have hz : (s.heap.push o).objs.size = s.heap.objs.size + 1 := Heap.size_push ..
  show _ ∧ _
  rw [hz]
  have he : IsEnum ((s.heap.push o).push { cls := .type "enumerate", data := .fields #[.none, .bool false, .ref s.heap.objs.size, rawInt 0, .none, .none] }) (s.heap.objs.size + 1) s.heap.objs.size 0 .none := by
    have := Heap.get?_push_size (s.heap.push o) (o := { cls := .type "enumerate", data := .fields #[.none, .bool false, .ref s.heap.objs.size, rawInt 0, .none, .none] }) rfl
    rw [hz] at this; exact this
  refine ⟨⟨_, he, rfl⟩, h _ he (Heap.get?_push_of_some _ (Heap.get?_push_size _ B.free)) (by rw [Heap.size_push, hz]) fun b o x => Heap.get?_push_of_some _ (Heap.get?_push_of_some _ x)⟩
theorem enumT_end {e it l : Addr} {i : Nat} {items : Array Value} {old : Value} {Q : Option Value → Shared → Prop} (hh : A.handled = none)
    (he : IsEnum s.heap e it i old) (hit : s.heap.IsTupleIter it l i) (hl : s.heap.IsTuple l items) (hx : items[i]? = none)
    (hQ : ∀ h', Heap.ExtBut it s.heap h' → Q none { s with heap := h' }) : wpAny (model prog w) A (pyNext (.ref e)) Q E s := by
  have hT : s.TypeIs (.ref e) "enumerate" := ⟨_, he, rfl⟩
  unfold pyNext
  refine wpAny_bind (wpAny_attempt (wpAny_callSpecial?_slot (name := Str.ofString "__next__") hT F.slot_enumerate_next
    (wpAny_call_entry F.slot_enumerate_next hT F.entry_enumerate_next ?_ (F.args_enumerate_next_1 _))))
  show wpAny _ _ (field (.ref e) 2 >>= _) _ _ _
  refine wpAny_bind (wpAny_field he rfl (x := .ref it) rfl ?_)
  refine wpAny_bind (wpAny_nextOf_tuple_end hh hit hl hx fun h' x he' hx' => ?_)
  obtain ⟨o, ho, hc⟩ := hx'
  refine wpAny_bind (wpAny_isInstance (T := "StopIteration") (b := true) ⟨o, ho, hc⟩ isSubtype_stop ?_)
  exact wpAny_pure (hQ _ he')
end
end PySem
namespace L2
open PySem PySem.Spec PyProof.Rows
/-- the tuple at a, each item in a new pair -/
def IteT (K : PySem.W.Frag) (a : Addr) : It :=
  ⟨fun i H => ∃ (xs : List V) (x : V), SqT K H a xs ∧ xs[i]? = some x, fun i H v H' => ∃ T x, v = .ref T ∧ H T = none ∧ H' = upd H T (.tup [.int (i : Nat), x]) ∧ ∀ xs, SqT K H a xs → xs[i]? = some x, fun i H => ∃ xs : List V, SqT K H a xs ∧ xs.length ≤ i⟩
theorem tup_ne_enum {h : Heap} {a e it : Addr} {i : Int} {old : Value} {items : Array Value} (p : h.IsTuple a items) (he : IsEnum h e it i old) : e ≠ a := fun z => by
  obtain ⟨o, ho, hc, _⟩ := p
  rw [← z, he] at ho
  cases ho
  exact absurd (Value.type.inj hc) (by decide)
theorem tup_ne_iter {h : Heap} {a t it : Addr} {i : Nat} {items : Array Value} (p : h.IsTuple a items) (hi : h.IsTupleIter it t i) : a ≠ it := fun z => by
  obtain ⟨o, ho, hc, _⟩ := p
  obtain ⟨o2, ho2, hc2, _⟩ := hi
  rw [z, ho2] at ho
  cases ho
  rw [hc] at hc2
  exact absurd (Value.type.inj hc2) (by decide)
theorem turn_enumT {P : Program} {w : World} {K : PySem.W.Frag} {elts : List Expr} {kk : Nat} {tpos : Pos} (a e it : Addr) :
    Turn P w K (.Tuple elts kk tpos) (IteT K a) [e, it] e (fun i h => (∃ old, IsEnum h e it ((i : Nat) : Int) old) ∧ h.IsTupleIter it a i ∧ e ≠ it) where
  mem := by simp
  obj := fun i h st b hb => by
    obtain ⟨⟨old, he⟩, ⟨o, ho, hc, hd⟩, _⟩ := st
    have e' : b = e ∨ b = it := by simpa using hb
    rcases e' with z | z
    · rw [z]; exact ⟨_, he, fun v q => nomatch q⟩
    · rw [z]; exact ⟨o, ho, fun v q => by rw [hd] at q; cases q⟩
  keep := fun i h h' st k => let ⟨⟨old, he⟩, hi, hne⟩ := st; ⟨⟨old, k e (by simp) _ he⟩, hi.at fun o q => k it (by simp) o q, hne⟩
  item := by
    intro X hP hw hK hc i pins s σ H E I hf st hg
    subst hP hw hK
    obtain ⟨⟨old, he⟩, hit, hne⟩ := st
    obtain ⟨xs, x, hq, hx⟩ := hg
    obtain ⟨its, rv, p, hz⟩ := I.tuple hq
    obtain ⟨u, hu, ru⟩ := rv.get hx
    have p : s.heap.IsTuple a its.toArray := p
    have hel : e < s.heap.objs.size := Heap.lt_size he
    have hil : it < s.heap.objs.size := by obtain ⟨_, q, _⟩ := hit; exact Heap.lt_size q
    have hlt : i < its.toArray.size := by
      rw [List.size_toArray]
      exact (List.getElem?_eq_some_iff.mp hu).1
    have nea := tup_ne_enum p he
    have nai := tup_ne_iter p hit
    refine wpAny_pyNext_enum_itemD (Draws.tuple (A := X.A.in1) (I.ok.hd hc) it a nai its.toArray) he ⟨hit, p⟩ hlt hne (by simp [hne, nea]) fun y h' tk hP ho hst' hT hsz hk => ?_
    have ey : y = u := by
      have : its[i]? = some y := by simpa using hP
      rw [hu] at this
      exact (Option.some.inj this).symm
    subst ey
    refine ⟨_, rfl, wpAny_letOwnedTupleGo_enum (s := { s with heap := h', toks := tk + 1 }) ho fun h'' he' sb => ?_⟩
    have hT2 : h''.get? s.heap.objs.size = some { cls := .type "tuple", data := .seq #[.int i tk, y] } := (sb.2 _ (Nat.ne_of_gt hel)).trans hT
    have new : ObjOk X.prog X.w (upd H s.heap.objs.size (.tup [.int (i : Nat), x])) h'' s.heap.objs.size (.tup [.int (i : Nat), x]) :=
      ⟨by show 2 ≤ sizeLine; decide, [.int i tk, y], .cons ⟨_, rfl⟩ (.cons ru .nil), ⟨_, hT2, rfl, _, rfl⟩⟩
    have I1 : Inv X pins σ (upd H s.heap.objs.size (.tup [.int (i : Nat), x])) { s with heap := h'', toks := tk + 1 } :=
      I.turnedNew (ch := [e, it]) (fun b ob hb q => (sb.2 b (fun z => hb (by simp [z]))).trans (hk b ob (fun z => hb (by simp [z])) (fun z => hb (by simp [z])) q)) hf (Nat.le_refl _) new
    refine ⟨.ref s.heap.objs.size, _, I1, rfl, ⟨_, x, rfl, I.hok.fresh (Nat.le_refl _), rfl, fun ys hy => by rw [I.tuple_inj hy hq]; exact hx⟩, ⟨⟨y, ?_⟩, hst'.1.at fun o q => (sb.2 it (Ne.symm hne)).trans q, hne⟩, fun b hb => ?_⟩
    · have e1 : ((i + 1 : Nat) : Int) = (i : Int) + 1 := by omega
      rw [e1]; exact he'
    · have hb' : b < s.heap.objs.size := by
        have e' : b = e ∨ b = it := by simpa using hb
        rcases e' with z | z
        · rw [z]; exact hel
        · rw [z]; exact hil
      rw [upd_ne (Nat.ne_of_lt hb')]
      exact (hf b hb).1
  done := by
    intro X hP hw hK hc i pins s σ H E I hf st hg
    subst hP hw hK
    obtain ⟨⟨old, he⟩, hit, hne⟩ := st
    obtain ⟨xs, hq, hx⟩ := hg
    obtain ⟨its, rv, p, hz⟩ := I.tuple hq
    obtain ⟨f0, f1, f2, f3, f4, f5⟩ := hf it (by simp)
    have hl := rv.length
    have p : s.heap.IsTuple a its.toArray := p
    have nai := tup_ne_iter p hit
    exact enumT_end (I.ok.hd hc) he hit p (by simp; omega) fun h' eb => ⟨rfl, I.turned (t' := s.toks) (fun b o hb q => eb b o hb q) f0 f1 f3 f4 f5⟩
  self := fun A i s Q E st h => let ⟨⟨_, he⟩, _⟩ := st; wpAny_pyIter_enum he h
def iEnumT (K : PySem.W.Frag) (ta : TA) : TI := fun σ H R => ta σ H fun vs H1 => ∃ a xs, vs = [.ref a] ∧ SqT K H1 a xs ∧ R (IteT K a) H1
theorem pi_enumT {X : Cx} {e : Expr} {ta : TA} {p pos tpos : Pos} {elts : List Expr} {kk : Nat} (hg : Gl X "enumerate") (hm : X.mg "enumerate" = none) (ha : PA X [e] ta) (hs : starEach [e] X.env = [(false, eval e X.env)] := by rfl) :
    PI X (.Tuple elts kk tpos) (.Call (.Name "enumerate" p) [e] [] pos) (iEnumT X.K ta) := by
  refine ⟨fun pins s σ H R I h => ?_⟩
  refine Call_ (ld_blt I hg hm boot_enumerate (PyProof.Rows.callWith_type1 (thn (ha.run pos pins s σ H _ I h) fun us s1 ⟨vs, H1, I1, r1, q1⟩ => ?_) hs rfl))
  obtain ⟨a, xs, ex, hq, q⟩ := q1
  subst ex
  cases r1 with
  | cons r rr =>
    cases rr
    cases r
    obtain ⟨its, rv, p', hz⟩ := I1.tuple hq
    refine enum_begins1 (begins_tuple a its.toArray) (show s1.heap.IsTuple a its.toArray from p') fun h' he hit hsz hk => wpAny_pyIter_enum he ?_
    have I2 : Inv X pins σ H1 { s1 with heap := h' } := I1.kept (t' := s1.toks) hk
    refine ⟨s1.heap.objs.size + 1, [s1.heap.objs.size + 1, s1.heap.objs.size], _, _, H1, rfl, I2, turn_enumT a (s1.heap.objs.size + 1) s1.heap.objs.size, ⟨⟨.none, he⟩, ⟨_, hit, rfl, rfl⟩, Nat.succ_ne_self _⟩, fun b hb => ?_, q⟩
    have e' : b = s1.heap.objs.size + 1 ∨ b = s1.heap.objs.size := by simpa using hb
    have hle : s1.heap.objs.size ≤ b := by
      rcases e' with z | z
      · rw [z]; exact Nat.le_add_right _ _
      · rw [z]; exact Nat.le_refl _
    exact I1.fpOk hle (I1.hok.fresh hle)
/-- a for over enumerate(tuple) in a generator: an invariant by the turn -/
theorem walk_enumT {K : PySem.W.Frag} {a : Addr} {xs : List V} : Walk (IteT K a) xs.length (fun H => SqT K H a xs) (YPair (fun i => some (.int (i : Nat))) (fun i => xs[i]?)) := by
  refine ⟨fun i H hi q => ⟨xs, xs[i], q, by simp [hi]⟩, fun H q => ⟨xs, q, Nat.le_refl _⟩, fun i H v H' hi q y => ?_⟩
  obtain ⟨T, x', e1, hT, e2, y⟩ := y
  exact ⟨T, _, _, e1, hT, e2, rfl, y xs q⟩
end L2
namespace Tw
open PySem PySem.Spec PyProof.Rows L2
/-! ### sure_rows -/
def coX (k : Nat) (e : Ent) : Nat := match k with
  | 0 => e.2.1
  | 1 => e.2.2.1
  | _ => e.2.2.2
/-- what an entry tells of its places -/
def tc (e : Ent) : Nat := if e.1.length = 1 then e.1.headD 63 else 63
/-- all alike, or nothing sure -/
def sureOf : List Nat → Nat
  | [] => 63
  | t :: r => if ∀ y ∈ r, y = t then t else 63
theorem sureOf_snoc (t : Nat) : ∀ ts : List Nat, ts ≠ [] → sureOf (ts ++ [t]) = if sureOf ts = t then t else 63
  | [], h => absurd rfl h
  | a :: r, _ => by
    show (if ∀ y ∈ r ++ [t], y = a then a else 63) = if (if ∀ y ∈ r, y = a then a else 63) = t then t else 63
    by_cases h : ∀ y ∈ r, y = a
    · rw [if_pos h]
      by_cases g : a = t
      · subst g
        rw [if_pos rfl, if_pos fun y hy => by
          rcases List.mem_append.mp hy with hy | hy
          · exact h y hy
          · exact List.mem_singleton.mp hy]
      · rw [if_neg g, if_neg fun z => g (z t (List.mem_append_right _ List.mem_cons_self)).symm]
    · rw [if_neg h, if_neg fun z => h fun y hy => z y (List.mem_append_left _ hy)]
      by_cases g : 63 = t
      · rw [if_pos g, g]
      · rw [if_neg g]
def pick (es : List Ent) (k p : Nat) : List Nat := (es.filter fun e => coX k e == p).map tc
theorem pick_snoc (es : List Ent) (e : Ent) (k p : Nat) : pick (es ++ [e]) k p = pick es k p ++ (if coX k e = p then [tc e] else []) := by
  unfold pick
  rw [List.filter_append, List.map_append]
  by_cases h : coX k e = p
  · rw [if_pos h, List.filter_cons_of_pos (by simpa using h)]; rfl
  · rw [if_neg h, List.filter_cons_of_neg (by simpa using h)]; rfl
def optS (es : List Ent) (k p : Nat) : Option V := if pick es k p = [] then none else some (vc (sureOf (pick es k p)))
def keyP (k p : Nat) : List Key := [.inl (k : Int), .inl (p : Int)]
theorem keyP_inj {k p k' p' : Nat} (h : keyP k p = keyP k' p') : k = k' ∧ p = p' := by
  simp only [keyP, List.cons.injEq, Sum.inl.injEq, and_true] at h
  obtain ⟨h1, h2⟩ := h
  exact ⟨by omega, by omega⟩
/-- the dict behind the entries es and, of e, the places before j -/
structure SgAt (es : List Ent) (e : Ent) (j : Nat) (kv : Kvs) : Prop where
  val : ∀ k p, k < 3 → valV kv (keyP k p) = optS (if k < j then es ++ [e] else es) k p
  len : kv.length ≤ 3 * es.length + j
theorem sg_val {es : List Ent} {e : Ent} {j : Nat} {kv : Kvs} (S : SgAt es e j kv) (hj : j < 3) : (vc (if (valV kv (keyP j (coX j e))).getD (vc (tc e)) = vc (tc e) then tc e else 63)) = vc (sureOf (pick (es ++ [e]) j (coX j e))) := by
  rw [S.val j _ hj, if_neg (Nat.lt_irrefl j), pick_snoc, if_pos rfl]
  unfold optS
  by_cases h : pick es j (coX j e) = []
  · rw [if_pos h, h]
    show vc (if vc (tc e) = vc (tc e) then tc e else 63) = _
    rw [if_pos rfl]
    exact congrArg vc (show tc e = if ∀ y ∈ ([] : List Nat), y = tc e then tc e else 63 by rw [if_pos fun y hy => (nomatch hy)])
  · rw [if_neg h, sureOf_snoc _ _ h]
    show vc (if vc (sureOf _) = vc (tc e) then tc e else 63) = _
    by_cases g : sureOf (pick es j (coX j e)) = tc e
    · rw [if_pos (by rw [g]), if_pos g]
    · rw [if_neg (fun z => g (ch_inj (V.str.inj z))), if_neg g]
theorem SgAt.put {es : List Ent} {e : Ent} {j : Nat} {kv : Kvs} (S : SgAt es e j kv) (hj : j < 3) : SgAt es e (j + 1) (putK kv (keyP j (coX j e)) (vc (sureOf (pick (es ++ [e]) j (coX j e))))) := by
  refine ⟨fun k p hk => ?_, Nat.le_trans (length_putK _ _ _) (by have := S.len; omega)⟩
  rw [valV_put]
  by_cases h : keyP k p = keyP j (coX j e)
  · obtain ⟨rfl, rfl⟩ := keyP_inj h
    rw [if_pos h, if_pos (Nat.lt_succ_self _)]
    unfold optS
    rw [if_neg (by rw [pick_snoc, if_pos rfl]; simp)]
  · rw [if_neg h, S.val k p hk]
    by_cases hkj : k < j
    · rw [if_pos hkj, if_pos (by omega)]
    · rw [if_neg hkj]
      by_cases hk2 : k < j + 1
      · have : k = j := by omega
        subst this
        rw [if_pos hk2]
        unfold optS
        have ne : ¬ coX k e = p := fun z => h (by rw [z])
        rw [pick_snoc, if_neg ne, List.append_nil]
      · rw [if_neg hk2]
theorem SgAt.done {es : List Ent} {e : Ent} {kv : Kvs} (S : SgAt es e 3 kv) (e' : Ent) : SgAt (es ++ [e]) e' 0 kv :=
  ⟨fun k p hk => by rw [S.val k p hk, if_pos hk, if_neg (Nat.not_lt_zero _)], by have := S.len; rw [List.length_append]; show _ ≤ 3 * (es.length + 1) + 0; omega⟩
/-- a row as the program tells it -/
def rowS (es : List Ent) (n k : Nat) : List Nat := (List.range n).map fun p => sureOf (pick es k p)
def Covers (es : List Ent) (n : Nat) : Prop := ∀ k p, k < 3 → p < n → pick es k p ≠ []
def spSure (ks : List Kd) (C : Addr) : List V → List V → Hp → VK → XK → Prop := fun vs zs H Q E => vs = [] ∧ ∃ (L : Rows) (n : Nat), Named ks zs L n ∧
  (∀ es : List Ent, (∀ e, e ∈ es ↔ ∃ t x, Reach (g3 L n) n t ∧ x ∈ live (g3 L n) t ∧ e = entX t x) → cnt (g3 L n) (wholeS n) ≠ 0 → Covers es n) ∧
  (cnt (g3 L n) (wholeS n) = 0 → ∀ H', Same H H' → E (.ref C) none H') ∧
  (cnt (g3 L n) (wholeS n) ≠ 0 → ∀ (es : List Ent) (p : Addr) (H' : Hp), (∀ e, e ∈ es ↔ ∃ t x, Reach (g3 L n) n t ∧ x ∈ live (g3 L n) t ∧ e = entX t x) → Same H H' → H' p = some (.tup [vt (rowS es n 0), vt (rowS es n 1), vt (rowS es n 2)]) → Q (.ref p) H')
def rJoinK (K : PySem.W.Frag) : V → List V → Hp → VK → Prop := fun x xs H Q => ∃ a p, ∃ ys : List Str, x = .str a ∧ xs = [.ref p] ∧ (SqL K H p (ys.map V.str) ∨ SqT K H p (ys.map V.str)) ∧ (ys.map fun x => x.length).sum + ys.length * a.length ≤ 16777216 ∧ Q (.str (Txt.join a ys)) H
section
variable {P : Program} {w : World} {K : PySem.W.Frag} {mg : Str → Option Value} {base : Heap} {f : Addr} {fd : FuncData} {C : Addr}
theorem sc_sure_rows : FnScope ["rows", "given", "counts", "signs", "letters", "places", "told", "at", "place", "row"] ["rows"] (defScope s_sure_rows) := ⟨rfl, rfl, rfl, by decide +kernel, rfl, by decide +kernel, by decide +kernel⟩
theorem ok_sure {ks : List Kd} (h3 : ks.length ≤ 3) (F : Fun K "sure_rows" "sure_rows" s_sure_rows f fd) (M : Mgs mg) (mEn : mg "enumerate" = none) (X0 : Err0 K mg "NoFit" C) (Bk : KwBind fd [] "rows" (ks.map Kd.str)) (Dthree_rows : Df P w K mg base 3 "three_rows" ["rows"] spThree) (Dwhole_of : Df P w K mg base 1 "whole_of" ["given"] spWhole) (Dcounts_of : Df P w K mg base 17 "counts_of" ["given"] spCounts) (Dlive_roots : Df P w K mg base 4 "live_roots" ["given", "counts"] spRoots) :
    FnKwX (L2.CX P w) P w K mg base 18 f 0 (ks.map Kd.str) (spSure ks C) := by
  refine fnKwX StX.cxUp (k := 17) (ps := []) F Bk (by rw [List.length_map]; omega) sc_sure_rows fun cdv A outer s H vs zs d Q E hr hd hl h => ?_
  obtain ⟨H0, n0, eH, rfl, L, n, nm, cov, qE, q⟩ := h
  refine ⟨_, (pss_cons (ps_set (i := 1) sc_sure_rows.nd rfl (.inl rfl) (pe_call Dthree_rows.ok (hr.mono (by omega)) rfl Dthree_rows.g Dthree_rows.kp Dthree_rows.b .nil pass0 (pa_cons (pv 0) pa_nil)))
    (pss_cons (ps_set (i := 2) sc_sure_rows.nd rfl (.inl rfl) (pe_call Dcounts_of.ok (hr.mono (by omega)) rfl Dcounts_of.g Dcounts_of.kp Dcounts_of.b .nil pass0 (pa_cons (pv 1) pa_nil)))
    (pss_cons (ps_if (pt_cmpR op_eq (pe_dget (Nat.lt_of_le_of_lt (Nat.add_le_add_left (by decide) _) hr.units) (pv 2) (pe_call Dwhole_of.ok (hr.mono (by omega)) rfl Dwhole_of.g Dwhole_of.kp Dwhole_of.b .nil pass0 (pa_cons (pv 1) pa_nil)) (fun _ _ => rfl)) pe_int (nomark _))
      (pss_one (ps_raise rfl (takes_of rfl rfl rfl rfl) (pmk_own0 PySem.F.excBase_ValueError X0.q X0.g X0.k (raises_own X0.e X0.t) rfl))) pss_nil)
    (pss_cons (ps_set (i := 3) sc_sure_rows.nd rfl (.inr rfl) pe_dnewT)
    (pss_cons (ps_for (passes_of rfl) rfl (pi_list (pe_call Dlive_roots.ok (hr.mono (by omega)) rfl Dlive_roots.g Dlive_roots.kp Dlive_roots.b .nil pass0 (pa_cons (pv 1) (pa_cons (pv 2) pa_nil)))) (pg_tup rfl (pgs_cons (pg_name (i := 4) sc_sure_rows.nd rfl (.inl rfl)) (pgs_cons (pg_name (i := 5) sc_sure_rows.nd rfl (.inl rfl)) pgs_nil)))
      (pss_cons (ps_set (i := 6) sc_sure_rows.nd rfl (.inl rfl) (pe_ifExp (pt_cmpR op_eq (pe_callB call_len_str rfl M.len PySem.boot_len (pa_cons (pv 4) pa_nil)) pe_int (nomark _)) (pv 4) pe_str))
    (pss_one (ps_for (passes_of rfl) rfl (pi_enumT rfl mEn (pa_cons (pv 5) pa_nil)) (pg_tup rfl (pgs_cons (pg_name (i := 7) sc_sure_rows.nd rfl (.inl rfl)) (pgs_cons (pg_name (i := 8) sc_sure_rows.nd rfl (.inl rfl)) pgs_nil)))
      (pss_one (ps_dput (Nat.lt_of_le_of_lt (Nat.add_le_add_left (by decide) _) hr.units) (pv 3) (pe_tup (pa_cons (pv 7) (pa_cons (pv 8) pa_nil))) (pe_ifExp (pt_cmpR op_eq (pe_dget2 (Nat.lt_of_le_of_lt (Nat.add_le_add_left (by decide) _) hr.units) (pv 3) (pe_tup (pa_cons (pv 7) (pa_cons (pv 8) pa_nil))) (pv 6) ⟨rfl, rfl, rfl, rfl⟩) (pv 6) (nomark _)) (pv 6) pe_str) rfl))))))
    (pss_one (ps_ret (pe_callTy call_tuple_of rfl M.tuple (by decide +kernel) (pa_cons (pe_lc (own := [("at", 7), ("row", 9)]) (g := gTup K 2 (gCons (gName 7) (gCons (gName 9) gNil))) (tt := tYes) rfl sc_sure_rows.nd (pi_enumT rfl mEn (pa_cons (pv 1) pa_nil)) (blkOk_by (N := ["rows", "given", "counts", "signs", "letters", "places", "told", "at", "place", "row"]) (sc := defScope s_sure_rows) (by decide +kernel)) (fun _ _ _ _ _ => (pg_tup rfl (pgs_cons (pg_name (i := 7) sc_sure_rows.nd rfl (.inr rfl)) (pgs_cons (pg_name (i := 9) sc_sure_rows.nd rfl (.inl rfl)) pgs_nil)))) (fun _ _ _ _ _ => pts_nil) (fun _ _ _ _ _ => (show PE _ _ (tBM K "str" (rJoinK K) _ _) from pe_bm PySem.F.plainAttrs_str PySem.F.slot_str_join PySem.F.type_str_join mt_join pe_str (pa_cons (pe_lc (own := [("place", 8)]) (g := gName 8) (tt := tYes) rfl sc_sure_rows.nd (pi_range1 rfl M.range (pa_cons (pe_callB call_len_str rfl M.len PySem.boot_len (pa_cons (pv 9) pa_nil)) pa_nil)) (blkOk_by (N := ["rows", "given", "counts", "signs", "letters", "places", "told", "at", "place", "row"]) (sc := { kind := .function, names := [(".0", .local), ("at", .cell), ("row", .local), ("range", .globalImplicit), ("len", .globalImplicit), ("signs", .cell)], isGenerator := false, isCoroutine := false }) (by decide +kernel)) (fun _ _ _ _ _ => (pg_name (i := 8) sc_sure_rows.nd rfl (.inl rfl))) (fun _ _ _ _ _ => pts_nil) (fun _ _ _ _ _ => (pe_dget (Nat.lt_of_le_of_lt (Nat.add_le_add_left (by decide) _) hr.units) (pv 3) (pe_tup (pa_cons (pv 7) (pa_cons (pv 8) pa_nil))) (fun _ _ => rfl)))) pa_nil)))) pa_nil))))))))), ?_⟩
  have e1 := nm.ks
  have e2 := nm.zs
  subst e1 e2
  rw [rows_zip] at hd eH
  have k0 := same_new n0 (.dK (rowsK L))
  rw [← eH] at k0
  have gok := nm.g
  have n12 := gok.few
  refine ⟨_, rfl, d, L, n, rfl, hd, nm.ne, nm.nd, nm.few, nm.ok, fun g H1 s1 eg => ?_⟩
  refine ⟨_, rfl, g, g3 L n, n, rfl, eg, gok, fun c kvs H2 s2 nc ec T m => ?_⟩
  refine ⟨_, rfl, _, rfl, g, g3 L n, n, rfl, s2 _ _ eg, gok, fun t H3 s3 et => ?_⟩
  refine ⟨c, _, rfl, .inr ⟨kvs, keyS (wholeS n), t, .inl (s3 _ _ ec), rfl, et, (T.val m).symm⟩, rfl, _, rfl, ?_⟩
  by_cases z : cnt (g3 L n) (wholeS n) = 0
  · rw [decide_eq_true (show V.int (cnt (g3 L n) (wholeS n) : Int) = V.int 0 by rw [z]; rfl)]
    exact iteT (qE z H3 (k0.trans (s1.trans (s2.trans s3))))
  rw [decide_eq_false (show ¬ V.int (cnt (g3 L n) (wholeS n) : Int) = V.int 0 from fun e => z (by have := V.int.inj e; omega))]
  have q := q z
  have cov := fun es h => cov es h z
  refine iteF fun S nS => ?_
  have kS := same_new nS (.dT [])
  have eS0 := upd_same (H := H3) (a := S) (o := .dT [])
  have hasC : Has (g3 L n) n (wholeS n) (upd H3 S (.dT [])) c := ⟨kvs, kS _ _ (s3 _ _ ec), T, m⟩
  have eg4 := kS _ _ (s3 _ _ (s2 _ _ eg))
  have k4 := k0.trans (s1.trans (s2.trans (s3.trans kS)))
  have nS0 : H0 S = none := same_none (k0.trans (s1.trans (s2.trans s3))) nS
  generalize upd H3 S (.dT []) = H4 at kS eS0 hasC eg4 k4 ⊢
  refine ⟨_, rfl, _, rfl, g, c, g3 L n, n, rfl, eg4, gok, hasC, fun p us es H5 s5 ep5 ea len5 hes => ?_⟩
  have eS5 := s5 _ _ eS0
  have npS : p ≠ S := fun z => by rw [z, eS5] at ep5; cases ep5
  have el := ea.len
  refine ⟨p, rfl, ⟨_, SqL.of ep5⟩, ?_⟩
  refine for_list (K := K) (a := p) (xs := us) (fun x σ H' => ∃ (o4 o5 o6 o7 o8 o9 : Option V) (kv : Kvs), σ = [some (.ref d), some (.ref g), some (.ref c), some (.ref S), o4, o5, o6, o7, o8, o9] ∧ SameB S H5 H' ∧ H' S = some (.dT kv) ∧ SgAt (es.take x) ([], 0, 0, 0) 0 kv)
    ⟨_, _, _, _, _, _, [], rfl, fun _ _ _ e => e, eS5, ⟨fun k p hk => rfl, Nat.le_refl _⟩⟩ (fun x σ H' _ hp => by obtain ⟨_, _, _, _, _, _, _, _, s6, _⟩ := hp; exact SqL.of (s6 _ _ npS ep5)) (fun x u σ H6 hx hp => ?_) (fun σ H6 hp => ?_)
  · obtain ⟨o4, o5, o6, o7, o8, o9, kv, rfl, s6, eS6, SG⟩ := hp
    obtain ⟨pp, pq, e, rfl, exx, e1, e2⟩ := ea.get hx
    have e1' := s6.tup eS5 e1
    have e2' := s6.tup eS5 e2
    have l26 : e.1.length ≤ 26 := by
      obtain ⟨t', x', _, hl, rfl⟩ := (hes e).mp (List.mem_of_getElem? exx)
      obtain ⟨_, _, q1, _⟩ := spl_mem (live_spl hl)
      show x'.1.length ≤ 26
      rw [q1]
      exact comm_len _
    refine ⟨pp, _, rfl, SqT.of e1', rfl, _, _, rfl, _, _, rfl, rfl, ?_⟩
    refine seq_cut (fun σ H' => σ = [some (.ref d), some (.ref g), some (.ref c), some (.ref S), some (vt e.1), some (.ref pq), some (vc (tc e)), o7, o8, o9] ∧ H' = H6) (fun σ H6 hp => ?_) (fun fin => ?_)
    · obtain ⟨rfl, rfl⟩ := hp
      have SG0 : SgAt (es.take x) e 0 kv := ⟨fun k p hk => by rw [SG.val k p hk, if_neg (Nat.not_lt_zero _), if_neg (Nat.not_lt_zero _)], SG.len⟩
      have hlen : (es.take x).length ≤ 342732 := by rw [List.length_take]; omega
      refine ⟨_, rfl, pq, _, rfl, SqT.of e2', ?_⟩
      refine for_it (walk_enumT (K := K) (a := pq) (xs := [V.int (e.2.1 : Int), .int (e.2.2.1 : Int), .int (e.2.2.2 : Int)])) (fun j σ H' => ∃ (o7 o8 : Option V) (kv : Kvs), σ = [some (.ref d), some (.ref g), some (.ref c), some (.ref S), some (vt e.1), some (.ref pq), some (vc (tc e)), o7, o8, o9] ∧ SameB S H6 H' ∧ H' S = some (.dT kv) ∧ SgAt (es.take x) e j kv)
        ⟨o7, o8, kv, rfl, fun _ _ _ e => e, eS6, SG0⟩ (fun j σ H' _ hp => by obtain ⟨_, _, _, _, s7, _⟩ := hp; exact SqT.of (s7.tup eS6 e2')) (fun j v σ H7 H8 hj hp hy => ?_) (fun σ H7 hp => ?_)
      · obtain ⟨o7, o8, kv7, rfl, s7, eS7, S7⟩ := hp
        obtain ⟨T, x1, y1, rfl, nT, rfl, hx1, hy1⟩ := hy
        cases hx1
        have hj : j < 3 := hj
        obtain rfl : y1 = .int (coX j e : Int) := by
          match j, hj, hy1 with
          | 0, _, h => exact (Option.some.inj h).symm
          | 1, _, h => exact (Option.some.inj h).symm
          | 2, _, h => exact (Option.some.inj h).symm
        have kT := same_new nT (.tup [V.int (j : Nat), .int (coX j e : Int)])
        have eT := upd_same (H := H7) (a := T) (o := .tup [V.int (j : Nat), .int (coX j e : Int)])
        have eS8 := kT _ _ eS7
        generalize upd H7 T (.tup [V.int (j : Nat), .int (coX j e : Int)]) = H8 at kT eT eS8 ⊢
        obtain ⟨od, eod⟩ : ∃ od, (valV kv7 (keyP j (coX j e))).getD (vc (tc e)) = vc od := by
          rw [S7.val j _ hj, if_neg (Nat.lt_irrefl j)]
          unfold optS
          by_cases ze : pick (es.take x) j (coX j e) = []
          · rw [if_pos ze]; exact ⟨_, rfl⟩
          · rw [if_neg ze]; exact ⟨_, rfl⟩
        have sv := sg_val S7 hj
        have l7 := S7.len
        refine ⟨T, _, rfl, SqT.of eT, rfl, _, _, rfl, _, _, rfl, rfl, ?_⟩
        refine ⟨_, rfl, S, rfl, .inr ⟨kv7, .inl eS8⟩, _, rfl, _, rfl, (by show 2 ≤ sizeLine; decide), fun qa nqa => ?_⟩
        have kA := same_new nqa (.tup [V.int (j : Nat), .int (coX j e : Int)])
        have eA := upd_same (H := H8) (a := qa) (o := .tup [V.int (j : Nat), .int (coX j e : Int)])
        have eS9 := kA _ _ eS8
        generalize upd H8 qa (.tup [V.int (j : Nat), .int (coX j e : Int)]) = H9 at kA eA eS9 ⊢
        refine ⟨_, rfl, valV kv7 (keyP j (coX j e)), .inr ⟨kv7, keyP j (coX j e), qa, .inl eS9, rfl, eA, rfl⟩, ?_⟩
        rw [eod] at sv ⊢
        have put := S7.put hj
        rw [← sv] at put
        have sA := (SameB.of (d := S) (kT.trans kA))
        refine ⟨_, rfl, rfl, _, rfl, ?_⟩
        by_cases h1 : vc od = vc (tc e)
        · rw [if_pos h1] at put
          rw [decide_eq_true h1]
          refine iteT ⟨_, rfl, _, rfl, _, rfl, _, rfl, (by show 2 ≤ sizeLine; decide), fun qb nqb => ?_⟩
          have kB := same_new nqb (.tup [V.int (j : Nat), .int (coX j e : Int)])
          have eB := upd_same (H := H9) (a := qb) (o := .tup [V.int (j : Nat), .int (coX j e : Int)])
          have eS10 := kB _ _ eS9
          generalize upd H9 qb (.tup [V.int (j : Nat), .int (coX j e : Int)]) = H10 at kB eB eS10 ⊢
          refine ⟨S, _, rfl, .inr ⟨kv7, keyP j (coX j e), qb, eS10, rfl, eB, Nat.lt_of_le_of_lt (show kv7.length ≤ 1100000 by omega) (by decide), rfl⟩, ?_⟩
          exact ⟨_, _, _, rfl, (s7.trans (sA.trans (SameB.of kB))).trans fun b o hb e => by rw [upd_ne hb]; exact e, upd_same, put⟩
        · rw [if_neg h1] at put
          rw [decide_eq_false h1]
          refine iteF ⟨_, rfl, _, rfl, _, rfl, (by show 2 ≤ sizeLine; decide), fun qb nqb => ?_⟩
          have kB := same_new nqb (.tup [V.int (j : Nat), .int (coX j e : Int)])
          have eB := upd_same (H := H9) (a := qb) (o := .tup [V.int (j : Nat), .int (coX j e : Int)])
          have eS10 := kB _ _ eS9
          generalize upd H9 qb (.tup [V.int (j : Nat), .int (coX j e : Int)]) = H10 at kB eB eS10 ⊢
          refine ⟨S, _, rfl, .inr ⟨kv7, keyP j (coX j e), qb, eS10, rfl, eB, Nat.lt_of_le_of_lt (show kv7.length ≤ 1100000 by omega) (by decide), rfl⟩, ?_⟩
          refine ⟨_, _, _, rfl, (s7.trans (sA.trans (SameB.of kB))).trans fun b o hb e => by rw [upd_ne hb]; exact e, upd_same, ?_⟩
          rw [str_q]
          exact put
      · obtain ⟨o7, o8, kv7, rfl, s7, eS7, S7⟩ := hp
        have := S7.done ([], 0, 0, 0)
        refine ⟨_, _, _, _, _, _, kv7, rfl, s6.trans s7, eS7, ?_⟩
        rw [take_next exx]
        exact this
    · have lz : (tx e.1).length ≤ sizeLine := small (by rw [tx_len]; omega)
      refine ⟨_, rfl, _, rfl, lz, rfl, _, rfl, ?_⟩
      rw [tx_len]
      by_cases h1 : e.1.length = 1
      · rw [decide_eq_true (show V.int (e.1.length : Int) = V.int 1 by rw [h1]; rfl)]
        refine iteT ⟨_, rfl, fin _ _ ⟨?_, rfl⟩⟩
        obtain ⟨c1, h2⟩ : ∃ c1, e.1 = [c1] := List.length_eq_one_iff.mp h1
        have : tc e = c1 := by unfold tc; rw [if_pos h1, h2]; rfl
        rw [this, h2]
        rfl
      · rw [decide_eq_false (show ¬ V.int (e.1.length : Int) = V.int 1 from fun e => h1 (by have := V.int.inj e; omega))]
        refine iteF (fin _ _ ⟨?_, rfl⟩)
        have : tc e = 63 := by unfold tc; rw [if_neg h1]
        rw [this, str_q]
        rfl
  · obtain ⟨o4, o5, o6, o7, o8, o9, kv, rfl, s6, eS6, SG⟩ := hp
    rw [el, List.take_length] at SG
    have cv := cov es hes
    have eg6 := s6.tup eS5 (s5 _ _ eg4)
    refine ⟨_, rfl, g, _, rfl, SqT.of eg6, fun D nD => ?_⟩
    have sr0 : ∀ k, (rowS es n k).length = n := fun k => by unfold rowS; rw [List.length_map, List.length_range]
    have gl : ∀ r ∈ [rowOf L n .first, rowOf L n .between, rowOf L n .last], r.length = n := fun r hr => by
      rcases List.mem_cons.mp hr with rfl | hr
      · exact gok.a
      rcases List.mem_cons.mp hr with rfl | hr
      · exact gok.b
      · rw [List.mem_singleton.mp hr]; exact gok.c
    have sH : ∀ {b : Addr} {o : HO}, H0 b = some o → H6 b = some o := fun {b o} e => s6 b o (fun z => by rw [z, nS0] at e; cases e) (s5 _ _ (k4 _ _ e))
    refine lc_it (walk_enumT (K := K) (a := g) (xs := (g3 L n).tup)) (fun j H' => Same H6 H' ∧ H' D = some (.lst ((List.range j).map fun k => vt (rowS es n k)))) ⟨same_new nD (.lst []), upd_same⟩ (fun _ H' _ hp => SqT.of (hp.1 _ _ eg6)) (fun j v H7 H8 hj hp hy => ?_) (fun H7 hp => ?_)
    · obtain ⟨s7, eD7⟩ := hp
      obtain ⟨T, x1, y1, rfl, nT, rfl, hx1, hy1⟩ := hy
      cases hx1
      have hj : j < 3 := hj
      obtain ⟨r, rfl, rl⟩ : ∃ r : List Nat, y1 = vt r ∧ r.length = n := by
        match j, hj, hy1 with
        | 0, _, h => exact ⟨_, (Option.some.inj h).symm, gok.a⟩
        | 1, _, h => exact ⟨_, (Option.some.inj h).symm, gok.b⟩
        | 2, _, h => exact ⟨_, (Option.some.inj h).symm, gok.c⟩
      have kT := same_new nT (.tup [V.int (j : Nat), vt r])
      have eT := upd_same (H := H7) (a := T) (o := .tup [V.int (j : Nat), vt r])
      have eD8 := kT _ _ eD7
      have s8 := s7.trans kT
      generalize upd H7 T (.tup [V.int (j : Nat), vt r]) = H8 at kT eT eD8 s8 ⊢
      refine ⟨T, _, rfl, SqT.of eT, rfl, _, _, rfl, _, _, rfl, rfl, ?_⟩
      have lz : (tx r).length ≤ sizeLine := small (by rw [tx_len]; omega)
      refine ⟨rfl, kept ⟨rfl, ?_⟩⟩
      refine ⟨_, rfl, _, rfl, lz, _, rfl, by rw [tx_len]; omega, by rw [tx_len]; omega, fun D2 nD2 => ?_⟩
      rw [tx_len, rl]
      refine lc_range (lo := 0) (n := n) (fun m H' => Same H8 H' ∧ H' D2 = some (.lst ((List.range m).map fun p => vc (sureOf (pick es j p))))) ⟨same_new nD2 (.lst []), upd_same⟩ (fun m H9 hm hp => ?_) (fun H9 hp => ?_)
      · obtain ⟨s9, eD9⟩ := hp
        rw [show (0 : Int) + (m : Int) = ((m : Nat) : Int) from Int.zero_add _]
        have eS9 := s9 _ _ (s8 _ _ eS6)
        refine ⟨rfl, kept ⟨_, rfl, _, rfl, _, rfl, (by show 2 ≤ sizeLine; decide), fun qa nqa => ?_⟩⟩
        have kA := same_new nqa (.tup [V.int (j : Nat), .int (m : Nat)])
        have eA := upd_same (H := H9) (a := qa) (o := .tup [V.int (j : Nat), .int (m : Nat)])
        have eSA := kA _ _ eS9
        have eDA := kA _ _ eD9
        have s10 := s9.trans kA
        generalize upd H9 qa (.tup [V.int (j : Nat), .int (m : Nat)]) = H10 at kA eA eSA eDA s10 ⊢
        refine ⟨S, vc (sureOf (pick es j m)), rfl, .inr ⟨kv, keyP j m, qa, .inl eSA, rfl, eA, ?_⟩, _, eDA, ?_, same_put s10 nD2 _, ?_⟩
        · rw [SG.val j m hj, if_neg (Nat.not_lt_zero _)]
          unfold optS
          rw [if_neg (cv j m hj hm)]
        · rw [List.length_map, List.length_range]; exact small1000 (by omega)
        · rw [upd_same, List.range_succ, List.map_append]; rfl
      · obtain ⟨s9, eD9⟩ := hp
        have eD9b := s9 _ _ eD8
        have e9 : H9 D2 = some (.lst (((rowS es n j).map ch).map V.str)) := by
          rw [eD9]
          unfold rowS
          rw [List.map_map, List.map_map]
          rfl
        refine ⟨_, D2, (rowS es n j).map ch, rfl, rfl, .inl (SqL.of e9), tx_joinOk _ (by rw [sr0]; omega), ?_⟩
        rw [tx_join]
        refine ⟨_, eD9b, by rw [List.length_map, List.length_range]; exact small1000 (by omega), same_put (s8.trans s9) nD _, ?_⟩
        rw [upd_same, List.range_succ, List.map_append]; rfl
    · obtain ⟨s7, eD7⟩ := hp
      have eD7 : H7 D = some (.lst [vt (rowS es n 0), vt (rowS es n 1), vt (rowS es n 2)]) := eD7
      refine ⟨D, _, rfl, .inl ⟨SqL.of eD7, fun l nl => ?_⟩⟩
      refine q es l _ hes (fun b o e => ?_) upd_same
      have e7 := s7 _ _ (sH e)
      rw [upd_ne (fun z => by rw [z, nl] at e7; cases e7)]
      exact e7
end
/-! ### the live roots are the roots of the shapes that fit -/
theorem shapes_all : ∀ x : S, x ∈ shapes x.size
  | .nil => List.mem_cons_self
  | .node l r => by
    show S.node l r ∈ shapes (1 + l.size + r.size)
    rw [show 1 + l.size + r.size = (l.size + r.size) + 1 by omega, shapes_succ]
    refine List.mem_flatMap.mpr ⟨l.size, List.mem_range.mpr (by omega), List.mem_flatMap.mpr ⟨l, shapes_all l, List.mem_map.mpr ⟨r, ?_, rfl⟩⟩⟩
    rw [show l.size + r.size - l.size = r.size by omega]
    exact shapes_all r
theorem prodL_pos : ∀ l : List (List Nat), prodL l ≠ 0 ↔ [] ∉ l
  | [] => ⟨fun _ h => (nomatch h), fun _ => Nat.one_ne_zero⟩
  | x :: l => by
    have ih := prodL_pos l
    show x.length * prodL l ≠ 0 ↔ _
    constructor
    · intro h hm
      rcases List.mem_cons.mp hm with e | e
      · exact h (by rw [← e]; exact Nat.zero_mul _)
      · exact ih.mp (fun z => h (by rw [z, Nat.mul_zero])) e
    · intro h z
      rcases Nat.mul_eq_zero.mp z with z | z
      · exact h (by rw [List.length_eq_zero_iff.mp z]; exact List.mem_cons_self)
      · exact ih.mpr (fun m => h (List.mem_cons_of_mem _ m)) z
structure Fits (G : G3) (x : S) (t : St4) : Prop where
  sz : x.size = t.1
  ok : [] ∉ letsOf G x t
abbrev spotsAt (x : S) (t : St4) : List (Nat × Nat × Nat) := spotsOf x t.2.1 t.2.2.1 t.2.2.2
theorem cnt_fits {G : G3} {t : St4} : cnt G t ≠ 0 ↔ ∃ x, Fits G x t := by
  rw [cnt_shapes t.1 t rfl]
  constructor
  · intro h
    have ex : ∃ x ∈ shapes t.1, prodL (letsOf G x t) ≠ 0 := by
      generalize shapes t.1 = l at h
      induction l with
      | nil => exact absurd rfl h
      | cons a l ih =>
        rw [List.map_cons, List.sum_cons] at h
        by_cases z : prodL (letsOf G a t) = 0
        · obtain ⟨x, hx, e⟩ := ih (by omega)
          exact ⟨x, List.mem_cons_of_mem _ hx, e⟩
        · exact ⟨a, List.mem_cons_self, z⟩
    obtain ⟨x, hx, e⟩ := ex
    exact ⟨x, shapes_size _ _ hx, (prodL_pos _).mp e⟩
  · rintro ⟨x, sz, ok⟩ h
    have hx : x ∈ shapes t.1 := by rw [← sz]; exact shapes_all x
    have pos := (prodL_pos _).mpr ok
    have : ∀ l : List S, x ∈ l → prodL (letsOf G x t) ≤ (l.map fun x => prodL (letsOf G x t)).sum := by
      intro l
      induction l with
      | nil => exact fun z => (nomatch z)
      | cons a l ih =>
        intro hm
        rw [List.map_cons, List.sum_cons]
        rcases List.mem_cons.mp hm with rfl | hm
        · omega
        · have := ih hm; omega
    have := this _ hx
    omega
theorem Fits.node {G : G3} {l r : S} {t : St4} : Fits G (.node l r) t ↔ t.1 = 1 + l.size + r.size ∧ letS G t l.size ≠ [] ∧ Fits G l (leftS t l.size) ∧ Fits G r (rightS t l.size) := by
  constructor
  · rintro ⟨sz, ok⟩
    have sz : 1 + l.size + r.size = t.1 := sz
    have ok : [] ∉ letS G t l.size :: (letsOf G l (leftS t l.size) ++ letsOf G r (rightS t l.size)) := ok
    refine ⟨sz.symm, fun z => ok (by rw [z]; exact List.mem_cons_self), ⟨rfl, fun m => ok (List.mem_cons_of_mem _ (List.mem_append_left _ m))⟩, ⟨?_, fun m => ok (List.mem_cons_of_mem _ (List.mem_append_right _ m))⟩⟩
    show r.size = t.1 - 1 - l.size
    omega
  · rintro ⟨sz, h0, h1, h2⟩
    refine ⟨sz.symm, fun m => ?_⟩
    have m : [] ∈ letS G t l.size :: (letsOf G l (leftS t l.size) ++ letsOf G r (rightS t l.size)) := m
    rcases List.mem_cons.mp m with e | m
    · exact h0 e.symm
    rcases List.mem_append.mp m with m | m
    · exact h1.ok m
    · exact h2.ok m
theorem live_of {G : G3} {l r : S} {t : St4} (h : Fits G (.node l r) t) : (letS G t l.size, leftS t l.size, rightS t l.size) ∈ live G t := by
  obtain ⟨sz, h0, h1, h2⟩ := Fits.node.mp h
  refine List.mem_filter.mpr ⟨List.mem_flatMap.mpr ⟨l.size, List.mem_range.mpr (by omega), ?_⟩, ?_⟩
  · unfold splAt
    rw [if_neg h0]
    exact List.mem_cons_self
  · unfold isLive
    rw [decide_eq_true (cnt_fits.mpr ⟨l, h1⟩), decide_eq_true (cnt_fits.mpr ⟨r, h2⟩)]
    rfl
theorem ent_of {G : G3} {n : Nat} : ∀ (x : S) (t : St4), Reach G n t → Fits G x t → ∀ p ∈ spotsAt x t, ∃ u y, Reach G n u ∧ y ∈ live G u ∧ entX u y = (comm (sigs G p), p)
  | .nil, _, _, _, _, hp => nomatch hp
  | .node l r, t, hr, hf, p, hp => by
    have hl := live_of hf
    obtain ⟨sz, h0, h1, h2⟩ := Fits.node.mp hf
    have hp : p ∈ (t.2.1, t.2.2.1 + l.size, t.2.2.2 + (1 + l.size + r.size) - 1) :: (spotsAt l (leftS t l.size) ++ spotsAt r (rightS t l.size)) := hp
    rcases List.mem_cons.mp hp with rfl | hp
    · refine ⟨t, _, hr, hl, ?_⟩
      rw [← sz]
      rfl
    rcases List.mem_append.mp hp with hp | hp
    · exact ent_of l _ (.left hr hl) h1 p hp
    · exact ent_of r _ (.right hr hl) h2 p hp
theorem fits_up {G : G3} {n : Nat} {t : St4} (h : Reach G n t) : ∀ x, Fits G x t → ∃ w, Fits G w (wholeS n) ∧ ∀ p ∈ spotsAt x t, p ∈ spotsAt w (wholeS n) := by
  induction h with
  | whole => exact fun x hx => ⟨x, hx, fun p hp => hp⟩
  | @left t y hr hy ih =>
    intro x hx
    obtain ⟨s, hs, e1, e2, e3, e4⟩ := spl_mem (live_spl hy)
    have lv := (Bool.and_eq_true_iff.mp (List.mem_filter.mp hy).2).2
    obtain ⟨r, hr2⟩ := cnt_fits.mp (of_decide_eq_true lv)
    rw [e3] at hx
    rw [e4] at hr2
    have xs : x.size = s := hx.sz
    have rs : r.size = t.1 - 1 - s := hr2.sz
    subst xs
    obtain ⟨w, hw, sp⟩ := ih (.node x r) (Fits.node.mpr ⟨by omega, by rw [← e1]; exact e2, hx, hr2⟩)
    refine ⟨w, hw, fun p hp => sp p (List.mem_cons_of_mem _ (List.mem_append_left _ ?_))⟩
    rw [e3] at hp
    exact hp
  | @right t y hr hy ih =>
    intro x hx
    obtain ⟨s, hs, e1, e2, e3, e4⟩ := spl_mem (live_spl hy)
    have lv := (Bool.and_eq_true_iff.mp (List.mem_filter.mp hy).2).1
    obtain ⟨l, hl2⟩ := cnt_fits.mp (of_decide_eq_true lv)
    rw [e4] at hx
    rw [e3] at hl2
    have ls : l.size = s := hl2.sz
    have xs : x.size = t.1 - 1 - s := hx.sz
    subst ls
    obtain ⟨w, hw, sp⟩ := ih (.node l x) (Fits.node.mpr ⟨by omega, by rw [← e1]; exact e2, hl2, hx⟩)
    refine ⟨w, hw, fun p hp => sp p (List.mem_cons_of_mem _ (List.mem_append_right _ ?_))⟩
    rw [e4] at hp
    exact hp
/-- the entries are the roots of the shapes that fit -/
theorem ent_iff {G : G3} {n : Nat} (e : Ent) : (∃ t x, Reach G n t ∧ x ∈ live G t ∧ e = entX t x) ↔ ∃ w, Fits G w (wholeS n) ∧ e.2 ∈ spotsAt w (wholeS n) ∧ e.1 = comm (sigs G e.2) := by
  constructor
  · rintro ⟨t, y, hr, hy, rfl⟩
    obtain ⟨s, hs, e1, e2, e3, e4⟩ := spl_mem (live_spl hy)
    have lv := Bool.and_eq_true_iff.mp (List.mem_filter.mp hy).2
    obtain ⟨l, hl⟩ := cnt_fits.mp (of_decide_eq_true lv.1)
    obtain ⟨r, hr2⟩ := cnt_fits.mp (of_decide_eq_true lv.2)
    rw [e3] at hl
    rw [e4] at hr2
    have ls : l.size = s := hl.sz
    have rs : r.size = t.1 - 1 - s := hr2.sz
    subst ls
    have hf : Fits G (.node l r) t := Fits.node.mpr ⟨by omega, by rw [← e1]; exact e2, hl, hr2⟩
    obtain ⟨w, hw, sp⟩ := fits_up hr _ hf
    have e5 : spotX t y = (t.2.1, t.2.2.1 + l.size, t.2.2.2 + (1 + l.size + r.size) - 1) := by
      unfold spotX
      rw [e4]
      show (t.2.1, t.2.2.1 + l.size + 1 - 1, t.2.2.2 + t.1 - 1) = _
      rw [show t.1 = 1 + l.size + r.size by omega]
      rfl
    refine ⟨w, hw, sp _ ?_, ?_⟩
    · show spotX t y ∈ _
      rw [e5]
      exact List.mem_cons_self
    · show y.1 = comm (sigs G (spotX t y))
      rw [e1, e5]
      show comm [G.a.getD t.2.1 63, G.b.getD (t.2.2.1 + l.size) 63, G.c.getD (t.2.2.2 + t.1 - 1) 63] = comm [G.a.getD t.2.1 63, G.b.getD (t.2.2.1 + l.size) 63, G.c.getD (t.2.2.2 + (1 + l.size + r.size) - 1) 63]
      rw [show t.1 = 1 + l.size + r.size by omega]
  · rintro ⟨w, hw, hp, he⟩
    obtain ⟨u, y, h1, h2, h3⟩ := ent_of w _ .whole hw _ hp
    exact ⟨u, y, h1, h2, by rw [h3, ← he]⟩
/-! ### every place has one node -/
def cok (k : Nat) (p : Nat × Nat × Nat) : Nat := match k with
  | 0 => p.1
  | 1 => p.2.1
  | _ => p.2.2
def stK (k a b c : Nat) : Nat := match k with
  | 0 => a
  | 1 => b
  | _ => c
theorem cok_range (k : Nat) : ∀ (x : S) (a b c : Nat), ∀ p ∈ spotsOf x a b c, stK k a b c ≤ cok k p ∧ cok k p < stK k a b c + x.size
  | .nil, _, _, _, _, h => nomatch h
  | .node l r, a, b, c, p, h => by
    have h : p ∈ (a, b + l.size, c + (1 + l.size + r.size) - 1) :: (spotsOf l (a + 1) b c ++ spotsOf r (a + 1 + l.size) (b + l.size + 1) (c + l.size)) := h
    show _ ∧ _ < _ + (1 + l.size + r.size)
    rcases List.mem_cons.mp h with rfl | h
    · match k with
      | 0 => exact ⟨Nat.le_refl _, by show a < a + _; omega⟩
      | 1 => exact ⟨by show b ≤ b + l.size; omega, by show b + l.size < b + _; omega⟩
      | k + 2 => exact ⟨by show c ≤ c + (1 + l.size + r.size) - 1; omega, by show c + (1 + l.size + r.size) - 1 < c + _; omega⟩
    rcases List.mem_append.mp h with h | h
    · have ih := cok_range k l _ _ _ p h
      match k, ih with
      | 0, ih => have h1 : a + 1 ≤ cok 0 p ∧ cok 0 p < a + 1 + l.size := ih; exact ⟨by show a ≤ _; omega, by show _ < a + _; omega⟩
      | 1, ih => have h1 : b ≤ cok 1 p ∧ cok 1 p < b + l.size := ih; exact ⟨by show b ≤ _; omega, by show _ < b + _; omega⟩
      | k + 2, ih => have h1 : c ≤ cok (k + 2) p ∧ cok (k + 2) p < c + l.size := ih; exact ⟨by show c ≤ _; omega, by show _ < c + _; omega⟩
    · have ih := cok_range k r _ _ _ p h
      match k, ih with
      | 0, ih => have h1 : a + 1 + l.size ≤ cok 0 p ∧ cok 0 p < a + 1 + l.size + r.size := ih; exact ⟨by show a ≤ _; omega, by show _ < a + _; omega⟩
      | 1, ih => have h1 : b + l.size + 1 ≤ cok 1 p ∧ cok 1 p < b + l.size + 1 + r.size := ih; exact ⟨by show b ≤ _; omega, by show _ < b + _; omega⟩
      | k + 2, ih => have h1 : c + l.size ≤ cok (k + 2) p ∧ cok (k + 2) p < c + l.size + r.size := ih; exact ⟨by show c ≤ _; omega, by show _ < c + _; omega⟩
/-- where the coordinate q stands: at the root, to the left, to the right -/
theorem cok_all (k : Nat) : ∀ (x : S) (a b c q : Nat), stK k a b c ≤ q → q < stK k a b c + x.size → ∃ p ∈ spotsOf x a b c, cok k p = q
  | .nil, _, _, _, q, h1, h2 => by have h2 : q < _ + 0 := h2; omega
  | .node l r, a, b, c, q, h1, h2 => by
    have h2 : q < stK k a b c + (1 + l.size + r.size) := h2
    have root : cok k (a, b + l.size, c + (1 + l.size + r.size) - 1) = q → ∃ p ∈ spotsOf (.node l r) a b c, cok k p = q := fun e => ⟨_, List.mem_cons_self, e⟩
    have left : stK k (a + 1) b c ≤ q → q < stK k (a + 1) b c + l.size → ∃ p ∈ spotsOf (.node l r) a b c, cok k p = q := fun g1 g2 => by
      obtain ⟨p, hp, e⟩ := cok_all k l (a + 1) b c q g1 g2
      exact ⟨p, List.mem_cons_of_mem _ (List.mem_append_left _ hp), e⟩
    have right : stK k (a + 1 + l.size) (b + l.size + 1) (c + l.size) ≤ q → q < stK k (a + 1 + l.size) (b + l.size + 1) (c + l.size) + r.size → ∃ p ∈ spotsOf (.node l r) a b c, cok k p = q := fun g1 g2 => by
      obtain ⟨p, hp, e⟩ := cok_all k r (a + 1 + l.size) (b + l.size + 1) (c + l.size) q g1 g2
      exact ⟨p, List.mem_cons_of_mem _ (List.mem_append_right _ hp), e⟩
    match k, h1, h2, root, left, right with
    | 0, h1, h2, root, left, right =>
      have h1 : a ≤ q := h1
      have h2 : q < a + (1 + l.size + r.size) := h2
      by_cases g1 : q = a
      · exact root g1.symm
      by_cases g2 : q < a + 1 + l.size
      · exact left (by show a + 1 ≤ q; omega) (by show q < a + 1 + l.size; omega)
      · exact right (by show a + 1 + l.size ≤ q; omega) (by show q < a + 1 + l.size + r.size; omega)
    | 1, h1, h2, root, left, right =>
      have h1 : b ≤ q := h1
      have h2 : q < b + (1 + l.size + r.size) := h2
      by_cases g1 : q = b + l.size
      · exact root g1.symm
      by_cases g2 : q < b + l.size
      · exact left (by show b ≤ q; omega) (by show q < b + l.size; omega)
      · exact right (by show b + l.size + 1 ≤ q; omega) (by show q < b + l.size + 1 + r.size; omega)
    | k + 2, h1, h2, root, left, right =>
      have h1 : c ≤ q := h1
      have h2 : q < c + (1 + l.size + r.size) := h2
      by_cases g1 : q = c + (1 + l.size + r.size) - 1
      · exact root g1.symm
      by_cases g2 : q < c + l.size
      · exact left (by show c ≤ q; omega) (by show q < c + l.size; omega)
      · exact right (by show c + l.size ≤ q; omega) (by show q < c + l.size + r.size; omega)
theorem cok_nd (k : Nat) : ∀ (x : S) (a b c : Nat), ((spotsOf x a b c).map (cok k)).Nodup
  | .nil, _, _, _ => List.nodup_nil
  | .node l r, a, b, c => by
    have il := cok_nd k l (a + 1) b c
    have ir := cok_nd k r (a + 1 + l.size) (b + l.size + 1) (c + l.size)
    have rl := cok_range k l (a + 1) b c
    have rr := cok_range k r (a + 1 + l.size) (b + l.size + 1) (c + l.size)
    show (cok k (a, b + l.size, c + (1 + l.size + r.size) - 1) :: (spotsOf l (a + 1) b c ++ spotsOf r (a + 1 + l.size) (b + l.size + 1) (c + l.size)).map (cok k)).Nodup
    rw [List.map_append]
    refine List.nodup_cons.mpr ⟨fun h => ?_, List.nodup_append.mpr ⟨il, ir, fun u hu v hv e => ?_⟩⟩
    · rcases List.mem_append.mp h with h | h
      · obtain ⟨p, hp, e⟩ := List.mem_map.mp h
        have g := rl p hp
        match k, e, g with
        | 0, e, g => have e : cok 0 p = a := e; have g : a + 1 ≤ cok 0 p ∧ cok 0 p < a + 1 + l.size := g; omega
        | 1, e, g => have e : cok 1 p = b + l.size := e; have g : b ≤ cok 1 p ∧ cok 1 p < b + l.size := g; omega
        | k + 2, e, g => have e : cok (k + 2) p = c + (1 + l.size + r.size) - 1 := e; have g : c ≤ cok (k + 2) p ∧ cok (k + 2) p < c + l.size := g; omega
      · obtain ⟨p, hp, e⟩ := List.mem_map.mp h
        have g := rr p hp
        match k, e, g with
        | 0, e, g => have e : cok 0 p = a := e; have g : a + 1 + l.size ≤ cok 0 p ∧ cok 0 p < a + 1 + l.size + r.size := g; omega
        | 1, e, g => have e : cok 1 p = b + l.size := e; have g : b + l.size + 1 ≤ cok 1 p ∧ cok 1 p < b + l.size + 1 + r.size := g; omega
        | k + 2, e, g => have e : cok (k + 2) p = c + (1 + l.size + r.size) - 1 := e; have g : c + l.size ≤ cok (k + 2) p ∧ cok (k + 2) p < c + l.size + r.size := g; omega
    · obtain ⟨p, hp, e1⟩ := List.mem_map.mp hu
      obtain ⟨p', hp', e2⟩ := List.mem_map.mp hv
      have g1 := rl p hp
      have g2 := rr p' hp'
      have e : cok k p = cok k p' := e1.trans (e.trans e2.symm)
      match k, e, g1, g2 with
      | 0, e, g1, g2 => have g1 : a + 1 ≤ cok 0 p ∧ cok 0 p < a + 1 + l.size := g1; have g2 : a + 1 + l.size ≤ cok 0 p' ∧ cok 0 p' < a + 1 + l.size + r.size := g2; omega
      | 1, e, g1, g2 => have g1 : b ≤ cok 1 p ∧ cok 1 p < b + l.size := g1; have g2 : b + l.size + 1 ≤ cok 1 p' ∧ cok 1 p' < b + l.size + 1 + r.size := g2; omega
      | k + 2, e, g1, g2 => have g1 : c ≤ cok (k + 2) p ∧ cok (k + 2) p < c + l.size := g1; have g2 : c + l.size ≤ cok (k + 2) p' ∧ cok (k + 2) p' < c + l.size + r.size := g2; omega
/-! ### the letter of a node as one sign -/
def sgC (l : List Nat) : Nat := if (comm l).length = 1 then (comm l).headD 63 else 63
theorem lett_sg {l : List Nat} (h : comm l ≠ []) : lettOf l = [sgC l] := by
  unfold sgC
  unfold comm at h ⊢
  unfold lettOf
  cases hk : knownL l with
  | nil => rfl
  | cons c r =>
    rw [hk] at h
    have h : (if c :: r = List.replicate (r.length + 1) c then [c] else []) ≠ [] := h
    show (if c :: r = List.replicate (r.length + 1) c then [c] else []) = [if (if c :: r = List.replicate (r.length + 1) c then [c] else []).length = 1 then (if c :: r = List.replicate (r.length + 1) c then [c] else []).headD 63 else 63]
    by_cases e : c :: r = List.replicate (r.length + 1) c
    · rw [if_pos e]; rfl
    · rw [if_neg e] at h; exact absurd rfl h
/-- the signs that the shapes that fit have at a place -/
def signsAt (G : G3) (k q : Nat) (w : S) : List Nat := ((spotsOf w 0 0 0).filter fun p => cok k p == q).map fun p => sgC (sigs G p)
theorem sureOf_same {ts us : List Nat} (h : ∀ v, v ∈ ts ↔ v ∈ us) : sureOf ts = sureOf us := by
  cases ts with
  | nil =>
    cases us with
    | nil => rfl
    | cons b s => exact absurd ((h b).mpr List.mem_cons_self) (by simp)
  | cons a r =>
    cases us with
    | nil => exact absurd ((h a).mp List.mem_cons_self) (by simp)
    | cons b s =>
      show (if ∀ y ∈ r, y = a then a else 63) = if ∀ y ∈ s, y = b then b else 63
      have all : ∀ {a b : Nat} {r s : List Nat}, (∀ v, v ∈ a :: r ↔ v ∈ b :: s) → (∀ y ∈ r, y = a) → b = a ∧ ∀ y ∈ s, y = b := fun {a b r s} h g => by
        have ga : ∀ y ∈ a :: r, y = a := fun y hy => by
          rcases List.mem_cons.mp hy with e | hy
          · exact e
          · exact g y hy
        have hb := ga b ((h b).mpr List.mem_cons_self)
        exact ⟨hb, fun y hy => by rw [hb]; exact ga y ((h y).mpr (List.mem_cons_of_mem _ hy))⟩
      by_cases g : ∀ y ∈ r, y = a
      · obtain ⟨e, g2⟩ := all h g
        rw [if_pos g, if_pos g2, e]
      · rw [if_neg g]
        by_cases g2 : ∀ y ∈ s, y = b
        · exact absurd (all (fun v => (h v).symm) g2).2 g
        · rw [if_neg g2]
theorem pick_mem {G : G3} {n k q : Nat} {es : List Ent} (h : ∀ e, e ∈ es ↔ ∃ t x, Reach G n t ∧ x ∈ live G t ∧ e = entX t x) (v : Nat) : v ∈ pick es k q ↔ ∃ w, Fits G w (wholeS n) ∧ v ∈ signsAt G k q w := by
  unfold pick signsAt
  constructor
  · intro hv
    obtain ⟨e, he, rfl⟩ := List.mem_map.mp hv
    obtain ⟨he, hq⟩ := List.mem_filter.mp he
    obtain ⟨w, hw, hp, e1⟩ := (ent_iff e).mp ((h e).mp he)
    refine ⟨w, hw, List.mem_map.mpr ⟨e.2, List.mem_filter.mpr ⟨hp, ?_⟩, ?_⟩⟩
    · match k, hq with
      | 0, hq => exact hq
      | 1, hq => exact hq
      | k + 2, hq => exact hq
    · unfold tc sgC
      rw [e1]
  · rintro ⟨w, hw, hv⟩
    obtain ⟨p, hp, rfl⟩ := List.mem_map.mp hv
    obtain ⟨hp, hq⟩ := List.mem_filter.mp hp
    have he := (h (comm (sigs G p), p)).mpr ((ent_iff _).mpr ⟨w, hw, hp, rfl⟩)
    refine List.mem_map.mpr ⟨_, List.mem_filter.mpr ⟨he, ?_⟩, rfl⟩
    match k, hq with
    | 0, hq => exact hq
    | 1, hq => exact hq
    | k + 2, hq => exact hq
theorem covers {G : G3} {n : Nat} {es : List Ent} (h : ∀ e, e ∈ es ↔ ∃ t x, Reach G n t ∧ x ∈ live G t ∧ e = entX t x) (z : cnt G (wholeS n) ≠ 0) : Covers es n := by
  intro k q hk hq e
  obtain ⟨w, hw⟩ := cnt_fits.mp z
  have hz : w.size = n := hw.sz
  obtain ⟨p, hp, ep⟩ := cok_all k w 0 0 0 q (by match k with | 0 => exact Nat.zero_le _ | 1 => exact Nat.zero_le _ | k + 2 => exact Nat.zero_le _) (by rw [hz]; match k with | 0 => show q < 0 + n; omega | 1 => show q < 0 + n; omega | k + 2 => show q < 0 + n; omega)
  have : sgC (sigs G p) ∈ pick es k q := (pick_mem h _).mpr ⟨w, hw, List.mem_map.mpr ⟨p, List.mem_filter.mpr ⟨hp, by rw [ep]; exact beq_self_eq_true _⟩, rfl⟩⟩
  rw [e] at this
  cases this
/-! ### the rows that the law tells, of the shapes that fit -/
def fitB (G : G3) (x : S) : Bool := decide (¬ [] ∈ (spotsOf x 0 0 0).map fun p => lettOf (sigs G p))
def fitL (G : G3) (n : Nat) : List S := (shapes n).filter (fitB G)
theorem comm_nil (l : List Nat) : comm l = [] ↔ lettOf l = [] := by
  have h := comm_lett l
  constructor
  · intro e
    rw [e] at h
    by_cases g : lettOf l = []
    · exact g
    · rw [if_neg g] at h
      by_cases g2 : lettOf l = [63]
      · rw [if_pos g2] at h; cases h
      · rw [if_neg g2] at h; cases h
  · intro e
    rw [if_pos e] at h
    exact List.length_eq_zero_iff.mp h
theorem fit_iff {G : G3} {n : Nat} (x : S) : x ∈ fitL G n ↔ Fits G x (wholeS n) := by
  have key : x.size = n → ([] ∉ letsOf G x (wholeS n) ↔ fitB G x = true) := fun sz => by
    rw [lets_spots x (wholeS n) sz.symm]
    unfold fitB
    rw [decide_eq_true_eq]
    refine not_congr ⟨fun h => ?_, fun h => ?_⟩
    · obtain ⟨p, hp, e⟩ := List.mem_map.mp h
      exact List.mem_map.mpr ⟨p, hp, (comm_nil _).mp e⟩
    · obtain ⟨p, hp, e⟩ := List.mem_map.mp h
      exact List.mem_map.mpr ⟨p, hp, (comm_nil _).mpr e⟩
  unfold fitL
  rw [List.mem_filter]
  constructor
  · rintro ⟨h1, h2⟩
    have sz := shapes_size _ _ h1
    exact ⟨sz, (key sz).mpr h2⟩
  · rintro ⟨h1, h2⟩
    have sz : x.size = n := h1
    exact ⟨by rw [← sz]; exact shapes_all x, (key sz).mp h2⟩
def setsL (G : G3) (k : Nat) (ps : List (Nat × Nat × Nat)) (r : List Nat) : List Nat := ps.foldl (fun r p => r.set (cok k p) (sgC (sigs G p))) r
def sgRow (G : G3) (n k : Nat) (w : S) : List Nat := setsL G k (spotsOf w 0 0 0) (List.replicate n 63)
theorem setsL_len (G : G3) (k : Nat) : ∀ (ps : List (Nat × Nat × Nat)) (r : List Nat), (setsL G k ps r).length = r.length
  | [], _ => rfl
  | p :: ps, r => by
    show (setsL G k ps (r.set _ _)).length = _
    rw [setsL_len G k ps, List.length_set]
theorem sgRow_len (G : G3) (n k : Nat) (w : S) : (sgRow G n k w).length = n := by unfold sgRow; rw [setsL_len, List.length_replicate]
theorem getD_set (r : List Nat) (i j v : Nat) : (r.set i v).getD j 63 = if i = j ∧ i < r.length then v else r.getD j 63 := by
  rw [List.getD_eq_getElem?_getD, List.getD_eq_getElem?_getD, List.getElem?_set]
  by_cases h : i = j
  · subst h
    rw [if_pos rfl]
    by_cases g : i < r.length
    · rw [if_pos g, if_pos ⟨rfl, g⟩]; rfl
    · rw [if_neg g, if_neg (fun z => g z.2), List.getElem?_eq_none (Nat.le_of_not_lt g)]
  · rw [if_neg h, if_neg (fun z => h z.1)]
theorem setsL_out (G : G3) (k q : Nat) : ∀ (ps : List (Nat × Nat × Nat)) (r : List Nat), ¬ q ∈ ps.map (cok k) → (setsL G k ps r).getD q 63 = r.getD q 63
  | [], _, _ => rfl
  | p :: ps, r, h => by
    show (setsL G k ps (r.set _ _)).getD q 63 = _
    rw [setsL_out G k q ps _ (fun z => h (List.mem_cons_of_mem _ z)), getD_set, if_neg (fun z => h (by rw [← z.1]; exact List.mem_cons_self))]
theorem setsL_get (G : G3) (k : Nat) : ∀ (ps : List (Nat × Nat × Nat)) (r : List Nat), (ps.map (cok k)).Nodup → ∀ p ∈ ps, cok k p < r.length → (setsL G k ps r).getD (cok k p) 63 = sgC (sigs G p)
  | [], _, _, _, h, _ => nomatch h
  | a :: ps, r, nd, p, hp, hl => by
    obtain ⟨n1, n2⟩ := List.nodup_cons.mp nd
    show (setsL G k ps (r.set _ _)).getD _ 63 = _
    rcases List.mem_cons.mp hp with rfl | hp
    · rw [setsL_out G k _ ps _ n1, getD_set, if_pos ⟨rfl, hl⟩]
    · exact setsL_get G k ps _ n2 p hp (by rw [List.length_set]; exact hl)
theorem filter_one {α : Type} (f : α → Nat) : ∀ (l : List α) (p : α), (l.map f).Nodup → p ∈ l → l.filter (fun x => f x == f p) = [p]
  | [], _, _, h => nomatch h
  | a :: l, p, nd, hp => by
    obtain ⟨n1, n2⟩ := List.nodup_cons.mp nd
    rcases List.mem_cons.mp hp with rfl | hp
    · rw [List.filter_cons_of_pos (by simp), List.filter_eq_nil_iff.mpr fun x hx z => n1 (by rw [← (beq_iff_eq.mp z)]; exact List.mem_map_of_mem hx)]
    · rw [List.filter_cons_of_neg (fun z => n1 (by rw [beq_iff_eq.mp z]; exact List.mem_map_of_mem hp)), filter_one f l p n2 hp]
theorem signs_one {G : G3} {n k q : Nat} {w : S} (sz : w.size = n) (hq : q < n) : signsAt G k q w = [(sgRow G n k w).getD q 63] := by
  obtain ⟨p, hp, e⟩ := cok_all k w 0 0 0 q (by match k with | 0 => exact Nat.zero_le _ | 1 => exact Nat.zero_le _ | k + 2 => exact Nat.zero_le _) (by rw [sz]; match k with | 0 => show q < 0 + n; omega | 1 => show q < 0 + n; omega | k + 2 => show q < 0 + n; omega)
  subst e
  unfold signsAt sgRow
  rw [filter_one (cok k) _ p (cok_nd k w 0 0 0) hp, setsL_get G k _ _ (cok_nd k w 0 0 0) p hp (by rw [List.length_replicate]; exact hq)]
  rfl
def dueRow (G : G3) (n k : Nat) : List Nat := (List.range n).map fun q => sureOf ((fitL G n).map fun w => (sgRow G n k w).getD q 63)
theorem due_row {G : G3} {n k : Nat} {es : List Ent} (h : ∀ e, e ∈ es ↔ ∃ t x, Reach G n t ∧ x ∈ live G t ∧ e = entX t x) : rowS es n k = dueRow G n k := by
  unfold rowS dueRow
  refine List.map_congr_left fun q hq => sureOf_same fun v => ?_
  have hq := List.mem_range.mp hq
  rw [pick_mem h]
  constructor
  · rintro ⟨w, hw, hv⟩
    rw [signs_one hw.sz hq] at hv
    exact List.mem_map.mpr ⟨w, (fit_iff w).mpr hw, (List.mem_singleton.mp hv).symm⟩
  · intro hv
    obtain ⟨w, hw, e⟩ := List.mem_map.mp hv
    have hw := (fit_iff w).mp hw
    exact ⟨w, hw, by rw [signs_one hw.sz hq, e]; exact List.mem_singleton.mpr rfl⟩
theorem cnt_fitL {G : G3} {n : Nat} : cnt G (wholeS n) = 0 ↔ fitL G n = [] := by
  constructor
  · intro h
    refine List.eq_nil_iff_forall_not_mem.mpr fun x hx => ?_
    exact cnt_fits.mpr ⟨x, (fit_iff x).mp hx⟩ h
  · intro h
    by_cases z : cnt G (wholeS n) = 0
    · exact z
    · obtain ⟨x, hx⟩ := cnt_fits.mp z
      have := (fit_iff x).mpr hx
      rw [h] at this
      cases this
/-! ### _law_same, of equal data -/
theorem dpAll_len {K : PySem.W.Frag} {H : Hp} : ∀ {vs : List V} {ds : List PyData}, DpAll K H vs ds → vs.length = ds.length
  | _, _, .nil => rfl
  | _, _, .cons _ a => congrArg (· + 1) (dpAll_len a)
theorem dpAll_get {K : PySem.W.Frag} {H : Hp} : ∀ {vs : List V} {ds : List PyData} {i : Nat} {d : PyData}, DpAll K H vs ds → ds[i]? = some d → ∃ v, vs[i]? = some v ∧ Dp K H v d
  | _, _, _, _, .nil, h => by simp at h
  | _, _, 0, _, .cons h _, e => by
    cases e
    exact ⟨_, rfl, h⟩
  | _, _, i + 1, _, .cons _ a, e => dpAll_get (i := i) a e
def tyD : PyData → String
  | .none => "NoneType"
  | .bool _ => "bool"
  | .int _ => "int"
  | .str _ => "str"
  | .list _ => "list"
  | .tuple _ => "tuple"
  | .dict _ => "dict"
theorem dp_ty {K : PySem.W.Frag} {H : Hp} {v : V} {d : PyData} (h : Dp K H v d) : TyX K H v (.type (tyD d)) := by
  cases h with
  | non => exact .base .non
  | bl b => exact .base (.bl b)
  | int i => exact .base (.int i)
  | str x => exact .base (.str x)
  | lst h _ =>
    rcases h with (h | ⟨o, h⟩) | ⟨o, its, n, h, hc, _⟩
    · exact .base (.lst h)
    · exact .base (.frz h)
    · exact .kList h hc
  | tup h _ =>
    rcases h with (h | ⟨o, h⟩) | ⟨o, its, n, h, hc, _⟩
    · exact .base (.tup h)
    · exact .fTuple h
    · exact .kTuple h hc
theorem kit_lt {K : PySem.W.Frag} {a : String} {r s : Bool} (h1 : kitB a "list" = some r) (h2 : kitB a "tuple" = some s) : PySem.W.kitAny K (.type a) [.type "list", .type "tuple"] = some (r || s) := by
  refine kitAny_cons (kit_ty h1) (fun e => kitAny_cons (kit_ty h2) (fun e2 => ?_) fun e2 => ?_) fun e => ?_
  · rw [kitAny_nil, e, e2]; rfl
  · rw [e2, Bool.or_true]
  · rw [e, Bool.true_or]
theorem depth_get : ∀ {ds : List PyData} {i : Nat} {d : PyData}, ds[i]? = some d → d.depth ≤ PyData.depthAll ds
  | [], _, _, h => by simp at h
  | x :: xs, 0, _, h => by
    cases h
    simp only [PyData.depthAll]
    omega
  | x :: xs, i + 1, d, h => by
    have := depth_get (ds := xs) (i := i) h
    simp only [PyData.depthAll]
    omega
mutual
def nar : PyData → Bool
  | .list xs => decide (xs.length ≤ 1000000) && narAll xs
  | .tuple xs => decide (xs.length ≤ 1000000) && narAll xs
  | .dict _ => false
  | .none => true
  | .bool _ => true
  | .int _ => true
  | .str _ => true
def narAll : List PyData → Bool
  | [] => true
  | x :: xs => nar x && narAll xs
end
theorem nar_get : ∀ {ds : List PyData} {i : Nat} {d : PyData}, ds[i]? = some d → narAll ds = true → nar d = true
  | [], _, _, h, _ => by simp at h
  | x :: xs, 0, _, h, k => by
    cases h
    simp only [narAll, Bool.and_eq_true] at k
    exact k.1
  | x :: xs, i + 1, d, h, k => by
    simp only [narAll, Bool.and_eq_true] at k
    exact nar_get (ds := xs) (i := i) h k.2
theorem okR_get : ∀ {ds : List PyData} {i : Nat} {d : PyData}, ds[i]? = some d → okRs ds = true → okR d = true
  | [], _, _, h, _ => by simp at h
  | x :: xs, 0, _, h, k => by
    cases h
    simp only [okRs, Bool.and_eq_true] at k
    exact k.1
  | x :: xs, i + 1, d, h, k => by
    simp only [okRs, Bool.and_eq_true] at k
    exact okR_get (ds := xs) (i := i) h k.2
def spSame (K : PySem.W.Frag) (n : Nat) : Sp := fun vs H Q _ => ∃ (v v' : V) (d : PyData), vs = [v, v'] ∧ Dp K H v d ∧ Dp K H v' d ∧ d.depth < n ∧ nar d = true ∧ okR d = true ∧ ∀ H', Same H H' → Q (.bl true) H'
theorem dp_two {K : PySem.W.Frag} {H : Hp} {v v' : V} {d : PyData} {n : Nat} (h : Dp K H v d) (h' : Dp K H v' d) (hd : d.depth < n + 1) (hn : nar d = true) (ho : okR d = true) :
    (∃ (p p' : Addr) (xs xs' : List V) (ds : List PyData) (bl : Bool) (ty : String), v = .ref p ∧ v' = .ref p' ∧ (SqL K H p xs ∨ SqT K H p xs) ∧ (SqL K H p' xs' ∨ SqT K H p' xs') ∧ DpAll K H xs ds ∧ DpAll K H xs' ds ∧
      TyX K H v (.type ty) ∧ TyX K H v' (.type ty) ∧ kitB ty "list" = some bl ∧ kitB ty "tuple" = some (!bl) ∧ PyData.depthAll ds < n ∧ ds.length ≤ 1000000 ∧ narAll ds = true ∧ okRs ds = true) ∨ (v = v' ∧ (v = .non ∨ (∃ b, v = .bl b) ∨ (∃ i, v = .int i) ∨ ∃ x, v = .str x)) := by
  have t1 := dp_ty h
  have t2 := dp_ty h'
  cases h with
  | non =>
    cases h'
    exact .inr ⟨rfl, .inl rfl⟩
  | bl b =>
    cases h'
    exact .inr ⟨rfl, .inr (.inl ⟨b, rfl⟩)⟩
  | int b =>
    cases h'
    exact .inr ⟨rfl, .inr (.inr (.inl ⟨b, rfl⟩))⟩
  | str b =>
    cases h'
    exact .inr ⟨rfl, .inr (.inr (.inr ⟨b, rfl⟩))⟩
  | lst h a =>
    cases h' with
    | lst h' a' =>
      simp only [PyData.depth] at hd
      simp only [nar, Bool.and_eq_true, decide_eq_true_eq] at hn
      simp only [okR] at ho
      exact .inl ⟨_, _, _, _, _, true, "list", rfl, rfl, .inl h, .inl h', a, a', t1, t2, by decide +kernel, by decide +kernel, by omega, hn.1, hn.2, ho⟩
  | tup h a =>
    cases h' with
    | tup h' a' =>
      simp only [PyData.depth] at hd
      simp only [nar, Bool.and_eq_true, decide_eq_true_eq] at hn
      simp only [okR] at ho
      exact .inl ⟨_, _, _, _, _, false, "tuple", rfl, rfl, .inr h, .inr h', a, a', t1, t2, by decide +kernel, by decide +kernel, by omega, hn.1, hn.2, ho⟩
theorem seq_same {K : PySem.W.Frag} {H H' : Hp} {p : Addr} {xs : List V} (e : Same H H') (h : SqL K H p xs ∨ SqT K H p xs) : SqL K H' p xs ∨ SqT K H' p xs := h.elim (fun h => .inl (e.seq h)) fun h => .inr (sqT_same e h)
theorem seq_ix {K : PySem.W.Frag} {H : Hp} {p : Addr} {xs : List V} {i : Int} {v : V} {Q : VK} (h : SqL K H p xs ∨ SqT K H p xs) (a : atI xs i = some v) (q : Q v H) : rIx K (.ref p) (.int i) H Q :=
  h.elim (fun h => .inl ⟨p, xs, i, v, rfl, rfl, h, a, q⟩) fun h => .inr (.inl ⟨p, xs, i, v, rfl, rfl, h, a, q⟩)
theorem tyX_same {K : PySem.W.Frag} {H H' : Hp} {v : V} {d : PyData} (e : Same H H') (h : Dp K H v d) : TyX K H' v (.type (tyD d)) := dp_ty (dp_same e h)
theorem kit_tl2 {K : PySem.W.Frag} {a : String} {r s : Bool} (h1 : kitB a "list" = some r) (h2 : kitB a "tuple" = some s) : PySem.W.kitAny K (.type a) [.type "tuple", .type "list"] = some (r || s) := by
  refine kitAny_cons (kit_ty h2) (fun e => kitAny_cons (kit_ty h1) (fun e2 => ?_) fun e2 => ?_) fun e => ?_
  · rw [kitAny_nil, e, e2]; rfl
  · rw [e2, Bool.true_or]
  · rw [e, Bool.or_true]
section
variable {P : Program} {w : World} {K : PySem.W.Frag} {mg : Str → Option Value} {base : Heap} {f : Addr} {fd : FuncData}
theorem ok_same (F : Fun K "_law_same" "_law_same" s__law_same f fd) (b : Binds K fd ["_law_found", "_law_due_here"] []) (g : mg "_law_same" = some (.ref f)) (M : Mgs mg) (mrepr : mg "repr" = none) : ∀ n : Nat, FnOkG P w K mg base n f fd ["_law_found", "_law_due_here"] (spSame K n)
  | 0 => by
    have no : ∀ vs H Q E, ¬ spSame K 0 vs H Q E := fun vs H Q E h => by
      obtain ⟨v, t, d, _, _, _, h1, _, _⟩ := h
      omega
    exact ⟨fun vs H Q E h => absurd h (no vs H Q E), fun A outer s H args us vs Q E _ _ _ _ _ h => absurd h (no vs H Q E)⟩
  | n + 1 => by
    have Dself : DfG P w K mg base n "_law_same" ["_law_found", "_law_due_here"] (spSame K n) := ⟨f, fd, ok_same F b g M mrepr n, b, F.kp, g⟩
    refine fnG F sc__law_same (fun vs H Q E h => ?_) (fun cdv A outer s H vs Q E gs hr h => ?_)
    · obtain ⟨v, t, d, rfl, _⟩ := h
      rfl
    obtain ⟨v, v', d, rfl, hv, hv', hd, hna, hok, q⟩ := h
    refine ⟨_, (pss_cons (ps_if (pt_val (pe_callB call_isiT rfl M.isinstance (by decide +kernel) (pa_cons (pv 1) (pa_cons (pe_tup (pa_cons (pe_bltn (v := .ty "tuple") rfl M.tuple (by decide +kernel) rfl) (pa_cons (pe_bltn (v := .ty "list") rfl M.list (by decide +kernel) rfl) pa_nil))) pa_nil))))
      (pss_cons (ps_if (PW.pt (pw_or (pt_cmpR op_ne (pe_callB call_isi rfl M.isinstance (by decide +kernel) (pa_cons (pv 0) (pa_cons (pe_bltn (v := .ty "tuple") rfl M.tuple (by decide +kernel) rfl) pa_nil))) (pe_callB call_isi rfl M.isinstance (by decide +kernel) (pa_cons (pv 1) (pa_cons (pe_bltn (v := .ty "tuple") rfl M.tuple (by decide +kernel) rfl) pa_nil))) (nomark _)) (pw_or1 (pt_cmpR op_ne (pe_callB call_isi rfl M.isinstance (by decide +kernel) (pa_cons (pv 0) (pa_cons (pe_bltn (v := .ty "list") rfl M.list (by decide +kernel) rfl) pa_nil))) (pe_callB call_isi rfl M.isinstance (by decide +kernel) (pa_cons (pv 1) (pa_cons (pe_bltn (v := .ty "list") rfl M.list (by decide +kernel) rfl) pa_nil))) (nomark _)))))
      (pss_one (ps_ret pe_bl)) pss_nil)
    (pss_cons (ps_if (pt_cmpR op_ne (pe_callB call_len_seq rfl M.len PySem.boot_len (pa_cons (pv 0) pa_nil)) (pe_callB call_len_seq rfl M.len PySem.boot_len (pa_cons (pv 1) pa_nil)) (nomark _))
      (pss_one (ps_ret pe_bl)) pss_nil)
    (pss_one (ps_ret (pe_cmpR (op_eqD hr.units) (pe_lc (own := [("_law_k", 2)]) (g := gName 2) rfl sc__law_same.nd (pi_range1 rfl M.range (pa_cons (pe_callB call_len_seq rfl M.len PySem.boot_len (pa_cons (pv 1) pa_nil)) pa_nil)) (blkOk_by (N := ["_law_found", "_law_due_here", "_law_k"]) (sc := defScope s__law_same) (by decide +kernel)) (fun _ _ _ _ _ => (pg_name (i := 2) sc__law_same.nd rfl (.inl rfl))) (fun _ _ _ _ _ => pts_one (pt_not (pt_val (pe_callG Dself.ok gs (hr.mono (by omega)) rfl Dself.g Dself.kp Dself.b (pa_cons (pe_ix (show IxR _ (rIx K) from ix_seq) (pv 0) (pv 2) (fun _ _ => rfl)) (pa_cons (pe_ix (show IxR _ (rIx K) from ix_seq) (pv 1) (pv 2) (fun _ _ => rfl)) pa_nil)))))) (fun _ _ _ _ _ => (pv 2))) (pe_lst pa_nil) (nomark _)))))) pss_nil)
    (pss_one (ps_ret (pe_cmpR op_eq (pe_callB (call_reprV gs hr.units) rfl mrepr (by decide +kernel) (pa_cons (pv 0) pa_nil)) (pe_callB (call_reprV gs hr.units) rfl mrepr (by decide +kernel) (pa_cons (pv 1) pa_nil)) (nomark _))))), ?_⟩
    refine ⟨v', rfl, (by show 2 ≤ sizeLine; decide), fun tp np => ?_⟩
    have s1 := same_new np (.tup [.ty "tuple", .ty "list"])
    have hw := dp_same s1 hv
    have hw' := dp_same s1 hv'
    have pr : Paired ClsV [V.ty "tuple", V.ty "list"] [Value.type "tuple", Value.type "list"] := .cons (.ty _) (.cons (.ty _) .nil)
    rcases dp_two hw hw' hd hna hok with ⟨p, p', xs, xs', ds, bl, ty, rfl, rfl, hq, hq', ha, ha', ht, ht', k1, k2, hdd, hwl, hwn, hwo⟩ | ⟨rfl, hk⟩
    · have ka : PySem.W.kitAny K (.type ty) [.type "tuple", .type "list"] = some true := by
        rw [kit_tl2 k1 k2]
        cases bl <;> rfl
      have hl := dpAll_len ha
      have hl' := dpAll_len ha'
      refine ⟨_, tp, _, _, _, true, rfl, upd_same, pr, ht', ka, _, rfl, iteT ?_⟩
      refine ⟨_, rfl, _, _, _, _, !bl, rfl, .ty _, ht, kit_ty k2, _, rfl, _, _, _, _, !bl, rfl, .ty _, ht', kit_ty k2, by cases bl <;> rfl, _, rfl, iteNS rfl ?_⟩
      refine ⟨_, rfl, _, _, _, _, bl, rfl, .ty _, ht, kit_ty k1, _, rfl, _, _, _, _, bl, rfl, .ty _, ht', kit_ty k1, by cases bl <;> rfl, _, rfl, iteNS rfl ?_⟩
      refine ⟨_, rfl, p, xs, rfl, hq, _, rfl, p', xs', rfl, hq', rfl, _, rfl, iteNS (by rw [hl, hl']) ?_⟩
      refine ⟨_, rfl, p', xs', rfl, hq', _, rfl, ?_, ?_, fun D nD => ?_⟩
      · omega
      · omega
      have s2 := same_new nD (.lst [])
      rw [Int.toNat_natCast]
      refine lc_range (lo := 0) (n := xs'.length) (fun i H' => Same (upd H tp (.tup [.ty "tuple", .ty "list"])) H' ∧ H' D = some (.lst [])) ⟨s2, upd_same⟩ (fun i H' hi hp => ?_) (fun H' hp => ?_)
      · obtain ⟨sm, eD⟩ := hp
        obtain ⟨di, edi⟩ : ∃ di, ds[i]? = some di := ⟨_, List.getElem?_eq_getElem (by omega)⟩
        obtain ⟨x, ex, hx⟩ := dpAll_get ha edi
        obtain ⟨x', ex', hx'⟩ := dpAll_get ha' edi
        have hdi := depth_get edi
        have e0 : (0 : Int) + (i : Int) = ((i : Nat) : Int) := by omega
        rw [e0]
        refine ⟨rfl, ?_⟩
        refine ⟨_, rfl, _, rfl, seq_ix (seq_same sm hq) (atI_nat ex) ⟨_, rfl, _, rfl, seq_ix (seq_same sm hq') (atI_nat ex') ⟨x, x', di, rfl, dp_same sm hx, dp_same sm hx', by omega, nar_get edi hwn, okR_get edi hwo, fun H'' s'' => ?_⟩⟩⟩
        exact ⟨_, rfl, iteF ⟨sm.trans s'', s'' _ _ eD⟩⟩
      · obtain ⟨sm, eD⟩ := hp
        refine ⟨(by show 0 ≤ sizeLine; decide), fun e ne => ?_⟩
        refine ⟨.list [], .list [], .lst (SqL.of ((same_new ne _) _ _ eD)) .nil, .lst (SqL.of upd_same) .nil, rfl, rfl, ?_⟩
        exact q _ (s1.trans (sm.trans (same_new ne _)))
    · have fin := q _ s1
      rcases hk with rfl | ⟨c, rfl⟩ | ⟨c, rfl⟩ | ⟨c, rfl⟩
      · refine ⟨_, tp, _, _, _, false, rfl, upd_same, pr, .base .non, kit_tl2 (r := false) (s := false) (by decide +kernel) (by decide +kernel), _, rfl, iteF ?_⟩
        refine ⟨_, rfl, _, .none, rfl, .non, by decide, by decide, by decide, _, rfl, _, .none, rfl, .non, by decide, by decide, by decide, rfl, ?_⟩
        rw [decide_eq_true rfl]
        exact fin
      · refine ⟨_, tp, _, _, _, false, rfl, upd_same, pr, .base (.bl c), kit_tl2 (r := false) (s := false) (by decide +kernel) (by decide +kernel), _, rfl, iteF ?_⟩
        cases hv
        have okc : okR (.bool c) = true := by simp [okR]
        refine ⟨_, rfl, _, .bool c, rfl, .bl c, okc, by show 5 ≤ 1000000; decide, by show 0 ≤ 60; decide, _, rfl, _, .bool c, rfl, .bl c, okc, by show 5 ≤ 1000000; decide, by show 0 ≤ 60; decide, rfl, ?_⟩
        rw [decide_eq_true rfl]
        exact fin
      · refine ⟨_, tp, _, _, _, false, rfl, upd_same, pr, .base (.int c), kit_tl2 (r := false) (s := false) (by decide +kernel) (by decide +kernel), _, rfl, iteF ?_⟩
        cases hv
        have okc : okR (.int c) = true := hok
        refine ⟨_, rfl, _, .int c, rfl, .int c, okc, by show 31 ≤ 1000000; decide, by show 0 ≤ 60; decide, _, rfl, _, .int c, rfl, .int c, okc, by show 31 ≤ 1000000; decide, by show 0 ≤ 60; decide, rfl, ?_⟩
        rw [decide_eq_true rfl]
        exact fin
      · refine ⟨_, tp, _, _, _, false, rfl, upd_same, pr, .base (.str c), kit_tl2 (r := false) (s := false) (by decide +kernel) (by decide +kernel), _, rfl, iteF ?_⟩
        cases hv
        have okc : okR (.str c) = true := hok
        have wz : wtR (.str c) ≤ 1000000 := by
          simp only [okR, Bool.and_eq_true, decide_eq_true_eq] at okc
          show 10 * c.length + 2 ≤ 1000000
          omega
        refine ⟨_, rfl, _, .str c, rfl, .str c, okc, wz, by show 0 ≤ 60; decide, _, rfl, _, .str c, rfl, .str c, okc, wz, by show 0 ≤ 60; decide, rfl, ?_⟩
        rw [decide_eq_true rfl]
        exact fin
end
/-! ### the law's own call where tables of code objects may grow -/
theorem law_atT {P : Program} {w : World} {K : PySem.W.Frag} {mg mb : Str → Option Value} {fa a : Addr} {s₁ : Shared} {vs : List Value} {ns : List Int} {cs : List (Addr × Addr)}
    (inK : K.In s₁.heap) (gl : s₁.heap.Ns mainGlobals mg) (bl : s₁.heap.Ns builtinsNs mb) (isB : ∀ x : Str, x ≠ "__name__" → mb x = bootBuiltins x) (lim : s₁.heap.NoLimit) (gens : s₁.gens = #[])
    (tab : ∀ p ∈ cs, s₁.heap.get? p.2 = some { cls := .none, data := .fields #[] }) (out : ∀ p ∈ cs, K.lookup p.2 = none) (code : ∀ p ∈ cs, PySem.W.CodeHd s₁.heap p.1 p.2)
    (main : ∃ (bm : Addr) (ob : Obj), mg "__builtins__" = some (.ref bm) ∧ bm ≠ builtinsNs ∧ s₁.heap.get? bm = some ob ∧ ob.cls = .type "module" ∧ ob.dict = some builtinsNs ∧ ob.data = .plain)
    (obj : s₁.heap.get? a = some { cls := .type "list", data := .seq vs.toArray }) (hints : IntsAre vs ns) (few : ns.length ≤ sizeLine)
    (run : ∀ (base : Heap) (H : Hp), K.In base → base.Ns mainGlobals mg → (∀ p ∈ cs, LamX.TabB base mg p.1 p.2) → (∀ p ∈ cs, H p.2 = some (.tbl #[])) → Env0 P w K mg base callerA [] s₁ H → SqL K H a (ns.map V.int) →
      codeAny (model P w) callerA (.call (.ref fa) ⟨[.ref a], []⟩) (CR CX0 [] P w H s₁ (fun v _ => v = .bl true) fun _ _ _ => False) s₁) :
    codeAny (model P w) callerA (.call (.ref fa) ⟨[.ref a], []⟩) (fun r s' => r = .ok (.ret (.bool true)) ∧ OldK s₁.heap s'.heap ∧ s'.os = s₁.os ∧ AllBare s'.gens) s₁ := by
  have rel := vals_ints hints
  have lens := hints.length
  have tabAt : ∀ b, b ∈ cs.map (·.2) → ∃ p ∈ cs, p.2 = b ∧ s₁.heap.get? b = some { cls := .none, data := .fields #[] } := fun b m => by
    obtain ⟨p, hp, rfl⟩ := List.mem_map.mp m
    exact ⟨p, hp, rfl, tab p hp⟩
  have notTab : a ∉ cs.map (·.2) := fun m => by
    obtain ⟨_, _, _, e⟩ := tabAt a m
    rw [obj] at e
    cases e
  -- what is tracked: the script, where it is not the text's own, and the tables
  obtain ⟨H, atTab, atA, other⟩ : ∃ H : Hp, (∀ b, b ∈ cs.map (·.2) → H b = some (.tbl #[])) ∧
      ((H a = none ∧ ∃ o, K.lookup a = some o) ∨ (K.lookup a = none ∧ H a = some (.frz { cls := .type "list", data := .seq vs.toArray } (.lst (ns.map V.int))))) ∧ ∀ b, b ∉ cs.map (·.2) → b ≠ a → H b = none := by
    cases z : K.lookup a with
    | some o =>
      refine ⟨fun b => if b ∈ cs.map (·.2) then some (.tbl #[]) else none, fun b m => if_pos m, .inl ⟨if_neg notTab, o, rfl⟩, fun b n _ => if_neg n⟩
    | none =>
      refine ⟨fun b => if b ∈ cs.map (·.2) then some (.tbl #[]) else if b = a then some (.frz { cls := .type "list", data := .seq vs.toArray } (.lst (ns.map V.int))) else none, fun b m => if_pos m, .inr ⟨rfl, ?_⟩, fun b n m => ?_⟩
      · show (if a ∈ cs.map (·.2) then _ else _) = _
        rw [if_neg notTab, if_pos rfl]
      · show (if b ∈ cs.map (·.2) then _ else _) = _
        rw [if_neg n, if_neg m]
  have kinds : ∀ b u, H b = some u → (b ∈ cs.map (·.2) ∧ u = .tbl #[]) ∨ (b = a ∧ K.lookup a = none ∧ u = .frz { cls := .type "list", data := .seq vs.toArray } (.lst (ns.map V.int))) := fun b u e => by
    by_cases m : b ∈ cs.map (·.2)
    · rw [atTab b m] at e
      cases e
      exact .inl ⟨m, rfl⟩
    · by_cases ba : b = a
      · subst ba
        rcases atA with ⟨n, _⟩ | ⟨n, h⟩
        · rw [n] at e; cases e
        · rw [h] at e
          cases e
          exact .inr ⟨rfl, n, rfl⟩
      · rw [other b m ba] at e
        cases e
  -- an object of another form is not tracked
  have away : ∀ {b : Addr} {o : Obj}, s₁.heap.get? b = some o → o.data ≠ .fields #[] → (∀ xs n, o.data ≠ .seq xs n) → H b = none := fun {b o} e n1 n2 => by
    cases z : H b with
    | none => rfl
    | some u =>
      rcases kinds b u z with ⟨m, _⟩ | ⟨rfl, _, _⟩
      · obtain ⟨_, _, _, e2⟩ := tabAt b m
        rw [e] at e2
        cases e2
        exact absurd rfl n1
      · rw [obj] at e
        cases e
        exact absurd rfl (n2 _ _)
  have hok : HOk P w H s₁.heap := fun b u e => by
    rcases kinds b u e with ⟨m, rfl⟩ | ⟨rfl, _, rfl⟩
    · obtain ⟨_, _, _, e2⟩ := tabAt b m
      exact e2
    · exact ⟨obj, by rw [List.length_map]; exact few, vs, _, rel, obj⟩
  have hS : SqL K H a (ns.map V.int) := by
    rcases atA with ⟨_, o, z⟩ | ⟨_, h⟩
    · have same := inK a o z
      rw [obj] at same
      cases same
      exact .inr ⟨_, vs.toArray, _, z, rfl, rfl, rfl, by rw [List.size_toArray, lens]; exact few, by rw [List.toList_toArray]; exact rel⟩
    · exact .inl (.inr ⟨_, h⟩)
  have dicts : ∀ {b : Addr} {m : Str → Option Value}, s₁.heap.Ns b m → (hidT s₁.heap H).Ns b m := by
    rintro b m ⟨o, es, ep, e, isD, r⟩
    exact ⟨o, es, ep, hidT_get e (away e (by rw [isD]; exact fun z => by cases z) fun xs n => by rw [isD]; exact fun z => by cases z), isD, r⟩
  have inK' : K.In (hidT s₁.heap H) := fun b o e => hidT_get (inK b o e) (by
    cases z : H b with
    | none => rfl
    | some u =>
      rcases kinds b u z with ⟨m, _⟩ | ⟨rfl, n, _⟩
      · obtain ⟨p, hp, rfl, _⟩ := tabAt b m
        rw [out p hp] at e
        cases e
      · rw [n] at e
        cases e)
  have seats : ∀ p ∈ cs, LamX.TabB (hidT s₁.heap H) mg p.1 p.2 := fun p hp => by
    have tp := tab p hp
    refine ⟨?_, ?_, fun z => ?_⟩
    · obtain ⟨o, xs, file, tf, flags, tg, inF, text, tt, e, cls, isF, at11, rest⟩ := code p hp
      refine ⟨o, xs, file, tf, flags, tg, inF, text, tt, hidT_get e (away e (fun z => ?_) fun ys n => by rw [isF]; exact fun z => by cases z), cls, isF, at11, rest⟩
      rw [isF] at z
      cases z
      simp at at11
    · obtain ⟨bm, ob, g1, g2, g3, g4, g5, g6⟩ := main
      refine ⟨bm, ob, g1, g2, fun z => ?_, fun z => ?_, hidT_get g3 (away g3 (by rw [g6]; exact fun z => by cases z) fun ys n => by rw [g6]; exact fun z => by cases z), g4, g5, g6⟩
      · obtain ⟨o, es, ep, e, isD, _⟩ := gl
        rw [z, e] at g3
        cases g3
        rw [isD] at g6
        cases g6
      · rw [z, tp] at g3
        cases g3
        cases g6
    · obtain ⟨o, es, ep, e, isD, _⟩ := gl
      rw [z, tp] at e
      cases e
      cases isD
  obtain ⟨mc, l1, l2⟩ := lim
  have env : Env0 P w K mg (hidT s₁.heap H) callerA [] s₁ H :=
    ⟨rfl, ⟨inK', dicts gl, ⟨mb, dicts bl, isB⟩, ⟨mc, dicts l1, l2⟩⟩, fun _ _ e => of_hidT e, Nat.le_of_eq (hidT_size _ _), trivial, (fun _ hb => nomatch hb), hok, .of_eq gens⟩
  refine codeAny_mono (run _ H inK' (dicts gl) seats (fun p hp => atTab _ (List.mem_map.mpr ⟨p, hp, rfl⟩)) env hS) ?_
  intro r s' h
  match r, h with
  | .ok (.ret u), h =>
    obtain ⟨v, H', os, bare, un, hok', rv, isT⟩ := h
    subst isT
    cases rv
    have keeps : ∀ b o, b ∉ cs.map (·.2) → s₁.heap.get? b = some o → s'.heap.get? b = some o := fun b o nb e => by
      cases z : H b with
      | none => exact un.keep b o e z (fun y => nomatch y) (fun y => nomatch y)
      | some u =>
        rcases kinds b u z with ⟨m, _⟩ | ⟨rfl, _, rfl⟩
        · exact absurd m nb
        · obtain ⟨e2, _⟩ := hok' b _ (un.frzs b _ _ z)
          rw [obj] at e
          cases e
          exact e2
    have grew : ∀ b, b ∈ cs.map (·.2) → ∃ more : Array Value, s'.heap.get? b = some { cls := .none, data := .fields more } := fun b m => by
      obtain ⟨more, z⟩ := un.tbls b #[] (atTab b m)
      exact ⟨_, hok' b _ z⟩
    refine ⟨rfl, ⟨fun b o e => ?_, fun b o e => ?_⟩, os, bare⟩
    · by_cases m : b ∈ cs.map (·.2)
      · obtain ⟨more, g⟩ := grew b m
        obtain ⟨p, hp, rfl, e2⟩ := tabAt b m
        rw [e] at e2
        cases e2
        exact .inr (.inl ⟨((code p hp).tab (tab p hp)).isCodeTable, rfl, #[], more, rfl, by rw [Array.empty_append]; exact g⟩)
      · exact .inl (keeps b o m e)
    · by_cases m : b ∈ cs.map (·.2)
      · obtain ⟨more, g⟩ := grew b m
        exact ⟨_, g⟩
      · exact ⟨o, keeps b o m e⟩
/-! ### a law with tables of code objects that calls repr -/
theorem enter_defC {P : Program} {w : World} {K : PySem.W.Frag} {mg : Str → Option Value} {base : Heap} {f c : Addr} {fd : FuncData} {N ps : List Str} {k : Nat} {x qual : Str} {st : Stmt} (F : Fun K x qual st f fd) (hc : fd.code = .ref c) (S : FnScope N ps (defScope st))
    {A : Around} {outer : List Env} {s : Shared} {H : Hp} {args : Args} {us : List Value} {vs : List V} {Q : VK} {E : XK}
    (room : Room (k + 1) A) (en : Env0 P w K mg base A outer s H) (bd : BindsTo s fd args (ps.zip us)) (rel : Vals vs us) (hln : vs.length = ps.length)
    (body : Room k (A.deeper (envOfC qual (defScope st) s.heap.objs.size f (.ref c))) →
      ∃ t, PSs (cxOf CX0 P w K mg base N qual (defScope st) f (.ref c) A outer s H E).nox (defBody st) t ∧ t { nx := fun _ H' => Q .non H', rt := Q } (start N vs) H) :
    codeAny (model P w) A (.call (.ref f) args) (CR CX0 outer P w H s Q E) s := by
  obtain ⟨oc, od, kV, doc, pm, an, cdv, ct, osl, rfl, look, code⟩ := F.ex
  cases (show cdv = .ref c from hc)
  have keepB : ∀ b o, base.get? b = some o → s.heap.get? b = some o := fun b o e => (en.bs b o e).1
  have inS : K.In s.heap := en.mod.kin.keeps keepB
  have where_ : ∀ y ∈ ps.zip us, (defScope st).names.lookup y.1 = some .local ∨
      ((defScope st).names.lookup y.1 = some .cell ∧ ((cellsFrom (s.heap.objs.size + 1) (defScope st).names []).lookup y.1).isSome = true) := fun ⟨nm, u⟩ hy =>
    (S.par nm (List.of_mem_zip hy).1).elim .inl fun z => .inr ⟨z, PySem.W.cellsFrom_some _ _ _ (.inl z)⟩
  refine codeAny_call_function (prog := P) (w := w) (A := A) (s := s) room.depth (inS _ _ look) rfl S.co S.gen rfl (PySem.W.codeRec_of inS code) (R := CR CX0 outer P w H s Q E) (args := args) (bd _ _ _ _ ?_)
  refine wpAny_newFunctionEnv_cells S.kind where_ fun env isEnv s1 inC => ?_
  subst isEnv
  refine ⟨(en.mod.nolimit.keeps keepB).keeps inC.toInCall.keep, codeAny_func ?_⟩
  obtain ⟨t, ht, hq⟩ := body (room.deeper _)
  refine wpAny_mono (ht.nox.run [] s1 (start N vs) H _ (inv_start S room.hd en hln rel inC) hq) (fun fl s' done => ?_) (fun e s' z => z)
  match fl, done with
  | .ret u, done => obtain ⟨v, σ', H', I', rv, qv⟩ := done; exact ⟨v, H', I'.os, I'.bare, I'.base, I'.hok, rv, qv⟩
  | .next, done => obtain ⟨σ', H', I', qv⟩ := done; exact ⟨V.non, H', I'.os, I'.bare, I'.base, I'.hok, rfl, qv⟩
  | .brk, done => exact done.elim fun _ z => z.elim fun _ z => z.2.elim
  | .cont, done => exact done.elim fun _ z => z.elim fun _ z => z.2.elim
def RunT (l : PySem.W.OpenLaw) (w : World) (K : PySem.W.Frag) (mg : Str → Option Value) (fa : Addr) (h : Heap) : Prop :=
  ∃ cs : List (Addr × Addr), (∀ p ∈ cs, h.get? p.2 = some { cls := .none, data := .fields #[] }) ∧ (∀ p ∈ cs, K.lookup p.2 = none) ∧ (∀ p ∈ cs, PySem.W.CodeHd h p.1 p.2) ∧
    ∀ (base : Heap) (H : Hp) (s : Shared) (a : Addr) (ns : List Int), K.In base → base.Ns mainGlobals mg → (∀ p ∈ cs, LamX.TabB base mg p.1 p.2) → (∀ p ∈ cs, H p.2 = some (.tbl #[])) → Env0 l.prog w K mg base callerA [] s H → SqL K H a (ns.map V.int) → ns.length ≤ 63 →
      codeAny (model l.prog w) callerA (.call (.ref fa) ⟨[.ref a], []⟩) (CR CX0 [] l.prog w H s (fun v _ => v = .bl true) fun _ _ _ => False) s
theorem walk_atT {l : PySem.W.OpenLaw} {q : Program} {loose : List Str} {XP : (Str → Option Value) → Heap → Prop} {YP : World → Heap → Prop} {d : DefRec} {K : Params → PySem.W.Frag} (most : l.most = some 63) (noDf : d.params.defaults = [])
    (inK : ∀ (w : World) (h : Heap), YP w h → (K w.params).In h)
    (F : ∀ (w : World) (mg : Str → Option Value) (fa : Addr) (h : Heap), YP w h → (K w.params).In h → h.Ns mainGlobals mg → mg d.name = some (.ref fa) → RunT l w (K w.params) mg fa h) :
    PySem.W.WalkO q loose XP YP l.row.toRowW d [] (fun f vs => PySem.call f vs) := by
  refine Att.attach_callB most noDf fun w s₀ s₁ mg mb fa o pm cd doc a vs ns G Y ho hd hcd hmg hobj hints hlen hbits hg => ?_
  obtain ⟨cs, hT, nT, C, run⟩ := F w mg fa _ Y (inK w _ Y) G.T.g hmg
  exact law_atT (inK w _ Y) G.T.g G.T.b G.T.builtins G.T.nolimit hg hT nT C G.T.bmain hobj hints (Nat.le_trans hlen (by decide)) fun base H h1 h2 tb ht en hS => run base H s₁ a ns h1 h2 tb ht en hS hlen
/-! ### _law_told: it calls a lambda within a try -/
structure ErrN (K : PySem.W.Frag) (mg : Str → Option Value) (C CW : Addr) : Prop where
  x0 : Err0 K mg "NoFit" C
  gW : mg "WalkError" = some (.ref CW)
  ex : PySem.W.exmOne K (.ref C) (.ref CW) = some true
  kN : PySem.W.kitOne K (.ref C) (.ref C) = some true
  mV : mg "ValueError" = none
  kV : PySem.W.kitOne K (.ref C) (.type "ValueError") = some true
  more : ∃ c1 c2, mg "NoRows" = some (.ref c1) ∧ mg "NoTree" = some (.ref c2) ∧ PySem.W.kitAny K (.ref C) [.ref c1, .ref c2] = some false
def TTd (C : Addr) : (XK → Hp → VK → Prop) → Hp → VK → Prop := fun tl H Q => tl (fun cls d H' => cls = .ref C ∧ d = none ∧ ∀ H'', Same H' H'' → Q .non H'') H Q
theorem takes_len {X : Cx} {W : WX} (tk : Takes X W) : Takes X (fun cls d σ H => σ.length = X.N.length → W cls d σ H) := fun e s' h => by
  obtain ⟨a, B, sI, pins', σ', H', cls, d, rfl, J', nb, up, sky, na, os, ag, w⟩ := h
  exact tk _ _ ⟨a, B, sI, pins', σ', H', cls, d, rfl, J', nb, up, sky, na, os, ag, w J'.len⟩
theorem told_gives {X : Cx} {q : Str} {g C CW : Addr} {cdg : Value} (M : Mgs X.mg) (EN : ErrN X.K X.mg C CW) : LamX.GivesTo X ["_law_call", "e", "_law_alone"] "_law_told" (defScope s__law_told) g cdg (defBody s__law_told) "_law_call" q (TTd C) := by
  intro f c' s H Q tl act hc h
  obtain ⟨c1, c2, g1, g2, kM⟩ := EN.more
  have bi : bootBuiltins "isinstance" = some (.builtin "isinstance") := by decide +kernel
  refine ⟨_, pss_one (ps_try_as (X := (cxOf C8.CX0 X.prog X.w X.K X.mg X.base ["_law_call", "e", "_law_alone"] "_law_told" (defScope s__law_told) g cdg X.A X.stack s H C8.E0).nox) (i := 1) (n := "e") (c := .ref CW) (Wout := fun _ _ _ _ => False)
      (tb := fun W D σ H => ∃ Ech : XK, (∀ cls d σ' H', Ech cls d H' → σ'.length = 3 → W cls d σ' H') ∧ σ[0]? = some (some (.ref f)) ∧ H c' = some (LamX.CodeO c' q) ∧ tl Ech H D.rt) rfl rfl sc__law_told.nd rfl rfl ⟨rfl, by decide, .inl EN.gW⟩ takes_none5
      (fun W pn xe tk _ => ?_)
      (fun a oe cls d pn hz hf => (pss_cons (ps_set (i := 2) sc__law_told.nd rfl (.inl rfl) (pe_and (pe_callB (call_isX0 hz hf) rfl M.isinstance bi (pa_cons (pv 1) (pa_cons (pe_glob (v := .ref C) rfl EN.x0.g rfl) pa_nil))) (pe_one (pe_not (pe_callB (call_isXT0 hz hf) rfl M.isinstance bi (pa_cons (pv 1) (pa_cons (pe_tup (pa_cons (pe_glob (v := .ref c1) rfl g1 rfl) (pa_cons (pe_glob (v := .ref c2) rfl g2 rfl) pa_nil))) pa_nil)))))))
        (pss_one (ps_ret (pe_ifExp (PW.pt (pw_and (pt_val (pv 2)) (pw_and1 (pt_val (pe_callB (call_isX0 hz hf) rfl M.isinstance bi (pa_cons (pv 1) (pa_cons (pe_bltn (v := .ty "ValueError") rfl EN.mV (by decide +kernel) rfl) pa_nil))))))) pe_non pe_str)))))), ?_⟩
  · refine ⟨fun pins s' σ H' D I h' => ?_⟩
    obtain ⟨Ech, hW, h1, h2, h3⟩ := h'
    exact (pss_one (ps_ret (act _ pn xe Ech _ _ (takes_len tk) hW))).run pins s' σ H' D I ⟨h1, h2, h3⟩
  · refine ⟨fun cls d H' => cls = .ref C ∧ d = none ∧ ∀ H'', Same H' H'' → Q .non H'', fun cls d σ' H' hE hl => ?_, rfl, hc, h⟩
    obtain ⟨rfl, rfl, hQ⟩ := hE
    obtain ⟨x0, x1, x2, rfl⟩ : ∃ x0 x1 x2, σ' = [x0, x1, x2] := by
      match σ', hl with
      | [x0, x1, x2], _ => exact ⟨x0, x1, x2, rfl⟩
    refine ⟨true, EN.ex, fun _ a0 na => ?_, fun z => nomatch z⟩
    refine ⟨_, rfl, C, _, _, true, rfl, rfl, EN.x0.x, rfl, .own _, EN.kN, _, rfl, iteT ?_⟩
    refine ⟨_, rfl, (by show 2 ≤ sizeLine; decide), fun tp ntp => ?_⟩
    have k2 := same_new ntp (.tup [.ref c1, .ref c2])
    refine ⟨C, tp, _, _, false, rfl, rfl, EN.x0.x, rfl, upd_same, .cons (.own _) (.cons (.own _) .nil), kM, _, rfl, ?_⟩
    refine ⟨_, rfl, _, rfl, iteT ?_⟩
    refine ⟨_, rfl, C, _, _, true, rfl, rfl, EN.x0.x, rfl, .ty _, EN.kV, _, rfl, iteT ?_⟩
    exact hQ _ k2
/-! ### _law_due -/
def rLenSeq (K : PySem.W.Frag) : List V → Hp → VK → Prop := fun xs H Q => ∃ p ys, xs = [.ref p] ∧ (SqL K H p ys ∨ SqT K H p ys) ∧ Q (.int ys.length) H
theorem op_eqL {X : Cx} (hu : X.A.units < cLine) : OpR X (compareOp .Eq) (fun x y H Q => ∃ a b xs, x = .ref a ∧ y = .ref b ∧ SqL X.K H a xs ∧ SqL X.K H b [] ∧ Q (.bl xs.isEmpty) H) := by
  intro pins s σ H x y v u Q I rx ry h
  obtain ⟨a, b, xs, rfl, rfl, hx, hy, q⟩ := h
  cases rx
  cases ry
  obtain ⟨its, r1, t1, _⟩ := I.list hx
  obtain ⟨its2, r2, t2, _⟩ := I.list hy
  cases r2
  cases r1 with
  | nil =>
    have rc := SeqAt.RcAt.lists (A := X.A) (s := s) (items := ([] : List Value).toArray) (items2 := ([] : List Value).toArray) (e := fun _ => true) t1.isList t2.isList rfl hu (fun j h1 _ => absurd h1 (by simp))
    exact rc X.prog X.w X.xe _ ⟨.bl _, H, I, rfl, q⟩
  | cons _ _ =>
    have rc := SeqAt.RcAt.lists_lengths (A := X.A) (s := s) t1.isList t2.isList (by simp) hu
    exact rc X.prog X.w X.xe _ ⟨.bl _, H, I, rfl, q⟩
def But (L : Addr) (H H' : Hp) : Prop := ∀ a o, a ≠ L → H a = some o → H' a = some o
theorem But.of {L : Addr} {H H' : Hp} (s : Same H H') : But L H H' := fun a o _ e => s a o e
theorem But.trans {L : Addr} {H H' H'' : Hp} (s : But L H H') (t : But L H' H'') : But L H H'' := fun a o n e => t a o n (s a o n e)
theorem But.upd {L : Addr} (H : Hp) (o : HO) : But L H (upd H L o) := fun a u n e => by rw [upd_ne n]; exact e
theorem But.keepT {L : Addr} {H H' : Hp} {ws : List V} (s : But L H H') (e : H L = some (.lst ws)) : KeepT H H' := fun a o h => s a _ (fun z => by rw [z, e] at h; cases h) h
/-- the signs of the shapes that fit, as the law lists them -/
inductive SgL (L : Addr) (G : G3) (n : Nat) (H : Hp) : List V → List S → Prop
  | nil : SgL L G n H [] []
  | cons {P A B C : Addr} {w : S} {us : List V} {ws : List S} : P ≠ L → A ≠ L → B ≠ L → C ≠ L → H P = some (.lst [.ref A, .ref B, .ref C]) → H A = some (.lst ((sgRow G n 0 w).map vc)) → H B = some (.lst ((sgRow G n 1 w).map vc)) → H C = some (.lst ((sgRow G n 2 w).map vc)) → SgL L G n H us ws → SgL L G n H (.ref P :: us) (w :: ws)
theorem SgL.but {L : Addr} {G : G3} {n : Nat} {H H' : Hp} (k : But L H H') {us : List V} {ws : List S} (h : SgL L G n H us ws) : SgL L G n H' us ws := by
  induction h with
  | nil => exact .nil
  | cons n1 n2 n3 n4 e1 e2 e3 e4 _ ih => exact .cons n1 n2 n3 n4 (k _ _ n1 e1) (k _ _ n2 e2) (k _ _ n3 e3) (k _ _ n4 e4) ih
theorem SgL.app {L : Addr} {G : G3} {n : Nat} {H : Hp} {us vs : List V} {xs ys : List S} (h : SgL L G n H us xs) (g : SgL L G n H vs ys) : SgL L G n H (us ++ vs) (xs ++ ys) := by
  induction h with
  | nil => exact g
  | cons n1 n2 n3 n4 e1 e2 e3 e4 _ ih => exact .cons n1 n2 n3 n4 e1 e2 e3 e4 ih
theorem SgL.len {L : Addr} {G : G3} {n : Nat} {H : Hp} {us : List V} {xs : List S} (h : SgL L G n H us xs) : us.length = xs.length := by
  induction h with
  | nil => rfl
  | cons _ _ _ _ _ _ _ _ _ ih => exact congrArg Nat.succ ih
theorem SgL.row {L : Addr} {G : G3} {n : Nat} {H : Hp} {us : List V} {ws : List S} (h : SgL L G n H us ws) : ∀ {i : Nat} {u : V}, us[i]? = some u → ∃ (w : S) (P : Addr) (rs : List V), u = .ref P ∧ ws[i]? = some w ∧ H P = some (.lst rs) ∧ ∀ k, k < 3 → ∃ A, rs[k]? = some (.ref A) ∧ H A = some (.lst ((sgRow G n k w).map vc)) := by
  induction h with
  | nil => intro i u e; simp at e
  | @cons P A B C w us ws n1 n2 n3 n4 e1 e2 e3 e4 _ ih =>
    intro i u e
    match i, e with
    | 0, e =>
      cases e
      refine ⟨w, P, _, rfl, rfl, e1, fun k hk => ?_⟩
      match k, hk with
      | 0, _ => exact ⟨A, rfl, e2⟩
      | 1, _ => exact ⟨B, rfl, e3⟩
      | 2, _ => exact ⟨C, rfl, e4⟩
    | i + 1, e => exact ih e
def dueTup (G : G3) (n : Nat) : List V := [vt (dueRow G n 0), vt (dueRow G n 1), vt (dueRow G n 2)]
def spDue : Sp := fun vs H Q _ => ∃ (p : Addr) (a b c : List Nat) (n : Nat), vs = [.ref p] ∧ H p = some (.tup [vt a, vt b, vt c]) ∧ RowOk a ∧ RowOk b ∧ RowOk c ∧ a.length = n ∧ b.length = n ∧ c.length = n ∧ n ≤ 5 ∧
  ∀ (v : V) (H' : Hp), Same H H' → (if fitL ⟨a, b, c⟩ n = [] then v = .non else ∃ q, v = .ref q ∧ H' q = some (.tup (dueTup ⟨a, b, c⟩ n))) → Q v H'
theorem setsL_snoc (G : G3) (k : Nat) (ps : List (Nat × Nat × Nat)) (p : Nat × Nat × Nat) (r : List Nat) : setsL G k (ps ++ [p]) r = (setsL G k ps r).set (cok k p) (sgC (sigs G p)) := by
  unfold setsL
  rw [List.foldl_append]
  rfl
theorem inV_vt (l : List Nat) (L : List (List Nat)) : inV (vt l) (L.map vt) = decide (l ∈ L) := by
  unfold inV
  rw [List.any_map]
  induction L with
  | nil => rfl
  | cons a L ih =>
    rw [List.any_cons, ih]
    by_cases h : l = a
    · subst h
      rw [decide_eq_true (List.mem_cons_self)]
      have : ((fun y => eqV y (vt l)) ∘ vt) l = true := by show eqV (vt l) (vt l) = true; simp [eqV]
      rw [this]; rfl
    · have : ((fun y => eqV y (vt l)) ∘ vt) a = false := by
        show eqV (vt a) (vt l) = false
        have hne : ¬ tx a = tx l := fun z => h (tx_inj z).symm
        simp [eqV, hne]
      rw [this, Bool.false_or]
      by_cases g : l ∈ L
      · rw [decide_eq_true g, decide_eq_true (List.mem_cons_of_mem _ g)]
      · rw [decide_eq_false g, decide_eq_false (fun z => by
          rcases List.mem_cons.mp z with z | z
          · exact h z
          · exact g z)]
theorem TsAt.get {H : Hp} {us : List V} {xs : List (Nat × Nat × Nat)} (h : TsAt H us xs) : ∀ {i : Nat} {u : V}, us[i]? = some u → ∃ q x, u = .ref q ∧ xs[i]? = some x ∧ H q = some (.tup [.int (x.1 : Int), .int (x.2.1 : Int), .int (x.2.2 : Int)]) := by
  induction h with
  | nil => intro i u e; simp at e
  | cons a _ ih =>
    intro i u e
    match i, e with
    | 0, e => cases e; exact ⟨_, _, rfl, rfl, a⟩
    | i + 1, e => exact ih e
/-- lists of signs -/
inductive LvAt (N : Addr) (H : Hp) : List V → List (List Nat) → Prop
  | nil : LvAt N H [] []
  | cons {q : Addr} {x : List Nat} {us : List V} {xs : List (List Nat)} : q ≠ N → H q = some (.lst (x.map vc)) → LvAt N H us xs → LvAt N H (.ref q :: us) (x :: xs)
theorem LvAt.but {N : Addr} {H H' : Hp} {us : List V} {xs : List (List Nat)} (h : LvAt N H us xs) (k : But N H H') : LvAt N H' us xs := by
  induction h with
  | nil => exact .nil
  | cons n e _ ih => exact .cons n (k _ _ n e) ih
theorem LvAt.app {N : Addr} {H : Hp} {us vs : List V} {xs ys : List (List Nat)} (h : LvAt N H us xs) (g : LvAt N H vs ys) : LvAt N H (us ++ vs) (xs ++ ys) := by
  induction h with
  | nil => exact g
  | cons n e _ ih => exact .cons n e ih
theorem LvAt.len {N : Addr} {H : Hp} {us : List V} {xs : List (List Nat)} (h : LvAt N H us xs) : us.length = xs.length := by
  induction h with
  | nil => rfl
  | cons _ _ _ ih => exact congrArg Nat.succ ih
theorem LvAt.get {N : Addr} {H : Hp} {us : List V} {xs : List (List Nat)} (h : LvAt N H us xs) : ∀ {i : Nat} {u : V}, us[i]? = some u → ∃ q x, u = .ref q ∧ xs[i]? = some x ∧ H q = some (.lst (x.map vc)) := by
  induction h with
  | nil => intro i u e; simp at e
  | cons _ a _ ih =>
    intro i u e
    match i, e with
    | 0, e => cases e; exact ⟨_, _, rfl, rfl, a⟩
    | i + 1, e => exact ih e
theorem at_vc {l : List Nat} {m : Nat} (h : m < l.length) : atI (l.map vc) (m : Int) = some (vc (l.getD m 63)) := by
  refine atI_nat ?_
  rw [List.getElem?_map, List.getD_eq_getElem?_getD, List.getElem?_eq_getElem h]
  rfl
theorem rep_q (n : Nat) : (List.replicate (((n : Nat) : Int)).toNat [V.str (Str.ofString "?")]).flatten = (List.replicate n 63).map vc := by
  rw [Int.toNat_natCast, List.map_replicate, str_q]
  exact List.flatten_replicate_singleton
def Low (l : List Nat) : Prop := ∀ y ∈ l, y < 128
theorem Low.getD {l : List Nat} (h : Low l) (i : Nat) : l.getD i 63 < 128 := by
  rw [List.getD_eq_getElem?_getD]
  cases e : l[i]? with
  | none => decide
  | some x => exact h x (List.mem_of_getElem? e)
theorem sgC_low {l : List Nat} (h : Low l) : sgC l < 128 := by
  unfold sgC comm
  cases hk : knownL l with
  | nil => decide
  | cons c r =>
    have hc : c ∈ l := by
      have : c ∈ knownL l := by rw [hk]; exact List.mem_cons_self
      exact (List.mem_filter.mp this).1
    show (if (if c :: r = List.replicate (r.length + 1) c then [c] else []).length = 1 then (if c :: r = List.replicate (r.length + 1) c then [c] else []).headD 63 else 63) < 128
    by_cases e : c :: r = List.replicate (r.length + 1) c
    · rw [if_pos e]; exact h c hc
    · rw [if_neg e]; decide
theorem sureOf_low : ∀ l : List Nat, Low l → sureOf l < 128
  | [], _ => by decide
  | t :: r, h => by
    show (if ∀ y ∈ r, y = t then t else 63) < 128
    by_cases e : ∀ y ∈ r, y = t
    · rw [if_pos e]; exact h t List.mem_cons_self
    · rw [if_neg e]; decide
theorem setsL_low {G : G3} (k : Nat) (h : ∀ p, sgC (sigs G p) < 128) : ∀ (ps : List (Nat × Nat × Nat)) (r : List Nat), Low r → Low (setsL G k ps r)
  | [], _, hr => hr
  | p :: ps, r, hr => setsL_low k h ps _ fun y hy => by
    rcases List.mem_or_eq_of_mem_set hy with hy | rfl
    · exact hr y hy
    · exact h p
theorem dueRow_low {G : G3} (ha : Low G.a) (hb : Low G.b) (hc : Low G.c) (n k : Nat) : Low (dueRow G n k) := fun y hy => by
  have hs : ∀ p, sgC (sigs G p) < 128 := fun p => sgC_low fun z hz => by
    rcases List.mem_cons.mp hz with rfl | hz
    · exact ha.getD _
    rcases List.mem_cons.mp hz with rfl | hz
    · exact hb.getD _
    · rw [List.mem_singleton.mp hz]; exact hc.getD _
  obtain ⟨q, _, rfl⟩ := List.mem_map.mp hy
  refine sureOf_low _ fun z hz => ?_
  obtain ⟨w, _, rfl⟩ := List.mem_map.mp hz
  exact Low.getD (setsL_low k hs _ _ fun x hx => by rw [List.eq_of_mem_replicate hx]; decide) q
theorem ixN_c {n c : Nat} (h : c < n) : ixN n (c : Int) = some c := by
  unfold ixN
  rw [if_pos (by omega), if_pos (by omega)]
  rfl
section
variable {P : Program} {w : World} {K : PySem.W.Frag} {mg : Str → Option Value} {base : Heap} {f : Addr} {fd : FuncData}
theorem ok_due (F : Fun K "_law_due" "_law_due" s__law_due f fd) (M : Mgs mg) (D_law_shapes : Df P w K mg base 1 "_law_shapes" ["_law_many"] spShapes) (D_law_spots : Df P w K mg base 43 "_law_spots" ["_law_shape_here", "_law_a", "_law_b", "_law_c"] (spSpots 13)) (D_law_letter : Df P w K mg base 1 "_law_letter" ["_law_rows_here", "_law_spot"] spLetter) :
    FnOk P w K mg base CX0 44 f fd ["_law_rows_here"] spDue := by
  refine F.ok (k := 43) sc__law_due (fun vs H Q E h => ?_) (fun cdv A outer s H vs Q E hr h => ?_)
  · obtain ⟨p, a, b, c, n, rfl, _⟩ := h
    rfl
  obtain ⟨p, a, b, c, n, rfl, ep, ka, kb, kc, la, lb, lc, l5, q⟩ := h
  have n0 : 0 < n := by have := List.length_pos_iff.mpr ka.ne; omega
  generalize hG : (⟨a, b, c⟩ : G3) = G at q
  refine ⟨_, (pss_cons (ps_asg (pe_tup (pa_cons (pe_callB call_len_str rfl M.len PySem.boot_len (pa_cons (pe_ix ix_tup (pv 0) pe_int (fun _ _ => rfl)) pa_nil)) (pa_cons (pe_lst pa_nil) pa_nil))) (pg_tup rfl (pgs_cons (pg_name (i := 1) sc__law_due.nd rfl (.inl rfl)) (pgs_cons (pg_name (i := 2) sc__law_due.nd rfl (.inr rfl)) pgs_nil))))
    (pss_cons (ps_for PassesOwn.never rfl (pi_list (pe_call D_law_shapes.ok (hr.mono (by omega)) rfl D_law_shapes.g D_law_shapes.kp D_law_shapes.b .nil pass0 (pa_cons (pv 1) pa_nil))) (pg_name (i := 3) sc__law_due.nd rfl (.inl rfl))
      (pss_cons (ps_set (i := 4) sc__law_due.nd rfl (.inl rfl) (pe_call D_law_spots.ok (hr.mono (by omega)) rfl D_law_spots.g D_law_spots.kp D_law_spots.b .nil pass0 (pa_cons (pv 3) (pa_cons pe_int (pa_cons pe_int (pa_cons pe_int pa_nil))))))
    (pss_cons (ps_setLc (i := 6) (own := [("_law_spot", 5)]) (g := gName 5) (tt := tYes) (by rfl) sc__law_due.nd rfl rfl (sw_true rfl rfl rfl (by decide +kernel)) (pi_list (pv 4)) (blkOk_by (N := ["_law_rows_here", "_law_many", "_law_some", "_law_shape_here", "_law_spots_here", "_law_spot", "_law_letters", "_law_signs", "_law_sign", "_law_k", "_law_found", "_law_place", "_law_texts"]) (sc := defScope s__law_due) (by decide +kernel)) (fun _ _ _ _ _ => (pg_name (i := 5) sc__law_due.nd rfl (.inl rfl))) (fun _ _ _ _ _ => pts_nil) (fun _ _ _ _ _ => (pe_call D_law_letter.ok (hr.mono (by omega)) rfl D_law_letter.g D_law_letter.kp D_law_letter.b .nil pass0 (pa_cons (pv 0) (pa_cons (pv 5) pa_nil)))))
    (pss_one (ps_if (pt_cmpR op_notIn_seq pe_str (pv 6) (by rfl))
      (pss_cons (ps_set (i := 7) sc__law_due.nd rfl (.inl rfl) (pe_lst (pa_cons (pe_op op_rep (pe_lst (pa_cons pe_str pa_nil)) (pv 1)) (pa_cons (pe_op op_rep (pe_lst (pa_cons pe_str pa_nil)) (pv 1)) (pa_cons (pe_op op_rep (pe_lst (pa_cons pe_str pa_nil)) (pv 1)) pa_nil)))))
    (pss_cons (ps_for PassesOwn.never rfl (RZ.pi_zipA rfl M.zip (pa_cons (pv 4) (pa_cons (pv 6) pa_nil))) (pg_tup rfl (pgs_cons (pg_name (i := 5) sc__law_due.nd rfl (.inl rfl)) (pgs_cons (pg_name (i := 8) sc__law_due.nd rfl (.inl rfl)) pgs_nil)))
      (pss_one (ps_for PassesOwn.never rfl (pi_range1 rfl M.range (pa_cons pe_int pa_nil)) (pg_name (i := 9) sc__law_due.nd rfl (.inr rfl))
      (pss_one (ps_asg (pv 8) (pg_sub (pe_ix ix_list (pv 7) (pv 9) (fun _ _ => rfl)) (pe_ix ix_tup (pv 5) (pv 9) (fun _ _ => rfl)) set_list))))))
    (pss_one (ps_expr (pe_bm PySem.F.plainAttrs_list PySem.F.slot_list_append PySem.F.type_list_append mt_append (pv 2) (pa_cons (pv 7) pa_nil)))))) pss_nil)))))
    (pss_cons (ps_if (pt_cmpR (op_eqL hr.units0) (pv 2) (pe_lst pa_nil) (nomark _))
      (pss_one (ps_ret pe_non)) pss_nil)
    (pss_cons (ps_set (i := 10) sc__law_due.nd rfl (.inl rfl) (pe_lst pa_nil))
    (pss_cons (ps_for PassesOwn.never rfl (pi_range1 rfl M.range (pa_cons pe_int pa_nil)) (pg_name (i := 9) sc__law_due.nd rfl (.inr rfl))
      (pss_cons (ps_setLc (i := 12) (own := [("_law_place", 11)]) (g := gName 11) (tt := tYes) (by rfl) sc__law_due.nd rfl rfl (sw_true rfl rfl rfl (by decide +kernel)) (pi_range1 rfl M.range (pa_cons (pv 1) pa_nil)) (blkOk_by (N := ["_law_rows_here", "_law_many", "_law_some", "_law_shape_here", "_law_spots_here", "_law_spot", "_law_letters", "_law_signs", "_law_sign", "_law_k", "_law_found", "_law_place", "_law_texts"]) (sc := defScope s__law_due) (by decide +kernel)) (fun _ _ _ _ _ => (pg_name (i := 11) sc__law_due.nd rfl (.inr rfl))) (fun _ _ _ _ _ => pts_nil) (fun _ _ _ _ _ => (pe_lc (own := [("_law_signs", 7)]) (g := gName 7) (tt := tYes) rfl sc__law_due.nd (show PI _ _ _ (iList K _) from pi_list (pv 2)) (blkOk_by (N := ["_law_rows_here", "_law_many", "_law_some", "_law_shape_here", "_law_spots_here", "_law_spot", "_law_letters", "_law_signs", "_law_sign", "_law_k", "_law_found", "_law_place", "_law_texts"]) (sc := { kind := .function, names := [(".0", .local), ("_law_place", .cell), ("_law_k", .cell), ("_law_some", .cell)], isGenerator := false, isCoroutine := false }) (by decide +kernel)) (fun _ _ _ _ _ => (pg_name (i := 7) sc__law_due.nd rfl (.inl rfl))) (fun _ _ _ _ _ => pts_nil) (fun _ _ _ _ _ => (pe_ix (show IxR _ (rIxL K) from ix_list) (pe_ix (show IxR _ (rIxL K) from ix_list) (pv 7) (pv 9) (fun _ _ => rfl)) (pv 11) (fun _ _ => rfl))))))
    (pss_one (ps_expr (pe_bm PySem.F.plainAttrs_list PySem.F.slot_list_append PySem.F.type_list_append mt_append (pv 10) (pa_cons (pe_bm PySem.F.plainAttrs_str PySem.F.slot_str_join PySem.F.type_str_join mt_join pe_str (pa_cons (pe_lc (own := [("_law_signs", 7)]) (g := gName 7) (tt := tYes) rfl sc__law_due.nd (pi_list (pv 12)) (blkOk_by (N := ["_law_rows_here", "_law_many", "_law_some", "_law_shape_here", "_law_spots_here", "_law_spot", "_law_letters", "_law_signs", "_law_sign", "_law_k", "_law_found", "_law_place", "_law_texts"]) (sc := defScope s__law_due) (by decide +kernel)) (fun _ _ _ _ _ => (pg_name (i := 7) sc__law_due.nd rfl (.inl rfl))) (fun _ _ _ _ _ => pts_nil) (fun _ _ _ _ _ => (pe_ifExp (pt_cmpR (show OpR _ (compareOp .Eq) (rEqD K) from op_eqD hr.units) (pv 7) (pe_op op_rep (pe_slice (show SlR _ (rSlL K) from sl_list) (pv 7) po_none (po_some pe_int)) (pe_callB (show CallR _ (.builtin "len") (rLenSeq K) from call_len_seq) rfl M.len PySem.boot_len (pa_cons (pv 7) pa_nil))) (nomark _)) (pe_ix (show IxR _ (rIxL K) from ix_list) (pv 7) pe_int (fun _ _ => rfl)) pe_str))) pa_nil)) pa_nil))))))
    (pss_one (ps_ret (pe_callTy call_tuple_of rfl M.tuple (by decide +kernel) (pa_cons (pv 10) pa_nil))))))))), ?_⟩
  have eGa : G.a = a := by rw [← hG]
  have eGb : G.b = b := by rw [← hG]
  have eGc : G.c = c := by rw [← hG]
  have all128 : ∀ y ∈ a ++ b ++ c, y < 128 := fun y hy => by
    have low : ∀ r : List Nat, RowOk r → ∀ y ∈ r, y < 128 := fun r k y hy => by
      rcases k.all y hy with h | h <;> omega
    rcases List.mem_append.mp hy with hy | hy
    · rcases List.mem_append.mp hy with hy | hy
      · exact low a ka y hy
      · exact low b kb y hy
    · exact low c kc y hy
  refine ⟨_, rfl, p, _, _, _, rfl, rfl, SqT.of ep, atI_nat (j := 0) rfl, _, rfl, small (by rw [tx_len]; omega), ?_⟩
  rw [tx_len, la]
  refine ⟨(by show 0 ≤ sizeLine; decide), fun L nL => ?_⟩
  have kL := same_new nL (.lst [])
  have eL := upd_same (H := H) (a := L) (o := .lst [])
  generalize upd H L (.lst []) = H0 at kL eL ⊢
  refine ⟨(by show 2 ≤ sizeLine; decide), fun t nt => ⟨t, _, rfl, SqT.of upd_same, rfl, _, _, rfl, _, _, rfl, rfl, ?_⟩⟩
  have kt := same_new nt (.tup [V.int (n : Int), .ref L])
  have eL1 := kt _ _ eL
  have ep1 := kt _ _ (kL _ _ ep)
  have k01 := kL.trans kt
  generalize upd H0 t (.tup [V.int (n : Int), .ref L]) = H1 at kt eL1 ep1 k01 ⊢
  refine ⟨_, rfl, n, rfl, l5, fun pS us H2 s2 eS hs => ?_⟩
  have eL2 := s2 _ _ eL1
  have ep2 := s2 _ _ ep1
  have k02 := k01.trans s2
  have pL : p ≠ L := fun z => by rw [z, nL] at ep; cases ep
  have off : ∀ {b : Addr} {o : HO}, H b = some o → b ≠ L := fun {b o} e z => by rw [z, nL] at e; cases e
  have lus := hs.len
  refine ⟨pS, rfl, ⟨_, SqL.of eS⟩, ?_⟩
  have pSL : pS ≠ L := fun z => by
    rw [z, eL2] at eS
    have e0 : ([] : List V) = us := by injection (Option.some.inj eS)
    rw [← e0] at lus
    have h : n = 0 ∨ n = 1 ∨ n = 2 ∨ n = 3 ∨ n = 4 ∨ n = 5 := by omega
    rcases h with rfl | rfl | rfl | rfl | rfl | rfl
    · exact absurd lus (by decide +kernel)
    · exact absurd lus (by decide +kernel)
    · exact absurd lus (by decide +kernel)
    · exact absurd lus (by decide +kernel)
    · exact absurd lus (by decide +kernel)
    · exact absurd lus (by decide +kernel)
  refine for_list (K := K) (a := pS) (xs := us) (fun i σ H' => But L H2 H' ∧ (∃ o3 o4 o5 o6 o7 o8 o9 o10 o11 o12 : Option V, σ = [some (.ref p), some (.int (n : Int)), some (.ref L), o3, o4, o5, o6, o7, o8, o9, o10, o11, o12]) ∧ ∃ vs, H' L = some (.lst vs) ∧ SgL L G n H' vs (((shapes n).take i).filter (fitB G)))
    ⟨fun _ _ _ e => e, ⟨_, _, _, _, _, _, _, _, _, _, rfl⟩, [], eL2, .nil⟩ (fun i σ H' _ hp => SqL.of (hp.1 _ _ pSL eS)) (fun i u σ H3 hu hp => ?_) (fun σ H3 hp => ?_)
  · obtain ⟨b3, ⟨o3, o4, o5, o6, o7, o8, o9, o10, o11, o12, rfl⟩, vs, eL3, sg⟩ := hp
    obtain ⟨x, hx, hux⟩ := hs.get hu
    have hux3 := hux.keep (b3.keepT eL2)
    have xm : x ∈ shapes n := List.mem_of_getElem? hx
    have xs := shapes_size _ _ xm
    have nx : ((shapes n).take (i + 1)).filter (fitB G) = ((shapes n).take i).filter (fitB G) ++ if fitB G x = true then [x] else [] := by
      rw [take_next hx, List.filter_append]
      by_cases z : fitB G x = true
      · rw [if_pos z, List.filter_cons_of_pos z]; rfl
      · rw [if_neg z, List.filter_cons_of_neg z]; rfl
    have lsg := sg.len
    have fw := shapes_few (i := n) (by omega)
    have il : i < (shapes n).length := (List.getElem?_eq_some_iff.mp hx).1
    have lvs : vs.length ≤ 42 := by
      rw [lsg]
      refine Nat.le_trans (List.length_filter_le _ _) ?_
      rw [List.length_take]
      omega
    refine ⟨_, rfl, u, x, 0, 0, 0, rfl, hux3, by omega, by omega, fun pp us2 H4 s4 ep4 t4 => ?_⟩
    have eL4 := s4 _ _ eL3
    have lt := t4.len
    have sl := spots_len x 0 0 0
    refine ⟨_, rfl, pp, rfl, ⟨_, SqL.of ep4⟩, fun D nD => ?_⟩
    have kD := same_new nD (.lst [])
    have ep43 := s4 _ _ (b3 _ _ pL ep2)
    refine lc_list (K := K) (a := pp) (xs := us2) (fun j H' => Same H4 H' ∧ H' D = some (.lst ((((spotsOf x 0 0 0).take j).map fun p => lettOf (sigs G p)).map vt))) ⟨kD, upd_same⟩ (fun j H' _ hp => SqL.of (hp.1 _ _ ep4)) (fun j v H5 hv hp => ?_) (fun H5 hp => ?_)
    · obtain ⟨s5, eD⟩ := hp
      obtain ⟨q1, y, rfl, hy, eq1⟩ := t4.get hv
      have ym : y ∈ spotsOf x 0 0 0 := List.mem_of_getElem? hy
      have jl : j < (spotsOf x 0 0 0).length := (List.getElem?_eq_some_iff.mp hy).1
      have r0 := (cok_range 0 x 0 0 0 y ym).2
      have r1 := (cok_range 1 x 0 0 0 y ym).2
      have r2 := (cok_range 2 x 0 0 0 y ym).2
      have r0 : y.1 < 0 + x.size := r0
      have r1 : y.2.1 < 0 + x.size := r1
      have r2 : y.2.2 < 0 + x.size := r2
      refine ⟨rfl, kept ?_⟩
      refine ⟨_, rfl, _, rfl, p, q1, a, b, c, y.1, y.2.1, y.2.2, rfl, s5 _ _ ep43, s5 _ _ eq1, by omega, by omega, by omega, by omega, by omega, by omega, all128, fun H6 s6 => ?_⟩
      refine ⟨_, s6 _ _ eD, small1000 (by rw [List.length_map, List.length_map, List.length_take]; omega), same_put (s5.trans s6) nD _, ?_⟩
      rw [upd_same, take_next hy, List.map_append, List.map_append]
      unfold sigs
      rw [eGa, eGb, eGc]
      rfl
    · obtain ⟨s5, eD⟩ := hp
      rw [lt, List.take_length] at eD
      have eL5 := s5 _ _ eL4
      have ep5 := s5 _ _ ep4
      have t5 := t4.same s5
      have b5 : But L H2 H5 := b3.trans (But.of (s4.trans s5))
      have sg5 := sg.but (But.of (s4.trans s5))
      generalize hls : ((spotsOf x 0 0 0).map fun p => lettOf (sigs G p)) = ls at eD
      have fl : (ls.map vt).all flatV = true := by
        rw [List.all_map, List.all_eq_true]
        exact fun _ _ => rfl
      refine ⟨_, rfl, D, ls.map vt, rfl, .inl (SqL.of eD), rfl, fl, ?_⟩
      rw [str_0]
      have ein : inV (V.str (tx [])) (ls.map vt) = decide ([] ∈ ls) := inV_vt [] ls
      rw [ein]
      have efB : fitB G x = decide (¬ [] ∈ ls) := by unfold fitB; rw [hls]
      refine ⟨_, rfl, ?_⟩
      by_cases z : [] ∈ ls
      · rw [decide_eq_true z]
        refine iteF ?_
        refine ⟨b5, ⟨_, _, _, _, _, _, _, _, _, _, rfl⟩, vs, eL5, ?_⟩
        rw [nx, efB, decide_eq_false (fun y => y z), if_neg Bool.false_ne_true, List.append_nil]
        exact sg5
      rw [decide_eq_false z]
      have lettS : ∀ y ∈ spotsOf x 0 0 0, lettOf (sigs G y) = [sgC (sigs G y)] := fun y hy => by
        refine lett_sg fun e => z ?_
        rw [← hls]
        exact List.mem_map.mpr ⟨y, hy, (comm_nil _).mp e⟩
      refine iteT ?_
      have l1 : ([V.str (Str.ofString "?")] : List V).length * (((n : Nat) : Int)).toNat ≤ sizeLine := by
        rw [Int.toNat_natCast]
        show 1 * n ≤ 16777216
        omega
      refine ⟨(by show 1 ≤ sizeLine; decide), fun q1 nq1 => ?_⟩
      have kq1 := same_new nq1 (.lst [V.str (Str.ofString "?")])
      have eq1 := upd_same (H := H5) (a := q1) (o := .lst [V.str (Str.ofString "?")])
      generalize upd H5 q1 (.lst [V.str (Str.ofString "?")]) = H6 at kq1 eq1 ⊢
      refine ⟨_, rfl, q1, _, _, rfl, rfl, eq1, by omega, by omega, l1, fun A nA => ?_⟩
      rw [rep_q]
      have kA := same_new nA (.lst ((List.replicate n 63).map vc))
      have eA := upd_same (H := H6) (a := A) (o := .lst ((List.replicate n 63).map vc))
      have s7 := kq1.trans kA
      generalize upd H6 A (.lst ((List.replicate n 63).map vc)) = H7 at kA eA s7 ⊢
      refine ⟨(by show 1 ≤ sizeLine; decide), fun q2 nq2 => ?_⟩
      have kq2 := same_new nq2 (.lst [V.str (Str.ofString "?")])
      have eq2 := upd_same (H := H7) (a := q2) (o := .lst [V.str (Str.ofString "?")])
      generalize upd H7 q2 (.lst [V.str (Str.ofString "?")]) = H8 at kq2 eq2 ⊢
      refine ⟨_, rfl, q2, _, _, rfl, rfl, eq2, by omega, by omega, l1, fun B nB => ?_⟩
      rw [rep_q]
      have kB := same_new nB (.lst ((List.replicate n 63).map vc))
      have eB := upd_same (H := H8) (a := B) (o := .lst ((List.replicate n 63).map vc))
      have s9 := kq2.trans kB
      have eAB := s9 _ _ eA
      have nAB : A ≠ B := ne_of_none (kq2 _ _ eA) nB
      generalize upd H8 B (.lst ((List.replicate n 63).map vc)) = H9 at kB eB s9 eAB ⊢
      refine ⟨(by show 1 ≤ sizeLine; decide), fun q3 nq3 => ?_⟩
      have kq3 := same_new nq3 (.lst [V.str (Str.ofString "?")])
      have eq3 := upd_same (H := H9) (a := q3) (o := .lst [V.str (Str.ofString "?")])
      generalize upd H9 q3 (.lst [V.str (Str.ofString "?")]) = H10 at kq3 eq3 ⊢
      refine ⟨_, rfl, q3, _, _, rfl, rfl, eq3, by omega, by omega, l1, fun C nC => ?_⟩
      rw [rep_q]
      have kC := same_new nC (.lst ((List.replicate n 63).map vc))
      have eC := upd_same (H := H10) (a := C) (o := .lst ((List.replicate n 63).map vc))
      have s11 := kq3.trans kC
      have eAC := s11 _ _ eAB
      have eBC := s11 _ _ eB
      have nAC : A ≠ C := ne_of_none (kq3 _ _ eAB) nC
      have nBC : B ≠ C := ne_of_none (kq3 _ _ eB) nC
      generalize upd H10 C (.lst ((List.replicate n 63).map vc)) = H11 at kC eC s11 eAC eBC ⊢
      refine ⟨(by show 3 ≤ sizeLine; decide), fun PP nP => ?_⟩
      have kP := same_new nP (.lst [V.ref A, .ref B, .ref C])
      have eP := upd_same (H := H11) (a := PP) (o := .lst [V.ref A, .ref B, .ref C])
      have nPA : A ≠ PP := ne_of_none eAC nP
      have nPB : B ≠ PP := ne_of_none eBC nP
      have nPC : C ≠ PP := ne_of_none eC nP
      have nLP : L ≠ PP := ne_of_none (((s7.trans s9).trans s11) _ _ eL5) nP
      have eA12 := kP _ _ eAC
      have eB12 := kP _ _ eBC
      have eC12 := kP _ _ eC
      have s12 := ((s7.trans s9).trans s11).trans kP
      generalize upd H11 PP (.lst [V.ref A, .ref B, .ref C]) = H12 at kP eP eA12 eB12 eC12 s12 ⊢
      have eD12 := s12 _ _ eD
      have ep12 := s12 _ _ ep5
      have eL12 := s12 _ _ eL5
      have t12 := t5.same s12
      -- the three rows by their number
      obtain ⟨adr, hadr⟩ : ∃ adr : Nat → Addr, adr 0 = A ∧ adr 1 = B ∧ adr 2 = C := ⟨fun k => match k with | 0 => A | 1 => B | _ => C, rfl, rfl, rfl⟩
      obtain ⟨a0, a1, a2⟩ := hadr
      have inj : ∀ i j, i < 3 → j < 3 → adr i = adr j → i = j := fun i j hi hj e => by
        have hi : i = 0 ∨ i = 1 ∨ i = 2 := by omega
        have hj : j = 0 ∨ j = 1 ∨ j = 2 := by omega
        rcases hi with rfl | rfl | rfl <;> rcases hj with rfl | rfl | rfl <;> first | rfl | (rw [a0, a1] at e; exact absurd e nAB) | (rw [a0, a2] at e; exact absurd e nAC) | (rw [a1, a2] at e; exact absurd e nBC) | (rw [a1, a0] at e; exact absurd e.symm nAB) | (rw [a2, a0] at e; exact absurd e.symm nAC) | (rw [a2, a1] at e; exact absurd e.symm nBC)
      have ne5 : ∀ {b : Addr} {o : HO}, H5 b = some o → ∀ k, k < 3 → b ≠ adr k := fun {b o} e k hk => by
        have hk : k = 0 ∨ k = 1 ∨ k = 2 := by omega
        rcases hk with rfl | rfl | rfl
        · rw [a0]; exact ne_of_none (kq1 _ _ e) nA
        · rw [a1]; exact ne_of_none (kq2 _ _ (s7 _ _ e)) nB
        · rw [a2]; exact ne_of_none (kq3 _ _ (s9 _ _ (s7 _ _ e))) nC
      have neP : ∀ k, k < 3 → PP ≠ adr k := fun k hk => by
        have hk : k = 0 ∨ k = 1 ∨ k = 2 := by omega
        rcases hk with rfl | rfl | rfl
        · rw [a0]; exact nPA.symm
        · rw [a1]; exact nPB.symm
        · rw [a2]; exact nPC.symm
      have e12 : ∀ k, k < 3 → H12 (adr k) = some (.lst ((List.replicate n 63).map vc)) := fun k hk => by
        have hk : k = 0 ∨ k = 1 ∨ k = 2 := by omega
        rcases hk with rfl | rfl | rfl
        · rw [a0]; exact eA12
        · rw [a1]; exact eB12
        · rw [a2]; exact eC12
      have eP : H12 PP = some (.lst [V.ref (adr 0), .ref (adr 1), .ref (adr 2)]) := by rw [a0, a1, a2]; exact eP
      have lls : us2.length = (ls.map vt).length := by rw [lt, ← hls, List.length_map, List.length_map]
      have cr : ∀ y ∈ spotsOf x 0 0 0, ∀ k, k < 3 → cok k y < n := fun y hy k hk => by
        have := (cok_range k x 0 0 0 y hy).2
        have e0 : stK k 0 0 0 = 0 := by
          have hk : k = 0 ∨ k = 1 ∨ k = 2 := by omega
          rcases hk with rfl | rfl | rfl <;> rfl
        rw [e0] at this
        omega
      refine ⟨_, rfl, _, rfl, pp, D, us2, ls.map vt, rfl, .inl ⟨SqL.of (s12 _ _ ep5), SqL.of eD12, ?_⟩⟩
      refine RZ.for_zipL (K := K) (a := pp) (b := D) (xs := us2) (ys := ls.map vt) lls (fun j σ H' => (∀ b o, (∀ k, k < 3 → b ≠ adr k) → H12 b = some o → H' b = some o) ∧ (∀ k, k < 3 → H' (adr k) = some (.lst ((setsL G k ((spotsOf x 0 0 0).take j) (List.replicate n 63)).map vc))) ∧ ∃ o5 o8 o9 : Option V, σ = [some (.ref p), some (.int (n : Int)), some (.ref L), some u, some (.ref pp), o5, some (.ref D), some (.ref PP), o8, o9, o10, o11, o12])
        ⟨fun _ _ _ e => e, fun k hk => by rw [List.take_zero]; exact e12 k hk, _, _, _, rfl⟩ (fun j σ H' hp => ⟨SqL.of (hp.1 _ _ (ne5 ep5) (s12 _ _ ep5)), SqL.of (hp.1 _ _ (ne5 eD) eD12)⟩) (fun j v y T σ H13 hv hy hp nT => ?_) (fun σ H13 hp => ?_)
      · obtain ⟨rr, rw3, o5', o8', o9', rfl⟩ := hp
        obtain ⟨qv, yy, rfl, hyy, eqv⟩ := t12.get hv
        have ym : yy ∈ spotsOf x 0 0 0 := List.mem_of_getElem? hyy
        have ey : y = vc (sgC (sigs G yy)) := by
          have h1 : ls[j]? = some (lettOf (sigs G yy)) := by rw [← hls, List.getElem?_map, hyy]; rfl
          rw [List.getElem?_map, h1] at hy
          cases hy
          rw [lettS yy ym]
          rfl
        subst ey
        have kT := same_new nT (.tup [V.ref qv, vc (sgC (sigs G yy))])
        have eT := upd_same (H := H13) (a := T) (o := .tup [V.ref qv, vc (sgC (sigs G yy))])
        have eqv5 : H5 qv = some (.tup [.int (yy.1 : Int), .int (yy.2.1 : Int), .int (yy.2.2 : Int)]) := by
          obtain ⟨q', y', e1, e2, e3⟩ := t5.get hv
          cases e1
          rw [hyy] at e2
          cases e2
          exact e3
        have rr4 : ∀ b o, (∀ k, k < 3 → b ≠ adr k) → H12 b = some o → upd H13 T (.tup [V.ref qv, vc (sgC (sigs G yy))]) b = some o := fun b o h1 h2 => kT _ _ (rr b o h1 h2)
        have rw4 := fun k hk => kT _ _ (rw3 k hk)
        generalize upd H13 T (.tup [V.ref qv, vc (sgC (sigs G yy))]) = H14 at kT eT rr4 rw4 ⊢
        refine ⟨T, _, rfl, SqT.of eT, rfl, _, _, rfl, _, _, rfl, rfl, ?_⟩
        refine ⟨3, rfl, by decide, by decide, ?_⟩
        refine for_range (lo := 0) (n := 3) (fun m σ H' => (∀ b o, (∀ k, k < 3 → b ≠ adr k) → H12 b = some o → H' b = some o) ∧ (∀ k, k < 3 → H' (adr k) = some (.lst ((setsL G k ((spotsOf x 0 0 0).take (if k < m then j + 1 else j)) (List.replicate n 63)).map vc))) ∧ ∃ o9 : Option V, σ = [some (.ref p), some (.int (n : Int)), some (.ref L), some u, some (.ref pp), some (.ref qv), some (.ref D), some (.ref PP), some (vc (sgC (sigs G yy))), o9, o10, o11, o12])
          ⟨rr4, fun k hk => by rw [if_neg (Nat.not_lt_zero k)]; exact rw4 k hk, _, rfl⟩ (fun m σ H15 hm hp => ?_) (fun σ H15 hp => ?_)
        · obtain ⟨rr5, rw5, o9'', rfl⟩ := hp
          have eP15 := rr5 _ _ neP eP
          have eq15 := rr5 _ _ (ne5 eqv5) eqv
          have eR := rw5 m hm
          rw [if_neg (Nat.lt_irrefl m)] at eR
          have at1 : atI [V.ref (adr 0), .ref (adr 1), .ref (adr 2)] (0 + (m : Int)) = some (.ref (adr m)) := by
            have hm : m = 0 ∨ m = 1 ∨ m = 2 := by omega
            rcases hm with rfl | rfl | rfl <;> rfl
          have at2 : atI [V.int (yy.1 : Int), .int (yy.2.1 : Int), .int (yy.2.2 : Int)] (0 + (m : Int)) = some (.int (cok m yy : Int)) := by
            have hm : m = 0 ∨ m = 1 ∨ m = 2 := by omega
            rcases hm with rfl | rfl | rfl <;> rfl
          have cm := cr yy ym m hm
          refine ⟨_, rfl, _, rfl, _, rfl, PP, _, _, _, rfl, rfl, SqL.of eP15, at1, _, rfl, _, rfl, qv, _, _, _, rfl, rfl, SqT.of eq15, at2, adr m, _, _, cok m yy, rfl, rfl, eR, ixN_c (by rw [List.length_map, setsL_len, List.length_replicate]; exact cm), ?_⟩
          refine ⟨fun b o h1 h2 => by rw [upd_ne (h1 m hm)]; exact rr5 b o h1 h2, fun k hk => ?_, _, rfl⟩
          by_cases e : k = m
          · subst e
            rw [upd_same, if_pos (Nat.lt_succ_self k), take_next hyy, setsL_snoc, List.map_set]
          · rw [upd_ne (fun z => e (inj _ _ hk hm z)), rw5 k hk]
            by_cases z : k < m
            · rw [if_pos z, if_pos (by omega)]
            · rw [if_neg z, if_neg (by omega)]
        · obtain ⟨rr5, rw5, o9'', rfl⟩ := hp
          exact ⟨rr5, fun k hk => by have := rw5 k hk; rw [if_pos hk] at this; exact this, _, _, _, rfl⟩
      · obtain ⟨rr, rw3, o5', o8', o9', rfl⟩ := hp
        rw [lt, List.take_length] at rw3
        have eL13 := rr _ _ (ne5 eL5) eL12
        have b13 : But L H2 H13 := fun b o nb e => rr _ _ (ne5 (b5 b o nb e)) (s12 _ _ (b5 b o nb e))
        have nL3 : ∀ k, k < 3 → adr k ≠ L := fun k hk z => ne5 eL5 k hk z.symm
        have nPL : PP ≠ L := nLP.symm
        refine ⟨_, rfl, (.inl ⟨rfl, _, SqL.of eL13⟩), _, rfl, L, _, _, rfl, rfl, eL13, small1000 (by omega), ?_⟩
        have bu : But L H13 (upd H13 L (.lst (vs ++ [V.ref PP]))) := But.upd _ _
        refine ⟨b13.trans bu, ⟨_, _, _, _, _, _, _, _, _, _, rfl⟩, vs ++ [.ref PP], upd_same, ?_⟩
        rw [nx, efB, decide_eq_true z, if_pos rfl]
        have sg13 : SgL L G n H13 vs (((shapes n).take i).filter (fitB G)) := by
          have : ∀ {us' ws'}, SgL L G n H5 us' ws' → SgL L G n H13 us' ws' := fun {us' ws'} h => by
            induction h with
            | nil => exact .nil
            | cons n1 n2 n3 n4 e1 e2 e3 e4 _ ih => exact .cons n1 n2 n3 n4 (rr _ _ (ne5 e1) (s12 _ _ e1)) (rr _ _ (ne5 e2) (s12 _ _ e2)) (rr _ _ (ne5 e3) (s12 _ _ e3)) (rr _ _ (ne5 e4) (s12 _ _ e4)) ih
          exact this sg5
        refine (sg13.app (.cons nPL (nL3 0 (by decide)) (nL3 1 (by decide)) (nL3 2 (by decide)) (rr _ _ neP eP) ?_ ?_ ?_ .nil)).but bu
        · exact rw3 0 (by decide)
        · exact rw3 1 (by decide)
        · exact rw3 2 (by decide)
  · obtain ⟨b3, ⟨o3, o4, o5, o6, o7, o8, o9, o10, o11, o12, rfl⟩, vs, eL3, sg⟩ := hp
    rw [lus, List.take_length] at sg
    have sg : SgL L G n H3 vs (fitL G n) := sg
    have lsg := sg.len
    have lf : (fitL G n).length ≤ 42 := Nat.le_trans (List.length_filter_le _ _) (shapes_few (i := n) (by omega))
    have kH : Same H H3 := fun b o e => b3 b o (off e) (k02 _ _ e)
    refine ⟨_, rfl, (by show 0 ≤ sizeLine; decide), fun z nz => ?_⟩
    have kz := same_new nz (.lst [])
    have eLz := kz _ _ eL3
    refine ⟨L, z, vs, rfl, rfl, SqL.of eLz, SqL.of upd_same, _, rfl, ?_⟩
    have sg4 := sg.but (But.of kz)
    have kH4 := kH.trans kz
    generalize upd H3 z (.lst []) = H4 at kz eLz sg4 kH4 ⊢
    by_cases fe : fitL G n = []
    · have ve : vs = [] := by rw [fe] at lsg; exact List.length_eq_zero_iff.mp lsg
      rw [ve]
      refine iteT (q .non H4 kH4 ?_)
      rw [if_pos fe]
    have ve : vs.isEmpty = false := by
      cases vs with
      | nil => exact absurd (List.length_eq_zero_iff.mp lsg.symm) fe
      | cons _ _ => rfl
    rw [ve]
    refine iteF ⟨(by show 0 ≤ sizeLine; decide), fun FF nF => ?_⟩
    have kF := same_new nF (.lst [])
    have eF := upd_same (H := H4) (a := FF) (o := .lst [])
    have back : ∀ {H'}, But FF (upd H4 FF (.lst [])) H' → Same H4 H' := fun {H'} b a o e => b a o (fun z => by rw [z, nF] at e; cases e) (kF _ _ e)
    have nLF : L ≠ FF := ne_of_none eLz nF
    have eL5 := kF _ _ eLz
    generalize upd H4 FF (.lst []) = H5 at kF eF back eL5 ⊢
    refine ⟨3, rfl, by decide, by decide, ?_⟩
    refine for_range (lo := 0) (n := 3) (fun k σ H' => But FF H5 H' ∧ (∃ o3 o4 o5 o6 o7 o8 o9 o11 o12 : Option V, σ = [some (.ref p), some (.int (n : Int)), some (.ref L), o3, o4, o5, o6, o7, o8, o9, some (.ref FF), o11, o12]) ∧ H' FF = some (.lst ((List.range k).map fun k => vt (dueRow G n k)))) ⟨fun _ _ _ e => e, ⟨_, _, _, _, _, _, _, _, _, rfl⟩, eF⟩ (fun k σ H6 hk hp => ?_) (fun σ H6 hp => ?_)
    · obtain ⟨b6, ⟨o3, o4, o5, o6, o7, o8, o9, o11, o12, rfl⟩, eF6⟩ := hp
      have s6 := back b6
      have sg6 := sg4.but (But.of s6)
      have eL6 := s6 _ _ eLz
      have e0 : (0 : Int) + (k : Int) = ((k : Nat) : Int) := by omega
      refine ⟨_, rfl, n, rfl, by omega, by omega, fun TX nTX => ?_⟩
      have kTX := same_new nTX (.lst [])
      have eTX := upd_same (H := H6) (a := TX) (o := .lst [])
      refine lc_range (lo := 0) (n := n) (fun m H' => Same H6 H' ∧ ∃ ts, H' TX = some (.lst ts) ∧ LvAt TX H' ts ((List.range m).map fun q => (fitL G n).map fun w => (sgRow G n k w).getD q 63)) ⟨kTX, [], eTX, .nil⟩ (fun m H7 hm hp => ?_) (fun H7 hp => ?_)
      · obtain ⟨s7, ts, eT7, lv⟩ := hp
        have e1 : (0 : Int) + (m : Int) = ((m : Nat) : Int) := by omega
        have eL7 := s7 _ _ eL6
        have sg7 := sg6.but (But.of s7)
        refine ⟨rfl, kept ⟨_, rfl, L, rfl, ⟨_, SqL.of eL7⟩, fun D2 nD2 => ?_⟩⟩
        have nD2T : D2 ≠ TX := (ne_of_none eT7 nD2).symm
        refine lc_list (K := K) (a := L) (xs := vs) (fun j H' => Same H7 H' ∧ H' D2 = some (.lst ((((fitL G n).take j).map fun w => (sgRow G n k w).getD m 63).map vc))) ⟨same_new nD2 _, upd_same⟩ (fun j H' _ hp => SqL.of (hp.1 _ _ eL7)) (fun j v H8 hv hp => ?_) (fun H8 hp => ?_)
        · obtain ⟨s8, eD8⟩ := hp
          obtain ⟨w0, Pw, rs, rfl, hw, ePw, rows⟩ := sg7.row hv
          obtain ⟨A, hA, eA⟩ := rows k hk
          refine ⟨rfl, kept ⟨_, rfl, _, rfl, Pw, _, _, _, rfl, rfl, SqL.of (s8 _ _ ePw), (by rw [e0]; exact atI_nat hA), _, rfl, A, _, _, _, rfl, rfl, SqL.of (s8 _ _ eA), (by rw [e1]; exact at_vc (by rw [sgRow_len]; exact hm)), ?_⟩⟩
          refine ⟨_, eD8, small1000 (by rw [List.length_map, List.length_map, List.length_take]; omega), same_put s8 nD2 _, ?_⟩
          rw [upd_same, take_next hw, List.map_append, List.map_append]
          rfl
        · obtain ⟨s8, eD8⟩ := hp
          rw [lsg, List.take_length] at eD8
          have lts := lv.len
          rw [List.length_map, List.length_range] at lts
          refine ⟨_, s8 _ _ eT7, small1000 (by omega), same_put (s7.trans s8) nTX _, ts ++ [.ref D2], upd_same, ?_⟩
          rw [List.range_succ, List.map_append]
          refine LvAt.but ((lv.but (But.of s8)).app (.cons nD2T eD8 .nil)) (But.upd _ _)
      · obtain ⟨s7, ts, eT7, lv⟩ := hp
        have lts := lv.len
        rw [List.length_map, List.length_range] at lts
        refine ⟨_, rfl, (.inl ⟨rfl, _, SqL.of (s7 _ _ eF6)⟩), rfl, _, rfl, TX, rfl, ⟨_, SqL.of eT7⟩, fun D3 nD3 => ?_⟩
        have kD3 := same_new nD3 (.lst [])
        refine lc_list (K := K) (a := TX) (xs := ts) (fun j H' => Same H7 H' ∧ H' D3 = some (.lst (((dueRow G n k).take j).map vc))) ⟨kD3, upd_same⟩ (fun j H' _ hp => SqL.of (hp.1 _ _ eT7)) (fun j v H8 hv hp => ?_) (fun H8 hp => ?_)
        · obtain ⟨s8, eD8⟩ := hp
          obtain ⟨ql, l, rfl, hl, eql⟩ := lv.get hv
          have jn : j < n := by
            have := (List.getElem?_eq_some_iff.mp hv).1
            omega
          have el : l = (fitL G n).map fun w => (sgRow G n k w).getD j 63 := by
            rw [List.getElem?_map, List.getElem?_range jn] at hl
            exact (Option.some.inj hl).symm
          have hd : (dueRow G n k)[j]? = some (sureOf l) := by
            unfold dueRow
            rw [List.getElem?_map, List.getElem?_range jn, el]
            rfl
          obtain ⟨a0, r0, elc⟩ : ∃ a0 r0, l = a0 :: r0 := by
            cases hz : l with
            | nil => rw [hz] at el; exact absurd (List.map_eq_nil_iff.mp el.symm) fe
            | cons a0 r0 => exact ⟨a0, r0, rfl⟩
          have ll : l.length ≤ 42 := by rw [el, List.length_map]; exact lf
          have eq8 := s8 _ _ eql
          refine ⟨rfl, kept ?_⟩
          have lowl : ∀ y ∈ l, y < 128 := fun y hy => by
            rw [el] at hy
            obtain ⟨w0, _, rfl⟩ := List.mem_map.mp hy
            have la' : Low G.a := fun y hy => all128 y (by rw [eGa] at hy; exact List.mem_append_left _ (List.mem_append_left _ hy))
            have lb' : Low G.b := fun y hy => all128 y (by rw [eGb] at hy; exact List.mem_append_left _ (List.mem_append_right _ hy))
            have lc' : Low G.c := fun y hy => all128 y (by rw [eGc] at hy; exact List.mem_append_right _ hy)
            exact Low.getD (setsL_low k (fun p => sgC_low fun z hz => by
              rcases List.mem_cons.mp hz with rfl | hz
              · exact la'.getD _
              rcases List.mem_cons.mp hz with rfl | hz
              · exact lb'.getD _
              · rw [List.mem_singleton.mp hz]; exact lc'.getD _) _ _ fun x hx => by rw [List.eq_of_mem_replicate hx]; decide) j
          have ln : (l.map vc).length = l.length := List.length_map ..
          refine ⟨_, rfl, _, rfl, _, rfl, ql, l.map vc, rfl, SqL.of eq8, fun q1 nq1 => ?_⟩
          have kq1 := same_new nq1 (.lst (cutV (l.map vc) none (some 1)))
          have ec : cutV (l.map vc) none (some 1) = [vc a0] := by
            rw [show (1 : Int) = ((1 : Nat) : Int) from rfl, cut_to, elc]
            rfl
          rw [ec] at kq1 ⊢
          have eq1 := upd_same (H := H8) (a := q1) (o := .lst [vc a0])
          have eq9 := kq1 _ _ eq8
          have eD9 := kq1 _ _ eD8
          generalize upd H8 q1 (.lst [vc a0]) = H9 at kq1 eq1 eq9 eD9 ⊢
          refine ⟨_, rfl, ql, l.map vc, rfl, .inl (SqL.of eq9), q1, _, _, rfl, rfl, eq1, by rw [ln]; omega, by rw [ln]; omega, ?_, fun t2 nt2 => ?_⟩
          · show ([vc a0] : List V).length * (((l.map vc).length : Int)).toNat ≤ sizeLine
            rw [ln, Int.toNat_natCast]
            show 1 * l.length ≤ 16777216
            omega
          have er : (List.replicate (((l.map vc).length : Int)).toNat [vc a0]).flatten = (List.replicate l.length a0).map vc := by
            rw [ln, Int.toNat_natCast, List.map_replicate]
            exact List.flatten_replicate_singleton
          rw [er]
          have kt2 := same_new nt2 (.lst ((List.replicate l.length a0).map vc))
          have et2 := upd_same (H := H9) (a := t2) (o := .lst ((List.replicate l.length a0).map vc))
          have eq10 := kt2 _ _ eq9
          have eD10 := kt2 _ _ eD9
          have s10 := s8.trans (kq1.trans kt2)
          generalize upd H9 t2 (.lst ((List.replicate l.length a0).map vc)) = H10 at kt2 et2 eq10 eD10 s10 ⊢
          have la0 : a0 < 128 := lowl a0 (by rw [elc]; exact List.mem_cons_self)
          refine ⟨_, _, .lst (SqL.of eq10) (dp_chs l), .lst (SqL.of et2) (dp_chs (List.replicate l.length a0)), shaped_chs _ lowl, shaped_chs _ (fun y hy => by rw [List.eq_of_mem_replicate hy]; exact la0), _, rfl, ?_⟩
          rw [eqv_chs]
          have fin : ∀ v, v = vc (sureOf l) → ∃ acc, H10 D3 = some (.lst acc) ∧ acc.length < sizeLine ∧ Same H7 (upd H10 D3 (.lst (acc ++ [v]))) ∧ upd H10 D3 (.lst (acc ++ [v])) D3 = some (.lst (((dueRow G n k).take (j + 1)).map vc)) := fun v e => by
            subst e
            refine ⟨_, eD10, small1000 ?_, same_put s10 nD3 _, ?_⟩
            · rw [List.length_map, List.length_take]; omega
            · rw [upd_same, take_next hd, List.map_append]; rfl
          have key : l = List.replicate l.length a0 ↔ ∀ y ∈ r0, y = a0 := by
            rw [List.eq_replicate_iff, elc]
            constructor
            · exact fun h y hy => h.2 y (List.mem_cons_of_mem _ hy)
            · refine fun h => ⟨rfl, fun y hy => ?_⟩
              rcases List.mem_cons.mp hy with e | hy
              · exact e
              · exact h y hy
          by_cases h : l = List.replicate l.length a0
          · rw [decide_eq_true h]
            refine iteT ⟨_, rfl, ql, _, _, _, rfl, rfl, SqL.of eq10, (by rw [elc]; exact atI_nat (j := 0) rfl), fin _ ?_⟩
            rw [elc]
            show vc a0 = vc (if ∀ y ∈ r0, y = a0 then a0 else 63)
            rw [if_pos (key.mp h)]
          · rw [decide_eq_false h]
            refine iteF (fin _ ?_)
            rw [elc, str_q]
            show vc 63 = vc (if ∀ y ∈ r0, y = a0 then a0 else 63)
            rw [if_neg (fun z => h (key.mpr z))]
        · obtain ⟨s8, eD8⟩ := hp
          have dl : (dueRow G n k).length = n := by unfold dueRow; rw [List.length_map, List.length_range]
          rw [List.take_of_length_le (by omega)] at eD8
          have eD8b : H8 D3 = some (.lst (((dueRow G n k).map ch).map V.str)) := by
            rw [eD8, List.map_map]
            rfl
          refine ⟨_, D3, (dueRow G n k).map ch, rfl, rfl, .inl (SqL.of eD8b), tx_joinOk _ (by rw [dl]; omega), ?_⟩
          rw [tx_join]
          have s68 := s7.trans s8
          refine ⟨FF, _, _, rfl, rfl, s68 _ _ eF6, small1000 (by rw [List.length_map, List.length_range]; omega), ?_⟩
          refine ⟨b6.trans ((But.of s68).trans (But.upd _ _)), ⟨_, _, _, _, _, _, _, _, _, rfl⟩, ?_⟩
          rw [upd_same, List.range_succ, List.map_append]
          rfl
    · obtain ⟨b6, ⟨o3, o4, o5, o6, o7, o8, o9, o11, o12, rfl⟩, eF6⟩ := hp
      have eF6 : H6 FF = some (.lst [vt (dueRow G n 0), vt (dueRow G n 1), vt (dueRow G n 2)]) := eF6
      refine ⟨_, rfl, FF, _, rfl, .inl ⟨SqL.of eF6, fun l nl => ?_⟩⟩
      have s6 := back b6
      refine q _ _ (kH4.trans (s6.trans (same_new nl _))) ?_
      rw [if_neg fe]
      exact ⟨l, rfl, upd_same⟩
end
/-! ### law -/
def dueD (G : G3) (n : Nat) : PyData := if fitL G n = [] then .none else .tuple [.str (tx (dueRow G n 0)), .str (tx (dueRow G n 1)), .str (tx (dueRow G n 2))]
theorem dp_due {K : PySem.W.Frag} {H : Hp} {v : V} {G : G3} {n : Nat} (h : if fitL G n = [] then v = .non else ∃ q, v = .ref q ∧ H q = some (.tup (dueTup G n))) : Dp K H v (dueD G n) := by
  unfold dueD
  by_cases z : fitL G n = []
  · rw [if_pos z] at h ⊢
    rw [h]
    exact .non
  · rw [if_neg z] at h ⊢
    obtain ⟨q, rfl, e⟩ := h
    exact .tup (SqT.of e) (.cons (.str _) (.cons (.str _) (.cons (.str _) .nil)))
theorem dueD_ok {G : G3} {n : Nat} (ha : Low G.a) (hb : Low G.b) (hc : Low G.c) (l5 : n ≤ 5) : (dueD G n).depth < 20 ∧ nar (dueD G n) = true ∧ okR (dueD G n) = true := by
  have one : ∀ k, okR (.str (tx (dueRow G n k))) = true := fun k => by
    simp only [okR, Bool.and_eq_true, decide_eq_true_eq, List.all_eq_true]
    refine ⟨?_, fun z hz => ?_⟩
    · rw [tx_len]; unfold dueRow; rw [List.length_map, List.length_range]; omega
    · have := dueRow_low ha hb hc n k z (by simpa [tx] using hz)
      omega
  unfold dueD
  by_cases z : fitL G n = []
  · rw [if_pos z]
    exact ⟨by decide, by decide, by simp [okR]⟩
  · rw [if_neg z]
    refine ⟨by simp [PyData.depth, PyData.depthAll], by simp [nar, narAll], ?_⟩
    simp only [okR, okRs]
    have h0 := one 0
    have h1 := one 1
    have h2 := one 2
    simp only [okR] at h0 h1 h2
    rw [h0, h1, h2]
    rfl
theorem DeckOk.ext {H H' : Hp} {D : Deck} {n : Nat} (d : DeckOk H D n) (h : LamX.ExtN H H') : DeckOk H' D n := by
  obtain ⟨c, r, h1, h2, h3, h4⟩ := d.ex
  exact ⟨⟨c, r, h _ _ h1 (fun ps z => by cases z), h _ _ h2 (fun ps z => by cases z), h _ _ h3 (fun ps z => by cases z), h4⟩, d.dc, d.dr, d.cr⟩
theorem tabsD {T : List (Addr × Str)} {D : Deck} {H H' : Hp} {n : Nat} (d : DeckOk H D n) (s : SameD D H H') (h : LamX.Tabs T H) : LamX.Tabs T H' := fun p hp => by
  obtain ⟨⟨x1, l1⟩, ⟨x2, l2⟩⟩ := d.lists
  obtain ⟨ps, h1, h2, h3⟩ := h p hp
  refine ⟨ps, s _ _ (fun z => by rw [z, l1] at h1; cases h1) (fun z => by rw [z, l2] at h1; cases h1) h1, h2, fun pos cv hc => ?_⟩
  obtain ⟨c, e1, e2⟩ := h3 pos cv hc
  refine ⟨c, e1, s _ _ (fun z => ?_) (fun z => ?_) e2⟩
  · rw [z, l1] at e2; unfold LamX.CodeO at e2; cases e2
  · rw [z, l2] at e2; unfold LamX.CodeO at e2; cases e2
abbrev DueIs (G : G3) (n : Nat) (v : V) (H : Hp) : Prop := if fitL G n = [] then v = .non else ∃ q, v = .ref q ∧ H q = some (.tup (dueTup G n))
theorem DueIs.ext {G : G3} {n : Nat} {v : V} {H H' : Hp} (h : DueIs G n v H) (e : LamX.ExtN H H') : DueIs G n v H' := by
  unfold DueIs at h ⊢
  by_cases z : fitL G n = []
  · rw [if_pos z] at h ⊢; exact h
  · rw [if_neg z] at h ⊢
    obtain ⟨q, e1, e2⟩ := h
    exact ⟨q, e1, e _ _ e2 fun ps z => by cases z⟩
theorem named1 (k : Kd) {r : List Nat} {n : Nat} (kr : RowOk r) (lr : r.length = n) : Named [k] [vt r] [(k, r)] n :=
  ⟨rfl, rfl, by simp, (by show [k].Nodup; simp), (by show 1 ≤ 3; decide), fun p hp => by rw [List.mem_singleton.mp hp]; exact ⟨kr, lr⟩⟩
theorem named2 (k l : Kd) (ne : k ≠ l) {r q : List Nat} {n : Nat} (kr : RowOk r) (kq : RowOk q) (lr : r.length = n) (lq : q.length = n) : Named [k, l] [vt r, vt q] [(k, r), (l, q)] n :=
  ⟨rfl, rfl, by simp, (by show [k, l].Nodup; simpa using ne), (by show 2 ≤ 3; decide), fun p hp => by
    rcases List.mem_cons.mp hp with rfl | hp
    · exact ⟨kr, lr⟩
    · rw [List.mem_singleton.mp hp]; exact ⟨kq, lq⟩⟩
theorem named3 (k l m : Kd) (ne : [k, l, m].Nodup) {r q z : List Nat} {n : Nat} (kr : RowOk r) (kq : RowOk q) (kz : RowOk z) (lr : r.length = n) (lq : q.length = n) (lz : z.length = n) : Named [k, l, m] [vt r, vt q, vt z] [(k, r), (l, q), (m, z)] n :=
  ⟨rfl, rfl, by simp, ne, (by show 3 ≤ 3; decide), fun p hp => by
    rcases List.mem_cons.mp hp with rfl | hp
    · exact ⟨kr, lr⟩
    rcases List.mem_cons.mp hp with rfl | hp
    · exact ⟨kq, lq⟩
    · rw [List.mem_singleton.mp hp]; exact ⟨kz, lz⟩⟩
structure DfKsX (P : Program) (w : World) (K : PySem.W.Frag) (mg : Str → Option Value) (base : Heap) (k : Nat) (nm : Str) (n : Nat) (all : List (List Kd)) (sp : List Kd → List V → List V → Hp → VK → XK → Prop) where
  f : Addr
  ok : ∀ ks : List Kd, ks ∈ all → FnKwX (L2.CX P w) P w K mg base k f n (ks.map Kd.str) (sp ks)
  kp : PySem.W.keepIn K (.ref f) = true
  g : mg nm = some (.ref f)
def ksS : List (List Kd) := [[.last, .between, .first], [.between], [.last, .first]]
theorem kw_s {kV dc pm cd ct : Value} {an : Option Addr} {ks : List Kd} (h : ks ∈ ksS) : KwBind (PySem.W.fnOf "sure_rows" "sure_rows" (defArgs s_sure_rows) (defBody s_sure_rows) (defScope s_sure_rows) .none kV dc pm an cd ct) [] "rows" (ks.map Kd.str) := by
  rcases List.mem_cons.mp h with rfl | h
  · refine ⟨fun us ws h1 h2 => ?_, by decide +kernel⟩
    match us, ws, h1, h2 with
    | [], [w1, w2, w3], _, _ => rfl
  rcases List.mem_cons.mp h with rfl | h
  · refine ⟨fun us ws h1 h2 => ?_, by decide +kernel⟩
    match us, ws, h1, h2 with
    | [], [w1], _, _ => rfl
  rw [List.mem_singleton.mp h]
  refine ⟨fun us ws h1 h2 => ?_, by decide +kernel⟩
  match us, ws, h1, h2 with
  | [], [w1, w2], _, _ => rfl
theorem len_s {ks : List Kd} (h : ks ∈ ksS) : ks.length ≤ 3 := by
  have : ∀ k ∈ ksS, k.length ≤ 3 := by decide
  exact this ks h
abbrev TbL (P' : Addr) : List (Addr × Str) := [(P', ("law.<locals>.<lambda>" : Str))]
/-- what the program gives, told -/
theorem told_due {C : Addr} {ks : List Kd} {zs : List V} {L : Rows} {n : Nat} {H : Hp} {Q : VK} (nm : Named ks zs L n) (h : ∀ (v : V) (H' : Hp), Same H H' → (if fitL (g3 L n) n = [] then v = .non else ∃ q, v = .ref q ∧ H' q = some (.tup (dueTup (g3 L n) n))) → Q v H') :
    spSure ks C [] zs H Q (fun cls d H' => cls = .ref C ∧ d = none ∧ ∀ H'', Same H' H'' → Q .non H'') := by
  refine ⟨rfl, L, n, nm, fun es hes z => covers hes z, fun z H' s => ⟨rfl, rfl, fun H'' s2 => h .non H'' (s.trans s2) ?_⟩, fun z es p H' hes s e => h _ H' s ?_⟩
  · rw [if_pos (cnt_fitL.mp z)]
  · rw [if_neg (fun y => z (cnt_fitL.mpr y))]
    refine ⟨p, rfl, ?_⟩
    rw [e, due_row hes, due_row hes, due_row hes]
    rfl
section
variable {P : Program} {w : World} {K : PySem.W.Frag} {mg : Str → Option Value} {base : Heap} {f g : Addr} {fd fdT : FuncData}
theorem run_law {s : Shared} {H : Hp} {a0 c P' C CW : Addr} {ns : List Int} (F : Fun K "law" "law" s_law f fd) (hc : fd.code = .ref c) (TB : LamX.TabB base mg c P') (hP : H P' = some (.tbl #[])) (bd : BindsTo s fd ⟨[.ref a0], []⟩ [("_law_script", .ref a0)]) (en : Env0 P w K mg base callerA [] s H) (hS : SqL K H a0 (ns.map V.int))
    (M : Mgs mg) (EN : ErrN K mg C CW) (FT : Fun K "_law_told" "_law_told" s__law_told g fdT) (gTd : mg "_law_told" = some (.ref g)) (kTd : PySem.W.keepIn K (.ref g) = true) (bT : Binds K fdT ["_law_call"] [])
    (D_law_deck : Df P w K mg base 1 "_law_deck" ["_law_script"] (spDeck K)) (D_law_rows : Df P w K mg base 53 "_law_rows" ["_law_deck_here", "_law_most"] spLRows) (D_law_due : Df P w K mg base 44 "_law_due" ["_law_rows_here"] spDue)
    (D_law_same : DfG P w K mg base 20 "_law_same" ["_law_found", "_law_due_here"] (spSame K 20)) (Dsure_rows : DfKsX P w K mg base 18 "sure_rows" 0 ksS (fun ks => spSure ks C)) :
    codeAny (model P w) callerA (.call (.ref f) ⟨[.ref a0], []⟩) (CR CX0 [] P w H s (fun v _ => v = .bl true) fun _ _ _ => False) s := by
  obtain ⟨ocT, odT, kVT, docT, pmT, anT, cdvT, ctT, oslT, rfl, lkTd, cTd⟩ := FT.ex
  have bTd := bT
  have vTd : Vis (defScope s__law_told) "_law_call" := (sc__law_told.par _ List.mem_cons_self).elim .inl fun h => .inr (.inl h)
  have hmT : (P', ("law.<locals>.<lambda>" : Str)) ∈ TbL P' := List.mem_cons_self
  have uT : ∀ p ∈ TbL P', p.1 = P' → p.2 = ("law.<locals>.<lambda>" : Str) := fun p hp _ => by rw [List.mem_singleton.mp hp]
  refine enter_defC (k := 76) (vs := [.ref a0]) (us := [.ref a0]) F hc sc_law ⟨rfl, by decide, by decide⟩ en bd (.cons rfl .nil) rfl fun hr => ?_
  refine ⟨_, (pss_cons (ps_set (i := 1) sc_law.nd rfl (.inl rfl) (pe_call D_law_deck.ok (hr.mono (by omega)) rfl D_law_deck.g D_law_deck.kp D_law_deck.b .nil pass0 (pa_cons (pv 0) pa_nil)))
    (pss_cons (ps_for PassesOwn.never rfl (pi_range1 rfl M.range (pa_cons pe_int pa_nil)) (pg_name (i := 2) sc_law.nd rfl (.inl rfl))
      (pss_cons (ps_asg (pe_call D_law_rows.ok (hr.mono (by omega)) rfl D_law_rows.g D_law_rows.kp D_law_rows.b .nil pass0 (pa_cons (pv 1) (pa_cons (pe_ix ix_list (pe_lst (pa_cons pe_int (pa_cons pe_int pa_nil))) (pe_op op_mod (pv 2) pe_int) (fun _ _ => rfl)) pa_nil))) (pg_tup rfl (pgs_cons (pg_name (i := 3) sc_law.nd rfl (.inr rfl)) (pgs_cons (pg_name (i := 4) sc_law.nd rfl (.inr rfl)) (pgs_cons (pg_name (i := 5) sc_law.nd rfl (.inr rfl)) pgs_nil)))))
    (pss_cons (ps_set (i := 6) sc_law.nd rfl (.inl rfl) (pe_op op_timesS pe_str (pe_callB call_len_str rfl M.len PySem.boot_len (pa_cons (pv 3) pa_nil))))
    (pss_cons (ps_set (i := 7) sc_law.nd rfl (.inl rfl) (pe_call D_law_due.ok (hr.mono (by omega)) rfl D_law_due.g D_law_due.kp D_law_due.b .nil pass0 (pa_cons (pe_tup (pa_cons (pv 3) (pa_cons (pv 4) (pa_cons (pv 5) pa_nil)))) pa_nil)))
    (pss_cons (ps_for PassesOwn.never rfl (pi_range1 rfl M.range (pa_cons pe_int pa_nil)) (pg_name (i := 8) sc_law.nd rfl (.inl rfl))
      (pss_one (ps_if (pt_not (pt_val (pe_callG D_law_same.ok rfl (hr.mono (by omega)) rfl D_law_same.g D_law_same.kp D_law_same.b (pa_cons (LamX.pe_lamcall (TT := TTd C) (k := 18) (Ng := ["_law_call", "e", "_law_alone"]) rfl gTd kTd lkTd cTd bTd sc__law_told rfl vTd (told_gives M EN) TB rfl hmT uT (hr.mono (by omega)) (LamX.lamS_by (sc := defScope s_law) (by decide +kernel)) rfl (fun _ _ _ _ _ => rfl) (fun _ _ _ _ _ _ _ hr2 => pe_callKw0X (Dsure_rows.ok [.last, .between, .first] (by decide)) hr2 rfl Dsure_rows.g Dsure_rows.kp (passes_call (takes_of rfl rfl rfl rfl) (fun _ _ _ _ h => h)) (pk_cons (pv 5) (pk_cons (pv 4) (pk_cons (pv 3) pk_nil))))) (pa_cons (pv 7) pa_nil)))))
      (pss_one (ps_ret pe_bl)) pss_nil)))
    (pss_cons (ps_if (pt_not (pt_val (pe_callG D_law_same.ok rfl (hr.mono (by omega)) rfl D_law_same.g D_law_same.kp D_law_same.b (pa_cons (LamX.pe_lamcall (TT := TTd C) (k := 18) (Ng := ["_law_call", "e", "_law_alone"]) rfl gTd kTd lkTd cTd bTd sc__law_told rfl vTd (told_gives M EN) TB rfl hmT uT (hr.mono (by omega)) (LamX.lamS_by (sc := defScope s_law) (by decide +kernel)) rfl (fun _ _ _ _ _ => rfl) (fun _ _ _ _ _ _ _ hr2 => pe_callKw0X (Dsure_rows.ok [.between] (by decide)) hr2 rfl Dsure_rows.g Dsure_rows.kp (passes_call (takes_of rfl rfl rfl rfl) (fun _ _ _ _ h => h)) (pk_cons (pv 4) pk_nil))) (pa_cons (pe_call D_law_due.ok (hr.mono (by omega)) rfl D_law_due.g D_law_due.kp D_law_due.b .nil pass0 (pa_cons (pe_tup (pa_cons (pv 6) (pa_cons (pv 4) (pa_cons (pv 6) pa_nil)))) pa_nil)) pa_nil)))))
      (pss_one (ps_ret pe_bl)) pss_nil)
    (pss_one (ps_if (pt_not (pt_val (pe_callG D_law_same.ok rfl (hr.mono (by omega)) rfl D_law_same.g D_law_same.kp D_law_same.b (pa_cons (LamX.pe_lamcall (TT := TTd C) (k := 18) (Ng := ["_law_call", "e", "_law_alone"]) rfl gTd kTd lkTd cTd bTd sc__law_told rfl vTd (told_gives M EN) TB rfl hmT uT (hr.mono (by omega)) (LamX.lamS_by (sc := defScope s_law) (by decide +kernel)) rfl (fun _ _ _ _ _ => rfl) (fun _ _ _ _ _ _ _ hr2 => pe_callKw0X (Dsure_rows.ok [.last, .first] (by decide)) hr2 rfl Dsure_rows.g Dsure_rows.kp (passes_call (takes_of rfl rfl rfl rfl) (fun _ _ _ _ h => h)) (pk_cons (pv 5) (pk_cons (pv 3) pk_nil)))) (pa_cons (pe_call D_law_due.ok (hr.mono (by omega)) rfl D_law_due.g D_law_due.kp D_law_due.b .nil pass0 (pa_cons (pe_tup (pa_cons (pv 3) (pa_cons (pv 6) (pa_cons (pv 5) pa_nil)))) pa_nil)) pa_nil)))))
      (pss_one (ps_ret pe_bl)) pss_nil))))))))
    (pss_one (ps_ret pe_bl)))), ?_⟩
  refine ⟨_, rfl, a0, ns, rfl, hS, fun D H1 d1 s1 => ?_⟩
  have T1 : LamX.Tabs (TbL P') H1 := fun p hp => by
    rw [List.mem_singleton.mp hp]
    exact (LamX.TabS.nil hP).ext s1
  refine ⟨8, rfl, by decide, by decide, ?_⟩
  refine for_range (lo := 0) (n := 8) (fun i σ H' => ∃ (o2 o3 o4 o5 o6 o7 o8 : Option V) (c : Nat), σ = [some (.ref a0), some (.ref D.dk), o2, o3, o4, o5, o6, o7, o8] ∧ DeckOk H' D c ∧ c ≤ 120 * i ∧ LamX.Tabs (TbL P') H') ⟨none, none, none, none, none, none, none, 0, rfl, d1, by omega, T1⟩ (fun i σ H2 hi hp => ?_) (fun σ H2 hp => rfl)
  obtain ⟨o2, o3, o4, o5, o6, o7, o8, c0, rfl, d2, hc0, T2⟩ := hp
  obtain ⟨mm, hmm, m0, m5⟩ : ∃ mm : Nat, atI [V.int 5, V.int 4] ((0 + (i : Int)) % 2) = some (.int (mm : Int)) ∧ 0 < mm ∧ mm ≤ 5 := by
    have h : (0 + (i : Int)) % 2 = 0 ∨ (0 + (i : Int)) % 2 = 1 := by omega
    rcases h with h | h
    · rw [h]; exact ⟨5, rfl, by decide, by decide⟩
    · rw [h]; exact ⟨4, rfl, by decide, by decide⟩
  refine ⟨_, rfl, (by show 2 ≤ sizeLine; decide), fun pl npl => ?_⟩
  have kpl := same_new npl (.lst [V.int 5, V.int 4])
  have epl := upd_same (H := H2) (a := pl) (o := .lst [V.int 5, V.int 4])
  have d2' := d2.same kpl
  have T2' := T2.ext kpl
  generalize upd H2 pl (.lst [V.int 5, V.int 4]) = H2' at kpl epl d2' T2' ⊢
  refine ⟨_, rfl, _, _, rfl, rfl, (show (0 : Int) < 2 by decide), pl, _, _, _, rfl, rfl, SqL.of epl, hmm, ?_⟩
  refine ⟨D, c0, mm, rfl, d2', by omega, m0, by omega, fun p a b c e H3 e0 e1 d3 s3 ep ka kb kc lb lc l5 => ?_⟩
  refine ⟨p, _, rfl, SqT.of ep, rfl, _, _, rfl, _, _, rfl, _, _, rfl, rfl, ?_⟩
  obtain ⟨n, hn⟩ : ∃ n, a.length = n := ⟨_, rfl⟩
  rw [hn] at lb lc l5
  have l5 : n ≤ 5 := by omega
  have n0 : 0 < n := by have := List.length_pos_iff.mpr ka.ne; omega
  have T3 := tabsD d2' s3 T2'
  -- a blank row
  have kz : RowOk (List.replicate n 63) := ⟨fun z => by have : (List.replicate n 63).length = 0 := by rw [z]; rfl
                                                        rw [List.length_replicate] at this; omega, by rw [List.length_replicate]; omega, fun y hy => .inl (List.eq_of_mem_replicate hy)⟩
  have lz : (List.replicate n 63).length = n := List.length_replicate
  refine ⟨_, rfl, _, rfl, small (by rw [tx_len]; omega), 63, a.length, (by rw [str_q]; rfl), (by rw [tx_len]), by omega, by omega, ?_⟩
  rw [hn]
  have lowOf : ∀ {r : List Nat}, RowOk r → Low r := fun k y hy => by
    rcases k.all y hy with h | h <;> omega
  have ex : ∀ {H H' : Hp}, Same H H' → LamX.ExtN H H' := fun s => LamX.ExtN.of s
  refine ⟨_, rfl, _, rfl, _, rfl, (by show 3 ≤ sizeLine; decide), fun t1 nt1 => ⟨t1, a, b, c, n, rfl, upd_same, ka, kb, kc, hn, lb, lc, l5, fun v1 H4 s4 hv1 => ?_⟩⟩
  have s34 := (same_new nt1 (.tup [vt a, vt b, vt c])).trans s4
  have d4 := d3.same s34
  have T4 := T3.ext s34
  have hv1 : DueIs ⟨a, b, c⟩ n v1 H4 := hv1
  obtain ⟨q1, q2, q3⟩ := dueD_ok (G := ⟨a, b, c⟩) (n := n) (lowOf ka) (lowOf kb) (lowOf kc) l5
  refine ⟨2, rfl, by decide, by decide, ?_⟩
  refine for_range (lo := 0) (n := 2) (fun j σ H' => DeckOk H' D e ∧ LamX.Tabs (TbL P') H' ∧ DueIs ⟨a, b, c⟩ n v1 H' ∧ ∃ o8 : Option V, σ = [some (.ref a0), some (.ref D.dk), some (.int (0 + (i : Int))), some (vt a), some (vt b), some (vt c), some (vt (List.replicate n 63)), some v1, o8]) ⟨d4, T4, hv1, _, rfl⟩ (fun j σ H5 hj hp => ?_) (fun σ H5 hp => ?_)
  · obtain ⟨d5, T5, hv5, o8', rfl⟩ := hp
    refine ⟨T5, fun H6 x6 T6 => ⟨_, rfl, _, rfl, _, rfl, rfl, told_due (named3 .last .between .first (by decide) kc kb ka lc lb hn) fun v H7 s7 hv => ?_⟩⟩
    have hv : DueIs ⟨a, b, c⟩ n v H7 := hv
    have hv7 := (hv5.ext x6).ext (ex s7)
    refine ⟨_, rfl, v, v1, dueD ⟨a, b, c⟩ n, rfl, dp_due hv, dp_due hv7, q1, q2, q3, fun H8 s8 => ⟨_, rfl, iteF ?_⟩⟩
    exact ⟨((d5.ext x6).same s7).same s8, (T6.ext s7).ext s8, hv7.ext (ex s8), _, rfl⟩
  · obtain ⟨d5, T5, _, o8', rfl⟩ := hp
    refine ⟨T5, fun H6 x6 T6 => ⟨_, rfl, rfl, told_due (named1 .between kb lb) fun v H7 s7 hv => ?_⟩⟩
    have hv : DueIs ⟨List.replicate n 63, b, List.replicate n 63⟩ n v H7 := hv
    obtain ⟨q1, q2, q3⟩ := dueD_ok (G := ⟨List.replicate n 63, b, List.replicate n 63⟩) (n := n) (lowOf kz) (lowOf kb) (lowOf kz) l5
    refine ⟨_, rfl, _, rfl, _, rfl, (by show 3 ≤ sizeLine; decide), fun t2 nt2 => ⟨t2, List.replicate n 63, b, List.replicate n 63, n, rfl, upd_same, kz, kb, kz, lz, lb, lz, l5, fun v2 H8 s8 hv2 => ?_⟩⟩
    have s78 := (same_new nt2 (.tup [vt (List.replicate n 63), vt b, vt (List.replicate n 63)])).trans s8
    refine ⟨v, v2, dueD ⟨List.replicate n 63, b, List.replicate n 63⟩ n, rfl, dp_due (hv.ext (ex s78)), dp_due hv2, q1, q2, q3, fun H9 s9 => ⟨_, rfl, iteF ?_⟩⟩
    have d9 := (((d5.ext x6).same s7).same s78).same s9
    have T9 := ((T6.ext s7).ext s78).ext s9
    refine ⟨T9, fun H10 x10 T10 => ⟨_, rfl, _, rfl, rfl, told_due (named2 .last .first (by decide) kc ka lc hn) fun v3 H11 s11 hv3 => ?_⟩⟩
    have hv3 : DueIs ⟨a, List.replicate n 63, c⟩ n v3 H11 := hv3
    obtain ⟨q1, q2, q3⟩ := dueD_ok (G := ⟨a, List.replicate n 63, c⟩) (n := n) (lowOf ka) (lowOf kz) (lowOf kc) l5
    refine ⟨_, rfl, _, rfl, _, rfl, (by show 3 ≤ sizeLine; decide), fun t3 nt3 => ⟨t3, a, List.replicate n 63, c, n, rfl, upd_same, ka, kz, kc, hn, lz, lc, l5, fun v4 H12 s12 hv4 => ?_⟩⟩
    have s1112 := (same_new nt3 (.tup [vt a, vt (List.replicate n 63), vt c])).trans s12
    refine ⟨v3, v4, dueD ⟨a, List.replicate n 63, c⟩ n, rfl, dp_due (hv3.ext (ex s1112)), dp_due hv4, q1, q2, q3, fun H13 s13 => ⟨_, rfl, iteF ?_⟩⟩
    exact ⟨_, _, _, _, _, _, _, e, rfl, (((d9.ext x10).same s11).same s1112).same s13, by omega, ((T10.ext s11).ext s1112).ext s13⟩
end
/-! ### what the top has left -/
theorem all_mk {l : PySem.W.OpenLaw} {w : World} {K : PySem.W.Frag} {h : Heap} {mg : Str → Option Value} {fa f1 f2 f3 f4 f5 f6 f7 f8 f9 f10 f11 f12 f13 f14 f15 f16 f17 f18 f19 f20 f21 f22 f23 f24 f25 f26 f27 f28 C_NoFit C_WalkError C_NoRows C_NoTree : Addr} (X : K.In h) (G : h.Ns mainGlobals mg) (hfa : mg "law" = some (.ref fa))
    {od1 an1 od2 an2 od3 an3 od4 an4 od5 an5 od6 an6 od7 an7 od8 an8 od9 an9 od10 an10 od11 an11 od12 an12 od13 an13 od14 an14 od15 an15 od16 an16 od17 an17 od18 an18 od19 an19 od20 an20 od21 an21 od22 an22 od23 an23 od24 an24 od25 an25 od26 an26 od27 an27 od28 an28 : Option Addr} {sl1 sl2 sl3 sl4 sl5 sl6 sl7 sl8 sl9 sl10 sl11 sl12 sl13 sl14 sl15 sl16 sl17 sl18 sl19 sl20 sl21 sl22 sl23 sl24 sl25 sl26 sl27 sl28 : Array (Option Value)}
    {oc1 kV1 dc1 pm1 cd1 ct1 oc2 kV2 dc2 pm2 cd2 ct2 oc3 kV3 dc3 pm3 cd3 ct3 oc4 kV4 dc4 pm4 cd4 ct4 oc5 kV5 dc5 pm5 cd5 ct5 oc6 kV6 dc6 pm6 cd6 ct6 oc7 kV7 dc7 pm7 cd7 ct7 oc8 kV8 dc8 pm8 cd8 ct8 oc9 kV9 dc9 pm9 cd9 ct9 oc10 kV10 dc10 pm10 cd10 ct10 oc11 kV11 dc11 pm11 cd11 ct11 oc12 kV12 dc12 pm12 cd12 ct12 oc13 kV13 dc13 pm13 cd13 ct13 oc14 kV14 dc14 pm14 cd14 ct14 oc15 kV15 dc15 pm15 cd15 ct15 oc16 kV16 dc16 pm16 cd16 ct16 oc17 kV17 dc17 pm17 cd17 ct17 oc18 kV18 dc18 pm18 cd18 ct18 oc19 kV19 dc19 pm19 cd19 ct19 oc20 kV20 dc20 pm20 cd20 ct20 oc21 kV21 dc21 pm21 cd21 ct21 oc22 kV22 dc22 pm22 cd22 ct22 oc23 kV23 dc23 pm23 cd23 ct23 oc24 kV24 dc24 pm24 cd24 ct24 oc25 kV25 dc25 pm25 cd25 ct25 oc26 kV26 dc26 pm26 cd26 ct26 oc27 kV27 dc27 pm27 cd27 ct27 oc28 kV28 dc28 pm28 cd28 ct28 : Value} {t1 : Tok}
    {aR : Addr} {oR : Option Addr} {tL tR1 tR2 tR3 : Tok} {nR : Nat} {sR : Array (Option Value)} {cT PT : Addr} {ocT : Value} {odT : Option Addr} {vsT : Array Value} {slT : Array (Option Value)}
    {nm_NoFit q_NoFit : Str} {N_NoFit : Addr} {bs_NoFit sub_NoFit : List Value} {sn_NoFit : List Str} {ab_NoFit : Bool} {col_NoFit : Option Bool} {dd_NoFit : Option Addr} {m0_NoFit m1_NoFit m2_NoFit m3_NoFit m5_NoFit : Option Value} 
    (a_NoFit : PySem.W.nsIn K mainGlobals "NoFit" = some (some (.ref C_NoFit)))
    (a_WalkError : PySem.W.nsIn K mainGlobals "WalkError" = some (some (.ref C_WalkError)))
    (a_NoRows : PySem.W.nsIn K mainGlobals "NoRows" = some (some (.ref C_NoRows)))
    (a_NoTree : PySem.W.nsIn K mainGlobals "NoTree" = some (some (.ref C_NoTree)))
    (x_NoFit : K.lookup C_NoFit = some (excClassObj nm_NoFit q_NoFit C_NoFit N_NoFit bs_NoFit (.ref C_WalkError :: [.type "ValueError", .type "Exception", .type "BaseException", .type "object"]) true sn_NoFit sub_NoFit ab_NoFit col_NoFit dd_NoFit m0_NoFit m1_NoFit m2_NoFit m3_NoFit m5_NoFit "ValueError.__new__"))
    (sa_NoFit : PySem.W.findIn K (.ref C_NoFit) "__setattr__" = some (some (.builtin "object.__setattr__")))
    (ga_NoFit : PySem.W.findIn K (.ref C_NoFit) "__getattribute__" = some (some (.builtin "BaseException.__getattribute__")))
    (gg_NoFit : PySem.W.findIn K (.ref C_NoFit) "__getattr__" = some none)
    (kC_NoFit : PySem.W.keepIn K (.ref C_NoFit) = true)
    (eC_NoFit : PySem.W.subIn K (.ref C_NoFit) (.type "BaseException") = some true)
    (tC_NoFit : PySem.W.typeIn K (.ref C_NoFit) = some (.type "type"))
    (hC_NoFit : PySem.W.hasDictIn K C_NoFit = true)
    (h1_NoFit : PySem.W.findIn K (.ref C_NoFit) "__class__" = some (some (.builtin "object.__class__")))
    (h2_NoFit : PySem.W.specialIn K (.builtin "object.__class__") "__get__" = some (some (.builtin "getset_descriptor.__get__")))
    (h3_NoFit : PySem.W.takesIn K (.builtin "object.__class__") = some true)
    (h4_NoFit : PySem.W.mroIn K C_NoFit (.type "object") = some true)
    (aRn : PySem.W.nsIn K mainGlobals "ROW_KINDS" = some (some (.ref aR)))
    (aRl : K.lookup aR = some ⟨.type "tuple", oR, .seq #[.str "first" tR1, .str "between" tR2, .str "last" tR3] nR, sR⟩)
    (aLn : PySem.W.nsIn K mainGlobals "LETTERS" = some (some (.str "abcdefghijklmnopqrstuvwxyz" tL)))
    (qN : PySem.W.excIn K C_NoFit [.type "ValueError", .type "Exception", .type "BaseException", .type "object"] "ValueError.__new__" = true)
    (eW : PySem.W.exmOne K (.ref C_NoFit) (.ref C_WalkError) = some true)
    (kN : PySem.W.kitOne K (.ref C_NoFit) (.ref C_NoFit) = some true)
    (kV : PySem.W.kitOne K (.ref C_NoFit) (.type "ValueError") = some true)
    (kM : PySem.W.kitAny K (.ref C_NoFit) [.ref C_NoRows, .ref C_NoTree] = some false)
    (eCd : cd28 = .ref cT)
    (eLk : K.lookup cT = some ⟨ocT, odT, .fields vsT, slT⟩)
    (eP : vsT[11]? = some (.ref PT))
    (eHd : PySem.W.codeHdIn K cT PT = true)
    (eNo : K.lookup PT = none)
    (eNe : mainGlobals ≠ PT)
    (eTs : h.get? PT = some { cls := .none, data := .fields #[] })
    (a1 : PySem.W.nsIn K mainGlobals "is_letter" = some (some (.ref f1)))
    (l1 : K.lookup f1 = some ⟨oc1, od1, .func (PySem.W.fnOf "is_letter" "is_letter" (defArgs s_is_letter) (defBody s_is_letter) (defScope s_is_letter) .none kV1 dc1 pm1 an1 cd1 ct1), sl1⟩)
    (c1 : PySem.W.codeIn K cd1 "is_letter" = true)
    (k1 : PySem.W.keepIn K (.ref f1) = true)
    (a2 : PySem.W.nsIn K mainGlobals "is_row" = some (some (.ref f2)))
    (l2 : K.lookup f2 = some ⟨oc2, od2, .func (PySem.W.fnOf "is_row" "is_row" (defArgs s_is_row) (defBody s_is_row) (defScope s_is_row) .none kV2 dc2 pm2 an2 cd2 ct2), sl2⟩)
    (c2 : PySem.W.codeIn K cd2 "is_row" = true)
    (k2 : PySem.W.keepIn K (.ref f2) = true)
    (a3 : PySem.W.nsIn K mainGlobals "three_rows" = some (some (.ref f3)))
    (l3 : K.lookup f3 = some ⟨oc3, od3, .func (PySem.W.fnOf "three_rows" "three_rows" (defArgs s_three_rows) (defBody s_three_rows) (defScope s_three_rows) .none kV3 dc3 pm3 an3 cd3 ct3), sl3⟩)
    (c3 : PySem.W.codeIn K cd3 "three_rows" = true)
    (k3 : PySem.W.keepIn K (.ref f3) = true)
    (a4 : PySem.W.nsIn K mainGlobals "whole_of" = some (some (.ref f4)))
    (l4 : K.lookup f4 = some ⟨oc4, od4, .func (PySem.W.fnOf "whole_of" "whole_of" (defArgs s_whole_of) (defBody s_whole_of) (defScope s_whole_of) .none kV4 dc4 pm4 an4 cd4 ct4), sl4⟩)
    (c4 : PySem.W.codeIn K cd4 "whole_of" = true)
    (k4 : PySem.W.keepIn K (.ref f4) = true)
    (a5 : PySem.W.nsIn K mainGlobals "common_letters" = some (some (.ref f5)))
    (l5 : K.lookup f5 = some ⟨oc5, od5, .func (PySem.W.fnOf "common_letters" "common_letters" (defArgs s_common_letters) (defBody s_common_letters) (defScope s_common_letters) .none kV5 dc5 pm5 an5 cd5 ct5), sl5⟩)
    (c5 : PySem.W.codeIn K cd5 "common_letters" = true)
    (k5 : PySem.W.keepIn K (.ref f5) = true)
    (a6 : PySem.W.nsIn K mainGlobals "allowed_splits" = some (some (.ref f6)))
    (l6 : K.lookup f6 = some ⟨oc6, od6, .func (PySem.W.fnOf "allowed_splits" "allowed_splits" (defArgs s_allowed_splits) (defBody s_allowed_splits) (defScope s_allowed_splits) .none kV6 dc6 pm6 an6 cd6 ct6), sl6⟩)
    (c6 : PySem.W.codeIn K cd6 "allowed_splits" = true)
    (k6 : PySem.W.keepIn K (.ref f6) = true)
    (a7 : PySem.W.nsIn K mainGlobals "counts_of" = some (some (.ref f7)))
    (l7 : K.lookup f7 = some ⟨oc7, od7, .func (PySem.W.fnOf "counts_of" "counts_of" (defArgs s_counts_of) (defBody s_counts_of) (defScope s_counts_of) .none kV7 dc7 pm7 an7 cd7 ct7), sl7⟩)
    (c7 : PySem.W.codeIn K cd7 "counts_of" = true)
    (k7 : PySem.W.keepIn K (.ref f7) = true)
    (a8 : PySem.W.nsIn K mainGlobals "add_counts" = some (some (.ref f8)))
    (l8 : K.lookup f8 = some ⟨oc8, od8, .func (PySem.W.fnOf "add_counts" "add_counts" (defArgs s_add_counts) (defBody s_add_counts) (defScope s_add_counts) .none kV8 dc8 pm8 an8 cd8 ct8), sl8⟩)
    (c8 : PySem.W.codeIn K cd8 "add_counts" = true)
    (k8 : PySem.W.keepIn K (.ref f8) = true)
    (a9 : PySem.W.nsIn K mainGlobals "live_splits" = some (some (.ref f9)))
    (l9 : K.lookup f9 = some ⟨oc9, od9, .func (PySem.W.fnOf "live_splits" "live_splits" (defArgs s_live_splits) (defBody s_live_splits) (defScope s_live_splits) .none kV9 dc9 pm9 an9 cd9 ct9), sl9⟩)
    (c9 : PySem.W.codeIn K cd9 "live_splits" = true)
    (k9 : PySem.W.keepIn K (.ref f9) = true)
    (a10 : PySem.W.nsIn K mainGlobals "live_roots" = some (some (.ref f10)))
    (l10 : K.lookup f10 = some ⟨oc10, od10, .func (PySem.W.fnOf "live_roots" "live_roots" (defArgs s_live_roots) (defBody s_live_roots) (defScope s_live_roots) .none kV10 dc10 pm10 an10 cd10 ct10), sl10⟩)
    (c10 : PySem.W.codeIn K cd10 "live_roots" = true)
    (k10 : PySem.W.keepIn K (.ref f10) = true)
    (a11 : PySem.W.nsIn K mainGlobals "sure_rows" = some (some (.ref f11)))
    (l11 : K.lookup f11 = some ⟨oc11, od11, .func (PySem.W.fnOf "sure_rows" "sure_rows" (defArgs s_sure_rows) (defBody s_sure_rows) (defScope s_sure_rows) .none kV11 dc11 pm11 an11 cd11 ct11), sl11⟩)
    (c11 : PySem.W.codeIn K cd11 "sure_rows" = true)
    (k11 : PySem.W.keepIn K (.ref f11) = true)
    (a12 : PySem.W.nsIn K mainGlobals "_law_deck" = some (some (.ref f12)))
    (l12 : K.lookup f12 = some ⟨oc12, od12, .func (PySem.W.fnOf "_law_deck" "_law_deck" (defArgs s__law_deck) (defBody s__law_deck) (defScope s__law_deck) .none kV12 dc12 pm12 an12 cd12 ct12), sl12⟩)
    (c12 : PySem.W.codeIn K cd12 "_law_deck" = true)
    (k12 : PySem.W.keepIn K (.ref f12) = true)
    (a13 : PySem.W.nsIn K mainGlobals "_law_draw" = some (some (.ref f13)))
    (l13 : K.lookup f13 = some ⟨oc13, od13, .func (PySem.W.fnOf "_law_draw" "_law_draw" (defArgs s__law_draw) (defBody s__law_draw) (defScope s__law_draw) .none kV13 dc13 pm13 an13 cd13 ct13), sl13⟩)
    (c13 : PySem.W.codeIn K cd13 "_law_draw" = true)
    (k13 : PySem.W.keepIn K (.ref f13) = true)
    (a14 : PySem.W.nsIn K mainGlobals "_law_mixed" = some (some (.ref f14)))
    (l14 : K.lookup f14 = some ⟨oc14, od14, .func (PySem.W.fnOf "_law_mixed" "_law_mixed" (defArgs s__law_mixed) (defBody s__law_mixed) (defScope s__law_mixed) .none kV14 dc14 pm14 an14 cd14 ct14), sl14⟩)
    (c14 : PySem.W.codeIn K cd14 "_law_mixed" = true)
    (k14 : PySem.W.keepIn K (.ref f14) = true)
    (a15 : PySem.W.nsIn K mainGlobals "_law_same" = some (some (.ref f15)))
    (l15 : K.lookup f15 = some ⟨oc15, od15, .func (PySem.W.fnOf "_law_same" "_law_same" (defArgs s__law_same) (defBody s__law_same) (defScope s__law_same) .none kV15 dc15 pm15 an15 cd15 ct15), sl15⟩)
    (c15 : PySem.W.codeIn K cd15 "_law_same" = true)
    (k15 : PySem.W.keepIn K (.ref f15) = true)
    (a16 : PySem.W.nsIn K mainGlobals "_law_size" = some (some (.ref f16)))
    (l16 : K.lookup f16 = some ⟨oc16, od16, .func (PySem.W.fnOf "_law_size" "_law_size" (defArgs s__law_size) (defBody s__law_size) (defScope s__law_size) .none kV16 dc16 pm16 an16 cd16 ct16), sl16⟩)
    (c16 : PySem.W.codeIn K cd16 "_law_size" = true)
    (k16 : PySem.W.keepIn K (.ref f16) = true)
    (a17 : PySem.W.nsIn K mainGlobals "_law_shapes" = some (some (.ref f17)))
    (l17 : K.lookup f17 = some ⟨oc17, od17, .func (PySem.W.fnOf "_law_shapes" "_law_shapes" (defArgs s__law_shapes) (defBody s__law_shapes) (defScope s__law_shapes) .none kV17 dc17 pm17 an17 cd17 ct17), sl17⟩)
    (c17 : PySem.W.codeIn K cd17 "_law_shapes" = true)
    (k17 : PySem.W.keepIn K (.ref f17) = true)
    (a18 : PySem.W.nsIn K mainGlobals "_law_spots" = some (some (.ref f18)))
    (l18 : K.lookup f18 = some ⟨oc18, od18, .func (PySem.W.fnOf "_law_spots" "_law_spots" (defArgs s__law_spots) (defBody s__law_spots) (defScope s__law_spots) .none kV18 dc18 pm18 an18 cd18 ct18), sl18⟩)
    (c18 : PySem.W.codeIn K cd18 "_law_spots" = true)
    (k18 : PySem.W.keepIn K (.ref f18) = true)
    (a19 : PySem.W.nsIn K mainGlobals "_law_letter" = some (some (.ref f19)))
    (l19 : K.lookup f19 = some ⟨oc19, od19, .func (PySem.W.fnOf "_law_letter" "_law_letter" (defArgs s__law_letter) (defBody s__law_letter) (defScope s__law_letter) .none kV19 dc19 pm19 an19 cd19 ct19), sl19⟩)
    (c19 : PySem.W.codeIn K cd19 "_law_letter" = true)
    (k19 : PySem.W.keepIn K (.ref f19) = true)
    (a20 : PySem.W.nsIn K mainGlobals "_law_labelled" = some (some (.ref f20)))
    (l20 : K.lookup f20 = some ⟨oc20, od20, .func (PySem.W.fnOf "_law_labelled" "_law_labelled" (defArgs s__law_labelled) (defBody s__law_labelled) (defScope s__law_labelled) .none kV20 dc20 pm20 an20 cd20 ct20), sl20⟩)
    (c20 : PySem.W.codeIn K cd20 "_law_labelled" = true)
    (k20 : PySem.W.keepIn K (.ref f20) = true)
    (a21 : PySem.W.nsIn K mainGlobals "_law_shape" = some (some (.ref f21)))
    (l21 : K.lookup f21 = some ⟨oc21, od21, .func (PySem.W.fnOf "_law_shape" "_law_shape" (defArgs s__law_shape) (defBody s__law_shape) (defScope s__law_shape) .none kV21 dc21 pm21 an21 cd21 ct21), sl21⟩)
    (c21 : PySem.W.codeIn K cd21 "_law_shape" = true)
    (k21 : PySem.W.keepIn K (.ref f21) = true)
    (a22 : PySem.W.nsIn K mainGlobals "_law_tree" = some (some (.ref f22)))
    (l22 : K.lookup f22 = some ⟨oc22, od22, .func (PySem.W.fnOf "_law_tree" "_law_tree" (defArgs s__law_tree) (defBody s__law_tree) (defScope s__law_tree) .none kV22 dc22 pm22 an22 cd22 ct22), sl22⟩)
    (c22 : PySem.W.codeIn K cd22 "_law_tree" = true)
    (k22 : PySem.W.keepIn K (.ref f22) = true)
    (a23 : PySem.W.nsIn K mainGlobals "_law_walks" = some (some (.ref f23)))
    (l23 : K.lookup f23 = some ⟨oc23, od23, .func (PySem.W.fnOf "_law_walks" "_law_walks" (defArgs s__law_walks) (defBody s__law_walks) (defScope s__law_walks) .none kV23 dc23 pm23 an23 cd23 ct23), sl23⟩)
    (c23 : PySem.W.codeIn K cd23 "_law_walks" = true)
    (k23 : PySem.W.keepIn K (.ref f23) = true)
    (a24 : PySem.W.nsIn K mainGlobals "_law_hidden" = some (some (.ref f24)))
    (l24 : K.lookup f24 = some ⟨oc24, od24, .func (PySem.W.fnOf "_law_hidden" "_law_hidden" (defArgs s__law_hidden) (defBody s__law_hidden) (defScope s__law_hidden) .none kV24 dc24 pm24 an24 cd24 ct24), sl24⟩)
    (c24 : PySem.W.codeIn K cd24 "_law_hidden" = true)
    (k24 : PySem.W.keepIn K (.ref f24) = true)
    (a25 : PySem.W.nsIn K mainGlobals "_law_rows" = some (some (.ref f25)))
    (l25 : K.lookup f25 = some ⟨oc25, od25, .func (PySem.W.fnOf "_law_rows" "_law_rows" (defArgs s__law_rows) (defBody s__law_rows) (defScope s__law_rows) .none kV25 dc25 pm25 an25 cd25 ct25), sl25⟩)
    (c25 : PySem.W.codeIn K cd25 "_law_rows" = true)
    (k25 : PySem.W.keepIn K (.ref f25) = true)
    (a26 : PySem.W.nsIn K mainGlobals "_law_due" = some (some (.ref f26)))
    (l26 : K.lookup f26 = some ⟨oc26, od26, .func (PySem.W.fnOf "_law_due" "_law_due" (defArgs s__law_due) (defBody s__law_due) (defScope s__law_due) .none kV26 dc26 pm26 an26 cd26 ct26), sl26⟩)
    (c26 : PySem.W.codeIn K cd26 "_law_due" = true)
    (k26 : PySem.W.keepIn K (.ref f26) = true)
    (a27 : PySem.W.nsIn K mainGlobals "_law_told" = some (some (.ref f27)))
    (l27 : K.lookup f27 = some ⟨oc27, od27, .func (PySem.W.fnOf "_law_told" "_law_told" (defArgs s__law_told) (defBody s__law_told) (defScope s__law_told) .none kV27 dc27 pm27 an27 cd27 ct27), sl27⟩)
    (c27 : PySem.W.codeIn K cd27 "_law_told" = true)
    (k27 : PySem.W.keepIn K (.ref f27) = true)
    (a28 : PySem.W.nsIn K mainGlobals "law" = some (some (.ref f28)))
    (l28 : K.lookup f28 = some ⟨oc28, od28, .func (PySem.W.fnOf "law" "law" (defArgs s_law) (defBody s_law) (defScope s_law) .none kV28 dc28 pm28 an28 cd28 ct28), sl28⟩)
    (c28 : PySem.W.codeIn K cd28 "law" = true)
    (k28 : PySem.W.keepIn K (.ref f28) = true)
    (z1 : PySem.W.nsIn K mainGlobals "zip" = some none)
    (z2 : PySem.W.nsIn K mainGlobals "all" = some none)
    (z3 : PySem.W.nsIn K mainGlobals "repr" = some none)
    (z4 : PySem.W.nsIn K mainGlobals "sum" = some none)
    (z5 : PySem.W.nsIn K mainGlobals "len" = some none)
    (z6 : PySem.W.nsIn K mainGlobals "isinstance" = some none)
    (z7 : PySem.W.nsIn K mainGlobals "list" = some none)
    (z8 : PySem.W.nsIn K mainGlobals "tuple" = some none)
    (z9 : PySem.W.nsIn K mainGlobals "str" = some none)
    (z10 : PySem.W.nsIn K mainGlobals "int" = some none)
    (z11 : PySem.W.nsIn K mainGlobals "bool" = some none)
    (z12 : PySem.W.nsIn K mainGlobals "dict" = some none)
    (z13 : PySem.W.nsIn K mainGlobals "range" = some none)
    (z14 : PySem.W.nsIn K mainGlobals "sorted" = some none)
    (z15 : PySem.W.nsIn K mainGlobals "abs" = some none)
    (z16 : PySem.W.nsIn K mainGlobals "min" = some none)
    (z17 : PySem.W.nsIn K mainGlobals "max" = some none)
    (z18 : PySem.W.nsIn K mainGlobals "enumerate" = some none)
    (z19 : PySem.W.nsIn K mainGlobals "ValueError" = some none)
    (v1 : PySem.W.nsIn K mainGlobals "MAX_NODES" = some (some (.int 12 t1)))
    : RunT l w K mg fa h := by
  have e := hfa.symm.trans (PySem.W.mg_of X G a28)
  cases e
  refine ⟨[(cT, PT)], fun p hp => ?_, fun p hp => ?_, fun p hp => ?_, fun base H s a ns inB gl TB0 hT en hS hn => ?_⟩
  · rw [List.mem_singleton.mp hp]; exact eTs
  · rw [List.mem_singleton.mp hp]; exact eNo
  · rw [List.mem_singleton.mp hp]; exact PySem.W.codeHd_of_K X eHd
  have TB := TB0 (cT, PT) (List.mem_singleton.mpr rfl)
  have hP := hT (cT, PT) (List.mem_singleton.mpr rfl)
  have gC_NoFit := PySem.W.mg_of X G a_NoFit
  have gC_WalkError := PySem.W.mg_of X G a_WalkError
  have gC_NoRows := PySem.W.mg_of X G a_NoRows
  have gC_NoTree := PySem.W.mg_of X G a_NoTree
  have F1 := fun_mk (st := s_is_letter) l1 c1 k1
  have g1 := PySem.W.mg_of X G a1
  have F2 := fun_mk (st := s_is_row) l2 c2 k2
  have g2 := PySem.W.mg_of X G a2
  have F3 := fun_mk (st := s_three_rows) l3 c3 k3
  have g3 := PySem.W.mg_of X G a3
  have F4 := fun_mk (st := s_whole_of) l4 c4 k4
  have g4 := PySem.W.mg_of X G a4
  have F5 := fun_mk (st := s_common_letters) l5 c5 k5
  have g5 := PySem.W.mg_of X G a5
  have F6 := fun_mk (st := s_allowed_splits) l6 c6 k6
  have g6 := PySem.W.mg_of X G a6
  have F7 := fun_mk (st := s_counts_of) l7 c7 k7
  have g7 := PySem.W.mg_of X G a7
  have F8 := fun_mk (st := s_add_counts) l8 c8 k8
  have g8 := PySem.W.mg_of X G a8
  have F9 := fun_mk (st := s_live_splits) l9 c9 k9
  have g9 := PySem.W.mg_of X G a9
  have F10 := fun_mk (st := s_live_roots) l10 c10 k10
  have g10 := PySem.W.mg_of X G a10
  have F11 := fun_mk (st := s_sure_rows) l11 c11 k11
  have g11 := PySem.W.mg_of X G a11
  have F12 := fun_mk (st := s__law_deck) l12 c12 k12
  have g12 := PySem.W.mg_of X G a12
  have F13 := fun_mk (st := s__law_draw) l13 c13 k13
  have g13 := PySem.W.mg_of X G a13
  have F14 := fun_mk (st := s__law_mixed) l14 c14 k14
  have g14 := PySem.W.mg_of X G a14
  have F15 := fun_mk (st := s__law_same) l15 c15 k15
  have g15 := PySem.W.mg_of X G a15
  have F16 := fun_mk (st := s__law_size) l16 c16 k16
  have g16 := PySem.W.mg_of X G a16
  have F17 := fun_mk (st := s__law_shapes) l17 c17 k17
  have g17 := PySem.W.mg_of X G a17
  have F18 := fun_mk (st := s__law_spots) l18 c18 k18
  have g18 := PySem.W.mg_of X G a18
  have F19 := fun_mk (st := s__law_letter) l19 c19 k19
  have g19 := PySem.W.mg_of X G a19
  have F20 := fun_mk (st := s__law_labelled) l20 c20 k20
  have g20 := PySem.W.mg_of X G a20
  have F21 := fun_mk (st := s__law_shape) l21 c21 k21
  have g21 := PySem.W.mg_of X G a21
  have F22 := fun_mk (st := s__law_tree) l22 c22 k22
  have g22 := PySem.W.mg_of X G a22
  have F23 := fun_mk (st := s__law_walks) l23 c23 k23
  have g23 := PySem.W.mg_of X G a23
  have F24 := fun_mk (st := s__law_hidden) l24 c24 k24
  have g24 := PySem.W.mg_of X G a24
  have F25 := fun_mk (st := s__law_rows) l25 c25 k25
  have g25 := PySem.W.mg_of X G a25
  have F26 := fun_mk (st := s__law_due) l26 c26 k26
  have g26 := PySem.W.mg_of X G a26
  have F27 := fun_mk (st := s__law_told) l27 c27 k27
  have g27 := PySem.W.mg_of X G a27
  have F28 := fun_mk (st := s_law) l28 c28 k28
  have m_zip := PySem.W.mg_none_of X G z1
  have m_all := PySem.W.mg_none_of X G z2
  have m_repr := PySem.W.mg_none_of X G z3
  have m_sum := PySem.W.mg_none_of X G z4
  have m_len := PySem.W.mg_none_of X G z5
  have m_isinstance := PySem.W.mg_none_of X G z6
  have m_list := PySem.W.mg_none_of X G z7
  have m_tuple := PySem.W.mg_none_of X G z8
  have m_str := PySem.W.mg_none_of X G z9
  have m_int := PySem.W.mg_none_of X G z10
  have m_bool := PySem.W.mg_none_of X G z11
  have m_dict := PySem.W.mg_none_of X G z12
  have m_range := PySem.W.mg_none_of X G z13
  have m_sorted := PySem.W.mg_none_of X G z14
  have m_abs := PySem.W.mg_none_of X G z15
  have m_min := PySem.W.mg_none_of X G z16
  have m_max := PySem.W.mg_none_of X G z17
  have m_enumerate := PySem.W.mg_none_of X G z18
  have m_ValueError := PySem.W.mg_none_of X G z19
  have m1 := PySem.W.mg_of X G v1
  have b1 := F1.binds (ps := ["value"]) fun _ _ _ _ _ _ us hl => match us, hl with | [_], _ => rfl
  have b2 := F2.binds (ps := ["value"]) fun _ _ _ _ _ _ us hl => match us, hl with | [_], _ => rfl
  have b3 := F3.binds (ps := ["rows"]) fun _ _ _ _ _ _ us hl => match us, hl with | [_], _ => rfl
  have b4 := F4.binds (ps := ["given"]) fun _ _ _ _ _ _ us hl => match us, hl with | [_], _ => rfl
  have b5 := F5.binds (ps := ["signs"]) fun _ _ _ _ _ _ us hl => match us, hl with | [_], _ => rfl
  have b6 := F6.binds (ps := ["given", "stretch"]) fun _ _ _ _ _ _ us hl => match us, hl with | [_, _], _ => rfl
  have b7 := F7.binds (ps := ["given"]) fun _ _ _ _ _ _ us hl => match us, hl with | [_], _ => rfl
  have b8 := F8.binds (ps := ["given", "stretch", "counts"]) fun _ _ _ _ _ _ us hl => match us, hl with | [_, _, _], _ => rfl
  have b9 := F9.binds (ps := ["given", "counts", "stretch"]) fun _ _ _ _ _ _ us hl => match us, hl with | [_, _, _], _ => rfl
  have b10 := F10.binds (ps := ["given", "counts"]) fun _ _ _ _ _ _ us hl => match us, hl with | [_, _], _ => rfl
  have b12 := F12.binds (ps := ["_law_script"]) fun _ _ _ _ _ _ us hl => match us, hl with | [_], _ => rfl
  have b13 := F13.binds (ps := ["_law_deck_here", "_law_many"]) fun _ _ _ _ _ _ us hl => match us, hl with | [_, _], _ => rfl
  have b14 := F14.binds (ps := ["_law_deck_here", "_law_row"]) fun _ _ _ _ _ _ us hl => match us, hl with | [_, _], _ => rfl
  have b15 := F15.binds (ps := ["_law_found", "_law_due_here"]) fun _ _ _ _ _ _ us hl => match us, hl with | [_, _], _ => rfl
  have b16 := F16.binds (ps := ["_law_tree_here"]) fun _ _ _ _ _ _ us hl => match us, hl with | [_], _ => rfl
  have b17 := F17.binds (ps := ["_law_many"]) fun _ _ _ _ _ _ us hl => match us, hl with | [_], _ => rfl
  have b18 := F18.binds (ps := ["_law_shape_here", "_law_a", "_law_b", "_law_c"]) fun _ _ _ _ _ _ us hl => match us, hl with | [_, _, _, _], _ => rfl
  have b19 := F19.binds (ps := ["_law_rows_here", "_law_spot"]) fun _ _ _ _ _ _ us hl => match us, hl with | [_, _], _ => rfl
  have b20 := F20.binds (ps := ["_law_shape_here", "_law_letters"]) fun _ _ _ _ _ _ us hl => match us, hl with | [_, _], _ => rfl
  have b21 := F21.binds (ps := ["_law_deck_here", "_law_many", "_law_way"]) fun _ _ _ _ _ _ us hl => match us, hl with | [_, _, _], _ => rfl
  have b22 := F22.binds (ps := ["_law_deck_here", "_law_most"]) fun _ _ _ _ _ _ us hl => match us, hl with | [_, _], _ => rfl
  have b23 := F23.binds (ps := ["_law_tree_here"]) fun _ _ _ _ _ _ us hl => match us, hl with | [_], _ => rfl
  have b24 := F24.binds (ps := ["_law_deck_here", "_law_row"]) fun _ _ _ _ _ _ us hl => match us, hl with | [_, _], _ => rfl
  have b25 := F25.binds (ps := ["_law_deck_here", "_law_most"]) fun _ _ _ _ _ _ us hl => match us, hl with | [_, _], _ => rfl
  have b26 := F26.binds (ps := ["_law_rows_here"]) fun _ _ _ _ _ _ us hl => match us, hl with | [_], _ => rfl
  have b27 := F27.binds (ps := ["_law_call"]) fun _ _ _ _ _ _ us hl => match us, hl with | [_], _ => rfl
  have X_NoFit : ExcC K C_NoFit := ⟨ga_NoFit, gg_NoFit, eC_NoFit, hC_NoFit, h1_NoFit, h2_NoFit, h3_NoFit, h4_NoFit⟩
  have M : Mgs mg := ⟨m_zip, m_all, m_repr, m_sum, m_len, m_isinstance, m_list, m_tuple, m_str, m_int, m_bool, m_dict, m_range, m_sorted, m_abs, m_min, m_max⟩
  have Rk : RowT K mg aR := ⟨PySem.W.mg_of X G aRn, fun H => .inr ⟨_, _, _, aRl, rfl, rfl, (by show 3 ≤ sizeLine; decide), .cons ⟨_, rfl⟩ (.cons ⟨_, rfl⟩ (.cons ⟨_, rfl⟩ .nil))⟩⟩
  have mLET := PySem.W.mg_of X G aLn
  have x0 : Err0 K mg "NoFit" C_NoFit := ⟨gC_NoFit, kC_NoFit, qN, eC_NoFit, tC_NoFit, X_NoFit⟩
  have EN : ErrN K mg C_NoFit C_WalkError := ⟨x0, gC_WalkError, eW, kN, m_ValueError, kV, ⟨_, _, gC_NoRows, gC_NoTree, kM⟩⟩
  have Dis_letter : Df l.prog w K mg base 1 "is_letter" ["value"] spOne := ⟨f1, _, ok_one (k := 0) F1 M, b1, k1, g1⟩
  have Dis_row : Df l.prog w K mg base 2 "is_row" ["value"] spRow := ⟨f2, _, ok_row F2 M m1 Dis_letter, b2, k2, g2⟩
  have Dthree_rows : Df l.prog w K mg base 3 "three_rows" ["rows"] spThree := ⟨f3, _, ok_three F3 M Rk Dis_row, b3, k3, g3⟩
  have Dcommon_letters : Df l.prog w K mg base 1 "common_letters" ["signs"] spComm := ⟨f5, _, ok_comm (k := 0) F5 M mLET, b5, k5, g5⟩
  have Dallowed_splits : Df l.prog w K mg base 2 "allowed_splits" ["given", "stretch"] spAllowed := ⟨f6, _, ok_allowed F6 M Dcommon_letters, b6, k6, g6⟩
  have Dadd_counts : Df l.prog w K mg base 16 "add_counts" ["given", "stretch", "counts"] (spAdd 14) := ⟨f8, _, ok_add F8 M b8 g8 Dallowed_splits 14, b8, k8, g8⟩
  have Dwhole_of : Df l.prog w K mg base 1 "whole_of" ["given"] spWhole := ⟨f4, _, ok_whole (k := 0) F4 M, b4, k4, g4⟩
  have Dcounts_of : Df l.prog w K mg base 17 "counts_of" ["given"] spCounts := ⟨f7, _, ok_counts F7 Dwhole_of Dadd_counts, b7, k7, g7⟩
  have Dlive_splits : Df l.prog w K mg base 3 "live_splits" ["given", "counts", "stretch"] spLive := ⟨f9, _, ok_live F9 M Dallowed_splits, b9, k9, g9⟩
  have Dlive_roots : Df l.prog w K mg base 4 "live_roots" ["given", "counts"] spRoots := ⟨f10, _, ok_roots F10 M Dwhole_of Dlive_splits, b10, k10, g10⟩
  have Dsure_rows : DfKsX l.prog w K mg base 18 "sure_rows" 0 ksS (fun ks => spSure ks C_NoFit) := ⟨f11, fun ks hk => ok_sure (len_s hk) F11 M m_enumerate x0 (kw_s hk) Dthree_rows Dwhole_of Dcounts_of Dlive_roots, k11, g11⟩
  have D_law_deck : Df l.prog w K mg base 1 "_law_deck" ["_law_script"] (spDeck K) := ⟨f12, _, ok_deck (k := 0) F12 M, b12, k12, g12⟩
  have D_law_draw : Df l.prog w K mg base 1 "_law_draw" ["_law_deck_here", "_law_many"] spDraw := ⟨f13, _, ok_draw (k := 0) F13 M, b13, k13, g13⟩
  have D_law_mixed : Df l.prog w K mg base 2 "_law_mixed" ["_law_deck_here", "_law_row"] spMixed := ⟨f14, _, ok_mixed (k := 0) F14 M D_law_draw, b14, k14, g14⟩
  have D_law_same : DfG l.prog w K mg base 20 "_law_same" ["_law_found", "_law_due_here"] (spSame K 20) := ⟨f15, _, ok_same F15 b15 g15 M m_repr 20, b15, k15, g15⟩
  have D_law_size : Df l.prog w K mg base 30 "_law_size" ["_law_tree_here"] (spSSize 30) := ⟨f16, _, ok_ssize F16 b16 g16 30, b16, k16, g16⟩
  have D_law_labelled : Df l.prog w K mg base 51 "_law_labelled" ["_law_shape_here", "_law_letters"] (spLab 21) := ⟨f20, _, ok_lab F20 b20 g20 D_law_size 21, b20, k20, g20⟩
  have D_law_shape : Df l.prog w K mg base 22 "_law_shape" ["_law_deck_here", "_law_many", "_law_way"] (spShape 21) := ⟨f21, _, ok_shape F21 b21 g21 D_law_draw 21, b21, k21, g21⟩
  have D_law_tree : Df l.prog w K mg base 52 "_law_tree" ["_law_deck_here", "_law_most"] spTree := ⟨f22, _, ok_tree F22 M D_law_draw D_law_mixed D_law_labelled D_law_shape, b22, k22, g22⟩
  have D_law_walks : Df l.prog w K mg base 21 "_law_walks" ["_law_tree_here"] (spLWalks 21) := ⟨f23, _, ok_lwalks F23 b23 g23 21, b23, k23, g23⟩
  have D_law_hidden : Df l.prog w K mg base 2 "_law_hidden" ["_law_deck_here", "_law_row"] spHid := ⟨f24, _, ok_hidden F24 M D_law_draw, b24, k24, g24⟩
  have D_law_rows : Df l.prog w K mg base 53 "_law_rows" ["_law_deck_here", "_law_most"] spLRows := ⟨f25, _, ok_lrows F25 M D_law_draw D_law_tree D_law_walks D_law_hidden, b25, k25, g25⟩
  have D_law_shapes : Df l.prog w K mg base 1 "_law_shapes" ["_law_many"] spShapes := ⟨f17, _, ok_shapes F17 M, b17, k17, g17⟩
  have D_law_spots : Df l.prog w K mg base 43 "_law_spots" ["_law_shape_here", "_law_a", "_law_b", "_law_c"] (spSpots 13) := ⟨f18, _, ok_lspots F18 b18 g18 D_law_size 13, b18, k18, g18⟩
  have D_law_letter : Df l.prog w K mg base 1 "_law_letter" ["_law_rows_here", "_law_spot"] spLetter := ⟨f19, _, ok_letter F19 M, b19, k19, g19⟩
  have D_law_due : Df l.prog w K mg base 44 "_law_due" ["_law_rows_here"] spDue := ⟨f26, _, ok_due F26 M D_law_shapes D_law_spots D_law_letter, b26, k26, g26⟩
  exact run_law F28 eCd TB hP (.of_eq rfl) en hS M EN F27 g27 k27 b27 D_law_deck D_law_rows D_law_due D_law_same Dsure_rows
end Tw
open PySem PySem.W PyProof.Rows
set_option maxRecDepth 100000 in
set_option maxHeartbeats 0 in
theorem PySem.Challenge.cw_treewalks_k44_sure_labels_holds : PySem.Challenge.rw_treewalks_k44_sure_labels.Holds := by
  w_on; o_law; k_head; (case hw => w_witness2)
  k_fill
  refine Tw.walk_atT (l := PySem.Challenge.rw_treewalks_k44_sure_labels) rfl rfl (fun w h Y => by first | exact PySem.W.kIn_of Y | exact PySem.W.km_in_of Y) ?F
  case F =>
    intro w mg fa h Y KX G hmg
    refine' Tw.all_mk KX G hmg ?a_NoFit ?a_WalkError ?a_NoRows ?a_NoTree ?x_NoFit ?sa_NoFit ?ga_NoFit ?gg_NoFit ?kC_NoFit ?eC_NoFit ?tC_NoFit ?hC_NoFit ?h1_NoFit ?h2_NoFit ?h3_NoFit ?h4_NoFit ?aRn ?aRl ?aLn ?qN ?eW ?kN ?kV ?kM ?eCd ?eLk ?eP ?eHd ?eNo ?eNe ?eTs ?a1 ?l1 ?c1 ?k1 ?a2 ?l2 ?c2 ?k2 ?a3 ?l3 ?c3 ?k3 ?a4 ?l4 ?c4 ?k4 ?a5 ?l5 ?c5 ?k5 ?a6 ?l6 ?c6 ?k6 ?a7 ?l7 ?c7 ?k7 ?a8 ?l8 ?c8 ?k8 ?a9 ?l9 ?c9 ?k9 ?a10 ?l10 ?c10 ?k10 ?a11 ?l11 ?c11 ?k11 ?a12 ?l12 ?c12 ?k12 ?a13 ?l13 ?c13 ?k13 ?a14 ?l14 ?c14 ?k14 ?a15 ?l15 ?c15 ?k15 ?a16 ?l16 ?c16 ?k16 ?a17 ?l17 ?c17 ?k17 ?a18 ?l18 ?c18 ?k18 ?a19 ?l19 ?c19 ?k19 ?a20 ?l20 ?c20 ?k20 ?a21 ?l21 ?c21 ?k21 ?a22 ?l22 ?c22 ?k22 ?a23 ?l23 ?c23 ?k23 ?a24 ?l24 ?c24 ?k24 ?a25 ?l25 ?c25 ?k25 ?a26 ?l26 ?c26 ?k26 ?a27 ?l27 ?c27 ?k27 ?a28 ?l28 ?c28 ?k28 ?z1 ?z2 ?z3 ?z4 ?z5 ?z6 ?z7 ?z8 ?z9 ?z10 ?z11 ?z12 ?z13 ?z14 ?z15 ?z16 ?z17 ?z18 ?z19 ?v1
    (case a_NoFit => k_is)
    (case a_WalkError => k_is)
    (case a_NoRows => k_is)
    (case a_NoTree => k_is)
    (case x_NoFit => k_is)
    (case sa_NoFit => k_is)
    (case ga_NoFit => k_is)
    (case gg_NoFit => k_is)
    (case kC_NoFit => k_is)
    (case eC_NoFit => k_is)
    (case tC_NoFit => k_is)
    (case hC_NoFit => k_is)
    (case h1_NoFit => k_is)
    (case h2_NoFit => k_is)
    (case h3_NoFit => k_is)
    (case h4_NoFit => k_is)
    (case aRn => first | k_is | rfl | decide +kernel)
    (case aRl => first | k_is | rfl | decide +kernel)
    (case aLn => first | k_is | rfl | decide +kernel)
    (case qN => k_exc)
    (case eW => first | k_is | rfl | decide +kernel)
    (case kN => first | k_is | rfl | decide +kernel)
    (case kV => first | k_is | rfl | decide +kernel)
    (case kM => first | k_is | rfl | decide +kernel)
    (case a1 => k_is)
    (case l1 => k_is)
    (case c1 => k_is)
    (case k1 => k_is)
    (case a2 => k_is)
    (case l2 => k_is)
    (case c2 => k_is)
    (case k2 => k_is)
    (case a3 => k_is)
    (case l3 => k_is)
    (case c3 => k_is)
    (case k3 => k_is)
    (case a4 => k_is)
    (case l4 => k_is)
    (case c4 => k_is)
    (case k4 => k_is)
    (case a5 => k_is)
    (case l5 => k_is)
    (case c5 => k_is)
    (case k5 => k_is)
    (case a6 => k_is)
    (case l6 => k_is)
    (case c6 => k_is)
    (case k6 => k_is)
    (case a7 => k_is)
    (case l7 => k_is)
    (case c7 => k_is)
    (case k7 => k_is)
    (case a8 => k_is)
    (case l8 => k_is)
    (case c8 => k_is)
    (case k8 => k_is)
    (case a9 => k_is)
    (case l9 => k_is)
    (case c9 => k_is)
    (case k9 => k_is)
    (case a10 => k_is)
    (case l10 => k_is)
    (case c10 => k_is)
    (case k10 => k_is)
    (case a11 => k_is)
    (case l11 => k_is)
    (case c11 => k_is)
    (case k11 => k_is)
    (case a12 => k_is)
    (case l12 => k_is)
    (case c12 => k_is)
    (case k12 => k_is)
    (case a13 => k_is)
    (case l13 => k_is)
    (case c13 => k_is)
    (case k13 => k_is)
    (case a14 => k_is)
    (case l14 => k_is)
    (case c14 => k_is)
    (case k14 => k_is)
    (case a15 => k_is)
    (case l15 => k_is)
    (case c15 => k_is)
    (case k15 => k_is)
    (case a16 => k_is)
    (case l16 => k_is)
    (case c16 => k_is)
    (case k16 => k_is)
    (case a17 => k_is)
    (case l17 => k_is)
    (case c17 => k_is)
    (case k17 => k_is)
    (case a18 => k_is)
    (case l18 => k_is)
    (case c18 => k_is)
    (case k18 => k_is)
    (case a19 => k_is)
    (case l19 => k_is)
    (case c19 => k_is)
    (case k19 => k_is)
    (case a20 => k_is)
    (case l20 => k_is)
    (case c20 => k_is)
    (case k20 => k_is)
    (case a21 => k_is)
    (case l21 => k_is)
    (case c21 => k_is)
    (case k21 => k_is)
    (case a22 => k_is)
    (case l22 => k_is)
    (case c22 => k_is)
    (case k22 => k_is)
    (case a23 => k_is)
    (case l23 => k_is)
    (case c23 => k_is)
    (case k23 => k_is)
    (case a24 => k_is)
    (case l24 => k_is)
    (case c24 => k_is)
    (case k24 => k_is)
    (case a25 => k_is)
    (case l25 => k_is)
    (case c25 => k_is)
    (case k25 => k_is)
    (case a26 => k_is)
    (case l26 => k_is)
    (case c26 => k_is)
    (case k26 => k_is)
    (case a27 => k_is)
    (case l27 => k_is)
    (case c27 => k_is)
    (case k27 => k_is)
    (case a28 => k_is)
    (case l28 => k_is)
    (case c28 => k_is)
    (case k28 => k_is)
    (case z1 => k_is)
    (case z2 => k_is)
    (case z3 => k_is)
    (case z4 => k_is)
    (case z5 => k_is)
    (case z6 => k_is)
    (case z7 => k_is)
    (case z8 => k_is)
    (case z9 => k_is)
    (case z10 => k_is)
    (case z11 => k_is)
    (case z12 => k_is)
    (case z13 => k_is)
    (case z14 => k_is)
    (case z15 => k_is)
    (case z16 => k_is)
    (case z17 => k_is)
    (case z18 => k_is)
    (case z19 => k_is)
    (case v1 => k_is)
    (case eCd => rfl)
    (case eLk => k_is)
    (case eP => rfl)
    (case eHd => first | kernel_rfl | decide +kernel | rfl)
    (case eNo => first | kernel_rfl | decide +kernel | rfl | k_is)
    (case eNe => first | decide +kernel | decide)
    (case eTs => exact PySem.W.km_tabs_of Y _ (by first | k_mem | simp | decide))
