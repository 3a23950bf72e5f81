import PyProof.Rows.All
import Wide.All
import OpenK.AllK
import Wide.FinOn
import HandS.ForMost
import HandS.ForExc
import HandS.Wide
import HandS.IsInst
import HandS.Flow
import HandS.FStrTup
import HandS.NoneIn
import HandS.TupAny
import HandS.Style
import HandS.TryMany
import HandS.ExcIs
import HandS.ExcField
import HandS.ExcOwn
import KE.KExcInit
import KE.KExcIs
import HandS.Walk
import HandS.Zip
import HandS.Star
import HandS.Style
import PyProof.Rows.SortShellAny
import KE.GoesZip
import KE.GoesMore
import KE.SortKeyHeap
import HandS.Lambda
import HandS.EndTab
import PyProof.CollectStr
import PyProof.P3Eq
import HandS.Sort
import HandS.Set
import HandS.SetFor
import HandS.Strs
import HandS.SetTxt0
import HandS.TupSets
import HandS.DictComp
import KE.KSortTupG
import KE.KSortTupUse
import KE.KDictZip
import HandS.More
import HandS.Replace
import HandS.ClsMeth
import HandS.Defaults
import HandS.CallSlots
import HandS.Property
import HandS.CallLocal
import HandS.FStr
import HandS.SlotsOwn
import KE.KCallOwn
import PySem.Challenge.RW_treewalks_k19_whole_sums_of_renamings
set_option Elab.async false
set_option maxRecDepth 100000
set_option maxHeartbeats 4000000
namespace Tw
open PySem PySem.Spec PyProof.Rows L2
/-! ### trees over signs -/
abbrev ch (c : Nat) : Str := ⟨#[c]⟩
def tx (l : List Nat) : Str := ⟨l.toArray⟩
theorem tx_cps (l : List Nat) : (tx l).cps.toList = l := rfl
theorem tx_size (l : List Nat) : (tx l).cps.size = l.length := rfl
theorem tx_len (l : List Nat) : (tx l).length = l.length := rfl
theorem tx_one (c : Nat) : tx [c] = ch c := rfl
theorem tx_app (a b : List Nat) : tx a ++ tx b = tx (a ++ b) := by
  show (⟨(tx a).cps ++ (tx b).cps⟩ : Str) = _
  simp [tx]
theorem ch_app (c : Nat) (b : List Nat) : ch c ++ tx b = tx (c :: b) := tx_app [c] b
theorem tx_inj {a b : List Nat} (h : tx a = tx b) : a = b := congrArg (fun z : Str => z.cps.toList) h
theorem ch_inj {a b : Nat} (h : ch a = ch b) : a = b := by have := tx_inj (a := [a]) (b := [b]) h; simpa using this
theorem ch_lt (a b : Nat) : decide ((ch a).cps.toList < (ch b).cps.toList) = decide (a < b) := by
  have : ((ch a).cps.toList < (ch b).cps.toList) ↔ a < b := by
    show [a] < [b] ↔ _
    simp [List.cons_lt_cons_iff]
  simp only [this]
theorem tx_to (l : List Nat) (k : Nat) : cutS (tx l) none (some (k : Int)) = tx (l.take k) := by
  unfold cutS tx
  show (⟨_⟩ : Str) = ⟨_⟩
  rw [HT.sIx_nat, HT.sIx_none]
  show (⟨((l.drop 0).take (min k l.length - 0)).toArray⟩ : Str) = ⟨(l.take k).toArray⟩
  rw [List.drop_zero, Nat.sub_zero, Nat.min_def]
  split
  · rfl
  · rw [List.take_of_length_le (Nat.le_refl _), List.take_of_length_le (by omega)]
theorem tx_from (l : List Nat) (k : Nat) : cutS (tx l) (some (k : Int)) none = tx (l.drop k) := by
  unfold cutS tx
  show (⟨_⟩ : Str) = ⟨_⟩
  rw [HT.sIx_nat, HT.sIx_none]
  show (⟨((l.drop (min k l.length)).take (l.length - min k l.length)).toArray⟩ : Str) = ⟨(l.drop k).toArray⟩
  by_cases h : k ≤ l.length
  · rw [Nat.min_eq_left h, List.take_of_length_le (by rw [List.length_drop]; omega)]
  · rw [Nat.min_eq_right (by omega), List.drop_eq_nil_of_le (Nat.le_refl _), List.drop_eq_nil_of_le (by omega), List.take_nil]
theorem joinL_ones : ∀ l : List Nat, TL.joinL [] (l.map fun c => [c]) = l
  | [] => rfl
  | [c] => rfl
  | c :: d :: r => by
    have := joinL_ones (d :: r)
    show [c] ++ ([] ++ TL.joinL [] ((d :: r).map fun c => [c])) = _
    rw [this]; rfl
theorem tx_join (l : List Nat) : Txt.join (Str.ofString "") (l.map ch) = tx l := by
  rw [TL.join_eq]
  have e := TL.tl_join (Str.ofString "") (l.map ch)
  refine TL.ext_tl (e.trans ?_)
  rw [List.map_map]
  exact joinL_ones l
theorem tx_joinOk (l : List Nat) (h : l.length ≤ 1000) : ((l.map ch).map (·.length)).sum + (l.map ch).length * (Str.ofString "").length ≤ 16777216 := by
  have e0 : (Str.ofString "").length = 0 := by decide +kernel
  have e1 : ∀ l : List Nat, ((l.map ch).map (·.length)).sum = l.length := by
    intro l
    induction l with
    | nil => rfl
    | cons c r ih =>
      rw [List.map_cons, List.map_cons, List.sum_cons, ih, List.length_cons]
      show 1 + r.length = _
      omega
  rw [e0, e1]
  omega
inductive B where
  | nil
  | node (l : B) (x : Nat) (r : B)
  deriving DecidableEq
def B.size : B → Nat
  | .nil => 0
  | .node l _ r => l.size + 1 + r.size
def B.deep : B → Nat
  | .nil => 0
  | .node l _ r => 1 + max l.deep r.deep
def B.data : B → PyData
  | .nil => .none
  | .node l x r => .tuple [l.data, .str (ch x), r.data]
def B.pre : B → List Nat
  | .nil => []
  | .node l x r => x :: (l.pre ++ r.pre)
def B.mid : B → List Nat
  | .nil => []
  | .node l x r => l.mid ++ x :: r.mid
theorem B.deep_le : ∀ t : B, t.deep ≤ t.size
  | .nil => Nat.le_refl _
  | .node l _ r => by
    have h1 := l.deep_le
    have h2 := r.deep_le
    show 1 + max l.deep r.deep ≤ l.size + 1 + r.size
    omega
theorem B.pre_len : ∀ t : B, t.pre.length = t.size
  | .nil => rfl
  | .node l x r => by
    have h1 := l.pre_len
    have h2 := r.pre_len
    show (x :: (l.pre ++ r.pre)).length = l.size + 1 + r.size
    rw [List.length_cons, List.length_append]
    omega
theorem B.mid_len : ∀ t : B, t.mid.length = t.size
  | .nil => rfl
  | .node l x r => by
    have h1 := l.mid_len
    have h2 := r.mid_len
    show (l.mid ++ x :: r.mid).length = l.size + 1 + r.size
    rw [List.length_append, List.length_cons]
    omega
theorem B.mid_mem (t : B) (c : Nat) : c ∈ t.mid ↔ c ∈ t.pre := by
  induction t with
  | nil => exact Iff.rfl
  | node l x r h1 h2 =>
    show c ∈ l.mid ++ x :: r.mid ↔ c ∈ x :: (l.pre ++ r.pre)
    rw [List.mem_append, List.mem_cons, List.mem_cons, List.mem_append, h1, h2]
    constructor
    · rintro (h | h | h)
      · exact .inr (.inl h)
      · exact .inl h
      · exact .inr (.inr h)
    · rintro (h | h | h)
      · exact .inr (.inl h)
      · exact .inl h
      · exact .inr (.inr h)
/-- the tree t lies at v -/
inductive BAt (H : Hp) : V → B → Prop
  | nil : BAt H .non .nil
  | node {a : Addr} {l r : V} {x : Nat} {tl tr : B} : H a = some (.tup [l, .str (ch x), r]) → BAt H l tl → BAt H r tr → BAt H (.ref a) (.node tl x tr)
/-- tuples stand still -/
def KeepT (H H' : Hp) : Prop := ∀ b xs, H b = some (.tup xs) → H' b = some (.tup xs)
theorem KeepT.refl (H : Hp) : KeepT H H := fun _ _ h => h
theorem KeepT.trans {H H1 H2 : Hp} (a : KeepT H H1) (b : KeepT H1 H2) : KeepT H H2 := fun c xs h => b c xs (a c xs h)
theorem Same.keepT {H H' : Hp} (h : Same H H') : KeepT H H' := fun b xs e => h b _ e
theorem BAt.keep {H H' : Hp} (k : KeepT H H') {v : V} {t : B} (h : BAt H v t) : BAt H' v t := by
  induction h with
  | nil => exact .nil
  | node e _ _ h1 h2 => exact .node (k _ _ e) h1 h2
theorem BAt.same {H H' : Hp} (k : Same H H') {v : V} {t : B} (h : BAt H v t) : BAt H' v t := h.keep (Tw.Same.keepT k)
theorem BAt.dp {K : PySem.W.Frag} {H : Hp} {v : V} {t : B} (h : BAt H v t) : Dp K H v t.data := by
  induction h with
  | nil => exact .non
  | node e _ _ h1 h2 => exact .tup (SqT.of e) (.cons h1 (.cons (.str _) (.cons h2 .nil)))
theorem BAt.inv {H : Hp} {v : V} {t : B} (h : BAt H v t) : (v = .non ∧ t = .nil) ∨ ∃ a l r x tl tr, v = .ref a ∧ t = .node tl x tr ∧ H a = some (.tup [l, .str (ch x), r]) ∧ BAt H l tl ∧ BAt H r tr := by
  cases h with
  | nil => exact .inl ⟨rfl, rfl⟩
  | node e h1 h2 => exact .inr ⟨_, _, _, _, _, _, rfl, rfl, e, h1, h2⟩
theorem same_new {H : Hp} {p : Addr} (h : H p = none) (o : HO) : Same H (upd H p o) := fun b u q => by rw [upd_ne (ne_of_none q h)]; exact q
theorem small {n : Nat} (h : n ≤ 1000) : n ≤ sizeLine := Nat.le_of_lt (small1000 h)
theorem at_map {α : Type} {f : α → V} {ns : List α} {i : Int} {v : α} (h0 : 0 ≤ i) (h : ns[i.toNat]? = some v) : atI (ns.map f) i = some (f v) := by
  have e : i = ((i.toNat : Nat) : Int) := by omega
  rw [e]
  exact atI_nat (by rw [List.getElem?_map, h]; rfl)
theorem ixN_nat {n : Nat} {i : Int} (h0 : 0 ≤ i) (h : i < n) : ixN n i = some i.toNat := by
  unfold ixN
  first
    | rw [if_pos h0, if_pos h]
    | (rw [if_pos h0]; rw [if_pos (by omega)])
    | simp [h0, h]
theorem cut_to (xs : List V) (k : Nat) : cutV xs none (some (k : Int)) = xs.take k := by
  unfold cutV
  rw [HT.sIx_nat, HT.sIx_none, List.drop_zero, Nat.sub_zero]
  rw [Nat.min_def]
  split
  · rfl
  · rw [List.take_of_length_le (Nat.le_refl _), List.take_of_length_le (by omega)]
theorem cut_from (xs : List V) (k : Nat) : cutV xs (some (k : Int)) none = xs.drop k := by
  unfold cutV
  rw [HT.sIx_nat, HT.sIx_none]
  by_cases h : k ≤ xs.length
  · rw [Nat.min_eq_left h, List.take_of_length_le (by rw [List.length_drop]; omega)]
  · rw [Nat.min_eq_right (by omega), List.drop_eq_nil_of_le (Nat.le_refl _), List.drop_eq_nil_of_le (by omega), List.take_nil]
theorem kept {σ : L2.St} {H : Hp} {A B : Hp → Prop} (h : A H) : tYes σ H (fun b H3 => if b = true then A H3 else B H3) := by
  show if true = true then A H else B H
  exact iteT h
theorem erase_map {α β : Type} (f : α → β) : ∀ (l : List α) (i : Nat), (l.map f).eraseIdx i = (l.eraseIdx i).map f
  | [], _ => rfl
  | _ :: _, 0 => rfl
  | x :: l, i + 1 => congrArg (f x :: ·) (erase_map f l i)
/-- a def that stands at a name, with its promise -/
structure Df (P : Program) (w : World) (K : PySem.W.Frag) (mg : Str → Option Value) (base : Heap) (k : Nat) (nm : Str) (ps : List Str) (sp : Sp) where
  f : Addr
  fd : FuncData
  ok : FnOk P w K mg base CX0 k f fd ps sp
  b : Binds K fd ps []
  kp : PySem.W.keepIn K (.ref f) = true
  g : mg nm = some (.ref f)
structure Mgs (mg : Str → Option Value) : Prop where
  zip : mg "zip" = none
  all : mg "all" = none
  repr : mg "repr" = none
  len : mg "len" = none
  isinstance : mg "isinstance" = none
  list : mg "list" = none
  tuple : mg "tuple" = none
  str : mg "str" = none
  int : mg "int" = none
  bool : mg "bool" = none
  dict : mg "dict" = none
  range : mg "range" = none
  sorted : mg "sorted" = none
  abs : mg "abs" = none
  min : mg "min" = none
  max : mg "max" = none
theorem vals_signs : ∀ (l : List Nat) (vs : List Value), vs.length = l.length → (∀ (j : Nat) (v : Value), vs[j]? = some v → ∃ c u, l[j]? = some c ∧ v = .str ⟨#[c]⟩ u) → Vals (l.map fun c => V.str ⟨#[c]⟩) vs
  | [], [], _, _ => .nil
  | [], _ :: _, h, _ => by simp at h
  | _ :: _, [], h, _ => by simp at h
  | c :: l, v :: vs, h, k => by
    obtain ⟨c', u, e, rfl⟩ := k 0 v rfl
    cases e
    exact .cons ⟨u, rfl⟩ (vals_signs l vs (by simpa using h) fun j v e => k (j + 1) v e)
theorem call_signs {X : Cx} (hc : X.calm = true) : CallR X (.type "list") (fun xs H Q => ∃ x : Str, xs = [.str x] ∧ x.cps.size ≤ 1000 ∧ ∀ p, H p = none → Q (.ref p) (upd H p (.lst (x.cps.toList.map fun c => V.str ⟨#[c]⟩)))) := by
  intro pins s σ H xs us Q I r h
  obtain ⟨x, rfl, hz, q⟩ := h
  obtain ⟨u, rfl, t, rfl⟩ := vals1 r
  have hz' : x.cps.size ≤ sizeLine := small hz
  refine call_list_str (I.ok.hd hc) x t (fun h' tk acc' c' hk hS hacc => ?_) hz'
  have hv : Vals (x.cps.toList.map fun c => V.str ⟨#[c]⟩) acc'.toList := vals_signs _ _ (by rw [Array.length_toList, Array.length_toList]; exact hacc.1) fun j v e => by
    obtain ⟨c, u, h1, h2⟩ := hacc.2 j v (by rw [← Array.getElem?_toList]; exact e)
    exact ⟨c, u, by rw [Array.getElem?_toList]; exact h1, h2⟩
  exact ⟨.ref s.heap.objs.size, _, I.laid (t' := tk) hk (Nat.le_refl _) (show ObjOk X.prog X.w _ h' _ (.lst _) from ⟨by rw [List.length_map, Array.length_toList]; exact hz', acc'.toList, c', hv, by rw [Array.toArray_toList]; exact hS⟩), rfl, q _ (I.hok.fresh (Nat.le_refl _))⟩
/-- for c in text -/
theorem for_text {x : Str} {g : TG} {tb : TS} {D : Ends} {σ : L2.St} {H : Hp} (Pv : Nat → L2.St → Hp → Prop) (h0 : Pv 0 σ H)
    (hs : ∀ i c σ H, x.cps.toList[i]? = some c → Pv i σ H → g (.str ⟨#[c]⟩) σ H fun σ2 H2 => tb { D with nx := Pv (i + 1), ct := Pv (i + 1), bk := D.nx } σ2 H2)
    (hd : ∀ σ H, Pv x.cps.toList.length σ H → D.nx σ H) :
    ∃ W : Nat → Nat → L2.St → Hp → Prop, (∃ m, W 0 m σ H) ∧ ∀ i m σ H, W i m σ H →
      ((Its x).stop i H ∧ D.nx σ H) ∨ ((Its x).go i H ∧ ∃ N : L2.St → Hp → Prop, (∀ σ' H', N σ' H' → ∃ m', m' < m ∧ W (i + 1) m' σ' H') ∧ ∀ v H', (Its x).yld i H v H' → g v σ H' fun σ2 H2 => tb { D with nx := N, ct := N, bk := D.nx } σ2 H2) := by
  refine for_it walk_str Pv h0 (fun _ _ _ _ _ => trivial) (fun i v σ H H' hi hp hy => ?_) (fun σ H hp => hd σ H (by rw [Array.length_toList]; exact hp))
  obtain ⟨rfl, c, hc, rfl⟩ := hy
  exact hs i c σ H' (by rw [Array.getElem?_toList]; exact hc) hp
theorem lc_text {x : Str} {g : TG} {tt : TT} {te : TE} {vs : List Nat} {σ : L2.St} {H1 : Hp} {D : Addr} {Qd : Hp → Prop} (Pv : Nat → Hp → Prop) (h0 : Pv 0 (upd H1 D (.lst [])))
    (hs : ∀ i c H, x.cps.toList[i]? = some c → Pv i H → g (.str ⟨#[c]⟩) (wipe σ vs) H fun σ2 H2 => wipe σ2 vs = wipe σ vs ∧ tt σ2 H2 fun b H3 =>
      if b = true then te σ2 H3 fun y H4 => ∃ acc, H4 D = some (.lst acc) ∧ acc.length < sizeLine ∧ Pv (i + 1) (upd H4 D (.lst (acc ++ [y]))) else Pv (i + 1) H3) (hd : ∀ H, Pv x.cps.toList.length H → Qd H) :
    ∃ W : Nat → Nat → Hp → Prop, (∃ m, W 0 m (upd H1 D (.lst []))) ∧ ∀ i m H, W i m H →
      ((Its x).stop i H ∧ Qd H) ∨ ((Its x).go i H ∧ ∃ Nx : Hp → Prop, (∀ H', Nx H' → ∃ m', m' < m ∧ W (i + 1) m' H') ∧ ∀ v H', (Its x).yld i H v H' → g v (wipe σ vs) H' fun σ2 H2 => wipe σ2 vs = wipe σ vs ∧ tt σ2 H2 fun b H3 =>
        if b = true then te σ2 H3 fun y H4 => ∃ acc, H4 D = some (.lst acc) ∧ acc.length < sizeLine ∧ Nx (upd H4 D (.lst (acc ++ [y]))) else Nx H3) := by
  refine lc_it walk_str Pv h0 (fun _ _ _ _ => trivial) (fun i v H H' hi hp hy => ?_) (fun H hp => hd H (by rw [Array.length_toList]; exact hp))
  obtain ⟨rfl, c, hc, rfl⟩ := hy
  exact hs i c H' (by rw [Array.getElem?_toList]; exact hc) hp
/-! ### the text by places -/
def top (i : Nat) : Stmt := PySem.Challenge.pw_treewalks_k19_whole_sums_of_renamings.main.body.getD i (.Pass ⟨0, 0, 0, 0⟩)
abbrev s_is_letter : Stmt := top 11
abbrev s_is_lead : Stmt := top 13
abbrev s_size_of : Stmt := top 16
abbrev s_mirrored : Stmt := top 17
abbrev s_is_kind : Stmt := top 20
abbrev s_ordered_steps : Stmt := top 21
abbrev s_deep_steps : Stmt := top 22
abbrev s_level_steps : Stmt := top 23
abbrev s_walk : Stmt := top 24
abbrev s__law_start : Stmt := top 26
abbrev s__law_draw : Stmt := top 27
abbrev s__law_letters : Stmt := top 28
abbrev s__law_grown : Stmt := top 29
abbrev s__law_tree : Stmt := top 30
abbrev s__law_table : Stmt := top 31
abbrev s__law_to : Stmt := top 32
abbrev s__law_text : Stmt := top 33
abbrev s__law_twice : Stmt := top 34
abbrev s__law_back : Stmt := top 35
abbrev s__law_back_right : Stmt := top 36
abbrev s__law_sum_right : Stmt := top 37
abbrev s__law_within_right : Stmt := top 38
abbrev s__law_calls_right : Stmt := top 39
abbrev s_law : Stmt := top 40
abbrev s_Twice___init__ : Stmt := inClass (top 3) 0
abbrev s_NoLabel___init__ : Stmt := inClass (top 4) 0
abbrev s_NotOneToOne___init__ : Stmt := inClass (top 5) 0
abbrev s_BadText___init__ : Stmt := inClass (top 6) 0
abbrev s_NoKind___init__ : Stmt := inClass (top 7) 0
abbrev s_NoLetter___init__ : Stmt := inClass (top 8) 0
abbrev s_Renaming___init__ : Stmt := inClass (top 14) 0
abbrev s_Renaming_read : Stmt := inClass (top 14) 1
abbrev s_Renaming___call__ : Stmt := inClass (top 14) 2
abbrev s_Renaming_renamed : Stmt := inClass (top 14) 3
abbrev s_Renaming_letter_after : Stmt := inClass (top 14) 4
abbrev s_Renaming___getitem__ : Stmt := inClass (top 14) 5
abbrev s_Renaming___iter__ : Stmt := inClass (top 14) 6
abbrev s_Renaming___contains__ : Stmt := inClass (top 14) 7
abbrev s_Renaming___add__ : Stmt := inClass (top 14) 8
abbrev s_Renaming___neg__ : Stmt := inClass (top 14) 9
abbrev s_Renaming_within : Stmt := inClass (top 14) 10
abbrev s_Renaming___eq__ : Stmt := inClass (top 14) 11
abbrev s_Renaming___len__ : Stmt := inClass (top 14) 12
abbrev s_Renaming___bool__ : Stmt := inClass (top 14) 13
abbrev s_Renaming___str__ : Stmt := inClass (top 14) 14
theorem sc_is_letter : FnScope ["value"] ["value"] (defScope s_is_letter) := ⟨rfl, rfl, rfl, by decide +kernel, rfl, by decide +kernel, by decide +kernel⟩
theorem sc_is_lead : FnScope ["word"] ["word"] (defScope s_is_lead) := ⟨rfl, rfl, rfl, by decide +kernel, rfl, by decide +kernel, by decide +kernel⟩
theorem sc_size_of : FnScope ["tree"] ["tree"] (defScope s_size_of) := ⟨rfl, rfl, rfl, by decide +kernel, rfl, by decide +kernel, by decide +kernel⟩
theorem sc_mirrored : FnScope ["tree", "left", "label", "right"] ["tree"] (defScope s_mirrored) := ⟨rfl, rfl, rfl, by decide +kernel, rfl, by decide +kernel, by decide +kernel⟩
theorem sc_is_kind : FnScope ["value"] ["value"] (defScope s_is_kind) := ⟨rfl, rfl, rfl, by decide +kernel, rfl, by decide +kernel, by decide +kernel⟩
theorem sc_ordered_steps : FnScope ["tree", "kind"] ["tree", "kind"] (defScope s_ordered_steps) := ⟨rfl, rfl, rfl, by decide +kernel, rfl, by decide +kernel, by decide +kernel⟩
theorem sc_deep_steps : FnScope ["tree", "kind", "path", "left", "label", "right", "root", "lefts", "rights"] ["tree", "kind", "path"] (defScope s_deep_steps) := ⟨rfl, rfl, rfl, by decide +kernel, rfl, by decide +kernel, by decide +kernel⟩
theorem sc_level_steps : FnScope ["tree"] ["tree"] (defScope s_level_steps) := ⟨rfl, rfl, rfl, by decide +kernel, rfl, by decide +kernel, by decide +kernel⟩
theorem sc_walk : FnScope ["tree", "kind", "path", "label"] ["tree", "kind"] (defScope s_walk) := ⟨rfl, rfl, rfl, by decide +kernel, rfl, by decide +kernel, by decide +kernel⟩
theorem sc__law_start : FnScope ["_law_script", "_law_cell", "_law_cells"] ["_law_script"] (defScope s__law_start) := ⟨rfl, rfl, rfl, by decide +kernel, rfl, by decide +kernel, by decide +kernel⟩
theorem sc__law_draw : FnScope ["_law_state", "_law_below", "_law_cells", "_law_rests", "_law_time", "_law_spot", "_law_digit", "_law_mixed"] ["_law_state", "_law_below"] (defScope s__law_draw) := ⟨rfl, rfl, rfl, by decide +kernel, rfl, by decide +kernel, by decide +kernel⟩
theorem sc__law_letters : FnScope ["_law_state", "_law_many", "_law_left", "_law_way", "_law_again", "_law_found"] ["_law_state", "_law_many"] (defScope s__law_letters) := ⟨rfl, rfl, rfl, by decide +kernel, rfl, by decide +kernel, by decide +kernel⟩
theorem sc__law_grown : FnScope ["_law_state", "_law_letters_here", "_law_way", "_law_many", "_law_spot", "_law_front", "_law_back_here"] ["_law_state", "_law_letters_here", "_law_way"] (defScope s__law_grown) := ⟨rfl, rfl, rfl, by decide +kernel, rfl, by decide +kernel, by decide +kernel⟩
theorem sc__law_tree : FnScope ["_law_state", "_law_limit", "_law_letters_here"] ["_law_state", "_law_limit"] (defScope s__law_tree) := ⟨rfl, rfl, rfl, by decide +kernel, rfl, by decide +kernel, by decide +kernel⟩
theorem sc__law_table : FnScope ["_law_state", "_law_letters_here", "_law_way", "_law_left", "_law_again", "_law_some", "_law_letter", "_law_shift"] ["_law_state"] (defScope s__law_table) := ⟨rfl, rfl, rfl, by decide +kernel, rfl, by decide +kernel, by decide +kernel⟩
theorem sc__law_to : FnScope ["_law_rows", "_law_letter", "_law_own", "_law_other", "_law_found"] ["_law_rows", "_law_letter"] (defScope s__law_to) := ⟨rfl, rfl, rfl, by decide +kernel, rfl, by decide +kernel, by decide +kernel⟩
theorem sc__law_text : FnScope ["_law_rows", "_law_own", "_law_other"] ["_law_rows"] (defScope s__law_text) := ⟨rfl, rfl, rfl, by decide +kernel, rfl, by decide +kernel, by decide +kernel⟩
theorem sc__law_twice : FnScope ["_law_rows", "_law_letter", "_law_reached", "_law_found"] ["_law_rows"] (defScope s__law_twice) := ⟨rfl, rfl, rfl, by decide +kernel, rfl, by decide +kernel, by decide +kernel⟩
theorem sc__law_back : FnScope ["_law_renaming", "_law_found", "error", "_law_alone"] ["_law_renaming"] (defScope s__law_back) := ⟨rfl, rfl, rfl, by decide +kernel, rfl, by decide +kernel, by decide +kernel⟩
theorem sc__law_back_right : FnScope ["_law_renaming", "_law_rows", "_law_back_here", "_law_due", "_law_letter"] ["_law_renaming", "_law_rows"] (defScope s__law_back_right) := ⟨rfl, rfl, rfl, by decide +kernel, rfl, by decide +kernel, by decide +kernel⟩
theorem sc__law_sum_right : FnScope ["_law_one", "_law_other", "_law_third", "_law_both", "_law_letter", "_law_none"] ["_law_one", "_law_other", "_law_third"] (defScope s__law_sum_right) := ⟨rfl, rfl, rfl, by decide +kernel, rfl, by decide +kernel, by decide +kernel⟩
theorem sc__law_within_right : FnScope ["_law_one", "_law_other", "_law_rows", "_law_part", "_law_letter", "_law_differ"] ["_law_one", "_law_other", "_law_rows"] (defScope s__law_within_right) := ⟨rfl, rfl, rfl, by decide +kernel, rfl, by decide +kernel, by decide +kernel⟩
theorem sc__law_calls_right : FnScope ["_law_state", "_law_one", "_law_other", "_law_tree_here", "_law_both", "_law_many", "_law_more", "_law_twice_here", "_law_kind", "_law_letter", "_law_due"] ["_law_state", "_law_one", "_law_other", "_law_tree_here"] (defScope s__law_calls_right) := ⟨rfl, rfl, rfl, by decide +kernel, rfl, by decide +kernel, by decide +kernel⟩
theorem sc_law : FnScope ["_law_script", "_law_state", "_law_again", "_law_rows", "_law_more", "_law_tree_here", "_law_one", "_law_other", "_law_third", "_law_kept"] ["_law_script"] (defScope s_law) := ⟨rfl, rfl, rfl, by decide +kernel, rfl, by decide +kernel, by decide +kernel⟩
theorem sc_Twice___init__ : FnScope ["self", "letter"] ["self", "letter"] (defScope s_Twice___init__) := ⟨rfl, rfl, rfl, by decide +kernel, rfl, by decide +kernel, by decide +kernel⟩
theorem sc_NoLabel___init__ : FnScope ["self", "letter"] ["self", "letter"] (defScope s_NoLabel___init__) := ⟨rfl, rfl, rfl, by decide +kernel, rfl, by decide +kernel, by decide +kernel⟩
theorem sc_NotOneToOne___init__ : FnScope ["self", "letter"] ["self", "letter"] (defScope s_NotOneToOne___init__) := ⟨rfl, rfl, rfl, by decide +kernel, rfl, by decide +kernel, by decide +kernel⟩
theorem sc_BadText___init__ : FnScope ["self", "index"] ["self", "index"] (defScope s_BadText___init__) := ⟨rfl, rfl, rfl, by decide +kernel, rfl, by decide +kernel, by decide +kernel⟩
theorem sc_NoKind___init__ : FnScope ["self", "value"] ["self", "value"] (defScope s_NoKind___init__) := ⟨rfl, rfl, rfl, by decide +kernel, rfl, by decide +kernel, by decide +kernel⟩
theorem sc_NoLetter___init__ : FnScope ["self", "value"] ["self", "value"] (defScope s_NoLetter___init__) := ⟨rfl, rfl, rfl, by decide +kernel, rfl, by decide +kernel, by decide +kernel⟩
theorem sc_Renaming_read : FnScope ["cls", "text", "leads", "words", "index", "word"] ["cls", "text"] (defScope s_Renaming_read) := ⟨rfl, rfl, rfl, by decide +kernel, rfl, by decide +kernel, by decide +kernel⟩
theorem sc_Renaming___call__ : FnScope ["self", "tree", "times"] ["self", "tree", "times"] (defScope s_Renaming___call__) := ⟨rfl, rfl, rfl, by decide +kernel, rfl, by decide +kernel, by decide +kernel⟩
theorem sc_Renaming_renamed : FnScope ["self", "tree", "times", "left", "label", "right"] ["self", "tree", "times"] (defScope s_Renaming_renamed) := ⟨rfl, rfl, rfl, by decide +kernel, rfl, by decide +kernel, by decide +kernel⟩
theorem sc_Renaming_letter_after : FnScope ["self", "letter", "times", "way", "start"] ["self", "letter", "times"] (defScope s_Renaming_letter_after) := ⟨rfl, rfl, rfl, by decide +kernel, rfl, by decide +kernel, by decide +kernel⟩
theorem sc_Renaming___getitem__ : FnScope ["self", "at"] ["self", "at"] (defScope s_Renaming___getitem__) := ⟨rfl, rfl, rfl, by decide +kernel, rfl, by decide +kernel, by decide +kernel⟩
theorem sc_Renaming___iter__ : FnScope ["self"] ["self"] (defScope s_Renaming___iter__) := ⟨rfl, rfl, rfl, by decide +kernel, rfl, by decide +kernel, by decide +kernel⟩
theorem sc_Renaming___contains__ : FnScope ["self", "x"] ["self", "x"] (defScope s_Renaming___contains__) := ⟨rfl, rfl, rfl, by decide +kernel, rfl, by decide +kernel, by decide +kernel⟩
theorem sc_Renaming___add__ : FnScope ["self", "other", "letter", "leads"] ["self", "other"] (defScope s_Renaming___add__) := ⟨rfl, rfl, rfl, by decide +kernel, rfl, by decide +kernel, by decide +kernel⟩
theorem sc_Renaming___neg__ : FnScope ["self", "letter", "targets", "leads"] ["self"] (defScope s_Renaming___neg__) := ⟨rfl, rfl, rfl, by decide +kernel, rfl, by decide +kernel, by decide +kernel⟩
theorem sc_Renaming_within : FnScope ["self", "other", "letter"] ["self", "other"] (defScope s_Renaming_within) := ⟨rfl, rfl, rfl, by decide +kernel, rfl, by decide +kernel, by decide +kernel⟩
theorem sc_Renaming___eq__ : FnScope ["self", "other"] ["self", "other"] (defScope s_Renaming___eq__) := ⟨rfl, rfl, rfl, by decide +kernel, rfl, by decide +kernel, by decide +kernel⟩
theorem sc_Renaming___len__ : FnScope ["self"] ["self"] (defScope s_Renaming___len__) := ⟨rfl, rfl, rfl, by decide +kernel, rfl, by decide +kernel, by decide +kernel⟩
theorem sc_Renaming___bool__ : FnScope ["self"] ["self"] (defScope s_Renaming___bool__) := ⟨rfl, rfl, rfl, by decide +kernel, rfl, by decide +kernel, by decide +kernel⟩
theorem sc_Renaming___str__ : FnScope ["self", "letter"] ["self"] (defScope s_Renaming___str__) := ⟨rfl, rfl, rfl, by decide +kernel, rfl, by decide +kernel, by decide +kernel⟩
/-! ### the deck -/
structure Deck where
  dk : Addr
  ca : Addr
  ra : Addr
structure DeckOk (H : Hp) (D : Deck) (n : Nat) : Prop where
  ex : ∃ cells rests : List Int, H D.dk = some (.lst [.ref D.ca, .ref D.ra, .int (n : Int)]) ∧ H D.ca = some (.lst (cells.map V.int)) ∧ H D.ra = some (.lst (rests.map V.int)) ∧ 0 < cells.length ∧ rests.length = cells.length ∧ cells.length ≤ 61
  dc : D.dk ≠ D.ca
  dr : D.dk ≠ D.ra
  cr : D.ca ≠ D.ra
/-- all stands still but the deck's list and its rests -/
def SameD (D : Deck) (H H' : Hp) : Prop := ∀ b o, b ≠ D.dk → b ≠ D.ra → H b = some o → H' b = some o
theorem SameD.refl (D : Deck) (H : Hp) : SameD D H H := fun _ _ _ _ h => h
theorem SameD.trans {D : Deck} {H H1 H2 : Hp} (a : SameD D H H1) (b : SameD D H1 H2) : SameD D H H2 := fun c o h1 h2 h => b c o h1 h2 (a c o h1 h2 h)
theorem SameD.of {D : Deck} {H H' : Hp} (h : Same H H') : SameD D H H' := fun b o _ _ e => h b o e
theorem DeckOk.lists {H : Hp} {D : Deck} {n : Nat} (d : DeckOk H D n) : (∃ xs, H D.dk = some (.lst xs)) ∧ (∃ xs, H D.ra = some (.lst xs)) := by
  obtain ⟨c, r, h1, _, h3, _⟩ := d.ex
  exact ⟨⟨_, h1⟩, ⟨_, h3⟩⟩
theorem SameD.keepT {D : Deck} {H H' : Hp} {n : Nat} (h : SameD D H H') (d : DeckOk H D n) : KeepT H H' := fun b xs e => by
  obtain ⟨⟨x1, h1⟩, ⟨x2, h2⟩⟩ := d.lists
  exact h b _ (ne_of e h1 (by intro z; cases z)) (ne_of e h2 (by intro z; cases z)) e
theorem SameD.free {D : Deck} {H H' : Hp} {n : Nat} (h : SameD D H H') (d : DeckOk H' D n) {p : Addr} (e : H' p = none) : H p = none := by
  obtain ⟨⟨x1, h1⟩, ⟨x2, h2⟩⟩ := d.lists
  have n1 : p ≠ D.dk := fun z => by rw [z, h1] at e; cases e
  have n2 : p ≠ D.ra := fun z => by rw [z, h2] at e; cases e
  cases q : H p with
  | none => rfl
  | some o =>
    rw [h p o n1 n2 q] at e
    cases e
theorem DeckOk.same {H H' : Hp} {D : Deck} {n : Nat} (d : DeckOk H D n) (h : Same H H') : DeckOk H' D n := by
  obtain ⟨c, r, h1, h2, h3, h4⟩ := d.ex
  exact ⟨⟨c, r, h _ _ h1, h _ _ h2, h _ _ h3, h4⟩, d.dc, d.dr, d.cr⟩
structure Off (D : Deck) (p : Addr) : Prop where
  dk : p ≠ D.dk
  ca : p ≠ D.ca
  ra : p ≠ D.ra
theorem DeckOk.new {H : Hp} {D : Deck} {n : Nat} (d : DeckOk H D n) {p : Addr} (e : H p = none) : Off D p := by
  obtain ⟨c, r, h1, h2, h3, _⟩ := d.ex
  refine ⟨fun z => ?_, fun z => ?_, fun z => ?_⟩
  · rw [z, h1] at e
    cases e
  · rw [z, h2] at e
    cases e
  · rw [z, h3] at e
    cases e
theorem DeckOk.put {H : Hp} {D : Deck} {n : Nat} (d : DeckOk H D n) {p : Addr} (f : Off D p) (o : HO) : DeckOk (upd H p o) D n := by
  obtain ⟨c, r, h1, h2, h3, h4⟩ := d.ex
  exact ⟨⟨c, r, by rw [upd_ne f.dk.symm]; exact h1, by rw [upd_ne f.ca.symm]; exact h2, by rw [upd_ne f.ra.symm]; exact h3, h4⟩, d.dc, d.dr, d.cr⟩
theorem SameD.put {D : Deck} {H H' : Hp} {p : Addr} (s : SameD D H H') (e : H p = none) (o : HO) : SameD D H (upd H' p o) := fun b u h1 h2 h => by
  rw [upd_ne (ne_of_none h e)]
  exact s b u h1 h2 h
theorem SameD.at {D : Deck} {H H' : Hp} {p : Addr} {o : HO} (s : SameD D H H') (f : Off D p) (e : H p = some o) : H' p = some o := s p o f.dk f.ra e

theorem modB (z p : Int) (h0 : 0 < p) : 0 ≤ z % p ∧ z % p < p := ⟨Int.emod_nonneg z (by omega), Int.emod_lt_of_pos z h0⟩
theorem sq_le {n : Nat} (h : n ≤ 1000000) : 69621 * (n : Int) * (n : Int) ≤ 69621000000000000 ∧ 0 ≤ 69621 * (n : Int) * (n : Int) := by
  have h1 : (n : Int) * (n : Int) ≤ 1000000 * 1000000 := Int.mul_le_mul (by omega) (by omega) (by omega) (by omega)
  have h0 : 0 ≤ (n : Int) * (n : Int) := Int.mul_nonneg (by omega) (by omega)
  rw [Int.mul_assoc]
  omega
def spDraw : Sp := fun vs H Q _ => ∃ (D : Deck) (n : Nat) (m : Int), vs = [.ref D.dk, .int m] ∧ DeckOk H D n ∧ n ≤ 1000000 ∧ 0 < m ∧ m ≤ 1000000 ∧ ∀ (i : Int) (H' : Hp), 0 ≤ i → i < m → DeckOk H' D (n + 1) → SameD D H H' → Q (.int i) H'
section
variable {P : Program} {w : World} {K : PySem.W.Frag} {mg : Str → Option Value} {base : Heap} {f : Addr} {fd : FuncData}
theorem ok_draw {k : Nat} (F : Fun K "_law_draw" "_law_draw" s__law_draw f fd) (M : Mgs mg) : FnOk P w K mg base CX0 (k + 1) f fd ["_law_state", "_law_below"] spDraw := by
  refine F.ok sc__law_draw (fun vs H Q E h => ?_) (fun cdv A outer s H vs Q E hr h => ?_)
  · obtain ⟨D, n, m, rfl, _⟩ := h
    rfl
  obtain ⟨D, n, m, rfl, d, hn, m0, m1, q⟩ := h
  obtain ⟨cells, rests, e1, e2, e3, c0, cr, c1⟩ := d.ex
  refine ⟨_, (pss_cons (ps_asg (pv 0) (pg_unl rfl (pgs_cons (pg_name (i := 2) sc__law_draw.nd rfl (.inl rfl)) (pgs_cons (pg_name (i := 3) sc__law_draw.nd rfl (.inl rfl)) (pgs_cons (pg_name (i := 4) sc__law_draw.nd rfl (.inl rfl)) pgs_nil)))))
    (pss_cons (ps_set (i := 5) sc__law_draw.nd rfl (.inl rfl) (pe_op op_mod (pv 4) (pe_callB call_len_seq rfl M.len PySem.boot_len (pa_cons (pv 2) pa_nil))))
    (pss_cons (ps_asg (pe_op op_add (pv 4) pe_int) (pg_sub (pv 0) pe_int set_list))
    (pss_cons (ps_if (pt_cmpR op_gt (pe_ix ix_list (pv 3) (pv 5) (fun _ _ => rfl)) pe_int (nomark _))
      (pss_cons (ps_set (i := 6) sc__law_draw.nd rfl (.inl rfl) (pe_op op_mod (pe_ix ix_list (pv 3) (pv 5) (fun _ _ => rfl)) (pv 1)))
    (pss_cons (ps_asg (pe_op op_fdiv (pe_ix ix_list (pv 3) (pv 5) (fun _ _ => rfl)) (pv 1)) (pg_sub (pv 3) (pv 5) set_list))
    (pss_one (ps_ret (pv 6))))) pss_nil)
    (pss_cons (ps_set (i := 7) sc__law_draw.nd rfl (.inl rfl) (pe_op op_mod (pe_op op_pow (pe_op op_add (pe_op op_add (pe_op op_mod (pe_ix ix_list (pv 2) (pv 5) (fun _ _ => rfl)) pe_int) (pe_op op_mul pe_int (pv 4))) pe_int) pe_int) pe_int))
    (pss_cons (ps_set (i := 7) sc__law_draw.nd rfl (.inl rfl) (pe_op op_mod (pe_op op_pow (pe_op op_add (pe_op op_add (pv 7) (pe_op op_mul (pe_op op_mul pe_int (pv 4)) (pv 4))) pe_int) pe_int) pe_int))
    (pss_one (ps_ret (pe_op op_mod (pe_op op_fdiv (pv 7) pe_int) (pv 1)))))))))), ?_⟩
  refine ⟨_, rfl, D.dk, _, rfl, SqL.of e1, rfl, _, _, rfl, _, _, rfl, _, _, rfl, rfl, ?_⟩
  have cl : ((cells.map V.int).length : Int) = (cells.length : Int) := by rw [List.length_map]
  refine ⟨_, rfl, _, rfl, D.ca, _, rfl, .inl (SqL.of e2), _, _, rfl, rfl, (by show (0 : Int) < ((cells.map V.int).length : Int); rw [cl]; omega), ?_⟩
  have i0 : 0 ≤ (n : Int) % ((cells.map V.int).length : Int) := Int.emod_nonneg _ (by rw [cl]; omega)
  have i1 : (n : Int) % ((cells.map V.int).length : Int) < (cells.length : Int) := by
    rw [cl]
    exact Int.emod_lt_of_pos _ (by omega)
  refine ⟨_, rfl, _, _, rfl, rfl, _, rfl, D.dk, _, _, 2, rfl, rfl, e1, rfl, ?_⟩
  have x2 : (upd H D.dk (.lst [.ref D.ca, .ref D.ra, .int ((n : Int) + 1)])) D.ca = some (.lst (cells.map V.int)) := by rw [upd_ne d.dc.symm]; exact e2
  have x3 : (upd H D.dk (.lst [.ref D.ca, .ref D.ra, .int ((n : Int) + 1)])) D.ra = some (.lst (rests.map V.int)) := by rw [upd_ne d.dr.symm]; exact e3
  have x1 : (upd H D.dk (.lst [.ref D.ca, .ref D.ra, .int ((n : Int) + 1)])) D.dk = some (.lst [.ref D.ca, .ref D.ra, .int ((n + 1 : Nat) : Int)]) := upd_same
  have sd : SameD D H (upd H D.dk (.lst [.ref D.ca, .ref D.ra, .int ((n : Int) + 1)])) := fun b o h1 _ e => by rw [upd_ne h1]; exact e
  have rl : ((rests.map V.int).length : Int) = (cells.length : Int) := by rw [List.length_map, cr]
  have l1 : ((n : Int) % ((cells.map V.int).length : Int)).toNat < rests.length := by omega
  have l2 : ((n : Int) % ((cells.map V.int).length : Int)).toNat < cells.length := by omega
  have a1 := at_map (f := V.int) i0 (List.getElem?_eq_getElem l1)
  have a2 := at_map (f := V.int) i0 (List.getElem?_eq_getElem l2)
  refine ⟨_, rfl, _, rfl, D.ra, _, _, _, rfl, rfl, SqL.of x3, a1, _, _, rfl, rfl, _, rfl, ite2 (fun _ => ?_) (fun _ => ?_)⟩
  · refine ⟨_, rfl, _, rfl, D.ra, _, _, _, rfl, rfl, SqL.of x3, a1, _, rfl, _, _, rfl, rfl, m0, ?_⟩
    refine ⟨_, rfl, _, rfl, D.ra, _, _, _, rfl, rfl, SqL.of x3, a1, _, rfl, _, _, rfl, rfl, ⟨m0, by omega⟩, ?_⟩
    refine ⟨_, rfl, _, rfl, D.ra, _, _, _, rfl, rfl, x3, ixN_nat i0 (by rw [rl]; exact i1), ?_⟩
    refine ⟨_, rfl, ?_⟩
    refine q _ _ (Int.emod_nonneg _ (by omega)) (Int.emod_lt_of_pos _ m0) ⟨⟨cells, rests.set ((n : Int) % ((cells.map V.int).length : Int)).toNat (rests[((n : Int) % ((cells.map V.int).length : Int)).toNat] / m), ?_, ?_, ?_, c0, ?_, c1⟩, d.dc, d.dr, d.cr⟩ ?_
    · rw [upd_ne d.dr]; exact x1
    · rw [upd_ne d.cr]; exact x2
    · rw [upd_same, List.map_set]
    · rw [List.length_set]; exact cr
    · exact sd.trans fun b o _ h2 e => by rw [upd_ne h2]; exact e
  · have b1 := modB cells[((n : Int) % ((cells.map V.int).length : Int)).toNat] 2147483629 (by decide)
    have b2 := sq_le hn
    refine ⟨_, rfl, _, rfl, D.ca, _, _, _, rfl, rfl, SqL.of x2, a2, _, _, rfl, rfl, (show (0 : Int) < 2147483629 by decide), _, rfl, _, _, rfl, rfl, .inl ⟨by decide, by decide⟩, _, _, rfl, rfl, _, _, rfl, rfl, _, _, rfl, rfl, ⟨by decide, by decide, by omega⟩, _, _, rfl, rfl, (show (0 : Int) < 2147483587 by decide), ?_⟩
    generalize (cells[((n : Int) % ((cells.map V.int).length : Int)).toNat] % 2147483629 + 40009 * (n : Int) + 811) ^ Int.toNat 3 = y1
    have b3 := modB y1 2147483587 (by decide)
    refine ⟨_, rfl, _, rfl, _, _, rfl, rfl, .inl ⟨by decide, by decide⟩, _, rfl, _, _, rfl, rfl, .inr ⟨by omega, by omega⟩, _, _, rfl, rfl, _, _, rfl, rfl, _, _, rfl, rfl, ⟨by decide, by decide, by omega⟩, _, _, rfl, rfl, (show (0 : Int) < 2147483647 by decide), ?_⟩
    refine ⟨_, rfl, _, _, rfl, rfl, ⟨by decide, by decide⟩, _, rfl, _, _, rfl, rfl, m0, ?_⟩
    exact q _ _ (Int.emod_nonneg _ (by omega)) (Int.emod_lt_of_pos _ m0) ⟨⟨cells, rests, x1, x2, x3, c0, cr, c1⟩, d.dc, d.dr, d.cr⟩ sd
end
/-! ### _law_deck -/
def spDeck (K : PySem.W.Frag) : Sp := fun vs H Q _ => ∃ (a : Addr) (ns : List Int), vs = [.ref a] ∧ SqL K H a (ns.map V.int) ∧ ∀ (D : Deck) (H' : Hp), DeckOk H' D 0 → Same H H' → Q (.ref D.dk) H'
section
variable {P : Program} {w : World} {K : PySem.W.Frag} {mg : Str → Option Value} {base : Heap} {f : Addr} {fd : FuncData}
theorem ok_start {k : Nat} (F : Fun K "_law_start" "_law_start" s__law_start f fd) (M : Mgs mg) : FnOk P w K mg base CX0 (k + 1) f fd ["_law_script"] (spDeck K) := by
  refine F.ok sc__law_start (fun vs H Q E h => ?_) (fun cdv A outer s H vs Q E hr h => ?_)
  · obtain ⟨a, ns, rfl, _⟩ := h
    rfl
  obtain ⟨a, ns, rfl, hS, q⟩ := h
  refine ⟨_, (pss_cons (ps_set (i := 2) sc__law_start.nd rfl (.inl rfl) (pe_op op_cat (pe_lc (own := [("_law_cell", 1)]) (g := gName 1) (tt := tYes) rfl sc__law_start.nd (pi_list (pe_slice sl_list (pv 0) po_none (po_some pe_int))) (blkOk_by (N := ["_law_script", "_law_cell", "_law_cells"]) (sc := defScope s__law_start) (by decide +kernel)) (fun _ _ _ _ _ => (pg_name (i := 1) sc__law_start.nd rfl (.inl rfl))) (fun _ _ _ _ _ => pts_nil) (fun _ _ _ _ _ => (pe_callB call_abs rfl M.abs (by decide +kernel) (pa_cons (pv 1) pa_nil)))) (pe_op op_rep (pe_lst (pa_cons pe_int pa_nil)) (pe_callTy call_int1 rfl M.int (by decide +kernel) (pa_cons (pe_cmpR op_eq (pe_callB call_len_seq rfl M.len PySem.boot_len (pa_cons (pv 0) pa_nil)) pe_int (nomark _)) pa_nil)))))
    (pss_one (ps_ret (pe_lst (pa_cons (pv 2) (pa_cons (pe_lc (own := [("_law_cell", 1)]) (g := gName 1) (tt := tYes) rfl sc__law_start.nd (pi_list (pv 2)) (blkOk_by (N := ["_law_script", "_law_cell", "_law_cells"]) (sc := defScope s__law_start) (by decide +kernel)) (fun _ _ _ _ _ => (pg_name (i := 1) sc__law_start.nd rfl (.inl rfl))) (fun _ _ _ _ _ => pts_nil) (fun _ _ _ _ _ => (pe_op op_mul (pv 1) (pe_callTy call_int1 rfl M.int (by decide +kernel) (pa_cons (pe_cmpR op_ge (pv 1) (pe_op op_pow pe_int pe_int) (nomark _)) pa_nil))))) (pa_cons pe_int pa_nil))))))), ?_⟩
  refine ⟨.ref a, rfl, 60, rfl, a, ns.map V.int, rfl, hS, fun c nc => ?_⟩
  rw [show (60 : Int) = ((60 : Nat) : Int) from rfl, cut_to, ← List.map_take]
  have s1 := same_new nc (.lst ((ns.take 60).map V.int))
  refine ⟨c, rfl, ⟨_, SqL.of upd_same⟩, fun d1 n1 => ?_⟩
  have s2 := same_new n1 (.lst [])
  refine lc_list (K := K) (a := c) (xs := (ns.take 60).map V.int) (fun i H' => Same (upd H c (.lst ((ns.take 60).map V.int))) H' ∧ ∃ zs : List Int, zs.length = i ∧ H' d1 = some (.lst (zs.map V.int))) ⟨s2, [], rfl, upd_same⟩ (fun i H' _ hp => SqL.of (hp.1 _ _ upd_same)) (fun i x H' hx hp => ?_) (fun H1 hp => ?_)
  · obtain ⟨sm, zs, hz, hd⟩ := hp
    rw [List.getElem?_map] at hx
    obtain ⟨y, hy, rfl⟩ := Option.map_eq_some_iff.mp hx
    have hi : i < 61 := by
      have := (List.getElem?_eq_some_iff.mp hy).1
      rw [List.length_take] at this
      omega
    refine ⟨rfl, kept ?_⟩
    refine ⟨_, rfl, _, rfl, _, hd, by rw [List.length_map]; exact small1000 (by omega), fun b o e => ?_, zs ++ [if y < 0 then -y else y], by rw [List.length_append, hz]; rfl, ?_⟩
    · rw [upd_ne (ne_of_none e n1)]
      exact sm _ _ e
    · rw [upd_same, List.map_append]
      rfl
  obtain ⟨sm, zs, hz, hd⟩ := hp
  rw [List.length_map, List.length_take] at hz
  refine ⟨(by show 1 ≤ sizeLine; decide), fun z nz => ?_⟩
  have s3 := same_new nz (.lst [.int 19])
  have sH : Same H H1 := s1.trans sm
  refine ⟨.ref a, rfl, a, _, rfl, .inl ((sH.trans s3).seq hS), rfl, .inr ⟨_, rfl, z, _, _, rfl, rfl, upd_same, ?_, ?_, ?_, fun y ny => ?_⟩⟩
  · split <;> decide
  · split <;> decide
  · split <;> decide
  have s4 := same_new ny (.lst (List.replicate (Int.toNat (if decide (V.int ((ns.map V.int).length : Int) = V.int 0) = true then 1 else 0)) [V.int 19]).flatten)
  obtain ⟨ex, hex, hexl⟩ : ∃ ex : List Int, (List.replicate (Int.toNat (if decide (V.int ((ns.map V.int).length : Int) = V.int 0) = true then 1 else 0)) [V.int 19]).flatten = ex.map V.int ∧ 0 < zs.length + ex.length ∧ zs.length + ex.length ≤ 61 := by
    by_cases h0 : ns.length = 0
    · refine ⟨[19], ?_, ?_, ?_⟩
      · rw [show (decide (V.int ((ns.map V.int).length : Int) = V.int 0)) = true by rw [List.length_map, h0]; rfl]
        rfl
      · exact Nat.succ_pos _
      · rw [hz, h0]
        decide
    · refine ⟨[], ?_, ?_, ?_⟩
      · rw [show (decide (V.int ((ns.map V.int).length : Int) = V.int 0)) = false by
          apply decide_eq_false
          intro z
          have z' := V.int.inj z
          rw [List.length_map] at z'
          omega]
        rfl
      · rw [List.length_nil]; omega
      · rw [List.length_nil]; omega
  refine ⟨d1, y, _, _, rfl, rfl, (s3.trans s4) _ _ hd, upd_same, ?_, fun p np => ?_⟩
  · rw [hex, List.length_map, List.length_map]
    exact small (by omega)
  have s5 := same_new np (.lst (zs.map V.int ++ (List.replicate (Int.toNat (if decide (V.int ((ns.map V.int).length : Int) = V.int 0) = true then 1 else 0)) [V.int 19]).flatten))
  have s6 := sH.trans (s3.trans (s4.trans s5))
  -- the second list
  refine ⟨.ref p, rfl, .ref p, rfl, p, rfl, ⟨_, SqL.of upd_same⟩, fun r nr => ?_⟩
  rw [hex, ← List.map_append] at s5 s6 nr ⊢
  generalize hH2 : upd (upd (upd H1 z (.lst [.int 19])) y (.lst (ex.map V.int))) p (.lst ((zs ++ ex).map V.int)) = H2 at s5 s6 nr ⊢
  have ep : H2 p = some (.lst ((zs ++ ex).map V.int)) := by rw [← hH2]; exact upd_same
  have hpr : p ≠ r := ne_of_none ep nr
  refine lc_list (K := K) (a := p) (xs := (zs ++ ex).map V.int) (fun i H' => Same H2 H' ∧ ∃ ys : List Int, ys.length = i ∧ H' r = some (.lst (ys.map V.int))) ⟨same_new nr _, [], rfl, upd_same⟩ (fun i H' _ hp => SqL.of (hp.1 _ _ ep)) (fun i x H' hx hp => ?_) (fun H3 hp => ?_)
  · obtain ⟨sm, ys, hy, hd⟩ := hp
    rw [List.getElem?_map] at hx
    obtain ⟨v, hv, rfl⟩ := Option.map_eq_some_iff.mp hx
    have hi : i < 61 := by
      have := (List.getElem?_eq_some_iff.mp hv).1
      rw [List.length_append] at this
      omega
    refine ⟨rfl, kept ?_⟩
    refine ⟨_, rfl, _, rfl, _, _, rfl, rfl, ⟨by decide, by decide, by decide⟩, _, _, rfl, rfl, .inr ⟨_, rfl, _, _, rfl, rfl, .inr ?_, _, hd, by rw [List.length_map]; exact small1000 (by omega), fun b o e => ?_, ys ++ [v * (if decide (v ≥ (10 : Int) ^ Int.toNat 18) = true then 1 else 0)], by rw [List.length_append, hy]; rfl, ?_⟩⟩
    · split <;> decide
    · rw [upd_ne (ne_of_none e nr)]
      exact sm _ _ e
    · rw [upd_same, List.map_append]
      rfl
  · obtain ⟨sm, ys, hy, hd⟩ := hp
    refine ⟨(by show 3 ≤ sizeLine; decide), fun t nt => ?_⟩
    have s9 := same_new nt (.lst [.ref p, .ref r, .int 0])
    have ep3 := sm _ _ ep
    refine q ⟨t, p, r⟩ _ ⟨⟨zs ++ ex, ys, upd_same, s9 _ _ ep3, s9 _ _ hd, ?_, ?_, ?_⟩, (ne_of_none ep3 nt).symm, (ne_of_none hd nt).symm, hpr⟩ (s6.trans (sm.trans s9))
    · rw [List.length_append]; omega
    · rw [hy, List.length_map]
    · rw [List.length_append]; omega
end
/-! ### list(text) -/
def Ltr (x : Str) : Prop := ∃ c : Nat, 97 ≤ c ∧ c ≤ 122 ∧ x = ⟨#[c]⟩
def abc : List Str := (List.range 26).map fun c => ⟨#[c + 97]⟩
theorem abc_ltr : ∀ x ∈ abc, Ltr x := fun x h => by
  unfold abc at h
  obtain ⟨c, hc, rfl⟩ := List.mem_map.mp h
  have := List.mem_range.mp hc
  exact ⟨c + 97, by omega, by omega, rfl⟩
theorem abc_is : ((Str.ofString "abcdefghijklmnopqrstuvwxyz").cps.toList.map fun c => V.str ⟨#[c]⟩) = abc.map V.str := by decide +kernel
theorem abc_len : abc.length = 26 := by decide +kernel


theorem rep_flat {α : Type} (a : α) : ∀ m : Nat, (List.replicate m [a]).flatten = List.replicate m a
  | 0 => rfl
  | m + 1 => by
    rw [List.replicate_succ, List.replicate_succ, List.flatten_cons, rep_flat a m]
    rfl
abbrev rLenSeq (K : PySem.W.Frag) : List V → Hp → VK → Prop := fun xs H Q => ∃ p ys, xs = [V.ref p] ∧ (SqL K H p ys ∨ SqT K H p ys) ∧ Q (V.int (ys.length : Int)) H
def spLett : Sp := fun vs H Q _ => ∃ (D : Deck) (n m : Nat), vs = [.ref D.dk, .int (m : Int)] ∧ DeckOk H D n ∧ n + m + 2 ≤ 1000000 ∧ m ≤ 26 ∧ ∀ (p : Addr) (xs : List Str) (n' : Nat) (H' : Hp), DeckOk H' D n' → n' ≤ n + m + 2 → SameD D H H' →
  H' p = some (.lst (xs.map V.str)) → xs.length = m → (∀ x ∈ xs, Ltr x) → Off D p → Q (.ref p) H'
section
variable {P : Program} {w : World} {K : PySem.W.Frag} {mg : Str → Option Value} {base : Heap} {f : Addr} {fd : FuncData}
theorem ok_lett (F : Fun K "_law_letters" "_law_letters" s__law_letters f fd) (M : Mgs mg) (D_law_draw : Df P w K mg base 1 "_law_draw" ["_law_state", "_law_below"] spDraw) : FnOk P w K mg base CX0 2 f fd ["_law_state", "_law_many"] spLett := by
  refine F.ok sc__law_letters (fun vs H Q E h => ?_) (fun cdv A outer s H vs Q E hr h => ?_)
  · obtain ⟨D, n, m, rfl, _⟩ := h
    rfl
  obtain ⟨D, n, m, rfl, d, hn, m26, q⟩ := h
  refine ⟨_, (pss_cons (ps_asg (pe_tup (pa_cons (pe_callTy (call_signs rfl) rfl M.list (by decide +kernel) (pa_cons pe_str pa_nil)) (pa_cons (pe_call D_law_draw.ok (hr.mono (by omega)) rfl D_law_draw.g D_law_draw.kp D_law_draw.b .nil pass0 (pa_cons (pv 0) (pa_cons pe_int pa_nil))) pa_nil))) (pg_tup rfl (pgs_cons (pg_name (i := 2) sc__law_letters.nd rfl (.inr rfl)) (pgs_cons (pg_name (i := 3) sc__law_letters.nd rfl (.inl rfl)) pgs_nil))))
    (pss_cons (ps_if (pt_cmpR op_eq (pv 3) pe_int (nomark _))
      (pss_one (ps_ret (pe_lc (own := [("_law_again", 4)]) (g := gName 4) (tt := tYes) rfl sc__law_letters.nd (pi_range1 rfl M.range (pa_cons (pv 1) pa_nil)) (blkOk_by (N := ["_law_state", "_law_many", "_law_left", "_law_way", "_law_again", "_law_found"]) (sc := defScope s__law_letters) (by decide +kernel)) (fun _ _ _ _ _ => (pg_name (i := 4) sc__law_letters.nd rfl (.inl rfl))) (fun _ _ _ _ _ => pts_nil) (fun _ _ _ _ _ => (pe_ix (show IxR _ (rIxL K) from ix_list) (pe_lst (pa_cons pe_str (pa_cons pe_str pa_nil))) (pe_call D_law_draw.ok (hr.mono (by omega)) rfl D_law_draw.g D_law_draw.kp D_law_draw.b .nil pass0 (pa_cons (pv 0) (pa_cons pe_int pa_nil))) (fun _ _ => rfl)))))) pss_nil)
    (pss_cons (ps_if (pt_cmpR op_eq (pv 3) pe_int (nomark _))
      (pss_one (ps_ret (pe_op op_rep (pe_lst (pa_cons (pe_ix ix_list (pv 2) (pe_call D_law_draw.ok (hr.mono (by omega)) rfl D_law_draw.g D_law_draw.kp D_law_draw.b .nil pass0 (pa_cons (pv 0) (pa_cons pe_int pa_nil))) (fun _ _ => rfl)) pa_nil)) (pv 1)))) pss_nil)
    (pss_cons (ps_setLc (i := 5) (own := [("_law_again", 4)]) (g := gName 4) (tt := tYes) (by rfl) sc__law_letters.nd rfl rfl (sw_true rfl rfl rfl (by decide +kernel)) (pi_range1 rfl M.range (pa_cons (pv 1) pa_nil)) (blkOk_by (N := ["_law_state", "_law_many", "_law_left", "_law_way", "_law_again", "_law_found"]) (sc := defScope s__law_letters) (by decide +kernel)) (fun _ _ _ _ _ => (pg_name (i := 4) sc__law_letters.nd rfl (.inl rfl))) (fun _ _ _ _ _ => pts_nil) (fun _ _ _ _ _ => (show PE _ _ (tBM K _ _ _ _) from pe_bm PySem.F.plainAttrs_list PySem.F.slot_list_pop PySem.F.type_list_pop mt_popAt (pv 2) (pa_cons (pe_call D_law_draw.ok (hr.mono (by omega)) rfl D_law_draw.g D_law_draw.kp D_law_draw.b .nil pass0 (pa_cons (pv 0) (pa_cons (pe_callB (show CallR _ (.builtin "len") (rLenSeq K) from call_len_seq) rfl M.len PySem.boot_len (pa_cons (pv 2) pa_nil)) pa_nil))) pa_nil))))
    (pss_one (ps_ret (pe_ifExp (pt_cmpR op_eq (pv 3) pe_int (nomark _)) (pe_callB cr_sortedS rfl M.sorted (by decide +kernel) (pa_cons (pv 5) pa_nil)) (pv 5)))))))), ?_⟩
  refine ⟨_, rfl, by decide +kernel, fun sa nsa => ?_⟩
  rw [abc_is]
  have q1 := same_new nsa (.lst (abc.map V.str))
  have na := d.new nsa
  refine ⟨_, rfl, D, n, 5, rfl, d.same q1, by omega, by decide, by decide, fun wy H1 w0 w1 d1 s1 => ⟨(by show 2 ≤ sizeLine; decide), fun tp ntp => ⟨tp, _, rfl, SqT.of upd_same, rfl, _, _, rfl, _, _, rfl, rfl, ?_⟩⟩⟩
  have q2 := same_new ntp (.tup [.ref sa, .int wy])
  have d2 := d1.same q2
  have sd : SameD D H (upd H1 tp (.tup [.ref sa, .int wy])) := (SameD.of q1).trans (s1.trans (.of q2))
  have esa : (upd H1 tp (.tup [.ref sa, .int wy])) sa = some (.lst (abc.map V.str)) := q2 _ _ (s1.at na upd_same)
  generalize upd H1 tp (.tup [.ref sa, .int wy]) = H2 at d2 sd esa
  have al := abc_len
  have abcI : ∀ i : Int, 0 ≤ i → i < 26 → ∃ x, atI (abc.map V.str) i = some (.str x) ∧ Ltr x := fun i h0 h1 => by
    have hl : i.toNat < abc.length := by omega
    exact ⟨abc[i.toNat], at_map h0 (List.getElem?_eq_getElem hl), abc_ltr _ (List.getElem_mem hl)⟩
  refine ⟨_, rfl, rfl, _, rfl, ite2 (fun _ => ?_) (fun _ => ?_)⟩
  · refine ⟨_, rfl, _, rfl, by omega, by omega, fun L nL => ?_⟩
    have nd := d2.new nL
    refine lc_range (lo := 0) (n := m) (fun i H' => ∃ n', DeckOk H' D n' ∧ n' ≤ n + 1 + i ∧ SameD D H2 H' ∧ ∃ xs : List Str, xs.length = i ∧ (∀ x ∈ xs, Ltr x) ∧ H' L = some (.lst (xs.map V.str))) ⟨n + 1, d2.same (same_new nL _), by omega, .of (same_new nL _), [], rfl, (fun _ h => nomatch h), upd_same⟩ (fun i H' hi hp => ?_) (fun H' hp => ?_)
    · obtain ⟨n', d', hn', s', xs, hxl, hxs, eL⟩ := hp
      refine ⟨rfl, kept ?_⟩
      refine ⟨(by show 2 ≤ sizeLine; decide), fun l2 nl2 => ?_⟩
      have k2 := same_new nl2 (.lst [.str "a", .str "b"])
      refine ⟨_, rfl, D, n', 2, rfl, d'.same k2, by omega, by decide, by decide, fun j H4 j0 j1 d4 s4 => ?_⟩
      obtain ⟨x, hx, lx⟩ : ∃ x, atI [V.str "a", V.str "b"] j = some (.str x) ∧ Ltr x := by
        have : j = 0 ∨ j = 1 := by omega
        rcases this with rfl | rfl
        · exact ⟨_, rfl, 97, by decide, by decide, by decide +kernel⟩
        · exact ⟨_, rfl, 98, by decide, by decide, by decide +kernel⟩
      have e4 := s4.at nd (k2 _ _ eL)
      refine ⟨l2, _, _, _, rfl, rfl, SqL.of (s4.at (d'.new nl2) upd_same), hx, _, e4, by rw [List.length_map]; exact small1000 (by omega), n' + 1, d4.put nd _, by omega, (s'.trans ((SameD.of k2).trans s4)).put nL _, xs ++ [x], by rw [List.length_append, hxl]; rfl, fun y hy => ?_, ?_⟩
      · rcases List.mem_append.mp hy with h | h
        · exact hxs y h
        · rw [List.mem_singleton.mp h]
          exact lx
      · rw [upd_same, List.map_append]
        rfl
    · obtain ⟨n', d', hn', s', xs, hxl, hxs, eL⟩ := hp
      exact q L xs n' H' d' (by omega) (sd.trans s') eL hxl hxs nd
  refine ⟨_, rfl, rfl, _, rfl, ite2 (fun _ => ?_) (fun _ => ?_)⟩
  · refine ⟨_, rfl, _, rfl, D, n + 1, 26, rfl, d2, by omega, by decide, by decide, fun i H3 i0 i1 d3 s3 => ?_⟩
    obtain ⟨x, hx, lx⟩ := abcI i i0 i1
    refine ⟨sa, _, _, _, rfl, rfl, SqL.of (s3.at na esa), hx, (by show 1 ≤ sizeLine; decide), fun l nl => ?_⟩
    refine ⟨_, rfl, l, _, _, rfl, rfl, upd_same, by omega, by omega, ?_, fun p np => ?_⟩
    · rw [Int.toNat_natCast]
      exact small (by show 1 * m ≤ 1000; omega)
    rw [Int.toNat_natCast]
    rw [rep_flat, ← List.map_replicate]
    have q3 := same_new nl (.lst [.str x])
    have q4 := same_new np (.lst ((List.replicate m x).map V.str))
    have d5 := (d3.same q3).same q4
    have nd := (d3.same q3).new np
    refine q p (List.replicate m x) (n + 1 + 1) _ d5 (by omega) (sd.trans (s3.trans (.of (q3.trans q4)))) upd_same (List.length_replicate) (fun y hy => ?_) nd
    rw [List.eq_of_mem_replicate hy]
    exact lx
  refine ⟨_, rfl, _, rfl, by omega, by omega, fun fa nfa => ?_⟩
  have nf := d2.new nfa
  have nsf : sa ≠ fa := ne_of_none esa nfa
  have nfH : H fa = none := sd.free d2 nfa
  have kf := same_new nfa (.lst [])
  refine lc_range (lo := 0) (n := m) (fun i H' => ∃ (n' : Nat) (xs rest : List Str), DeckOk H' D n' ∧ n' ≤ n + 1 + i ∧ SameD D H H' ∧ xs.length = i ∧ xs.length + rest.length = 26 ∧ (∀ x ∈ xs, Ltr x) ∧ (∀ x ∈ rest, Ltr x) ∧ H' fa = some (.lst (xs.map V.str)) ∧ H' sa = some (.lst (rest.map V.str)))
    ⟨n + 1, [], abc, d2.same kf, by omega, sd.trans (.of kf), rfl, by rw [al]; rfl, (fun _ h => nomatch h), abc_ltr, upd_same, kf _ _ esa⟩ (fun i H' hi hp => ?_) (fun H' hp => ?_)
  · obtain ⟨n', xs, rest, d', hn', s', hm, h26, hxs, hrs, ef, es⟩ := hp
    refine ⟨rfl, kept ?_⟩
    refine ⟨.ref sa, rfl, .inl ⟨rfl, _, SqL.of es⟩, _, rfl, _, rfl, sa, _, rfl, .inl (SqL.of es), D, n', _, rfl, d', by omega, ?_, ?_, fun j H4 j0 j1 d4 s4 => ?_⟩
    · rw [List.length_map]; omega
    · rw [List.length_map]; omega
    rw [List.length_map] at j1
    have hj : j.toNat < rest.length := by omega
    have es4 := s4.at na es
    have ef4 := s4.at nf ef
    refine ⟨sa, _, j, j.toNat, .str rest[j.toNat], rfl, rfl, es4, by omega, by omega, ?_, ?_, ?_⟩
    · exact (ixN_seq (ixN_nat j0 (by rw [List.length_map]; omega))).1
    · rw [List.getElem?_map, List.getElem?_eq_getElem hj]; rfl
    have ef5 : (upd H4 sa (.lst ((rest.map V.str).eraseIdx j.toNat))) fa = some (.lst (xs.map V.str)) := by rw [upd_ne nsf.symm]; exact ef4
    refine ⟨_, ef5, by rw [List.length_map]; exact small1000 (by omega), n' + 1, xs ++ [rest[j.toNat]], rest.eraseIdx j.toNat, (d4.put na _).put nf _, by omega, ((s'.trans s4).put nsa _).put nfH _, ?_, ?_, fun y hy => ?_, fun y hy => hrs y (List.mem_of_mem_eraseIdx hy), ?_, ?_⟩
    · rw [List.length_append, hm]; rfl
    · rw [List.length_append, List.length_eraseIdx_of_lt hj]
      show xs.length + 1 + (rest.length - 1) = 26
      omega
    · rcases List.mem_append.mp hy with h | h
      · exact hxs y h
      · rw [List.mem_singleton.mp h]
        exact hrs _ (List.getElem_mem hj)
    · rw [upd_same, List.map_append]
      rfl
    · rw [upd_ne nsf, upd_same, erase_map]
  · obtain ⟨n', xs, rest, d', hn', s', hm, h26, hxs, hrs, ef, es⟩ := hp
    refine ⟨_, rfl, rfl, _, rfl, ite2 (fun _ => ?_) (fun _ => ?_)⟩
    · refine ⟨_, rfl, fa, xs, rfl, SqL.of ef, by omega, fun ys p pm _ np => ?_⟩
      exact q p ys n' _ (d'.same (same_new np _)) (by omega) (s'.trans (.of (same_new np _))) upd_same (by rw [pm.length_eq]; exact hm) (fun x hx => hxs x (pm.mem_iff.mp hx)) (d'.new np)
    · exact ⟨_, rfl, q fa xs n' H' d' (by omega) s' ef hm hxs nf⟩
end
/-! ### _law_grown, _law_tree -/
def B.low : B → Prop
  | .nil => True
  | .node l c r => l.low ∧ (97 ≤ c ∧ c ≤ 122) ∧ r.low
theorem pick_spot {z i way : Int} (hz : 1 ≤ z) (i0 : 0 ≤ i) (i1 : i < z) (w0 : 0 ≤ way) (w1 : way ≤ 4) : ∃ m : Nat, atI [V.int i, V.int 0, V.int (z - 1), V.int ((z - 1) * (z % 2)), V.int (z / 2)] way = some (.int (m : Int)) ∧ (m : Int) < z := by
  have : way = 0 ∨ way = 1 ∨ way = 2 ∨ way = 3 ∨ way = 4 := by omega
  rcases this with rfl | rfl | rfl | rfl | rfl
  · exact ⟨i.toNat, by rw [Int.toNat_of_nonneg i0]; rfl, by omega⟩
  · exact ⟨0, rfl, by omega⟩
  · exact ⟨(z - 1).toNat, by rw [Int.toNat_of_nonneg (by omega)]; rfl, by omega⟩
  · rcases Int.emod_two_eq z with e | e
    · exact ⟨0, by rw [e, Int.mul_zero]; rfl, by omega⟩
    · exact ⟨(z - 1).toNat, by rw [e, Int.mul_one, Int.toNat_of_nonneg (by omega)]; rfl, by omega⟩
  · exact ⟨(z / 2).toNat, by rw [Int.toNat_of_nonneg (by omega)]; rfl, by omega⟩
def spGrown (k : Nat) : Sp := fun vs H Q _ => ∃ (D : Deck) (n : Nat) (p : Addr) (xs : List Str) (way : Int), vs = [.ref D.dk, .ref p, .int way] ∧ DeckOk H D n ∧ n + xs.length ≤ 1000000 ∧ xs.length < k ∧ xs.length ≤ 26 ∧ H p = some (.lst (xs.map V.str)) ∧ Off D p ∧ 0 ≤ way ∧ way ≤ 4 ∧ (∀ x ∈ xs, Ltr x) ∧
  ∀ (v : V) (t : B) (n' : Nat) (H' : Hp), DeckOk H' D n' → n' ≤ n + xs.length → SameD D H H' → BAt H' v t → t.size = xs.length → t.low → Q v H'
section
variable {P : Program} {w : World} {K : PySem.W.Frag} {mg : Str → Option Value} {base : Heap} {f : Addr} {fd : FuncData}
theorem ok_grown (F : Fun K "_law_grown" "_law_grown" s__law_grown f fd) (b : Binds K fd ["_law_state", "_law_letters_here", "_law_way"] []) (g : mg "_law_grown" = some (.ref f)) (M : Mgs mg) (D_law_draw : Df P w K mg base 1 "_law_draw" ["_law_state", "_law_below"] spDraw) :
    ∀ n : Nat, FnOk P w K mg base CX0 (n + 1) f fd ["_law_state", "_law_letters_here", "_law_way"] (spGrown n)
  | 0 => by
    have no : ∀ vs H Q E, ¬ spGrown 0 vs H Q E := fun vs H Q E h => by
      obtain ⟨D, c, p, xs, way, _, _, _, h1, _⟩ := h
      omega
    exact ⟨fun vs H Q E h => absurd h (no vs H Q E), fun A outer s H args us vs Q E _ _ _ _ h => absurd h (no vs H Q E)⟩
  | n + 1 => by
    have Dself : Df P w K mg base (n + 1) "_law_grown" ["_law_state", "_law_letters_here", "_law_way"] (spGrown n) := ⟨f, fd, ok_grown F b g M D_law_draw n, b, F.kp, g⟩
    refine F.ok sc__law_grown (fun vs H Q E h => ?_) (fun cdv A outer s H vs Q E hr h => ?_)
    · obtain ⟨D, c, p, xs, way, rfl, _⟩ := h
      rfl
    obtain ⟨D, c, p, xs, way, rfl, d, hc, hn, hx, ep, op, w0, w1, hlt, q⟩ := h
    refine ⟨_, (pss_cons (ps_set (i := 3) sc__law_grown.nd rfl (.inl rfl) (pe_callB call_len_seq rfl M.len PySem.boot_len (pa_cons (pv 1) pa_nil)))
    (pss_cons (ps_if (pt_cmpR op_eq (pv 3) pe_int (nomark _))
      (pss_one (ps_ret pe_non)) pss_nil)
    (pss_cons (ps_set (i := 4) sc__law_grown.nd rfl (.inl rfl) (pe_ix ix_list (pe_lst (pa_cons (pe_call D_law_draw.ok (hr.mono (by omega)) rfl D_law_draw.g D_law_draw.kp D_law_draw.b .nil pass0 (pa_cons (pv 0) (pa_cons (pv 3) pa_nil))) (pa_cons pe_int (pa_cons (pe_op op_sub (pv 3) pe_int) (pa_cons (pe_op op_mul (pe_op op_sub (pv 3) pe_int) (pe_op op_mod (pv 3) pe_int)) (pa_cons (pe_op op_fdiv (pv 3) pe_int) pa_nil)))))) (pv 2) (fun _ _ => rfl)))
    (pss_cons (ps_par (i := 5) (j := 6) (by rfl) sc__law_grown.nd rfl rfl (by decide) rfl rfl (pa_cons (pe_slice sl_list (pv 1) po_none (po_some (pv 4))) (pa_cons (pe_slice sl_list (pv 1) (po_some (pe_op op_add (pv 4) pe_int)) po_none) pa_nil)) (by rfl))
    (pss_one (ps_ret (pe_tup (pa_cons (pe_call Dself.ok (hr.mono (by omega)) rfl Dself.g Dself.kp Dself.b .nil pass0 (pa_cons (pv 0) (pa_cons (pv 5) (pa_cons (pv 2) pa_nil)))) (pa_cons (pe_ix ix_list (pv 1) (pv 4) (fun _ _ => rfl)) (pa_cons (pe_call Dself.ok (hr.mono (by omega)) rfl Dself.g Dself.kp Dself.b .nil pass0 (pa_cons (pv 0) (pa_cons (pv 6) (pa_cons (pv 2) pa_nil)))) pa_nil)))))))))), ?_⟩
    refine ⟨_, rfl, p, _, rfl, .inl (SqL.of ep), ?_⟩
    rw [List.length_map]
    refine ⟨_, rfl, rfl, _, rfl, ite2 (fun e => ?_) (fun e => ?_)⟩
    · have e0 : (xs.length : Int) = 0 := V.int.inj (of_decide_eq_true e)
      exact q .non .nil c H d (by omega) (SameD.refl D H) .nil (by show 0 = xs.length; omega) trivial
    · have e0 : ¬ (xs.length : Int) = 0 := fun z => e (decide_eq_true (congrArg V.int z))
      have x1 : (1 : Int) ≤ (xs.length : Int) := by omega
      refine ⟨_, rfl, _, rfl, D, c, _, rfl, d, by omega, by omega, by omega, fun i H1 i0 i1 d1 s1 => ?_⟩
      refine ⟨_, rfl, _, _, rfl, rfl, _, rfl, _, _, rfl, rfl, _, rfl, _, _, rfl, rfl, (show (0 : Int) < 2 by decide), _, _, rfl, rfl, .inl ⟨by omega, by omega⟩, ?_⟩
      refine ⟨_, rfl, _, _, rfl, rfl, ⟨by decide, by decide⟩, (by show 5 ≤ sizeLine; decide), fun l nl => ?_⟩
      obtain ⟨m, hm, ml⟩ := pick_spot x1 i0 i1 w0 w1
      refine ⟨_, rfl, l, _, _, _, rfl, rfl, SqL.of upd_same, hm, ?_⟩
      have q1 := same_new nl (.lst [V.int i, V.int 0, V.int ((xs.length : Int) - 1), V.int (((xs.length : Int) - 1) * ((xs.length : Int) % 2)), V.int ((xs.length : Int) / 2)])
      have d2 := d1.same q1
      have s2 := s1.trans (SameD.of q1)
      have ep2 := s2.at op ep
      generalize upd H1 l (.lst [V.int i, V.int 0, V.int ((xs.length : Int) - 1), V.int (((xs.length : Int) - 1) * ((xs.length : Int) % 2)), V.int ((xs.length : Int) / 2)]) = H2 at d2 s2 ep2 ⊢
      refine ⟨_, rfl, _, rfl, _, rfl, p, _, rfl, SqL.of ep2, fun p1 np1 => ?_⟩
      rw [cut_to, ← List.map_take]
      have k1 := same_new np1 (.lst ((xs.take m).map V.str))
      have o1 := d2.new np1
      have e1 := upd_same (H := H2) (a := p1) (o := .lst ((xs.take m).map V.str))
      have d3 := d2.same k1
      have s3 := s2.trans (SameD.of k1)
      have ep3 := k1 _ _ ep2
      generalize upd H2 p1 (.lst ((xs.take m).map V.str)) = H3 at k1 e1 d3 s3 ep3 ⊢
      have em : ((m : Nat) : Int) + 1 = ((m + 1 : Nat) : Int) := by omega
      refine ⟨_, rfl, _, rfl, _, _, rfl, rfl, _, rfl, p, _, rfl, SqL.of ep3, fun p2 np2 => ⟨_, _, rfl, ?_⟩⟩
      rw [em, cut_from, ← List.map_drop]
      have k2 := same_new np2 (.lst ((xs.drop (m + 1)).map V.str))
      have o2 := d3.new np2
      have e2 := upd_same (H := H3) (a := p2) (o := .lst ((xs.drop (m + 1)).map V.str))
      have e1 := k2 _ _ e1
      have d4 := d3.same k2
      have s4 := s3.trans (SameD.of k2)
      have ep4 := k2 _ _ ep3
      generalize upd H3 p2 (.lst ((xs.drop (m + 1)).map V.str)) = H4 at k2 e1 e2 d4 s4 ep4 ⊢
      have ml' : m < xs.length := by omega
      have t1 : (xs.take m).length = m := by rw [List.length_take]; omega
      have t2 : (xs.drop (m + 1)).length = xs.length - (m + 1) := List.length_drop
      refine ⟨_, rfl, _, rfl, _, rfl, D, c + 1, p1, xs.take m, way, rfl, d4, by omega, by omega, by omega, e1, o1, w0, w1, fun x hx => hlt x (List.mem_of_mem_take hx), fun vl tl c5 H5 d5 hc5 s5 bl zl ll => ?_⟩
      have ep5 := s5.at op ep4
      have e25 := s5.at o2 e2
      obtain ⟨x, hx, lx⟩ : ∃ x, atI (xs.map V.str) ((m : Nat) : Int) = some (.str x) ∧ Ltr x := ⟨xs[m], atI_nat (by rw [List.getElem?_map, List.getElem?_eq_getElem ml']; rfl), hlt _ (List.getElem_mem ml')⟩
      refine ⟨_, rfl, _, rfl, p, _, _, _, rfl, rfl, SqL.of ep5, hx, ?_⟩
      refine ⟨_, rfl, _, rfl, _, rfl, D, c5, p2, xs.drop (m + 1), way, rfl, d5, by omega, by omega, by omega, e25, o2, w0, w1, fun x hx => hlt x (List.mem_of_mem_drop hx), fun vr tr c6 H6 d6 hc6 s6 br zr lr => ⟨(by show 3 ≤ sizeLine; decide), fun r nr => ?_⟩⟩
      obtain ⟨cc, c1', c2', rfl⟩ := lx
      have k7 := same_new nr (.tup [vl, .str (ch cc), vr])
      refine q (.ref r) (.node tl cc tr) c6 _ (d6.same k7) (by omega) (s4.trans (s5.trans (s6.trans (SameD.of k7)))) (.node upd_same ((bl.keep (s6.keepT d5)).same k7) (br.same k7)) ?_ ⟨ll, ⟨c1', c2'⟩, lr⟩
      show tl.size + 1 + tr.size = xs.length
      omega
/-! ### _law_tree -/
def spTree : Sp := fun vs H Q _ => ∃ (D : Deck) (n lim : Nat), vs = [.ref D.dk, .int (lim : Int)] ∧ DeckOk H D n ∧ n + 2 * lim + 10 ≤ 1000000 ∧ 1 ≤ lim ∧ lim ≤ 26 ∧
  ∀ (v : V) (t : B) (n' : Nat) (H' : Hp), DeckOk H' D n' → n' ≤ n + 2 * lim + 4 → SameD D H H' → BAt H' v t → 1 ≤ t.size → t.size ≤ lim → t.low → Q v H'
theorem pick_way {i : Int} (i0 : 0 ≤ i) (i1 : i < 7) : ∃ z : Int, atI [V.int 0, V.int 0, V.int 0, V.int 1, V.int 2, V.int 3, V.int 4] i = some (.int z) ∧ 0 ≤ z ∧ z ≤ 4 := by
  have : i = 0 ∨ i = 1 ∨ i = 2 ∨ i = 3 ∨ i = 4 ∨ i = 5 ∨ i = 6 := by omega
  rcases this with rfl | rfl | rfl | rfl | rfl | rfl | rfl
  · exact ⟨0, rfl, by decide, by decide⟩
  · exact ⟨0, rfl, by decide, by decide⟩
  · exact ⟨0, rfl, by decide, by decide⟩
  · exact ⟨1, rfl, by decide, by decide⟩
  · exact ⟨2, rfl, by decide, by decide⟩
  · exact ⟨3, rfl, by decide, by decide⟩
  · exact ⟨4, rfl, by decide, by decide⟩
theorem ok_tree (F : Fun K "_law_tree" "_law_tree" s__law_tree f fd) (M : Mgs mg) (D_law_draw : Df P w K mg base 1 "_law_draw" ["_law_state", "_law_below"] spDraw) (D_law_letters : Df P w K mg base 2 "_law_letters" ["_law_state", "_law_many"] spLett) (D_law_grown : Df P w K mg base 28 "_law_grown" ["_law_state", "_law_letters_here", "_law_way"] (spGrown 27)) :
    FnOk P w K mg base CX0 29 f fd ["_law_state", "_law_limit"] spTree := by
  refine F.ok sc__law_tree (fun vs H Q E h => ?_) (fun cdv A outer s H vs Q E hr h => ?_)
  · obtain ⟨D, n, lim, rfl, _⟩ := h
    rfl
  obtain ⟨D, n, lim, rfl, d, hn, l0, l1, q⟩ := h
  refine ⟨_, (pss_cons (ps_set (i := 2) sc__law_tree.nd rfl (.inl rfl) (pe_call D_law_letters.ok (hr.mono (by omega)) rfl D_law_letters.g D_law_letters.kp D_law_letters.b .nil pass0 (pa_cons (pv 0) (pa_cons (pe_op op_add pe_int (pe_call D_law_draw.ok (hr.mono (by omega)) rfl D_law_draw.g D_law_draw.kp D_law_draw.b .nil pass0 (pa_cons (pv 0) (pa_cons (pv 1) pa_nil)))) pa_nil))))
    (pss_one (ps_ret (pe_call D_law_grown.ok (hr.mono (by omega)) rfl D_law_grown.g D_law_grown.kp D_law_grown.b .nil pass0 (pa_cons (pv 0) (pa_cons (pv 2) (pa_cons (pe_ix ix_list (pe_lst (pa_cons pe_int (pa_cons pe_int (pa_cons pe_int (pa_cons pe_int (pa_cons pe_int (pa_cons pe_int (pa_cons pe_int pa_nil)))))))) (pe_call D_law_draw.ok (hr.mono (by omega)) rfl D_law_draw.g D_law_draw.kp D_law_draw.b .nil pass0 (pa_cons (pv 0) (pa_cons pe_int pa_nil))) (fun _ _ => rfl)) pa_nil))))))), ?_⟩
  refine ⟨_, rfl, _, rfl, _, rfl, D, n, _, rfl, d, by omega, by omega, by omega, fun i H1 i0 i1 d1 s1 => ?_⟩
  obtain ⟨j, rfl⟩ := Int.eq_ofNat_of_zero_le i0
  have ej : (1 : Int) + ((j : Nat) : Int) = ((1 + j : Nat) : Int) := by omega
  refine ⟨_, _, rfl, rfl, D, n + 1, 1 + j, by rw [← ej]; rfl, d1, by omega, by omega, fun p xs n2 H2 d2 hn2 s2 ep xl xlt op => ?_⟩
  refine ⟨_, rfl, _, rfl, (by show 7 ≤ sizeLine; decide), fun l nl => ?_⟩
  have k3 := same_new nl (.lst [V.int 0, V.int 0, V.int 0, V.int 1, V.int 2, V.int 3, V.int 4])
  refine ⟨_, rfl, D, n2, 7, rfl, d2.same k3, by omega, by decide, by decide, fun i4 H4 z0 z1 d4 s4 => ?_⟩
  obtain ⟨way, hw, w0, w1⟩ := pick_way z0 z1
  refine ⟨l, _, _, _, rfl, rfl, SqL.of (s4.at (d2.new nl) upd_same), hw, ?_⟩
  refine ⟨D, n2 + 1, p, xs, way, rfl, d4, by omega, by omega, by omega, s4.at op (k3 _ _ ep), op, w0, w1, xlt, fun v t n5 H5 d5 hn5 s5 bt zt lt => ?_⟩
  exact q v t n5 H5 d5 (by omega) (s1.trans (s2.trans ((SameD.of k3).trans (s4.trans s5)))) bt (by omega) (by omega) lt
end
/-! ### xs != [], xs == [] -/
abbrev vc (c : Nat) : V := .str (ch c)
theorem map_vc (l : List Nat) : l.map vc = (l.map ch).map V.str := by rw [List.map_map]; rfl
section
variable {X : Cx}
theorem op_neL (hu : X.A.units < cLine) : OpR X (compareOp .NotEq) (fun x y H Q => ∃ a b xs, x = .ref a ∧ y = .ref b ∧ SqL X.K H a xs ∧ SqL X.K H b [] ∧ Q (.bl (!xs.isEmpty)) H) := by
  intro pins s σ H x y v u Q I rx ry h
  obtain ⟨a, b, xs, rfl, rfl, hx, hy, q⟩ := h
  cases rx
  cases ry
  obtain ⟨its, r1, t1, _⟩ := I.list hx
  obtain ⟨its2, r2, t2, _⟩ := I.list hy
  cases r2
  cases r1 with
  | nil =>
    have rc := SeqAt.RcNeAt.lists (A := X.A) (s := s) (items := ([] : List Value).toArray) (items2 := ([] : List Value).toArray) (e := fun _ => true) t1.isList t2.isList rfl hu (fun j h1 _ => absurd h1 (by simp))
    exact rc X.prog X.w X.xe _ ⟨.bl _, H, I, rfl, q⟩
  | cons _ _ =>
    have rc := SeqAt.RcNeAt.lists_lengths (A := X.A) (s := s) t1.isList t2.isList (by simp) hu
    exact rc X.prog X.w X.xe _ ⟨.bl _, H, I, rfl, q⟩
end
theorem op_eqL {X : Cx} (hu : X.A.units < cLine) : OpR X (compareOp .Eq) (fun x y H Q => ∃ a b xs, x = .ref a ∧ y = .ref b ∧ SqL X.K H a xs ∧ SqL X.K H b [] ∧ Q (.bl xs.isEmpty) H) := by
  intro pins s σ H x y v u Q I rx ry h
  obtain ⟨a, b, xs, rfl, rfl, hx, hy, q⟩ := h
  cases rx
  cases ry
  obtain ⟨its, r1, t1, _⟩ := I.list hx
  obtain ⟨its2, r2, t2, _⟩ := I.list hy
  cases r2
  cases r1 with
  | nil =>
    have rc := SeqAt.RcAt.lists (A := X.A) (s := s) (items := ([] : List Value).toArray) (items2 := ([] : List Value).toArray) (e := fun _ => true) t1.isList t2.isList rfl hu (fun j h1 _ => absurd h1 (by simp))
    exact rc X.prog X.w X.xe _ ⟨.bl _, H, I, rfl, q⟩
  | cons _ _ =>
    have rc := SeqAt.RcAt.lists_lengths (A := X.A) (s := s) t1.isList t2.isList (by simp) hu
    exact rc X.prog X.w X.xe _ ⟨.bl _, H, I, rfl, q⟩
/-! ### a def entered at one caller -/
theorem enter_def {P : Program} {w : World} {K : PySem.W.Frag} {mg : Str → Option Value} {base : Heap} {f : Addr} {fd : FuncData} {N ps : List Str} {k : Nat} {x qual : Str} {st : Stmt} (F : Fun K x qual st f fd) (S : FnScope N ps (defScope st))
    {A : Around} {outer : List Env} {s : Shared} {H : Hp} {args : Args} {us : List Value} {vs : List V} {Q : VK} {E : XK}
    (room : Room (k + 1) A) (en : Env0 P w K mg base A outer s H) (bd : BindsTo s fd args (ps.zip us)) (rel : Vals vs us) (hln : vs.length = ps.length)
    (body : ∀ cdv : Value, Room k (A.deeper (envOfC qual (defScope st) s.heap.objs.size f cdv)) →
      ∃ t, PSs (cxOf CX0 P w K mg base N qual (defScope st) f cdv A outer s H E).nox (defBody st) t ∧ t { nx := fun _ H' => Q .non H', rt := Q } (start N vs) H) :
    codeAny (model P w) A (.call (.ref f) args) (CR CX0 outer P w H s Q E) s := by
  obtain ⟨oc, od, kV, doc, pm, an, cdv, ct, osl, rfl, look, code⟩ := F.ex
  have still : ∀ b o, base.get? b = some o → s.heap.get? b = some o := fun b o e => (en.bs b o e).1
  have inK : K.In s.heap := en.mod.kin.keeps still
  have noL : s.heap.NoLimit := en.mod.nolimit.keeps still
  have kinds : ∀ y ∈ ps.zip us, (defScope st).names.lookup y.1 = some .local ∨
      ((defScope st).names.lookup y.1 = some .cell ∧ ((cellsFrom (s.heap.objs.size + 1) (defScope st).names []).lookup y.1).isSome = true) := by
    rintro ⟨nm, u⟩ hy
    cases S.par nm (List.of_mem_zip hy).1 with
    | inl z => exact .inl z
    | inr z => exact .inr ⟨z, PySem.W.cellsFrom_some _ _ _ (.inl z)⟩
  have step := codeAny_call_function (prog := P) (w := w) (A := A) (s := s) room.depth (inK _ _ look) rfl S.co S.gen rfl (PySem.W.codeRec_of inK code)
    (R := CR CX0 outer P w H s Q E) (args := args)
  refine step (bd _ _ _ _ ?_)
  refine wpAny_newFunctionEnv_cells S.kind kinds ?_
  intro env isEnv s1 inC
  subst isEnv
  refine ⟨noL.keeps inC.toInCall.keep, codeAny_func ?_⟩
  obtain ⟨t, ht, hq⟩ := body cdv (room.deeper _)
  have J : Inv (cxOf CX0 P w K mg base N qual (defScope st) f cdv A outer s H E) [] (start N vs) H s1 := inv_start S room.hd en hln rel inC
  refine wpAny_mono (ht.nox.run [] s1 (start N vs) H _ J hq) ?_ ?_
  · intro fl s' done
    cases fl with
    | ret u =>
      obtain ⟨v, σ', H', I', rv, qv⟩ := done
      exact ⟨v, H', I'.os, I'.bare, I'.base, I'.hok, rv, qv⟩
    | next =>
      obtain ⟨σ', H', I', qv⟩ := done
      exact ⟨V.non, H', I'.os, I'.bare, I'.base, I'.hok, rfl, qv⟩
    | brk => exact done.elim fun _ z => z.elim fun _ z => z.2.elim
    | cont => exact done.elim fun _ z => z.elim fun _ z => z.2.elim
  · intro e s' z
    exact z
/-! ### the law's own call -/
theorem law_at {P : Program} {w : World} {K : PySem.W.Frag} {mg mb : Str → Option Value} {fa a : Addr} {s₁ : Shared} {vs : List Value} {ns : List Int}
    (inK : K.In s₁.heap) (gl : s₁.heap.Ns mainGlobals mg) (bl : s₁.heap.Ns builtinsNs mb) (isB : ∀ x : Str, x ≠ "__name__" → mb x = bootBuiltins x) (lim : s₁.heap.NoLimit) (gens : s₁.gens = #[])
    (obj : s₁.heap.get? a = some { cls := .type "list", data := .seq vs.toArray }) (hints : IntsAre vs ns) (few : ns.length ≤ sizeLine)
    (run : ∀ (base : Heap) (H : Hp), K.In base → base.Ns mainGlobals mg → Env0 P w K mg base callerA [] s₁ H → SqL K H a (ns.map V.int) →
      codeAny (model P w) callerA (.call (.ref fa) ⟨[.ref a], []⟩) (CR CX0 [] P w H s₁ (fun v _ => v = .bl true) fun _ _ _ => False) s₁) :
    codeAny (model P w) callerA (.call (.ref fa) ⟨[.ref a], []⟩) (fun r s' => r = .ok (.ret (.bool true)) ∧ OldK s₁.heap s'.heap ∧ s'.os = s₁.os ∧ AllBare s'.gens) s₁ := by
  have rel := vals_ints hints
  have lens := hints.length
  have found : ∃ H : Hp, Only H ∧ SqL K H a (ns.map V.int) ∧ HOk P w H s₁.heap ∧ (∀ b u, H b = some u → b = a ∧ K.lookup a = none) := by
    cases inText : K.lookup a with
    | some o =>
      have same := inK a o inText
      rw [obj] at same
      cases same
      have never : ∀ (u : HO), (none : Option HO) ≠ some u := fun u z => by cases z
      refine ⟨fun _ => none, fun _ => .inl rfl, ?_, (fun b u z => (never u z).elim), (fun b u z => (never u z).elim)⟩
      refine .inr ⟨_, vs.toArray, _, inText, rfl, rfl, rfl, ?_, ?_⟩
      · rw [List.size_toArray, lens]
        exact few
      · rw [List.toList_toArray]
        exact rel
    | none =>
      let here : HO := .frz { cls := .type "list", data := .seq vs.toArray } (.lst (ns.map V.int))
      have only : ∀ b u, (if b = a then some here else none) = some u → b = a ∧ u = here := fun b u z => by
        by_cases hb : b = a
        · rw [if_pos hb] at z
          exact ⟨hb, (Option.some.inj z).symm⟩
        · rw [if_neg hb] at z
          cases z
      refine ⟨fun b => if b = a then some here else none, fun b => ?_, .inl (.inr ⟨{ cls := .type "list", data := .seq vs.toArray }, if_pos rfl⟩), fun b u z => ?_, fun b u z => ⟨(only b u z).1, rfl⟩⟩
      · by_cases hb : b = a
        · exact .inr ⟨_, _, if_pos hb⟩
        · exact .inl (if_neg hb)
      · obtain ⟨rfl, rfl⟩ := only b u z
        exact ⟨obj, by rw [List.length_map]; exact few, vs, _, rel, obj⟩
  obtain ⟨H, hO, hS, hok, hA⟩ := found
  have under : ∀ {b : Addr} {o : Obj}, s₁.heap.get? b = some o → H b = none → (hidT s₁.heap H).get? b = some o := fun e z => hidT_get e z
  have notDict : ∀ {b : Addr} {o : Obj} {es : Array DictEntry} {ep : Nat}, s₁.heap.get? b = some o → o.data = .dict es ep → H b = none := by
    intro b o es ep e isD
    cases z : H b with
    | none => rfl
    | some u =>
      obtain ⟨rfl, _⟩ := hA b u z
      rw [obj] at e
      cases e
      cases isD
  have ns' : ∀ {b : Addr} {m : Str → Option Value}, s₁.heap.Ns b m → (hidT s₁.heap H).Ns b m := by
    rintro b m ⟨o, es, ep, e, isD, r⟩
    exact ⟨o, es, ep, under e (notDict e isD), isD, r⟩
  have inK' : K.In (hidT s₁.heap H) := by
    intro b o e
    refine under (inK b o e) ?_
    cases z : H b with
    | none => rfl
    | some u =>
      obtain ⟨rfl, no⟩ := hA b u z
      rw [no] at e
      cases e
  obtain ⟨mc, l1, l2⟩ := lim
  have env : Env0 P w K mg (hidT s₁.heap H) callerA [] s₁ H :=
    ⟨rfl, ⟨inK', ns' gl, ⟨mb, ns' bl, isB⟩, ⟨mc, ns' l1, l2⟩⟩, fun _ _ e => of_hidT e, Nat.le_of_eq (hidT_size _ _), trivial, (fun _ hb => nomatch hb), hok, .of_eq gens⟩
  refine codeAny_mono (run _ H inK' (ns' gl) env hS) ?_
  intro r s' h
  cases r with
  | error e => exact h.elim
  | ok fl =>
    cases fl with
    | next => exact h.elim
    | brk => exact h.elim
    | cont => exact h.elim
    | ret u =>
      obtain ⟨v, H', os, bare, un, hok', rv, isT⟩ := h
      subst isT
      cases rv
      refine ⟨rfl, OldK.of_keep ?_, os, bare⟩
      intro b o e
      cases z : H b with
      | none => exact un.keep b o e z (fun y => nomatch y) (fun y => nomatch y)
      | some u =>
        rcases hO b with y | ⟨ob, xs, y⟩
        · rw [z] at y
          cases y
        · have y2 := un.frzs b ob _ y
          obtain ⟨e1, _⟩ := hok b _ y
          obtain ⟨e2, _⟩ := hok' b _ y2
          rw [e] at e1
          cases e1
          exact e2
/-! ### defs that ask for repr: the guards are carried -/
structure FnOkG (P : Program) (w : World) (K : PySem.W.Frag) (mg : Str → Option Value) (base : Heap) (k : Nat) (f : Addr) (fd : FuncData) (ps : List Str) (sp : Sp) : Prop where
  len : ∀ vs H Q E, sp vs H Q E → vs.length = ps.length
  run : ∀ (A : Around) (outer : List Env) (s : Shared) (H : Hp) (args : Args) (us : List Value) (vs : List V) (Q : VK) (E : XK), A.guards = some [] → Room k A → Env0 P w K mg base A outer s H →
    BindsTo s fd args (ps.zip us) → Vals vs us → sp vs H Q E → codeAny (model P w) A (.call (.ref f) args) (CR CX0 outer P w H s Q E) s
theorem fnG {P : Program} {w : World} {K : PySem.W.Frag} {mg : Str → Option Value} {base : Heap} {f : Addr} {fd : FuncData} {N ps : List Str} {k : Nat} {x qual : Str} {st : Stmt} {sp : Sp} (F : Fun K x qual st f fd) (S : FnScope N ps (defScope st))
    (len : ∀ vs H Q E, sp vs H Q E → vs.length = ps.length)
    (body : ∀ (cdv : Value) (A : Around) (outer : List Env) (s : Shared) (H : Hp) (vs : List V) (Q : VK) (E : XK), A.guards = some [] → Room k (A.deeper (envOfC qual (defScope st) s.heap.objs.size f cdv)) → sp vs H Q E →
      ∃ t, PSs (cxOf CX0 P w K mg base N qual (defScope st) f cdv A outer s H E).nox (defBody st) t ∧ t { nx := fun _ H' => Q .non H', rt := Q } (start N vs) H) :
    FnOkG P w K mg base (k + 1) f fd ps sp := by
  refine ⟨len, ?_⟩
  intro A outer s H args us vs Q E gs room en bd rel hsp
  exact enter_def F S room en bd rel (len _ _ _ _ hsp) fun cdv hr => body cdv A outer s H vs Q E gs hr hsp
theorem pe_callG {X : Cx} {k : Nat} {f : Addr} {fd : FuncData} {ps : List Str} {sp : Sp} {x : Str} {p pos : Pos} {e : Expr} {es : List Expr} {t : TA}
    (G : FnOkG X.prog X.w X.K X.mg X.base k f fd ps sp) (gs : X.A.guards = some []) (room : Room k X.A) (isG : Gl X x) (at0 : X.mg x = some (.ref f)) (kp : PySem.W.keepIn X.K (.ref f) = true) (bd : Binds X.K fd ps []) (args : PA X (e :: es) t)
    (nd : (x == ("__debug__" : Str)) = false := by decide) (he : starEach (e :: es) X.env = (false, eval e X.env) :: starEach es X.env := by rfl) (hp : (backTo pos (starEach es X.env)).any (·.1) = false := by rfl) :
    PE X (.Call (.Name x p) (e :: es) [] pos) (tCall sp [] E0 t) := by
  constructor
  intro pins s σ H Q I h
  refine wpAny_Call_Name_kw (ld_glob I isG at0 ?_ nd)
  refine PySem.W.callWith_K (h₀ := X.base) I.ok.mod.kin kp (thn (args.run pos pins s σ H _ I h) ?_) he hp
  rintro us s1 ⟨vs, H1, I1, rel, q⟩
  refine ⟨I1.kIn, ?_⟩
  have q' : sp vs H1 Q E0 := by
    rw [List.append_nil] at q
    exact q
  have hl : (us ++ []).length = ps.length := by
    rw [List.append_nil, ← rel.length]
    exact G.len _ _ _ _ q'
  have bd' := bd s1 us I1.kIn hl
  rw [List.append_nil] at bd'
  refine wpAny_call (codeAny_mono (G.run X.A X.stack s1 H1 ⟨us, []⟩ us vs Q E0 gs room I1.env0 bd' rel q') ?_)
  intro r s' done
  cases r with
  | error e => exact done.elim
  | ok fl =>
    cases fl with
    | ret u => exact I1.after done
    | next => exact done.elim
    | brk => exact done.elim
    | cont => exact done.elim
/-- a def that asks for repr, with its promise -/
structure DfG (P : Program) (w : World) (K : PySem.W.Frag) (mg : Str → Option Value) (base : Heap) (k : Nat) (nm : Str) (ps : List Str) (sp : Sp) where
  f : Addr
  fd : FuncData
  ok : FnOkG P w K mg base k f fd ps sp
  b : Binds K fd ps []
  kp : PySem.W.keepIn K (.ref f) = true
  g : mg nm = some (.ref f)
/-! ### repr of data without dicts -/
mutual
def okR : PyData → Bool
  | .none => true
  | .bool _ => true
  | .int i => decide (0 ≤ i) && decide (i < 64)
  | .str x => decide (x.length ≤ 128) && x.cps.toList.all (· < 128)
  | .list xs => okRs xs
  | .tuple xs => okRs xs
  | .dict _ => false
def okRs : List PyData → Bool
  | [] => true
  | x :: xs => okR x && okRs xs
end
mutual
def wtR : PyData → Nat
  | .none => 4
  | .bool _ => 5
  | .int _ => 31
  | .str x => 10 * x.length + 2
  | .list xs => 3 + wtRs xs
  | .tuple xs => 3 + wtRs xs
  | .dict _ => 0
def wtRs : List PyData → Nat
  | [] => 0
  | x :: xs => wtR x + 2 + wtRs xs
end
theorem small_shown : ∀ n : Nat, n < 64 → (Str.ofString (toString (n : Int))).length ≤ 31 ∧ (n : Int).natAbs.log2 < 1920 := by decide +kernel
theorem listText_leR (ts : List Str) : (listText ts).length ≤ piled ts + 3 := by
  have h := textFrom_len_le ts 0 "["
  have e : (listText ts).length = (textFrom 0 "[" ts).length + 1 := by
    show (textFrom 0 "[" ts ++ "]").length = _
    rw [strLen_append]
    rfl
  have z : ∀ l : List Str, (l.map (·.length)).sum + 2 * l.length = piled l := by
    intro l
    induction l with
    | nil => rfl
    | cons t l ih =>
      rw [piled_cons, List.map_cons, List.sum_cons, List.length_cons]
      omega
  have z2 := z ts
  have z3 : (("[" : String) : Str).length = 1 := rfl
  omega
mutual
theorem shownR : ∀ d : PyData, okR d = true → d.shown.length ≤ wtR d ∧ d.showable = true ∧ d.hasDict = false
  | .none, _ => by
    simp only [PyData.shown, wtR, PyData.showable, PyData.hasDict, and_true]
    decide +kernel
  | .bool b, _ => by
    simp only [PyData.shown, wtR, PyData.showable, PyData.hasDict, and_true]
    cases b <;> decide +kernel
  | .int i, h => by
    simp only [okR, Bool.and_eq_true, decide_eq_true_eq] at h
    obtain ⟨h1, h2⟩ := small_shown i.toNat (by omega)
    rw [show ((i.toNat : Nat) : Int) = i by omega] at h1 h2
    simp only [PyData.shown, wtR, PyData.showable, PyData.hasDict, decide_eq_true_eq, and_true]
    exact ⟨h1, h2⟩
  | .str x, h => by
    simp only [okR, Bool.and_eq_true, decide_eq_true_eq, List.all_eq_true] at h
    have h1 := StrLaws.reprText_len x (fun c hc => Nat.lt_of_lt_of_le (h.2 c hc) (by decide))
    simp only [PyData.shown, wtR, PyData.showable, PyData.hasDict, and_true]
    omega
  | .list xs, h => by
    simp only [okR] at h
    obtain ⟨h1, h2, h3⟩ := shownRs xs h
    simp only [PyData.shown, wtR, PyData.showable, PyData.hasDict]
    exact ⟨Nat.le_trans (listText_leR _) (by omega), h2, h3⟩
  | .tuple xs, h => by
    simp only [okR] at h
    obtain ⟨h1, h2, h3⟩ := shownRs xs h
    simp only [PyData.shown, wtR, PyData.showable, PyData.hasDict]
    exact ⟨Nat.le_trans (fmt_text _) (by omega), h2, h3⟩
  | .dict _, h => by
    simp only [okR] at h
    exact absurd h Bool.false_ne_true
theorem shownRs : ∀ ds : List PyData, okRs ds = true → piled (PyData.shownAll ds) ≤ wtRs ds ∧ PyData.showableAll ds = true ∧ PyData.hasDictAll ds = false
  | [], _ => by
    simp only [PyData.shownAll, wtRs, PyData.showableAll, PyData.hasDictAll, and_true]
    exact Nat.le_refl _
  | d :: ds, h => by
    simp only [okRs, Bool.and_eq_true] at h
    obtain ⟨h1, h2, h5⟩ := shownR d h.1
    obtain ⟨h3, h4, h6⟩ := shownRs ds h.2
    simp only [PyData.shownAll, wtRs, PyData.showableAll, PyData.hasDictAll, h2, h4, h5, h6, Bool.and_self, Bool.or_self, and_true]
    rw [piled_cons]
    omega
end
def rReprR (K : PySem.W.Frag) : List V → Hp → VK → Prop := fun xs H Q => ∃ (a : Addr) (d : PyData), xs = [.ref a] ∧ Dp K H (.ref a) d ∧ okR d = true ∧ wtR d ≤ 1000000 ∧ d.depth ≤ 60 ∧ Q (.str d.shown) H
theorem call_reprR {X : Cx} (hg : X.A.guards = some []) (hu : X.A.units + 64 < cLine) : CallR X (.builtin "repr") (rReprR X.K) := by
  intro pins s σ H xs us Q I r h
  obtain ⟨a, d, rfl, hd, hs, hw, hz, q⟩ := h
  obtain ⟨u, rfl, rx⟩ := vals1 r
  cases rx
  obtain ⟨h1, h2, h3⟩ := shownR d hs
  obtain ⟨as, rd⟩ := Dp.reads I d _ _ hd rfl
  exact repr_of_reads' rd h2 (PyData.noDict_hsm h3) hg (by omega) (fun _ _ e => e) (fun h' u tk hk => ⟨.str d.shown, H, I.kept (t' := tk) hk, ⟨u, rfl⟩, q⟩) (by show _ ≤ 16777216; omega)
/-! ### def f(a, .., **d), called with keywords: a new dict of them -/
theorem push_last (h : Heap) (o : Obj) (f : Obj → Obj) : (h.push o).update h.objs.size f = h.push (f o) := by
  obtain ⟨objs, l⟩ := h
  show (⟨(objs.push o).modify objs.size f, l⟩ : Heap) = ⟨objs.push (f o), l⟩
  refine congrArg (fun z => (⟨z, l⟩ : Heap)) (Array.ext_getElem? fun i => ?_)
  rw [Array.getElem?_modify, Array.getElem?_push, Array.getElem?_push]
  by_cases e : objs.size = i
  · subst e
    simp
  · rw [if_neg e, if_neg (fun z => e z.symm), if_neg (fun z => e z.symm)]
section
variable {P : Program} {w : World} {A : Around} {E : Value → Shared → Prop}
/-- one entry more -/
theorem kw_put {z : Shared} {es : List DictEntry} {n t : Nat} {k : Str} {v : Value} {Q : Unit → Shared → Prop} (new : ∀ e ∈ es, ∃ k' u, e.key = .str k' u ∧ k' ≠ k)
    (h : ∀ n' t', Q () { z with heap := z.heap.push (PySem.W.dictOf (es ++ [⟨PyData.keyHash w.params k, .str k t, v⟩]) n'), toks := t' }) :
    wpAny (model P w) A (nsSet z.heap.objs.size k v) Q E { z with heap := z.heap.push (PySem.W.dictOf es n), toks := t } := by
  have here : (z.heap.push (PySem.W.dictOf es n)).get? z.heap.objs.size = some (PySem.W.dictOf es n) := Heap.get?_push_size _ rfl
  have other : ∀ e ∈ es, e.key.isStr k = false := fun e he => by
    obtain ⟨k', u, ek, ne⟩ := new e he
    rw [ek]
    exact beq_eq_false_iff_ne.mpr ne
  have named : aRefKeyMayBeTheName k es.toArray = false := by
    rw [aRefKeyMayBeTheName_at]
    have : es.toArray.any (·.refKey) = false := by
      rw [← Array.any_toList]
      refine List.any_eq_false.mpr fun e he => ?_
      obtain ⟨k', u, ek, _⟩ := new e he
      show ¬ e.refKey = true
      unfold DictEntry.refKey
      rw [ek]
      exact Bool.false_ne_true
    rw [this, Bool.and_false]
  unfold nsSet
  refine wpAny_bind (wpAny_bind (wpAny_askSetting (wpAny_pure ?_)))
  refine wpAny_bind (wpAny_mkText ?_)
  refine wpAny_bind (wpAny_loadPart here ?_)
  show wpAny _ _ (if aRefKeyMayBeTheName k es.toArray = true then _ else _) _ _ _
  rw [named]
  refine wpAny_updatePart (s := { z with heap := z.heap.push (PySem.W.dictOf es n), toks := t + 1 }) here ?_
  rw [push_last, PySem.W.putName_dict, PySem.W.putL_new other]
  exact h _ _
/-- all entries -/
theorem kw_fill {z : Shared} {Q : PUnit → Shared → Prop} : ∀ (ex : List (Str × Value)) (es : List DictEntry) (n t : Nat), (∀ e ∈ es, ∃ k' u, e.key = .str k' u ∧ ∀ x ∈ ex, k' ≠ x.1) → (ex.map (·.1)).Nodup →
    (∀ n' t' es', Pairs (mixKind P w) es' (ex.map fun x => ((.inr x.1 : Key), x.2)) → (∀ e ∈ es', ∃ k u, e.key = .str k u ∧ e.hash = PyData.keyHash w.params k) → Q ⟨⟩ { z with heap := z.heap.push (PySem.W.dictOf (es ++ es') n'), toks := t' }) →
    wpAny (model P w) A (forIn ex PUnit.unit fun x _ => (nsSet z.heap.objs.size x.1 x.2 >>= fun _ => pure (ForInStep.yield PUnit.unit))) Q E { z with heap := z.heap.push (PySem.W.dictOf es n), toks := t }
  | [], es, n, t, _, _, h => by
    rw [List.forIn_nil]
    refine wpAny_pure ?_
    have := h n t [] .nil (fun e he => by cases he)
    rw [List.append_nil] at this
    exact this
  | (k, v) :: ex, es, n, t, old, nd, h => by
    obtain ⟨nk, nd⟩ := List.nodup_cons.mp (show (k :: ex.map (·.1)).Nodup from nd)
    rw [List.forIn_cons]
    refine wpAny_bind (wpAny_bind (kw_put (fun e he => ?_) fun n1 t1 => wpAny_pure ?_))
    · obtain ⟨k', u, ek, ne⟩ := old e he
      exact ⟨k', u, ek, ne (k, v) List.mem_cons_self⟩
    refine kw_fill ex _ n1 t1 (fun e he => ?_) nd fun n' t' es' pr hs => ?_
    · rcases List.mem_append.mp he with he | he
      · obtain ⟨k', u, ek, ne⟩ := old e he
        exact ⟨k', u, ek, fun x hx => ne x (List.mem_cons_of_mem _ hx)⟩
      · rw [List.mem_singleton.mp he]
        exact ⟨k, t, rfl, fun x hx e => nk (List.mem_map.mpr ⟨x, hx, e.symm⟩)⟩
    · have := h n' t' (⟨PyData.keyHash w.params k, .str k t, v⟩ :: es') (.cons (mixKind_str P w k t) rfl pr) (fun e he => by
        rcases List.mem_cons.mp he with rfl | he
        · exact ⟨k, t, rfl, rfl⟩
        · exact hs e he)
      rw [List.append_assoc]
      exact this
end
/-- what such a def's binding comes to -/
structure KwBind (fd : FuncData) (ps : List Str) (pd : Str) (ks : List Str) : Prop where
  eq : ∀ us ws : List Value, us.length = ps.length → ws.length = ks.length → bindArgs fd ⟨us, ks.zip ws⟩ =
    ((alloc ({ cls := .type "dict", data := .dict #[] } : Obj) : Sem Addr) >>= fun d => (forIn (ks.zip ws) PUnit.unit fun x _ => (nsSet d x.1 x.2 >>= fun _ => pure (ForInStep.yield PUnit.unit))) >>= fun _ => pure (ps.zip us ++ [(pd, Value.ref d)]))
  nd : ks.Nodup
/-- its promise: vs the values, zs the keywords' -/
def FnKw (P : Program) (w : World) (K : PySem.W.Frag) (mg : Str → Option Value) (base : Heap) (k : Nat) (f : Addr) (n : Nat) (ks : List Str) (sp : List V → List V → Hp → VK → Prop) : Prop :=
  ∀ (A : Around) (outer : List Env) (s : Shared) (H : Hp) (us ws : List Value) (vs zs : List V) (Q : VK), Room k A → Env0 P w K mg base A outer s H → Vals vs us → vs.length = n → Vals zs ws → zs.length = ks.length → sp vs zs H Q →
    codeAny (model P w) A (.call (.ref f) ⟨us, ks.zip ws⟩) (CR CX0 outer P w H s Q E0) s
theorem kv_zip : ∀ {ks : List Str} {zs : List V} {ws : List Value}, Vals zs ws → zs.length = ks.length → KV ((ks.zip zs).map fun x => ((.inr x.1 : Key), x.2)) ((ks.zip ws).map fun x => ((.inr x.1 : Key), x.2))
  | [], _, _, .nil, _ => .nil
  | k :: ks, _, _, .cons r h, e => .cons ⟨rfl, r⟩ (kv_zip h (by simpa using e))
section
variable {P : Program} {w : World} {K : PySem.W.Frag} {mg : Str → Option Value} {base : Heap}
theorem fnKw {x qual : Str} {st : Stmt} {f : Addr} {fd : FuncData} {N ps ks : List Str} {pd : Str} {k : Nat} {sp : List V → List V → Hp → VK → Prop} (F : Fun K x qual st f fd) (B : KwBind fd ps pd ks) (few : ks.length ≤ 1000) (S : FnScope N (ps ++ [pd]) (defScope st))
    (body : ∀ (cdv : Value) (A : Around) (outer : List Env) (s : Shared) (H : Hp) (vs zs : List V) (d : Addr) (Q : VK), Room k (A.deeper (envOfC qual (defScope st) s.heap.objs.size f cdv)) → H d = some (.dK ((ks.zip zs).map fun x => ((.inr x.1 : Key), x.2))) → zs.length = ks.length →
      (∃ H0, H0 d = none ∧ H = upd H0 d (.dK ((ks.zip zs).map fun x => ((.inr x.1 : Key), x.2))) ∧ sp vs zs H0 Q) →
      ∃ t, PSs (cxOf CX0 P w K mg base N qual (defScope st) f cdv A outer s H E0).nox (defBody st) t ∧ t { nx := fun _ H' => Q .non H', rt := Q } (start N (vs ++ [.ref d])) H) :
    FnKw P w K mg base (k + 1) f ps.length ks sp := by
  intro A outer s H us ws vs zs Q room e0 rv lv rz lz q
  obtain ⟨oc, od, kV, doc, pm, an, cdv, ct, osl, e, look, code⟩ := F.ex
  subst e
  have lus : us.length = ps.length := by rw [← rv.length]; exact lv
  have lws : ws.length = ks.length := by rw [← rz.length]; exact lz
  have fresh : H s.heap.objs.size = none := e0.hok.fresh (Nat.le_refl _)
  refine StX.run_bnd look code S room e0 (G := fun xs H2 => ∃ d, H d = none ∧ xs = vs ++ [V.ref d] ∧ H2 = upd H d (.dK ((ks.zip zs).map fun x => ((.inr x.1 : Key), x.2)))) (fun A' Ex Q' fin => ?_) fun s2 H2 xs g room2 => ?_
  · rw [B.eq us ws lus lws]
    refine wpAny_bind (wpAny_alloc ?_)
    have names : ((ks.zip ws).map (·.1)) = ks := List.map_fst_zip (Nat.le_of_eq lws.symm)
    refine wpAny_bind (kw_fill (z := s) (ks.zip ws) [] 0 s.toks (fun e he => by cases he) (by rw [names]; exact B.nd) fun n' t' es' pr hs => wpAny_pure ?_)
    rw [List.nil_append]
    have ok : ObjOk P w (upd H s.heap.objs.size (.dK ((ks.zip zs).map fun x => ((.inr x.1 : Key), x.2)))) (s.heap.push (PySem.W.dictOf es' n')) s.heap.objs.size (.dK ((ks.zip zs).map fun x => ((.inr x.1 : Key), x.2))) := by
      refine ⟨?_, beq_eq_false_iff_ne.mpr (Ne.symm (Nat.ne_of_lt (StX.env0_big e0))), _, kv_zip rz lz, _, es'.toArray, n', Heap.get?_push_size _ rfl, ⟨rfl, rfl, rfl⟩, rfl, fun e he => ?_, pr, ?_⟩
      · rw [List.length_map, List.length_zip]
        exact small (by omega)
      · obtain ⟨k', u, ek, eh⟩ := hs e (List.mem_toArray.mp he)
        exact ⟨.inr k', by rw [ek]; exact mixKind_str P w k' u, eh⟩
      · rw [List.map_map]
        have : (ks.zip ws).map ((fun x : Key × Value => x.1) ∘ fun x => ((.inr x.1 : Key), x.2)) = ((ks.zip ws).map (·.1)).map Sum.inr := by rw [List.map_map]; rfl
        rw [this, names]
        exact List.Pairwise.map _ (fun _ _ ne e => ne (Sum.inr.inj e)) B.nd
    have en := StX.env0_laid e0 ok
    have un := StX.un_laid (fs := frs outer) (s := s) (o := PySem.W.dictOf es' n') (u := .dK ((ks.zip zs).map fun x => ((.inr x.1 : Key), x.2))) fresh
    have z := fin { s with heap := s.heap.push (PySem.W.dictOf es' n'), toks := t' } _ (vs ++ [V.ref s.heap.objs.size]) (us ++ [Value.ref s.heap.objs.size]) ⟨en.frames, en.mod, en.bs, en.bsz, en.funs, en.frf, en.hok, en.bare⟩ un rfl (fun _ _ h => h.elim)
      (rv.append (.cons rfl .nil)) (by rw [List.length_append, List.length_append, lv]; rfl) ⟨_, fresh, rfl, rfl⟩
    rw [List.zip_append lus.symm] at z
    exact z
  · obtain ⟨d, nd, rfl, rfl⟩ := g
    obtain ⟨t, rule, read⟩ := body cdv A outer s2 _ vs zs d Q room2 upd_same lz ⟨H, nd, rfl, q⟩
    exact ⟨t, rule.nox, read⟩
end
/-- f(e, .., k = v, ..) of such a def -/
def tCallKw (n m : Nat) (sp : List V → List V → Hp → VK → Prop) (t tk : TA) : TE := fun σ H Q => t σ H fun vs H1 => tk σ H1 fun zs H2 => vs.length = n ∧ zs.length = m ∧ sp vs zs H2 Q
theorem pe_callKw {X : Cx} {k n : Nat} {f : Addr} {ks : List Str} {sp : List V → List V → Hp → VK → Prop} {x : Str} {p pos : Pos} {e : Expr} {es : List Expr} {kws : List Keyword} {t tk : TA} (F : FnKw X.prog X.w X.K X.mg X.base k f n ks sp) (room : Room k X.A) (isG : Gl X x) (at0 : X.mg x = some (.ref f)) (kp : PySem.W.keepIn X.K (.ref f) = true)
    (args : PA X (e :: es) t) (kargs : PK X kws tk) (all : (backToKw pos (keywordEach kws X.env)).all (·.1.isSome) = true := by rfl) (names : (backToKw pos (keywordEach kws X.env)).filterMap (·.1) = ks := by rfl)
    (nd : (x == ("__debug__" : Str)) = false := by decide) (he : starEach (e :: es) X.env = (false, eval e X.env) :: starEach es X.env := by rfl)
    (plain : ((backTo pos (starEach (e :: es) X.env)).any (·.1) || (backToKw pos (keywordEach kws X.env)).any (·.1.isNone)) = false := by rfl) :
    PE X (.Call (.Name x p) (e :: es) kws pos) (tCallKw n ks.length sp t tk) := by
  refine ⟨fun pins s σ H Q I h => wpAny_Call_Name_kw (ld_glob I isG at0 ?_ nd)⟩
  refine PySem.W.callWith_KW (h₀ := X.base) I.ok.mod.kin kp all (thn (args.run pos pins s σ H _ I h) fun us s1 ⟨vs, H1, I1, rv, q1⟩ => ?_) plain he
  refine thn (kargs.run pos pins s1 σ H1 _ I1 q1) fun ws s2 ⟨zs, H2, I2, rz, l1, l2, q2⟩ => ⟨I2.kIn, ?_⟩
  rw [names]
  refine wpAny_call (codeAny_mono (F X.A X.stack s2 H2 us ws vs zs Q room I2.env0 rv l1 rz l2 q2) fun r z hq => ?_)
  match r, hq with
  | .ok (.ret u), hq => exact I2.after hq
/-! ### C(**d): the entries of a dict as keywords -/
section
variable {P : Program} {w : World} {A : Around} {E : Value → Shared → Prop}
/-- one entry handed on -/
theorem kd_put {z : Shared} {es : List DictEntry} {n t : Nat} {e : DictEntry} {k : Key} {Q : Unit → Shared → Prop} (hk : PySem.KeysOf (mixKind P w) es.toArray) (he : (mixKind P w).is k e.key = true) (hh : e.hash = (mixKind P w).hash k) (new : ∀ x ∈ es, (mixKind P w).is k x.key = false) (few : es.length ≤ 1000)
    (h : ∀ n', Q () { z with heap := z.heap.push (PySem.W.dictOf (es ++ [e]) n'), toks := t }) :
    wpAny (model P w) A (dictPut z.heap.objs.size e.hash e.key e.val) Q E { z with heap := z.heap.push (PySem.W.dictOf es n), toks := t } := by
  have here : (z.heap.push (PySem.W.dictOf es n)).get? z.heap.objs.size = some (PySem.W.dictOf es n) := Heap.get?_push_size _ rfl
  have no : (es.toArray.findIdx? fun x => (mixKind P w).is k x.key) = none := by
    rw [Array.findIdx?_eq_none_iff]
    intro x hx
    exact new x (List.mem_toArray.mp hx)
  unfold dictPut
  rw [hh]
  refine wpAny_bind (wpAny_dictFind_of he here rfl hk ?_)
  rw [no]
  refine wpAny_updateDictKeysTo here rfl ?_ ?_
  · show Q () { z with heap := (z.heap.push (PySem.W.dictOf es n)).update z.heap.objs.size _, toks := t }
    rw [push_last]
    have : (PySem.W.dictOf es n).mapDictKeys (fun a => a.push ⟨(mixKind P w).hash k, e.key, e.val⟩) = PySem.W.dictOf (es ++ [e]) (n + 1) := by
      rw [← hh]
      show (⟨_, _, .dict (es.toArray.push _) _, _⟩ : Obj) = ⟨_, _, .dict (es ++ [e]).toArray _, _⟩
      rw [List.push_toArray]
    rw [this]
    exact h _
  · show (es.toArray.push _).size ≤ _
    rw [Array.size_push, List.size_toArray]
    have : sizeLine = 16777216 := rfl
    omega
theorem kd_merge {z : Shared} {a : Addr} {o : Obj} {es : List DictEntry} {ep t : Nat} {Q : Unit → Shared → Prop} (ho : z.heap.get? a = some o) (hx : o.ExactDict) (hd : o.data = .dict es.toArray ep) (hk : PySem.KeysOf (mixKind P w) es.toArray)
    (nd : es.Pairwise fun x y => ∀ k, (mixKind P w).is k x.key = true → (mixKind P w).is k y.key = false) (str : ∀ e ∈ es, ∃ x u, e.key = .str x u) (na : (a == sysModules) = false) (few : es.length ≤ 1000)
    (h : ∀ n', Q () { z with heap := z.heap.push (PySem.W.dictOf es n'), toks := t }) :
    wpAny (model P w) A (mergeMapping z.heap.objs.size (.ref a) true) Q E { z with heap := z.heap.push (PySem.W.dictOf [] 0), toks := t } := by
  have here : ∀ l n, (z.heap.push (PySem.W.dictOf l n)).get? z.heap.objs.size = some (PySem.W.dictOf l n) := fun l n => Heap.get?_push_size _ rfl
  have there : ∀ l n, (z.heap.push (PySem.W.dictOf l n)).get? a = some o := fun l n => Heap.get?_push_of_some _ ho
  have hT : ∀ l n t, Shared.TypeIs { z with heap := z.heap.push (PySem.W.dictOf l n), toks := t } (.ref a) "dict" := fun l n t => ⟨o, there l n, hx.1⟩
  unfold mergeMapping
  refine wpAny_bind (wpAny_isInstance (hT _ _ _) isSubtype_dict_dict ?_)
  rw [if_pos rfl]
  refine wpAny_bind (wpAny_specialOf (hT _ _ _) F.slot_dict_iter.lookup ?_)
  refine wpAny_bind (wpAny_pure ?_)
  rw [show (some (Value.builtin "dict.__iter__") == some (Value.builtin "dict.__iter__")) = true by simp]
  dsimp only
  rw [na, if_neg Bool.false_ne_true]
  refine wpAny_bind (wpAny_dictEntries (here _ _) rfl ?_)
  rw [if_pos (show (([] : List DictEntry).toArray).isEmpty = true from rfl)]
  refine wpAny_bind (wpAny_dictEntries (there _ _) hd ?_)
  have skip : ∀ {Q : PUnit → Shared → Prop} {s : Shared}, Q ⟨⟩ s → wpAny (model P w) A (forIn es.toArray PUnit.unit fun e __s => match e.key with
      | Value.ref a => do
        let __do_lift ← specialOf e.key (Str.ofString "__eq__")
        if (__do_lift != some (Value.builtin "object.__eq__")) = true then
            if (Array.filter (fun x => x.hash == e.hash) es.toArray).size > 1 then do
              unsupported "dict.merge-into-an-empty-dict:keys-of-equal-hash"
              pure (ForInStep.yield PUnit.unit)
            else pure (ForInStep.yield PUnit.unit)
          else pure (ForInStep.yield PUnit.unit)
      | x => pure (ForInStep.yield PUnit.unit)) Q E s := fun {Q s} q => by
    rw [← Array.forIn_toList]
    refine wpAny_forIn_list _ (fun rest _ s' => s' = s ∧ ∀ e ∈ rest, e ∈ es) _ (fun x rest b s' hI => ?_) (fun b s' hI => by rw [hI.1]; exact q) _ _ ⟨rfl, fun e he => he⟩
    obtain ⟨rfl, hm⟩ := hI
    obtain ⟨y, u, ek⟩ := str x (hm x List.mem_cons_self)
    rw [ek]
    exact wpAny_pure ⟨rfl, fun e he => hm e (List.mem_cons_of_mem _ he)⟩
  refine wpAny_bind (skip ?_)
  refine wpAny_bind (wpAny_dictEntries (there _ _) hd ?_)
  refine wpAny_bind (wpAny_dictEpoch (there _ _) hd ?_)
  refine wpAny_bind ?_
  refine wpAny_forIn_list _ (fun rest _ s' => ∃ i n, rest = List.range' i (es.length - i) ∧ i ≤ es.length ∧ s' = { z with heap := z.heap.push (PySem.W.dictOf (es.take i) n), toks := t }) _ (fun x rest b s' hI => ?_) (fun b s' hI => ?_) _ _ ⟨0, 0, by rw [List.size_toArray, List.range_eq_range', Nat.sub_zero], Nat.zero_le _, rfl⟩
  · obtain ⟨i, n, hr, hi, rfl⟩ := hI
    have hlt : i < es.length := by
      by_cases hlt : i < es.length
      · exact hlt
      · rw [show es.length - i = 0 by omega] at hr; cases hr
    rw [show es.length - i = (es.length - (i + 1)) + 1 by omega, List.range'_succ] at hr
    obtain ⟨rfl, rfl⟩ := List.cons.inj hr
    refine wpAny_bind (wpAny_dictEntries (there _ _) hd ?_)
    have hx : es.toArray[x]? = some es[x] := by rw [List.getElem?_toArray]; exact List.getElem?_eq_getElem hlt
    rw [hx]
    have hm : es[x] ∈ es := List.getElem_mem hlt
    obtain ⟨k, hk1, hk2⟩ := hk es[x] (List.mem_toArray.mpr hm)
    have old : ∀ e ∈ es.take x, (mixKind P w).is k e.key = false := fun e he => by
      obtain ⟨j, hj, rfl⟩ := List.getElem_of_mem he
      rw [List.length_take] at hj
      rw [List.getElem_take]
      cases q : (mixKind P w).is k es[j].key with
      | false => rfl
      | true =>
        have := List.pairwise_iff_getElem.mp nd j x (by omega) hlt (by omega) k q
        rw [hk1] at this
        cases this
    have hkt : PySem.KeysOf (mixKind P w) (es.take x).toArray := fun e he => hk e (List.mem_toArray.mpr (List.mem_of_mem_take (List.mem_toArray.mp he)))
    refine wpAny_bind (wpAny_holding ?_)
    rw [if_pos rfl]
    have no : ((es.take x).toArray.findIdx? fun y => (mixKind P w).is k y.key) = none := by
      rw [Array.findIdx?_eq_none_iff]
      intro y hy
      exact old y (List.mem_toArray.mp hy)
    refine wpAny_bind ?_
    rw [hk2]
    refine wpAny_dictFind_of hk1 (here _ _) rfl hkt ?_
    rw [no]
    rw [if_neg (by simp)]
    rw [← hk2]
    refine kd_put hkt hk1 hk2 old (by rw [List.length_take]; omega) fun n' => ?_
    refine wpAny_bind (wpAny_dictEpoch (there _ _) hd ?_)
    rw [if_neg (by simp)]
    refine wpAny_pure ⟨x + 1, n', rfl, hlt, ?_⟩
    rw [List.take_add_one, List.getElem?_eq_getElem hlt]
    rfl
  · obtain ⟨i, n, hr, hi, rfl⟩ := hI
    have : i = es.length := by
      by_cases hlt : i < es.length
      · rw [show es.length - i = (es.length - (i + 1)) + 1 by omega, List.range'_succ] at hr; cases hr
      · omega
    subst this
    rw [List.take_length]
    exact wpAny_pure (h n)
end
/-! ### C(**d), further: the keywords read off, the call -/
def kwOf : List DictEntry → List (Str × Value)
  | [] => []
  | e :: es => (match e.key with | .str x _ => [(x, e.val)] | _ => []) ++ kwOf es
theorem kwOf_app : ∀ l m : List DictEntry, kwOf (l ++ m) = kwOf l ++ kwOf m
  | [], _ => rfl
  | e :: l, m => by
    show _ ++ kwOf (l ++ m) = (_ ++ kwOf l) ++ kwOf m
    rw [kwOf_app l m, List.append_assoc]
section
variable {P : Program} {w : World} {A : Around} {E : Value → Shared → Prop}
theorem kd_read {f : Value} {s : Shared} {d : Addr} {es : List DictEntry} {n : Nat} {Q : List (Str × Value) → Shared → Prop} (hd : s.heap.get? d = some (PySem.W.dictOf es n)) (str : ∀ e ∈ es, ∃ x u, e.key = .str x u) (h : Q (kwOf es) s) :
    wpAny (model P w) A (keywordsIn f d) Q E s := by
  unfold keywordsIn
  refine wpAny_bind (wpAny_dictEntries hd rfl ?_)
  refine wpAny_bind ?_
  rw [← Array.forIn_toList]
  refine wpAny_forIn_list _ (fun rest b s' => s' = s ∧ ∃ pre, es = pre ++ rest ∧ b = kwOf pre) _ (fun x rest b s' hI => ?_) (fun b s' hI => ?_) _ _ ⟨rfl, [], rfl, rfl⟩
  · obtain ⟨rfl, pre, e1, rfl⟩ := hI
    obtain ⟨y, u, ek⟩ := str x (by rw [e1]; exact List.mem_append_right _ List.mem_cons_self)
    rw [ek]
    refine wpAny_pure ⟨rfl, pre ++ [x], by rw [e1, List.append_assoc]; rfl, ?_⟩
    rw [kwOf_app]
    show _ = kwOf pre ++ ((match x.key with | .str x' _ => [(x', x.val)] | _ => []) ++ [])
    rw [ek, List.append_nil]
  · obtain ⟨rfl, pre, e1, rfl⟩ := hI
    rw [List.append_nil] at e1
    subst e1
    exact wpAny_pure h
theorem kd_merged {f : Value} {x : Sem Value} {z : Shared} {a : Addr} {o : Obj} {es : List DictEntry} {ep : Nat} {Q : Addr → Shared → Prop} (ho : z.heap.get? a = some o) (hx : o.ExactDict) (hd : o.data = .dict es.toArray ep) (hk : PySem.KeysOf (mixKind P w) es.toArray)
    (nd : es.Pairwise fun x y => ∀ k, (mixKind P w).is k x.key = true → (mixKind P w).is k y.key = false) (str : ∀ e ∈ es, ∃ x u, e.key = .str x u) (na : (a == sysModules) = false) (few : es.length ≤ 1000)
    (get : ∀ {Q : Value → Shared → Prop} {E : Value → Shared → Prop}, Q (.ref a) { z with heap := z.heap.push (PySem.W.dictOf [] 0) } → wpAny (model P w) A x Q E { z with heap := z.heap.push (PySem.W.dictOf [] 0) })
    (h : ∀ n', Q z.heap.objs.size { z with heap := z.heap.push (PySem.W.dictOf es n') }) :
    wpAny (model P w) A (mergedKeywords f [(none, x)]) Q E z := by
  unfold mergedKeywords
  refine wpAny_bind (wpAny_alloc ?_)
  refine wpAny_bind (wpAny_holding ?_)
  refine wpAny_bind ?_
  rw [List.forIn_cons]
  refine wpAny_bind ?_
  refine wpAny_bind ?_
  refine wpAny_of_eq (a := ()) rfl ?_
  refine wpAny_bind (get ?_)
  refine wpAny_bind (wpAny_onRaise (wpAny_holding (wpAny_tryCatch (wpAny_onRaise (kd_merge ho hx hd hk nd str na few fun n' => ?_)))))
  refine wpAny_pure ?_
  refine wpAny_of_eq (a := ([] : List (Str × Sem Value))) rfl ?_
  refine wpAny_of_eq (a := ()) rfl ?_
  exact wpAny_pure (h n')
/-- the arguments of such a call -/
theorem kd_args {f : Value} {x : Sem Value} {z : Shared} {a : Addr} {o : Obj} {es : List DictEntry} {ep : Nat} {Q : Args → Shared → Prop} (ho : z.heap.get? a = some o) (hx : o.ExactDict) (hd : o.data = .dict es.toArray ep) (hk : PySem.KeysOf (mixKind P w) es.toArray)
    (nd : es.Pairwise fun x y => ∀ k, (mixKind P w).is k x.key = true → (mixKind P w).is k y.key = false) (str : ∀ e ∈ es, ∃ x u, e.key = .str x u) (na : (a == sysModules) = false) (few : es.length ≤ 1000)
    (get : ∀ {Q : Value → Shared → Prop} {E : Value → Shared → Prop}, Q (.ref a) { z with heap := z.heap.push (PySem.W.dictOf [] 0) } → wpAny (model P w) A x Q E { z with heap := z.heap.push (PySem.W.dictOf [] 0) })
    (h : ∀ n', Q ⟨[], kwOf es⟩ { z with heap := z.heap.push (PySem.W.dictOf es n') }) :
    wpAny (model P w) A (evalArgs f true [] [(none, x)]) Q E z := by
  unfold evalArgs
  refine wpAny_bind (wpAny_of_eq (a := []) rfl ?_)
  refine wpAny_bind (wpAny_pure ?_)
  refine wpAny_holding ?_
  rw [if_neg (show ¬ (([(none, x)] : List (Option Str × Sem Value)).all (·.1.isSome) = true) by simp)]
  refine wpAny_bind (kd_merged ho hx hd hk nd str na few get fun n' => ?_)
  refine wpAny_bind (wpAny_of_eq (a := []) rfl ?_)
  refine wpAny_bind (wpAny_holding (kd_read (Heap.get?_push_size _ rfl) str ?_))
  exact wpAny_pure (h n')
end
/-! ### a promise of a def called with keywords, errors too -/
structure DfX (P : Program) (w : World) (K : PySem.W.Frag) (mg : Str → Option Value) (base : Heap) (k : Nat) (nm : Str) (ps : List Str) (sp : Sp) where
  f : Addr
  fd : FuncData
  ok : FnOk P w K mg base (L2.CX P w) k f fd ps sp
  b : Binds K fd ps []
  kp : PySem.W.keepIn K (.ref f) = true
  g : mg nm = some (.ref f)
/-- a promise of a def called with keywords, errors too -/
def FnKwX (CX : CXT) (P : Program) (w : World) (K : PySem.W.Frag) (mg : Str → Option Value) (base : Heap) (k : Nat) (f : Addr) (n : Nat) (ks : List Str) (sp : List V → List V → Hp → VK → XK → Prop) : Prop :=
  ∀ (A : Around) (outer : List Env) (s : Shared) (H : Hp) (us ws : List Value) (vs zs : List V) (Q : VK) (E : XK), Room k A → Env0 P w K mg base A outer s H → Vals vs us → vs.length = n → Vals zs ws → zs.length = ks.length → sp vs zs H Q E →
    codeAny (model P w) A (.call (.ref f) ⟨us, ks.zip ws⟩) (CR CX outer P w H s Q E) s
section
variable {P : Program} {w : World} {K : PySem.W.Frag} {mg : Str → Option Value} {base : Heap} {CX : CXT}
theorem fnKwX (up : StX.CXUp CX) {x qual : Str} {st : Stmt} {f : Addr} {fd : FuncData} {N ps ks : List Str} {pd : Str} {k : Nat} {sp : List V → List V → Hp → VK → XK → Prop} (F : Fun K x qual st f fd) (B : KwBind fd ps pd ks) (few : ks.length ≤ 1000) (S : FnScope N (ps ++ [pd]) (defScope st))
    (body : ∀ (cdv : Value) (A : Around) (outer : List Env) (s : Shared) (H : Hp) (vs zs : List V) (d : Addr) (Q : VK) (E : XK), Room k (A.deeper (envOfC qual (defScope st) s.heap.objs.size f cdv)) → H d = some (.dK ((ks.zip zs).map fun x => ((.inr x.1 : Key), x.2))) → zs.length = ks.length →
      (∃ H0, H0 d = none ∧ H = upd H0 d (.dK ((ks.zip zs).map fun x => ((.inr x.1 : Key), x.2))) ∧ sp vs zs H0 Q E) →
      ∃ t, PSs (cxOf CX P w K mg base N qual (defScope st) f cdv A outer s H E) (defBody st) t ∧ t { nx := fun _ H' => Q .non H', rt := Q } (start N (vs ++ [.ref d])) H) :
    FnKwX CX P w K mg base (k + 1) f ps.length ks sp := by
  intro A outer s H us ws vs zs Q E room e0 rv lv rz lz q
  obtain ⟨oc, od, kV, doc, pm, an, cdv, ct, osl, e, look, code⟩ := F.ex
  subst e
  have lus : us.length = ps.length := by rw [← rv.length]; exact lv
  have lws : ws.length = ks.length := by rw [← rz.length]; exact lz
  have fresh : H s.heap.objs.size = none := e0.hok.fresh (Nat.le_refl _)
  refine StX.run_bnd look code S room e0 (G := fun xs H2 => ∃ d, H d = none ∧ xs = vs ++ [V.ref d] ∧ H2 = upd H d (.dK ((ks.zip zs).map fun x => ((.inr x.1 : Key), x.2)))) (fun A' Ex Q' fin => ?_) fun s2 H2 xs g room2 => ?_
  · rw [B.eq us ws lus lws]
    refine wpAny_bind (wpAny_alloc ?_)
    have names : ((ks.zip ws).map (·.1)) = ks := List.map_fst_zip (Nat.le_of_eq lws.symm)
    refine wpAny_bind (kw_fill (z := s) (ks.zip ws) [] 0 s.toks (fun e he => by cases he) (by rw [names]; exact B.nd) fun n' t' es' pr hs => wpAny_pure ?_)
    rw [List.nil_append]
    have ok : ObjOk P w (upd H s.heap.objs.size (.dK ((ks.zip zs).map fun x => ((.inr x.1 : Key), x.2)))) (s.heap.push (PySem.W.dictOf es' n')) s.heap.objs.size (.dK ((ks.zip zs).map fun x => ((.inr x.1 : Key), x.2))) := by
      refine ⟨?_, beq_eq_false_iff_ne.mpr (Ne.symm (Nat.ne_of_lt (StX.env0_big e0))), _, kv_zip rz lz, _, es'.toArray, n', Heap.get?_push_size _ rfl, ⟨rfl, rfl, rfl⟩, rfl, fun e he => ?_, pr, ?_⟩
      · rw [List.length_map, List.length_zip]
        exact small (by omega)
      · obtain ⟨k', u, ek, eh⟩ := hs e (List.mem_toArray.mp he)
        exact ⟨.inr k', by rw [ek]; exact mixKind_str P w k' u, eh⟩
      · rw [List.map_map]
        have : (ks.zip ws).map ((fun x : Key × Value => x.1) ∘ fun x => ((.inr x.1 : Key), x.2)) = ((ks.zip ws).map (·.1)).map Sum.inr := by rw [List.map_map]; rfl
        rw [this, names]
        exact List.Pairwise.map _ (fun _ _ ne e => ne (Sum.inr.inj e)) B.nd
    have en := StX.env0_laid e0 ok
    have un := StX.un_laid (fs := frs outer) (s := s) (o := PySem.W.dictOf es' n') (u := .dK ((ks.zip zs).map fun x => ((.inr x.1 : Key), x.2))) fresh
    have kp : ∀ b o, s.heap.get? b = some o → (s.heap.push (PySem.W.dictOf es' n')).get? b = some o := fun b o e => Heap.get?_push_of_some _ e
    have z := fin { s with heap := s.heap.push (PySem.W.dictOf es' n'), toks := t' } _ (vs ++ [V.ref s.heap.objs.size]) (us ++ [Value.ref s.heap.objs.size]) ⟨en.frames, en.mod, en.bs, en.bsz, en.funs, en.frf, en.hok, en.bare⟩ un rfl (fun e s' h => up outer s H { s with heap := s.heap.push (PySem.W.dictOf es' n'), toks := t' } _ E e s' un kp rfl h)
      (rv.append (.cons rfl .nil)) (by rw [List.length_append, List.length_append, lv]; rfl) ⟨_, fresh, rfl, rfl⟩
    rw [List.zip_append lus.symm] at z
    exact z
  · obtain ⟨d, nd, rfl, rfl⟩ := g
    exact body cdv A outer s2 _ vs zs d Q E room2 upd_same lz ⟨H, nd, rfl, q⟩
end
/-- f(k = v, ..) of such a def, no values before -/
def tCallKw0X (m : Nat) (sp : List V → List V → Hp → VK → XK → Prop) (E : XK) (tk : TA) : TE := fun σ H Q => tk σ H fun zs H2 => zs.length = m ∧ sp [] zs H2 Q E
theorem pe_callKw0X {X : Cx} {CX : CXT} {E : XK} {k : Nat} {f : Addr} {ks : List Str} {sp : List V → List V → Hp → VK → XK → Prop} {x : Str} {p pos : Pos} {kws : List Keyword} {tk : TA} (F : FnKwX CX X.prog X.w X.K X.mg X.base k f 0 ks sp) (room : Room k X.A) (isG : Gl X x) (at0 : X.mg x = some (.ref f)) (kp : PySem.W.keepIn X.K (.ref f) = true) (hx : Passes CX X E)
    (kargs : PK X kws tk) (all : (backToKw pos (keywordEach kws X.env)).all (·.1.isSome) = true := by rfl) (names : (backToKw pos (keywordEach kws X.env)).filterMap (·.1) = ks := by rfl)
    (nd : (x == ("__debug__" : Str)) = false := by decide) (plain : ((backTo pos (starEach [] X.env)).any (·.1) || (backToKw pos (keywordEach kws X.env)).any (·.1.isNone)) = false := by rfl) :
    PE X (.Call (.Name x p) [] kws pos) (tCallKw0X ks.length sp E tk) := by
  refine ⟨fun pins s σ H Q I h => wpAny_Call_Name_kw (ld_glob I isG at0 ?_ nd)⟩
  refine PySem.W.callWith_KW0 (h₀ := X.base) I.ok.mod.kin kp all ?_ plain
  refine thn (kargs.run pos pins s σ H _ I h) fun ws z ⟨zs, G, J, rz, lz, q⟩ => ⟨J.kIn, ?_⟩
  rw [names]
  refine wpAny_call (codeAny_mono (F X.A X.stack z G [] ws [] zs Q E room J.env0 .nil rfl rz lz q) fun r z' hq => ?_)
  match r, hq with
  | .ok (.ret u), hq => exact J.after hq
  | .error e, hq => exact hx _ _ _ _ _ _ J hq
/-! ### C(**d): a new instance -/
theorem kw_of : ∀ {ks : List Str} {zs : List V} {es : List DictEntry} {vs : List (Key × Value)} {P : Program} {w : World}, zs.length = ks.length → KV ((ks.zip zs).map fun x => ((.inr x.1 : Key), x.2)) vs → PySem.Pairs (mixKind P w) es vs →
    ∃ ws, Vals zs ws ∧ kwOf es = ks.zip ws ∧ (∀ e ∈ es, ∃ x u, e.key = .str x u) ∧ ws.length = ks.length
  | [], [], _, _, _, _, _, kv, pr => by
    cases kv
    cases pr
    exact ⟨[], .nil, rfl, (fun e he => absurd he (by simp)), rfl⟩
  | [], _ :: _, _, _, _, _, h, _, _ => nomatch h
  | _ :: _, [], _, _, _, _, h, _, _ => nomatch h
  | k :: ks, z :: zs, es, vs, P, w, h, kv, pr => by
    cases kv with
    | @cons _ q _ qs r t =>
      obtain ⟨e1, r2⟩ := r
      obtain ⟨q1, q2⟩ := q
      have e1 : (.inr k : Key) = q1 := e1
      subst e1
      cases pr with
      | @cons e _ es' _ h1 h2 h3 =>
        obtain ⟨ws, a1, a2, a3, a4⟩ := kw_of (ks := ks) (zs := zs) (P := P) (w := w) (by simpa using h) t h3
        have h1 : keyIs (.inr k) e.key = true := h1
        rcases keyIs_shape h1 with ⟨i, t', hk, _⟩ | ⟨x, t', hk, ek⟩
        · cases hk
        · cases hk
          refine ⟨q2 :: ws, .cons r2 a1, ?_, fun y hy => ?_, by simp [a4]⟩
          · show (match e.key with | .str x _ => [(x, e.val)] | _ => []) ++ kwOf es' = (k, q2) :: ks.zip ws
            rw [ek, a2, h2]
            rfl
          · rcases List.mem_cons.mp hy with rfl | hy
            · exact ⟨_, _, ek⟩
            · exact a3 y hy
theorem pairs_nd {P : Program} {w : World} : ∀ {es : List DictEntry} {vs : List (Key × Value)}, PySem.Pairs (mixKind P w) es vs → (vs.map (·.1)).Nodup → es.Pairwise fun x y => ∀ k, (mixKind P w).is k x.key = true → (mixKind P w).is k y.key = false
  | _, _, .nil, _ => .nil
  | _, _, .cons (e := e) (kv := kv) (es := es) (kvs := kvs) h1 _ h3, nd => by
    obtain ⟨n1, n2⟩ := List.nodup_cons.mp nd
    refine List.pairwise_cons.mpr ⟨fun y hy k hk => ?_, pairs_nd h3 n2⟩
    have ek : k = kv.1 := (mixKind P w).inj _ _ _ hk h1
    have mem : ∀ {es : List DictEntry} {kvs : List (Key × Value)}, PySem.Pairs (mixKind P w) es kvs → y ∈ es → ∃ p ∈ kvs, (mixKind P w).is p.1 y.key = true := fun {es kvs} h => by
      induction h with
      | nil => exact fun z => nomatch z
      | cons a _ _ ih =>
        intro z
        rcases List.mem_cons.mp z with rfl | z
        · exact ⟨_, List.mem_cons_self, a⟩
        · obtain ⟨p, hp, q⟩ := ih z
          exact ⟨p, List.mem_cons_of_mem _ hp, q⟩
    obtain ⟨p, hp, q⟩ := mem h3 hy
    cases z : (mixKind P w).is k y.key with
    | false => rfl
    | true =>
      have : p.1 = k := (mixKind P w).inj _ _ _ q z
      exact absurd (List.mem_map.mpr ⟨p, hp, this.trans ek⟩) n1
section
variable {X : Cx} {CX : CXT} {k : Nat} {f C : Addr} {E : XK} {sp : List V → List V → Hp → VK → XK → Prop} {ks : List Str}
theorem run_makeKd {pins : List (Addr × Obj)} {σ : L2.St} {H : Hp} {s : Shared} {Q : VK} {ws : List Value} {zs : List V} (M : L2.Mk X.K C f) (F : FnKwX CX X.prog X.w X.K X.mg X.base k f 1 ks sp) (hr : Room (k + 1) X.A) (hx : Passes CX X E) (I : Inv X pins σ H s) (rz : Vals zs ws) (l2 : zs.length = ks.length)
    (h : ∀ x dx, H x = none → H dx = none → dx ≠ x → sp [.ref x] zs (upd (upd H dx (.own x)) x (.ins C dx [])) (fun v H2 => v = .non ∧ Q (.ref x) H2) E) :
    wpAny (model X.prog X.w) X.A (call (.ref C) [] (ks.zip ws)) (L2.EP X pins σ Q) X.xe s := by
  have hq := h (s.heap.objs.size + 1) s.heap.objs.size (I.hok.fresh (Nat.le_succ _)) (I.hok.fresh (Nat.le_refl _)) (Nat.ne_of_lt (Nat.lt_succ_self _))
  have I2 := Inv.made (C := C) I
  refine wpAny_call (make_map (f := f) I.kIn M.makes M.init (beq_iff_eq.mp M.fn) (codeAny_mono (F _ X.stack _ _ [Value.ref (s.heap.objs.size + 1)] ws [.ref (s.heap.objs.size + 1)] zs _ E (hr.make C [] (ks.zip ws))
    (I2.env0.make C [] (ks.zip ws)) (.cons rfl .nil) rfl rz l2 hq) fun r s' hq' => ?_))
  match r, hq' with
  | .error e, hq' => exact hx pins σ _ _ e s' I2 hq'
  | .ok (.ret u), hq' =>
    obtain ⟨v, H', I3, rv, ev, q3⟩ := I2.after hq'
    subst ev
    exact ⟨rv, ⟨V.ref (s.heap.objs.size + 1), H', I3, rfl, q3⟩⟩
end
def tMakeKd (i j : Nat) (C : Addr) (ok : List Str → Prop) (sp : List Str → List V → List V → Hp → VK → XK → Prop) (E : XK) : TE := fun σ H Q => σ[i]? = some (some (.ref C)) ∧ ∃ (d : Addr) (ks : List Str) (zs : List V), σ[j]? = some (some (.ref d)) ∧ H d = some (.dK ((ks.zip zs).map fun x => ((.inr x.1 : Key), x.2))) ∧
  zs.length = ks.length ∧ ks.length ≤ 1000 ∧ ok ks ∧ ∀ x dx, H x = none → H dx = none → dx ≠ x → sp ks [.ref x] zs (upd (upd H dx (.own x)) x (.ins C dx [])) (fun v H2 => v = .non ∧ Q (.ref x) H2) E
theorem pe_makeKd {X : Cx} {CX : CXT} {k i j : Nat} {f C : Addr} {E : XK} {ok : List Str → Prop} {sp : List Str → List V → List V → Hp → VK → XK → Prop} {x y : Str} {p q kp pos : Pos} (M : L2.Mk X.K C f) (F : ∀ ks, ok ks → FnKwX CX X.prog X.w X.K X.mg X.base k f 1 ks (sp ks)) (hr : Room (k + 1) X.A) (hx : Passes CX X E)
    (hN : X.N[i]? = some x) (hv : Vis X.env.scope x) (hN2 : X.N[j]? = some y) (hv2 : Vis X.env.scope y) (hdb : (x == ("__debug__" : Str)) = false := by decide) (hcd : (x == ("__classdict__" : Str)) = false := by decide) (hdb2 : (y == ("__debug__" : Str)) = false := by decide) (hcd2 : (y == ("__classdict__" : Str)) = false := by decide) :
    PE X (.Call (.Name x p) [] [⟨none, .Name y q, kp⟩] pos) (tMakeKd i j C ok sp E) := by
  refine ⟨fun pins s σ H Q I h => ?_⟩
  obtain ⟨hs, d, ks, zs, hs2, hd, l2, few, hok, h⟩ := h
  refine wpAny_Call_Name_kw (raw_name hN hv I hs (fun u r => ?_) hdb hcd)
  cases (show u = Value.ref C from r)
  obtain ⟨_, na, vs, kv, o, es, ep, ho, hx', hda, hko, pr, nd⟩ := I.hok d _ hd
  obtain ⟨ws, rz, e1, str, lw⟩ := kw_of l2 kv pr
  have les : es.toList.length = vs.length := by
    have : ∀ {l : List DictEntry} {m : List (Key × Value)}, PySem.Pairs (mixKind X.prog X.w) l m → l.length = m.length := fun {l m} h => by
      induction h with
      | nil => rfl
      | cons _ _ _ ih => exact congrArg Nat.succ ih
    exact this pr
  have lvs : vs.length ≤ 1000 := by
    have := kv.length
    rw [List.length_map, List.length_zip] at this
    omega
  have I1 : ∀ n (l : List DictEntry), Inv X pins σ H { s with heap := s.heap.push (PySem.W.dictOf l n) } := fun n l => I.kept (t' := s.toks) fun b o e => Heap.get?_push_of_some _ e
  show wpAny _ _ (callWith pos (.ref C) [] [] [(none, do let v ← eval (.Name y q) X.env; standAt pos; pure v)]) _ _ s
  unfold callWith
  refine wpAny_bind (wpAny_holding (kd_args (es := es.toList) ho hx' (by rw [Array.toArray_toList]; exact hda) (by rw [Array.toArray_toList]; exact hko) (pairs_nd pr nd) str na (by omega) (fun {Q' E'} q' => ?_) fun n' => ?_))
  · refine wpAny_bind (raw_name hN2 hv2 (I1 0 []) hs2 (fun u2 r2 => ?_) hdb2 hcd2)
    cases (show u2 = Value.ref d from r2)
    exact wpAny_bind (wpAny_standAt (wpAny_pure q'))
  refine wpAny_bind (wpAny_standAt ?_)
  rw [e1]
  have J := I1 n' es.toList
  obtain ⟨kk, hkk, L⟩ := PySem.W.looks_keep (M := model X.prog X.w) M.kp J.kIn
  refine wpAny_bind (L.here ?_)
  have go := run_makeKd (C := C) (f := f) M (F ks hok) hr hx J rz l2 h
  have tail : ∀ {t : Sem Value}, wpAny (model X.prog X.w) X.A t (L2.EP X pins σ Q) X.xe { s with heap := s.heap.push (PySem.W.dictOf es.toList n') } → wpAny (model X.prog X.w) X.A (t >>= fun r => holding [r] point >>= fun _ => pure r) (L2.EP X pins σ Q) X.xe { s with heap := s.heap.push (PySem.W.dictOf es.toList n') } :=
    fun ht => wpAny_bind (wpAny_mono ht (fun r s₂ hr => wpAny_bind (wpAny_holding (wpAny_point (wpAny_pure hr)))) fun _ _ z => z)
  rcases hkk with rfl | rfl
  · exact tail (by unfold callMarked; exact Calls.wpAny_keep go)
  · exact tail (wpAny_operate' go)
/-! ### def f(self, **letters) with any keywords -/
theorem forIn_pure {α β : Type} {f : α → β → Sem (ForInStep β)} {g : α → β → β} : ∀ (l : List α) (b : β), (∀ x ∈ l, ∀ b, f x b = pure (.yield (g x b))) → (forIn l b f : Sem β) = pure (l.foldl (fun b x => g x b) b)
  | [], b, _ => by rw [List.forIn_nil]; rfl
  | x :: l, b, h => by
    rw [List.forIn_cons, h x List.mem_cons_self]
    show (forIn l (g x b) f : Sem β) = _
    rw [forIn_pure l (g x b) fun y hy => h y (List.mem_cons_of_mem _ hy)]
    rfl
theorem kw_any {kV dc pm cd ct : Value} {an : Option Addr} {ks : List Str} (hs : ∀ k ∈ ks, k ≠ ("self" : Str)) (nd : ks.Nodup) (few : ks.length ≤ 1000) : KwBind (PySem.W.fnOf "__init__" "Renaming.__init__" (defArgs s_Renaming___init__) (defBody s_Renaming___init__) (defScope s_Renaming___init__) .none kV dc pm an cd ct) ["self"] "letters" ks := by
  refine ⟨fun us ws h1 h2 => ?_, nd⟩
  match us, h1 with
  | [u], _ =>
    unfold bindArgs
    have mem : ∀ x ∈ ks.zip ws, x.1 ≠ ("self" : Str) := fun x hx => hs x.1 (List.of_mem_zip hx).1
    have fold : ∀ (l : List (Str × Value)) (a b : List (Str × Value)), l.foldl (fun (s : List (Str × Value) × List (Str × Value)) x => (s.1, s.2 ++ [x])) (a, b) = (a, b ++ l) := fun l => by
      induction l with
      | nil => intro a b; rw [List.append_nil]; rfl
      | cons x l ih => intro a b; rw [List.foldl_cons, ih, List.append_assoc]; rfl
    refine (congrArg (fun (m : Sem (List (Str × Value) × List (Str × Value))) => m >>= _) (forIn_pure (g := fun x (s : List (Str × Value) × List (Str × Value)) => (s.1, s.2 ++ [x])) (ks.zip ws) ([("self", u)], []) fun x hx b => ?_)).trans ?_
    · have hk := mem x hx
      have e : (([("self" : Str)] : List Str).contains x.1 || ([] : List Str).contains x.1) = false := by
        have : (x.1 == ("self" : Str)) = false := beq_eq_false_iff_ne.mpr hk
        show ((x.1 == ("self" : Str)) || false || false) = false
        rw [this]; rfl
      show (if (([("self" : Str)] : List Str).contains x.1 || ([] : List Str).contains x.1) = true then _ else _) = _
      rw [e, if_neg Bool.false_ne_true]
      rfl
    · rw [fold]
      have hlen : ¬ (([] : List (Str × Value)) ++ ks.zip ws).length > sizeLine + 1 := by
        rw [List.nil_append, List.length_zip]
        have : sizeLine = 16777216 := rfl
        omega
      rw [List.nil_append] at hlen ⊢
      generalize ks.zip ws = l at hlen ⊢
      let X : Sem (List (Str × Value)) := (alloc ({ cls := .type "dict", data := .dict #[] } : Obj) : Sem Addr) >>= fun d => (forIn l PUnit.unit fun x _ => (nsSet d x.1 x.2 >>= fun _ => pure (ForInStep.yield PUnit.unit))) >>= fun _ => pure (([("self" : Str)] : List Str).zip [u] ++ [(("letters" : Str), Value.ref d)])
      refine Eq.trans (b := if l.length > sizeLine + 1 then ((unsupported "dict:memory" : Sem Unit) >>= fun _ => X) else X) ?_ (if_neg hlen)
      rfl
/-! ### renamings: their mathematics -/
abbrev Ld := List (Nat × Nat)
def lowc (c : Nat) : Prop := 97 ≤ c ∧ c ≤ 122
def tgt (L : Ld) (c : Nat) : Nat := ((L.find? fun p => p.1 == c).map (·.2)).getD c
structure LdOk (L : Ld) : Prop where
  nd : (L.map (·.1)).Nodup
  low : ∀ p ∈ L, lowc p.1 ∧ lowc p.2
theorem tgt_cons (a b : Nat) (L : Ld) (c : Nat) : tgt ((a, b) :: L) c = if a = c then b else tgt L c := by
  unfold tgt
  rw [List.find?_cons]
  by_cases h : a = c
  · subst h
    rw [if_pos rfl, beq_self_eq_true]; rfl
  · rw [if_neg h, show ((a, b).1 == c) = false from beq_eq_false_iff_ne.mpr h]
theorem tgt_mem : ∀ {L : Ld}, (L.map (·.1)).Nodup → ∀ {a b : Nat}, (a, b) ∈ L → tgt L a = b
  | [], _, _, _, h => nomatch h
  | (x, y) :: L, nd, a, b, h => by
    obtain ⟨n1, n2⟩ := List.nodup_cons.mp nd
    rw [tgt_cons]
    rcases List.mem_cons.mp h with e | h
    · cases e; rw [if_pos rfl]
    · rw [if_neg (fun z => n1 (show x ∈ L.map (·.1) by rw [show x = a from z]; exact List.mem_map.mpr ⟨(a, b), h, rfl⟩))]
      exact tgt_mem n2 h
theorem tgt_out : ∀ {L : Ld} {c : Nat}, ¬ c ∈ L.map (·.1) → tgt L c = c
  | [], _, _ => rfl
  | (x, y) :: L, c, h => by
    rw [tgt_cons, if_neg (fun z => h (by rw [← z]; exact List.mem_cons_self))]
    exact tgt_out fun z => h (List.mem_cons_of_mem _ z)
theorem tgt_low {L : Ld} (ok : LdOk L) {c : Nat} (h : lowc c) : lowc (tgt L c) := by
  by_cases m : c ∈ L.map (·.1)
  · obtain ⟨⟨a, b⟩, hp, e⟩ := List.mem_map.mp m
    have e : a = c := e
    subst e
    rw [tgt_mem ok.nd hp]
    exact (ok.low _ hp).2
  · rw [tgt_out m]; exact h
theorem low26 {l : List Nat} (nd : l.Nodup) (h : ∀ c ∈ l, lowc c) : l.length ≤ 26 := by
  have : ∀ (l m : List Nat), l.Nodup → (∀ x ∈ l, x ∈ m) → l.length ≤ m.length := by
    intro l
    induction l with
    | nil => exact fun m _ _ => Nat.zero_le _
    | cons a l ih =>
      intro m nd hs
      obtain ⟨n1, n2⟩ := List.nodup_cons.mp nd
      have ha := hs a List.mem_cons_self
      have := ih (m.erase a) n2 fun x hx => (List.mem_erase_of_ne (fun z => n1 (by rw [← z]; exact hx))).mpr (hs x (List.mem_cons_of_mem _ hx))
      rw [List.length_erase_of_mem ha] at this
      have := List.length_pos_of_mem ha
      rw [List.length_cons]
      omega
  have := this l ((List.range 26).map (· + 97)) nd fun x hx => by
    obtain ⟨h1, h2⟩ := h x hx
    exact List.mem_map.mpr ⟨x - 97, List.mem_range.mpr (by omega), by omega⟩
  rw [List.length_map, List.length_range] at this
  exact this
theorem LdOk.len {L : Ld} (ok : LdOk L) : L.length ≤ 26 := by
  have := low26 ok.nd fun c hc => by
    obtain ⟨p, hp, rfl⟩ := List.mem_map.mp hc
    exact (ok.low p hp).1
  rw [List.length_map] at this
  exact this
theorem LdOk.filt {L : Ld} (ok : LdOk L) (q : Nat × Nat → Bool) : LdOk (L.filter q) :=
  ⟨(List.Sublist.map _ (List.filter_sublist (p := q) (l := L))).nodup ok.nd, fun p hp => ok.low p (List.mem_filter.mp hp).1⟩
theorem LdOk.perm {L M : Ld} (ok : LdOk L) (pm : M.Perm L) : LdOk M := ⟨(pm.map _).nodup_iff.mpr ok.nd, fun p hp => ok.low p (pm.mem_iff.mp hp)⟩
def movers (L : Ld) : Ld := L.filter fun p => p.1 != p.2
theorem tgt_same {L M : Ld} (ok : LdOk L) (pm : M.Perm (movers L)) (c : Nat) : tgt M c = tgt L c := by
  have okM : LdOk M := (ok.filt _).perm pm
  by_cases m : c ∈ L.map (·.1)
  · obtain ⟨⟨a, b⟩, hp, e⟩ := List.mem_map.mp m
    have e : a = c := e
    subst e
    rw [tgt_mem ok.nd hp]
    by_cases z : a = b
    · subst z
      refine tgt_out fun y => ?_
      obtain ⟨⟨a', b'⟩, hq, e'⟩ := List.mem_map.mp y
      have e' : a' = a := e'
      subst e'
      obtain ⟨q1, q2⟩ := List.mem_filter.mp (pm.mem_iff.mp hq)
      have := (tgt_mem ok.nd q1).symm.trans (tgt_mem ok.nd hp)
      subst this
      simp at q2
    · exact tgt_mem okM.nd (pm.mem_iff.mpr (List.mem_filter.mpr ⟨hp, by simpa using z⟩))
  · rw [tgt_out m]
    refine tgt_out fun y => m ?_
    obtain ⟨p, hq, e'⟩ := List.mem_map.mp y
    exact List.mem_map.mpr ⟨p, (List.mem_filter.mp (pm.mem_iff.mp hq)).1, e'⟩
/-! the way of a letter -/
def grow (f : Nat → Nat) : Nat → List Nat → List Nat
  | 0, w => w
  | n + 1, w => if f (w.getLastD 0) ∈ w then w else grow f n (w ++ [f (w.getLastD 0)])
def wayOf (f : Nat → Nat) (c : Nat) : List Nat := grow f 26 [c]
theorem grow_stop {f : Nat → Nat} {w : List Nat} (h : f (w.getLastD 0) ∈ w) : ∀ n, grow f n w = w
  | 0 => rfl
  | n + 1 => if_pos h
theorem grow_step {f : Nat → Nat} {w : List Nat} (h : ¬ f (w.getLastD 0) ∈ w) (n : Nat) : grow f (n + 1) w = grow f n (w ++ [f (w.getLastD 0)]) := if_neg h
structure Way (f : Nat → Nat) (w : List Nat) : Prop where
  nd : w.Nodup
  low : ∀ c ∈ w, lowc c
  ne : w ≠ []
theorem Way.last {f : Nat → Nat} {w : List Nat} (h : Way f w) : w.getLastD 0 ∈ w := by
  cases w with
  | nil => exact absurd rfl h.ne
  | cons a l =>
    rw [List.getLastD_cons]
    cases l with
    | nil => exact List.mem_cons_self
    | cons b l => rw [List.getLastD_cons]; exact List.mem_cons_of_mem _ (by
        have : ∀ (l : List Nat) (b : Nat), l.getLastD b ∈ b :: l := by
          intro l
          induction l with
          | nil => exact fun b => List.mem_cons_self
          | cons x l ih => intro b; rw [List.getLastD_cons]; exact List.mem_cons_of_mem _ (ih x)
        exact this l b)
theorem Way.more {f : Nat → Nat} (lf : ∀ c, lowc c → lowc (f c)) {w : List Nat} (h : Way f w) (n : ¬ f (w.getLastD 0) ∈ w) : Way f (w ++ [f (w.getLastD 0)]) :=
  ⟨List.nodup_append.mpr ⟨h.nd, List.nodup_cons.mpr ⟨by simp, List.nodup_nil⟩, fun a ha b hb => by rw [List.mem_singleton.mp hb]; rintro rfl; exact n ha⟩,
   fun c hc => by
    rcases List.mem_append.mp hc with hc | hc
    · exact h.low c hc
    · rw [List.mem_singleton.mp hc]; exact lf _ (h.low _ h.last),
   by simp⟩
theorem Way.one {f : Nat → Nat} {c : Nat} (h : lowc c) : Way f [c] := ⟨List.nodup_cons.mpr ⟨by simp, List.nodup_nil⟩, fun x hx => by rw [List.mem_singleton.mp hx]; exact h, by simp⟩
theorem Way.le {f : Nat → Nat} {w : List Nat} (h : Way f w) : w.length ≤ 26 := low26 h.nd h.low
theorem grow_way {f : Nat → Nat} (lf : ∀ c, lowc c → lowc (f c)) : ∀ (n : Nat) (w : List Nat), Way f w → 27 ≤ n + w.length → Way f (grow f n w) ∧ f ((grow f n w).getLastD 0) ∈ grow f n w
  | 0, w, h, l => by have := h.le; omega
  | n + 1, w, h, l => by
    by_cases m : f (w.getLastD 0) ∈ w
    · rw [grow_stop m]; exact ⟨h, m⟩
    · rw [grow_step m]
      exact grow_way lf n _ (h.more lf m) (by rw [List.length_append]; show 27 ≤ n + (w.length + 1); omega)
theorem way_ok {f : Nat → Nat} (lf : ∀ c, lowc c → lowc (f c)) {c : Nat} (h : lowc c) : Way f (wayOf f c) ∧ f ((wayOf f c).getLastD 0) ∈ wayOf f c := grow_way lf 26 [c] (.one h) (Nat.le_refl _)
/-- where the way comes back to -/
def backOf (f : Nat → Nat) (c : Nat) : Nat := (wayOf f c).idxOf (f ((wayOf f c).getLastD 0))
def ledOf (f : Nat → Nat) (c t : Nat) : Nat := if t < backOf f c then (wayOf f c).getD t 0 else (wayOf f c).getD (backOf f c + (t - backOf f c) % ((wayOf f c).length - backOf f c)) 0
theorem back_lt {f : Nat → Nat} (lf : ∀ c, lowc c → lowc (f c)) {c : Nat} (h : lowc c) : backOf f c < (wayOf f c).length := List.idxOf_lt_length_of_mem (way_ok lf h).2
theorem led_at {f : Nat → Nat} (lf : ∀ c, lowc c → lowc (f c)) {c : Nat} (h : lowc c) (t : Nat) : backOf f c + (t - backOf f c) % ((wayOf f c).length - backOf f c) < (wayOf f c).length := by
  have := back_lt lf h
  have := Nat.mod_lt (t - backOf f c) (show 0 < (wayOf f c).length - backOf f c by omega)
  omega
theorem led_short {f : Nat → Nat} {c t : Nat} (h : t < (wayOf f c).length) : ledOf f c t = (wayOf f c).getD t 0 := by
  unfold ledOf
  by_cases g : t < backOf f c
  · rw [if_pos g]
  · rw [if_neg g, Nat.mod_eq_of_lt (by omega)]
    congr 1
    omega
theorem led_long {f : Nat → Nat} {c t : Nat} (b : backOf f c < (wayOf f c).length) (h : ¬ t < (wayOf f c).length) : ledOf f c t = (wayOf f c).getD (backOf f c + (t - backOf f c) % ((wayOf f c).length - backOf f c)) 0 := by
  unfold ledOf
  rw [if_neg (by omega)]
theorem getD_mem {l : List Nat} {i : Nat} (h : i < l.length) : l.getD i 0 ∈ l := by
  rw [List.getD_eq_getElem?_getD, List.getElem?_eq_getElem h]
  exact List.getElem_mem h
theorem led_low {f : Nat → Nat} (lf : ∀ c, lowc c → lowc (f c)) {c : Nat} (h : lowc c) (t : Nat) : lowc (ledOf f c t) := by
  unfold ledOf
  by_cases g : t < backOf f c
  · rw [if_pos g]
    exact (way_ok lf h).1.low _ (getD_mem (by have := back_lt lf h; omega))
  · rw [if_neg g]
    exact (way_ok lf h).1.low _ (getD_mem (led_at lf h t))
def B.mapL (g : Nat → Nat) : B → B
  | .nil => .nil
  | .node l x r => .node (l.mapL g) (g x) (r.mapL g)
theorem B.mapL_size (g : Nat → Nat) : ∀ t : B, (t.mapL g).size = t.size
  | .nil => rfl
  | .node l x r => by
    have h1 := mapL_size g l
    have h2 := mapL_size g r
    simp only [B.mapL, B.size] at *
    rw [h1, h2]
/-! ### is_letter, a renaming in the heap, self[letter] -/
def spOne : Sp := fun vs H Q _ => ∃ c : Nat, vs = [vc c] ∧ Q (.bl (decide (97 ≤ c) && decide (c ≤ 122))) H
structure MDf (P : Program) (w : World) (K : PySem.W.Frag) (mg : Str → Option Value) (base : Heap) (C : Addr) (k : Nat) (m : Str) (ps : List Str) (sp : Sp) where
  f : Addr
  fd : FuncData
  ok : FnOk P w K mg base CX0 k f fd ps sp
  b : Binds K fd ps []
  at_ : Meth K C m f
/-- the class: where its own subscript stands -/
structure RenC (K : PySem.W.Frag) (mg : Str → Option Value) (C gG : Addr) : Prop where
  cl : Cls K C
  nL : NoAttr K C "leads"
  gi : PySem.W.findIn K (.ref C) "__getitem__" = some (some (.ref gG))
  gf : PySem.W.fnIn K gG = true
  gn : PySem.W.isFn K (.ref gG) = true
def renF (d : Addr) : List (Str × V) := [("leads", .ref d)]
theorem ren_look (d : Addr) : (renF d).lookup ("leads" : Str) = some (.ref d) := rfl
def ldK (M : Ld) : List (Key × V) := M.map fun p => (.inr (ch p.1), vc p.2)
/-- a renaming that holds these letters -/
def Rn (C : Addr) (H : Hp) (a : Addr) (M : Ld) : Prop := ∃ dx d, H a = some (.ins C dx (renF d)) ∧ H d = some (.dK (ldK M))
theorem Rn.same {C : Addr} {H H' : Hp} {a : Addr} {M : Ld} (r : Rn C H a M) (s : Same H H') : Rn C H' a M := by
  obtain ⟨dx, d, h1, h2⟩ := r
  exact ⟨dx, d, s _ _ h1, s _ _ h2⟩
theorem val_ld : ∀ (M : Ld) (c : Nat), (valV (ldK M) (.inr (ch c))).getD (vc c) = vc (tgt M c)
  | [], _ => rfl
  | (a, b) :: M, c => by
    show (valV ((.inr (ch a), vc b) :: ldK M) (.inr (ch c))).getD (vc c) = _
    rw [tgt_cons]
    by_cases h : a = c
    · subst h
      rw [valV_pos rfl, if_pos rfl]
      rfl
    · rw [valV_neg (fun z => h (ch_inj (by injection z))), if_neg h]
      exact val_ld M c
section
variable {P : Program} {w : World} {K : PySem.W.Frag} {mg : Str → Option Value} {base : Heap} {f : Addr} {fd : FuncData}
theorem ok_one {k : Nat} (F : Fun K "is_letter" "is_letter" s_is_letter f fd) (M : Mgs mg) : FnOk P w K mg base CX0 (k + 1) f fd ["value"] spOne := by
  refine F.ok sc_is_letter (fun vs H Q E h => ?_) (fun cdv A outer s H vs Q E hr h => ?_)
  · obtain ⟨c, rfl, _⟩ := h
    rfl
  obtain ⟨c, rfl, q⟩ := h
  refine ⟨_, (pss_one (ps_ret (pe_and (pe_callB call_isi rfl M.isinstance (by decide +kernel) (pa_cons (pv 0) (pa_cons (pe_bltn (v := .ty "str") rfl M.str (by decide +kernel) rfl) pa_nil))) (pe_and (pe_cmpR op_eq (pe_callB call_len_str rfl M.len PySem.boot_len (pa_cons (pv 0) pa_nil)) pe_int (nomark _)) (pe_one (pe_chain op_le_str op_le_str pe_str (pv 0) pe_str)))))), ?_⟩
  refine ⟨_, rfl, _, _, _, _, true, rfl, .ty _, .base (.str (tx [c])), kit_ty (by decide +kernel), _, rfl, iteT ?_⟩
  refine ⟨_, rfl, tx [c], rfl, small (by show 1 ≤ 1000; decide), rfl, _, rfl, ?_⟩
  rw [show decide (V.int ((tx [c]).length : Nat) = V.int 1) = true from rfl]
  refine iteT ⟨_, rfl, _, _, rfl, rfl, _, rfl, ?_⟩
  have e1 : (!decide ((ch c).cps.toList < (Str.ofString "a").cps.toList)) = decide (97 ≤ c) := by
    rw [show (Str.ofString "a").cps.toList = [97] by decide +kernel, show (ch c).cps.toList = [c] from rfl]
    by_cases h : c < 97
    · rw [decide_eq_true (by simp [List.cons_lt_cons_iff, h]), decide_eq_false (by omega)]; rfl
    · rw [decide_eq_false (by simp [List.cons_lt_cons_iff, h]), decide_eq_true (by omega)]; rfl
  have e2 : (!decide ((Str.ofString "z").cps.toList < (ch c).cps.toList)) = decide (c ≤ 122) := by
    rw [show (Str.ofString "z").cps.toList = [122] by decide +kernel, show (ch c).cps.toList = [c] from rfl]
    by_cases h : 122 < c
    · rw [decide_eq_true (by simp [List.cons_lt_cons_iff, h]), decide_eq_false (by omega)]; rfl
    · rw [decide_eq_false (by simp [List.cons_lt_cons_iff, h]), decide_eq_true (by omega)]; rfl
  rw [e1]
  by_cases h : 97 ≤ c
  · rw [decide_eq_true h] at q ⊢
    refine iteT ⟨_, _, rfl, rfl, ?_⟩
    rw [e2]
    exact q
  · rw [decide_eq_false h] at q ⊢
    exact iteF q
theorem low_dec {c : Nat} (h : lowc c) : (decide (97 ≤ c) && decide (c ≤ 122)) = true := by rw [decide_eq_true h.1, decide_eq_true h.2]; rfl
end
/-! own subscript -/
def rIxOwn (C : Addr) (sp : Sp) : R2 := fun x y H Q => ∃ a dx fs, x = .ref a ∧ H a = some (.ins C dx fs) ∧ sp [.ref a, y] H Q E0
theorem pe_ixOwn {X : Cx} {a b : Expr} {ta tb : TE} {pos : Pos} {C g : Addr} {n : Nat} {sp : Sp} (hs : PySem.W.findIn X.K (.ref C) "__getitem__" = some (some (.ref g))) (hf : PySem.W.fnIn X.K g = true) (hfn : PySem.W.isFn X.K (.ref g) = true) (F : FnR X.prog X.w X.K X.mg X.base CX0 n g sp) (hr : Room (n + 1) X.A)
    (ha : PE X a ta) (hb : PE X b tb) (hsl : ∀ o i, subscripted b true o i = runValue (.builtin "lifetime.subscript" ⟨[o, i], []⟩)) : PE X (.Subscript a b pos) (tOp (rIxOwn C sp) ta tb) := by
  refine ⟨fun pins s σ H Q I h => ?_⟩
  refine Subscript_ (binT ha hb I h fun v u s2 x y H2 I2 rx ry q => ?_)
  obtain ⟨o, dx, fs, rfl, eo, q⟩ := q
  cases (show v = Value.ref o from rx)
  obtain ⟨mA, O, _, _, _, _⟩ := ins_get I2.hok eo
  obtain ⟨od, J, _⟩ := O.look
  obtain ⟨m, hF⟩ := I2.fr
  refine PySem.W.sub_K hF I2.ok.mod.kin J hs hf hfn (wpAny_mono (wpAny_call (SlX.run_at (us := [.ref o, u]) (ws := [.ref o, y]) F hr.in1 I2.env0.in1 pass0 I2 (.cons rfl (.cons ry .nil)) q)) (fun v s' z => ?_) fun _ _ x => x) (hsl _ _)
  exact z
/-- self[letter] -/
def spGet (C : Addr) : Sp := fun vs H Q _ => ∃ a M c, vs = [.ref a, vc c] ∧ Rn C H a M ∧ lowc c ∧ Q (vc (tgt M c)) H
section
variable {P : Program} {w : World} {K : PySem.W.Frag} {mg : Str → Option Value} {base : Heap} {f : Addr} {fd : FuncData} {C gG : Addr}
theorem ok_get (F : Fun K "__getitem__" "Renaming.__getitem__" s_Renaming___getitem__ f fd) (TD : RenC K mg C gG) (Dis_letter : Df P w K mg base 1 "is_letter" ["value"] spOne) : FnOk P w K mg base CX0 2 f fd ["self", "at"] (spGet C) := by
  refine F.ok sc_Renaming___getitem__ (fun vs H Q E h => ?_) (fun cdv A outer s H vs Q E hr h => ?_)
  · obtain ⟨a, M, c, rfl, _⟩ := h
    rfl
  obtain ⟨a, M, c, rfl, ⟨dx, d, ea, ed⟩, hc, q⟩ := h
  refine ⟨_, (pss_cons (ps_if (pt_not (pt_val (pe_call Dis_letter.ok (hr.mono (by omega)) rfl Dis_letter.g Dis_letter.kp Dis_letter.b .nil pass0 (pa_cons (pv 1) pa_nil))))
      (pss_one ps_never) pss_nil)
    (pss_one (ps_ret (pe_dget2 (Nat.lt_of_le_of_lt (Nat.add_le_add_left (by decide) _) hr.units) (pe_fld (pv 0) rfl) (pv 1) (pv 1) ⟨rfl, rfl, rfl, rfl⟩)))), ?_⟩
  refine ⟨_, rfl, c, rfl, ?_⟩
  rw [low_dec hc]
  refine ⟨_, rfl, iteF ?_⟩
  refine ⟨_, rfl, a, C, dx, _, _, rfl, ea, TD.cl, TD.nL, ren_look d, d, rfl, ?_, _, rfl, _, rfl, _, DGet.k (k := .inr (ch c)) ed, ?_⟩
  · exact .inl ⟨_, .inl ed⟩
  · rw [val_ld]
    exact q
end
/-! ### the letter to which a letter leads in so many steps -/
theorem eqV_vc (a b : Nat) : eqV (vc a) (vc b) = decide (a = b) := by
  show decide (ch a = ch b) = decide (a = b)
  by_cases h : a = b
  · rw [h]; simp
  · rw [decide_eq_false h, decide_eq_false (fun z => h (ch_inj z))]
theorem in_vc (x : Nat) : ∀ l : List Nat, inV (vc x) (l.map vc) = decide (x ∈ l)
  | [] => by simp [inV]
  | a :: l => by
    have e := in_vc x l
    unfold inV at e ⊢
    rw [List.map_cons, List.any_cons, e, eqV_vc]
    by_cases h : a = x
    · subst h; simp
    · by_cases g : x ∈ l
      · simp [g]
      · rw [decide_eq_false h, decide_eq_false g, decide_eq_false (fun z => (List.mem_cons.mp z).elim (fun e => h e.symm) g)]; rfl
theorem flat_vc (l : List Nat) : (l.map vc).all flatV = true := List.all_eq_true.mpr fun v h => by
  obtain ⟨c, _, rfl⟩ := List.mem_map.mp h
  rfl
theorem at_neg {w : List Nat} (h : w ≠ []) : atI (w.map vc) (-1) = some (vc (w.getLastD 0)) := by
  obtain ⟨l, x, rfl⟩ : ∃ l x, w = l ++ [x] := ⟨w.dropLast, w.getLast h, (List.dropLast_concat_getLast h).symm⟩
  rw [List.map_append, show ([x].map vc) = [vc x] from rfl, atI_last, List.getLastD_concat]
theorem at_vc {w : List Nat} {i : Nat} (h : i < w.length) : atI (w.map vc) (i : Int) = some (vc (w.getD i 0)) := by
  refine atI_nat ?_
  rw [List.getElem?_map, List.getD_eq_getElem?_getD, List.getElem?_eq_getElem h]
  rfl
theorem idx_vc {l : List Nat} {x : Nat} (h : x ∈ l) : (l.map vc)[l.idxOf x]? = some (vc x) ∧ ∀ (m : Nat) (z : V), m < l.idxOf x → (l.map vc)[m]? = some z → eqV z (vc x) = false := by
  have hl := List.idxOf_lt_length_of_mem h
  refine ⟨?_, fun m z hm hz => ?_⟩
  · rw [List.getElem?_map, List.getElem?_eq_getElem hl, List.getElem_idxOf hl]
    rfl
  · have ml : m < l.length := by omega
    rw [List.getElem?_map, List.getElem?_eq_getElem ml] at hz
    cases hz
    rw [eqV_vc, decide_eq_false]
    intro e
    have := List.not_of_lt_findIdx (xs := l) (p := fun y => y == x) (i := m) (by unfold List.idxOf at hm; exact hm)
    rw [e] at this
    simp at this
def spAfter (C : Addr) : Sp := fun vs H Q _ => ∃ (a : Addr) (M : Ld) (c t : Nat), vs = [.ref a, vc c, .int (t : Int)] ∧ Rn C H a M ∧ LdOk M ∧ lowc c ∧ ∀ H', Same H H' → Q (vc (ledOf (tgt M) c t)) H'
def B.lows : B → Prop
  | .nil => True
  | .node l x r => l.lows ∧ lowc x ∧ r.lows
def spRen (C : Addr) : Sp := fun vs H Q _ => ∃ (a : Addr) (M : Ld) (v : V) (t : B) (n : Nat), vs = [.ref a, v, .int (n : Int)] ∧ Rn C H a M ∧ LdOk M ∧ BAt H v t ∧ t.lows ∧ ∀ v' H', Same H H' → BAt H' v' (t.mapL fun c => ledOf (tgt M) c n) → Q v' H'
section
variable {P : Program} {w : World} {K : PySem.W.Frag} {mg : Str → Option Value} {base : Heap} {f : Addr} {fd : FuncData} {C gG : Addr}
theorem ok_after (F : Fun K "letter_after" "Renaming.letter_after" s_Renaming_letter_after f fd) (M : Mgs mg) (TD : RenC K mg C gG) (Dget : FnR P w K mg base CX0 2 gG (spGet C)) : FnOk P w K mg base CX0 4 f fd ["self", "letter", "times"] (spAfter C) := by
  refine F.ok sc_Renaming_letter_after (fun vs H Q E h => ?_) (fun cdv A outer s H vs Q E hr h => ?_)
  · obtain ⟨a, M, c, t, rfl, _⟩ := h
    rfl
  obtain ⟨a, L, c, t, rfl, ra, ok, hc, q⟩ := h
  have lf : ∀ c, lowc c → lowc (tgt L c) := fun c => tgt_low ok
  refine ⟨_, (pss_cons (ps_set (i := 3) sc_Renaming_letter_after.nd rfl (.inl rfl) (pe_lst (pa_cons (pv 1) pa_nil)))
    (pss_cons (ps_while PassesOwn.never (pt_cmpR op_notIn_seq (pe_ixOwn TD.gi TD.gf TD.gn Dget (hr.mono (by omega)) (pv 0) (pe_ix ix_list (pv 3) (pe_un un_neg pe_int) (fun _ _ => rfl)) (fun _ _ => rfl)) (pv 3) (by rfl))
      (pss_one (ps_expr (pe_bm PySem.F.plainAttrs_list PySem.F.slot_list_append PySem.F.type_list_append mt_append (pv 3) (pa_cons (pe_ixOwn TD.gi TD.gf TD.gn Dget (hr.mono (by omega)) (pv 0) (pe_ix ix_list (pv 3) (pe_un un_neg pe_int) (fun _ _ => rfl)) (fun _ _ => rfl)) pa_nil)))))
    (pss_cons (ps_set (i := 4) sc_Renaming_letter_after.nd rfl (.inl rfl) (pe_bm PySem.F.plainAttrs_list PySem.F.slot_list_index PySem.F.type_list_index mt_index (pv 3) (pa_cons (pe_ixOwn TD.gi TD.gf TD.gn Dget (hr.mono (by omega)) (pv 0) (pe_ix ix_list (pv 3) (pe_un un_neg pe_int) (fun _ _ => rfl)) (fun _ _ => rfl)) pa_nil)))
    (pss_cons (ps_if (pt_cmpR op_lt (pv 2) (pv 4) (nomark _))
      (pss_one (ps_ret (pe_ix ix_list (pv 3) (pv 2) (fun _ _ => rfl)))) pss_nil)
    (pss_one (ps_ret (pe_ix ix_list (pv 3) (pe_op op_add (pv 4) (pe_op op_mod (pe_op op_sub (pv 2) (pv 4)) (pe_op op_sub (pe_callB call_len_seq rfl M.len PySem.boot_len (pa_cons (pv 3) pa_nil)) (pv 4)))) (fun _ _ => rfl)))))))), ?_⟩
  refine ⟨_, rfl, (by show 1 ≤ sizeLine; decide), fun p np => ?_⟩
  have sN := same_new np (.lst [vc c])
  refine ⟨fun m σ' H' => ∃ w : List Nat, σ' = [some (.ref a), some (vc c), some (.int (t : Int)), some (.ref p), none] ∧ Same H H' ∧ H' p = some (.lst (w.map vc)) ∧ Way (tgt L) w ∧ m + w.length = 27 ∧ grow (tgt L) m w = wayOf (tgt L) c, ⟨26, [c], rfl, sN, upd_same, Way.one hc, rfl, rfl⟩, ?_⟩
  rintro m σ1 H1 ⟨w, rfl, s1, e1, W, ml, gw⟩
  have r1 := ra.same s1
  obtain ⟨dx, d, ea, ed⟩ := r1
  have lw := W.low _ W.last
  refine ⟨_, rfl, _, rfl, 1, rfl, p, _, _, _, rfl, rfl, SqL.of e1, at_neg W.ne, a, dx, _, rfl, ea, a, L, _, rfl, ra.same s1, lw, ?_⟩
  refine ⟨_, rfl, p, _, rfl, .inl (SqL.of e1), rfl, flat_vc w, ?_⟩
  rw [in_vc]
  by_cases st : tgt L (w.getLastD 0) ∈ w
  · rw [decide_eq_true st]
    have wl : w = wayOf (tgt L) c := by rw [← gw, grow_stop st]
    have bl : w.idxOf (tgt L (w.getLastD 0)) = backOf (tgt L) c := by unfold backOf; rw [← wl]
    refine ⟨_, rfl, iteF ?_⟩
    have hb := back_lt lf hc
    have lv := led_at lf hc t
    have le := (way_ok lf hc).1.le
    rw [← wl] at hb lv le
    refine ⟨_, rfl, .inl ⟨rfl, _, SqL.of e1⟩, _, rfl, _, rfl, 1, rfl, p, _, _, _, rfl, rfl, SqL.of e1, at_neg W.ne, a, dx, _, rfl, ea, a, L, _, rfl, ra.same s1, lw, p, _, _, _, _, rfl, rfl, SqL.of e1, rfl, flat_vc w, (idx_vc st).1, ?_⟩
    refine ⟨by rw [eqV_vc]; exact decide_eq_true rfl, (idx_vc st).2, ?_⟩
    rw [bl]
    refine ⟨_, rfl, _, rfl, _, _, rfl, rfl, _, rfl, ?_⟩
    by_cases g : t < backOf (tgt L) c
    · have e : decide ((t : Int) < ((backOf (tgt L) c : Nat) : Int)) = true := decide_eq_true (by omega)
      rw [e]
      refine iteT ⟨_, rfl, _, rfl, p, _, _, _, rfl, rfl, SqL.of e1, at_vc (by omega), ?_⟩
      have q' := q _ s1
      unfold ledOf at q'
      rw [if_pos g, ← wl] at q'
      exact q'
    · have e : decide ((t : Int) < ((backOf (tgt L) c : Nat) : Int)) = false := decide_eq_false (by omega)
      rw [e]
      refine iteF ?_
      have q' := q _ s1
      unfold ledOf at q'
      rw [if_neg g, ← wl] at q'
      refine ⟨_, rfl, _, rfl, _, rfl, _, rfl, _, _, rfl, rfl, _, rfl, p, _, rfl, .inl (SqL.of e1), _, rfl, _, _, rfl, rfl, ?_⟩
      rw [List.length_map]
      refine ⟨_, _, rfl, rfl, (by omega), _, _, rfl, rfl, p, _, _, _, rfl, rfl, SqL.of e1, ?_, q'⟩
      rw [show ((backOf (tgt L) c : Nat) : Int) + ((t : Int) - ((backOf (tgt L) c : Nat) : Int)) % ((w.length : Int) - ((backOf (tgt L) c : Nat) : Int)) = ((backOf (tgt L) c + (t - backOf (tgt L) c) % (w.length - backOf (tgt L) c) : Nat) : Int) by
        rw [Int.natCast_add, Int.natCast_emod, Int.natCast_sub (by omega), Int.natCast_sub (by omega)]]
      exact at_vc lv
  · rw [decide_eq_false st]
    refine ⟨_, rfl, iteT ⟨_, fun σ' H' z => z, ?_⟩⟩
    have wle := W.le
    refine ⟨_, rfl, .inl ⟨rfl, _, SqL.of e1⟩, _, rfl, _, rfl, 1, rfl, p, _, _, _, rfl, rfl, SqL.of e1, at_neg W.ne, a, dx, _, rfl, ea, a, L, _, rfl, ra.same s1, lw, p, _, _, rfl, rfl, e1, (by rw [List.length_map]; show w.length < sizeLine; have : sizeLine = 16777216 := rfl; omega), ?_⟩
    have s2 : Same H (upd H1 p (.lst (w.map vc ++ [vc (tgt L (w.getLastD 0))]))) := fun b o e => by
      rw [upd_ne (ne_of_none e np)]
      exact s1 b o e
    refine ⟨m - 1, by omega, w ++ [tgt L (w.getLastD 0)], rfl, s2, by rw [upd_same, List.map_append]; rfl, W.more lf st, by rw [List.length_append]; show m - 1 + (w.length + 1) = 27; omega, ?_⟩
    rw [← gw, show m = (m - 1) + 1 by omega, grow_step st]
    rfl
end
/-! ### a renaming called with a tree -/
theorem okN {P : Program} {w : World} {K : PySem.W.Frag} {mg : Str → Option Value} {base : Heap} {x qual : Str} {params : Arguments} {body : List Stmt} {scope : Scope} {dvs : List V} {kws : List (Str × V)} {f : Addr} {fd : FuncData} {N ps : List Str} {k : Nat} {sp : Sp} (F : FunD K x qual params body scope dvs kws f fd) (S : FnScope N ps scope) (len : ∀ vs H Q E, sp vs H Q E → vs.length = ps.length)
    (hbody : ∀ (cdv : Value) (A : Around) (outer : List Env) (s : Shared) (H : Hp) (vs : List V) (Q : VK) (E : XK), Room k (A.deeper (envOfC qual scope s.heap.objs.size f cdv)) → sp vs H Q E →
      ∃ t, PSs (cxOf CX0 P w K mg base N qual scope f cdv A outer s H E).nox body t ∧ t { nx := fun _ H' => Q .non H', rt := Q } (start N vs) H) : FnOk P w K mg base CX0 (k + 1) f fd ps sp :=
  F.ok (CX := CX0) S len fun cdv A outer s H vs Q E hr h => by
    obtain ⟨t, h1, h2⟩ := hbody cdv A outer s H vs Q E hr h
    exact ⟨t, h1.nox, h2⟩

def spRenN (C : Addr) (n : Nat) : Sp := fun vs H Q _ => ∃ (a : Addr) (L : Ld) (v : V) (t : B) (m : Nat), vs = [.ref a, v, .int (m : Int)] ∧ Rn C H a L ∧ LdOk L ∧ BAt H v t ∧ t.lows ∧ t.size < n ∧ ∀ v' H', Same H H' → BAt H' v' (t.mapL fun c => ledOf (tgt L) c m) → Q v' H'
section
variable {P : Program} {w : World} {K : PySem.W.Frag} {mg : Str → Option Value} {base : Heap} {f : Addr} {fd : FuncData} {C gG : Addr}
theorem ok_ren (F : Fun K "renamed" "Renaming.renamed" s_Renaming_renamed f fd) (b : Binds K fd ["self", "tree", "times"] []) (at_ : Meth K C "renamed" f) (TD : RenC K mg C gG) (Dla : MDf P w K mg base C 4 "letter_after" ["self", "letter", "times"] (spAfter C)) :
    ∀ n : Nat, FnOk P w K mg base CX0 (n + 5) f fd ["self", "tree", "times"] (spRenN C n)
  | 0 => by
    have no : ∀ vs H Q E, ¬ spRenN C 0 vs H Q E := fun vs H Q E h => by
      obtain ⟨a, L, v, t, m, _, _, _, _, _, h1, _⟩ := h
      omega
    exact ⟨fun vs H Q E h => absurd h (no vs H Q E), fun A outer s H args us vs Q E _ _ _ _ h => absurd h (no vs H Q E)⟩
  | n + 1 => by
    have Dren : MDf P w K mg base C (n + 5) "renamed" ["self", "tree", "times"] (spRenN C n) := ⟨f, fd, ok_ren F b at_ TD Dla n, b, at_⟩
    refine F.ok sc_Renaming_renamed (fun vs H Q E h => ?_) (fun cdv A outer s H vs Q E hr h => ?_)
    · obtain ⟨a, L, v, t, m, rfl, _⟩ := h
      rfl
    obtain ⟨a, L, v, t, m, rfl, ra, ok, hv, lo, hn, q⟩ := h
    refine ⟨_, (pss_cons (ps_if (pt_cmpR op_isN (pv 1) pe_non (nomark _))
      (pss_one (ps_ret pe_non)) pss_nil)
    (pss_cons (ps_asg (pv 1) (pg_tup rfl (pgs_cons (pg_name (i := 3) sc_Renaming_renamed.nd rfl (.inl rfl)) (pgs_cons (pg_name (i := 4) sc_Renaming_renamed.nd rfl (.inl rfl)) (pgs_cons (pg_name (i := 5) sc_Renaming_renamed.nd rfl (.inl rfl)) pgs_nil)))))
    (pss_one (ps_ret (pe_tup (pa_cons (pe_meth (pv 0) TD.cl Dren.at_ Dren.ok (hr.mono (by omega)) Dren.b .nil pass0 (pa_cons (pv 3) (pa_cons (pv 2) pa_nil))) (pa_cons (pe_meth (pv 0) TD.cl Dla.at_ Dla.ok (hr.mono (by omega)) Dla.b .nil pass0 (pa_cons (pv 4) (pa_cons (pv 2) pa_nil))) (pa_cons (pe_meth (pv 0) TD.cl Dren.at_ Dren.ok (hr.mono (by omega)) Dren.b .nil pass0 (pa_cons (pv 5) (pa_cons (pv 2) pa_nil))) pa_nil)))))))), ?_⟩
    rcases hv.inv with ⟨rfl, rfl⟩ | ⟨p, l, r, x, tl, tr, rfl, rfl, ep, hl, hr'⟩
    · exact ⟨_, rfl, rfl, _, rfl, iteT (q .non H (Same.refl H) .nil)⟩
    · have sz : (B.node tl x tr).size = tl.size + 1 + tr.size := rfl
      refine ⟨_, rfl, rfl, _, rfl, iteF ?_⟩
      refine ⟨_, rfl, p, _, rfl, SqT.of ep, rfl, ?_⟩
      obtain ⟨lo1, lo2, lo3⟩ := lo
      obtain ⟨dx, d, ea, ed⟩ := ra
      have ra : Rn C H a L := ⟨dx, d, ea, ed⟩
      refine ⟨_, _, rfl, _, _, rfl, _, _, rfl, rfl, ?_⟩
      refine ⟨_, rfl, a, dx, _, rfl, ea, rfl, _, rfl, _, rfl, a, L, l, tl, m, rfl, ra, ok, hl, lo1, by omega, fun v1 H1 s1 b1 => ?_⟩
      refine ⟨_, rfl, a, dx, _, rfl, s1 _ _ ea, rfl, _, rfl, _, rfl, a, L, x, m, rfl, ra.same s1, ok, lo2, fun H2 s2 => ?_⟩
      refine ⟨_, rfl, a, dx, _, rfl, s2 _ _ (s1 _ _ ea), rfl, _, rfl, _, rfl, a, L, r, tr, m, rfl, (ra.same s1).same s2, ok, (hr'.same (s1.trans s2)), lo3, by omega, fun v3 H3 s3 b3 => ?_⟩
      refine ⟨(by show 3 ≤ sizeLine; decide), fun z nz => ?_⟩
      have k := same_new nz (.tup [v1, vc (ledOf (tgt L) x m), v3])
      exact q _ _ (((s1.trans s2).trans s3).trans k) (.node upd_same (b1.same ((s2.trans s3).trans k)) (b3.same k))
theorem ok_call {n k : Nat} (F : FunD K "__call__" "Renaming.__call__" (defArgs s_Renaming___call__) (defBody s_Renaming___call__) (defScope s_Renaming___call__) [.int 1] [] f fd) (TD : RenC K mg C gG) (Dren : MDf P w K mg base C k "renamed" ["self", "tree", "times"] (spRenN C n)) : FnOk P w K mg base CX0 (k + 1) f fd ["self", "tree", "times"] (spRenN C n) := by
  refine okN F sc_Renaming___call__ (fun vs H Q E h => ?_) (fun cdv A outer s H vs Q E hr h => ?_)
  · obtain ⟨a, L, v, t, m, rfl, _⟩ := h
    rfl
  obtain ⟨a, L, v, t, m, rfl, ⟨dx, d, ea, ed⟩, q⟩ := h
  refine ⟨_, (pss_one (ps_ret (pe_meth (pv 0) TD.cl Dren.at_ Dren.ok (hr.mono (by omega)) Dren.b .nil pass0 (pa_cons (pv 1) (pa_cons (pv 2) pa_nil))))), ?_⟩
  exact ⟨_, rfl, a, dx, _, rfl, ea, rfl, _, rfl, _, rfl, a, L, v, t, m, rfl, ⟨dx, d, ea, ed⟩, q⟩
theorem FnR_or {k : Nat} {sp1 sp2 : Sp} (F1 : FnR P w K mg base CX0 k f sp1) (F2 : FnR P w K mg base CX0 k f sp2) : FnR P w K mg base CX0 k f (fun vs H Q E => sp1 vs H Q E ∨ sp2 vs H Q E) :=
  fun A outer s H us vs Q E hr e0 r h => h.elim (F1 A outer s H us vs Q E hr e0 r) (F2 A outer s H us vs Q E hr e0 r)
/-- a renaming called: with a number of times, or once -/
def spCallR (C : Addr) (n : Nat) : Sp := fun vs H Q E => spRenN C n vs H Q E ∨ spRenN C n (vs ++ [.int 1]) H Q E
end
/-! ### a renaming made -/
theorem lock_back {H H' : Hp} {d : Addr} {u : HO} {od : Obj} (hd : H d = some u) (s : Same (upd H d (.frz od u)) H') : Same H (upd H' d u) := fun b o e => by
  by_cases h : b = d
  · subst h
    rw [hd] at e
    rw [upd_same]; exact e
  · rw [upd_ne h]
    exact s _ _ (by rw [upd_ne h]; exact e)
def But (p : Addr) (H H' : Hp) : Prop := ∀ b o, b ≠ p → H b = some o → H' b = some o
section
variable {J : It} {n : Nat} {G : Hp → Prop} {Y : Nat → Hp → V → Hp → Prop}
theorem dc_it (w : Walk J n G Y) {g : TG} {tt : TT} {tk tv : TE} {vs : List Nat} {σ : L2.St} {H1 : Hp} {D : Addr} {Qd : Hp → Prop} (Pv : Nat → Hp → Prop) (h0 : Pv 0 (upd H1 D (.dK []))) (hG : ∀ i H, i ≤ n → Pv i H → G H)
    (hs : ∀ i x H H', i < n → Pv i H → Y i H x H' → g x (wipe σ vs) H' fun σ2 H2 => wipe σ2 vs = wipe σ vs ∧ tt σ2 H2 fun b H3 =>
      if b = true then tk σ2 H3 fun y H4 => tv σ2 H4 fun z H5 => ∃ kvs k, y = kV k ∧ H5 D = some (.dK kvs) ∧ kvs.length < sizeLine ∧ Pv (i + 1) (upd H5 D (.dK (putK kvs k z))) else Pv (i + 1) H3) (hd : ∀ H, Pv n H → Qd H) :
    ∃ W : Nat → Nat → Hp → Prop, (∃ m, W 0 m (upd H1 D (.dK []))) ∧ ∀ i m H, W i m H →
      (J.stop i H ∧ Qd H) ∨ (J.go i H ∧ ∃ Nx : Hp → Prop, (∀ H', Nx H' → ∃ m', m' < m ∧ W (i + 1) m' H') ∧ ∀ x H', J.yld i H x H' → g x (wipe σ vs) H' fun σ2 H2 => wipe σ2 vs = wipe σ vs ∧ tt σ2 H2 fun b H3 =>
        if b = true then tk σ2 H3 fun y H4 => tv σ2 H4 fun z H5 => ∃ kvs k, y = kV k ∧ H5 D = some (.dK kvs) ∧ kvs.length < sizeLine ∧ Nx (upd H5 D (.dK (putK kvs k z))) else Nx H3) := by
  refine ⟨fun i m H => m + i = n ∧ Pv i H, ⟨n, rfl, h0⟩, fun i m H h => ?_⟩
  obtain ⟨hm, p⟩ := h
  cases m with
  | zero =>
    have e : i = n := by omega
    subst e
    exact .inl ⟨w.stops H (hG i H (Nat.le_refl _) p), hd H p⟩
  | succ m =>
    have lt : i < n := by omega
    have q := hG i H (by omega) p
    exact .inr ⟨w.goes i H lt q, Pv (i + 1), fun H' p' => ⟨m, by omega, by omega, p'⟩, fun x H' y => hs i x H H' lt p (w.yields i H x H' lt q y)⟩
end
theorem val_mem : ∀ {L : Ld}, (L.map (·.1)).Nodup → ∀ {a b : Nat}, (a, b) ∈ L → valV (ldK L) (.inr (ch a)) = some (vc b)
  | [], _, _, _, h => nomatch h
  | (x, y) :: L, nd, a, b, h => by
    obtain ⟨n1, n2⟩ := List.nodup_cons.mp nd
    show valV ((.inr (ch x), vc y) :: ldK L) (.inr (ch a)) = _
    rcases List.mem_cons.mp h with e | h
    · cases e; rw [valV_pos rfl]
    · rw [valV_neg (fun z => n1 (show x ∈ L.map (·.1) by rw [show x = a from ch_inj (by injection z)]; exact List.mem_map.mpr ⟨(a, b), h, rfl⟩))]
      exact val_mem n2 h
theorem val_out : ∀ {L : Ld} {c : Nat}, ¬ c ∈ L.map (·.1) → valV (ldK L) (.inr (ch c)) = none
  | [], _, _ => rfl
  | (x, y) :: L, c, h => by
    show valV ((.inr (ch x), vc y) :: ldK L) (.inr (ch c)) = _
    rw [valV_neg (fun z => h (by rw [← ch_inj (show ch x = ch c by injection z)]; exact List.mem_cons_self))]
    exact val_out fun z => h (List.mem_cons_of_mem _ z)
theorem zip_ld : ∀ L : Ld, ((L.map fun p => ch p.1).zip (L.map fun p => vc p.2)).map (fun x => ((.inr x.1 : Key), x.2)) = ldK L
  | [] => rfl
  | p :: L => by
    show ((.inr (ch p.1) : Key), vc p.2) :: _ = (.inr (ch p.1), vc p.2) :: ldK L
    congr 1
    exact zip_ld L
def unch (x : Str) : Nat := x.cps.toList.headD 0
theorem unch_ch (c : Nat) : unch (ch c) = c := rfl
/-- the letters in order, those that are changed -/
def chg (L : Ld) (cs : List Nat) : Ld := (cs.map fun c => (c, tgt L c)).filter fun p => p.1 != p.2
theorem chg_snoc (L : Ld) (cs : List Nat) (c : Nat) : chg L (cs ++ [c]) = if c = tgt L c then chg L cs else chg L cs ++ [(c, tgt L c)] := by
  unfold chg
  rw [List.map_append, List.filter_append]
  by_cases h : c = tgt L c
  · rw [if_pos h, show [c].map (fun c => (c, tgt L c)) = [(c, tgt L c)] from rfl, List.filter_cons_of_neg (by simpa using h)]
    simp
  · rw [if_neg h, show [c].map (fun c => (c, tgt L c)) = [(c, tgt L c)] from rfl, List.filter_cons_of_pos (by simpa using h)]
    rfl
theorem map_tgt {L : Ld} (nd : (L.map (·.1)).Nodup) : (L.map (·.1)).map (fun c => (c, tgt L c)) = L := by
  rw [List.map_map]
  conv => rhs; rw [← List.map_id L]
  refine List.map_congr_left fun p hp => ?_
  show (p.1, tgt L p.1) = p
  rw [tgt_mem nd (a := p.1) (b := p.2) hp]
theorem chg_perm {L : Ld} (nd : (L.map (·.1)).Nodup) {cs : List Nat} (pm : cs.Perm (L.map (·.1))) : (chg L cs).Perm (movers L) := by
  have := (pm.map fun c => (c, tgt L c)).filter fun p => p.1 != p.2
  rw [map_tgt nd] at this
  exact this
theorem chg_keys {L : Ld} {cs : List Nat} {c : Nat} (h : ¬ c ∈ cs) : ¬ c ∈ (chg L cs).map (·.1) := fun z => by
  obtain ⟨p, hp, e⟩ := List.mem_map.mp z
  obtain ⟨x, hx, e2⟩ := List.mem_map.mp (List.mem_filter.mp hp).1
  subst e2
  exact h (by rw [← show x = c from e]; exact hx)
theorem chg_len (L : Ld) (cs : List Nat) : (chg L cs).length ≤ cs.length := by
  unfold chg
  refine Nat.le_trans (List.length_filter_le _ _) ?_
  rw [List.length_map]
  exact Nat.le_refl _
theorem sc_Renaming___init__ : FnScope ["self", "letters", "letter", "target"] ["self", "letters"] (defScope s_Renaming___init__) := ⟨rfl, rfl, rfl, by decide +kernel, rfl, by decide +kernel, by decide +kernel⟩
def spInitR (C : Addr) (ks : List Str) : List V → List V → Hp → VK → XK → Prop := fun vs zs H Q _ => ∃ (x dx : Addr) (L : Ld), vs = [.ref x] ∧ ks = L.map (fun p => ch p.1) ∧ zs = L.map (fun p => vc p.2) ∧ LdOk L ∧ H x = some (.ins C dx []) ∧
  ∀ H' M, M.Perm (movers L) → But x H H' → Rn C H' x M → Q .non H'
section
variable {P : Program} {w : World} {K : PySem.W.Frag} {mg : Str → Option Value} {base : Heap} {f : Addr} {fd : FuncData} {C gG : Addr}
theorem ok_initR (F : Fun K "__init__" "Renaming.__init__" s_Renaming___init__ f fd) (M : Mgs mg) (TD : RenC K mg C gG) (Dis_letter : Df P w K mg base 1 "is_letter" ["value"] spOne) {ks : List Str} (B : KwBind fd ["self"] "letters" ks) (few : ks.length ≤ 1000) :
    FnKwX CX0 P w K mg base 2 f 1 ks (spInitR C ks) := by
  refine fnKwX (ps := ["self"]) StX.cxUp_none F B few sc_Renaming___init__ fun cdv A outer s H vs zs d Q E hr hd l2 h => ?_
  obtain ⟨H0, nd0, eH, x, dx, L, rfl, rfl, rfl, ok, hx, q⟩ := h
  rw [zip_ld] at hd eH
  have nxd : x ≠ d := ne_of_none hx nd0
  have hxH : H x = some (.ins C dx []) := by rw [eH, upd_ne nxd]; exact hx
  have lK : (ldK L).length = L.length := List.length_map _
  refine ⟨_, (show PSs (cxOf CX0 P w K mg base ["self", "letters", "letter", "target"] "Renaming.__init__" (defScope s_Renaming___init__) f cdv A outer s H E).nox (defBody s_Renaming___init__) _ from (pss_cons (ps_lock (ps_for PassesOwn.never rfl (pi_keys (pv 1)) (pg_name (i := 2) sc_Renaming___init__.nd rfl (.inl rfl))
      (pss_one (ps_if (pt_not (pt_val (pe_call Dis_letter.ok (hr.mono (by omega)) rfl Dis_letter.g Dis_letter.kp Dis_letter.b .nil pass0 (pa_cons (pv 2) pa_nil))))
      (pss_one ps_never) pss_nil))))
    (pss_cons (ps_lock (ps_for PassesOwn.never rfl (pi_values (pv 1)) (pg_name (i := 3) sc_Renaming___init__.nd rfl (.inl rfl))
      (pss_one (ps_if (pt_not (pt_val (pe_call Dis_letter.ok (hr.mono (by omega)) rfl Dis_letter.g Dis_letter.kp Dis_letter.b .nil pass0 (pa_cons (pv 3) pa_nil))))
      (pss_one ps_never) pss_nil))))
    (pss_one (ps_fld (pv 0) (pe_dc (own := [("letter", 2)]) (g := gName 2) rfl sc_Renaming___init__.nd (pi_list (pe_callB (call_sortedD rfl) rfl M.sorted (by decide +kernel) (pa_cons (pv 1) pa_nil))) (blkOk_by (N := ["self", "letters", "letter", "target"]) (sc := defScope s_Renaming___init__) (by decide +kernel)) (fun _ _ _ _ _ => (pg_name (i := 2) sc_Renaming___init__.nd rfl (.inl rfl))) (fun _ _ _ _ _ => pts_one (pt_cmpR op_ne (pe_dget (Nat.lt_of_le_of_lt (Nat.add_le_add_left (by decide) _) hr.units) (pv 1) (pv 2) (fun _ _ => rfl)) (pv 2) (nomark _))) (fun _ _ _ _ _ => (pv 2)) (fun _ _ _ _ _ => (pe_dget (Nat.lt_of_le_of_lt (Nat.add_le_add_left (by decide) _) hr.units) (pv 1) (pv 2) (fun _ _ => rfl)))) rfl))))).nox, ?_⟩
  refine ⟨d, _, hd, trivial, fun od => ?_⟩
  have efz := upd_same (H := H) (a := d) (o := .frz od (.dK (ldK L)))
  have back : ∀ H', Same (upd H d (.frz od (.dK (ldK L)))) H' → Same H (upd H' d (.dK (ldK L))) := fun H' => lock_back hd
  generalize upd H d (.frz od (.dK (ldK L))) = H1 at efz back ⊢
  refine ⟨_, rfl, d, od, rfl, .inl ⟨_, efz, ?_⟩⟩
  refine for_it (walk_keys (d := d) (o := od) (kvs := ldK L)) (fun i σ H' => (∃ o1, σ = [some (.ref x), some (.ref d), o1, none]) ∧ H' = H1) ⟨⟨_, rfl⟩, rfl⟩ (fun i σ H' _ hp => by rw [hp.2]; exact efz) (fun i y σ H' H'' hi hp hy => ?_) (fun σ H' hp => ?_)
  · obtain ⟨⟨o1, rfl⟩, e1⟩ := hp
    obtain ⟨e2, ky, v, hk, rfl⟩ := hy
    subst e2
    unfold ldK at hk
    rw [List.getElem?_map] at hk
    obtain ⟨⟨c, b⟩, hc, he⟩ := Option.map_eq_some_iff.mp hk
    cases he
    refine ⟨_, rfl, c, rfl, ?_⟩
    rw [low_dec (ok.low _ (List.mem_of_getElem? hc)).1]
    refine ⟨_, rfl, iteF ?_⟩
    exact ⟨⟨_, rfl⟩, e1⟩
  obtain ⟨⟨o1, rfl⟩, rfl⟩ := hp
  refine ⟨efz, ?_⟩
  have s1 := back H' (Same.refl _)
  have hd1 : (upd H' d (.dK (ldK L))) d = some (.dK (ldK L)) := upd_same
  clear back efz
  generalize upd H' d (.dK (ldK L)) = H2 at s1 hd1 ⊢
  refine ⟨d, _, hd1, trivial, fun od2 => ?_⟩
  have efz2 := upd_same (H := H2) (a := d) (o := .frz od2 (.dK (ldK L)))
  have back2 : ∀ H', Same (upd H2 d (.frz od2 (.dK (ldK L)))) H' → Same H2 (upd H' d (.dK (ldK L))) := fun H' => lock_back hd1
  generalize upd H2 d (.frz od2 (.dK (ldK L))) = H3 at efz2 back2 ⊢
  refine ⟨_, rfl, d, od2, _, rfl, efz2, ?_⟩
  refine for_it (walk_values (d := d) (o := od2) (kvs := ldK L)) (fun i σ H' => (∃ o2, σ = [some (.ref x), some (.ref d), o1, o2]) ∧ H' = H3) ⟨⟨_, rfl⟩, rfl⟩ (fun i σ H' _ hp => by rw [hp.2]; exact efz2) (fun i y σ H' H'' hi hp hy => ?_) (fun σ H'' hp => ?_)
  · obtain ⟨⟨o2, rfl⟩, e1⟩ := hp
    obtain ⟨e2, ky, hk⟩ := hy
    subst e2
    unfold ldK at hk
    rw [List.getElem?_map] at hk
    obtain ⟨⟨c, b⟩, hc, he⟩ := Option.map_eq_some_iff.mp hk
    cases he
    refine ⟨_, rfl, b, rfl, ?_⟩
    rw [low_dec (ok.low _ (List.mem_of_getElem? hc)).2]
    refine ⟨_, rfl, iteF ?_⟩
    exact ⟨⟨_, rfl⟩, e1⟩
  obtain ⟨⟨o2, rfl⟩, rfl⟩ := hp
  refine ⟨efz2, ?_⟩
  have s2 := s1.trans (back2 H'' (Same.refl _))
  have hd2 : (upd H'' d (.dK (ldK L))) d = some (.dK (ldK L)) := upd_same
  clear back2 efz2
  generalize upd H'' d (.dK (ldK L)) = H4 at s2 hd2 ⊢
  have l26 := ok.len
  refine ⟨_, rfl, d, _, L.map (fun p => ch p.1), rfl, .inl hd2, (by unfold ldK; rw [List.map_map, List.map_map]; rfl), (by rw [List.length_map]; omega), fun ys p pm sd np => ?_⟩
  have ey : (ys.map unch).map ch = ys := by
    rw [List.map_map]
    conv => rhs; rw [← List.map_id ys]
    refine List.map_congr_left fun y hy => ?_
    obtain ⟨q, _, rfl⟩ := List.mem_map.mp (pm.mem_iff.mp hy)
    rfl
  have pc : (ys.map unch).Perm (L.map (·.1)) := by
    have := pm.map unch
    rw [List.map_map] at this
    exact this
  have ev : ys.map V.str = (ys.map unch).map vc := by
    conv => lhs; rw [← ey]
    rw [List.map_map]
    rfl
  rw [ev]
  clear ev ey sd pm
  generalize ys.map unch = cs at pc ⊢
  have ncs : cs.Nodup := pc.nodup_iff.mpr ok.nd
  have lcs : cs.length = L.length := by rw [pc.length_eq, List.length_map]
  refine ⟨p, rfl, ⟨_, SqL.of upd_same⟩, fun D nD => ?_⟩
  have k1 := same_new np (.lst (cs.map vc))
  have npD : p ≠ D := ne_of_none upd_same nD
  have ndD : d ≠ D := ne_of_none (k1 _ _ hd2) nD
  have k2 := same_new nD (.dK [])
  refine dc_it (walk_list (K := K) (a := p) (xs := cs.map vc)) (fun i H' => (∀ b o, b ≠ D → upd H4 p (.lst (cs.map vc)) b = some o → H' b = some o) ∧ H' D = some (.dK (ldK (chg L (cs.take i))))) ⟨fun b o hb e => by rw [upd_ne hb]; exact e, upd_same⟩ (fun i H' _ hp => SqL.of (hp.1 _ _ npD upd_same)) (fun i y H' H'' hi hp hy => ?_) (fun H' hp => ?_)
  · obtain ⟨e1, hy⟩ := hy
    subst e1
    rw [List.getElem?_map] at hy
    obtain ⟨c, hc, rfl⟩ := Option.map_eq_some_iff.mp hy
    have hm : c ∈ L.map (·.1) := pc.mem_iff.mp (List.mem_of_getElem? hc)
    obtain ⟨⟨c', b⟩, hb, ec⟩ := List.mem_map.mp hm
    have ec : c' = c := ec
    subst ec
    have dg : DGet H'' d (.str (ch c')) (some (vc b)) := .inl ⟨_, .inr (ch c'), .inl (hp.1 _ _ ndD (k1 _ _ hd2)), rfl, (val_mem ok.nd hb).symm⟩
    have tk : cs.take (i + 1) = cs.take i ++ [c'] := by rw [List.take_add_one, hc]; rfl
    have et := tgt_mem ok.nd hb
    refine ⟨rfl, _, rfl, _, rfl, d, vc b, rfl, dg, ?_⟩
    refine ⟨_, rfl, rfl, _, rfl, ?_⟩
    have lt : (chg L (cs.take i)).length < sizeLine := by
      have := chg_len L (cs.take i)
      have h2 : (cs.take i).length ≤ cs.length := by rw [List.length_take]; omega
      have h3 : sizeLine = 16777216 := rfl
      omega
    by_cases same : c' = b
    · have e : (!decide (vc b = vc c')) = false := by rw [same]; simp
      rw [e]
      refine iteF ?_
      refine ⟨hp.1, ?_⟩
      rw [tk, chg_snoc, et, if_pos same]
      exact hp.2
    · have e : (!decide (vc b = vc c')) = true := by
        rw [decide_eq_false (fun z => same (ch_inj (by injection z)).symm)]; rfl
      rw [e]
      refine iteT ⟨_, rfl, _, rfl, _, rfl, d, vc b, rfl, dg, ?_⟩
      refine ⟨_, .inr (ch c'), rfl, hp.2, (by unfold ldK; rw [List.length_map]; exact lt), fun b' o hb' e' => by rw [upd_ne hb']; exact hp.1 _ _ hb' e', ?_⟩
      have nin : ¬ c' ∈ cs.take i := fun z => by
        obtain ⟨j, hj⟩ := List.mem_iff_getElem?.mp z
        rw [List.getElem?_take] at hj
        by_cases ji : j < i
        · rw [if_pos ji] at hj
          have := (List.getElem?_inj (by rw [List.length_map] at hi; exact Nat.lt_trans ji hi) ncs).mp (hj.trans hc.symm)
          omega
        · rw [if_neg ji] at hj
          cases hj
      rw [upd_same, putK_new _ (val_out (chg_keys nin)), tk, chg_snoc, et, if_neg same]
      unfold ldK
      rw [List.map_append]
      rfl
  have hx4 : upd H4 p (.lst (cs.map vc)) x = some (.ins C dx []) := k1 _ _ (s2 _ _ hxH)
  have nxD : x ≠ D := ne_of_none hx4 nD
  have hx5 := hp.1 _ _ nxD hx4
  refine ⟨_, rfl, x, C, dx, [], rfl, hx5, TD.cl, TD.nL, (by show 0 < 1000; decide), ?_⟩
  have full : cs.take (cs.map vc).length = cs := by rw [List.length_map, List.take_length]
  rw [full] at hp
  refine q _ (chg L cs) (chg_perm ok.nd pc) (fun b o hb e => ?_) ⟨dx, D, upd_same, by rw [upd_ne nxD.symm]; exact hp.2⟩
  have e0 : H b = some o := by rw [eH, upd_ne (ne_of_none e nd0)]; exact e
  have e4 := k1 _ _ (s2 _ _ e0)
  rw [upd_ne hb]
  exact hp.1 _ _ (ne_of_none e4 nD) e4
end
/-! ### the text of a renaming, read -/
section
open TL
def wordOf (p : Nat × Nat) : List Nat := [p.1, 62, p.2]
def rowText (L : Ld) : Str := Txt.join " " (L.map fun p => tx (wordOf p))
theorem tl_tx (x : List Nat) : tl (tx x) = x := rfl
theorem joinL_len (S : List Nat) : ∀ l : List (List Nat), (joinL S l).length ≤ (l.map (·.length)).sum + l.length * S.length
  | [] => by simp [joinL]
  | [p] => by simp [joinL]
  | p :: q :: r => by
    have := joinL_len S (q :: r)
    show (p ++ (S ++ joinL S (q :: r))).length ≤ _
    rw [List.length_append, List.length_append, List.map_cons, List.sum_cons, List.length_cons]
    have e : ((q :: r).length + 1) * S.length = (q :: r).length * S.length + S.length := Nat.succ_mul _ _
    rw [e]
    omega
theorem rowText_tl (L : Ld) : tl (rowText L) = joinL [32] (L.map wordOf) := by
  unfold rowText
  rw [join_eq, tl_join, List.map_map]
  rfl
theorem sum_words : ∀ L : Ld, ((L.map wordOf).map (·.length)).sum = 3 * L.length
  | [] => rfl
  | p :: L => by
    have := sum_words L
    rw [List.map_cons, List.map_cons, List.sum_cons, this, List.length_cons]
    show 3 + 3 * L.length = 3 * (L.length + 1)
    omega
theorem rowText_len (L : Ld) : (rowText L).length ≤ 4 * L.length := by
  have h := joinL_len [32] (L.map wordOf)
  rw [← rowText_tl, sum_words, List.length_map] at h
  have e : (tl (rowText L)).length = (rowText L).length := Array.length_toList
  have e2 : L.length * ([32] : List Nat).length = L.length := Nat.mul_one _
  omega
theorem rowText_ne {L : Ld} (h : L ≠ []) : rowText L ≠ ("" : Str) := fun e => by
  have h1 := congrArg tl e
  rw [rowText_tl] at h1
  match L, h with
  | [p], _ => cases h1
  | p :: q :: r, _ => cases h1
theorem rowText_split {L : Ld} (ok : LdOk L) (h : L ≠ []) : Txt.split (rowText L) " " = L.map fun p => tx (wordOf p) := by
  refine split_join (s := 32) (S := []) (by decide +kernel) (by decide +kernel) (by simpa using h) fun x hx => ?_
  obtain ⟨p, hp, rfl⟩ := List.mem_map.mp hx
  obtain ⟨⟨a1, a2⟩, b1, b2⟩ := ok.low p hp
  show ¬ 32 ∈ [p.1, 62, p.2]
  simp only [List.mem_cons, List.not_mem_nil, or_false, not_or]
  omega
end
def spLead : Sp := fun vs H Q _ => ∃ p : Nat × Nat, vs = [.str (tx (wordOf p))] ∧ lowc p.1 ∧ lowc p.2 ∧ Q (.bl true) H
def spRead (C : Addr) : Sp := fun vs H Q _ => ∃ L : Ld, vs = [.ref C, .str (rowText L)] ∧ L ≠ [] ∧ LdOk L ∧ ∀ a H' M, M.Perm (movers L) → Same H H' → H a = none → Rn C H' a M → Q (.ref a) H'
section
variable {P : Program} {w : World} {K : PySem.W.Frag} {mg : Str → Option Value} {base : Heap} {f fi : Addr} {fd : FuncData} {C gG : Addr}
theorem ok_lead (F : Fun K "is_lead" "is_lead" s_is_lead f fd) (M : Mgs mg) (Dis_letter : Df P w K mg base 1 "is_letter" ["value"] spOne) : FnOk P w K mg base CX0 2 f fd ["word"] spLead := by
  refine F.ok sc_is_lead (fun vs H Q E h => ?_) (fun cdv A outer s H vs Q E hr h => ?_)
  · obtain ⟨p, rfl, _⟩ := h
    rfl
  obtain ⟨⟨a, b⟩, rfl, ha, hb, q⟩ := h
  refine ⟨_, (pss_one (ps_ret (pe_and (pe_cmpR op_eq (pe_callB call_len_str rfl M.len PySem.boot_len (pa_cons (pv 0) pa_nil)) pe_int (nomark _)) (pe_and (pe_call Dis_letter.ok (hr.mono (by omega)) rfl Dis_letter.g Dis_letter.kp Dis_letter.b .nil pass0 (pa_cons (pe_ix ix_str (pv 0) pe_int (fun _ _ => rfl)) pa_nil)) (pe_and (pe_cmpR op_eq (pe_ix ix_str (pv 0) pe_int (fun _ _ => rfl)) pe_str (nomark _)) (pe_one (pe_call Dis_letter.ok (hr.mono (by omega)) rfl Dis_letter.g Dis_letter.kp Dis_letter.b .nil pass0 (pa_cons (pe_ix ix_str (pv 0) pe_int (fun _ _ => rfl)) pa_nil)))))))), ?_⟩
  have a0 : Str.ofString ">" = ch 62 := by decide +kernel
  refine ⟨_, rfl, tx (wordOf (a, b)), rfl, small (by show 3 ≤ 1000; decide), rfl, _, rfl, ?_⟩
  have i0 : atI ([a, 62, b] : List Nat) 0 = some a := atI_nat (j := 0) rfl
  have i1 : atI ([a, 62, b] : List Nat) 1 = some 62 := atI_nat (j := 1) rfl
  have i2 : atI ([a, 62, b] : List Nat) 2 = some b := atI_nat (j := 2) rfl
  have sm : (tx (wordOf (a, b))).length ≤ sizeLine := small (by show 3 ≤ 1000; decide)
  refine iteT ⟨_, rfl, _, 0, a, rfl, rfl, sm, i0, a, rfl, ?_⟩
  rw [low_dec ha]
  refine ⟨_, rfl, iteT ⟨_, rfl, _, 1, 62, rfl, rfl, sm, i1, rfl, _, rfl, ?_⟩⟩
  rw [show decide (V.str (⟨#[62]⟩ : Str) = V.str (Str.ofString ">")) = true from decide_eq_true (by rw [a0])]
  refine iteT ⟨_, rfl, _, 2, b, rfl, rfl, sm, i2, b, rfl, ?_⟩
  rw [low_dec hb]
  exact q
theorem ok_read (F : Fun K "read" "Renaming.read" s_Renaming_read f fd) (M : Mgs mg) (mEn : mg "enumerate" = none) (MK : L2.Mk K C fi) (Dis_lead : Df P w K mg base 2 "is_lead" ["word"] spLead)
    (Di : ∀ ks : List Str, (∃ L : Ld, ks = L.map (fun p => ch p.1) ∧ LdOk L) → FnKwX CX0 P w K mg base 2 fi 1 ks (spInitR C ks)) : FnOk P w K mg base CX0 4 f fd ["cls", "text"] (spRead C) := by
  refine F.ok sc_Renaming_read (fun vs H Q E h => ?_) (fun cdv A outer s H vs Q E hr h => ?_)
  · obtain ⟨L, rfl, _⟩ := h
    rfl
  obtain ⟨L, rfl, ne, ok, q⟩ := h
  refine ⟨_, (pss_cons (ps_if (pt_not (pt_val (pe_callB call_isi rfl M.isinstance (by decide +kernel) (pa_cons (pv 1) (pa_cons (pe_bltn (v := .ty "str") rfl M.str (by decide +kernel) rfl) pa_nil)))))
      (pss_one ps_never) pss_nil)
    (pss_cons (ps_set (i := 2) sc_Renaming_read.nd rfl (.inl rfl) pe_dnewK)
    (pss_cons (ps_set (i := 3) sc_Renaming_read.nd rfl (.inl rfl) (pe_ifExp (pt_cmpR op_ne (pv 1) pe_str (nomark _)) (pe_split (pv 1) pe_str) (pe_lst pa_nil)))
    (pss_cons (ps_for PassesOwn.never rfl (pi_enum rfl mEn (pa_cons (pv 3) pa_nil)) (pg_tup rfl (pgs_cons (pg_name (i := 4) sc_Renaming_read.nd rfl (.inl rfl)) (pgs_cons (pg_name (i := 5) sc_Renaming_read.nd rfl (.inl rfl)) pgs_nil)))
      (pss_cons (ps_if (PW.pt (pw_or (pt_not (pt_val (pe_call Dis_lead.ok (hr.mono (by omega)) rfl Dis_lead.g Dis_lead.kp Dis_lead.b .nil pass0 (pa_cons (pv 5) pa_nil)))) (pw_or1 (pt_cmp (pc_din (Nat.lt_of_le_of_lt (Nat.add_le_add_left (by decide) _) hr.units) (pe_ix ix_str (pv 5) pe_int (fun _ _ => rfl)) (pv 2))))))
      (pss_one ps_never) pss_nil)
    (pss_one (ps_dput (Nat.lt_of_le_of_lt (Nat.add_le_add_left (by decide) _) hr.units) (pv 2) (pe_ix ix_str (pv 5) pe_int (fun _ _ => rfl)) (pe_ix ix_str (pv 5) pe_int (fun _ _ => rfl)) rfl))))
    (pss_one (ps_ret (pe_makeKd (i := 0) (j := 2) MK Di (hr.mono (by omega)) pass0 rfl (.inl rfl) rfl (.inl rfl)))))))), ?_⟩
  have l26 := ok.len
  have tl := rowText_len L
  have tz : (rowText L).length + 2 ≤ sizeLine := by
    have : sizeLine = 16777216 := rfl
    omega
  refine ⟨_, rfl, _, _, _, _, true, rfl, .ty _, .base (.str (rowText L)), kit_ty (by decide +kernel), _, rfl, iteF ?_⟩
  refine fun d nd => ?_
  have k1 := same_new nd (.dK [])
  refine ⟨_, rfl, rfl, _, rfl, ?_⟩
  rw [show (!decide (V.str (rowText L) = V.str (Str.ofString ""))) = true by rw [decide_eq_false (fun z => rowText_ne ne (by injection z))]; rfl]
  refine iteT ⟨_, rfl, ⟨_, rfl⟩, _, _, rfl, rfl, rfl, tz, fun p np => ?_⟩
  rw [rowText_split ok ne]
  have k2 := same_new np (.lst ((L.map fun p => tx (wordOf p)).map V.str))
  refine ⟨_, rfl, p, _, rfl, SqL.of upd_same, ?_⟩
  have eq : upd (upd H d (.dK [])) p (.lst ((L.map fun p => tx (wordOf p)).map V.str)) p = some (.lst ((L.map fun p => tx (wordOf p)).map V.str)) := upd_same
  have hd : upd (upd H d (.dK [])) p (.lst ((L.map fun p => tx (wordOf p)).map V.str)) d = some (.dK (ldK (L.take 0))) := k2 _ _ upd_same
  have sH := k1.trans k2
  have ndp : d ≠ p := ne_of_none upd_same np
  clear k1 k2
  generalize upd (upd H d (.dK [])) p (.lst ((L.map fun p => tx (wordOf p)).map V.str)) = H2 at eq hd sH ⊢
  refine for_it (walk_enum (K := K) (a := p) (xs := (L.map fun p => tx (wordOf p)).map V.str)) (fun i σ H' => (∃ o4 o5, σ = [some (.ref C), some (.str (rowText L)), some (.ref d), some (.ref p), o4, o5]) ∧ (∀ b o, b ≠ d → H2 b = some o → H' b = some o) ∧ H' d = some (.dK (ldK (L.take i)))) ⟨⟨_, _, rfl⟩, fun _ _ _ e => e, hd⟩ (fun i σ H' _ hp => SqL.of (hp.2.1 _ _ ndp.symm eq)) (fun i y σ H' H'' hi hp hy => ?_) (fun σ H' hp => ?_)
  · obtain ⟨⟨o4, o5, rfl⟩, s3, e3⟩ := hp
    obtain ⟨T, y1, y2, rfl, nT, rfl, h1, h2⟩ := hy
    cases h1
    have h2 : ((L.map fun p => tx (wordOf p)).map V.str)[i]? = some y2 := h2
    rw [List.getElem?_map] at h2
    obtain ⟨z, hz, rfl⟩ := Option.map_eq_some_iff.mp h2
    rw [List.getElem?_map] at hz
    obtain ⟨⟨a, b⟩, hc, rfl⟩ := Option.map_eq_some_iff.mp hz
    obtain ⟨la, lb⟩ := ok.low _ (List.mem_of_getElem? hc)
    have ndT : d ≠ T := ne_of_none e3 nT
    have e4 : upd H' T (.tup [.int (i : Nat), .str (tx (wordOf (a, b)))]) d = some (.dK (ldK (L.take i))) := by rw [upd_ne ndT]; exact e3
    refine ⟨T, _, rfl, SqT.of upd_same, rfl, ?_⟩
    refine ⟨_, _, rfl, _, _, rfl, rfl, ?_⟩
    have nin : ¬ a ∈ (L.take i).map (·.1) := fun z => by
      rw [List.map_take] at z
      obtain ⟨j, hj⟩ := List.mem_iff_getElem?.mp z
      rw [List.getElem?_take] at hj
      by_cases ji : j < i
      · rw [if_pos ji] at hj
        have hi' : i < L.length := by rw [List.length_map, List.length_map] at hi; exact hi
        have := (List.getElem?_inj (by rw [List.length_map]; exact Nat.lt_trans ji hi') ok.nd).mp (hj.trans (show (L.map (·.1))[i]? = some a by rw [List.getElem?_map, hc]; rfl).symm)
        omega
      · rw [if_neg ji] at hj
        cases hj
    have i0 : atI (tx (wordOf (a, b))).cps.toList 0 = some a := atI_nat (j := 0) rfl
    have i2 : atI (tx (wordOf (a, b))).cps.toList 2 = some b := atI_nat (j := 2) rfl
    have sm : (tx (wordOf (a, b))).length ≤ sizeLine := small (by show 3 ≤ 1000; decide)
    refine ⟨_, rfl, (a, b), rfl, la, lb, ?_⟩
    refine ⟨_, rfl, iteF ⟨_, rfl, _, 0, a, rfl, rfl, sm, i0, _, rfl, d, none, rfl, .inl ⟨_, .inr (ch a), .inl e4, rfl, (val_out nin).symm⟩, _, rfl, iteF ?_⟩⟩
    refine ⟨_, rfl, _, 2, b, rfl, rfl, sm, i2, _, rfl, _, rfl, _, 0, a, rfl, rfl, sm, i0, d, _, rfl, .inl ⟨_, .inr (ch a), e4, rfl, ?_, rfl⟩, ?_⟩
    · unfold ldK
      rw [List.length_map, List.length_take]
      have : sizeLine = 16777216 := rfl
      omega
    refine ⟨⟨_, _, rfl⟩, fun b' o hb e => ?_, ?_⟩
    · rw [upd_ne hb, upd_ne (ne_of_none (s3 _ _ hb e) nT)]
      exact s3 _ _ hb e
    · rw [upd_same, putK_new _ (val_out nin), List.take_add_one, hc]
      unfold ldK
      rw [List.map_append]
      rfl
  obtain ⟨⟨o4, o5, rfl⟩, s3, e3⟩ := hp
  rw [List.length_map, List.length_map, List.take_length] at e3
  refine ⟨rfl, d, L.map (fun p => ch p.1), L.map (fun p => vc p.2), rfl, (by rw [zip_ld]; exact e3), by rw [List.length_map, List.length_map], by rw [List.length_map]; omega, ⟨L, rfl, ok⟩, fun x dx nx ndx nxd => ?_⟩
  refine ⟨x, dx, L, rfl, rfl, rfl, ok, upd_same, fun H4 N pN bx rn => ⟨rfl, ?_⟩⟩
  have old : ∀ {b o}, H b = some o → H' b = some o := fun {b o} e => s3 _ _ (ne_of_none e nd) (sH _ _ e)
  refine q x H4 N pN (fun b o e => ?_) ?_ rn
  · have eb := old e
    have bx' : b ≠ x := ne_of_none eb nx
    have bdx : b ≠ dx := ne_of_none eb ndx
    exact bx _ _ bx' (by rw [upd_ne bx', upd_ne bdx]; exact eb)
  · cases hx : H x with
    | none => rfl
    | some o => rw [old hx] at nx; cases nx
end
/-! ### the text of a renaming -/
def spStr (C : Addr) : Sp := fun vs H Q _ => ∃ (a : Addr) (L : Ld), vs = [.ref a] ∧ Rn C H a L ∧ L.length ≤ 26 ∧ LdOk L ∧ ∀ H', Same H H' → Q (.str (rowText L)) H'
theorem word_join (a b : Nat) : ((Str.empty ++ ch a) ++ Str.ofString ">") ++ ch b = tx (wordOf (a, b)) := by
  have h : Str.ofString ">" = ch 62 := by decide +kernel
  rw [h]
  rfl
section
variable {P : Program} {w : World} {K : PySem.W.Frag} {mg : Str → Option Value} {base : Heap} {f fi : Addr} {fd : FuncData} {C gG : Addr}
theorem ok_str (F : Fun K "__str__" "Renaming.__str__" s_Renaming___str__ f fd) (TD : RenC K mg C gG) : FnOk P w K mg base CX0 1 f fd ["self"] (spStr C) := by
  refine F.ok sc_Renaming___str__ (fun vs H Q E h => ?_) (fun cdv A outer s H vs Q E hr h => ?_)
  · obtain ⟨a, L, rfl, _⟩ := h
    rfl
  obtain ⟨a, L, rfl, ⟨dx, d, ea, ed⟩, few, ok, q⟩ := h
  refine ⟨_, (pss_one (ps_ret (pe_bm PySem.F.plainAttrs_str PySem.F.slot_str_join PySem.F.type_str_join mt_join pe_str (pa_cons (pe_lock (pe_lc (own := [("letter", 1)]) (g := gName 1) (tt := tYes) rfl sc_Renaming___str__.nd (pi_keys (pe_fld (pv 0) rfl)) (blkOk_by (N := ["self", "letter"]) (sc := defScope s_Renaming___str__) (by decide +kernel)) (fun _ _ _ _ _ => (pg_name (i := 1) sc_Renaming___str__.nd rfl (.inl rfl))) (fun _ _ _ _ _ => pts_nil) (fun _ _ _ _ _ => (pe_joined (PJ.cons (pe_fmt (pv 1)) (PJ.cons pe_str (PJ.cons (pe_fmt (pe_dget (Nat.lt_of_le_of_lt (Nat.add_le_add_left (by decide) _) hr.units) (show PE _ _ (tFld K (tVar 0) "leads") from pe_fld (pv 0) rfl) (pv 1) (fun _ _ => rfl))) PJ.nil))))))) pa_nil)))), ?_⟩
  have nad : a ≠ d := ne_of ea ed (by intro z; cases z)
  refine ⟨rfl, d, _, ed, trivial, fun od => ?_⟩
  have efz := upd_same (H := H) (a := d) (o := .frz od (.dK (ldK L)))
  have eaz : upd H d (.frz od (.dK (ldK L))) a = some (.ins C dx (renF d)) := by rw [upd_ne nad]; exact ea
  have back : ∀ H', Same (upd H d (.frz od (.dK (ldK L)))) H' → Same H (upd H' d (.dK (ldK L))) := fun H' => lock_back ed
  generalize upd H d (.frz od (.dK (ldK L))) = H1 at efz eaz back ⊢
  refine ⟨_, rfl, a, C, dx, _, _, rfl, eaz, TD.cl, TD.nL, ren_look d, d, od, rfl, .inl ⟨_, efz, fun D nD => ?_⟩⟩
  have nd1 : d ≠ D := ne_of_none efz nD
  have k1 := same_new nD (.lst [])
  refine lc_it (te := fun σ H Q => tJs [tFmt (tVar 1), tC (.str (Str.ofString ">")), tFmt (tDGet (tFld K (tVar 0) "leads") (tVar 1))] Str.empty σ H fun out H1 => Q (.str out) H1) (walk_keys (d := d) (o := od) (kvs := ldK L)) (fun i H' => (∀ b o, b ≠ D → H1 b = some o → H' b = some o) ∧ H' D = some (.lst (((L.take i).map fun p => tx (wordOf p)).map V.str))) ⟨fun b o hb e => by rw [upd_ne hb]; exact e, upd_same⟩ (fun i H' _ hp => hp.1 _ _ nd1 efz) (fun i y H' H'' hi hp hy => ?_) (fun H' hp => ?_)
  · obtain ⟨e1, ky, v, hk, rfl⟩ := hy
    subst e1
    unfold ldK at hk
    rw [List.getElem?_map] at hk
    obtain ⟨⟨c, b⟩, hc, he⟩ := Option.map_eq_some_iff.mp hk
    cases he
    have naD : a ≠ D := ne_of_none eaz nD
    have s1 : ∀ x : Nat, (ch x).length ≤ sizeLine := fun x => small (by show 1 ≤ 1000; decide)
    refine ⟨rfl, ?_⟩
    refine ⟨_, rfl, .inl ⟨_, rfl, s1 c, _, rfl, small (by show 1 ≤ 1000; decide), ?_⟩⟩
    refine ⟨_, rfl, small (by show 2 ≤ 1000; decide), ?_⟩
    refine ⟨_, rfl, a, C, dx, _, _, rfl, hp.1 _ _ naD eaz, TD.cl, TD.nL, ren_look d, _, rfl, d, vc b, rfl, .inl ⟨_, .inr (ch c), .inr ⟨od, hp.1 _ _ nd1 efz⟩, rfl, (val_mem ok.nd (List.mem_of_getElem? hc)).symm⟩, ?_⟩
    refine .inl ⟨_, rfl, s1 b, _, rfl, small (by show 3 ≤ 1000; decide), ?_⟩
    rw [show Str.empty ++ ch c ++ Str.ofString ">" ++ ch b = tx (wordOf (c, b)) from word_join c b]
    refine ⟨_, hp.2, ?_, fun b' o hb e => by rw [upd_ne hb]; exact hp.1 _ _ hb e, ?_⟩
    · rw [List.length_map, List.length_map, List.length_take]
      have : sizeLine = 16777216 := rfl
      omega
    · rw [upd_same, List.take_add_one, hc, List.map_append, List.map_append]
      rfl
  have full : L.take (ldK L).length = L := by unfold ldK; rw [List.length_map, List.take_length]
  rw [full] at hp
  refine ⟨hp.1 _ _ nd1 efz, ?_⟩
  have nDd : D ≠ d := nd1.symm
  refine ⟨_, D, L.map fun p => tx (wordOf p), rfl, rfl, .inl (SqL.of (by rw [upd_ne nDd]; exact hp.2)), ?_, q _ (back _ fun b o e => hp.1 _ _ (ne_of_none e nD) e)⟩
  have e3 : ((L.map fun p => tx (wordOf p)).map (·.length)).sum = 3 * L.length := by
    rw [← sum_words, List.map_map, List.map_map]
    rfl
  rw [e3, List.length_map]
  show 3 * L.length + L.length * 1 ≤ 16777216
  omega
end
/-! ### list(zip(a, b)) of two lists -/
open PySem.Builtin in
theorem zip_nolen : typeLookup (.type "zip") "__len__" = pure none := am_miss_of_fast (by decide +kernel)
theorem zip_nohint : typeLookup (.type "zip") "__length_hint__" = pure none := am_miss_of_fast (by decide +kernel)
/-- a zip that has given out i pairs; the last one is held by the list S -/
structure Zst (z TI TO i1 i2 l1 l2 S : Addr) (xs ys : Array Value) (i : Nat) (h : Heap) : Prop where
  pr : IsPair h TI (.ref i1) (.ref i2)
  it1 : h.IsListIter i1 l1 i
  it2 : h.IsListIter i2 l2 i
  li1 : h.IsList l1 xs
  li2 : h.IsList l2 ys
  out : (IsZip h z TI TO .none ∧ ∃ a b, IsPair h TO a b) ∨ ∃ T f o, IsZipHeld h z TI TO T f ∧ h.get? T = some o ∧ T ≠ z ∧ T ≠ i1 ∧ T ≠ i2 ∧ T ≠ S
/-- the list stands apart -/
structure Zap (z TI TO i1 i2 l1 l2 S : Addr) : Prop extends ZipApart z TI TO i1 i2 l1 l2 where
  sz : S ≠ z
  sTI : S ≠ TI
  sTO : S ≠ TO
  s1 : S ≠ i1
  s2 : S ≠ i2
  sl1 : S ≠ l1
  sl2 : S ≠ l2
section
variable {z TI TO i1 i2 l1 l2 S : Addr} {xs ys : Array Value} {i : Nat}
theorem Zst.keep {h h' : Heap} (Z : Zst z TI TO i1 i2 l1 l2 S xs ys i h) (D : Zap z TI TO i1 i2 l1 l2 S) (k : ∀ b o, b ≠ S → h.get? b = some o → h'.get? b = some o) : Zst z TI TO i1 i2 l1 l2 S xs ys i h' :=
  ⟨k _ _ D.sTI.symm Z.pr, Z.it1.at fun o e => k _ o D.s1.symm e, Z.it2.at fun o e => k _ o D.s2.symm e, Z.li1.at fun o e => k _ o D.sl1.symm e, Z.li2.at fun o e => k _ o D.sl2.symm e, by
    rcases Z.out with ⟨h1, a, b, h2⟩ | ⟨T, f, o, h1, h2, r1, r2, r3, r4⟩
    · exact .inl ⟨k _ _ D.sz.symm h1, a, b, k _ _ D.sTO.symm h2⟩
    · exact .inr ⟨T, f, o, k _ _ D.sz.symm h1, k _ _ r4 h2, r1, r2, r3, r4⟩⟩
variable {prog : Program} {w : World} {A : Around} {E : Value → Shared → Prop} {s : Shared}
theorem zst_item {Q : Option Value → Shared → Prop} {x y : Value} (Z : Zst z TI TO i1 i2 l1 l2 S xs ys i s.heap) (D : Zap z TI TO i1 i2 l1 l2 S) (hS : S < s.heap.objs.size) (hx : xs[i]? = some x) (hy : ys[i]? = some y)
    (q : ∀ h', Zst z TI TO i1 i2 l1 l2 S xs ys (i + 1) h' → IsPair h' s.heap.objs.size x y → (∀ b o, b ∉ [z, TO, i1, i2] → s.heap.get? b = some o → h'.get? b = some o) → Q (some (.ref s.heap.objs.size)) { s with heap := h' }) :
    wpAny (model prog w) A (pyNext (.ref z)) Q E s := by
  have up : ∀ {c o}, s.heap.get? c = some o → s.heap.objs.size ≠ c := fun e => Nat.ne_of_gt (Heap.lt_size e)
  have u1 : s.heap.objs.size ≠ i1 := let ⟨_, e, _⟩ := Z.it1; up e
  have u2 : s.heap.objs.size ≠ i2 := let ⟨_, e, _⟩ := Z.it2; up e
  rcases Z.out with ⟨h1, a, b, h2⟩ | ⟨T, f, o, h1, h2, r1, r2, r3, r4⟩
  · refine wpAny_pyNext_zip_item D.toZipApart h1 Z.pr h2 Z.it1 Z.it2 Z.li1 Z.li2 hx hy fun h' b1 _ b3 b4 b5 _ k => ?_
    have k' : ∀ b o, b ∉ [z, TO, i1, i2] → s.heap.get? b = some o → h'.get? b = some o := fun c o hc e => k c o (fun y => hc (by simp [y])) (fun y => hc (by simp [y])) (fun y => hc (by simp [y])) (fun y => hc (by simp [y])) e
    exact q h' ⟨k _ _ D.TIz D.TITO D.TIi1 D.TIi2 Z.pr, b3, b4, Z.li1.at fun o e => k _ o D.l1z D.l1TO D.l1i1 D.l1i2 e, Z.li2.at fun o e => k _ o D.l2z D.l2TO D.l2i1 D.l2i2 e, .inr ⟨_, false, _, b1, b5, up h1, u1, u2, Nat.ne_of_gt hS⟩⟩ b5 k'
  · refine wpAny_pyNext_zip_item_held D.toZipApart h1 h2 Z.pr Z.it1 Z.it2 Z.li1 Z.li2 hx hy fun h' b1 b3 b4 b5 _ k => ?_
    have k' : ∀ b o, b ∉ [z, TO, i1, i2] → s.heap.get? b = some o → h'.get? b = some o := fun c o hc e => k c o (fun y => hc (by simp [y])) (fun y => hc (by simp [y])) (fun y => hc (by simp [y])) e
    exact q h' ⟨k _ _ D.TIz D.TIi1 D.TIi2 Z.pr, b3, b4, Z.li1.at fun o e => k _ o D.l1z D.l1i1 D.l1i2 e, Z.li2.at fun o e => k _ o D.l2z D.l2i1 D.l2i2 e, .inr ⟨T, true, o, b1, k _ _ r1 r2 r3 h2, r1, r2, r3, r4⟩⟩ b5 k'
theorem zst_end {Q : Option Value → Shared → Prop} (hh : A.handled = none) (Z : Zst z TI TO i1 i2 l1 l2 S xs ys i s.heap) (D : Zap z TI TO i1 i2 l1 l2 S) (he : xs.size ≤ i)
    (q : ∀ h', (∀ b o, b ∉ [z, TO, i1, i2] → s.heap.get? b = some o → h'.get? b = some o) → Q none { s with heap := h' }) : wpAny (model prog w) A (pyNext (.ref z)) Q E s := by
  have en : xs[i]? = none ∨ ys[i]? = none := .inl (Array.getElem?_eq_none he)
  rcases Z.out with ⟨h1, a, b, h2⟩ | ⟨T, f, o, h1, h2, r1, r2, r3, r4⟩
  · exact wpAny_pyNext_zip_end hh D.toZipApart h1 Z.pr h2 Z.it1 Z.it2 Z.li1 Z.li2 en fun h' k => q h' fun c o hc e => k c o (fun y => hc (by simp [y])) (fun y => hc (by simp [y])) (fun y => hc (by simp [y])) (fun y => hc (by simp [y])) e
  · exact wpAny_pyNext_zip_end_held hh D.toZipApart h1 h2 Z.pr Z.it1 Z.it2 Z.li1 Z.li2 en fun h' k => q h' fun c o hc e => k c o (fun y => hc (by simp [y])) (fun y => hc (by simp [y])) (fun y => hc (by simp [y])) e
end
/-- the pairs given out so far stand at ts -/
def Outs (H : Hp) (vx vy : List V) (ts : List Addr) : Prop := ∀ (j : Nat) (t : Addr), ts[j]? = some t → ∃ x y, vx[j]? = some x ∧ vy[j]? = some y ∧ H t = some (.tup [x, y])
section
variable {X : Cx} {pins : List (Addr × Obj)} {σ : L2.St} {z TI TO i1 i2 l1 l2 S : Addr} {vx vy : List V} {xs ys : List Value} {R : Result → Shared → Prop} {A : Around}
theorem zip_gather (hh : A.handled = none) (D : Zap z TI TO i1 i2 l1 l2 S) (rx : Vals vx xs) (ry : Vals vy ys) (le : vx.length = vy.length) (few : vx.length ≤ sizeLine) (res : Value) {H0 : Hp} (nS : H0 S = none)
    (fin : ∀ H' s' ts, Inv X pins σ H' s' → (∀ b o, H0 b = some o → H' b = some o) → ts.length = vx.length → H' S = some (.lst (ts.map V.ref)) → Outs H' vx vy ts → R (.ok (.ret res)) s') :
    ∀ (k i : Nat) (H : Hp) (s : Shared) (ts : List Addr), i + k = vx.length → Inv X pins σ H s → Zst z TI TO i1 i2 l1 l2 S xs.toArray ys.toArray i s.heap → (∀ b ∈ [z, TO, i1, i2], FpOk X pins H b) → (∀ b ∈ [z, TO, i1, i2], b < s.heap.objs.size) → (∀ b o, H0 b = some o → H b = some o) →
      ts.length = i → H S = some (.lst (ts.map V.ref)) → Outs H vx vy ts → codeAny (model X.prog X.w) A (.builtin "list.extend.loop" ⟨[.ref S, .ref z, res], []⟩) R s := by
  have lx : xs.length = vx.length := rx.length.symm
  have ly : ys.length = vy.length := ry.length.symm
  intro k
  induction k with
  | zero =>
    intro i H s ts hi I Z hf lo keep lt eS outs
    refine codeAny_builtin PySem.F.entry_extend_loop ?_
    rw [Around.under_plainId PySem.F.plain_extend_loop _]
    show wpAny _ A.in1 (pyNext (.ref z) >>= _) _ _ _
    refine wpAny_bind (zst_end (A := A.in1) hh Z D (by simp; omega) fun h' k => ?_)
    exact wpAny_pure (fin H _ ts (I.turnedL (t' := s.toks) k hf) keep (by omega) eS outs)
  | succ k ih =>
    intro i H s ts hi I Z hf lo keep lt eS outs
    have hS : S < s.heap.objs.size := by
      obtain ⟨_, its, n, _, e⟩ := I.hok S _ eS
      exact Heap.lt_size e
    obtain ⟨x, hx⟩ : ∃ x, vx[i]? = some x := ⟨vx[i]'(by omega), List.getElem?_eq_getElem (by omega)⟩
    obtain ⟨y, hy⟩ : ∃ y, vy[i]? = some y := ⟨vy[i]'(by omega), List.getElem?_eq_getElem (by omega)⟩
    obtain ⟨u, hu, ru⟩ := rx.get hx
    obtain ⟨v, hv, rv⟩ := ry.get hy
    refine codeAny_builtin PySem.F.entry_extend_loop ?_
    rw [Around.under_plainId PySem.F.plain_extend_loop _]
    show wpAny _ A.in1 (pyNext (.ref z) >>= _) _ _ _
    refine wpAny_bind (zst_item (A := A.in1) Z D hS (by simpa using hu) (by simpa using hv) fun h' Z' pr k' => ?_)
    have nT : H s.heap.objs.size = none := I.hok.fresh (Nat.le_refl _)
    have I1 : Inv X pins σ (upd H s.heap.objs.size (.tup [x, y])) { s with heap := h' } := I.turnedNew (t' := s.toks) k' hf (Nat.le_refl _) ⟨by show 2 ≤ sizeLine; decide, [u, v], .cons ru (.cons rv .nil), ⟨_, pr, rfl, _, rfl⟩⟩
    have nST : S ≠ s.heap.objs.size := Nat.ne_of_lt hS
    have eS1 : upd H s.heap.objs.size (.tup [x, y]) S = some (.lst (ts.map V.ref)) := by rw [upd_ne nST]; exact eS
    obtain ⟨_, its, n, ri, e⟩ := I1.hok S _ eS1
    have li : its.length = ts.length := by rw [← ri.length, List.length_map]
    have up : ∀ b o, b ≠ S → h'.get? b = some o → (h'.update S (Obj.mapSeq (·.push (Value.ref s.heap.objs.size)))).get? b = some o := fun b o hb q => (Heap.get?_update_other _ _ (Ne.symm hb)).trans q
    have eU := Heap.get?_update_self (Obj.mapSeq (·.push (Value.ref s.heap.objs.size))) e rfl
    have eL : (ts ++ [s.heap.objs.size]).map V.ref = ts.map V.ref ++ [V.ref s.heap.objs.size] := by rw [List.map_append]; rfl
    have I2 : Inv X pins σ (upd (upd H s.heap.objs.size (.tup [x, y])) S (.lst ((ts ++ [s.heap.objs.size]).map V.ref))) { s with heap := h'.update S (Obj.mapSeq (·.push (Value.ref s.heap.objs.size))) } := by
      rw [eL]
      exact I1.lset (its' := its ++ [Value.ref s.heap.objs.size]) eS1 e (by simp) (ri.append (.cons rfl .nil)) (by
        rw [List.length_append, List.length_map, lt]
        show i + 1 ≤ sizeLine
        omega)
    have low : ∀ b o, H b = some o → b ≠ s.heap.objs.size := fun b o q => ne_of_none q nT
    show wpAny _ A.in1 (updateSeq S (·.push (Value.ref s.heap.objs.size)) >>= _) _ _ _
    refine wpAny_bind ?_
    refine wpAny_updateSeq e rfl (wpAny_pure ⟨plainId_quiet PySem.F.plain_extend_loop _, ih (i + 1) _ _ (ts ++ [s.heap.objs.size]) (by omega) I2 (Z'.keep D up) (fun b hb => ?_) (fun b hb => Nat.lt_trans (lo b hb) (Heap.lt_size (up _ _ nST.symm pr))) (fun b o q => ?_) (by rw [List.length_append, lt]; rfl) upd_same (fun j t hj => ?_)⟩) (by simp; omega) (by simp; omega)
    · obtain ⟨f1, f2⟩ := hf b hb
      have nb : b ≠ s.heap.objs.size := Nat.ne_of_lt (lo b hb)
      have nbS : b ≠ S := by
        simp only [List.mem_cons, List.not_mem_nil, or_false] at hb
        rcases hb with rfl | rfl | rfl | rfl
        · exact D.sz.symm
        · exact D.sTO.symm
        · exact D.s1.symm
        · exact D.s2.symm
      exact ⟨by rw [upd_ne nbS, upd_ne nb]; exact f1, f2⟩
    · have := keep b o q
      rw [upd_ne (ne_of_none q nS), upd_ne (low _ _ this)]
      exact this
    · by_cases h1 : j < ts.length
      · rw [List.getElem?_append_left h1] at hj
        obtain ⟨x', y', e1, e2, e3⟩ := outs j t hj
        refine ⟨x', y', e1, e2, ?_⟩
        have ntS : t ≠ S := ne_of e3 eS (by intro z; cases z)
        rw [upd_ne ntS, upd_ne (low _ _ e3)]
        exact e3
      · have jl : j < (ts ++ [s.heap.objs.size]).length := (List.getElem?_eq_some_iff.mp hj).1
        rw [List.length_append] at jl
        have je : j = ts.length := by
          have : j < ts.length + 1 := jl
          omega
        subst je
        have : s.heap.objs.size = t := by simpa using hj
        subst this
        rw [lt]
        exact ⟨x, y, hx, hy, by rw [upd_ne nST.symm, upd_same]⟩
/-- list(zip(a, b)) -/
def tListZip (K : PySem.W.Frag) (ta : TA) : TE := fun σ H Q => ta σ H fun vs H1 => ∃ a b xs ys, vs = [.ref a, .ref b] ∧ SqL K H1 a xs ∧ SqL K H1 b ys ∧ xs.length = ys.length ∧
  ∀ (p : Addr) (H' : Hp) (ts : List Addr), Same H1 H' → H1 p = none → H' p = some (.lst (ts.map V.ref)) → ts.length = xs.length → Outs H' xs ys ts → Q (.ref p) H'
theorem pe_listZip {e1 e2 : Expr} {ta : TA} {p q pos pos' : Pos} (hc : X.calm = true) (hL : Gl X "list") (mL : X.mg "list" = none) (hZ : Gl X "zip") (mZ : X.mg "zip" = none) (ha : PA X [e1, e2] ta)
    (hs : starEach [e1, e2] X.env = (false, eval e1 X.env) :: starEach [e2] X.env := by rfl) (hpl : (backTo pos' (starEach [e2] X.env)).any (·.1) = false := by rfl)
    (hs2 : starEach [.Call (.Name "zip" q) [e1, e2] [] pos'] X.env = (false, eval (.Call (.Name "zip" q) [e1, e2] [] pos') X.env) :: starEach [] X.env := by rfl) :
    PE X (.Call (.Name "list" p) [.Call (.Name "zip" q) [e1, e2] [] pos'] [] pos) (tListZip X.K ta) := by
  refine ⟨fun pins s σ H Q I h => ?_⟩
  refine wpAny_Call_Name_kw (ld_blt I hL mL (show bootBuiltins ("list" : Str) = some (.type "list") by decide +kernel) ?_)
  refine PyProof.Rows.callWith_type1 ?_ hs2 rfl
  rw [hs2]
  refine Calls.spliced_cons ?_
  refine Call_ (ld_blt I hZ mZ PyProof.Rows.boot_zip (PyProof.Rows.callWith_type1 (thn (ha.run pos' pins s σ H _ I h) fun us s1 ⟨vs, H1, I1, r1, q1⟩ => ?_) hs hpl))
  obtain ⟨a, b, xs, ys, ex, hx, hy, le, qf⟩ := q1
  subst ex
  obtain ⟨u1, u2, rfl, e1', e2'⟩ := vals2 r1
  cases e1'
  cases e2'
  obtain ⟨its, rv, p1, z1⟩ := I1.list hx
  obtain ⟨its2, rv2, p2, z2⟩ := I1.list hy
  refine call_zip_2 p1.isList p2.isList fun h' hz hTI hTO h1 h2 hsz hk => ?_
  have I2 : Inv X pins σ H1 { s1 with heap := h' } := I1.kept (t' := s1.toks) hk
  refine Calls.spliced_nil ?_
  have lens : its.length = xs.length := rv.length.symm
  have l1lt := p1.lt
  have l2lt := p2.lt
  have f4 : ∀ b ∈ [s1.heap.objs.size + 4, s1.heap.objs.size + 3, s1.heap.objs.size, s1.heap.objs.size + 1], s1.heap.objs.size ≤ b ∧ b < h'.objs.size := fun b hb => by
    simp only [List.mem_cons, List.not_mem_nil, or_false] at hb
    rw [hsz]
    rcases hb with rfl | rfl | rfl | rfl
    · exact ⟨Nat.le_add_right _ _, Nat.add_lt_add_left (by decide) _⟩
    · exact ⟨Nat.le_add_right _ _, Nat.add_lt_add_left (by decide) _⟩
    · exact ⟨Nat.le_refl _, Nat.lt_add_of_pos_right (by decide)⟩
    · exact ⟨Nat.le_add_right _ _, Nat.add_lt_add_left (by decide) _⟩
  have ft : ∀ b ∈ [s1.heap.objs.size + 4, s1.heap.objs.size + 3, s1.heap.objs.size, s1.heap.objs.size + 1], FpOk X pins H1 b := fun b hb => I1.fpOk (f4 b hb).1 (I1.hok.fresh (f4 b hb).1)
  have nS : H1 h'.objs.size = none := I2.hok.fresh (Nat.le_refl _)
  have D0 := PySem.W.ktu_apart s1.heap.objs.size a b p1.lt p2.lt
  have D : Zap (s1.heap.objs.size + 4) (s1.heap.objs.size + 2) (s1.heap.objs.size + 3) s1.heap.objs.size (s1.heap.objs.size + 1) a b h'.objs.size := by
    have c : ∀ k, k < 5 → h'.objs.size ≠ s1.heap.objs.size + k := fun k hk => by rw [hsz]; exact Nat.ne_of_gt (Nat.add_lt_add_left hk _)
    exact { toZipApart := D0, sz := c 4 (by decide), sTI := c 2 (by decide), sTO := c 3 (by decide), s1 := c 0 (by decide), s2 := c 1 (by decide),
            sl1 := by rw [hsz]; exact Nat.ne_of_gt (Nat.lt_of_lt_of_le l1lt (Nat.le_add_right _ _)), sl2 := by rw [hsz]; exact Nat.ne_of_gt (Nat.lt_of_lt_of_le l2lt (Nat.le_add_right _ _)) }
  have L1 : h'.IsList a its.toArray := p1.isList.at fun o e => hk _ o e
  have L2' : h'.IsList b its2.toArray := p2.isList.at fun o e => hk _ o e
  have Z0 : Zst (s1.heap.objs.size + 4) (s1.heap.objs.size + 2) (s1.heap.objs.size + 3) s1.heap.objs.size (s1.heap.objs.size + 1) a b h'.objs.size its.toArray its2.toArray 0 h' := ⟨hTI, h1, h2, L1, L2', .inl ⟨hz, _, _, hTO⟩⟩
  refine callType_codes (s := { s1 with heap := h' }) (Q₁ := fun obj s₁ => obj = .ref h'.objs.size ∧ s₁ = { s1 with heap := h'.push { cls := .type "list", data := .seq #[] } }) PySem.F.called_list (PySem.F.typeCall_list_1 _) PySem.F.entry_list_init
    (code_list_new _ ⟨rfl, rfl⟩) fun obj s₁ g => ?_
  obtain ⟨rfl, rfl⟩ := g
  have eS : (h'.push { cls := .type "list", data := .seq #[] }).get? h'.objs.size = some { cls := .type "list", data := .seq #[] } := Heap.get?_push_size _ rfl
  refine ⟨⟨_, eS, rfl⟩, PySem.F.args_list_init_2 _ _, ?_⟩
  show wpAny _ _ (do let old ← Builtin.List.listItems (.ref h'.objs.size); Builtin.List.listUpdate (.ref h'.objs.size) (fun _ => #[]); letGo old.toList.reverse; Builtin.List.listExtendWith (.ref h'.objs.size) (.ref (s1.heap.objs.size + 4)) .none) _ _ _
  unfold Builtin.List.listItems
  refine wpAny_bind (wpAny_bind (wpAny_seqItems eS rfl (wpAny_pure ?_)))
  refine wpAny_bind (wpAny_updateSeq eS rfl ?_)
  have eS2 := Heap.get?_update_self (Obj.mapSeq (fun _ => (#[] : Array Value))) eS rfl
  have up : ∀ c o, c ≠ h'.objs.size → h'.get? c = some o → ((h'.push { cls := .type "list", data := .seq #[] }).update h'.objs.size (Obj.mapSeq (fun _ => (#[] : Array Value)))).get? c = some o :=
    fun c o hc e => (Heap.get?_update_other _ _ (Ne.symm hc)).trans (Heap.get?_push_of_some _ e)
  refine wpAny_bind (wpAny_letGo ?_)
  have hT : ({ s1 with heap := (h'.push { cls := .type "list", data := .seq #[] }).update h'.objs.size (Obj.mapSeq (fun _ => (#[] : Array Value))) } : Shared).TypeIs (.ref (s1.heap.objs.size + 4)) "zip" := ⟨_, up _ _ D.sz.symm hz, rfl⟩
  unfold Builtin.List.listExtendWith
  refine wpAny_bind (wpAny_typeOf hT ?_)
  have q1 : Builtin.List.listSameRef (.ref h'.objs.size) (.ref (s1.heap.objs.size + 4)) = false := by simp [Builtin.List.listSameRef, D.sz]
  have q2 : (Value.type "zip" == Value.type "list") = false := by decide
  have q3 : (Value.type "zip" == Value.type "tuple") = false := by decide
  simp only [q1, q2, q3, Bool.or_false, Bool.false_eq_true, if_false]
  refine wpAny_bind (wpAny_pyIter_zip (up _ _ D.sz.symm hz) ?_)
  refine wpAny_bind (wpAny_holding ?_)
  unfold Builtin.List.listLengthHint
  refine wpAny_bind (wpAny_specialOf hT zip_nolen ?_)
  refine wpAny_bind (wpAny_specialOf hT zip_nohint ?_)
  refine wpAny_pure ?_
  show wpAny _ _ (rule "list.extend.makes-room" >>= fun _ => Builtin.List.listTouch (.ref h'.objs.size) >>= fun _ =>
    again (.builtin "list.extend.loop" ⟨[.ref h'.objs.size, .ref (s1.heap.objs.size + 4), .none], []⟩)) _ _ _
  refine wpAny_bind (wpAny_rule ?_)
  refine wpAny_bind ?_
  show wpAny _ _ (updateSeq h'.objs.size (·.push .none) >>= fun _ => updateSeq h'.objs.size (·.pop)) _ _ _
  refine wpAny_bind (wpAny_updateSeq eS2 rfl ?_)
  have eS3 := Heap.get?_update_self (Obj.mapSeq (·.push Value.none)) eS2 rfl
  refine wpAny_updateSeq eS3 rfl ?_
  have eS4 := Heap.get?_update_self (Obj.mapSeq (·.pop)) eS3 rfl
  have up4 : ∀ c o, c ≠ h'.objs.size → h'.get? c = some o → ((((h'.push { cls := .type "list", data := .seq #[] }).update h'.objs.size (Obj.mapSeq (fun _ => (#[] : Array Value)))).update h'.objs.size (Obj.mapSeq (·.push Value.none))).update h'.objs.size (Obj.mapSeq (·.pop))).get? c = some o :=
    fun c o hc e => (Heap.get?_update_other _ _ (Ne.symm hc)).trans ((Heap.get?_update_other _ _ (Ne.symm hc)).trans (up c o hc e))
  generalize hh4 : (((h'.push { cls := .type "list", data := .seq #[] }).update h'.objs.size (Obj.mapSeq (fun _ => (#[] : Array Value)))).update h'.objs.size (Obj.mapSeq (·.push Value.none))).update h'.objs.size (Obj.mapSeq (·.pop)) = h4 at up4 eS4 ⊢
  have I3 : Inv X pins σ (upd H1 h'.objs.size (.lst ([] : List V))) { s1 with heap := h4 } := I2.laid (t' := s1.toks) (fun c o e => up4 c o (Nat.ne_of_lt (Heap.lt_size e)) e) (Nat.le_refl _) ⟨by show 0 ≤ sizeLine; decide, [], _, .nil, eS4⟩
  refine wpAny_pure ⟨plainId_quiet PySem.F.plain_extend_loop _, ?_⟩
  refine zip_gather (X := X) (pins := pins) (σ := σ) (A := X.A.in1) (H0 := H1) (I1.ok.hd hc) D rv rv2 le z1 .none nS (fun H' s' ts J old lt eT outs => ?_) xs.length 0 _ _ [] (Nat.zero_add _) I3 (Z0.keep D up4) (fun b hb => ?_) (fun b hb => ?_) (fun b o e => ?_) rfl upd_same (fun j t hj => by simp at hj)
  · exact ⟨rfl, V.ref h'.objs.size, H', J, rfl, qf _ H' ts old nS eT lt outs⟩
  · obtain ⟨f1, f2⟩ := ft b hb
    have nb : b ≠ h'.objs.size := Nat.ne_of_lt (f4 b hb).2
    exact ⟨by rw [upd_ne nb]; exact f1, f2⟩
  · exact Nat.lt_trans (f4 b hb).2 (Heap.lt_size eS4)
  · rw [upd_ne (ne_of_none e nS)]
    exact e
end
/-! ### _law_table -/
inductive PrsAt (H : Hp) : List V → Ld → Prop
  | nil : PrsAt H [] []
  | cons {a : Addr} {x y : Nat} {vs : List V} {L : Ld} : H a = some (.tup [vc x, vc y]) → PrsAt H vs L → PrsAt H (.ref a :: vs) ((x, y) :: L)
theorem PrsAt.keep {H H' : Hp} {vs : List V} {L : Ld} (h : PrsAt H vs L) (k : KeepT H H') : PrsAt H' vs L := by
  induction h with
  | nil => exact .nil
  | cons e _ ih => exact .cons (k _ _ e) ih
theorem PrsAt.snoc {H : Hp} {vs : List V} {L : Ld} (h : PrsAt H vs L) {a : Addr} {x y : Nat} (e : H a = some (.tup [vc x, vc y])) : PrsAt H (vs ++ [.ref a]) (L ++ [(x, y)]) := by
  induction h with
  | nil => exact .cons e .nil
  | cons e' _ ih => exact .cons e' ih
theorem PrsAt.length {H : Hp} {vs : List V} {L : Ld} (h : PrsAt H vs L) : vs.length = L.length := by
  induction h with
  | nil => rfl
  | cons _ _ ih => exact congrArg Nat.succ ih
theorem PrsAt.get {H : Hp} {vs : List V} {L : Ld} (h : PrsAt H vs L) : ∀ {i : Nat} {v : V}, vs[i]? = some v → ∃ a x y, v = .ref a ∧ L[i]? = some (x, y) ∧ H a = some (.tup [vc x, vc y]) := by
  induction h with
  | nil => intro i v h; simp at h
  | cons e _ ih =>
    intro i v h
    cases i with
    | zero => cases h; exact ⟨_, _, _, rfl, rfl, e⟩
    | succ i => exact ih h
theorem tor_of {ta tb : TT} {σ : L2.St} {H : Hp} {Q : Bool → Hp → Prop} {a b : Bool} (h1 : ∀ Q', Q' a H → ta σ H Q') (h2 : ∀ Q', Q' b H → tb σ H Q') (h : Q (a || b) H) : tOr ta tb σ H Q := by
  refine h1 _ ?_
  cases a with
  | true => exact iteT h
  | false => exact iteF (h2 _ h)
theorem keep_lst {H : Hp} {p : Addr} {xs : List V} (e : H p = some (.lst xs)) (ys : List V) : KeepT H (upd H p (.lst ys)) := fun b o h => by
  rw [upd_ne (ne_of h e (by intro z; cases z))]
  exact h
theorem LdOk.of {L : Ld} {xs : List Nat} (e : L.map (·.1) = xs) (nd : xs.Nodup) (lo : ∀ c ∈ xs, lowc c) (l2 : ∀ p ∈ L, lowc p.2) : LdOk L :=
  ⟨by rw [e]; exact nd, fun p hp => ⟨lo _ (by rw [← e]; exact List.mem_map.mpr ⟨p, hp, rfl⟩), l2 p hp⟩⟩
theorem ne_of_keys {L : Ld} {xs : List Nat} (e : L.map (·.1) = xs) (h : 1 ≤ xs.length) : L ≠ [] := fun z => by
  rw [← e, z] at h
  exact absurd h (by decide)
theorem outs_prs {H : Hp} : ∀ {ts : List Addr} {xs ys : List Nat}, ts.length = xs.length → xs.length = ys.length → Outs H (xs.map vc) (ys.map vc) ts → PrsAt H (ts.map V.ref) (xs.zip ys)
  | [], [], [], _, _, _ => .nil
  | t :: ts, x :: xs, y :: ys, h1, h2, o => by
    obtain ⟨x', y', e1, e2, e3⟩ := o 0 t rfl
    cases (show vc x = x' from Option.some.inj e1)
    cases (show vc y = y' from Option.some.inj e2)
    exact .cons e3 (outs_prs (Nat.succ.inj h1) (Nat.succ.inj h2) fun j t hj => o (j + 1) t hj)
  | [], _ :: _, _, h, _, _ => by cases h
  | _ :: _, [], _, h, _, _ => by cases h
  | _, [], _ :: _, _, h, _ => by cases h
  | _, _ :: _, [], _, h, _ => by cases h
def TabAt (H : Hp) (p : Addr) (L : Ld) : Prop := ∃ vs, H p = some (.lst vs) ∧ PrsAt H vs L
def spTable : Sp := fun vs H Q _ => ∃ (D : Deck) (n : Nat), vs = [.ref D.dk] ∧ DeckOk H D n ∧ n + 60 ≤ 1000000 ∧ ∀ (p : Addr) (L : Ld) (n' : Nat) (H' : Hp), DeckOk H' D n' → n' ≤ n + 60 → SameD D H H' → TabAt H' p L → L ≠ [] → LdOk L → Off D p → Q (.ref p) H'
def abcN : List Nat := (List.range 26).map (· + 97)
theorem abcN_is : ((Str.ofString "abcdefghijklmnopqrstuvwxyz").cps.toList.map fun c => V.str ⟨#[c]⟩) = abcN.map vc := by decide +kernel
theorem abcN_nd : abcN.Nodup := by decide +kernel
theorem abcN_low : ∀ c ∈ abcN, lowc c := fun c h => by
  obtain ⟨k, hk, rfl⟩ := List.mem_map.mp h
  have := List.mem_range.mp hk
  exact ⟨by omega, by omega⟩
theorem abcN_len : abcN.length = 26 := by decide +kernel
theorem erase_vc : ∀ (l : List Nat) (k : Nat), (l.map vc).eraseIdx k = (l.eraseIdx k).map vc
  | [], _ => rfl
  | _ :: _, 0 => rfl
  | a :: l, k + 1 => congrArg (vc a :: ·) (erase_vc l k)
theorem perm_ix : ∀ (l : List Nat) (k : Nat) (h : k < l.length), (l[k] :: l.eraseIdx k).Perm l
  | [], k, h => absurd h (Nat.not_lt_zero _)
  | a :: l, 0, _ => .refl _
  | a :: l, k + 1, h => (List.Perm.swap a (l[k]'(Nat.lt_of_succ_lt_succ h)) _).trans ((perm_ix l k (Nat.lt_of_succ_lt_succ h)).cons a)
theorem perm_pop {l : List Nat} {k : Nat} (h : k < l.length) (xs : List Nat) : ((xs ++ [l[k]]) ++ l.eraseIdx k).Perm (xs ++ l) := by
  rw [List.append_assoc]
  refine List.Perm.append_left xs ?_
  exact perm_ix l k h
section
variable {P : Program} {w : World} {K : PySem.W.Frag} {mg : Str → Option Value} {base : Heap} {f : Addr} {fd : FuncData}
theorem ok_table (F : Fun K "_law_table" "_law_table" s__law_table f fd) (M : Mgs mg) (D_law_draw : Df P w K mg base 1 "_law_draw" ["_law_state", "_law_below"] spDraw) : FnOk P w K mg base CX0 2 f fd ["_law_state"] spTable := by
  refine F.ok sc__law_table (fun vs H Q E h => ?_) (fun cdv A outer s H vs Q E hr h => ?_)
  · obtain ⟨D, n, rfl, _⟩ := h
    rfl
  obtain ⟨D, n, rfl, d, hn, q⟩ := h
  refine ⟨_, (pss_cons (ps_asg (pe_tup (pa_cons (pe_callTy (call_signs rfl) rfl M.list (by decide +kernel) (pa_cons pe_str pa_nil)) (pa_cons (pe_call D_law_draw.ok (hr.mono (by omega)) rfl D_law_draw.g D_law_draw.kp D_law_draw.b .nil pass0 (pa_cons (pv 0) (pa_cons pe_int pa_nil))) pa_nil))) (pg_tup rfl (pgs_cons (pg_name (i := 1) sc__law_table.nd rfl (.inr rfl)) (pgs_cons (pg_name (i := 2) sc__law_table.nd rfl (.inl rfl)) pgs_nil))))
    (pss_cons (ps_set (i := 3) sc__law_table.nd rfl (.inr rfl) (pe_callTy call_list_of rfl M.list (by decide +kernel) (pa_cons (pv 1) pa_nil)))
    (pss_cons (ps_setLc (i := 5) (own := [("_law_again", 4)]) (g := gName 4) (tt := tYes) (by rfl) sc__law_table.nd rfl rfl (sw_true rfl rfl rfl (by decide +kernel)) (pi_range1 rfl M.range (pa_cons (pe_op op_sub (pe_ix ix_list (pe_lst (pa_cons pe_int (pa_cons pe_int (pa_cons pe_int (pa_cons pe_int (pa_cons pe_int pa_nil)))))) (pv 2) (fun _ _ => rfl)) (pe_call D_law_draw.ok (hr.mono (by omega)) rfl D_law_draw.g D_law_draw.kp D_law_draw.b .nil pass0 (pa_cons (pv 0) (pa_cons pe_int pa_nil)))) pa_nil)) (blkOk_by (N := ["_law_state", "_law_letters_here", "_law_way", "_law_left", "_law_again", "_law_some", "_law_letter", "_law_shift"]) (sc := defScope s__law_table) (by decide +kernel)) (fun _ _ _ _ _ => (pg_name (i := 4) sc__law_table.nd rfl (.inl rfl))) (fun _ _ _ _ _ => pts_nil) (fun _ _ _ _ _ => (show PE _ _ (tBM K _ _ _ _) from pe_bm PySem.F.plainAttrs_list PySem.F.slot_list_pop PySem.F.type_list_pop mt_popAt (pv 3) (pa_cons (pe_call D_law_draw.ok (hr.mono (by omega)) rfl D_law_draw.g D_law_draw.kp D_law_draw.b .nil pass0 (pa_cons (pv 0) (pa_cons (pe_callB (show CallR _ (.builtin "len") (rLenSeq K) from call_len_seq) rfl M.len PySem.boot_len (pa_cons (pv 3) pa_nil)) pa_nil))) pa_nil))))
    (pss_cons (ps_if (PW.pt (pw_or (pt_cmpR op_eq (pv 2) pe_int (nomark _)) (pw_or1 (pt_cmpR op_eq (pv 2) pe_int (nomark _)))))
      (pss_one (ps_ret (pe_lc (own := [("_law_letter", 6)]) (g := gName 6) (tt := tYes) rfl sc__law_table.nd (pi_list (pv 5)) (blkOk_by (N := ["_law_state", "_law_letters_here", "_law_way", "_law_left", "_law_again", "_law_some", "_law_letter", "_law_shift"]) (sc := defScope s__law_table) (by decide +kernel)) (fun _ _ _ _ _ => (pg_name (i := 6) sc__law_table.nd rfl (.inl rfl))) (fun _ _ _ _ _ => pts_nil) (fun _ _ _ _ _ => (pe_tup (pa_cons (pv 6) (pa_cons (pe_ix (show IxR _ (rIxL K) from ix_list) (pv 1) (pe_call D_law_draw.ok (hr.mono (by omega)) rfl D_law_draw.g D_law_draw.kp D_law_draw.b .nil pass0 (pa_cons (pv 0) (pa_cons pe_int pa_nil))) (fun _ _ => rfl)) pa_nil))))))) pss_nil)
    (pss_cons (ps_if (pt_cmpR op_eq (pv 2) pe_int (nomark _))
      (pss_one (ps_ret (pe_lc (own := [("_law_letter", 6)]) (g := gName 6) (tt := tYes) rfl sc__law_table.nd (pi_list (pv 5)) (blkOk_by (N := ["_law_state", "_law_letters_here", "_law_way", "_law_left", "_law_again", "_law_some", "_law_letter", "_law_shift"]) (sc := defScope s__law_table) (by decide +kernel)) (fun _ _ _ _ _ => (pg_name (i := 6) sc__law_table.nd rfl (.inl rfl))) (fun _ _ _ _ _ => pts_nil) (fun _ _ _ _ _ => (pe_tup (pa_cons (pv 6) (pa_cons (pv 6) pa_nil))))))) pss_nil)
    (pss_cons (ps_set (i := 7) sc__law_table.nd rfl (.inl rfl) (pe_op op_add pe_int (pe_call D_law_draw.ok (hr.mono (by omega)) rfl D_law_draw.g D_law_draw.kp D_law_draw.b .nil pass0 (pa_cons (pv 0) (pa_cons (pe_callB call_len_seq rfl M.len PySem.boot_len (pa_cons (pv 5) pa_nil)) pa_nil)))))
    (pss_one (ps_ret (pe_listZip rfl rfl M.list rfl M.zip (pa_cons (pv 5) (pa_cons (pe_op op_cat (pe_slice sl_list (pv 5) (po_some (pv 7)) po_none) (pe_slice sl_list (pv 5) po_none (po_some (pv 7)))) pa_nil))))))))))), ?_⟩
  refine ⟨_, rfl, by decide +kernel, fun sa nsa => ?_⟩
  rw [abcN_is]
  have q1 := same_new nsa (.lst (abcN.map vc))
  have na := d.new nsa
  refine ⟨_, rfl, D, n, 5, rfl, d.same q1, by omega, by decide, by decide, fun wy H1 w0 w1 d1 s1 => ⟨(by show 2 ≤ sizeLine; decide), fun tp ntp => ⟨tp, _, rfl, SqT.of upd_same, rfl, _, _, rfl, _, _, rfl, rfl, ?_⟩⟩⟩
  have q2 := same_new ntp (.tup [.ref sa, .int wy])
  have d2 := d1.same q2
  have sd : SameD D H (upd H1 tp (.tup [.ref sa, .int wy])) := (SameD.of q1).trans (s1.trans (.of q2))
  have esa : (upd H1 tp (.tup [.ref sa, .int wy])) sa = some (.lst (abcN.map vc)) := q2 _ _ (s1.at na upd_same)
  generalize upd H1 tp (.tup [.ref sa, .int wy]) = H2 at d2 sd esa
  refine ⟨_, rfl, sa, _, rfl, .inl (SqL.of esa), fun sb nsb => ?_⟩
  have q3 := same_new nsb (.lst (abcN.map vc))
  have nb := d2.new nsb
  have d3 := d2.same q3
  have sd3 := sd.trans (SameD.of q3)
  have esa3 := q3 _ _ esa
  have esb3 : upd H2 sb (.lst (abcN.map vc)) sb = some (.lst (abcN.map vc)) := upd_same
  have nab : sa ≠ sb := ne_of_none esa nsb
  generalize upd H2 sb (.lst (abcN.map vc)) = H3 at d3 sd3 esa3 esb3 ⊢
  refine ⟨(by show 5 ≤ sizeLine; decide), fun l nl => ?_⟩
  have q4 := same_new nl (.lst [.int 3, .int 26, .int 12, .int 6, .int 2])
  obtain ⟨b, hb, b0, b1⟩ : ∃ b : Int, atI [V.int 3, V.int 26, V.int 12, V.int 6, V.int 2] wy = some (.int b) ∧ 2 ≤ b ∧ b ≤ 26 := by
    have : wy = 0 ∨ wy = 1 ∨ wy = 2 ∨ wy = 3 ∨ wy = 4 := by omega
    rcases this with rfl | rfl | rfl | rfl | rfl
    · exact ⟨3, rfl, by decide, by decide⟩
    · exact ⟨26, rfl, by decide, by decide⟩
    · exact ⟨12, rfl, by decide, by decide⟩
    · exact ⟨6, rfl, by decide, by decide⟩
    · exact ⟨2, rfl, by decide, by decide⟩
  refine ⟨_, rfl, l, _, _, _, rfl, rfl, SqL.of upd_same, hb, ?_⟩
  refine ⟨_, rfl, D, n + 1, 2, rfl, d3.same q4, by omega, by decide, by decide, fun j H4 j0 j1 d4 s4 => ?_⟩
  have nl' := d3.new nl
  have esa4 := s4.at na (q4 _ _ esa3)
  have esb4 := s4.at nb (q4 _ _ esb3)
  have sd4 := sd3.trans ((SameD.of q4).trans s4)
  obtain ⟨m, hm⟩ : ∃ m : Nat, b - j = (m : Int) := ⟨(b - j).toNat, by omega⟩
  have m1 : 1 ≤ m := by omega
  have m26 : m ≤ 26 := by omega
  refine ⟨_, _, rfl, rfl, ?_⟩
  refine ⟨_, rfl, by omega, by omega, ?_⟩
  rw [hm, Int.toNat_natCast]
  intro fa nfa
  have nf := d4.new nfa
  have nsf : sa ≠ fa := ne_of_none esa4 nfa
  have nbf : sb ≠ fa := ne_of_none esb4 nfa
  have nfH : H fa = none := sd4.free d4 nfa
  have nbH : H sb = none := sd.free d2 nsb
  have kf := same_new nfa (.lst [])
  refine lc_range (lo := 0) (n := m) (fun i H' => ∃ (n' : Nat) (xs rest : List Nat), DeckOk H' D n' ∧ n' ≤ n + 2 + i ∧ SameD D H H' ∧ xs.length = i ∧ (xs ++ rest).Perm abcN ∧ H' fa = some (.lst (xs.map vc)) ∧ H' sb = some (.lst (rest.map vc)) ∧ H' sa = some (.lst (abcN.map vc)))
    ⟨n + 2, [], abcN, d4.same kf, by omega, sd4.trans (.of kf), rfl, .refl _, upd_same, kf _ _ esb4, kf _ _ esa4⟩ (fun i H' hi hp => ?_) (fun H' hp => ?_)
  · obtain ⟨n', xs, rest, d', hn', s', hmi, pm, ef, es, ea⟩ := hp
    have h26 : xs.length + rest.length = 26 := by rw [← List.length_append, pm.length_eq, abcN_len]
    refine ⟨rfl, kept ?_⟩
    refine ⟨.ref sb, rfl, .inl ⟨rfl, _, SqL.of es⟩, _, rfl, _, rfl, sb, _, rfl, .inl (SqL.of es), D, n', _, rfl, d', by omega, ?_, ?_, fun j H4 j0 j1 d4 s4 => ?_⟩
    · rw [List.length_map]; omega
    · rw [List.length_map]; omega
    rw [List.length_map] at j1
    have hj : j.toNat < rest.length := by omega
    have es4 := s4.at nb es
    have ef4 := s4.at nf ef
    have ea4 := s4.at na ea
    refine ⟨sb, _, j, j.toNat, vc rest[j.toNat], rfl, rfl, es4, by omega, by omega, ?_, ?_, ?_⟩
    · exact (ixN_seq (ixN_nat j0 (by rw [List.length_map]; omega))).1
    · rw [List.getElem?_map, List.getElem?_eq_getElem hj]; rfl
    have ef5 : (upd H4 sb (.lst ((rest.map vc).eraseIdx j.toNat))) fa = some (.lst (xs.map vc)) := by rw [upd_ne nbf.symm]; exact ef4
    refine ⟨_, ef5, by rw [List.length_map]; exact small1000 (by omega), n' + 1, xs ++ [rest[j.toNat]], rest.eraseIdx j.toNat, (d4.put nb _).put nf _, by omega, ((s'.trans s4).put nbH _).put nfH _, by rw [List.length_append, hmi]; rfl, (perm_pop hj xs).trans pm, by rw [upd_same, List.map_append]; rfl, by rw [upd_ne nbf, upd_same, erase_vc], by rw [upd_ne nsf, upd_ne nab]; exact ea4⟩
  obtain ⟨n', xs, rest, d', hn', s', hmi, pm, ef, es, ea⟩ := hp
  have xnd : xs.Nodup := (List.nodup_append.mp (pm.nodup_iff.mpr abcN_nd)).1
  have xlo : ∀ c ∈ xs, lowc c := fun c hc => abcN_low c (pm.mem_iff.mp (List.mem_append_left _ hc))
  have lm : 1 ≤ xs.length := by omega
  show tOr (tTest (tOp rEq (tVar 2) (tC (V.int 0)))) (tTest (tOp rEq (tVar 2) (tC (V.int 2)))) _ _ _
  refine tor_of (a := decide (V.int wy = V.int 0)) (b := decide (V.int wy = V.int 2)) (fun Q' q => ⟨_, rfl, rfl, _, rfl, q⟩) (fun Q' q => ⟨_, rfl, rfl, _, rfl, q⟩) ?_
  refine ite2 (fun _ => ?_) (fun _ => ?_)
  · refine ⟨_, rfl, fa, rfl, ⟨_, SqL.of ef⟩, fun LL nL => ?_⟩
    have kl := same_new nL (.lst [])
    have nl2 := d'.new nL
    have nlH : H LL = none := s'.free d' nL
    have naL : sa ≠ LL := ne_of_none ea nL
    have nfL : fa ≠ LL := ne_of_none ef nL
    refine lc_it (walk_list (K := K) (a := fa) (xs := xs.map vc)) (fun i H' => ∃ (n' : Nat) (vs : List V) (L' : Ld), DeckOk H' D n' ∧ n' ≤ n + 28 + i ∧ SameD D H H' ∧ H' fa = some (.lst (xs.map vc)) ∧ H' sa = some (.lst (abcN.map vc)) ∧ L'.map (·.1) = xs.take i ∧ (∀ p ∈ L', lowc p.2) ∧ H' LL = some (.lst vs) ∧ PrsAt H' vs L')
      ⟨n', [], [], d'.same kl, by omega, s'.trans (.of kl), kl _ _ ef, kl _ _ ea, rfl, (fun _ h => nomatch h), upd_same, .nil⟩ (fun i H' _ hp => by obtain ⟨_, _, _, _, _, _, e, _⟩ := hp; exact SqL.of e) (fun i y H' H'' hi hp hy => ?_) (fun H' hp => ?_)
    · obtain ⟨e1, hy⟩ := hy
      subst e1
      rw [List.getElem?_map] at hy
      obtain ⟨c, hc, rfl⟩ := Option.map_eq_some_iff.mp hy
      rw [List.length_map] at hi
      obtain ⟨n2, vs, L', d2, hn2, s2, ef2, ea2, ek, el, eL, pr⟩ := hp
      refine ⟨rfl, kept ?_⟩
      refine ⟨_, rfl, _, rfl, _, rfl, D, n2, 26, rfl, d2, by omega, by decide, by decide, fun j H4 j0 j1 d4 s4 => ?_⟩
      have jl : j.toNat < abcN.length := by rw [abcN_len]; omega
      obtain ⟨x, ja, la⟩ : ∃ x, atI (abcN.map vc) j = some (vc x) ∧ lowc x := ⟨abcN.getD j.toNat 0, by have := at_vc (w := abcN) jl; rw [Int.toNat_of_nonneg j0] at this; exact this, abcN_low _ (getD_mem jl)⟩
      refine ⟨sa, _, j, _, rfl, rfl, SqL.of (s4.at na ea2), ja, (by show 2 ≤ sizeLine; decide), fun T nT => ?_⟩
      have kT := same_new nT (.tup [vc c, vc x])
      have eL4 := kT _ _ (s4.at nl2 eL)
      have ntL : T ≠ LL := fun z => by rw [z, s4.at nl2 eL] at nT; cases nT
      refine ⟨vs, eL4, ?_, n2 + 1, vs ++ [.ref T], L' ++ [(c, x)], (d4.same kT).put nl2 _, by omega, ((s2.trans s4).trans (.of kT)).put nlH _, by rw [upd_ne nfL]; exact kT _ _ (s4.at nf ef2), by rw [upd_ne naL]; exact kT _ _ (s4.at na ea2), ?_, fun p hp => ?_, upd_same, ?_⟩
      · rw [pr.length, show L'.length = i by rw [← List.length_map (f := (·.1)), ek, List.length_take]; omega]
        have : sizeLine = 16777216 := rfl
        omega
      · rw [List.map_append, ek, List.take_add_one, hc]
        rfl
      · rcases List.mem_append.mp hp with h | h
        · exact el p h
        · rw [List.mem_singleton.mp h]; exact la
      · have p4 := (pr.keep (s4.keepT d2)).keep (fun b o h => kT b _ h)
        exact (p4.keep (keep_lst eL4 _)).snoc (by rw [upd_ne ntL, upd_same])
    · obtain ⟨n2, vs, L', d2, hn2, s2, ef2, ea2, ek, el, eL, pr⟩ := hp
      rw [List.length_map] at ek hn2
      rw [List.take_length] at ek
      exact q LL L' n2 H' d2 (by omega) s2 ⟨vs, eL, pr⟩ (ne_of_keys ek lm) (.of ek xnd xlo el) nl2
  refine ⟨_, rfl, rfl, _, rfl, ite2 (fun _ => ?_) (fun _ => ?_)⟩
  · refine ⟨_, rfl, fa, rfl, ⟨_, SqL.of ef⟩, fun LL nL => ?_⟩
    have kl := same_new nL (.lst [])
    have nl2 := d'.new nL
    have nlH : H LL = none := s'.free d' nL
    have nfL : fa ≠ LL := ne_of_none ef nL
    refine lc_it (walk_list (K := K) (a := fa) (xs := xs.map vc)) (fun i H' => ∃ (vs : List V) (L' : Ld), DeckOk H' D n' ∧ SameD D H H' ∧ H' fa = some (.lst (xs.map vc)) ∧ L'.map (·.1) = xs.take i ∧ (∀ p ∈ L', lowc p.2) ∧ H' LL = some (.lst vs) ∧ PrsAt H' vs L')
      ⟨[], [], d'.same kl, s'.trans (.of kl), kl _ _ ef, rfl, (fun _ h => nomatch h), upd_same, .nil⟩ (fun i H' _ hp => by obtain ⟨_, _, _, _, e, _⟩ := hp; exact SqL.of e) (fun i y H' H'' hi hp hy => ?_) (fun H' hp => ?_)
    · obtain ⟨e1, hy⟩ := hy
      subst e1
      rw [List.getElem?_map] at hy
      obtain ⟨c, hc, rfl⟩ := Option.map_eq_some_iff.mp hy
      rw [List.length_map] at hi
      obtain ⟨vs, L', d2, s2, ef2, ek, el, eL, pr⟩ := hp
      refine ⟨rfl, kept ?_⟩
      refine ⟨_, rfl, _, rfl, (by show 2 ≤ sizeLine; decide), fun T nT => ?_⟩
      have kT := same_new nT (.tup [vc c, vc c])
      have eL4 := kT _ _ eL
      have ntL : T ≠ LL := fun z => by rw [z, eL] at nT; cases nT
      refine ⟨vs, eL4, ?_, vs ++ [.ref T], L' ++ [(c, c)], (d2.same kT).put nl2 _, (s2.trans (.of kT)).put nlH _, by rw [upd_ne nfL]; exact kT _ _ ef2, ?_, fun p hp => ?_, upd_same, ?_⟩
      · rw [pr.length, show L'.length = i by rw [← List.length_map (f := (·.1)), ek, List.length_take]; omega]
        have : sizeLine = 16777216 := rfl
        omega
      · rw [List.map_append, ek, List.take_add_one, hc]
        rfl
      · rcases List.mem_append.mp hp with h | h
        · exact el p h
        · rw [List.mem_singleton.mp h]; exact xlo _ (List.mem_of_getElem? hc)
      · exact ((pr.keep (fun b o h => kT b _ h)).keep (keep_lst eL4 _)).snoc (by rw [upd_ne ntL, upd_same])
    · obtain ⟨vs, L', d2, s2, ef2, ek, el, eL, pr⟩ := hp
      rw [List.length_map, List.take_length] at ek
      exact q LL L' n' H' d2 (by omega) s2 ⟨vs, eL, pr⟩ (ne_of_keys ek lm) (.of ek xnd xlo el) nl2
  refine ⟨_, rfl, _, rfl, fa, _, rfl, .inl (SqL.of ef), D, n', _, rfl, d', by omega, ?_, ?_, fun j H4 j0 j1 d4 s4 => ?_⟩
  · rw [List.length_map]; omega
  · rw [List.length_map]; omega
  rw [List.length_map] at j1
  refine ⟨_, _, rfl, rfl, ?_⟩
  obtain ⟨k, hk⟩ : ∃ k : Nat, 1 + j = (k : Int) := ⟨(1 + j).toNat, by omega⟩
  have kx : k ≤ xs.length := by omega
  show gName 7 (V.int (1 + j)) _ _ _
  rw [hk]
  have ef4 := s4.at nf ef
  refine ⟨_, rfl, _, rfl, _, rfl, _, rfl, fa, _, rfl, SqL.of ef4, fun p1 np1 => ?_⟩
  rw [cut_from, ← List.map_drop]
  have k1 := same_new np1 (.lst ((xs.drop k).map vc))
  have e1 : upd H4 p1 (.lst ((xs.drop k).map vc)) p1 = some (.lst ((xs.drop k).map vc)) := upd_same
  have ef5 := k1 _ _ ef4
  have d5 := d4.same k1
  have s5 := (s'.trans s4).trans (SameD.of k1)
  generalize upd H4 p1 (.lst ((xs.drop k).map vc)) = H5 at e1 ef5 d5 s5 ⊢
  refine ⟨_, rfl, _, rfl, _, rfl, fa, _, rfl, SqL.of ef5, fun p2 np2 => ?_⟩
  rw [cut_to, ← List.map_take]
  have k2 := same_new np2 (.lst ((xs.take k).map vc))
  have e2 : upd H5 p2 (.lst ((xs.take k).map vc)) p2 = some (.lst ((xs.take k).map vc)) := upd_same
  have ef6 := k2 _ _ ef5
  have e16 := k2 _ _ e1
  have d6 := d5.same k2
  have s6 := s5.trans (SameD.of k2)
  generalize upd H5 p2 (.lst ((xs.take k).map vc)) = H6 at e2 e16 ef6 d6 s6 ⊢
  refine ⟨p1, p2, _, _, rfl, rfl, e16, e2, ?_, fun p3 np3 => ?_⟩
  · rw [List.length_map, List.length_map, List.length_drop, List.length_take]
    have : sizeLine = 16777216 := rfl
    omega
  rw [← List.map_append]
  have k3 := same_new np3 (.lst ((xs.drop k ++ xs.take k).map vc))
  have l2 : xs.length = (xs.drop k ++ xs.take k).length := by
    rw [List.length_append, List.length_drop, List.length_take]
    omega
  refine ⟨fa, p3, _, _, rfl, SqL.of (k3 _ _ ef6), SqL.of upd_same, by rw [List.length_map, List.length_map]; exact l2, fun p H' ts k4 nP eP lt outs => ?_⟩
  rw [List.length_map] at lt
  have d7 := (d6.same k3)
  have key : (xs.zip (xs.drop k ++ xs.take k)).map (·.1) = xs := List.map_fst_zip (Nat.le_of_eq l2)
  refine q p _ (n' + 1) H' (d7.same k4) (by omega) ((s6.trans (.of k3)).trans (.of k4)) ⟨_, eP, outs_prs lt l2 outs⟩ (ne_of_keys key lm) (.of key xnd xlo fun z hz => ?_) (d7.new nP)
  have := (List.of_mem_zip (a := z.1) (b := z.2) hz).2
  rcases List.mem_append.mp this with h | h
  · exact xlo _ (List.mem_of_mem_drop h)
  · exact xlo _ (List.mem_of_mem_take h)
end
/-! ### operators of a class of one's own -/
theorem fill_back {X : Cx} {pins : List (Addr × Obj)} {σ : L2.St} {Q : VK} {v : Value} {s' : Shared} (z : EP X pins σ (fun x H => (∀ i, x ≠ .bl i → True) ∧ Q x H) v s') : EP X pins σ Q v s' := by
  obtain ⟨x, H, I, r, _, q⟩ := z
  exact ⟨x, H, I, r, q⟩
/-- a def of the class called with instances and values: what a special method gives -/
theorem run_own {X : Cx} {CX : CXT} {pins : List (Addr × Obj)} {σ : L2.St} {H : Hp} {s : Shared} {Q : VK} {E : XK} {g : Addr} {n : Nat} {sp : Sp} {us : List Value} {vs : List V} (F : FnR X.prog X.w X.K X.mg X.base CX n g sp) (hr : Room n X.A) (hx : Passes CX X E) (I : Inv X pins σ H s) (r : Vals vs us) (h : sp vs H Q E) :
    wpAny (model X.prog X.w) X.A (call (.ref g) us) (EP X pins σ Q) X.xe s := wpAny_call (run_fnR F hr hx I r h)
/-- a + b of two instances of C -/
def rAddOwn (C : Addr) (sp : Sp) (E : XK) : R2 := fun x y H Q => ∃ a b dx dy fs gs, x = .ref a ∧ y = .ref b ∧ H a = some (.ins C dx fs) ∧ H b = some (.ins C dy gs) ∧ sp [.ref a, .ref b] H (fun v H' => (∃ c, v = .ref c) ∧ Q v H') E
theorem op_addOwn {X : Cx} {CX : CXT} {C g : Addr} {n : Nat} {sp : Sp} {E : XK} (hc : PySem.W.selfFirst X.K C = true) (hs : PySem.W.findIn X.K (.ref C) "__add__" = some (some (.ref g))) (hf : PySem.W.isFn X.K (.ref g) = true) (F : FnR X.prog X.w X.K X.mg X.base CX n g sp) (hr : Room n X.A) (hx : Passes CX X E) :
    OpR X (binaryOp .Add) (rAddOwn C sp E) := by
  intro pins s σ H x y v u Q I rx ry h
  obtain ⟨a, b, dx, dy, fs, gs, rfl, rfl, ea, eb, q⟩ := h
  cases (show v = Value.ref a from rx)
  cases (show u = Value.ref b from ry)
  obtain ⟨mA, O, _⟩ := ins_get I.hok ea
  obtain ⟨mB, O', _⟩ := ins_get I.hok eb
  obtain ⟨od, J, _⟩ := O.look
  obtain ⟨od', J', _⟩ := O'.look
  obtain ⟨m, hF⟩ := I.fr
  refine PySem.W.binop_K (op := .Add) hF I.ok.mod.kin J J'.type hc hs hf (wpAny_mono (run_own (us := [.ref a, .ref b]) (vs := [.ref a, .ref b]) F hr hx I (.cons rfl (.cons rfl .nil)) q) (fun v s' z => ?_) fun _ _ x => x)
  obtain ⟨x, H', I', r, ⟨c, ec⟩, q'⟩ := z
  subst ec
  cases (show v = Value.ref c from r)
  exact ⟨.ref c, H', I', rfl, q'⟩
/-- -a -/
def rNegOwn (C : Addr) (sp : Sp) (E : XK) : V → Hp → VK → Prop := fun x H Q => ∃ a dx fs, x = .ref a ∧ H a = some (.ins C dx fs) ∧ sp [.ref a] H Q E
theorem un_negOwn {X : Cx} {CX : CXT} {C g : Addr} {n : Nat} {sp : Sp} {E : XK} (hs : PySem.W.findIn X.K (.ref C) "__neg__" = some (some (.ref g))) (hf : PySem.W.isFn X.K (.ref g) = true) (F : FnR X.prog X.w X.K X.mg X.base CX n g sp) (hr : Room n X.A) (hx : Passes CX X E) :
    UnR X (unaryOp .USub) (rNegOwn C sp E) := by
  intro pins s σ H x v Q I rx h
  obtain ⟨a, dx, fs, rfl, ea, q⟩ := h
  cases (show v = Value.ref a from rx)
  obtain ⟨mA, O, _⟩ := ins_get I.hok ea
  obtain ⟨od, J, _⟩ := O.look
  obtain ⟨m, hF⟩ := I.fr
  exact PySem.W.ksp_neg hF I.ok.mod.kin J hs hf (run_own (us := [.ref a]) (vs := [.ref a]) F hr hx I (.cons rfl .nil) q)
/-- v in a -/
def rInOwn (C : Addr) (sp : Sp) (E : XK) : R2 := fun x y H Q => ∃ a dx fs, y = .ref a ∧ H a = some (.ins C dx fs) ∧ sp [.ref a, x] H (fun v H' => ∃ k, v = .bl k ∧ Q (.bl k) H') E
theorem op_inOwn {X : Cx} {CX : CXT} {C g : Addr} {n : Nat} {sp : Sp} {E : XK} (hs : PySem.W.findIn X.K (.ref C) "__contains__" = some (some (.ref g))) (hf : PySem.W.isFn X.K (.ref g) = true) (F : FnR X.prog X.w X.K X.mg X.base CX n g sp) (hr : Room n X.A) (hx : Passes CX X E) :
    OpR X (compareOp .In) (rInOwn C sp E) := by
  intro pins s σ H x y v u Q I rx ry h
  obtain ⟨a, dx, fs, rfl, ea, q⟩ := h
  cases (show u = Value.ref a from ry)
  obtain ⟨mA, O, _⟩ := ins_get I.hok ea
  obtain ⟨od, J, _⟩ := O.look
  obtain ⟨m, hF⟩ := I.fr
  refine PySem.W.in_K hF I.ok.mod.kin J hs hf (wpAny_mono (run_own (us := [.ref a, v]) (vs := [.ref a, x]) F hr hx I (.cons rfl (.cons rx .nil)) q) (fun w s' z => ?_) fun _ _ x => x)
  obtain ⟨x', H', I', r, k, ek, q'⟩ := z
  subst ek
  cases (show w = Value.bool k from r)
  exact wpAny_truthy_bool ⟨.bl k, H', I', rfl, q'⟩
/-- an instance as a test, by its own __bool__ -/
def tBOwn (C : Addr) (sp : Sp) (E : XK) (t : TE) : TT := fun σ H Q => t σ H fun x H1 => ∃ a dx fs, x = .ref a ∧ H1 a = some (.ins C dx fs) ∧ sp [.ref a] H1 (fun v H' => ∃ k, v = .bl k ∧ Q k H') E
theorem pt_own {X : Cx} {CX : CXT} {C g : Addr} {n : Nat} {sp : Sp} {E : XK} {e : Expr} {t : TE} (h : PE X e t) (hs : PySem.W.findIn X.K (.ref C) "__bool__" = some (some (.ref g))) (hf : PySem.W.isFn X.K (.ref g) = true) (F : FnR X.prog X.w X.K X.mg X.base CX n g sp) (hr : Room n X.A) (hx : Passes CX X E)
    (he : ∀ whole, isTrue e X.env whole = (do let v ← whole; standAt e.pos; holding [v] (truthy v)) := by intro _; rfl) : PT X e (tBOwn C sp E t) := by
  refine ⟨fun pins s σ H Q I hw => ?_⟩
  refine isTrue_plain (thn (h.run pins s σ H _ I hw) fun v s1 ⟨x, H1, I1, r1, q1⟩ => ?_) (he _)
  obtain ⟨a, dx, fs, rfl, ea, q⟩ := q1
  cases (show v = Value.ref a from r1)
  obtain ⟨mA, O, _⟩ := ins_get I1.hok ea
  obtain ⟨od, J, _⟩ := O.look
  obtain ⟨m, hF⟩ := I1.fr
  refine PySem.W.truthy_K hF I1.ok.mod.kin J hs hf (wpAny_mono (run_own (us := [.ref a]) (vs := [.ref a]) F hr hx I1 (.cons rfl .nil) q) (fun w s' z => ?_) fun _ _ x => x)
  obtain ⟨x', H', I', r, k, ek, q'⟩ := z
  subst ek
  cases (show w = Value.bool k from r)
  exact ⟨H', I', q'⟩
/-- len(a) -/
def rLenOwn (C : Addr) (sp : Sp) : List V → Hp → VK → Prop := fun xs H Q => ∃ a dx fs, xs = [.ref a] ∧ H a = some (.ins C dx fs) ∧ sp [.ref a] H (fun z H' => ∃ n : Int, z = .int n ∧ 0 ≤ n ∧ n < 2 ^ 63 ∧ Q z H') E0
theorem call_lenOwn {X : Cx} {C g : Addr} {n : Nat} {sp : Sp} (hs : PySem.W.findIn X.K (.ref C) "__len__" = some (some (.ref g))) (hf : PySem.W.isFn X.K (.ref g) = true) (F : FnR X.prog X.w X.K X.mg X.base CX0 n g sp) (hr : Room (n + 1) X.A) : CallR X (.builtin "len") (rLenOwn C sp) := by
  intro pins s σ H xs us Q I r h
  obtain ⟨a, dx, fs, rfl, ea, q⟩ := h
  obtain ⟨u, rfl, ru⟩ := r.one
  cases (show u = Value.ref a from ru)
  obtain ⟨mA, O, _⟩ := ins_get I.hok ea
  obtain ⟨od, J, _⟩ := O.look
  obtain ⟨m, hF⟩ := I.fr
  refine PySem.W.len_K hF I.ok.mod.kin J hs hf (wpAny_mono (wpAny_call (SlX.run_at (us := [.ref a]) (ws := [.ref a]) F hr.in1 I.env0.in1 pass0 I (.cons rfl .nil) q)) (fun v s' z => ?_) fun _ _ x => x)
  obtain ⟨z', H', I', rz, k, en, h0, h1, qz⟩ := z
  subst en
  obtain ⟨t, e⟩ := (show ∃ t, v = Value.int k t from rz)
  cases e
  exact ⟨⟨h0, h1⟩, .int k, H', I'.tok _, ⟨_, rfl⟩, qz⟩
/-- a == b of two instances of C -/
def rEqOwn (C : Addr) (sp : Sp) (E : XK) : R2 := fun x y H Q => ∃ a b dx dy fs gs, x = .ref a ∧ y = .ref b ∧ H a = some (.ins C dx fs) ∧ H b = some (.ins C dy gs) ∧ sp [.ref a, .ref b] H (fun v H' => ∃ k, v = .bl k ∧ Q (.bl k) H') E
theorem op_eqOwn {X : Cx} {CX : CXT} {C g : Addr} {n : Nat} {sp : Sp} {E : XK} (hu : X.A.units < cLine) (hs : PySem.W.findIn X.K (.ref C) "__eq__" = some (some (.ref g))) (hf : PySem.W.isFn X.K (.ref g) = true) (F : FnR X.prog X.w X.K X.mg X.base CX n g sp) (hr : Room n X.A) (hx : Passes CX X E) :
    OpR X (compareOp .Eq) (rEqOwn C sp E) := by
  intro pins s σ H x y v u Q I rx ry h
  obtain ⟨a, b, dx, dy, fs, gs, rfl, rfl, ea, eb, q⟩ := h
  cases (show v = Value.ref a from rx)
  cases (show u = Value.ref b from ry)
  obtain ⟨mA, O, _⟩ := ins_get I.hok ea
  obtain ⟨mB, O', _⟩ := ins_get I.hok eb
  obtain ⟨od, J, _⟩ := O.look
  obtain ⟨od', J', _⟩ := O'.look
  obtain ⟨m, hF⟩ := I.fr
  refine PySem.W.cmp_K (op := .Eq) (tb := .ref C) hu hF I.ok.mod.kin J J'.type (by simp [PySem.W.notFirst]) hs hf (wpAny_mono (run_own (us := [.ref a, .ref b]) (vs := [.ref a, .ref b]) F hr hx I (.cons rfl (.cons rfl .nil)) q) (fun v s' z => ?_) fun _ _ x => x)
  obtain ⟨x, H', I', r, k, ec, q'⟩ := z
  subst ec
  cases (show v = Value.bool k from r)
  exact ⟨.bl k, H', I', rfl, q'⟩
/-! ### == of dicts of flat values, told either way; bool(dict) -/
def eqB (ks ls : List (Key × V)) : Bool := decide (ks.length = ls.length) && ks.all fun p => match valV ls p.1 with | none => false | some v => eqV p.2 v
theorem hits_tell {A : Around} {s : Shared} {ls : List (Key × V)} {vb : List (Key × Value)} (rb : KV ls vb) (fl : ∀ p ∈ ls, flatV p.2 = true) {ks : List (Key × V)} {va : List (Key × Value)} (ra : KV ks va) :
    (∀ p ∈ ks, flatV p.2 = true) → PySem.W.KeqHits A s vb va (ks.all fun p => match valV ls p.1 with | none => false | some v => eqV p.2 v) := by
  unfold KV at ra
  induction ra with
  | nil => intro _; exact .nil
  | @cons p q ps qs h t ih =>
    intro hp
    obtain ⟨h1, h2⟩ := h
    have ih := ih fun p' hm => hp p' (List.mem_cons_of_mem _ hm)
    have rr : RelO (valV ls p.1) (valueAt vb p.1) := rb.val p.1
    obtain ⟨k, v⟩ := q
    have h1' : p.1 = k := h1
    rw [List.all_cons]
    cases hv : valV ls p.1 with
    | none =>
      rw [hv] at rr
      have := RelO.none_of rr
      rw [h1'] at this
      simp only [Bool.false_and]
      exact .miss this
    | some x =>
      rw [hv] at rr
      obtain ⟨y, hy, ry⟩ := rr.some_of
      rw [h1'] at hy
      have fx : flatV x = true := by
        unfold valV at hv
        obtain ⟨z, hz, ez⟩ := Option.map_eq_some_iff.mp hv
        have := List.mem_of_find?_eq_some hz
        rw [← ez]
        exact fl _ this
      exact .hit hy (eqAt_V h2 ry (hp p List.mem_cons_self) fx) ih
theorem op_eqDictB {X : Cx} (hu : X.A.units < cLine) : OpR X (compareOp .Eq) (fun x y H Q => ∃ a b ks ls, x = .ref a ∧ y = .ref b ∧ H a = some (.dK ks) ∧ H b = some (.dK ls) ∧ (∀ p ∈ ks, flatV p.2 = true) ∧ (∀ p ∈ ls, flatV p.2 = true) ∧ Q (.bl (eqB ks ls)) H) := by
  intro pins s σ H x y v u Q I rx ry h
  obtain ⟨a, b, ks, ls, rfl, rfl, ea, eb, f1, f2, q⟩ := h
  obtain rfl : v = Value.ref a := rx
  obtain rfl : u = Value.ref b := ry
  obtain ⟨_, ya, va, ra, da⟩ := (show ObjOk X.prog X.w H s.heap a (.dK ks) from I.hok a _ ea)
  obtain ⟨_, yb, vb, rb, db⟩ := (show ObjOk X.prog X.w H s.heap b (.dK ls) from I.hok b _ eb)
  refine PySem.W.keq_eq (knd := mixKind X.prog X.w) ya yb da db hu (fun _ => hits_tell rb f2 ra f1) (fin_bl I q ?_)
  unfold eqB
  rw [ra.length, rb.length]
  by_cases h : va.length = vb.length
  · rw [decide_eq_true h, beq_iff_eq.mpr h]
  · rw [decide_eq_false h, beq_eq_false_iff_ne.mpr h]
theorem bool_dict_in {K : Type} [DecidableEq K] {prog : Program} {w : World} {knd : KeyKind prog w K} (d : Addr) (kvs : List (K × Value)) (hd : (d == sysModules) = false) (few : (kvs.length : Int) < 2 ^ 63) :
    MeetsIn prog w (Builtin.«bool.__new__» ⟨[.type "bool", .ref d], []⟩) (fun _ R s => s.heap.DictOf knd d kvs ∧ R (.ok (.ret (.bool (!kvs.isEmpty)))) { s with toks := s.toks + 1 + 1 }) :=
  .of_wp fun A R s hs => by
    obtain ⟨hl, hs⟩ := hs
    obtain ⟨hp, g, dr, tk, os⟩ := s
    have f1 := F.conv_sub_bool
    repeat (any_goals (first | assumption | (with_reducible refine wpAny_truthy_dict hd hl few ?_) | wp_step))
    all_goals first | exact ⟨_, rfl, hs⟩ | exact hs | skip
theorem call_boolD {X : Cx} : CallR X (.type "bool") (fun xs H Q => ∃ (a : Addr) (kvs : List (Key × V)), xs = [.ref a] ∧ H a = some (.dK kvs) ∧ Q (.bl (!kvs.isEmpty)) H) := by
  intro pins s σ H xs us Q I r h
  obtain ⟨a, kvs, rfl, hq, q⟩ := h
  obtain ⟨u, rfl, ru⟩ := r.one
  cases (show u = Value.ref a from ru)
  obtain ⟨hz, hS, vs, rk, m⟩ : kvs.length ≤ sizeLine ∧ (a == sysModules) = false ∧ ∃ vs, KV kvs vs ∧ s.heap.DictOf (mixKind X.prog X.w) a vs := I.hok a _ hq
  have hlen : kvs.length = vs.length := Paired.length rk
  have hl := line63
  refine callType_newIn F.called_bool F.newNe_bool (F.typeCall_bool_1 _) (F.newCall_bool_1 _) (fun obj => F.args_object_init_2 obj _) F.entry_bool_new (bool_dict_in (knd := mixKind X.prog X.w) a vs hS (by omega)) ⟨m, ?_⟩
  exact ⟨rfl, .bl (!kvs.isEmpty), H, I.tok _, by rw [← isEmpty_kv rk]; rfl, q⟩
/-! ### renamings: what they hold, when they are equal -/
structure Ren (M : Ld) : Prop where
  ok : LdOk M
  mv : ∀ p ∈ M, p.1 ≠ p.2
theorem ren_of {L M : Ld} (ok : LdOk L) (pm : M.Perm (movers L)) : Ren M :=
  ⟨(ok.filt _).perm pm, fun p hp => by
    have := (List.mem_filter.mp (pm.mem_iff.mp hp)).2
    simpa using this⟩
theorem tgt_key {M : Ld} {c : Nat} (h : tgt M c ≠ c) : (c, tgt M c) ∈ M := by
  induction M with
  | nil => exact absurd rfl h
  | cons p M ih =>
    obtain ⟨a, b⟩ := p
    rw [tgt_cons] at h ⊢
    by_cases e : a = c
    · rw [if_pos e]
      subst e
      exact List.mem_cons_self
    · rw [if_neg e] at h ⊢
      exact List.mem_cons_of_mem _ (ih h)
theorem Ren.sub {M N : Ld} (rm : Ren M) (e : tgt M = tgt N) : ∀ p ∈ M, p ∈ N := fun p hp => by
  obtain ⟨a, b⟩ := p
  have h1 := tgt_mem rm.ok.nd hp
  have h2 : tgt N a = b := by rw [← e]; exact h1
  have := tgt_key (M := N) (c := a) (by rw [h2]; exact (rm.mv _ hp).symm)
  rw [h2] at this
  exact this
theorem Ld.nodup {M : Ld} (ok : LdOk M) : M.Nodup := List.Pairwise.imp (fun {a b} h e => h (by rw [e])) (List.pairwise_map.mp ok.nd)
theorem sub_len {M N : Ld} (h : M.Nodup) (s : ∀ p ∈ M, p ∈ N) : M.length ≤ N.length := by
  have : ∀ (l m : Ld), l.Nodup → (∀ x ∈ l, x ∈ m) → l.length ≤ m.length := by
    intro l
    induction l with
    | nil => exact fun m _ _ => Nat.zero_le _
    | cons a l ih =>
      intro m nd hs
      obtain ⟨n1, n2⟩ := List.nodup_cons.mp nd
      have ha := hs a List.mem_cons_self
      have := ih (m.erase a) n2 fun x hx => (List.mem_erase_of_ne (fun z => n1 (by rw [← z]; exact hx))).mpr (hs x (List.mem_cons_of_mem _ hx))
      rw [List.length_erase_of_mem ha] at this
      have := List.length_pos_of_mem ha
      rw [List.length_cons]
      omega
  exact this M N h s
theorem ldK_flat (M : Ld) : ∀ p ∈ ldK M, flatV p.2 = true := fun p hp => by
  obtain ⟨q, _, rfl⟩ := List.mem_map.mp hp
  rfl
theorem eqB_ren {M N : Ld} (rm : Ren M) (rn : Ren N) : eqB (ldK M) (ldK N) = true ↔ tgt M = tgt N := by
  have lk : ∀ L : Ld, (ldK L).length = L.length := fun L => List.length_map _
  unfold eqB
  rw [Bool.and_eq_true, decide_eq_true_eq, List.all_eq_true, lk, lk]
  constructor
  · rintro ⟨h1, h2⟩
    have sub : ∀ p ∈ M, p ∈ N := fun p hp => by
      have := h2 (.inr (ch p.1), vc p.2) (List.mem_map.mpr ⟨p, hp, rfl⟩)
      by_cases m : p.1 ∈ N.map (·.1)
      · obtain ⟨q, hq, eq⟩ := List.mem_map.mp m
        have eq : q.1 = p.1 := eq
        have hv := val_mem rn.ok.nd (a := q.1) (b := q.2) hq
        rw [eq] at hv
        simp only [hv] at this
        rw [eqV_vc] at this
        have e2 : p.2 = q.2 := by simpa using this
        have : p = q := Prod.ext eq.symm e2
        rw [this]; exact hq
      · have hv := val_out m
        simp only [hv] at this
        exact absurd this (by decide)
    have back : ∀ q ∈ N, q ∈ M := by
      intro q hq
      by_cases m : q ∈ M
      · exact m
      · have := sub_len (M := q :: M) (N := N) (List.nodup_cons.mpr ⟨m, Ld.nodup rm.ok⟩) (fun p hp => by
          rcases List.mem_cons.mp hp with rfl | hp
          · exact hq
          · exact sub p hp)
        rw [List.length_cons] at this
        omega
    funext c
    by_cases m : c ∈ M.map (·.1)
    · obtain ⟨p, hp, e⟩ := List.mem_map.mp m
      have e : p.1 = c := e
      subst e
      rw [tgt_mem rm.ok.nd (a := p.1) (b := p.2) hp, tgt_mem rn.ok.nd (a := p.1) (b := p.2) (sub p hp)]
    · rw [tgt_out m, tgt_out (fun z => m (by
        obtain ⟨p, hp, e⟩ := List.mem_map.mp z
        exact List.mem_map.mpr ⟨p, back p hp, e⟩))]
  · intro e
    have s1 := rm.sub e
    have s2 := rn.sub e.symm
    refine ⟨Nat.le_antisymm (sub_len (Ld.nodup rm.ok) s1) (sub_len (Ld.nodup rn.ok) s2), fun x hx => ?_⟩
    obtain ⟨p, hp, rfl⟩ := List.mem_map.mp hx
    have hv := val_mem rn.ok.nd (a := p.1) (b := p.2) (s1 p hp)
    simp only [hv]
    rw [eqV_vc]
    simp
/-! ### Renaming(**d), Renaming() by the module's name -/
def tMakeKdG (j : Nat) (C : Addr) (ok : List Str → Prop) (sp : List Str → List V → List V → Hp → VK → XK → Prop) (E : XK) : TE := fun σ H Q => ∃ (d : Addr) (ks : List Str) (zs : List V), σ[j]? = some (some (.ref d)) ∧ H d = some (.dK ((ks.zip zs).map fun x => ((.inr x.1 : Key), x.2))) ∧
  zs.length = ks.length ∧ ks.length ≤ 1000 ∧ ok ks ∧ ∀ x dx, H x = none → H dx = none → dx ≠ x → sp ks [.ref x] zs (upd (upd H dx (.own x)) x (.ins C dx [])) (fun v H2 => v = .non ∧ Q (.ref x) H2) E
theorem pe_makeKdG {X : Cx} {CX : CXT} {k j : Nat} {f C : Addr} {E : XK} {ok : List Str → Prop} {sp : List Str → List V → List V → Hp → VK → XK → Prop} {x y : Str} {p q kp pos : Pos} (M : L2.Mk X.K C f) (F : ∀ ks, ok ks → FnKwX CX X.prog X.w X.K X.mg X.base k f 1 ks (sp ks)) (hr : Room (k + 1) X.A) (hx : Passes CX X E)
    (isG : Gl X x) (at0 : X.mg x = some (.ref C)) (hN2 : X.N[j]? = some y) (hv2 : Vis X.env.scope y) (hdb : (x == ("__debug__" : Str)) = false := by decide) (hdb2 : (y == ("__debug__" : Str)) = false := by decide) (hcd2 : (y == ("__classdict__" : Str)) = false := by decide) :
    PE X (.Call (.Name x p) [] [⟨none, .Name y q, kp⟩] pos) (tMakeKdG j C ok sp E) := by
  refine ⟨fun pins s σ H Q I h => ?_⟩
  obtain ⟨d, ks, zs, hs2, hd, l2, few, hok, h⟩ := h
  refine wpAny_Call_Name_kw (ld_glob I isG at0 ?_ hdb)
  obtain ⟨_, na, vs, kv, o, es, ep, ho, hx', hda, hko, pr, nd⟩ := I.hok d _ hd
  obtain ⟨ws, rz, e1, str, lw⟩ := kw_of l2 kv pr
  have les : es.toList.length = vs.length := by
    have : ∀ {l : List DictEntry} {m : List (Key × Value)}, PySem.Pairs (mixKind X.prog X.w) l m → l.length = m.length := fun {l m} h => by
      induction h with
      | nil => rfl
      | cons _ _ _ ih => exact congrArg Nat.succ ih
    exact this pr
  have lvs : vs.length ≤ 1000 := by
    have := kv.length
    rw [List.length_map, List.length_zip] at this
    omega
  have I1 : ∀ n (l : List DictEntry), Inv X pins σ H { s with heap := s.heap.push (PySem.W.dictOf l n) } := fun n l => I.kept (t' := s.toks) fun b o e => Heap.get?_push_of_some _ e
  show wpAny _ _ (callWith pos (.ref C) [] [] [(none, do let v ← eval (.Name y q) X.env; standAt pos; pure v)]) _ _ s
  unfold callWith
  refine wpAny_bind (wpAny_holding (kd_args (es := es.toList) ho hx' (by rw [Array.toArray_toList]; exact hda) (by rw [Array.toArray_toList]; exact hko) (pairs_nd pr nd) str na (by omega) (fun {Q' E'} q' => ?_) fun n' => ?_))
  · refine wpAny_bind (raw_name hN2 hv2 (I1 0 []) hs2 (fun u2 r2 => ?_) hdb2 hcd2)
    cases (show u2 = Value.ref d from r2)
    exact wpAny_bind (wpAny_standAt (wpAny_pure q'))
  refine wpAny_bind (wpAny_standAt ?_)
  rw [e1]
  have J := I1 n' es.toList
  obtain ⟨kk, hkk, L⟩ := PySem.W.looks_keep (M := model X.prog X.w) M.kp J.kIn
  refine wpAny_bind (L.here ?_)
  have go := run_makeKd (C := C) (f := f) M (F ks hok) hr hx J rz l2 h
  have tail : ∀ {t : Sem Value}, wpAny (model X.prog X.w) X.A t (L2.EP X pins σ Q) X.xe { s with heap := s.heap.push (PySem.W.dictOf es.toList n') } → wpAny (model X.prog X.w) X.A (t >>= fun r => holding [r] point >>= fun _ => pure r) (L2.EP X pins σ Q) X.xe { s with heap := s.heap.push (PySem.W.dictOf es.toList n') } :=
    fun ht => wpAny_bind (wpAny_mono ht (fun r s₂ hr => wpAny_bind (wpAny_holding (wpAny_point (wpAny_pure hr)))) fun _ _ z => z)
  rcases hkk with rfl | rfl
  · exact tail (by unfold callMarked; exact Calls.wpAny_keep go)
  · exact tail (wpAny_operate' go)
theorem pe_make0G {X : Cx} {CX : CXT} {k : Nat} {f C : Addr} {E : XK} {sp : List V → List V → Hp → VK → XK → Prop} {x : Str} {p pos : Pos} (M : L2.Mk X.K C f) (F : FnKwX CX X.prog X.w X.K X.mg X.base k f 1 [] sp) (hr : Room (k + 1) X.A) (hx : Passes CX X E)
    (isG : Gl X x) (at0 : X.mg x = some (.ref C)) (hdb : (x == ("__debug__" : Str)) = false := by decide) :
    PE X (.Call (.Name x p) [] [] pos) (fun _ H Q => ∀ a dx, H a = none → H dx = none → dx ≠ a → sp [.ref a] [] (upd (upd H dx (.own a)) a (.ins C dx [])) (fun v H2 => v = .non ∧ Q (.ref a) H2) E) := by
  refine ⟨fun pins s σ H Q I h => ?_⟩
  refine wpAny_Call_Name_kw (ld_glob I isG at0 ?_ hdb)
  exact PySem.W.callWith_K0 (first := []) I.kIn M.kp (run_makeKd (ws := []) (zs := []) (ks := []) M F hr hx I .nil rfl h)
/-! ### in, len, bool, == of renamings -/
structure InsK (K : PySem.W.Frag) (C : Addr) : Prop where
  ha : PySem.W.findIn K (.ref C) "__class__" = some (some (.builtin "object.__class__"))
  hn : PySem.W.specialIn K (.builtin "object.__class__") "__get__" = some (some (.builtin "getset_descriptor.__get__"))
  htk : PySem.W.takesIn K (.builtin "object.__class__") = some true
  hm : PySem.W.mroIn K C (.type "object") = some true
  me : PySem.W.kitOne K (.ref C) (.ref C) = some true
def spCont (C : Addr) : Sp := fun vs H Q _ => ∃ a M c, vs = [.ref a, vc c] ∧ Rn C H a M ∧ Ren M ∧ lowc c ∧ Q (.bl (decide (tgt M c ≠ c))) H
def spLenR (C : Addr) : Sp := fun vs H Q _ => ∃ a M, vs = [.ref a] ∧ Rn C H a M ∧ Q (.int (M.length : Nat)) H
def spBoolR (C : Addr) : Sp := fun vs H Q _ => ∃ a M, vs = [.ref a] ∧ Rn C H a M ∧ Q (.bl (!M.isEmpty)) H
def spEqR (C : Addr) : Sp := fun vs H Q _ => ∃ a b M N, vs = [.ref a, .ref b] ∧ Rn C H a M ∧ Rn C H b N ∧ Ren M ∧ Ren N ∧ ∀ k : Bool, (k = true ↔ tgt M = tgt N) → Q (.bl k) H
theorem val_some {M : Ld} (rm : Ren M) (c : Nat) : (valV (ldK M) (.inr (ch c))).isSome = decide (tgt M c ≠ c) := by
  by_cases m : c ∈ M.map (·.1)
  · obtain ⟨p, hp, e⟩ := List.mem_map.mp m
    have e : p.1 = c := e
    subst e
    rw [val_mem rm.ok.nd (a := p.1) (b := p.2) hp, tgt_mem rm.ok.nd (a := p.1) (b := p.2) hp]
    exact (decide_eq_true (rm.mv p hp).symm).symm
  · rw [val_out m, tgt_out m]
    simp
section
variable {P : Program} {w : World} {K : PySem.W.Frag} {mg : Str → Option Value} {base : Heap} {f : Addr} {fd : FuncData} {C gG : Addr}
theorem ok_cont (F : Fun K "__contains__" "Renaming.__contains__" s_Renaming___contains__ f fd) (TD : RenC K mg C gG) (Dis_letter : Df P w K mg base 1 "is_letter" ["value"] spOne) : FnOk P w K mg base CX0 2 f fd ["self", "x"] (spCont C) := by
  refine F.ok sc_Renaming___contains__ (fun vs H Q E h => ?_) (fun cdv A outer s H vs Q E hr h => ?_)
  · obtain ⟨a, M, c, rfl, _⟩ := h
    rfl
  obtain ⟨a, M, c, rfl, ⟨dx, d, ea, ed⟩, rm, hc, q⟩ := h
  refine ⟨_, (pss_one (ps_ret (pe_and (pe_call Dis_letter.ok (hr.mono (by omega)) rfl Dis_letter.g Dis_letter.kp Dis_letter.b .nil pass0 (pa_cons (pv 1) pa_nil)) (pe_one (pe_cmp (pc_din (Nat.lt_of_le_of_lt (Nat.add_le_add_left (by decide) _) hr.units) (pv 1) (pe_fld (pv 0) rfl))))))), ?_⟩
  refine ⟨_, rfl, c, rfl, ?_⟩
  rw [low_dec hc]
  refine ⟨_, rfl, iteT ⟨_, rfl, _, rfl, a, C, dx, _, _, rfl, ea, TD.cl, TD.nL, ren_look d, d, _, rfl, DGet.k (k := .inr (ch c)) ed, ?_⟩⟩
  rw [val_some rm]
  exact q
theorem ok_lenR {k : Nat} (F : Fun K "__len__" "Renaming.__len__" s_Renaming___len__ f fd) (M : Mgs mg) (TD : RenC K mg C gG) : FnOk P w K mg base CX0 (k + 1) f fd ["self"] (spLenR C) := by
  refine F.ok sc_Renaming___len__ (fun vs H Q E h => ?_) (fun cdv A outer s H vs Q E hr h => ?_)
  · obtain ⟨a, M, rfl, _⟩ := h
    rfl
  obtain ⟨a, L, rfl, ⟨dx, d, ea, ed⟩, q⟩ := h
  refine ⟨_, (pss_one (ps_ret (pe_callB call_lenD rfl M.len PySem.boot_len (pa_cons (pe_fld (pv 0) rfl) pa_nil)))), ?_⟩
  refine ⟨_, rfl, a, C, dx, _, _, rfl, ea, TD.cl, TD.nL, ren_look d, d, _, rfl, ed, ?_⟩
  unfold ldK
  rw [List.length_map]
  exact q
theorem ok_boolR {k : Nat} (F : Fun K "__bool__" "Renaming.__bool__" s_Renaming___bool__ f fd) (M : Mgs mg) (TD : RenC K mg C gG) : FnOk P w K mg base CX0 (k + 1) f fd ["self"] (spBoolR C) := by
  refine F.ok sc_Renaming___bool__ (fun vs H Q E h => ?_) (fun cdv A outer s H vs Q E hr h => ?_)
  · obtain ⟨a, M, rfl, _⟩ := h
    rfl
  obtain ⟨a, L, rfl, ⟨dx, d, ea, ed⟩, q⟩ := h
  refine ⟨_, (pss_one (ps_ret (pe_callTy call_boolD rfl M.bool (by decide +kernel) (pa_cons (pe_fld (pv 0) rfl) pa_nil)))), ?_⟩
  refine ⟨_, rfl, a, C, dx, _, _, rfl, ea, TD.cl, TD.nL, ren_look d, d, _, rfl, ed, ?_⟩
  have : (ldK L).isEmpty = L.isEmpty := by cases L <;> rfl
  rw [this]
  exact q
theorem ok_eqR (F : Fun K "__eq__" "Renaming.__eq__" s_Renaming___eq__ f fd) (M : Mgs mg) (gR : mg "Renaming" = some (.ref C)) (TD : RenC K mg C gG) (IC : InsK K C) : FnOk P w K mg base CX0 2 f fd ["self", "other"] (spEqR C) := by
  refine F.ok sc_Renaming___eq__ (fun vs H Q E h => ?_) (fun cdv A outer s H vs Q E hr h => ?_)
  · obtain ⟨a, b, M, N, rfl, _⟩ := h
    rfl
  obtain ⟨a, b, L, N, rfl, ⟨dx, d, ea, ed⟩, ⟨dy, d', eb, ed'⟩, rl, rn, q⟩ := h
  have bu : bootBuiltins "isinstance" = some (.builtin "isinstance") := by decide +kernel
  refine ⟨_, (pss_one (ps_ret (pe_and (pe_callB call_isi rfl M.isinstance bu (pa_cons (pv 1) (pa_cons (pe_glob (v := .ref C) rfl gR rfl) pa_nil))) (pe_one (pe_cmpR (op_eqDictB (Nat.lt_of_le_of_lt (Nat.le_add_right _ _) hr.units)) (pe_fld (pv 0) rfl) (pe_fld (pv 1) rfl) (nomark _)))))), ?_⟩
  refine ⟨_, rfl, _, _, .ref C, .ref C, true, rfl, .own _, .base (.ins eb TD.cl IC.ha IC.hn IC.htk IC.hm), IC.me, true, rfl, iteT ?_⟩
  refine ⟨_, rfl, a, C, dx, _, _, rfl, ea, TD.cl, TD.nL, ren_look d, ?_⟩
  refine ⟨_, rfl, b, C, dy, _, _, rfl, eb, TD.cl, TD.nL, ren_look d', ?_⟩
  exact ⟨d, d', _, _, rfl, rfl, ed, ed', ldK_flat _, ldK_flat _, q _ (eqB_ren rl rn)⟩
end
/-! ### within, + -/
def RnF (C : Addr) (H : Hp) (a : Addr) (M : Ld) : Prop := ∃ dx d, H a = some (.ins C dx (renF d)) ∧ Rd H d (.dK (ldK M))
theorem Rn.f {C : Addr} {H : Hp} {a : Addr} {M : Ld} (r : Rn C H a M) : RnF C H a M := by
  obtain ⟨dx, d, h1, h2⟩ := r
  exact ⟨dx, d, h1, .inl h2⟩
def spGetF (C : Addr) : Sp := fun vs H Q _ => ∃ a M c, vs = [.ref a, vc c] ∧ RnF C H a M ∧ lowc c ∧ Q (vc (tgt M c)) H
def spWithin (C : Addr) : Sp := fun vs H Q _ => ∃ a b M N, vs = [.ref a, .ref b] ∧ Rn C H a M ∧ Rn C H b N ∧ Ren M ∧ ∀ k : Bool, (k = true ↔ ∀ p ∈ M, tgt N p.1 = p.2) → ∀ H', Same H H' → Q (.bl k) H'
def spAddR (C : Addr) : Sp := fun vs H Q _ => ∃ a b M N, vs = [.ref a, .ref b] ∧ Rn C H a M ∧ Rn C H b N ∧ Ren M ∧ Ren N ∧ ∀ c O H', Ren O → (∀ x, tgt O x = tgt N (tgt M x)) → Same H H' → H c = none → Rn C H' c O → Q (.ref c) H'
theorem frz_rn {C : Addr} {H : Hp} {a b d : Addr} {M N : Ld} {od : Obj} {u : HO} (hd : H d = some u) (ud : ∃ ks, u = .dK ks) (r : Rn C H a M) : RnF C (upd H d (.frz od u)) a M := by
  obtain ⟨dx, e, h1, h2⟩ := r
  obtain ⟨ks, rfl⟩ := ud
  have na : a ≠ d := ne_of h1 hd (by intro z; cases z)
  refine ⟨dx, e, by rw [upd_ne na]; exact h1, ?_⟩
  by_cases he : e = d
  · subst he
    rw [h2] at hd
    cases hd
    exact .inr ⟨od, upd_same⟩
  · exact .inl (by rw [upd_ne he]; exact h2)
theorem RnF.but {C : Addr} {H H' : Hp} {a D : Addr} {M : Ld} (r : RnF C H a M) (nD : H D = none) (k : ∀ b o, b ≠ D → H b = some o → H' b = some o) : RnF C H' a M := by
  obtain ⟨dx, e, h1, h2⟩ := r
  refine ⟨dx, e, k _ _ (ne_of_none h1 nD) h1, ?_⟩
  rcases h2 with h | ⟨o, h⟩
  · exact .inl (k _ _ (ne_of_none h nD) h)
  · exact .inr ⟨o, k _ _ (ne_of_none h nD) h⟩
section
variable {P : Program} {w : World} {K : PySem.W.Frag} {mg : Str → Option Value} {base : Heap} {f fi : Addr} {fd : FuncData} {C gG : Addr}
theorem ok_getF (F : Fun K "__getitem__" "Renaming.__getitem__" s_Renaming___getitem__ f fd) (TD : RenC K mg C gG) (Dis_letter : Df P w K mg base 1 "is_letter" ["value"] spOne) : FnOk P w K mg base CX0 2 f fd ["self", "at"] (spGetF C) := by
  refine F.ok sc_Renaming___getitem__ (fun vs H Q E h => ?_) (fun cdv A outer s H vs Q E hr h => ?_)
  · obtain ⟨a, M, c, rfl, _⟩ := h
    rfl
  obtain ⟨a, M, c, rfl, ⟨dx, d, ea, ed⟩, hc, q⟩ := h
  refine ⟨_, (pss_cons (ps_if (pt_not (pt_val (pe_call Dis_letter.ok (hr.mono (by omega)) rfl Dis_letter.g Dis_letter.kp Dis_letter.b .nil pass0 (pa_cons (pv 1) pa_nil))))
      (pss_one ps_never) pss_nil)
    (pss_one (ps_ret (pe_dget2 (Nat.lt_of_le_of_lt (Nat.add_le_add_left (by decide) _) hr.units) (pe_fld (pv 0) rfl) (pv 1) (pv 1) ⟨rfl, rfl, rfl, rfl⟩)))), ?_⟩
  refine ⟨_, rfl, c, rfl, ?_⟩
  rw [low_dec hc]
  refine ⟨_, rfl, iteF ?_⟩
  refine ⟨_, rfl, a, C, dx, _, _, rfl, ea, TD.cl, TD.nL, ren_look d, d, rfl, ?_, _, rfl, _, rfl, _, .inl ⟨_, .inr (ch c), ed, rfl, rfl⟩, ?_⟩
  · exact .inl ⟨_, ed⟩
  · rw [val_ld]
    exact q
theorem ok_within (F : Fun K "within" "Renaming.within" s_Renaming_within f fd) (M : Mgs mg) (TD : RenC K mg C gG) (DgetF : FnR P w K mg base CX0 2 gG (spGetF C)) : FnOk P w K mg base CX0 4 f fd ["self", "other"] (spWithin C) := by
  refine F.ok sc_Renaming_within (fun vs H Q E h => ?_) (fun cdv A outer s H vs Q E hr h => ?_)
  · obtain ⟨a, b, M, N, rfl, _⟩ := h
    rfl
  obtain ⟨a, b, L, N, rfl, ra, rb, rl, q⟩ := h
  refine ⟨_, (pss_one (ps_ret (pe_callB (cr_all rfl) rfl M.all (by decide +kernel) (pa_cons (pe_lock (pe_lc (own := [("letter", 2)]) (g := gName 2) (tt := tYes) rfl sc_Renaming_within.nd (pi_keys (pe_fld (pv 0) rfl)) (blkOk_by (N := ["self", "other", "letter"]) (sc := defScope s_Renaming_within) (by decide +kernel)) (fun _ _ _ _ _ => (pg_name (i := 2) sc_Renaming_within.nd rfl (.inl rfl))) (fun _ _ _ _ _ => pts_nil) (fun _ _ _ _ _ => (pe_cmpR op_eq (pe_ixOwn TD.gi TD.gf TD.gn DgetF (hr.mono (by omega)) (pv 1) (pv 2) (fun _ _ => rfl)) (pe_ixOwn TD.gi TD.gf TD.gn DgetF (hr.mono (by omega)) (pv 0) (pv 2) (fun _ _ => rfl)) (nomark _))))) pa_nil)))), ?_⟩
  obtain ⟨dx, d, ea, ed⟩ := id ra
  have nad : a ≠ d := ne_of ea ed (by intro z; cases z)
  refine ⟨d, _, ed, trivial, fun od => ?_⟩
  have fa := frz_rn (N := N) (b := b) (od := od) ed ⟨_, rfl⟩ ra
  have fb := frz_rn (N := N) (b := b) (od := od) ed ⟨_, rfl⟩ rb
  have efz := upd_same (H := H) (a := d) (o := .frz od (.dK (ldK L)))
  have eaz : upd H d (.frz od (.dK (ldK L))) a = some (.ins C dx (renF d)) := by rw [upd_ne nad]; exact ea
  have back : ∀ H', Same (upd H d (.frz od (.dK (ldK L)))) H' → Same H (upd H' d (.dK (ldK L))) := fun H' => lock_back ed
  generalize upd H d (.frz od (.dK (ldK L))) = H1 at efz eaz back fa fb ⊢
  refine ⟨_, rfl, a, C, dx, _, _, rfl, eaz, TD.cl, TD.nL, ren_look d, d, od, rfl, .inl ⟨_, efz, fun D nD => ?_⟩⟩
  have nd1 : d ≠ D := ne_of_none efz nD
  refine lc_it (walk_keys (d := d) (o := od) (kvs := ldK L)) (fun i H' => (∀ b o, b ≠ D → H1 b = some o → H' b = some o) ∧ H' D = some (.lst (((L.take i).map fun p => decide (tgt N p.1 = p.2)).map V.bl))) ⟨fun b o hb e => by rw [upd_ne hb]; exact e, upd_same⟩ (fun i H' _ hp => hp.1 _ _ nd1 efz) (fun i y H' H'' hi hp hy => ?_) (fun H' hp => ?_)
  · obtain ⟨e1, ky, v, hk, rfl⟩ := hy
    subst e1
    unfold ldK at hk
    rw [List.getElem?_map] at hk
    obtain ⟨⟨c, z⟩, hc, he⟩ := Option.map_eq_some_iff.mp hk
    cases he
    have hm := List.mem_of_getElem? hc
    have lc := (rl.ok.low _ hm).1
    obtain ⟨dx1, d1, g1, g2⟩ := fb.but nD hp.1
    obtain ⟨dx2, d2, g3, g4⟩ := fa.but nD hp.1
    refine ⟨rfl, kept ?_⟩
    refine ⟨_, rfl, _, rfl, b, dx1, _, rfl, g1, b, N, c, rfl, ⟨dx1, d1, g1, g2⟩, lc, ?_⟩
    refine ⟨_, rfl, _, rfl, a, dx2, _, rfl, g3, a, L, c, rfl, ⟨dx2, d2, g3, g4⟩, lc, ?_⟩
    rw [tgt_mem rl.ok.nd hm]
    refine ⟨rfl, _, hp.2, ?_, fun b' o hb e => by rw [upd_ne hb]; exact hp.1 _ _ hb e, ?_⟩
    · rw [List.length_map, List.length_map, List.length_take]
      have := rl.ok.len
      have : sizeLine = 16777216 := rfl
      omega
    · have e3 : decide (vc (tgt N c) = vc z) = decide (tgt N c = z) := by
        by_cases h : tgt N c = z
        · rw [h]; simp
        · rw [decide_eq_false h, decide_eq_false (fun y => h (ch_inj (by injection y)))]
      rw [upd_same, e3, List.take_add_one, hc, List.map_append, List.map_append]
      rfl
  have full : L.take (ldK L).length = L := by unfold ldK; rw [List.length_map, List.take_length]
  rw [full] at hp
  refine ⟨hp.1 _ _ nd1 efz, ?_⟩
  refine ⟨D, L.map fun p => decide (tgt N p.1 = p.2), rfl, SqL.of (by rw [upd_ne nd1.symm]; exact hp.2), q _ ?_ _ (back _ fun b o e => hp.1 _ _ (ne_of_none e nD) e)⟩
  rw [List.all_eq_true]
  constructor
  · intro h p hp
    have := h _ (List.mem_map.mpr ⟨p, hp, rfl⟩)
    simpa using this
  · intro h x hx
    obtain ⟨p, hp, rfl⟩ := List.mem_map.mp hx
    exact decide_eq_true (h p hp)
end
/-! ### name = {key: value for ..} on one line, the name a local -/
section
variable {X : Cx}
theorem sw_dict {kx vx : Expr} {gs : List Comprehension} {scope : Scope} {pos py : Pos} {y : Str} {l : Nat} {env : Env} (hk : env.scope.kind = .function) (hy : env.scope.names.lookup y = some .local) (hl : (py.line == pos.line) = true)
    (ha : (scope.names.any fun (n, k) => n == y && (k == .local || k == .cell)) = false) : swapsWith (.DictComp kx vx gs scope pos) (some (.Name y py)) l env = pure true := by
  have ky : env.kindOf y = some .local := hy
  have hb : env.blockKind = .function := by unfold Env.blockKind; rw [hk]; rfl
  unfold swapsWith
  simp only [hb, ky, ha, Expr.pos, hl]
  rfl
theorem ps_setDc {i : Nat} {y : Str} {py : Pos} {kx vx tg iter : Expr} {ifs : List Expr} {scope : Scope} {own : List (Str × Nat)} {pos spos : Pos} {wi : TI} {g : TG} {tt : TT} {tk tv : TE} (hc : X.calm = true) (hN : X.N.Nodup) (hy : X.N[i]? = some y) (hyl : X.env.scope.names.lookup y = some .local)
    (hsw : swapsWith (.DictComp kx vx [⟨tg, iter, ifs, 0⟩] scope pos) (some (.Name y py)) spos.line X.env = pure true) (hi : PI X tg iter wi) (ok : BlkOk X.N X.env.scope scope own)
    (hg : ∀ (s : Shared) (H : Hp) (C : Addr) (cl : List (Str × Addr)) (fp : List Addr), PG (X.blk s H scope (compEnvC scope cl C X.env) fp) tg g) (ht : ∀ (s : Shared) (H : Hp) (C : Addr) (cl : List (Str × Addr)) (fp : List Addr), PTs (X.blk s H scope (compEnvC scope cl C X.env) fp) ifs tt)
    (hk : ∀ (s : Shared) (H : Hp) (C : Addr) (cl : List (Str × Addr)) (fp : List Addr), PE (X.blk s H scope (compEnvC scope cl C X.env) fp) kx tk)
    (he : ∀ (s : Shared) (H : Hp) (C : Addr) (cl : List (Str × Addr)) (fp : List Addr), PE (X.blk s H scope (compEnvC scope cl C X.env) fp) vx tv) (hs : ∀ x, foldedSetIterable iter X.env x = pure x := by intro _; rfl) :
    PS X (.Assign [.Name y py] (.DictComp kx vx [⟨tg, iter, ifs, 0⟩] scope pos) spos) (tAsg (tDc wi g tt tk tv (own.map (·.2))) (gName i)) := by
  refine ⟨fun pins s σ H D I h => ?_⟩
  rw [exec_Assign_Name_used _ _ _ _ hsw]
  refine wpAny_bind (wpAny_standAt (wpAny_bind ?_))
  show wpAny _ X.A (do let _ ← comprehension (.DictComp kx vx [⟨tg, iter, ifs, 0⟩] scope pos) scope X.env (firstIterPos [⟨tg, iter, ifs, 0⟩] pos) newDict false (eval iter X.env) (some (assign (.Name y py) X.env))) _ _ s
  have h : tDc wi g tt tk tv (own.map (·.2)) σ H (fun x H1 => gName i x σ H1 D.nx) := h
  refine wpAny_bind (thn (dc_core (Qf := fun _ s' => SP X pins D .next s') hc hN I hi ok hg ht hk he hs h fun L C s' m H' I' q hn f => ?_) fun _ s' hq => wpAny_pure (wpAny_pure hq))
  show wpAny _ _ (assign (.Name y py) X.env (.ref L)) _ _ _
  refine wpAny_assign_Name (store_ok2 (v := V.ref L) I' hN hy (.inl hyl) rfl (fun s2 I2 ⟨a, sb, ha⟩ => ?_) (.inr hyl))
  obtain ⟨f0, f1, f2, f3, f4, f5⟩ := f
  have haC : C ≠ a := by
    rcases ha with z | z
    · rw [z]; exact f1
    · exact fun e => f4 y a z e.symm
  refine ⟨m, hn.sameBut sb haC, fun h3 sb3 => ?_⟩
  exact ⟨_, H', I2.turned (t' := s2.toks) (fun b o hb e => (sb3.2 b hb).trans e) f0 f1 f3 f4 f5, q⟩
end
def allL (g : Nat → Nat) : Ld := abcN.map fun c => (c, g c)
theorem low_abc {c : Nat} (h : lowc c) : c ∈ abcN := List.mem_map.mpr ⟨c - 97, List.mem_range.mpr (by have := h.1; have := h.2; omega), by have := h.1; omega⟩
theorem all_keys (g : Nat → Nat) : (allL g).map (·.1) = abcN := by
  unfold allL
  rw [List.map_map]
  exact List.map_id abcN
theorem all_ok {g : Nat → Nat} (h : ∀ c, lowc c → lowc (g c)) : LdOk (allL g) :=
  .of (all_keys g) abcN_nd abcN_low fun p hp => by
    obtain ⟨c, hc, rfl⟩ := List.mem_map.mp hp
    exact h c (abcN_low c hc)
theorem all_in {g : Nat → Nat} {c : Nat} (h : lowc c) : tgt (allL g) c = g c :=
  tgt_mem (by rw [all_keys]; exact abcN_nd) (List.mem_map.mpr ⟨c, low_abc h, rfl⟩)
theorem all_out {g : Nat → Nat} {c : Nat} (h : ¬ lowc c) : tgt (allL g) c = c := tgt_out fun z => h (by rw [all_keys] at z; exact abcN_low c z)
theorem out_low {M : Ld} (ok : LdOk M) {c : Nat} (h : ¬ lowc c) : tgt M c = c := tgt_out fun z => h (by
  obtain ⟨p, hp, e⟩ := List.mem_map.mp z
  have e : p.1 = c := e
  rw [← e]
  exact (ok.low p hp).1)
theorem abc_cps : (Str.ofString "abcdefghijklmnopqrstuvwxyz").cps = abcN.toArray := by decide +kernel
theorem abc_size : (Str.ofString "abcdefghijklmnopqrstuvwxyz").cps.size = 26 := by decide +kernel
theorem abc_get {i c : Nat} (h : (Str.ofString "abcdefghijklmnopqrstuvwxyz").cps[i]? = some c) : abcN[i]? = some c := by
  rw [abc_cps] at h
  simpa using h
theorem take_new {l : List Nat} (nd : l.Nodup) {i c : Nat} (h : l[i]? = some c) : ¬ c ∈ l.take i := fun z => by
  obtain ⟨j, hj⟩ := List.mem_iff_getElem?.mp z
  rw [List.getElem?_take] at hj
  by_cases ji : j < i
  · rw [if_pos ji] at hj
    have il := (List.getElem?_eq_some_iff.mp h).1
    have := (List.getElem?_inj (Nat.lt_trans ji il) nd).mp (hj.trans h.symm)
    omega
  · rw [if_neg ji] at hj
    cases hj
theorem ldK_take (g : Nat → Nat) {i c : Nat} (h : abcN[i]? = some c) : putK (ldK ((abcN.take i).map fun c => (c, g c))) (.inr (ch c)) (vc (g c)) = ldK ((abcN.take (i + 1)).map fun c => (c, g c)) := by
  rw [putK_new _ (val_out (by
    rw [List.map_map]
    intro z
    obtain ⟨y, hy, e⟩ := List.mem_map.mp z
    have e : y = c := e
    subst e
    exact take_new abcN_nd h hy)), List.take_add_one, h]
  unfold ldK
  rw [List.map_append, List.map_append]
  rfl
section
variable {P : Program} {w : World} {K : PySem.W.Frag} {mg : Str → Option Value} {base : Heap} {f fi : Addr} {fd : FuncData} {C gG : Addr}
theorem ok_addR {tL : Tok} (F : Fun K "__add__" "Renaming.__add__" s_Renaming___add__ f fd) (TD : RenC K mg C gG) (mLET : mg "LETTERS" = some (.str "abcdefghijklmnopqrstuvwxyz" tL)) (gR : mg "Renaming" = some (.ref C)) (MK : L2.Mk K C fi) (Dget : FnR P w K mg base CX0 2 gG (spGet C))
    (Di : ∀ ks : List Str, (∃ L : Ld, ks = L.map (fun p => ch p.1) ∧ LdOk L) → FnKwX CX0 P w K mg base 2 fi 1 ks (spInitR C ks)) : FnOk P w K mg base CX0 4 f fd ["self", "other"] (spAddR C) := by
  refine F.ok sc_Renaming___add__ (fun vs H Q E h => ?_) (fun cdv A outer s H vs Q E hr h => ?_)
  · obtain ⟨a, b, M, N, rfl, _⟩ := h
    rfl
  obtain ⟨a, b, M, N, rfl, ra, rb, rm, rn, q⟩ := h
  refine ⟨_, (pss_cons (ps_setDc (i := 3) (own := [("letter", 2)]) (g := gName 2) (tt := tYes) (by rfl) sc_Renaming___add__.nd rfl rfl (sw_dict rfl rfl rfl (by decide +kernel)) (pi_str (pe_glob (v := .str _) rfl mLET ⟨_, rfl⟩)) (blkOk_by (N := ["self", "other", "letter", "leads"]) (sc := defScope s_Renaming___add__) (by decide +kernel)) (fun _ _ _ _ _ => (pg_name (i := 2) sc_Renaming___add__.nd rfl (.inl rfl))) (fun _ _ _ _ _ => pts_nil) (fun _ _ _ _ _ => (pv 2)) (fun _ _ _ _ _ => (pe_ixOwn TD.gi TD.gf TD.gn Dget (hr.mono (by omega)) (pv 1) (pe_ixOwn TD.gi TD.gf TD.gn Dget (hr.mono (by omega)) (pv 0) (pv 2) (fun _ _ => rfl)) (fun _ _ => rfl))))
    (pss_one (ps_ret (pe_makeKdG (j := 3) MK Di (hr.mono (by omega)) pass0 rfl gR rfl (.inl rfl))))), ?_⟩
  have lg : ∀ c, lowc c → lowc (tgt N (tgt M c)) := fun c hc => tgt_low rn.ok (tgt_low rm.ok hc)
  refine ⟨_, rfl, fun D nD => ?_⟩
  obtain ⟨dx, d, ea, ed⟩ := id ra
  obtain ⟨dy, d', eb, ed'⟩ := id rb
  refine dc_it (walk_str (z := Str.ofString "abcdefghijklmnopqrstuvwxyz")) (fun i H' => (∀ b o, b ≠ D → H b = some o → H' b = some o) ∧ H' D = some (.dK (ldK ((abcN.take i).map fun c => (c, tgt N (tgt M c)))))) ⟨fun b o hb e => by rw [upd_ne hb]; exact e, upd_same⟩ (fun _ _ _ _ => trivial) (fun i y H' H'' hi hp hy => ?_) (fun H' hp => ?_)
  · obtain ⟨e1, c, hc, rfl⟩ := hy
    subst e1
    have hc := abc_get hc
    have lc := abcN_low c (List.mem_of_getElem? hc)
    have ea' := hp.1 _ _ (ne_of_none ea nD) ea
    have ed1 := hp.1 _ _ (ne_of_none ed nD) ed
    have eb' := hp.1 _ _ (ne_of_none eb nD) eb
    have ed2 := hp.1 _ _ (ne_of_none ed' nD) ed'
    refine ⟨rfl, kept ?_⟩
    refine ⟨_, rfl, _, rfl, _, rfl, _, rfl, a, dx, _, rfl, ea', a, M, c, rfl, ⟨dx, d, ea', ed1⟩, lc, ?_⟩
    refine ⟨b, dy, _, rfl, eb', b, N, _, rfl, ⟨dy, d', eb', ed2⟩, tgt_low rm.ok lc, ?_⟩
    refine ⟨_, .inr (ch c), rfl, hp.2, ?_, fun b' o hb e => by rw [upd_ne hb]; exact hp.1 _ _ hb e, ?_⟩
    · unfold ldK
      rw [List.length_map, List.length_map, List.length_take, abcN_len]
      have : sizeLine = 16777216 := rfl
      omega
    · rw [upd_same, ldK_take (fun c => tgt N (tgt M c)) hc]
  obtain ⟨s1, eD⟩ := hp
  rw [abc_size, show abcN.take 26 = abcN by rw [List.take_of_length_le (by rw [abcN_len]; exact Nat.le_refl _)]] at eD
  have okA := all_ok lg
  have lA : (allL fun c => tgt N (tgt M c)).length = 26 := by unfold allL; rw [List.length_map, abcN_len]
  refine ⟨D, (allL fun c => tgt N (tgt M c)).map (fun p => ch p.1), (allL fun c => tgt N (tgt M c)).map (fun p => vc p.2), rfl, (by rw [zip_ld]; exact eD), by rw [List.length_map, List.length_map], by rw [List.length_map, lA]; decide, ⟨_, rfl, okA⟩, fun x dx nx ndx nxd => ?_⟩
  refine ⟨x, dx, _, rfl, rfl, rfl, okA, upd_same, fun H4 O pO bx rO => ⟨rfl, ?_⟩⟩
  refine q x O H4 (ren_of okA pO) (fun y => ?_) (fun b o e => ?_) ?_ rO
  · rw [tgt_same okA pO]
    by_cases hy : lowc y
    · exact all_in hy
    · rw [all_out hy, out_low rm.ok hy, out_low rn.ok hy]
  · have e1 := s1 _ _ (ne_of_none e nD) e
    have bx' : b ≠ x := ne_of_none e1 nx
    have bdx : b ≠ dx := ne_of_none e1 ndx
    exact bx _ _ bx' (by rw [upd_ne bx', upd_ne bdx]; exact e1)
  · cases hx : H x with
    | none => rfl
    | some o => rw [s1 _ _ (ne_of_none hx nD) hx] at nx; cases nx
end
/-! ### own errors with one field, over ValueError or LookupError -/
section
open PySem.Builtin PySem.Builtin.ObjectAttr PySem.HandSPX
/-- own classes, then the mro of the built-in one -/
def refsT (tail : List Value) : List Value → Bool
  | .ref _ :: r => refsT tail r
  | l => l == tail
/-- a family of errors: what the library says of its built-in class -/
structure Fam (B newId initId : String) (tail : List Value) : Prop where
  facts : ExcBaseFacts B newId initId tail
  pass : ∀ self, refuseLoop self "__setattr__" tail = pure ()
  obj : tail.contains (.type "object") = true
theorem famV : Fam "ValueError" "ValueError.__new__" "ValueError.__init__" [.type "ValueError", .type "Exception", .type "BaseException", .type "object"] := ⟨F.excBase_ValueError, fun self => F.store_ValueError.passes self, by decide +kernel⟩
theorem famL : Fam "LookupError" "LookupError.__new__" "LookupError.__init__" [.type "LookupError", .type "Exception", .type "BaseException", .type "object"] := ⟨F.excBase_LookupError, fun self => F.store_LookupError.passes self, by decide +kernel⟩
theorem refsT_or {tail : List Value} (l : List Value) (h : refsT tail l = true) : (∃ c r, l = .ref c :: r ∧ refsT tail r = true) ∨ l = tail := by
  unfold refsT at h
  split at h
  · exact .inl ⟨_, _, rfl, h⟩
  · exact .inr (beq_iff_eq.mp h)
theorem refsT_all {tail : List Value} {Good : List Value → Prop} (h0 : Good tail) (hs : ∀ c r, Good r → Good (.ref c :: r)) : ∀ l : List Value, refsT tail l = true → Good l
  | [], h => by
    rcases refsT_or [] h with ⟨_, _, e, _⟩ | e
    · cases e
    · rw [e]; exact h0
  | a :: r, h => by
    rcases refsT_or (a :: r) h with ⟨c, r', e, h'⟩ | e
    · cases e
      exact hs c r (refsT_all h0 hs r h')
    · rw [e]; exact h0
variable {B newId initId : String} {tail : List Value}
theorem Fam.passes (fam : Fam B newId initId tail) (self : Value) (l : List Value) (h : refsT tail l = true) : refuseLoop self "__setattr__" l = pure () :=
  refsT_all (Good := fun l => refuseLoop self "__setattr__" l = pure ()) (fam.pass self) (fun c r e => by rw [refuseLoop_ref]; exact e) l h
theorem refsT_has (X : String) (l : List Value) (h : refsT tail l = true) : l.contains (.type X) = tail.contains (.type X) :=
  refsT_all (Good := fun l => l.contains (.type X) = tail.contains (.type X)) rfl (fun c r e => by rw [List.contains_cons, e]; rfl) l h
theorem Fam.some (fam : Fam B newId initId tail) (l : List Value) (h : refsT tail l = true) : l.isEmpty = false := by
  cases l with
  | nil =>
    have e := refsT_has "object" [] h
    rw [fam.obj] at e
    exact absurd e (by decide)
  | cons _ _ => rfl
/-- the first field of an error -/
theorem first_field {prog : Program} {w : World} {A : Around} {R : Result → Shared → Prop} {hp : Heap} {g : Array GenState} {d : Drawn} {t : Nat} {os : OsState} {K : PySem.W.Frag} {name : Str} {tk : Tok} {v : Value} {x C : Addr} {fv : Array Value} {cd : ClassData}
    (fam : Fam B newId initId tail) (inK : K.In hp) (isX : hp.get? x = some { cls := .ref C, data := .fields fv }) (isC : PySem.W.clsIn K C = some cd)
    (isM : refsT tail cd.mro = true) (dict : cd.hasDict = true) (free : PySem.W.findIn K (.ref C) name = some none)
    (done : ∀ h' tk' dx, (∀ b o, b ≠ x → hp.get? b = some o → h'.get? b = some o) → hp.objs.size ≤ dx → dx ≠ x →
      h'.get? x = some { cls := .ref C, dict := some dx, data := .fields fv } → h'.Ns1 dx (fun y => if y = name then some v else none) → R (.ok (.ret .none)) ⟨h', g, d, tk', os⟩) :
    codeAny (model prog w) A (.call (.builtin "object.__setattr__") ⟨[.ref x, .str name tk, v], []⟩) R ⟨hp, g, d, t, os⟩ := by
  have at0 : PySem.W.InstAt hp x { cls := .ref C, data := .fields fv } C none := ⟨isX, rfl, rfl, trivial⟩
  have store := PySem.F.store_object
  have hasObj : cd.mro.contains (.type "object") = true := (refsT_has "object" _ isM).trans fam.obj
  have notNew : x ≠ hp.objs.size := Nat.ne_of_lt (Heap.lt_size isX)
  have isSub : PySem.W.Looks (model prog w) hp (isInstance (.ref x) (.type "object")) true := by
    refine at0.type.andThen (PySem.W.looks_mroIn inK ?_)
    unfold PySem.W.mroIn
    rw [isC, Option.bind_some, if_neg (by rw [fam.some _ isM]; decide), hasObj]
  refine codeAny_call_builtin store.slot.plain store.entry ?_
  refine @PySem.W.check_slot (model prog w) _ _ ⟨hp, g, d, t, os⟩ "object.__setattr__" "object" "__setattr__" (.ref x) [.str name tk, v] [] _ store.kind store.split isSub
    (store.args (.ref x) (.str name tk) v) ?_
  have mroL : PySem.W.Looks (model prog w) hp (mroOf (.ref C)) cd.mro := (PySem.W.looks_clsIn inK isC).andThen .now
  have noTaker : PySem.W.Looks (model prog w) hp (storeTaker? none) none := .now
  have clsL : PySem.W.Looks (model prog w) hp (classData C) cd := PySem.W.looks_clsIn inK isC
  rw [PySem.W.osa_eq, refuse_eq]
  refine wpAny_bind (wpAny_bind (at0.type.at (wpAny_bind (mroL.at ?_))))
  rw [fam.passes _ _ isM]
  refine wpAny_pure (wpAny_bind (at0.type.at (wpAny_bind ((PySem.W.looks_findIn inK free).at ?_))))
  refine wpAny_bind (noTaker.at ?_)
  show wpAny _ _ (storeInOwnDict (.ref x) (.ref C) (.str name tk) name v false) _ _ _
  obtain ⟨nm, bs, mro, nsA, qn, hd, sn, sb, ab, col, del⟩ := cd
  dsimp only at dict
  subst dict
  unfold storeInOwnDict ownDictForStores
  repeat (first
    | with_reducible refine store_in_new ?_ ?_
    | with_reducible refine wpAny_loadPart_at isX ?_
    | with_reducible refine clsL.at ?_
    | wp_step)
  · refine ⟨_, #[], _, (Heap.get?_update_ne _ _ _ _ notNew.symm).trans (Heap.get?_push_at rfl rfl), rfl, ?_, fun _ => rfl⟩
    intro e he
    exact absurd he (by simp)
  · intro h' tk' ns1 same
    have isX1 : (hp.push { cls := .type "dict", data := .dict #[] }).get? x = some { cls := .ref C, data := .fields fv } := Heap.get?_push_of_some _ isX
    refine done h' tk' hp.objs.size ?_ (Nat.le_refl _) notNew.symm ?_ ns1
    · intro b o hb ho
      refine (same.2 b (Nat.ne_of_lt (Heap.lt_size ho))).trans ?_
      exact (Heap.get?_update_ne _ _ _ _ hb).trans (Heap.get?_push_of_some _ ho)
    · exact (same.2 x notNew).trans (Heap.get?_update_self _ isX1 rfl)
end
/-! ### errors with the field letter -/
def iA_letter (p1 p2 : Pos) : Arguments := { posonlyargs := [], args := [{ arg := "self", annotation := none, pos := p1 }, { arg := "letter", annotation := none, pos := p2 }], vararg := none, kwonlyargs := [], kw_defaults := [], kwarg := none, defaults := [] }
def iB_letter (q1 q2 q3 q4 : Pos) : List Stmt := [.Assign [.Attribute (.Name "self" q1) "letter" q2] (.Name "letter" q3) q4]
def iS_letter : Scope := { kind := .function, names := [(PySem.Str.ofString "self", .local), (PySem.Str.ofString "letter", .local)], isGenerator := false, isCoroutine := false, more := [] }
/-- what the written part says of the class cn, at C, and of its __init__, at fI -/
structure Err_letter (K : PySem.W.Frag) (mg : Str → Option Value) (newId : String) (tail : List Value) (cn qn : Str) (C fI : Addr) : Prop where
  gC : mg cn = some (.ref C)
  nd : (cn == ("__debug__" : Str)) = false
  cls : ∃ nm q N bs bm sn sub ab col dd k0 k1 k2 k3 k5, K.lookup C = some (excClassObj nm q C N bs bm true sn sub ab col dd k0 k1 k2 k3 k5 newId) ∧ refsT tail bm = true
  sa : PySem.W.findIn K (.ref C) "__setattr__" = some (some (.builtin "object.__setattr__"))
  ga : PySem.W.findIn K (.ref C) "__getattribute__" = some (some (.builtin "BaseException.__getattribute__"))
  gg : PySem.W.findIn K (.ref C) "__getattr__" = some none
  noN : PySem.W.findIn K (.ref C) "letter" = some none
  iC : PySem.W.findIn K (.ref C) "__init__" = some (some (.ref fI))
  tC : PySem.W.typeIn K (.ref fI) = some (.type "function")
  kC : PySem.W.keepIn K (.ref C) = true
  exC : PySem.W.subIn K (.ref C) (.type "BaseException") = some true
  tyC : PySem.W.typeIn K (.ref C) = some (.type "type")
  hdC : PySem.W.hasDictIn K C = true
  fn : ∃ (oc : Value) (od : Option Addr) (doc pm : Value) (an : Option Addr) (cdv ct : Value) (osl : Array (Option Value)) (p1 p2 q1 q2 q3 q4 : Pos),
    K.lookup fI = some ⟨oc, od, .func (PySem.W.fnOf "__init__" qn (iA_letter p1 p2) (iB_letter q1 q2 q3 q4) iS_letter .none .none doc pm an cdv ct), osl⟩ ∧ PySem.W.codeIn K cdv qn = true
section
open PySem.Builtin PySem.Builtin.ObjectAttr PySem.HandSPX
variable {prog : Program} {w : World} {A : Around} {E : Value → Shared → Prop} {R : Result → Shared → Prop} {s : Shared} {K : PySem.W.Frag} {mg : Str → Option Value} {C fI : Addr} {B newId initId : String} {tail : List Value} {cn qn : Str}
theorem init_letter (fam : Fam B newId initId tail) (T : Err_letter K mg newId tail cn qn C fI) {x t0 : Addr} {v : Value} (inK : K.In s.heap) (lim : s.heap.NoLimit) (isX : s.heap.get? x = some (excO C t0)) (offK : K.lookup x = none) (room : A.depth < recursionLimit)
    (done : ∀ h' tk dx, (∀ b o, b ≠ x → s.heap.get? b = some o → h'.get? b = some o) → h'.get? x = some { cls := .ref C, dict := some dx, data := .fields #[.ref t0, .none, .none, .none, .bool false, .none] } → s.heap.objs.size ≤ dx → dx ≠ x →
      h'.Ns1 dx (fun y => if y = "letter" then some v else none) → R (.ok (.ret .none)) { s with heap := h', toks := tk }) :
    codeAny (model prog w) A (.call (.ref fI) ⟨[.ref x, v], []⟩) R s := by
  obtain ⟨oc, od, doc, pm, an, cdv, ct, osl, p1, p2, q1, q2, q3, q4, isF, isCode⟩ := T.fn
  obtain ⟨nm, q, N, bs, bm, sn, sub, ab, col, dd, k0, k1, k2, k3, k5, isC, isM⟩ := T.cls
  have cls : PySem.W.clsIn K C = some { name := nm, bases := bs, mro := .ref C :: bm, ns := N, qualname := q, hasDict := true, slotNames := sn, subclasses := sub, abstract := ab, collection := col, hasDel := false } := by
    unfold PySem.W.clsIn
    rw [isC] <;> rfl
  refine Att.call_fn (binds := [("self", .ref x), ("letter", v)]) inK lim isF isCode room (BindsTo.of_eq (by first | rfl | with_unfolding_all rfl)) (by first | rfl | decide | with_unfolding_all rfl) (fun s₁ IC => ?_) rfl rfl rfl
  obtain ⟨h₁, tk₁, rfl⟩ := IC.toInCall.same
  have keep : ∀ b o, s.heap.get? b = some o → h₁.get? b = some o := IC.toInCall.keep
  have locals := IC.toInCall.ns
  have inK₁ : K.In h₁ := inK.keeps keep
  have isX₁ := keep _ _ isX
  show wpAny _ _ (execs _ _) _ _ _
  refine wpAny_execs_cons (plainObj_wpAny_Assign_Attribute ?_)
  refine wpAny_Name (wpAny_loadName_local (by rfl) (by rfl) locals (v := v) (by first | rfl | with_unfolding_all rfl | kernel_rfl) ?_) (by decide)
  refine wpAny_Name (wpAny_loadName_local (by rfl) (by rfl) locals (v := .ref x) (by first | rfl | with_unfolding_all rfl | kernel_rfl) ?_) (by decide)
  refine PySem.W.set_plain inK₁ (ox := excO C t0) (od := none) ⟨isX₁, rfl, rfl, trivial⟩ T.sa ?_
  refine first_field fam inK₁ isX₁ cls (show refsT tail (.ref C :: bm) = true from isM) rfl T.noN (fun h₃ tk₃ dx k₃ dn dne hx₃ hn₃ => ?_)
  show wpAny _ _ (execs _ _) _ _ _
  have z : s.heap.objs.size < h₁.objs.size := locals.lt
  exact wpAny_execs_nil (done h₃ tk₃ dx (fun b o hb e => k₃ b o hb (keep b o e)) hx₃ (Nat.le_of_lt (Nat.lt_of_lt_of_le z dn)) dne hn₃)
/-- a made error -/
structure Made_letter (h h' : Heap) (e C d : Addr) (v : Value) : Prop where
  keep : ∀ b o, h.get? b = some o → h'.get? b = some o
  new : h.objs.size ≤ e
  obj : ∃ oe vs, h'.get? e = some oe ∧ oe.cls = .ref C ∧ oe.dict = some d ∧ oe.data = .fields vs ∧ vs[1]? = some .none
  dbig : h.objs.size ≤ d
  dne : d ≠ e
  ns : h'.Ns1 d (fun y => if y = "letter" then some v else none)
theorem made_letter (fam : Fam B newId initId tail) (T : Err_letter K mg newId tail cn qn C fI) {v : Value} (inK : K.In s.heap) (lim : s.heap.NoLimit) (room : A.depth + 1 < recursionLimit)
    (done : ∀ h' tk e d, Made_letter s.heap h' e C d v → R (.ok (.ret (.ref e))) { s with heap := h', toks := tk }) :
    codeAny (model prog w) A (.call (.ref C) ⟨[v], []⟩) R s := by
  obtain ⟨nm, q, N, bs, bm, sn, sub, ab, col, dd, k0, k1, k2, k3, k5, isC, isM⟩ := T.cls
  obtain ⟨hp, g, dr, tk, os⟩ := s
  have keep : ∀ b o, hp.get? b = some o → ((hp.push (PySem.W.kdv_tup [v])).push (excO C hp.objs.size)).get? b = some o := fun b o e => Heap.get?_push_of_some _ (Heap.get?_push_of_some _ e)
  have isE : ((hp.push (PySem.W.kdv_tup [v])).push (excO C hp.objs.size)).get? (hp.objs.size + 1) = some (excO C hp.objs.size) := by heap_get
  have offK : K.lookup (hp.objs.size + 1) = none := by
    cases e : K.lookup (hp.objs.size + 1) with
    | none => rfl
    | some o => exact absurd (Nat.lt_of_succ_lt (Heap.lt_size (inK _ _ e))) (Nat.lt_irrefl _)
  refine call_own fam.facts (fun X => refsT_has X bm isM) (inK _ _ isC) (PySem.W.looks_findIn inK T.iC) (fun self => PySem.W.bind_fn inK self T.tC) (by show 1 ≤ sizeLine; decide) ?_
  refine init_letter (s := ⟨(hp.push (PySem.W.kdv_tup [v])).push (excO C hp.objs.size), g, dr, tk, os⟩) fam T (inK.keeps keep) (lim.keeps keep) isE offK ?_ fun h' tk' dx k' hx dn dne hns => ?_
  · show A.depth + 1 < recursionLimit
    exact room
  · have old : ∀ b o, hp.get? b = some o → h'.get? b = some o := fun b o e => k' b o (Nat.ne_of_lt (Nat.lt_succ_of_lt (Heap.lt_size e))) (keep b o e)
    have z : hp.objs.size + 1 + 1 ≤ dx := by
      have y := dn
      rw [Heap.size_push, Heap.size_push] at y
      exact y
    exact ⟨rfl, done h' tk' (hp.objs.size + 1) dx ⟨old, Nat.le_succ _, ⟨_, _, hx, rfl, rfl, rfl, rfl⟩, (show hp.objs.size ≤ dx by omega), dne, hns⟩⟩
end
theorem rel_letter {v : V} {u : Value} (r : RelV v u) (f : Str) : RelO (List.lookup f [(("letter" : Str), v)]) (if f = "letter" then some u else none) := by
  by_cases h : f = "letter"
  · subst h
    rw [if_pos rfl, show List.lookup ("letter" : Str) [(("letter" : Str), v)] = some v by simp [List.lookup]]
    exact r
  · have e : (f == ("letter" : Str)) = false := by simpa using h
    rw [if_neg h, show List.lookup f [(("letter" : Str), v)] = none by simp [List.lookup, e]]
    trivial
section
variable {X : Cx} {C fI : Addr} {B newId initId : String} {tail : List Value} {cn qn : Str}
/-- cn(e) -/
def tMk_letter (C : Addr) (ta : TA) : L2.St → Hp → XK → Prop := fun σ H Q => ta σ H fun vs H1 => ∃ v, vs = [v] ∧ ∀ d, H1 d = none → Q (.ref C) (some d) (upd H1 d (.xd [(("letter" : Str), v)]))
theorem pmk_letter {a : Expr} {ta : TA} {p pos : Pos} {k : Nat} (fam : Fam B newId initId tail) (T : Err_letter X.K X.mg newId tail cn qn C fI) (hr : Room k X.A) (ha : PA X [a] ta) (hg : Gl X cn)
    (he : starEach (a :: []) X.env = (false, eval a X.env) :: starEach [] X.env := by rfl) (hpl : (backTo pos (starEach [] X.env)).any (·.1) = false := by rfl) :
    PMk X (.Call (.Name cn p) [a] [] pos) (tMk_letter C ta) := by
  intro pins s σ H Q I h
  refine wpAny_Call_Name_kw (ld_glob I hg T.gC ?_ T.nd)
  refine PySem.W.callWith_K (h₀ := X.base) I.ok.mod.kin T.kC (thn (ha.run pos pins s σ H _ I h) ?_) he hpl
  rintro us s1 ⟨vs, H1, I1, r1, v, rfl, q1⟩
  refine ⟨I1.kIn, ?_⟩
  cases r1 with
  | @cons _ v' _ us' rv rn =>
    cases rn
    show wpAny _ _ (call (.ref C) [v']) _ _ _
    have lim := I1.nolimit
    obtain ⟨hp, g, dr, tk, os⟩ := s1
    refine wpAny_call (made_letter fam T I1.kIn lim (by have := hr.dp; omega) fun h' tk' e d M => ?_)
    show MkP X pins σ Q (.ref e) ⟨h', g, dr, tk', os⟩
    obtain ⟨oe, fv, hoe, hc, hd, hdat, h1⟩ := M.obj
    obtain ⟨G', g1, g2⟩ := restrict h' fun b => decide (b ≠ e)
    have gk : ∀ b, b ≠ e → G'.get? b = h'.get? b := fun b hb => g1 b (decide_eq_true hb)
    have ge : G'.get? e = none := g2 e (by simp)
    have old : ∀ b o, hp.get? b = some o → G'.get? b = some o := by
      intro b o z
      refine (gk b (Nat.ne_of_lt (Nat.lt_of_lt_of_le (Heap.lt_size z) M.new))).trans ?_
      exact M.keep b o z
    have ok : ObjOk X.prog X.w (upd H1 d (.xd [(("letter" : Str), v)])) G' d (.xd [(("letter" : Str), v)]) :=
      ⟨_, M.ns.at (fun o z => (gk d M.dne).trans z), fun f => rel_letter rv f⟩
    have J : Inv X pins σ (upd H1 d (.xd [(("letter" : Str), v)])) ⟨G', g, dr, tk', os⟩ := I1.laid (t' := tk') old M.dbig ok
    refine ⟨e, oe, fv, ⟨G', g, dr, tk', os⟩, _, .ref C, some d, rfl, J, ?_, ge, hoe, ⟨hc, hd⟩, hdat, h1, ?_, rfl, I1.bare, raises_own T.exC T.tyC, q1 d (I1.hok.fresh M.dbig)⟩
    · intro b o z
      by_cases hb : b = e
      · have z' : G'.get? b = some o := z
        rw [hb, ge] at z'
        cases z'
      · exact (gk b hb).symm.trans z
    · rw [upd_ne (Ne.symm M.dne)]
      exact I1.hok.fresh M.new
/-- raise cn(e) -/
def tRaise_letter (C : Addr) (W : WX) (ta : TA) : TS := fun _ σ H => tMk_letter C ta σ H fun cls d H' => W cls d σ H'
theorem ps_raise_letter {a : Expr} {ta : TA} {W : WX} {p pos pos2 : Pos} {k : Nat} (hc : X.calm = true) (fam : Fam B newId initId tail) (T : Err_letter X.K X.mg newId tail cn qn C fI) (hr : Room k X.A) (tk : Takes X W) (ha : PA X [a] ta) (hg : Gl X cn)
    (he : starEach (a :: []) X.env = (false, eval a X.env) :: starEach [] X.env := by rfl) (hpl : (backTo pos (starEach [] X.env)).any (·.1) = false := by rfl) :
    PS X (.Raise (some (.Call (.Name cn p) [a] [] pos)) none pos2) (tRaise_letter C W ta) := ps_raise hc tk (pmk_letter fam T hr ha hg he hpl)
/-- err.letter, err the error that the suite holds (at a; its class cls, its dict d) -/
def tFld_letter (C : Addr) (a : Addr) (cls : Value) (d : Option Addr) (te : TE) : TE := fun σ H Q => te σ H fun x H1 => x = .ref a ∧ cls = .ref C ∧ ∃ (dd : Addr) (v : V), d = some dd ∧ H1 dd = some (.xd [(("letter" : Str), v)]) ∧ Q v H1
theorem pe_fld_letter {a : Addr} {oe : Obj} {cls : Value} {d : Option Addr} {pn : List (Addr × Obj)} {e : Expr} {te : TE} {pos : Pos} (T : Err_letter X.K X.mg newId tail cn qn C fI) (hz : Zc cls d oe) (hf : ∃ vs, oe.data = .fields vs) (he : PE (X.suite a ((a, oe) :: pn)) e te)
    (hb : attributeBase e "letter" X.env (eval e X.env) = eval e X.env := by rfl) :
    PE (X.suite a ((a, oe) :: pn)) (.Attribute e "letter" pos) (tFld_letter C a cls d te) := by
  constructor
  intro pins s σ H Q I h
  refine attr_of hb (thn (he.run pins s σ H _ I h) ?_)
  rintro u s1 ⟨x, H1, I1, rx, rfl, rfl, dd, v, rfl, ea, q⟩
  cases rx
  obtain ⟨ha, _⟩ := I1.pin (a, oe) (List.mem_append_left _ List.mem_cons_self)
  obtain ⟨vs, hd⟩ := hf
  have ok : ObjOk X.prog X.w H1 s1.heap dd (.xd [(("letter" : Str), v)]) := I1.hok dd _ ea
  obtain ⟨mA, hns, hr⟩ := ok
  obtain ⟨od, ho, hl⟩ := lookIn_ns hns
  have look : List.lookup ("letter" : Str) [(("letter" : Str), v)] = some v := by simp [List.lookup]
  obtain ⟨u, hu, ru⟩ := RelO.some_of (v := v) (o := mA "letter") (by rw [← look]; exact hr "letter")
  have J : PySem.W.InstAt s1.heap a oe C (some od) := ⟨ha, hz.1, by unfold PySem.W.notCls; rw [hd] <;> rfl, by rw [hz.2]; exact ho⟩
  exact HandSPX.exc_get I1.kIn J T.ga T.gg T.exC (PySem.W.findObj_own T.hdC T.noN rfl (by rw [hl, hu])) (handed_of ru) ⟨v, H1, I1.tok _, ru, q⟩
end
/-! ### xs.count(x) of data -/
theorem ty_list_count : PySem.typeOf (.builtin "list.count") = pure (.type "method_descriptor") := by show builtinType _ = _; rw [builtinType_eq_fast]; kernel_rfl
def rCountD (K : PySem.W.Frag) : V → List V → Hp → VK → Prop := fun x xs H Q => ∃ (a : Addr) (y : V) (d : PyData) (ds : List PyData), x = .ref a ∧ xs = [y] ∧ Dp K H (.ref a) (.list ds) ∧ Dp K H y d ∧ SeqAt.shaped (.list ds) = true ∧ SeqAt.shaped d = true ∧ Q (.int ((ds.countP fun y => PyData.eqv y d : Nat) : Int)) H
theorem mt_countD {X : Cx} (hu : X.A.units + 65 < cLine) : MtR X "list.count" (rCountD X.K) := by
  intro pins s σ H x xs v us Q I rx rxs h
  obtain ⟨a, y, d, ds, rfl, rfl, hl, hy, sl, sd, q⟩ := h
  cases rx
  cases rxs with
  | cons ry rt =>
    rename_i uy ut
    cases rt
    obtain ⟨bs, r1⟩ := Dp.reads I d y uy hy ry
    have hxs : PyData.canLayAll0 ds = true := SeqAt.canLay_of_shaped sl
    have hroom : X.A.units + 1 + min (PyData.depthAll ds) d.depth < cLine := PyProof.Rows.room_in_shaped sd hu
    cases hl with
    | lst hs ha =>
      obtain ⟨its, rv, ⟨⟨cls, dd, data, sls⟩, n, ho, hc, hdn, hdt⟩, hlen⟩ := I.list hs
      simp only at hc hdt
      subst hc hdt
      obtain ⟨as, h4⟩ := Dp.readsAll I ds _ its ha rv
      have hmap : its.map (SeqAt.readOf s.heap) = ds := SeqAt.readsAll_map ds its as hxs h4
      have hcnt : its.toArray.toList.countP (fun u => PyData.eqv (SeqAt.readOf s.heap u) d) = ds.countP fun y => PyData.eqv y d := by
        rw [← hmap, List.countP_map]
        rfl
      refine call_meets PySem.F.slot_list_count ⟨_, ho, rfl⟩ PySem.F.entry_list_count (PySem.F.args_list_count_2 _ _) (SeqAt.list_countAt a its.toArray n dd sls uy (fun u => PyData.eqv (SeqAt.readOf s.heap u) d))
        ⟨ho, SeqAt.items_eqAt (vs := its.toArray) (show ReadsAll s.heap its.toArray.toList ds as from h4) r1 hxs (SeqAt.canLay_of_shaped sd) hroom, ?_⟩
      rw [hcnt]
      exact ⟨.int _, H, I.tok _, ⟨_, rfl⟩, q⟩

def chsD (l : List Nat) : List PyData := l.map fun c => .str (ch c)
theorem dp_chs {K : PySem.W.Frag} {H : Hp} : ∀ l : List Nat, DpAll K H (l.map vc) (chsD l)
  | [] => .nil
  | _ :: l => .cons (.str _) (dp_chs l)
theorem eqv_ch (a b : Nat) : PyData.eqv (.str (ch a)) (.str (ch b)) = decide (a = b) := by
  by_cases h : a = b
  · subst h; rw [decide_eq_true rfl]; simp [PyData.eqv]
  · rw [decide_eq_false h]
    have : ¬ ch a = ch b := fun z => h (ch_inj z)
    simp [PyData.eqv, this]
theorem eqv_chs : ∀ l m : List Nat, PyData.eqv (.list (chsD l)) (.list (chsD m)) = decide (l = m)
  | [], [] => by simp [chsD, PyData.eqv, PyData.eqvAll]
  | [], _ :: _ => by simp [chsD, PyData.eqv, PyData.eqvAll]
  | _ :: _, [] => by simp [chsD, PyData.eqv, PyData.eqvAll]
  | a :: l, b :: m => by
    have ih := eqv_chs l m
    have e := eqv_ch a b
    simp only [chsD, List.map_cons, PyData.eqv, PyData.eqvAll] at ih e ⊢
    rw [ih, e]
    by_cases h1 : a = b <;> by_cases h2 : l = m <;> simp [h1, h2]
theorem str_ok {a : Nat} (h : a < 128) : PyData.strOk (ch a) = true := by
  simp [PyData.strOk, ch]
  omega
theorem shaped_chs (l : List Nat) (hl : ∀ c ∈ l, c < 128) : SeqAt.shaped (.list (chsD l)) = true := by
  have h : ∀ l : List Nat, (∀ c ∈ l, c < 128) → PyData.canLayAll0 (chsD l) = true ∧ PyData.depthAll (chsD l) = 0 := fun l => by
    induction l with
    | nil => exact fun _ => ⟨by simp [chsD, PyData.canLayAll0], by simp [chsD, PyData.depthAll]⟩
    | cons a l ih =>
      intro hl
      obtain ⟨h1, h2⟩ := ih fun c hc => hl c (List.mem_cons_of_mem _ hc)
      have ha := hl a List.mem_cons_self
      have hs : PySem.PyData.canLay0 (.str (ch a)) = true := by
        simp only [PyData.canLay0]
        exact str_ok ha
      unfold chsD at *
      simp [PyData.canLayAll0, PyData.depthAll, PyData.depth, hs, h1, h2]
  obtain ⟨h1, h2⟩ := h l hl
  simp [SeqAt.shaped, PyData.canLay0, PyData.depth, h1, h2]
section
variable {P : Program} {w : World} {K : PySem.W.Frag} {mg : Str → Option Value} {base : Heap} {f : Addr} {fd : FuncData}
end
theorem room_u1 {k : Nat} {A : Around} (r : Room k A) : A.units + 65 < cLine := by have := r.un; omega
theorem count_chs (c : Nat) : ∀ l : List Nat, (chsD l).countP (fun y => PyData.eqv y (.str (ch c))) = l.countP (fun y => y == c)
  | [] => rfl
  | a :: l => by
    have ih := count_chs c l
    unfold chsD at ih ⊢
    rw [List.map_cons, List.countP_cons, List.countP_cons, ih, eqv_ch]
    by_cases h : a = c <;> simp [h]
theorem shaped_ch {c : Nat} (h : c < 128) : SeqAt.shaped (.str (ch c)) = true := by
  have hs : PySem.PyData.canLay0 (.str (ch c)) = true := by
    simp only [PyData.canLay0]
    exact str_ok h
  simp [SeqAt.shaped, PyData.depth, hs]
/-! ### -a -/
def timesIn (M : Ld) (c : Nat) : Nat := (abcN.map (tgt M)).countP (fun y => y == c)
def twice (M : Ld) : Option Nat := abcN.find? fun c => decide (1 < timesIn M c)
/-- no letter is reached twice -/
def one1 (M : Ld) : Prop := ∀ x y, lowc x → lowc y → tgt M x = tgt M y → x = y
theorem nodup_of_le {l : List Nat} (h : ∀ c ∈ l, l.countP (fun y => y == c) ≤ 1) : l.Nodup := by
  induction l with
  | nil => exact List.nodup_nil
  | cons a l ih =>
    have ha := h a List.mem_cons_self
    rw [List.countP_cons_of_pos (by simp)] at ha
    refine List.nodup_cons.mpr ⟨fun m => ?_, ih fun c hc => ?_⟩
    · have : 0 < l.countP (fun y => y == a) := List.countP_pos_iff.mpr ⟨a, m, by simp⟩
      omega
    · have := h c (List.mem_cons_of_mem _ hc)
      rw [List.countP_cons] at this
      omega
theorem find_at {α : Type} {p : α → Bool} : ∀ {l : List α} {i : Nat} {c : α}, l[i]? = some c → (l.take i).find? p = none → p c = true → l.find? p = some c
  | [], _, _, h, _, _ => by simp at h
  | a :: l, 0, c, h, _, hc => by
    cases (show a = c from Option.some.inj h)
    rw [List.find?_cons_of_pos hc]
  | a :: l, i + 1, c, h, hn, hc => by
    rw [List.take_succ_cons] at hn
    by_cases ha : p a = true
    · rw [List.find?_cons_of_pos ha] at hn
      cases hn
    · rw [List.find?_cons_of_neg ha] at hn ⊢
      exact find_at h hn hc
theorem twice_none {M : Ld} (ok : LdOk M) (h : twice M = none) : (abcN.map (tgt M)).Nodup := nodup_of_le fun c hc => by
  obtain ⟨x, hx, rfl⟩ := List.mem_map.mp hc
  have := List.find?_eq_none.mp h (tgt M x) (low_abc (tgt_low ok (abcN_low x hx)))
  have : ¬ 1 < timesIn M (tgt M x) := by simpa using this
  show timesIn M (tgt M x) ≤ 1
  omega
theorem twice_one {M : Ld} (ok : LdOk M) (h : twice M = none) : one1 M := fun x y hx hy e => by
  have nd := twice_none ok h
  obtain ⟨i, hi⟩ := List.mem_iff_getElem?.mp (low_abc hx)
  obtain ⟨j, hj⟩ := List.mem_iff_getElem?.mp (low_abc hy)
  have il := (List.getElem?_eq_some_iff.mp hi).1
  have h1 : (abcN.map (tgt M))[i]? = some (tgt M x) := by rw [List.getElem?_map, hi]; rfl
  have h2 : (abcN.map (tgt M))[j]? = some (tgt M x) := by rw [List.getElem?_map, hj, e]; rfl
  have := (List.getElem?_inj (by rw [List.length_map]; exact il) nd).mp (h1.trans h2.symm)
  subst this
  exact Option.some.inj (hi.symm.trans hj)
def backL (M : Ld) : Ld := abcN.map fun c => (tgt M c, c)
theorem back_ok {M : Ld} (ok : LdOk M) (h : twice M = none) : LdOk (backL M) :=
  ⟨by
    have := twice_none ok h
    unfold backL
    rw [List.map_map]
    exact this, fun p hp => by
    obtain ⟨c, hc, rfl⟩ := List.mem_map.mp hp
    exact ⟨tgt_low ok (abcN_low c hc), abcN_low c hc⟩⟩
theorem back_at {M : Ld} (ok : LdOk M) (h : twice M = none) {c : Nat} (hc : lowc c) : tgt (backL M) (tgt M c) = c :=
  tgt_mem (back_ok ok h).nd (List.mem_map.mpr ⟨c, low_abc hc, rfl⟩)
def spNegR (C CN : Addr) : Sp := fun vs H Q E => ∃ a M, vs = [.ref a] ∧ Rn C H a M ∧ Ren M ∧
  (twice M = none → ∀ c O H', Ren O → (∀ x, lowc x → tgt O (tgt M x) = x) → Same H H' → H c = none → Rn C H' c O → Q (.ref c) H') ∧
  (∀ t, twice M = some t → ∀ d H1, Same H H1 → H1 d = none → E (.ref CN) (some d) (upd H1 d (.xd [(("letter" : Str), vc t)])))
section
variable {P : Program} {w : World} {K : PySem.W.Frag} {mg : Str → Option Value} {base : Heap} {f fi : Addr} {fd : FuncData} {C gG CN fN : Addr} {qn : Str}
theorem ok_negR {tL : Tok} (F : Fun K "__neg__" "Renaming.__neg__" s_Renaming___neg__ f fd) (M : Mgs mg) (TD : RenC K mg C gG) (hNO : Err_letter K mg "ValueError.__new__" [.type "ValueError", .type "Exception", .type "BaseException", .type "object"] "NotOneToOne" qn CN fN) (mLET : mg "LETTERS" = some (.str "abcdefghijklmnopqrstuvwxyz" tL)) (gR : mg "Renaming" = some (.ref C)) (MK : L2.Mk K C fi) (Dget : FnR P w K mg base CX0 2 gG (spGet C))
    (Di : ∀ ks : List Str, (∃ L : Ld, ks = L.map (fun p => ch p.1) ∧ LdOk L) → FnKwX CX0 P w K mg base 2 fi 1 ks (spInitR C ks)) : FnOk P w K mg base (L2.CX P w) 5 f fd ["self"] (spNegR C CN) := by
  refine F.okX (k := 4) sc_Renaming___neg__ (fun vs H Q E h => ?_) (fun cdv A outer s H vs Q E hr h => ?_)
  · obtain ⟨a, M, rfl, _⟩ := h
    rfl
  obtain ⟨a, L, rfl, ra, rl, q1, q2⟩ := h
  refine ⟨_, (pss_cons (ps_setLc (i := 2) (own := [("letter", 1)]) (g := gName 1) (tt := tYes) (by rfl) sc_Renaming___neg__.nd rfl rfl (sw_true rfl rfl rfl (by decide +kernel)) (pi_str (pe_glob (v := .str _) rfl mLET ⟨_, rfl⟩)) (blkOk_by (N := ["self", "letter", "targets", "leads"]) (sc := defScope s_Renaming___neg__) (by decide +kernel)) (fun _ _ _ _ _ => (pg_name (i := 1) sc_Renaming___neg__.nd rfl (.inl rfl))) (fun _ _ _ _ _ => pts_nil) (fun _ _ _ _ _ => (pe_ixOwn TD.gi TD.gf TD.gn Dget (hr.mono (by omega)) (pv 0) (pv 1) (fun _ _ => rfl))))
    (pss_cons (ps_for (passes_of rfl) rfl (pi_str (pe_glob (v := .str _) rfl mLET ⟨_, rfl⟩)) (pg_name (i := 1) sc_Renaming___neg__.nd rfl (.inl rfl))
      (pss_one (ps_if (pt_cmpR op_gt (pe_bm PySem.F.plainAttrs_list PySem.F.slot_list_count ty_list_count (mt_countD (room_u1 hr)) (pv 2) (pa_cons (pv 1) pa_nil)) pe_int (nomark _))
      (pss_one (ps_raise_letter rfl famV hNO hr (takes_of rfl rfl rfl rfl) (pa_cons (pv 1) pa_nil) rfl)) pss_nil)))
    (pss_cons (ps_setDc (i := 3) (own := [("letter", 1)]) (g := gName 1) (tt := tYes) (by rfl) sc_Renaming___neg__.nd rfl rfl (sw_dict rfl rfl rfl (by decide +kernel)) (pi_str (pe_glob (v := .str _) rfl mLET ⟨_, rfl⟩)) (blkOk_by (N := ["self", "letter", "targets", "leads"]) (sc := defScope s_Renaming___neg__) (by decide +kernel)) (fun _ _ _ _ _ => (pg_name (i := 1) sc_Renaming___neg__.nd rfl (.inl rfl))) (fun _ _ _ _ _ => pts_nil) (fun _ _ _ _ _ => (pe_ixOwn TD.gi TD.gf TD.gn Dget (hr.mono (by omega)) (pv 0) (pv 1) (fun _ _ => rfl))) (fun _ _ _ _ _ => (pv 1)))
    (pss_one (ps_ret (pe_makeKdG (j := 3) MK Di (hr.mono (by omega)) pass0 rfl gR rfl (.inl rfl))))))), ?_⟩
  have lf : ∀ c, lowc c → lowc (tgt L c) := fun c => tgt_low rl.ok
  obtain ⟨dx, d, ea, ed⟩ := id ra
  refine ⟨_, rfl, fun D nD => ?_⟩
  refine lc_it (walk_str (z := Str.ofString "abcdefghijklmnopqrstuvwxyz")) (fun i H' => (∀ b o, b ≠ D → H b = some o → H' b = some o) ∧ H' D = some (.lst (((abcN.take i).map (tgt L)).map vc))) ⟨fun b o hb e => by rw [upd_ne hb]; exact e, upd_same⟩ (fun _ _ _ _ => trivial) (fun i y H' H'' hi hp hy => ?_) (fun H' hp => ?_)
  · obtain ⟨e1, c, hc, rfl⟩ := hy
    subst e1
    have hc := abc_get hc
    have lc := abcN_low c (List.mem_of_getElem? hc)
    have ea' := hp.1 _ _ (ne_of_none ea nD) ea
    have ed1 := hp.1 _ _ (ne_of_none ed nD) ed
    refine ⟨rfl, kept ?_⟩
    refine ⟨_, rfl, _, rfl, a, dx, _, rfl, ea', a, L, c, rfl, ⟨dx, d, ea', ed1⟩, lc, ?_⟩
    refine ⟨_, hp.2, ?_, fun b' o hb e => by rw [upd_ne hb]; exact hp.1 _ _ hb e, ?_⟩
    · rw [List.length_map, List.length_map, List.length_take, abcN_len]
      have : sizeLine = 16777216 := rfl
      omega
    · rw [upd_same, List.take_add_one, hc, List.map_append, List.map_append]
      rfl
  obtain ⟨s1, eD⟩ := hp
  rw [abc_size, show abcN.take 26 = abcN by rw [List.take_of_length_le (by rw [abcN_len]; exact Nat.le_refl _)]] at eD
  have sm : Same H H' := fun b o e => s1 _ _ (ne_of_none e nD) e
  have lows : ∀ c ∈ abcN.map (tgt L), c < 128 := fun c hc => by
    obtain ⟨x, hx, rfl⟩ := List.mem_map.mp hc
    have := (lf x (abcN_low x hx)).2
    omega
  have ra2 := ra.same sm
  refine ⟨_, rfl, ?_⟩
  refine for_it (walk_str (z := Str.ofString "abcdefghijklmnopqrstuvwxyz")) (fun i σ H2 => H2 = H' ∧ (∃ o1, σ = [some (.ref a), o1, some (.ref D), none]) ∧ (abcN.take i).find? (fun c => decide (1 < timesIn L c)) = none) ⟨rfl, ⟨_, rfl⟩, rfl⟩ (fun _ _ _ _ _ => trivial) (fun i y σ H2 H'' hi hp hy => ?_) (fun σ H2 hp => ?_)
  · obtain ⟨e1, c, hc, rfl⟩ := hy
    subst e1
    obtain ⟨rfl, ⟨o1, rfl⟩, hn⟩ := hp
    have hc := abc_get hc
    have lc := abcN_low c (List.mem_of_getElem? hc)
    have l128 : c < 128 := by have := lc.2; omega
    refine ⟨_, rfl, .inl ⟨rfl, _, SqL.of eD⟩, _, rfl, D, _, .str (ch c), chsD (abcN.map (tgt L)), rfl, rfl, .lst (SqL.of eD) (dp_chs _), .str _, shaped_chs _ lows, shaped_ch l128, ?_⟩
    rw [count_chs]
    refine ⟨_, _, rfl, rfl, _, rfl, ?_⟩
    by_cases h2 : 1 < timesIn L c
    · have e : decide ((1 : Int) < ((timesIn L c : Nat) : Int)) = true := decide_eq_true (by omega)
      show if decide ((1 : Int) < ((timesIn L c : Nat) : Int)) = true then _ else _
      rw [e]
      refine iteT ⟨_, rfl, _, rfl, fun dd ndd => ?_⟩
      exact q2 c (find_at hc hn (decide_eq_true h2)) dd _ sm ndd
    · have e : decide ((1 : Int) < ((timesIn L c : Nat) : Int)) = false := decide_eq_false (by omega)
      show if decide ((1 : Int) < ((timesIn L c : Nat) : Int)) = true then _ else _
      rw [e]
      refine iteF ⟨rfl, ⟨_, rfl⟩, ?_⟩
      rw [List.take_add_one, hc, List.find?_append, hn]
      simp [h2]
  obtain ⟨rfl, ⟨o1, rfl⟩, hn⟩ := hp
  rw [abc_size, show abcN.take 26 = abcN by rw [List.take_of_length_le (by rw [abcN_len]; exact Nat.le_refl _)]] at hn
  have tn : twice L = none := hn
  obtain ⟨dx2, d2, ea2, ed2⟩ := id ra2
  refine ⟨_, rfl, fun D2 nD2 => ?_⟩
  refine dc_it (walk_str (z := Str.ofString "abcdefghijklmnopqrstuvwxyz")) (fun i H3 => (∀ b o, b ≠ D2 → H2 b = some o → H3 b = some o) ∧ H3 D2 = some (.dK (ldK ((abcN.take i).map fun c => (tgt L c, c))))) ⟨fun b o hb e => by rw [upd_ne hb]; exact e, upd_same⟩ (fun _ _ _ _ => trivial) (fun i y H3 H'' hi hp hy => ?_) (fun H3 hp => ?_)
  · obtain ⟨e1, c, hc, rfl⟩ := hy
    subst e1
    have hc := abc_get hc
    have lc := abcN_low c (List.mem_of_getElem? hc)
    have ea' := hp.1 _ _ (ne_of_none ea2 nD2) ea2
    have ed1 := hp.1 _ _ (ne_of_none ed2 nD2) ed2
    refine ⟨rfl, kept ?_⟩
    refine ⟨_, rfl, _, rfl, a, dx2, _, rfl, ea', a, L, c, rfl, ⟨dx2, d2, ea', ed1⟩, lc, ?_⟩
    refine ⟨_, rfl, _, .inr (ch (tgt L c)), rfl, hp.2, ?_, fun b' o hb e => by rw [upd_ne hb]; exact hp.1 _ _ hb e, ?_⟩
    · unfold ldK
      rw [List.length_map, List.length_map, List.length_take, abcN_len]
      have : sizeLine = 16777216 := rfl
      omega
    · have nin : ¬ tgt L c ∈ ((abcN.take i).map fun c => (tgt L c, c)).map (·.1) := fun z => by
        rw [List.map_map] at z
        obtain ⟨y, hy, e⟩ := List.mem_map.mp z
        have e : tgt L y = tgt L c := e
        have yc := twice_one rl.ok tn y c (abcN_low y (List.mem_of_mem_take hy)) lc e
        subst yc
        exact take_new abcN_nd hc hy
      rw [upd_same, putK_new _ (val_out nin), List.take_add_one, hc]
      unfold ldK
      rw [List.map_append, List.map_append]
      rfl
  obtain ⟨s3, eD3⟩ := hp
  rw [abc_size, show abcN.take 26 = abcN by rw [List.take_of_length_le (by rw [abcN_len]; exact Nat.le_refl _)]] at eD3
  have okB := back_ok rl.ok tn
  have lB : (backL L).length = 26 := by unfold backL; rw [List.length_map, abcN_len]
  refine ⟨D2, (backL L).map (fun p => ch p.1), (backL L).map (fun p => vc p.2), rfl, (by rw [zip_ld]; exact eD3), by rw [List.length_map, List.length_map], by rw [List.length_map, lB]; decide, ⟨_, rfl, okB⟩, fun x dx nx ndx nxd => ?_⟩
  refine ⟨x, dx, _, rfl, rfl, rfl, okB, upd_same, fun H4 O pO bx rO => ⟨rfl, ?_⟩⟩
  have s3' : Same H H3 := fun b o e => s3 _ _ (ne_of_none (sm _ _ e) nD2) (sm _ _ e)
  refine q1 tn x O H4 (ren_of okB pO) (fun y hy => by rw [tgt_same okB pO]; exact back_at rl.ok tn hy) (fun b o e => ?_) ?_ rO
  · have e1 := s3' _ _ e
    have bx' : b ≠ x := ne_of_none e1 nx
    have bdx : b ≠ dx := ne_of_none e1 ndx
    exact bx _ _ bx' (by rw [upd_ne bx', upd_ne bdx]; exact e1)
  · cases hx : H x with
    | none => rfl
    | some o => rw [s3' _ _ hx] at nx; cases nx
end
/-! ### _law_to, _law_text -/
theorem found_tgt (c : Nat) : ∀ L : Ld, ((L.filter fun p => p.1 == c).map (·.2) ++ [c])[0]? = some (tgt L c)
  | [] => rfl
  | (a, b) :: L => by
    rw [tgt_cons]
    by_cases h : a = c
    · rw [List.filter_cons_of_pos (by simpa using h), if_pos h]; rfl
    · rw [List.filter_cons_of_neg (by simpa using h), if_neg h]
      exact found_tgt c L
theorem TabAt.same {H H' : Hp} {p : Addr} {L : Ld} (t : TabAt H p L) (s : Same H H') : TabAt H' p L := by
  obtain ⟨vs, h1, h2⟩ := t
  exact ⟨vs, s _ _ h1, h2.keep fun b xs e => s _ _ e⟩
def spTo : Sp := fun vs H Q _ => ∃ (p : Addr) (L : Ld) (c : Nat), vs = [.ref p, vc c] ∧ TabAt H p L ∧ L.length ≤ 26 ∧ ∀ H', Same H H' → Q (vc (tgt L c)) H'
def spText : Sp := fun vs H Q _ => ∃ (p : Addr) (L : Ld), vs = [.ref p] ∧ TabAt H p L ∧ L.length ≤ 26 ∧ ∀ H', Same H H' → Q (.str (rowText L)) H'
section
variable {P : Program} {w : World} {K : PySem.W.Frag} {mg : Str → Option Value} {base : Heap} {f : Addr} {fd : FuncData}
theorem ok_to (F : Fun K "_law_to" "_law_to" s__law_to f fd) (M : Mgs mg) : FnOk P w K mg base CX0 1 f fd ["_law_rows", "_law_letter"] spTo := by
  refine F.ok sc__law_to (fun vs H Q E h => ?_) (fun cdv A outer s H vs Q E hr h => ?_)
  · obtain ⟨p, L, c, rfl, _⟩ := h
    rfl
  obtain ⟨p, L, c, rfl, ⟨vs, ep, pr⟩, few, q⟩ := h
  refine ⟨_, (pss_cons (ps_setLc (i := 4) (own := [("_law_own", 2), ("_law_other", 3)]) (g := gTup K 2 (gCons (gName 2) (gCons (gName 3) gNil))) (by rfl) sc__law_to.nd rfl rfl (sw_true rfl rfl rfl (by decide +kernel)) (pi_list (pv 0)) (blkOk_by (N := ["_law_rows", "_law_letter", "_law_own", "_law_other", "_law_found"]) (sc := defScope s__law_to) (by decide +kernel)) (fun _ _ _ _ _ => (pg_tup rfl (pgs_cons (pg_name (i := 2) sc__law_to.nd rfl (.inl rfl)) (pgs_cons (pg_name (i := 3) sc__law_to.nd rfl (.inl rfl)) pgs_nil)))) (fun _ _ _ _ _ => pts_one (pt_cmpR op_eq (pv 2) (pv 1) (nomark _))) (fun _ _ _ _ _ => (pv 3)))
    (pss_one (ps_ret (pe_ix ix_list (pe_op op_cat (pv 4) (pe_lst (pa_cons (pv 1) pa_nil))) pe_int (fun _ _ => rfl))))), ?_⟩
  refine ⟨_, rfl, p, rfl, ⟨_, SqL.of ep⟩, fun D nD => ?_⟩
  have k1 := same_new nD (.lst [])
  have npD : p ≠ D := ne_of_none ep nD
  refine lc_it (walk_list (K := K) (a := p) (xs := vs)) (fun i H' => (∀ b o, b ≠ D → H b = some o → H' b = some o) ∧ H' D = some (.lst ((((L.take i).filter fun p => p.1 == c).map (·.2)).map vc))) ⟨fun b o hb e => by rw [upd_ne hb]; exact e, upd_same⟩ (fun i H' _ hp => SqL.of (hp.1 _ _ npD ep)) (fun i y H' H'' hi hp hy => ?_) (fun H' hp => ?_)
  · obtain ⟨e1, hy⟩ := hy
    subst e1
    obtain ⟨a, x, z, rfl, hL, ea⟩ := pr.get hy
    have naD : a ≠ D := ne_of_none ea nD
    have ea' := hp.1 _ _ naD ea
    refine ⟨a, _, rfl, SqT.of ea', rfl, _, _, rfl, _, _, rfl, rfl, rfl, ?_⟩
    have tk : L.take (i + 1) = L.take i ++ [(x, z)] := by rw [List.take_add_one, hL]; rfl
    refine ⟨_, rfl, _, rfl, rfl, _, rfl, ?_⟩
    have il : i < L.length := (List.getElem?_eq_some_iff.mp hL).1
    by_cases hx : x = c
    · have e : decide (vc x = vc c) = true := decide_eq_true (by rw [hx])
      rw [e]
      refine iteT ⟨_, rfl, _, hp.2, ?_, fun b o hb h => by rw [upd_ne hb]; exact hp.1 _ _ hb h, ?_⟩
      · rw [List.length_map, List.length_map]
        have := List.length_filter_le (fun p : Nat × Nat => p.1 == c) (L.take i)
        have h2 : (L.take i).length ≤ 26 := by rw [List.length_take]; omega
        have h3 : sizeLine = 16777216 := rfl
        omega
      · rw [upd_same, tk, List.filter_append, List.map_append, List.map_append]
        rw [List.filter_cons_of_pos (a := (x, z)) (by simpa using hx)]
        rfl
    · have e : decide (vc x = vc c) = false := decide_eq_false fun z => hx (ch_inj (by injection z))
      rw [e]
      refine iteF ⟨hp.1, ?_⟩
      rw [tk, List.filter_append, List.filter_cons_of_neg (a := (x, z)) (by simpa using hx), List.filter_nil, List.append_nil]
      exact hp.2
  rw [pr.length, List.take_length] at hp
  obtain ⟨s1, eD⟩ := hp
  have sm : Same H H' := fun b o e => s1 _ _ (ne_of_none e nD) e
  refine ⟨_, rfl, _, rfl, (by show 1 ≤ sizeLine; decide), fun l nl => ?_⟩
  have k2 := same_new nl (.lst [vc c])
  refine ⟨D, l, _, _, rfl, rfl, k2 _ _ eD, upd_same, ?_, fun p3 np3 => ?_⟩
  · rw [List.length_map, List.length_map]
    have := List.length_filter_le (fun p : Nat × Nat => p.1 == c) L
    have h3 : sizeLine = 16777216 := rfl
    show _ + 1 ≤ sizeLine
    omega
  have ft := found_tgt c L
  refine ⟨p3, _, 0, _, rfl, rfl, SqL.of upd_same, atI_nat (j := 0) (v := vc (tgt L c)) ?_, q _ (sm.trans (k2.trans (same_new np3 _)))⟩
  rw [show [vc c] = [c].map vc from rfl, ← List.map_append, List.getElem?_map, ft]
  rfl
theorem ok_text (F : Fun K "_law_text" "_law_text" s__law_text f fd) (M : Mgs mg) : FnOk P w K mg base CX0 1 f fd ["_law_rows"] spText := by
  refine F.ok sc__law_text (fun vs H Q E h => ?_) (fun cdv A outer s H vs Q E hr h => ?_)
  · obtain ⟨p, L, rfl, _⟩ := h
    rfl
  obtain ⟨p, L, rfl, ⟨vs, ep, pr⟩, few, q⟩ := h
  refine ⟨_, (pss_one (ps_ret (pe_bm PySem.F.plainAttrs_str PySem.F.slot_str_join PySem.F.type_str_join mt_join pe_str (pa_cons (pe_lc (own := [("_law_own", 1), ("_law_other", 2)]) (g := gTup K 2 (gCons (gName 1) (gCons (gName 2) gNil))) (tt := tYes) rfl sc__law_text.nd (pi_list (pv 0)) (blkOk_by (N := ["_law_rows", "_law_own", "_law_other"]) (sc := defScope s__law_text) (by decide +kernel)) (fun _ _ _ _ _ => (pg_tup rfl (pgs_cons (pg_name (i := 1) sc__law_text.nd rfl (.inl rfl)) (pgs_cons (pg_name (i := 2) sc__law_text.nd rfl (.inl rfl)) pgs_nil)))) (fun _ _ _ _ _ => pts_nil) (fun _ _ _ _ _ => (pe_op op_add_str (pe_op op_add_str (pv 1) pe_str) (pv 2)))) pa_nil)))), ?_⟩
  refine ⟨rfl, _, rfl, p, rfl, ⟨_, SqL.of ep⟩, fun D nD => ?_⟩
  have k1 := same_new nD (.lst [])
  have npD : p ≠ D := ne_of_none ep nD
  refine lc_it (walk_list (K := K) (a := p) (xs := vs)) (fun i H' => (∀ b o, b ≠ D → H b = some o → H' b = some o) ∧ H' D = some (.lst (((L.take i).map fun p => tx (wordOf p)).map V.str))) ⟨fun b o hb e => by rw [upd_ne hb]; exact e, upd_same⟩ (fun i H' _ hp => SqL.of (hp.1 _ _ npD ep)) (fun i y H' H'' hi hp hy => ?_) (fun H' hp => ?_)
  · obtain ⟨e1, hy⟩ := hy
    subst e1
    obtain ⟨a, x, z, rfl, hL, ea⟩ := pr.get hy
    have naD : a ≠ D := ne_of_none ea nD
    have ea' := hp.1 _ _ naD ea
    refine ⟨a, _, rfl, SqT.of ea', rfl, _, _, rfl, _, _, rfl, rfl, rfl, kept ?_⟩
    have tk : L.take (i + 1) = L.take i ++ [(x, z)] := by rw [List.take_add_one, hL]; rfl
    have il : i < L.length := (List.getElem?_eq_some_iff.mp hL).1
    refine ⟨_, rfl, _, _, rfl, rfl, small (by show 2 ≤ 1000; decide), _, rfl, _, _, rfl, rfl, small (by show 3 ≤ 1000; decide), ?_⟩
    rw [show ch x ++ Str.ofString ">" ++ ch z = tx (wordOf (x, z)) from word_join x z]
    refine ⟨_, hp.2, ?_, fun b' o hb e => by rw [upd_ne hb]; exact hp.1 _ _ hb e, ?_⟩
    · rw [List.length_map, List.length_map, List.length_take]
      have : sizeLine = 16777216 := rfl
      omega
    · rw [upd_same, tk, List.map_append, List.map_append]
      rfl
  rw [pr.length, List.take_length] at hp
  obtain ⟨s1, eD⟩ := hp
  refine ⟨_, D, L.map fun p => tx (wordOf p), rfl, rfl, .inl (SqL.of eD), ?_, q _ fun b o e => s1 _ _ (ne_of_none e nD) e⟩
  have e3 : ((L.map fun p => tx (wordOf p)).map (·.length)).sum = 3 * L.length := by
    rw [← sum_words, List.map_map, List.map_map]
    rfl
  rw [e3, List.length_map]
  show 3 * L.length + L.length * 1 ≤ 16777216
  omega
end
/-! ### _law_twice, _law_sum_right -/
structure OwnC (K : PySem.W.Frag) (C gA gE gS gN gC gL gB : Addr) : Prop where
  sf : PySem.W.selfFirst K C = true
  ad : PySem.W.findIn K (.ref C) "__add__" = some (some (.ref gA))
  adf : PySem.W.isFn K (.ref gA) = true
  eq : PySem.W.findIn K (.ref C) "__eq__" = some (some (.ref gE))
  eqf : PySem.W.isFn K (.ref gE) = true
  st : PySem.W.findIn K (.ref C) "__str__" = some (some (.ref gS))
  stf : PySem.W.isFn K (.ref gS) = true
  ne : PySem.W.findIn K (.ref C) "__neg__" = some (some (.ref gN))
  nef : PySem.W.isFn K (.ref gN) = true
  co : PySem.W.findIn K (.ref C) "__contains__" = some (some (.ref gC))
  cof : PySem.W.isFn K (.ref gC) = true
  le : PySem.W.findIn K (.ref C) "__len__" = some (some (.ref gL))
  lef : PySem.W.isFn K (.ref gL) = true
  bo : PySem.W.findIn K (.ref C) "__bool__" = some (some (.ref gB))
  bof : PySem.W.isFn K (.ref gB) = true
def rStrOwn (C : Addr) (sp : Sp) : List V → Hp → VK → Prop := fun xs H Q => ∃ a dx fs, xs = [.ref a] ∧ H a = some (.ins C dx fs) ∧ sp [.ref a] H (fun z H' => ∃ x : Str, z = .str x ∧ Q z H') E0
theorem call_strOwn {X : Cx} {C g : Addr} {n : Nat} {sp : Sp} (hs : PySem.W.findIn X.K (.ref C) "__str__" = some (some (.ref g))) (hf : PySem.W.isFn X.K (.ref g) = true) (F : FnR X.prog X.w X.K X.mg X.base CX0 n g sp) (hr : Room (n + 2) X.A) : CallR X (.type "str") (rStrOwn C sp) := by
  intro pins s σ H xs us Q I r h
  obtain ⟨a, dx, fs, rfl, ea, q⟩ := h
  obtain ⟨u, rfl, ru⟩ := r.one
  cases (show u = Value.ref a from ru)
  obtain ⟨mA, O, _, _, _, _⟩ := ins_get I.hok ea
  obtain ⟨od, J, _⟩ := O.look
  have hr2 : Room n X.A.in1.in1 := (show Room (n + 1) X.A.in1 from Room.in1 hr).in1
  refine PySem.W.kso_call hr2.units0 I.kIn J hs hf (wpAny_mono (wpAny_call (SlX.run_at (us := [.ref a]) (ws := [.ref a]) F hr2 I.env0.in1.in1 pass0 I (.cons rfl .nil) q)) (fun v s' z => ?_) fun _ _ x => x)
  obtain ⟨z', H', I', rz, x, en, qz⟩ := z
  subst en
  obtain ⟨t, e⟩ := (show ∃ t, v = Value.str x t from rz)
  cases e
  exact ⟨.str x, H', I', ⟨_, rfl⟩, qz⟩
theorem Rn.ins {C : Addr} {H : Hp} {a : Addr} {M : Ld} (r : Rn C H a M) : ∃ dx fs, H a = some (.ins C dx fs) := by
  obtain ⟨dx, d, h, _⟩ := r
  exact ⟨dx, _, h⟩
def twV : Option Nat → V
  | none => .non
  | some c => vc c
def spTwice : Sp := fun vs H Q _ => ∃ (p : Addr) (L : Ld), vs = [.ref p] ∧ TabAt H p L ∧ LdOk L ∧ ∀ H', Same H H' → Q (twV (twice L)) H'
def spSum (C : Addr) : Sp := fun vs H Q _ => ∃ (a b c : Addr) (M N O : Ld), vs = [.ref a, .ref b, .ref c] ∧ Rn C H a M ∧ Rn C H b N ∧ Rn C H c O ∧ Ren M ∧ Ren N ∧ Ren O ∧ ∀ H', Same H H' → Q (.bl true) H'
theorem filt_head {p : Nat → Bool} : ∀ l : List Nat, ((l.filter p).map vc ++ [V.non])[0]? = some (twV (l.find? p))
  | [] => rfl
  | a :: l => by
    by_cases h : p a = true
    · rw [List.filter_cons_of_pos h, List.find?_cons_of_pos h]; rfl
    · rw [List.filter_cons_of_neg h, List.find?_cons_of_neg h]
      exact filt_head l
section
variable {P : Program} {w : World} {K : PySem.W.Frag} {mg : Str → Option Value} {base : Heap} {f fi : Addr} {fd : FuncData} {C gG gA gE gS gN gC gL gB pm gR : Addr} {mc : Value}
theorem ok_twice (F : Fun K "_law_twice" "_law_twice" s__law_twice f fd) (M : Mgs mg) (D_law_to : Df P w K mg base 1 "_law_to" ["_law_rows", "_law_letter"] spTo) : FnOk P w K mg base CX0 2 f fd ["_law_rows"] spTwice := by
  refine F.ok sc__law_twice (fun vs H Q E h => ?_) (fun cdv A outer s H vs Q E hr h => ?_)
  · obtain ⟨p, L, rfl, _⟩ := h
    rfl
  obtain ⟨p, L, rfl, ta, ok, q⟩ := h
  refine ⟨_, (pss_cons (ps_set (i := 2) sc__law_twice.nd rfl (.inr rfl) (pe_lc (own := [("_law_letter", 1)]) (g := gName 1) (tt := tYes) rfl sc__law_twice.nd (pi_str pe_str) (blkOk_by (N := ["_law_rows", "_law_letter", "_law_reached", "_law_found"]) (sc := defScope s__law_twice) (by decide +kernel)) (fun _ _ _ _ _ => (pg_name (i := 1) sc__law_twice.nd rfl (.inl rfl))) (fun _ _ _ _ _ => pts_nil) (fun _ _ _ _ _ => (pe_call D_law_to.ok (hr.mono (by omega)) rfl D_law_to.g D_law_to.kp D_law_to.b .nil pass0 (pa_cons (pv 0) (pa_cons (pv 1) pa_nil))))))
    (pss_cons (ps_setLc (i := 3) (own := [("_law_letter", 1)]) (g := gName 1) (by rfl) sc__law_twice.nd rfl rfl (sw_true rfl rfl rfl (by decide +kernel)) (pi_str pe_str) (blkOk_by (N := ["_law_rows", "_law_letter", "_law_reached", "_law_found"]) (sc := defScope s__law_twice) (by decide +kernel)) (fun _ _ _ _ _ => (pg_name (i := 1) sc__law_twice.nd rfl (.inl rfl))) (fun _ _ _ _ _ => pts_one (pt_cmpR op_gt (show PE _ _ (tBM K _ (rCountD K) _ _) from pe_bm PySem.F.plainAttrs_list PySem.F.slot_list_count ty_list_count (mt_countD (room_u1 hr)) (pv 2) (pa_cons (pv 1) pa_nil)) pe_int (nomark _))) (fun _ _ _ _ _ => (pv 1)))
    (pss_one (ps_ret (pe_ix ix_list (pe_op op_cat (pv 3) (pe_lst (pa_cons pe_non pa_nil))) pe_int (fun _ _ => rfl)))))), ?_⟩
  have few := ok.len
  have lf : ∀ c, lowc c → lowc (tgt L c) := fun c => tgt_low ok
  have s26 : sizeLine = 16777216 := rfl
  refine ⟨_, rfl, fun D nD => ?_⟩
  refine lc_it (walk_str (z := Str.ofString "abcdefghijklmnopqrstuvwxyz")) (fun i H' => (∀ b o, b ≠ D → H b = some o → H' b = some o) ∧ H' D = some (.lst (((abcN.take i).map (tgt L)).map vc))) ⟨fun b o hb e => by rw [upd_ne hb]; exact e, upd_same⟩ (fun _ _ _ _ => trivial) (fun i y H' H'' hi hp hy => ?_) (fun H' hp => ?_)
  · obtain ⟨e1, c, hc, rfl⟩ := hy
    subst e1
    have hc := abc_get hc
    have same : Same H H'' := fun b o e => hp.1 _ _ (ne_of_none e nD) e
    refine ⟨rfl, kept ?_⟩
    refine ⟨_, rfl, _, rfl, p, L, c, rfl, ta.same same, few, fun H3 s3 => ?_⟩
    refine ⟨_, s3 _ _ hp.2, ?_, fun b' o hb e => by rw [upd_ne hb]; exact s3 _ _ (hp.1 _ _ hb e), ?_⟩
    · rw [List.length_map, List.length_map, List.length_take, abcN_len]
      omega
    · rw [upd_same, List.take_add_one, hc, List.map_append, List.map_append]
      rfl
  obtain ⟨s1, eD⟩ := hp
  rw [abc_size, show abcN.take 26 = abcN by rw [List.take_of_length_le (by rw [abcN_len]; exact Nat.le_refl _)]] at eD
  have sm : Same H H' := fun b o e => s1 _ _ (ne_of_none e nD) e
  have lows : ∀ c ∈ abcN.map (tgt L), c < 128 := fun c hc => by
    obtain ⟨x, hx, rfl⟩ := List.mem_map.mp hc
    have := (lf x (abcN_low x hx)).2
    omega
  refine ⟨_, rfl, fun D2 nD2 => ?_⟩
  have nDD : D ≠ D2 := ne_of_none eD nD2
  refine lc_it (walk_str (z := Str.ofString "abcdefghijklmnopqrstuvwxyz")) (fun i H3 => (∀ b o, b ≠ D2 → H' b = some o → H3 b = some o) ∧ H3 D2 = some (.lst (((abcN.take i).filter fun c => decide (1 < timesIn L c)).map vc))) ⟨fun b o hb e => by rw [upd_ne hb]; exact e, upd_same⟩ (fun _ _ _ _ => trivial) (fun i y H3 H'' hi hp hy => ?_) (fun H3 hp => ?_)
  · obtain ⟨e1, c, hc, rfl⟩ := hy
    subst e1
    have hc := abc_get hc
    have lc := abcN_low c (List.mem_of_getElem? hc)
    have l128 : c < 128 := by have := lc.2; omega
    have eD' := hp.1 _ _ nDD eD
    refine ⟨rfl, ?_⟩
    refine ⟨_, rfl, .inl ⟨rfl, _, SqL.of eD'⟩, _, rfl, D, _, .str (ch c), chsD (abcN.map (tgt L)), rfl, rfl, .lst (SqL.of eD') (dp_chs _), .str _, shaped_chs _ lows, shaped_ch l128, ?_⟩
    rw [count_chs]
    refine ⟨_, _, rfl, rfl, _, rfl, ?_⟩
    by_cases h2 : 1 < timesIn L c
    · have e : decide ((1 : Int) < ((timesIn L c : Nat) : Int)) = true := decide_eq_true (by omega)
      show if decide ((1 : Int) < ((timesIn L c : Nat) : Int)) = true then _ else _
      rw [e]
      refine iteT ⟨_, rfl, _, hp.2, ?_, fun b' o hb e => by rw [upd_ne hb]; exact hp.1 _ _ hb e, ?_⟩
      · rw [List.length_map]
        have := List.length_filter_le (fun c => decide (1 < timesIn L c)) (abcN.take i)
        have h3 : (abcN.take i).length ≤ 26 := by rw [List.length_take, abcN_len]; omega
        omega
      · rw [upd_same, List.take_add_one, hc, List.filter_append, List.map_append]
        simp [h2]
    · have e : decide ((1 : Int) < ((timesIn L c : Nat) : Int)) = false := decide_eq_false (by omega)
      show if decide ((1 : Int) < ((timesIn L c : Nat) : Int)) = true then _ else _
      rw [e]
      refine iteF ⟨hp.1, ?_⟩
      rw [List.take_add_one, hc, List.filter_append]
      simp only [Option.toList_some, List.filter_cons, h2, decide_false, Bool.false_eq_true, if_false, List.filter_nil, List.append_nil]
      exact hp.2
  obtain ⟨s3, eD3⟩ := hp
  rw [abc_size, show abcN.take 26 = abcN by rw [List.take_of_length_le (by rw [abcN_len]; exact Nat.le_refl _)]] at eD3
  have sm3 : Same H H3 := fun b o e => s3 _ _ (ne_of_none (sm _ _ e) nD2) (sm _ _ e)
  refine ⟨_, rfl, (by show 1 ≤ sizeLine; decide), fun l nl => ?_⟩
  have k2 := same_new nl (.lst [V.non])
  refine ⟨D2, l, _, _, rfl, rfl, k2 _ _ eD3, upd_same, ?_, fun p3 np3 => ?_⟩
  · rw [List.length_map]
    have := List.length_filter_le (fun c => decide (1 < timesIn L c)) abcN
    rw [abcN_len] at this
    show _ + 1 ≤ sizeLine
    omega
  exact ⟨p3, _, 0, _, rfl, rfl, SqL.of upd_same, atI_nat (j := 0) (filt_head abcN), q _ (sm3.trans (k2.trans (same_new np3 _)))⟩
end
def spRead0 (C : Addr) : Sp := fun vs H Q _ => vs = [.ref C, .str (rowText [])] ∧ ∀ a H' M, M.Perm (movers []) → Same H H' → H a = none → Rn C H' a M → Q (.ref a) H'
def spReadA (C : Addr) : Sp := fun vs H Q _ => ∃ L : Ld, vs = [.ref C, .str (rowText L)] ∧ LdOk L ∧ ∀ a H' M, Ren M → tgt M = tgt L → Same H H' → H a = none → Rn C H' a M → Q (.ref a) H'
section
variable {P : Program} {w : World} {K : PySem.W.Frag} {mg : Str → Option Value} {base : Heap} {f fi : Addr} {fd : FuncData} {C gG gA gE gS gN gC gL gB pm gRd : Addr} {mc : Value}
theorem ok_read0 (F : Fun K "read" "Renaming.read" s_Renaming_read f fd) (M : Mgs mg) (mEn : mg "enumerate" = none) (MK : L2.Mk K C fi) (Dis_lead : Df P w K mg base 2 "is_lead" ["word"] spLead)
    (Di : ∀ ks : List Str, (∃ L : Ld, ks = L.map (fun p => ch p.1) ∧ LdOk L) → FnKwX CX0 P w K mg base 2 fi 1 ks (spInitR C ks)) : FnOk P w K mg base CX0 4 f fd ["cls", "text"] (spRead0 C) := by
  refine F.ok sc_Renaming_read (fun vs H Q E h => ?_) (fun cdv A outer s H vs Q E hr h => ?_)
  · obtain ⟨rfl, _⟩ := h
    rfl
  obtain ⟨rfl, q⟩ := h
  have e0 : rowText [] = Str.ofString "" := by decide +kernel
  refine ⟨_, (pss_cons (ps_if (pt_not (pt_val (pe_callB call_isi rfl M.isinstance (by decide +kernel) (pa_cons (pv 1) (pa_cons (pe_bltn (v := .ty "str") rfl M.str (by decide +kernel) rfl) pa_nil)))))
      (pss_one ps_never) pss_nil)
    (pss_cons (ps_set (i := 2) sc_Renaming_read.nd rfl (.inl rfl) pe_dnewK)
    (pss_cons (ps_set (i := 3) sc_Renaming_read.nd rfl (.inl rfl) (pe_ifExp (pt_cmpR op_ne (pv 1) pe_str (nomark _)) (pe_split (pv 1) pe_str) (pe_lst pa_nil)))
    (pss_cons (ps_for PassesOwn.never rfl (pi_enum rfl mEn (pa_cons (pv 3) pa_nil)) (pg_tup rfl (pgs_cons (pg_name (i := 4) sc_Renaming_read.nd rfl (.inl rfl)) (pgs_cons (pg_name (i := 5) sc_Renaming_read.nd rfl (.inl rfl)) pgs_nil)))
      (pss_cons (ps_if (PW.pt (pw_or (pt_not (pt_val (pe_call Dis_lead.ok (hr.mono (by omega)) rfl Dis_lead.g Dis_lead.kp Dis_lead.b .nil pass0 (pa_cons (pv 5) pa_nil)))) (pw_or1 (pt_cmp (pc_din (Nat.lt_of_le_of_lt (Nat.add_le_add_left (by decide) _) hr.units) (pe_ix ix_str (pv 5) pe_int (fun _ _ => rfl)) (pv 2))))))
      (pss_one ps_never) pss_nil)
    (pss_one (ps_dput (Nat.lt_of_le_of_lt (Nat.add_le_add_left (by decide) _) hr.units) (pv 2) (pe_ix ix_str (pv 5) pe_int (fun _ _ => rfl)) (pe_ix ix_str (pv 5) pe_int (fun _ _ => rfl)) rfl))))
    (pss_one (ps_ret (pe_makeKd (i := 0) (j := 2) MK Di (hr.mono (by omega)) pass0 rfl (.inl rfl) rfl (.inl rfl)))))))), ?_⟩
  have ok0 : LdOk ([] : Ld) := ⟨List.nodup_nil, fun _ h => nomatch h⟩
  refine ⟨_, rfl, _, _, _, _, true, rfl, .ty _, .base (.str (rowText [])), kit_ty (by decide +kernel), _, rfl, iteF ?_⟩
  refine fun d nd => ?_
  have k1 := same_new nd (.dK [])
  refine ⟨_, rfl, rfl, _, rfl, ?_⟩
  rw [show (!decide (V.str (rowText []) = V.str (Str.ofString ""))) = false by rw [e0]; simp]
  refine iteF ⟨(by show 0 ≤ sizeLine; decide), fun p np => ?_⟩
  have k2 := same_new np (.lst ([] : List V))
  refine ⟨_, rfl, p, _, rfl, SqL.of upd_same, ?_⟩
  have hd : upd (upd H d (.dK [])) p (.lst []) d = some (.dK (ldK [])) := k2 _ _ upd_same
  have ep : upd (upd H d (.dK [])) p (.lst []) p = some (.lst []) := upd_same
  have sH := k1.trans k2
  generalize upd (upd H d (.dK [])) p (.lst []) = H2 at hd sH ep ⊢
  refine for_it (walk_enum (K := K) (a := p) (xs := [])) (fun i σ H' => H' = H2 ∧ σ = [some (.ref C), some (.str (rowText [])), some (.ref d), some (.ref p), none, none]) ⟨rfl, rfl⟩ (fun i σ H' _ hp => by rw [hp.1]; exact SqL.of ep) (fun i y σ H' H'' hi hp hy => absurd hi (Nat.not_lt_zero _)) (fun σ H' hp => ?_)
  obtain ⟨rfl, rfl⟩ := hp
  refine ⟨rfl, d, [], [], rfl, hd, rfl, by decide, ⟨[], rfl, ok0⟩, fun x dx nx ndx nxd => ?_⟩
  refine ⟨x, dx, [], rfl, rfl, rfl, ok0, upd_same, fun H4 N pN bx rn => ⟨rfl, ?_⟩⟩
  refine q x H4 N pN (fun b o e => ?_) ?_ rn
  · have eb := sH _ _ e
    have bx' : b ≠ x := ne_of_none eb nx
    have bdx : b ≠ dx := ne_of_none eb ndx
    exact bx _ _ bx' (by rw [upd_ne bx', upd_ne bdx]; exact eb)
  · cases hx : H x with
    | none => rfl
    | some o => rw [sH _ _ hx] at nx; cases nx
theorem read_all {k : Nat} (F1 : FnR P w K mg base CX0 k gRd (spRead C)) (F0 : FnR P w K mg base CX0 k gRd (spRead0 C)) : FnR P w K mg base CX0 k gRd (spReadA C) :=
  (FnR_or F1 F0).imp fun vs H Q E h => by
    obtain ⟨L, rfl, ok, q⟩ := h
    cases L with
    | nil => exact .inr ⟨rfl, fun a H' M pM s n r => q a H' M (ren_of ok pM) (funext fun c => tgt_same ok pM c) s n r⟩
    | cons p L => exact .inl ⟨_, rfl, by simp, ok, fun a H' M pM s n r => q a H' M (ren_of ok pM) (funext fun c => tgt_same ok pM c) s n r⟩
theorem ok_sum (F : Fun K "_law_sum_right" "_law_sum_right" s__law_sum_right f fd) (M : Mgs mg) (TD : RenC K mg C gG) (gR : mg "Renaming" = some (.ref C)) (MK : L2.Mk K C fi) (Dget : FnR P w K mg base CX0 2 gG (spGet C)) (OC : OwnC K C gA gE gS gN gC gL gB)
    (Di : ∀ ks : List Str, (∃ L : Ld, ks = L.map (fun p => ch p.1) ∧ LdOk L) → FnKwX CX0 P w K mg base 2 fi 1 ks (spInitR C ks)) (FA : FnR P w K mg base CX0 4 gA (spAddR C)) (FE : FnR P w K mg base CX0 2 gE (spEqR C)) (FS : FnR P w K mg base CX0 1 gS (spStr C)) (CR : ClX.CRead K C mc) (CM : ClX.CMet K C mc "read" pm gRd) (FR : FnR P w K mg base CX0 4 gRd (spReadA C)) :
    FnOk P w K mg base CX0 6 f fd ["_law_one", "_law_other", "_law_third"] (spSum C) := by
  refine F.ok sc__law_sum_right (fun vs H Q E h => ?_) (fun cdv A outer s H vs Q E hr h => ?_)
  · obtain ⟨a, b, c, _, _, _, rfl, _⟩ := h
    rfl
  obtain ⟨a, b, c, M1, M2, M3, rfl, r1, r2, r3, n1, n2, n3, q⟩ := h
  refine ⟨_, (pss_cons (ps_set (i := 3) sc__law_sum_right.nd rfl (.inl rfl) (pe_op (op_addOwn OC.sf OC.ad OC.adf FA (hr.mono (by omega)) pass0) (pv 0) (pv 1)))
    (pss_cons (ps_for PassesOwn.never rfl (pi_str pe_str) (pg_name (i := 4) sc__law_sum_right.nd rfl (.inl rfl))
      (pss_one (ps_if (pt_cmpR op_ne (pe_ixOwn TD.gi TD.gf TD.gn Dget (hr.mono (by omega)) (pv 3) (pv 4) (fun _ _ => rfl)) (pe_ixOwn TD.gi TD.gf TD.gn Dget (hr.mono (by omega)) (pv 1) (pe_ixOwn TD.gi TD.gf TD.gn Dget (hr.mono (by omega)) (pv 0) (pv 4) (fun _ _ => rfl)) (fun _ _ => rfl)) (nomark _))
      (pss_one (ps_ret pe_bl)) pss_nil)))
    (pss_cons (ps_if (pt_not (pt_cmpR (op_eqOwn (Nat.lt_of_le_of_lt (Nat.le_add_right _ _) hr.units) OC.eq OC.eqf FE (hr.mono (by omega)) pass0) (pe_op (op_addOwn OC.sf OC.ad OC.adf FA (hr.mono (by omega)) pass0) (pv 3) (pv 2)) (pe_op (op_addOwn OC.sf OC.ad OC.adf FA (hr.mono (by omega)) pass0) (pv 0) (pe_op (op_addOwn OC.sf OC.ad OC.adf FA (hr.mono (by omega)) pass0) (pv 1) (pv 2))) (nomark _)))
      (pss_one (ps_ret pe_bl)) pss_nil)
    (pss_cons (ps_set (i := 5) sc__law_sum_right.nd rfl (.inl rfl) (pe_make0G MK (Di [] ⟨[], rfl, ⟨List.nodup_nil, fun _ h => nomatch h⟩⟩) (hr.mono (by omega)) pass0 rfl gR))
    (pss_one (ps_ret (pe_and (pe_cmpR (op_eqOwn (Nat.lt_of_le_of_lt (Nat.le_add_right _ _) hr.units) OC.eq OC.eqf FE (hr.mono (by omega)) pass0) (pe_op (op_addOwn OC.sf OC.ad OC.adf FA (hr.mono (by omega)) pass0) (pv 0) (pv 5)) (pv 0) (nomark _)) (pe_and (pe_cmpR (op_eqOwn (Nat.lt_of_le_of_lt (Nat.le_add_right _ _) hr.units) OC.eq OC.eqf FE (hr.mono (by omega)) pass0) (pe_op (op_addOwn OC.sf OC.ad OC.adf FA (hr.mono (by omega)) pass0) (pv 5) (pv 0)) (pv 0) (nomark _)) (pe_one (pe_cmpR (op_eqOwn (Nat.lt_of_le_of_lt (Nat.le_add_right _ _) hr.units) OC.eq OC.eqf FE (hr.mono (by omega)) pass0) (ClX.pe_cmeth (pe_glob (v := .ref C) rfl gR rfl) CR CM FR (hr.mono (by omega)) pass0 (pa_cons (pe_callTy (call_strOwn OC.st OC.stf FS (hr.mono (by omega))) rfl M.str (by decide +kernel) (pa_cons (pv 3) pa_nil)) pa_nil)) (pv 3) (nomark _))))))))))), ?_⟩
  obtain ⟨d1, f1, e1⟩ := r1.ins
  obtain ⟨d2, f2, e2⟩ := r2.ins
  obtain ⟨d3, f3, e3⟩ := r3.ins
  refine ⟨_, rfl, _, rfl, a, b, d1, d2, f1, f2, rfl, rfl, e1, e2, a, b, M1, M2, rfl, r1, r2, n1, n2, fun y O H1 nO tO s1 nY rO => ⟨⟨_, rfl⟩, ?_⟩⟩
  refine ⟨_, rfl, ?_⟩
  refine for_it (walk_str (z := Str.ofString "abcdefghijklmnopqrstuvwxyz")) (fun i σ H2 => H2 = H1 ∧ ∃ o4, σ = [some (.ref a), some (.ref b), some (.ref c), some (.ref y), o4, none]) ⟨rfl, _, rfl⟩ (fun _ _ _ _ _ => trivial) (fun i v σ H2 H'' hi hp hy => ?_) (fun σ H2 hp => ?_)
  · obtain ⟨g1, x, hx, rfl⟩ := hy
    subst g1
    obtain ⟨rfl, o4, rfl⟩ := hp
    have hx := abc_get hx
    have lx := abcN_low x (List.mem_of_getElem? hx)
    obtain ⟨dy, fy, ey⟩ := rO.ins
    refine ⟨_, rfl, _, rfl, y, dy, fy, rfl, ey, y, O, x, rfl, rO, lx, ?_⟩
    refine ⟨_, rfl, _, rfl, _, rfl, a, d1, f1, rfl, s1 _ _ e1, a, M1, x, rfl, r1.same s1, lx, ?_⟩
    refine ⟨b, d2, f2, rfl, s1 _ _ e2, b, M2, _, rfl, r2.same s1, tgt_low n1.ok lx, ?_⟩
    refine ⟨rfl, _, rfl, ?_⟩
    rw [tO x, show (!decide (vc (tgt M2 (tgt M1 x)) = vc (tgt M2 (tgt M1 x)))) = false by simp]
    exact iteF ⟨rfl, _, rfl⟩
  obtain ⟨rfl, o4, rfl⟩ := hp
  obtain ⟨dy, fy, ey⟩ := rO.ins
  refine ⟨_, rfl, _, rfl, y, c, dy, d3, fy, f3, rfl, rfl, ey, s1 _ _ e3, y, c, O, M3, rfl, rO, r3.same s1, nO, n3, fun y2 O2 H3 nO2 tO2 s3 nY2 rO2 => ⟨⟨_, rfl⟩, ?_⟩⟩
  have s13 := s1.trans s3
  refine ⟨_, rfl, _, rfl, _, rfl, b, c, d2, d3, f2, f3, rfl, rfl, s13 _ _ e2, s13 _ _ e3, b, c, M2, M3, rfl, r2.same s13, r3.same s13, n2, n3, fun y3 O3 H4 nO3 tO3 s4 nY3 rO3 => ⟨⟨_, rfl⟩, ?_⟩⟩
  have s14 := s13.trans s4
  obtain ⟨d33, f33, e33⟩ := rO3.ins
  refine ⟨a, y3, d1, d33, f1, f33, rfl, rfl, s14 _ _ e1, e33, a, y3, M1, O3, rfl, r1.same s14, rO3, n1, nO3, fun y4 O4 H5 nO4 tO4 s5 nY4 rO4 => ⟨⟨_, rfl⟩, ?_⟩⟩
  have s15 := s14.trans s5
  have r22 := (rO2.same s4).same s5
  obtain ⟨d22, f22, e22⟩ := r22.ins
  obtain ⟨d44, f44, e44⟩ := rO4.ins
  refine ⟨y2, y4, d22, d44, f22, f44, rfl, rfl, e22, e44, y2, y4, O2, O4, rfl, r22, rO4, nO2, nO4, fun k hk => ?_⟩
  have k1 : k = true := hk.mpr (funext fun x => by rw [tO2, tO, tO4, tO3])
  subst k1
  refine ⟨_, rfl, _, rfl, iteF ?_⟩
  refine fun y5 dx5 nx5 ndx5 nd5 => ⟨y5, dx5, [], rfl, rfl, rfl, ⟨List.nodup_nil, fun _ h => nomatch h⟩, upd_same, fun H6 N pN bx rN => ⟨rfl, ?_⟩⟩
  have ok0 : LdOk ([] : Ld) := ⟨List.nodup_nil, fun _ h => nomatch h⟩
  have nN := ren_of ok0 pN
  have tN : ∀ x, tgt N x = x := fun x => by rw [tgt_same ok0 pN]; rfl
  have s6 : Same H5 H6 := fun b o e => by
    have b1 : b ≠ y5 := ne_of_none e nx5
    have b2 : b ≠ dx5 := ne_of_none e ndx5
    exact bx _ _ b1 (by rw [upd_ne b1, upd_ne b2]; exact e)
  have s16 := s15.trans s6
  obtain ⟨dN, fN, eN⟩ := rN.ins
  refine ⟨_, rfl, _, rfl, a, y5, d1, dN, f1, fN, rfl, rfl, s16 _ _ e1, eN, a, y5, M1, N, rfl, r1.same s16, rN, n1, nN, fun y6 O6 H7 nO6 tO6 s7 nY6 rO6 => ⟨⟨_, rfl⟩, ?_⟩⟩
  have s17 := s16.trans s7
  obtain ⟨d66, f66, e66⟩ := rO6.ins
  refine ⟨_, rfl, y6, a, d66, d1, f66, f1, rfl, rfl, e66, s17 _ _ e1, y6, a, O6, M1, rfl, rO6, r1.same s17, nO6, n1, fun k hk => ?_⟩
  have k1 : k = true := hk.mpr (funext fun x => by rw [tO6, tN])
  subst k1
  refine ⟨_, rfl, _, rfl, iteT ?_⟩
  have rN7 := rN.same s7
  obtain ⟨dN7, fN7, eN7⟩ := rN7.ins
  refine ⟨_, rfl, _, rfl, y5, a, dN7, d1, fN7, f1, rfl, rfl, eN7, s17 _ _ e1, y5, a, N, M1, rfl, rN7, r1.same s17, nN, n1, fun y7 O7 H8 nO7 tO7 s8 nY7 rO7 => ⟨⟨_, rfl⟩, ?_⟩⟩
  have s18 := s17.trans s8
  obtain ⟨d77, f77, e77⟩ := rO7.ins
  refine ⟨_, rfl, y7, a, d77, d1, f77, f1, rfl, rfl, e77, s18 _ _ e1, y7, a, O7, M1, rfl, rO7, r1.same s18, nO7, n1, fun k hk => ?_⟩
  have k1 : k = true := hk.mpr (funext fun x => by rw [tO7, tN])
  subst k1
  refine ⟨_, rfl, _, rfl, iteT ?_⟩
  have rO8 := ((((((rO.same s3).same s4).same s5).same s6).same s7).same s8)
  obtain ⟨dy8, fy8, ey8⟩ := rO8.ins
  refine ⟨rfl, _, rfl, y, dy8, fy8, rfl, ey8, y, O, rfl, rO8, nO.ok.len, nO.ok, fun H9 s9 => ⟨_, rfl, ?_⟩⟩
  refine ⟨O, rfl, nO.ok, fun y8 HA N8 nN8 tN8 sA nY8 rN8 => ?_⟩
  have rO9 := (rO8.same s9).same sA
  obtain ⟨dy9, fy9, ey9⟩ := rO9.ins
  obtain ⟨d88, f88, e88⟩ := rN8.ins
  refine ⟨_, rfl, y8, y, d88, dy9, f88, fy9, rfl, rfl, e88, ey9, y8, y, N8, O, rfl, rN8, rO9, nN8, nO, fun k hk => ?_⟩
  have k1 : k = true := hk.mpr tN8
  subst k1
  exact ⟨_, rfl, q _ ((s18.trans s9).trans sA)⟩
end
/-! ### repr of values -/
theorem sqT_same {K : PySem.W.Frag} {H H' : Hp} {a : Addr} {xs : List V} (e : Same H H') (h : SqT K H a xs) : SqT K H' a xs := by
  rcases h with (h | ⟨o, h⟩) | h
  · exact .inl (.inl (e _ _ h))
  · exact .inl (.inr ⟨o, e _ _ h⟩)
  · exact .inr h
mutual
theorem dp_same {K : PySem.W.Frag} {H H' : Hp} (e : Same H H') : ∀ {v : V} {d : PyData}, Dp K H v d → Dp K H' v d
  | _, _, .non => .non
  | _, _, .bl b => .bl b
  | _, _, .int i => .int i
  | _, _, .str x => .str x
  | _, _, .lst h a => .lst (e.seq h) (dpAll_same e a)
  | _, _, .tup h a => .tup (sqT_same e h) (dpAll_same e a)
theorem dpAll_same {K : PySem.W.Frag} {H H' : Hp} (e : Same H H') : ∀ {vs : List V} {ds : List PyData}, DpAll K H vs ds → DpAll K H' vs ds
  | _, _, .nil => .nil
  | _, _, .cons h a => .cons (dp_same e h) (dpAll_same e a)
end
def rReprV (K : PySem.W.Frag) : List V → Hp → VK → Prop := fun xs H Q => ∃ (v : V) (d : PyData), xs = [v] ∧ Dp K H v d ∧ okR d = true ∧ wtR d ≤ 1000000 ∧ d.depth ≤ 60 ∧ Q (.str d.shown) H
theorem call_reprV {X : Cx} (hg : X.A.guards = some []) (hu : X.A.units + 64 < cLine) : CallR X (.builtin "repr") (rReprV X.K) := by
  intro pins s σ H xs us Q I r h
  obtain ⟨v, d, rfl, hd, hs, hw, hz, q⟩ := h
  obtain ⟨u, rfl, rx⟩ := vals1 r
  obtain ⟨h1, h2, h3⟩ := shownR d hs
  have fits : d.shown.length ≤ sizeLine := by show _ ≤ 16777216; omega
  have rds := Dp.reads I d v u hd rx
  have fin : ∀ (h' : Heap) (t : Tok) (tk : Tok), (∀ b o, s.heap.get? b = some o → h'.get? b = some o) → EP X pins σ Q (.str d.shown t) { s with heap := h', toks := tk } := fun h' t tk hk => ⟨.str d.shown, H, I.kept (t' := tk) hk, ⟨t, rfl⟩, q⟩
  cases hd with
  | non =>
    cases rx
    simp only [PyData.shown] at fin
    exact PySem.P.repr_of_none (fin s.heap _ _ fun _ _ e => e)
  | bl b =>
    cases rx
    simp only [PyData.shown] at fin
    exact PySem.P.repr_of_bool (fin s.heap _ _ fun _ _ e => e)
  | int i =>
    obtain ⟨t, rfl⟩ := rx
    simp only [PyData.shown] at fin
    simp only [PyData.showable, decide_eq_true_eq] at h2
    exact PySem.P.repr_of_int h2 (fin s.heap _ _ fun _ _ e => e)
  | str x =>
    obtain ⟨t, rfl⟩ := rx
    simp only [PyData.shown] at fin fits
    exact PySem.P.repr_of_str (fin s.heap _ _ fun _ _ e => e) fits
  | lst _ _ =>
    cases rx
    obtain ⟨as, rd⟩ := rds
    exact repr_of_reads' rd h2 (PyData.noDict_hsm h3) hg (by omega) (fun _ _ e => e) (fun h' u tk hk => fin h' u tk hk) fits
  | tup _ _ =>
    cases rx
    obtain ⟨as, rd⟩ := rds
    exact repr_of_reads' rd h2 (PyData.noDict_hsm h3) hg (by omega) (fun _ _ e => e) (fun h' u tk hk => fin h' u tk hk) fits
/-! ### _law_within_right -/
def spWR (C : Addr) : Sp := fun vs H Q _ => ∃ (a b p : Addr) (M N L : Ld), vs = [.ref a, .ref b, .ref p] ∧ Rn C H a M ∧ Rn C H b N ∧ Ren M ∧ Ren N ∧ TabAt H p L ∧ LdOk L ∧ tgt M = tgt L ∧ ∀ H', Same H H' → Q (.bl true) H'
theorem PrsAt.take {H : Hp} {vs : List V} {L : Ld} (h : PrsAt H vs L) : ∀ k, PrsAt H (vs.take k) (L.take k) := by
  induction h with
  | nil => intro k; rw [List.take_nil, List.take_nil]; exact .nil
  | cons e _ ih =>
    intro k
    cases k with
    | zero => exact .nil
    | succ k => exact .cons e (ih k)
theorem LdOk.take {L : Ld} (ok : LdOk L) (k : Nat) : LdOk (L.take k) :=
  ⟨by rw [List.map_take]; exact (List.take_sublist k _).nodup ok.nd, fun p hp => ok.low p (List.mem_of_mem_take hp)⟩
theorem within_iff {M N : Ld} (rm : Ren M) : (∀ p ∈ M, tgt N p.1 = p.2) ↔ ∀ c, tgt M c ≠ c → tgt N c = tgt M c := by
  constructor
  · intro h c hc
    exact h _ (tgt_key hc)
  · intro h p hp
    have e := tgt_mem rm.ok.nd (a := p.1) (b := p.2) hp
    rw [← e]
    exact h p.1 (by rw [e]; exact (rm.mv p hp).symm)
theorem both_iff {M N : Ld} (rm : Ren M) (rn : Ren N) : ((∀ p ∈ M, tgt N p.1 = p.2) ∧ ∀ p ∈ N, tgt M p.1 = p.2) ↔ tgt M = tgt N := by
  rw [within_iff rm, within_iff rn]
  constructor
  · rintro ⟨h1, h2⟩
    funext c
    by_cases e : tgt M c = c
    · by_cases e2 : tgt N c = c
      · rw [e, e2]
      · exact h2 c e2
    · exact (h1 c e).symm
  · intro e
    exact ⟨fun c _ => by rw [e], fun c _ => by rw [e]⟩
theorem okR_bl (b : Bool) : okR (.bool b) = true ∧ wtR (.bool b) ≤ 1000000 ∧ (PyData.bool b).depth ≤ 60 := ⟨rfl, by simp [wtR], by simp [PyData.depth]⟩
section
variable {P : Program} {w : World} {K : PySem.W.Frag} {mg : Str → Option Value} {base : Heap} {f fi : Addr} {fd : FuncData} {C gG gA gE gS gN gC gL gB pm gRd : Addr} {mc : Value}
theorem ok_wr (F : Fun K "_law_within_right" "_law_within_right" s__law_within_right f fd) (M : Mgs mg) (TD : RenC K mg C gG) (gR : mg "Renaming" = some (.ref C)) (MK : L2.Mk K C fi) (Dget : FnR P w K mg base CX0 2 gG (spGet C)) (OC : OwnC K C gA gE gS gN gC gL gB)
    (Di : ∀ ks : List Str, (∃ L : Ld, ks = L.map (fun p => ch p.1) ∧ LdOk L) → FnKwX CX0 P w K mg base 2 fi 1 ks (spInitR C ks)) (FE : FnR P w K mg base CX0 2 gE (spEqR C)) (FC : FnR P w K mg base CX0 2 gC (spCont C)) (CR : ClX.CRead K C mc) (CM : ClX.CMet K C mc "read" pm gRd) (FR : FnR P w K mg base CX0 4 gRd (spReadA C))
    (Dwi : MDf P w K mg base C 4 "within" ["self", "other"] (spWithin C)) (D_law_text : Df P w K mg base 1 "_law_text" ["_law_rows"] spText) : FnOkG P w K mg base 6 f fd ["_law_one", "_law_other", "_law_rows"] (spWR C) := by
  refine fnG F sc__law_within_right (fun vs H Q E h => ?_) (fun cdv A outer s H vs Q E gs hr h => ?_)
  · obtain ⟨a, b, p, _, _, _, rfl, _⟩ := h
    rfl
  obtain ⟨a, b, p, M1, M2, L, rfl, r1, r2, n1, n2, ta, okL, eL, q⟩ := h
  refine ⟨_, (pss_cons (ps_set (i := 3) sc__law_within_right.nd rfl (.inl rfl) (ClX.pe_cmeth (pe_glob (v := .ref C) rfl gR rfl) CR CM FR (hr.mono (by omega)) pass0 (pa_cons (pe_call D_law_text.ok (hr.mono (by omega)) rfl D_law_text.g D_law_text.kp D_law_text.b .nil pass0 (pa_cons (pe_slice sl_list (pv 2) po_none (po_some (pe_op op_fdiv (pe_callB call_len_seq rfl M.len PySem.boot_len (pa_cons (pv 2) pa_nil)) pe_int))) pa_nil)) pa_nil)))
    (pss_cons (ps_if (PW.pt (pw_or (pt_not (pt_truth (pe_meth (pv 3) TD.cl Dwi.at_ Dwi.ok (hr.mono (by omega)) Dwi.b .nil pass0 (pa_cons (pv 0) pa_nil)) (by intro _; rfl))) (pw_or (pt_not (pt_truth (pe_meth (pe_make0G MK (Di [] ⟨[], rfl, ⟨List.nodup_nil, fun _ h => nomatch h⟩⟩) (hr.mono (by omega)) pass0 rfl gR) TD.cl Dwi.at_ Dwi.ok (hr.mono (by omega)) Dwi.b .nil pass0 (pa_cons (pv 1) pa_nil)) (by intro _; rfl))) (pw_or1 (pt_not (pt_truth (pe_meth (pv 0) TD.cl Dwi.at_ Dwi.ok (hr.mono (by omega)) Dwi.b .nil pass0 (pa_cons (pv 0) pa_nil)) (by intro _; rfl)))))))
      (pss_one (ps_ret pe_bl)) pss_nil)
    (pss_cons (ps_setLc (i := 5) (own := [("_law_letter", 4)]) (g := gName 4) (by rfl) sc__law_within_right.nd rfl rfl (sw_true rfl rfl rfl (by decide +kernel)) (pi_str pe_str) (blkOk_by (N := ["_law_one", "_law_other", "_law_rows", "_law_part", "_law_letter", "_law_differ"]) (sc := defScope s__law_within_right) (by decide +kernel)) (fun _ _ _ _ _ => (pg_name (i := 4) sc__law_within_right.nd rfl (.inl rfl))) (fun _ _ _ _ _ => pts_one (PW.pt (pw_and (pt_cmpR (op_inOwn OC.co OC.cof FC (hr.mono (by omega)) pass0) (pv 4) (pv 0) (by rfl)) (pw_and1 (pt_cmpR op_ne (pe_ixOwn TD.gi TD.gf TD.gn Dget (hr.mono (by omega)) (pv 0) (pv 4) (fun _ _ => rfl)) (pe_ixOwn TD.gi TD.gf TD.gn Dget (hr.mono (by omega)) (pv 1) (pv 4) (fun _ _ => rfl)) (nomark _)))))) (fun _ _ _ _ _ => (pv 4)))
    (pss_cons (ps_if (pt_cmpR op_ne (pe_callB (call_reprV gs hr.units) rfl M.repr (by decide +kernel) (pa_cons (pe_meth (pv 0) TD.cl Dwi.at_ Dwi.ok (hr.mono (by omega)) Dwi.b .nil pass0 (pa_cons (pv 1) pa_nil)) pa_nil)) (pe_callB (call_reprV gs hr.units) rfl M.repr (by decide +kernel) (pa_cons (pe_cmpR (op_eqL (Nat.lt_of_le_of_lt (Nat.le_add_right _ _) hr.units)) (pv 5) (pe_lst pa_nil) (nomark _)) pa_nil)) (nomark _))
      (pss_one (ps_ret pe_bl)) pss_nil)
    (pss_one (ps_ret (pe_cmpR op_eq (pe_callB (call_reprV gs hr.units) rfl M.repr (by decide +kernel) (pa_cons (pe_and (pe_meth (pv 0) TD.cl Dwi.at_ Dwi.ok (hr.mono (by omega)) Dwi.b .nil pass0 (pa_cons (pv 1) pa_nil)) (pe_one (pe_meth (pv 1) TD.cl Dwi.at_ Dwi.ok (hr.mono (by omega)) Dwi.b .nil pass0 (pa_cons (pv 0) pa_nil)))) pa_nil)) (pe_callB (call_reprV gs hr.units) rfl M.repr (by decide +kernel) (pa_cons (pe_cmpR (op_eqOwn (Nat.lt_of_le_of_lt (Nat.le_add_right _ _) hr.units) OC.eq OC.eqf FE (hr.mono (by omega)) pass0) (pv 0) (pv 1) (nomark _)) pa_nil)) (nomark _)))))))), ?_⟩
  have ok0 : LdOk ([] : Ld) := ⟨List.nodup_nil, fun _ h => nomatch h⟩
  obtain ⟨vs, ep, pr⟩ := ta
  have l26 := okL.len
  refine ⟨rfl, _, rfl, _, rfl, p, _, rfl, .inl (SqL.of ep), _, _, rfl, rfl, ⟨by decide, by omega⟩, _, rfl, p, _, rfl, SqL.of ep, fun p1 np1 => ?_⟩
  rw [show ((vs.length : Int) / 2) = ((vs.length / 2 : Nat) : Int) by omega, cut_to]
  generalize vs.length / 2 = k
  have q1 := same_new np1 (.lst (vs.take k))
  have okT := okL.take k
  have taT : TabAt (upd H p1 (.lst (vs.take k))) p1 (L.take k) := ⟨_, upd_same, (pr.take k).keep fun b o e => q1 _ _ e⟩
  refine ⟨p1, L.take k, rfl, taT, okT.len, fun H1 s1 => ?_⟩
  refine ⟨L.take k, rfl, okT, fun y H2 O nO tO s2 nY rO => ?_⟩
  have sA := (q1.trans s1).trans s2
  obtain ⟨dy, fy, ey⟩ := rO.ins
  have r1A := r1.same sA
  have r2A := r2.same sA
  obtain ⟨d1, f1, e1⟩ := r1A.ins
  obtain ⟨d2, f2, e2⟩ := r2A.ins
  have inO : ∀ p ∈ O, tgt M1 p.1 = p.2 := fun z hz => by
    have g1 := tgt_mem nO.ok.nd (a := z.1) (b := z.2) hz
    have g2 := tgt_key (M := L.take k) (c := z.1) (by rw [← tO, g1]; exact (nO.mv z hz).symm)
    rw [← tO, g1] at g2
    rw [eL]
    exact tgt_mem okL.nd (List.mem_of_mem_take g2)
  obtain ⟨dyO, ddO, eyO, _⟩ := id rO
  obtain ⟨dx1, dd1, ex1, _⟩ := id r1A
  obtain ⟨dx2, dd2, ex2, _⟩ := id r2A
  refine ⟨_, rfl, y, dyO, _, rfl, eyO, rfl, _, rfl, y, a, O, M1, rfl, rO, r1A, nO, fun k1 hk1 H3 s3 => ?_⟩
  have e1' : k1 = true := hk1.mpr inO
  subst e1'
  refine ⟨_, rfl, iteF ?_⟩
  refine fun x0 dx0 nx0 ndx0 ne0 => ⟨x0, dx0, [], rfl, rfl, rfl, ok0, upd_same, fun H4 Z pZ bx rZ => ⟨rfl, ?_⟩⟩
  have nZ := ren_of ok0 pZ
  have zE : Z = [] := List.Perm.eq_nil (show Z.Perm [] from pZ)
  have s4 : Same H3 H4 := fun b o e => by
    have g1 : b ≠ x0 := ne_of_none e nx0
    have g2 : b ≠ dx0 := ne_of_none e ndx0
    exact bx _ _ g1 (by rw [upd_ne g1, upd_ne g2]; exact e)
  have sB := s3.trans s4
  have r1B := r1A.same sB
  have r2B := r2A.same sB
  obtain ⟨dZ, ddZ, eZ, _⟩ := id rZ
  refine ⟨x0, dZ, _, rfl, eZ, rfl, _, rfl, x0, b, Z, M2, rfl, rZ, r2B, nZ, fun k2 hk2 H5 s5 => ?_⟩
  have e2' : k2 = true := hk2.mpr (by rw [zE]; exact fun _ h => nomatch h)
  subst e2'
  refine ⟨_, rfl, iteF ?_⟩
  have r1C := r1B.same s5
  have r2C := r2B.same s5
  have sC := sA.trans (sB.trans s5)
  refine ⟨_, rfl, a, dx1, _, rfl, s5 _ _ (sB _ _ ex1), rfl, _, rfl, a, a, M1, M1, rfl, r1C, r1C, n1, fun k3 hk3 H6 s6 => ?_⟩
  have e3' : k3 = true := hk3.mpr fun z hz => tgt_mem n1.ok.nd (a := z.1) (b := z.2) hz
  subst e3'
  refine ⟨_, rfl, iteF ?_⟩
  have r1D := r1C.same s6
  have r2D := r2C.same s6
  have sD := sC.trans s6
  clear r1C r2C sC r1B r2B sB r1A r2A sA
  obtain ⟨dx3, dd3, ex3, ed3⟩ := id r1D
  obtain ⟨dx4, dd4, ex4, ed4⟩ := id r2D
  refine ⟨_, rfl, fun D nD => ?_⟩
  refine lc_it (walk_str (z := Str.ofString "abcdefghijklmnopqrstuvwxyz")) (fun i H' => (∀ b o, b ≠ D → H6 b = some o → H' b = some o) ∧ H' D = some (.lst (((abcN.take i).filter fun c => decide (tgt M1 c ≠ c) && decide (tgt M1 c ≠ tgt M2 c)).map vc))) ⟨fun b o hb e => by rw [upd_ne hb]; exact e, upd_same⟩ (fun _ _ _ _ => trivial) (fun i y H' H'' hi hp hy => ?_) (fun H' hp => ?_)
  · obtain ⟨e1, c, hc, rfl⟩ := hy
    subst e1
    have hc := abc_get hc
    have lc := abcN_low c (List.mem_of_getElem? hc)
    have same : Same H6 H'' := fun b o e => hp.1 _ _ (ne_of_none e nD) e
    have r1E := r1D.same same
    have r2E := r2D.same same
    have len : (((abcN.take i).filter fun c => decide (tgt M1 c ≠ c) && decide (tgt M1 c ≠ tgt M2 c)).map vc).length < sizeLine := by
      rw [List.length_map]
      have := List.length_filter_le (fun c => decide (tgt M1 c ≠ c) && decide (tgt M1 c ≠ tgt M2 c)) (abcN.take i)
      have h3 : (abcN.take i).length ≤ 26 := by rw [List.length_take, abcN_len]; omega
      have : sizeLine = 16777216 := rfl
      omega
    refine ⟨rfl, _, rfl, _, rfl, a, dx3, _, rfl, same _ _ ex3, a, M1, c, rfl, r1E, n1, lc, _, rfl, _, rfl, ?_⟩
    have nxt : ∀ z : Bool, (decide (tgt M1 c ≠ c) && decide (tgt M1 c ≠ tgt M2 c)) = z → ((abcN.take (i + 1)).filter fun c => decide (tgt M1 c ≠ c) && decide (tgt M1 c ≠ tgt M2 c)) = ((abcN.take i).filter fun c => decide (tgt M1 c ≠ c) && decide (tgt M1 c ≠ tgt M2 c)) ++ (if z then [c] else []) := fun z hz => by
      rw [List.take_add_one, hc, List.filter_append]
      congr 1
      show List.filter _ [c] = _
      rw [List.filter_cons, hz]
      cases z <;> rfl
    by_cases h1 : tgt M1 c ≠ c
    · rw [decide_eq_true h1]
      refine iteT ⟨_, rfl, _, rfl, a, dx3, _, rfl, same _ _ ex3, a, M1, c, rfl, r1E, lc, _, rfl, _, rfl, b, dx4, _, rfl, same _ _ ex4, b, M2, c, rfl, r2E, lc, rfl, _, rfl, ?_⟩
      by_cases h2 : tgt M1 c = tgt M2 c
      · rw [show (!decide (vc (tgt M1 c) = vc (tgt M2 c))) = false by rw [h2]; simp]
        refine iteF ⟨hp.1, ?_⟩
        rw [nxt false (by simp [h2])]
        simp only [Bool.false_eq_true, if_false, List.append_nil]
        exact hp.2
      · rw [show (!decide (vc (tgt M1 c) = vc (tgt M2 c))) = true by rw [decide_eq_false (fun z => h2 (ch_inj (by injection z)))]; rfl]
        refine iteT ⟨_, rfl, _, hp.2, len, fun b' o hb e => by rw [upd_ne hb]; exact hp.1 _ _ hb e, ?_⟩
        rw [upd_same, nxt true (by simp [h1, h2]), List.map_append]
        rfl
    · rw [decide_eq_false h1]
      refine iteF (iteF ⟨hp.1, ?_⟩)
      rw [nxt false (by simp only [decide_eq_false h1, Bool.false_and])]
      simp only [Bool.false_eq_true, if_false, List.append_nil]
      exact hp.2
  obtain ⟨sD1, eD⟩ := hp
  rw [abc_size, show abcN.take 26 = abcN by rw [List.take_of_length_le (by rw [abcN_len]; exact Nat.le_refl _)]] at eD
  have sE := fun b o e => sD1 b o (ne_of_none e nD) e
  have r1E := r1D.same sE
  have r2E := r2D.same sE
  refine ⟨_, rfl, a, dx3, _, rfl, sE _ _ ex3, rfl, _, rfl, a, b, M1, M2, rfl, r1E, r2E, n1, fun k1 hk1 H7 s7 => ?_⟩
  refine ⟨_, .bool k1, rfl, .bl k1, (okR_bl k1).1, (okR_bl k1).2.1, (okR_bl k1).2.2, ?_⟩
  refine ⟨_, rfl, (by show 0 ≤ sizeLine; decide), fun l0 nl0 => ?_⟩
  have k7 := same_new nl0 (.lst ([] : List V))
  refine ⟨D, l0, _, rfl, rfl, SqL.of (k7 _ _ (s7 _ _ eD)), SqL.of upd_same, ?_⟩
  refine ⟨_, .bool _, rfl, .bl _, (okR_bl _).1, (okR_bl _).2.1, (okR_bl _).2.2, ?_⟩
  have ke : k1 = ((abcN.filter fun c => decide (tgt M1 c ≠ c) && decide (tgt M1 c ≠ tgt M2 c)).map vc).isEmpty := by
    rw [Bool.eq_iff_iff, hk1, within_iff n1, List.isEmpty_iff, List.map_eq_nil_iff, List.filter_eq_nil_iff]
    constructor
    · intro h c hc z
      simp only [Bool.and_eq_true, decide_eq_true_eq] at z
      exact z.2 (h c z.1).symm
    · intro h c hc
      by_cases lc : lowc c
      · have := h c (low_abc lc)
        simp only [Bool.and_eq_true, decide_eq_true_eq, not_and] at this
        exact Classical.byContradiction fun z => this hc fun e => z e.symm
      · exact absurd (out_low n1.ok lc) hc
  rw [← ke]
  refine ⟨rfl, _, rfl, ?_⟩
  rw [show (!decide (V.str (PyData.bool k1).shown = V.str (PyData.bool k1).shown)) = false by simp]
  refine iteF ?_
  have sF := fun b o e => k7 b o (s7 b o (sE b o e))
  have r1F := r1D.same sF
  have r2F := r2D.same sF
  have sT : Same H (upd H7 l0 (.lst ([] : List V))) := sD.trans sF
  clear s7 k7 r1E r2E
  generalize upd H7 l0 (.lst ([] : List V)) = H8 at sF r1F r2F sT ⊢
  have both := both_iff n1 n2
  have fin : ∀ (z : Bool) (H9 : Hp), Same H8 H9 → (z = true ↔ tgt M1 = tgt M2) → ∀ z3 : Bool, (z3 = true ↔ tgt M1 = tgt M2) → Q (.bl (decide (V.str (PyData.bool z).shown = V.str (PyData.bool z3).shown))) H9 := fun z H9 s9 hz z3 hz3 => by
    have e : z = z3 := by rw [Bool.eq_iff_iff, hz, hz3]
    subst e
    rw [show decide (V.str (PyData.bool z).shown = V.str (PyData.bool z).shown) = true from decide_eq_true rfl]
    exact q _ (sT.trans s9)
  refine ⟨_, rfl, a, dx3, _, rfl, sF _ _ ex3, rfl, _, rfl, a, b, M1, M2, rfl, r1F, r2F, n1, fun j1 hj1 H9 s9 => ?_⟩
  cases j1 with
  | true =>
    refine ⟨_, rfl, iteT ?_⟩
    refine ⟨_, rfl, b, dx4, _, rfl, s9 _ _ (sF _ _ ex4), rfl, _, rfl, b, a, M2, M1, rfl, r2F.same s9, r1F.same s9, n2, fun j2 hj2 HA sA => ?_⟩
    have s9A := s9.trans sA
    refine ⟨_, .bool j2, rfl, .bl j2, (okR_bl j2).1, (okR_bl j2).2.1, (okR_bl j2).2.2, ?_⟩
    refine ⟨_, rfl, _, rfl, a, b, dx3, dx4, _, _, rfl, rfl, s9A _ _ (sF _ _ ex3), s9A _ _ (sF _ _ ex4), a, b, M1, M2, rfl, r1F.same s9A, r2F.same s9A, n1, n2, fun j3 hj3 => ⟨_, rfl, ?_⟩⟩
    refine ⟨_, .bool j3, rfl, .bl j3, (okR_bl j3).1, (okR_bl j3).2.1, (okR_bl j3).2.2, rfl, ?_⟩
    exact fin j2 _ s9A (hj2.trans ⟨fun h => both.mp ⟨hj1.mp rfl, h⟩, fun h => (both.mpr h).2⟩) j3 hj3
  | false =>
    refine ⟨_, rfl, iteF ?_⟩
    refine ⟨_, .bool false, rfl, .bl false, (okR_bl false).1, (okR_bl false).2.1, (okR_bl false).2.2, ?_⟩
    refine ⟨_, rfl, _, rfl, a, b, dx3, dx4, _, _, rfl, rfl, s9 _ _ (sF _ _ ex3), s9 _ _ (sF _ _ ex4), a, b, M1, M2, rfl, r1F.same s9, r2F.same s9, n1, n2, fun j3 hj3 => ⟨_, rfl, ?_⟩⟩
    refine ⟨_, .bool j3, rfl, .bl j3, (okR_bl j3).1, (okR_bl j3).2.1, (okR_bl j3).2.2, rfl, ?_⟩
    exact fin false _ s9 ⟨fun h => absurd h Bool.false_ne_true, fun h => hj1.mpr (both.mpr h).1⟩ j3 hj3
end
/-! ### isinstance of a caught error that has a dict; several clauses 'except x as n' -/
/-- isinstance(e, c), e the error of the suite: its class D, its dict d -/
def rIsD (K : PySem.W.Frag) (D a : Addr) (d : Option Addr) : List V → Hp → VK → Prop := fun xs H Q =>
  ∃ c u b dd fs, xs = [.ref a, c] ∧ ClsV c u ∧ d = some dd ∧ H dd = some (.xd fs) ∧ PySem.W.kitOne K (.ref D) u = some b ∧ Q (.bl b) H
def rIsDT (K : PySem.W.Frag) (D a : Addr) (d : Option Addr) : List V → Hp → VK → Prop := fun xs H Q =>
  ∃ tp cs us b dd fs, xs = [.ref a, .ref tp] ∧ H tp = some (.tup cs) ∧ Paired ClsV cs us ∧ d = some dd ∧ H dd = some (.xd fs) ∧ PySem.W.kitAny K (.ref D) us = some b ∧ Q (.bl b) H
section
variable {X : Cx} {a D : Addr} {d : Option Addr} {oe : Obj} {pn : List (Addr × Obj)}
theorem inst_of {pins : List (Addr × Obj)} {s : Shared} {σ : L2.St} {H : Hp} {dd : Addr} {fs : List (Str × V)} (hz : Zc (.ref D) (some dd) oe) (hf : ∃ vs, oe.data = .fields vs)
    (I : Inv (X.suite a ((a, oe) :: pn)) pins σ H s) (e : H dd = some (.xd fs)) : ∃ od, PySem.W.InstAt s.heap a oe D (some od) := by
  have here := (I.pin (a, oe) (List.mem_append_left _ List.mem_cons_self)).1
  have ok : ObjOk X.prog X.w H s.heap dd (.xd fs) := I.hok dd _ e
  obtain ⟨mA, ns, -⟩ := ok
  obtain ⟨od, ho, -⟩ := lookIn_ns ns
  refine ⟨od, here, hz.1, ?_, ?_⟩
  · obtain ⟨vs, hv⟩ := hf
    unfold PySem.W.notCls
    rw [hv] <;> rfl
  · rw [hz.2]; exact ho
theorem kit_exD {K : PySem.W.Frag} {od : Option Obj} (C : ExcC K D) : PySem.W.KitX K (.ref a) (.ref D) (fun h => PySem.W.InstAt h a oe D od) := by
  have known : (PySem.W.clsIn K D).isSome = true := by
    obtain ⟨cd, hc, _⟩ := PySem.W.any_some C.hd
    rw [hc] <;> rfl
  exact PySem.W.kitx_exc known C.hg C.hk C.hs C.ha C.hn C.ht C.hm
theorem call_isD (C : ExcC X.K D) (hz : Zc (.ref D) d oe) (hf : ∃ vs, oe.data = .fields vs) : CallR (X.suite a ((a, oe) :: pn)) (.builtin "isinstance") (rIsD X.K D a d) := by
  rintro pins s σ H _ us Q I r ⟨c, u, b, dd, fs, rfl, k, rfl, eH, e, q⟩
  obtain ⟨u1, u2, rfl, r1, r2⟩ := vals2 r
  cases k.eq r2
  cases (show u1 = Value.ref a from r1)
  obtain ⟨od, J⟩ := inst_of hz hf I eH
  refine PySem.W.kia_one (kit_exD C) I.kIn J e (by intro z; cases z) fun tk => ?_
  exact ⟨.bl b, H, I.tok tk, rfl, q⟩
theorem call_isDT (C : ExcC X.K D) (hz : Zc (.ref D) d oe) (hf : ∃ vs, oe.data = .fields vs) : CallR (X.suite a ((a, oe) :: pn)) (.builtin "isinstance") (rIsDT X.K D a d) := by
  rintro pins s σ H _ us Q I r ⟨tp, cs, ws, b, dd, fs, rfl, hT, k, rfl, eH, e, q⟩
  obtain ⟨u1, u2, rfl, r1, r2⟩ := vals2 r
  cases (show u2 = Value.ref tp from r2)
  cases (show u1 = Value.ref a from r1)
  obtain ⟨od, J⟩ := inst_of hz hf I eH
  have okT : ObjOk X.prog X.w H s.heap tp (.tup cs) := I.hok tp _ hT
  obtain ⟨-, its, rv, ⟨oc, od', dt, sl⟩, there, kind, n, data⟩ := okT
  dsimp only at kind data
  subst kind data
  cases ClsV.all k rv
  refine PySem.W.kia_tup (kit_exD C) I.kIn J there e (by intro z; cases z) fun tk => ?_
  exact ⟨.bl b, H, I.tok tk, rfl, q⟩
end
/-- an error of the body, landed in X: sI is the state without it, s the state with it -/
structure Down (X : Cx) (pins : List (Addr × Obj)) (σ : L2.St) (H : Hp) (cls : Value) (d : Option Addr) (a : Addr) (B : Heap) (sI s : Shared) : Prop where
  inv : Inv X pins σ H sI
  base : ∀ b o, sI.heap.get? b = some o → b ∉ frs X.stack → B.get? b = some o
  up : sI.heap.UpToSlots s.heap
  fly : HandSPX.FlyingZ B (X.env :: X.outer) a (Zc cls d) s.heap
  free : H a = none
  os : s.os = sI.os
  bare : AllBare s.gens
section
variable {X : Cx} {pins : List (Addr × Obj)} {σ : L2.St} {H : Hp} {cls : Value} {d : Option Addr} {a : Addr} {B : Heap} {sI s : Shared}
theorem Down.here (w : Down X pins σ H cls d a B sI s) : Inv X pins σ H s := w.inv.landed w.base w.fly.1 w.up w.os w.bare
theorem Down.moved (w : Down X pins σ H cls d a B sI s) {h' : Heap} (fl : HandSPX.FlyingZ B (X.env :: X.outer) a (Zc cls d) h') (up : s.heap.UpToSlots h') : Down X pins σ H cls d a B sI { s with heap := h' } :=
  { w with up := w.up.trans up, fly := fl }
theorem Down.apart (w : Down X pins σ H cls d a B sI s) : a ∉ (X.env :: X.outer).filterMap (·.frame) := by
  intro hm
  obtain ⟨oe, vs, he, -, hd⟩ := w.fly.there
  obtain ⟨-, o, e, no⟩ := w.fly.2.2.1.mem hm
  cases he.symm.trans e
  exact no vs hd
/-- the state, seen from the suite of a clause -/
theorem Down.suite (w : Down X pins σ H cls d a B sI s) (hf : X.env.frame = some X.env.locals) :
    ∃ oe, Zc cls d oe ∧ (∃ vs, oe.data = .fields vs) ∧ s.heap.get? a = some oe ∧ Inv (X.suite a ((a, oe) :: (X.pn ++ pins))) [] σ H s := by
  obtain ⟨oe, vs, he, hz, hd⟩ := w.fly.there
  have no := w.apart
  refine ⟨oe, hz, ⟨vs, hd⟩, he, w.here.suite he hd w.free ?_ ?_⟩
  · intro z
    subst z
    exact no (List.mem_filterMap.mpr ⟨X.env, .head _, hf⟩)
  · intro z
    obtain ⟨e, me, q⟩ := List.mem_filterMap.mp z
    exact no (List.mem_filterMap.mpr ⟨e, .tail _ me, q⟩)
/-- no clause is left: the error goes on -/
theorem Down.on {Wout : WX} {D : Ends} (w : Down X pins σ H cls d a B sI s) (hs : X.stack = X.env :: X.outer) (hf : X.env.frame = some X.env.locals) (tk : Takes X Wout) (q : Wout cls d σ H) :
    wpAny (model X.prog X.w) X.A (handleBy (.ref a) X.env []) (SP X pins D) X.xe s := by
  have go : wpAny (model X.prog X.w) X.A (setFlight (.ref a) X.env.frame) (fun _ s4 => wpAny (model X.prog X.w) X.A (throw (.ref a) : Sem Flow) (SP X pins D) X.xe s4) X.xe s := by
    rw [hf]
    refine HandSPX.setFlight_upZ w.fly fun h4 held up4 => wpAny_throw (tk _ _ ?_)
    refine ⟨a, B, sI, pins, σ, H, cls, d, rfl, w.inv, w.base, w.up.trans up4, .inr (.inr ?_), w.free, w.os, w.bare, q⟩
    rw [hs]
    exact held
  obtain ⟨-, -, -, oe, vs, T, -, -, he, -, hd, h1, -⟩ := id w.fly
  refine wpAny_handleBy_nil ?_
  unfold PySem.passOn
  refine wpAny_bind (wpAny_field he hd h1 ?_)
  have nn : ¬ (Value.ref T == Value.none) = true := by simp
  rw [if_neg nn]
  first
    | exact wpAny_bind go
    | exact wpAny_bind (wpAny_pure (wpAny_bind go))
/-- the first of the clauses: it is taken, or the next ones are asked -/
theorem Down.clause {D : Ends} {x n : Str} {c : Value} {i : Nat} {b₀ : Stmt} {body : List Stmt} {p p' : Pos} {rest : List ExceptHandler} {ts : Addr → Value → Option Addr → TS} {W : WX}
    (w : Down X pins σ H cls d a B sI s) (hf : X.env.frame = some X.env.locals) (hN : X.N.Nodup) (hi : X.N[i]? = some n) (hln : X.env.kindOf n = some .local) (hc : Names X x c)
    (hsu : ∀ (oe : Obj) (pn : List (Addr × Obj)), Zc cls d oe → (∃ vs, oe.data = .fields vs) → PSs (X.suite a ((a, oe) :: pn)) (b₀ :: body) (ts a cls d))
    (q : wAs X.K c i ts W D cls d σ H) (hr : W cls d σ H → wpAny (model X.prog X.w) X.A (handleBy (.ref a) X.env rest) (SP X pins D) X.xe s) :
    wpAny (model X.prog X.w) X.A (handleBy (.ref a) X.env (.ExceptHandler (some (.Name x p)) (some n) (b₀ :: body) p' :: rest)) (SP X pins D) X.xe s := by
  obtain ⟨b, is, yes, no⟩ := q
  obtain ⟨oe, hz, -, he, S⟩ := w.suite hf
  refine wpAny_handleBy_cons (codeAny_handlers_test ?_) (by intro z; cases z)
  have ty : PySem.W.Looks (model X.prog X.w) s.heap (typeOf (.ref a)) cls := by
    intro A Q E s' k q
    refine wpAny_typeOf_ref (k _ _ he) ?_
    rw [hz.1]
    exact q
  have match_ := PySem.W.exm_one (M := model X.prog X.w) w.here.kIn ty is
  have name_ : ∀ {Q E : Value → Shared → Prop}, Q c s → wpAny (model X.prog X.w) (X.A.mark (some (.ref a))) (eval (.Name x p) X.env) Q E s := by
    intro Q E q
    rcases hc with ⟨g, nd, m | ⟨m, v, nn⟩⟩
    · exact ld_glob (X := X.suite a _) S g m q nd
    · exact ld_blt (X := X.suite a _) S g m v q nn nd
  refine name_ (match_.here ?_)
  cases b with
  | false => exact hr (no rfl)
  | true =>
    refine codeAny_handlers_suite_as (HandSPX.lands_againZ w.fly fun h4 fl4 up4 => ?_)
    obtain ⟨oe4, hz4, hd4, -, S4⟩ := (w.moved fl4 up4).suite hf
    refine store_ok (X := X.suite a _) (v := .ref a) S4 hN hi (.inl hln) rfl (fun s5 S5 => ?_) (.inr hln)
    refine wpAny_mono ((hsu oe4 (X.pn ++ pins) hz4 hd4).run [] s5 _ H _ S5 (yes rfl a w.free)) (fun f s6 r => ?_) (by intro _ _ z; exact z.elim)
    have ok := w.inv.ok
    cases f with
    | ret u =>
      obtain ⟨v6, σ6, H6, S6, r6, q6⟩ := r
      exact gone_ok (S6.unsuite ok) hN hi hln fun s7 J7 => ⟨v6, _, _, J7, r6, q6⟩
    | next =>
      obtain ⟨σ6, H6, S6, q6⟩ := r
      exact gone_ok (S6.unsuite ok) hN hi hln fun s7 J7 => ⟨_, _, J7, q6⟩
    | brk =>
      obtain ⟨σ6, H6, S6, q6⟩ := r
      exact gone_ok (S6.unsuite ok) hN hi hln fun s7 J7 => ⟨_, _, J7, q6⟩
    | cont =>
      obtain ⟨σ6, H6, S6, q6⟩ := r
      exact gone_ok (S6.unsuite ok) hN hi hln fun s7 J7 => ⟨_, _, J7, q6⟩
end
/-- clauses 'except x as n', n in slot i, with what each does and what the one behind the last wishes -/
inductive Clauses (X : Cx) (n : Str) (i : Nat) (Wout : WX) : List ExceptHandler → (Ends → WX) → Prop
  | nil : Clauses X n i Wout [] (fun _ => Wout)
  | cons {x : Str} {c : Value} {ts : Addr → Value → Option Addr → TS} {b₀ : Stmt} {body : List Stmt} {p p' : Pos} {rest : List ExceptHandler} {W : Ends → WX} (hc : Names X x c)
      (hsu : ∀ (a : Addr) (oe : Obj) (cls : Value) (d : Option Addr) (pn : List (Addr × Obj)), Zc cls d oe → (∃ vs, oe.data = .fields vs) → PSs (X.suite a ((a, oe) :: pn)) (b₀ :: body) (ts a cls d))
      (r : Clauses X n i Wout rest W) : Clauses X n i Wout (.ExceptHandler (some (.Name x p)) (some n) (b₀ :: body) p' :: rest) (fun D => wAs X.K c i ts (W D) D)
section
variable {X : Cx} {n : Str} {i : Nat} {Wout : WX}
theorem Clauses.run {hds : List ExceptHandler} {W : Ends → WX} (k : Clauses X n i Wout hds W) (hs : X.stack = X.env :: X.outer) (hf : X.env.frame = some X.env.locals) (hN : X.N.Nodup) (hi : X.N[i]? = some n) (hln : X.env.kindOf n = some .local) (tk : Takes X Wout)
    {pins : List (Addr × Obj)} {σ : L2.St} {H : Hp} {cls : Value} {d : Option Addr} {a : Addr} {B : Heap} {sI s : Shared} {D : Ends} (w : Down X pins σ H cls d a B sI s) (q : W D cls d σ H) :
    wpAny (model X.prog X.w) X.A (handleBy (.ref a) X.env hds) (SP X pins D) X.xe s := by
  induction k with
  | nil => exact w.on hs hf tk q
  | cons hc hsu r ih => exact w.clause hf hN hi hln hc (fun oe pn => hsu a oe cls d pn) q ih
/-- try: body / except x1 as n: .. / except x2 as n: .. -/
theorem ps_tryA {body : List Stmt} {h₀ : ExceptHandler} {hds : List ExceptHandler} {pos : Pos} {tb : WX → TS} {W : Ends → WX} (hs : X.stack = X.env :: X.outer) (hf : X.env.frame = some X.env.locals) (hN : X.N.Nodup) (hi : X.N[i]? = some n) (hln : X.env.kindOf n = some .local)
    (tk : Takes X Wout) (hb : ∀ (W : WX) (pn : List (Addr × Obj)) (xe : Value → Shared → Prop), Takes (X.tr pn xe) W → PassesOwn (model X.prog X.w) X.A X.env xe → PSs (X.tr pn xe) body (tb W))
    (k : Clauses X n i Wout (h₀ :: hds) W) : PS X (.Try body (h₀ :: hds) [] [] pos) (fun D σ H => tb (W D) D σ H) := by
  constructor
  intro pins s σ H D I h
  have ok := I.ok
  let out : Value → Shared → Prop := fun e s₁ => wpAny (model X.prog X.w) X.A (noteFrame e X.env)
    (fun _ s₂ => wpAny (model X.prog X.w) X.A (setFlight e none) (fun _ s₃ => wpAny (model X.prog X.w) X.A (handleBy e X.env (h₀ :: hds)) (SP X pins D) X.xe s₃) X.xe s₂) X.xe s₁
  have tks : Takes (X.tr (X.pn ++ pins) out) (W D) := by
    rintro u s' ⟨a, B, sI, pins', σ', H', cls, d, rfl, J, nb, up, sky, na, os, ag, q⟩
    have fr : X.A.frames = some (X.env :: X.outer) := by rw [ok.frames, hs]
    have sky' := sky
    rw [show (X.tr (X.pn ++ pins) out).stack = X.env :: X.outer from hs] at sky'
    refine Sky.land (E₁ := X.xe) Zc.steady fr hf sky' fun h3 fl3 up3 => ?_
    exact k.run hs hf hN hi hln tk (sI := sI) (B := B) ⟨J.ofTry ok, nb, up.trans up3, fl3, na, os, ag⟩ q
  refine wpAny_Try_except (wpAny_mono ((hb (W D) (X.pn ++ pins) out tks PassesOwn.looking).run [] s σ H D (I.toTry _) h) ?_ fun _ _ he => he)
  · intro f s1 r
    cases f with
    | next =>
      obtain ⟨σ', H', J, q⟩ := r
      exact wpAny_execs_nil ⟨σ', H', J.ofTry ok, q⟩
    | ret u =>
      obtain ⟨v, σ', H', J, r', q⟩ := r
      exact ⟨v, σ', H', J.ofTry ok, r', q⟩
    | brk | cont =>
      obtain ⟨σ', H', J, q⟩ := r
      exact ⟨σ', H', J.ofTry ok, q⟩
end
section
variable {X : Cx} {a : Addr} {cls : Value} {d : Option Addr} {oe : Obj} {pn : List (Addr × Obj)}
/-- isinstance of the error of the suite, whatever its class is: an own one that says enough -/
def rIsX (K : PySem.W.Frag) (a : Addr) (cls : Value) (d : Option Addr) : List V → Hp → VK → Prop := fun xs H Q => ∃ D, cls = .ref D ∧ ExcC K D ∧ rIsD K D a d xs H Q
def rIsXT (K : PySem.W.Frag) (a : Addr) (cls : Value) (d : Option Addr) : List V → Hp → VK → Prop := fun xs H Q => ∃ D, cls = .ref D ∧ ExcC K D ∧ rIsDT K D a d xs H Q
theorem call_isX (hz : Zc cls d oe) (hf : ∃ vs, oe.data = .fields vs) : CallR (X.suite a ((a, oe) :: pn)) (.builtin "isinstance") (rIsX X.K a cls d) := by
  rintro pins s σ H xs us Q I r ⟨D, rfl, C, h⟩
  exact call_isD C hz hf pins s σ H xs us Q I r h
theorem call_isXT (hz : Zc cls d oe) (hf : ∃ vs, oe.data = .fields vs) : CallR (X.suite a ((a, oe) :: pn)) (.builtin "isinstance") (rIsXT X.K a cls d) := by
  rintro pins s σ H xs us Q I r ⟨D, rfl, C, h⟩
  exact call_isDT C hz hf pins s σ H xs us Q I r h
end
/-! ### _law_back -/
theorem pe_negS {X : Cx} {CX : CXT} {C g : Addr} {n : Nat} {sp : Sp} {E : L2.St → XK} {e : Expr} {te : TE} {pos : Pos} (hs : PySem.W.findIn X.K (.ref C) "__neg__" = some (some (.ref g))) (hf : PySem.W.isFn X.K (.ref g) = true) (F : FnR X.prog X.w X.K X.mg X.base CX n g sp) (hr : Room n X.A) (hx : ∀ σ, PassesAt CX X σ (E σ)) (he : PE X e te) :
    PE X (.UnaryOp .USub e pos) (fun σ H Q => te σ H fun x H1 => rNegOwn C sp (E σ) x H1 Q) := by
  refine ⟨fun pins s σ H Q I h => ?_⟩
  refine UnaryOp_ (thn (he.run pins s σ H _ I h) fun v s1 ⟨x, H1, I1, rx, a, dx, fs, ex, ea, q⟩ => ?_)
  subst ex
  cases (show v = Value.ref a from rx)
  obtain ⟨mA, O, _⟩ := ins_get I1.hok ea
  obtain ⟨od, J, _⟩ := O.look
  obtain ⟨m, hF⟩ := I1.fr
  refine PySem.W.ksp_neg hF I1.ok.mod.kin J hs hf (wpAny_call (codeAny_mono (F X.A X.stack s1 H1 [.ref a] [.ref a] Q (E σ) hr I1.env0 (.cons rfl .nil) q) fun r s' hq => ?_))
  cases r with
  | error e => exact hx σ pins H1 s1 e s' I1 hq
  | ok fl =>
    cases fl with
    | ret u => exact I1.after hq
    | next => exact False.elim hq
    | brk => exact False.elim hq
    | cont => exact False.elim hq
structure ErrB (K : PySem.W.Frag) (mg : Str → Option Value) (CN : Addr) : Prop where
  w : ∃ CW, mg "WalkError" = some (.ref CW) ∧ PySem.W.exmOne K (.ref CN) (.ref CW) = some true
  x1 : ExcC K CN
  k11 : PySem.W.kitOne K (.ref CN) (.ref CN) = some true
  mL : mg "LookupError" = none
  more : ∃ c1 c2 c3, mg "NoLabel" = some (.ref c1) ∧ mg "NoTree" = some (.ref c2) ∧ mg "Twice" = some (.ref c3) ∧ PySem.W.kitAny K (.ref CN) [.type "LookupError", .ref c1, .ref c2, .ref c3] = some false
def spBack (C : Addr) : Sp := fun vs H Q _ => ∃ a M, vs = [.ref a] ∧ Rn C H a M ∧ Ren M ∧
  (twice M = none → ∀ c O H', Ren O → (∀ x, lowc x → tgt O (tgt M x) = x) → Same H H' → H c = none → Rn C H' c O → Q (.ref c) H') ∧
  (∀ t, twice M = some t → ∀ p H', Same H H' → H' p = some (.lst [vc t]) → Q (.ref p) H')
section
variable {P : Program} {w : World} {K : PySem.W.Frag} {mg : Str → Option Value} {base : Heap} {f fi : Addr} {fd : FuncData} {C CN fN gA gE gS gN gC gL gB : Addr} {qn : Str}
theorem ok_back (F : Fun K "_law_back" "_law_back" s__law_back f fd) (M : Mgs mg) (hNO : Err_letter K mg "ValueError.__new__" [.type "ValueError", .type "Exception", .type "BaseException", .type "object"] "NotOneToOne" qn CN fN) (EB : ErrB K mg CN) (OC : OwnC K C gA gE gS gN gC gL gB) (FN : FnR P w K mg base (L2.CX P w) 5 gN (spNegR C CN)) :
    FnOk P w K mg base CX0 6 f fd ["_law_renaming"] (spBack C) := by
  refine F.ok sc__law_back (fun vs H Q E h => ?_) (fun cdv A outer s H vs Q E hr h => ?_)
  · obtain ⟨a, _, rfl, _⟩ := h
    rfl
  obtain ⟨a, L, rfl, ra, rl, q1, q2⟩ := h
  obtain ⟨CW, gW, e1⟩ := EB.w
  obtain ⟨c1, c2, c3, g1, g2, g3, kA⟩ := EB.more
  refine ⟨_, (pss_cons (ps_set (i := 1) sc__law_back.nd rfl (.inl rfl) pe_non)
    (pss_cons (ps_tryA (i := 2) (n := "error") (Wout := fun _ _ _ _ => False) rfl rfl sc__law_back.nd rfl rfl takes_none5
      (fun W pn xe tk _ => pss_one (ps_set (i := 1) sc__law_back.nd rfl (.inl rfl) (pe_negS OC.ne OC.nef FN (hr.mono (by omega)) (fun σ => passAt tk σ) (pv 0))))
      (.cons ⟨rfl, by decide, .inl gW⟩ (fun a oe cls d pn hz hf => (pss_cons (ps_set (i := 3) sc__law_back.nd rfl (.inl rfl) (pe_and (pe_callB (call_isX hz hf) rfl M.isinstance (by decide +kernel) (pa_cons (pv 2) (pa_cons (pe_glob (v := .ref CN) rfl hNO.gC rfl) pa_nil))) (pe_one (pe_not (pe_callB (call_isXT hz hf) rfl M.isinstance (by decide +kernel) (pa_cons (pv 2) (pa_cons (pe_tup (pa_cons (pe_bltn (v := .ty "LookupError") rfl EB.mL (by decide +kernel) rfl) (pa_cons (pe_glob (v := .ref c1) rfl g1 rfl) (pa_cons (pe_glob (v := .ref c2) rfl g2 rfl) (pa_cons (pe_glob (v := .ref c3) rfl g3 rfl) pa_nil))))) pa_nil))))))) (pss_one (ps_set (i := 1) sc__law_back.nd rfl (.inl rfl) (pe_ifExp (pt_val (pv 3)) (pe_lst (pa_cons (pe_fld_letter hNO hz hf (pv 2)) pa_nil)) (pe_lst (pa_cons pe_str pa_nil))))))) .nil))
    (pss_one (ps_ret (pv 1))))), ?_⟩
  obtain ⟨dx, fs, ea⟩ := ra.ins
  refine ⟨_, rfl, a, dx, fs, rfl, ea, a, L, rfl, ra, rl, fun tn c O H' nO tO s1 nc rO => ?_, fun t tt p H1 s1 np => ?_⟩
  · exact ⟨_, rfl, q1 tn c O H' nO tO s1 nc rO⟩
  · refine ⟨true, e1, fun _ a0 na => ?_, fun z => nomatch z⟩
    have s2 := s1.trans (same_new np (.xd [(("letter" : Str), vc t)]))
    have ep := upd_same (H := H1) (a := p) (o := .xd [(("letter" : Str), vc t)])
    generalize upd H1 p (.xd [(("letter" : Str), vc t)]) = H2 at s2 ep na ⊢
    refine ⟨_, rfl, CN, rfl, EB.x1, _, _, true, p, _, rfl, .own _, rfl, ep, EB.k11, _, rfl, iteT ?_⟩
    refine ⟨_, rfl, (by show 4 ≤ sizeLine; decide), fun tp ntp => ?_⟩
    have s3 := s2.trans (same_new ntp (.tup [.ty "LookupError", .ref c1, .ref c2, .ref c3]))
    have ep3 := (same_new ntp (.tup [.ty "LookupError", .ref c1, .ref c2, .ref c3])) _ _ ep
    refine ⟨CN, rfl, EB.x1, tp, _, _, false, p, _, rfl, upd_same, .cons (.ty _) (.cons (.own _) (.cons (.own _) (.cons (.own _) .nil))), rfl, ep3, kA, _, rfl, ?_⟩
    refine ⟨_, rfl, _, rfl, iteT ?_⟩
    refine ⟨_, rfl, rfl, rfl, p, _, rfl, ep3, (by show 1 ≤ sizeLine; decide), fun p2 np2 => ?_⟩
    exact ⟨_, rfl, q2 t tt p2 _ (s3.trans (same_new np2 _)) upd_same⟩
end
/-! ### _law_back_right -/
theorem passE0 {X : Cx} : Passes (L2.CX X.prog X.w) X E0 := fun pins σ H s e s' I c => by
  obtain ⟨a, B, H', cls, d, _, _, _, _, _, _, _, hW⟩ := c
  exact hW.elim
theorem pe_notOwn {X : Cx} {CX : CXT} {C g : Addr} {n : Nat} {sp : Sp} {E : XK} {e : Expr} {t : TE} {pos : Pos} (h : PE X e t) (hs : PySem.W.findIn X.K (.ref C) "__bool__" = some (some (.ref g))) (hf : PySem.W.isFn X.K (.ref g) = true) (F : FnR X.prog X.w X.K X.mg X.base CX n g sp) (hr : Room n X.A) (hx : Passes CX X E) :
    PE X (.UnaryOp .Not e pos) (fun σ H Q => t σ H fun x H1 => ∃ a dx fs, x = .ref a ∧ H1 a = some (.ins C dx fs) ∧ sp [.ref a] H1 (fun v H' => ∃ k, v = .bl k ∧ Q (.bl (!k)) H') E) := by
  refine ⟨fun pins s σ H Q I hw => ?_⟩
  refine UnaryOp_ (thn (h.run pins s σ H _ I hw) fun v s1 ⟨x, H1, I1, r1, a, dx, fs, ex, ea, q⟩ => ?_)
  subst ex
  cases (show v = Value.ref a from r1)
  obtain ⟨mA, O, _⟩ := ins_get I1.hok ea
  obtain ⟨od, J, _⟩ := O.look
  obtain ⟨m, hF⟩ := I1.fr
  refine not_of (PySem.W.truthy_K hF I1.ok.mod.kin J hs hf (wpAny_mono (run_own (us := [.ref a]) (vs := [.ref a]) F hr hx I1 (.cons rfl .nil) q) (fun w s' z => ?_) fun _ _ x => x))
  obtain ⟨x', H', I', r, k, ek, q'⟩ := z
  subst ek
  cases (show w = Value.bool k from r)
  exact ⟨.bl (!k), H', I', rfl, q'⟩
theorem twice_ext {M N : Ld} (e : tgt M = tgt N) : twice M = twice N := by
  unfold twice timesIn
  rw [e]
theorem perm_of_nd {l m : List Nat} (h1 : l.Nodup) (h2 : m.Nodup) (h : ∀ c, c ∈ l ↔ c ∈ m) : l.Perm m := (List.perm_ext_iff_of_nodup h1 h2).mpr h
/-- the letters reached are all letters -/
theorem all_reached {M : Ld} (ok : LdOk M) (h : twice M = none) : (abcN.map (tgt M)).Perm abcN := by
  have nd := twice_none ok h
  refine perm_of_nd nd abcN_nd fun c => ⟨fun hc => ?_, fun hc => ?_⟩
  · obtain ⟨x, hx, rfl⟩ := List.mem_map.mp hc
    exact low_abc (tgt_low ok (abcN_low x hx))
  · by_cases m : c ∈ abcN.map (tgt M)
    · exact m
    · have : ∀ (l m : List Nat), l.Nodup → (∀ x ∈ l, x ∈ m) → l.length ≤ m.length := by
        intro l
        induction l with
        | nil => exact fun m _ _ => Nat.zero_le _
        | cons a l ih =>
          intro m nd hs
          obtain ⟨n1, n2⟩ := List.nodup_cons.mp nd
          have ha := hs a List.mem_cons_self
          have := ih (m.erase a) n2 fun x hx => (List.mem_erase_of_ne (fun z => n1 (by rw [← z]; exact hx))).mpr (hs x (List.mem_cons_of_mem _ hx))
          rw [List.length_erase_of_mem ha] at this
          have := List.length_pos_of_mem ha
          rw [List.length_cons]
          omega
      have := this (c :: abcN.map (tgt M)) abcN (List.nodup_cons.mpr ⟨m, nd⟩) fun x hx => by
        rcases List.mem_cons.mp hx with rfl | hx
        · exact hc
        · obtain ⟨y, hy, rfl⟩ := List.mem_map.mp hx
          exact low_abc (tgt_low ok (abcN_low y hy))
      rw [List.length_cons, List.length_map] at this
      omega
theorem reach {M : Ld} (ok : LdOk M) (h : twice M = none) {c : Nat} (hc : lowc c) : ∃ x, lowc x ∧ tgt M x = c := by
  obtain ⟨x, hx, e⟩ := List.mem_map.mp ((all_reached ok h).mem_iff.mpr (low_abc hc))
  exact ⟨x, abcN_low x hx, e⟩
theorem inv_both {M O : Ld} (ok : LdOk M) (h : twice M = none) (hi : ∀ x, lowc x → tgt O (tgt M x) = x) {c : Nat} (hc : lowc c) : tgt M (tgt O c) = c := by
  obtain ⟨x, hx, e⟩ := reach ok h hc
  rw [← e, hi x hx]
theorem inv_twice {M O : Ld} (rm : Ren M) (ro : Ren O) (h : twice M = none) (hi : ∀ x, lowc x → tgt O (tgt M x) = x) : twice O = none := by
  unfold twice
  rw [List.find?_eq_none]
  intro c hc
  have e : (abcN.map (tgt O)).Perm abcN := by
    have p := (all_reached rm.ok h).map (tgt O)
    rw [List.map_map] at p
    have e2 : abcN.map (tgt O ∘ tgt M) = abcN := by
      conv => rhs; rw [← List.map_id abcN]
      exact List.map_congr_left fun x hx => hi x (abcN_low x hx)
    rw [e2] at p
    exact p.symm
  have : timesIn O c = 1 := by
    unfold timesIn
    rw [e.countP_eq]
    have nd := abcN_nd
    have := List.nodup_iff_count.mp nd c
    have g : abcN.count c = abcN.countP (fun y => y == c) := rfl
    have p : 0 < abcN.count c := List.count_pos_iff.mpr hc
    omega
  simp [this]
theorem moved_len {M : Ld} (rm : Ren M) : M.length = (abcN.filter fun c => decide (tgt M c ≠ c)).length := by
  rw [← List.length_map (f := (·.1))]
  refine (perm_of_nd rm.ok.nd (List.filter_sublist.nodup abcN_nd) fun c => ⟨fun hc => ?_, fun hc => ?_⟩).length_eq
  · obtain ⟨p, hp, e⟩ := List.mem_map.mp hc
    have e : p.1 = c := e
    subst e
    refine List.mem_filter.mpr ⟨low_abc (rm.ok.low p hp).1, decide_eq_true ?_⟩
    rw [tgt_mem rm.ok.nd (a := p.1) (b := p.2) hp]
    exact (rm.mv p hp).symm
  · have := (List.mem_filter.mp hc).2
    exact List.mem_map.mpr ⟨_, tgt_key (by simpa using this), rfl⟩
theorem inv_len {M O : Ld} (rm : Ren M) (ro : Ren O) (h : twice M = none) (hi : ∀ x, lowc x → tgt O (tgt M x) = x) : O.length = M.length := by
  rw [moved_len rm, moved_len ro, ← List.countP_eq_length_filter, ← List.countP_eq_length_filter, ← (all_reached rm.ok h).countP_eq, List.countP_map]
  refine List.countP_congr fun x hx => ?_
  have := hi x (abcN_low x hx)
  simp only [Function.comp, decide_eq_true_eq]
  rw [this]
  exact ⟨fun z e => z e.symm, fun z e => z e.symm⟩
theorem ren_nil {S : Ld} (rs : Ren S) (h : ∀ x, tgt S x = x) : S = [] := by
  cases S with
  | nil => rfl
  | cons p S =>
    have := tgt_mem rs.ok.nd (a := p.1) (b := p.2) List.mem_cons_self
    rw [h] at this
    exact absurd this (rs.mv p List.mem_cons_self)
theorem ne_selfc (x : Nat) : (!decide (vc x = vc x)) = false := by simp
def spBR (C : Addr) : Sp := fun vs H Q _ => ∃ (a p : Addr) (M L : Ld), vs = [.ref a, .ref p] ∧ Rn C H a M ∧ Ren M ∧ TabAt H p L ∧ LdOk L ∧ tgt M = tgt L ∧ ∀ H', Same H H' → Q (.bl true) H'
section
variable {P : Program} {w : World} {K : PySem.W.Frag} {mg : Str → Option Value} {base : Heap} {f fi : Addr} {fd : FuncData} {C CN gG gA gE gS gN gC gL gB : Addr}
theorem ok_br (F : Fun K "_law_back_right" "_law_back_right" s__law_back_right f fd) (M : Mgs mg) (TD : RenC K mg C gG) (IC : InsK K C) (gR : mg "Renaming" = some (.ref C)) (MK : L2.Mk K C fi) (Dget : FnR P w K mg base CX0 2 gG (spGet C)) (OC : OwnC K C gA gE gS gN gC gL gB)
    (Di : ∀ ks : List Str, (∃ L : Ld, ks = L.map (fun p => ch p.1) ∧ LdOk L) → FnKwX CX0 P w K mg base 2 fi 1 ks (spInitR C ks)) (FA : FnR P w K mg base CX0 4 gA (spAddR C)) (FE : FnR P w K mg base CX0 2 gE (spEqR C)) (FN : FnR P w K mg base (L2.CX P w) 5 gN (spNegR C CN)) (FL : FnR P w K mg base CX0 1 gL (spLenR C)) (FB : FnR P w K mg base CX0 1 gB (spBoolR C))
    (D_law_back : Df P w K mg base 6 "_law_back" ["_law_renaming"] (spBack C)) (D_law_twice : Df P w K mg base 2 "_law_twice" ["_law_rows"] spTwice) : FnOk P w K mg base CX0 7 f fd ["_law_renaming", "_law_rows"] (spBR C) := by
  refine F.ok sc__law_back_right (fun vs H Q E h => ?_) (fun cdv A outer s H vs Q E hr h => ?_)
  · obtain ⟨a, p, _, _, rfl, _⟩ := h
    rfl
  obtain ⟨a, p, M1, L, rfl, r1, n1, ta, okL, eL, q⟩ := h
  have bu : bootBuiltins "isinstance" = some (.builtin "isinstance") := by decide +kernel
  have ok0 : LdOk ([] : Ld) := ⟨List.nodup_nil, fun _ h => nomatch h⟩
  have tw : twice M1 = twice L := twice_ext eL
  refine ⟨_, (pss_cons (ps_par (i := 2) (j := 3) (by rfl) sc__law_back_right.nd rfl rfl (by decide) rfl rfl (pa_cons (pe_call D_law_back.ok (hr.mono (by omega)) rfl D_law_back.g D_law_back.kp D_law_back.b .nil pass0 (pa_cons (pv 0) pa_nil)) (pa_cons (pe_call D_law_twice.ok (hr.mono (by omega)) rfl D_law_twice.g D_law_twice.kp D_law_twice.b .nil pass0 (pa_cons (pv 1) pa_nil)) pa_nil)) (by rfl))
    (pss_cons (ps_if (pt_cmpR op_notN (pv 3) pe_non (nomark _))
      (pss_one (ps_ret (pe_cmpR (op_eqD hr.units) (pv 2) (pe_lst (pa_cons (pv 3) pa_nil)) (nomark _)))) pss_nil)
    (pss_cons (ps_if (PW.pt (pw_or (pt_not (pt_val (pe_callB call_isi rfl M.isinstance bu (pa_cons (pv 2) (pa_cons (pe_glob (v := .ref C) rfl gR rfl) pa_nil))))) (pw_or (pt_cmpR op_ne (pe_callB (call_lenOwn OC.le OC.lef FL (hr.mono (by omega))) rfl M.len PySem.boot_len (pa_cons (pv 2) pa_nil)) (pe_callB (call_lenOwn OC.le OC.lef FL (hr.mono (by omega))) rfl M.len PySem.boot_len (pa_cons (pv 0) pa_nil)) (nomark _)) (pw_or1 (pt_not (pt_cmpR (op_eqOwn (Nat.lt_of_le_of_lt (Nat.le_add_right _ _) hr.units) OC.eq OC.eqf FE (hr.mono (by omega)) pass0) (pe_un (un_negOwn OC.ne OC.nef FN (hr.mono (by omega)) passE0) (pv 2)) (pv 0) (nomark _)))))))
      (pss_one (ps_ret pe_bl)) pss_nil)
    (pss_cons (ps_for PassesOwn.never rfl (pi_str pe_str) (pg_name (i := 4) sc__law_back_right.nd rfl (.inl rfl))
      (pss_one (ps_if (PW.pt (pw_or (pt_cmpR op_ne (pe_ixOwn TD.gi TD.gf TD.gn Dget (hr.mono (by omega)) (pv 2) (pe_ixOwn TD.gi TD.gf TD.gn Dget (hr.mono (by omega)) (pv 0) (pv 4) (fun _ _ => rfl)) (fun _ _ => rfl)) (pv 4) (nomark _)) (pw_or1 (pt_cmpR op_ne (pe_ixOwn TD.gi TD.gf TD.gn Dget (hr.mono (by omega)) (pv 0) (pe_ixOwn TD.gi TD.gf TD.gn Dget (hr.mono (by omega)) (pv 2) (pv 4) (fun _ _ => rfl)) (fun _ _ => rfl)) (pv 4) (nomark _)))))
      (pss_one (ps_ret pe_bl)) pss_nil)))
    (pss_one (ps_ret (pe_and (pe_cmpR (op_eqOwn (Nat.lt_of_le_of_lt (Nat.le_add_right _ _) hr.units) OC.eq OC.eqf FE (hr.mono (by omega)) pass0) (pe_op (op_addOwn OC.sf OC.ad OC.adf FA (hr.mono (by omega)) pass0) (pv 0) (pv 2)) (pe_make0G MK (Di [] ⟨[], rfl, ⟨List.nodup_nil, fun _ h => nomatch h⟩⟩) (hr.mono (by omega)) pass0 rfl gR) (nomark _)) (pe_one (pe_notOwn (pe_op (op_addOwn OC.sf OC.ad OC.adf FA (hr.mono (by omega)) pass0) (pv 2) (pv 0)) OC.bo OC.bof FB (hr.mono (by omega)) pass0))))))))), ?_⟩
  refine ⟨_, rfl, a, M1, rfl, r1, n1, fun tn c O H1 nO iv s1 nc rO => ?_, fun t tt pl H1 s1 el => ?_⟩
  · refine ⟨_, rfl, p, L, rfl, ta.same s1, okL, fun H2 s2 => ⟨_, _, rfl, ?_⟩⟩
    have sA := s1.trans s2
    have r1A := r1.same sA
    have rOA := rO.same s2
    rw [← tw, tn]
    obtain ⟨d1, f1, e1⟩ := r1A.ins
    obtain ⟨d2, f2, e2⟩ := rOA.ins
    refine ⟨_, rfl, rfl, _, rfl, iteF ?_⟩
    refine ⟨_, rfl, _, _, .ref C, .ref C, true, rfl, .own _, .base (.ins e2 TD.cl IC.ha IC.hn IC.htk IC.hm), IC.me, true, rfl, iteF ?_⟩
    refine ⟨_, rfl, c, d2, f2, rfl, e2, c, O, rfl, rOA, _, rfl, by omega, by have := nO.ok.len; omega, ?_⟩
    refine ⟨_, rfl, a, d1, f1, rfl, e1, a, M1, rfl, r1A, _, rfl, by omega, by have := n1.ok.len; omega, ?_⟩
    refine ⟨rfl, _, rfl, ?_⟩
    rw [inv_len n1 nO tn iv, show (!decide (V.int (M1.length : Nat) = V.int (M1.length : Nat))) = false by simp]
    refine iteF ?_
    refine ⟨_, rfl, c, d2, f2, rfl, e2, c, O, rfl, rOA, nO, fun tn2 c2 O2 H3 nO2 iv2 s3 nc2 rO2 => ?_, fun t tt => by rw [inv_twice n1 nO tn iv] at tt; cases tt⟩
    obtain ⟨d3, f3, e3⟩ := rO2.ins
    have r1B := r1A.same s3
    obtain ⟨d1, f1, e1⟩ := r1B.ins
    refine ⟨_, rfl, c2, a, d3, d1, f3, f1, rfl, rfl, e3, e1, c2, a, O2, M1, rfl, rO2, r1B, nO2, n1, fun k hk => ?_⟩
    have k1 : k = true := hk.mpr (funext fun x => by
      by_cases hx : lowc x
      · have h1 := iv x hx
        have h2 := iv2 (tgt M1 x) (tgt_low n1.ok hx)
        rw [h1] at h2
        exact h2
      · rw [out_low nO2.ok hx, out_low n1.ok hx])
    subst k1
    refine ⟨_, rfl, _, rfl, iteF ?_⟩
    have sB := sA.trans s3
    have rOB := rOA.same s3
    obtain ⟨d2, f2, e2⟩ := rOB.ins
    refine ⟨_, rfl, ?_⟩
    refine for_it (walk_str (z := Str.ofString "abcdefghijklmnopqrstuvwxyz")) (fun i σ H4 => H4 = H3 ∧ ∃ o4, σ = [some (.ref a), some (.ref p), some (.ref c), some .non, o4]) ⟨rfl, _, rfl⟩ (fun _ _ _ _ _ => trivial) (fun i v σ H4 H'' hi hp hy => ?_) (fun σ H4 hp => ?_)
    · obtain ⟨g1, x, hx, rfl⟩ := hy
      subst g1
      obtain ⟨rfl, o4, rfl⟩ := hp
      have hx := abc_get hx
      have lx := abcN_low x (List.mem_of_getElem? hx)
      refine ⟨_, rfl, _, rfl, _, rfl, a, d1, f1, rfl, e1, a, M1, x, rfl, r1B, lx, ?_⟩
      refine ⟨c, d2, f2, rfl, e2, c, O, _, rfl, rOB, tgt_low n1.ok lx, _, rfl, rfl, _, rfl, ?_⟩
      rw [iv x lx, ne_selfc]
      refine iteF ?_
      refine ⟨_, rfl, _, rfl, _, rfl, c, d2, f2, rfl, e2, c, O, x, rfl, rOB, lx, ?_⟩
      refine ⟨a, d1, f1, rfl, e1, a, M1, _, rfl, r1B, tgt_low nO.ok lx, _, rfl, rfl, _, rfl, ?_⟩
      rw [inv_both n1.ok tn iv lx, ne_selfc]
      exact iteF ⟨rfl, _, rfl⟩
    obtain ⟨rfl, o4, rfl⟩ := hp
    refine ⟨_, rfl, _, rfl, a, c, d1, d2, f1, f2, rfl, rfl, e1, e2, a, c, M1, O, rfl, r1B, rOB, n1, nO, fun y S H5 nS tS s5 nY rS => ⟨⟨_, rfl⟩, ?_⟩⟩
    refine fun x0 dx0 nx0 ndx0 ne0 => ⟨x0, dx0, [], rfl, rfl, rfl, ok0, upd_same, fun H6 Z pZ bx rZ => ⟨rfl, ?_⟩⟩
    have nZ := ren_of ok0 pZ
    have s6 : Same H5 H6 := fun b o e => by
      have g1 : b ≠ x0 := ne_of_none e nx0
      have g2 : b ≠ dx0 := ne_of_none e ndx0
      exact bx _ _ g1 (by rw [upd_ne g1, upd_ne g2]; exact e)
    have rS6 := rS.same s6
    obtain ⟨d5, f5, e5⟩ := rS6.ins
    obtain ⟨d6, f6, e6⟩ := rZ.ins
    refine ⟨y, x0, d5, d6, f5, f6, rfl, rfl, e5, e6, y, x0, S, Z, rfl, rS6, rZ, nS, nZ, fun k hk => ?_⟩
    have k1 : k = true := hk.mpr (funext fun x => by
      rw [tS, tgt_same ok0 pZ, show tgt ([] : Ld) x = x from rfl]
      by_cases hx : lowc x
      · exact iv x hx
      · rw [out_low n1.ok hx, out_low nO.ok hx])
    subst k1
    refine ⟨_, rfl, _, rfl, iteT ?_⟩
    have s46 := s5.trans s6
    have r1C := r1B.same s46
    have rOC := rOB.same s46
    obtain ⟨d1, f1, e1⟩ := r1C.ins
    obtain ⟨d2, f2, e2⟩ := rOC.ins
    refine ⟨_, rfl, _, rfl, c, a, d2, d1, f2, f1, rfl, rfl, e2, e1, c, a, O, M1, rfl, rOC, r1C, nO, n1, fun y2 S2 H7 nS2 tS2 s7 nY2 rS2 => ⟨⟨_, rfl⟩, ?_⟩⟩
    obtain ⟨d7, f7, e7⟩ := rS2.ins
    have zn : S2 = [] := ren_nil nS2 fun x => by
      rw [tS2]
      by_cases hx : lowc x
      · exact inv_both n1.ok tn iv hx
      · rw [out_low nO.ok hx, out_low n1.ok hx]
    refine ⟨y2, d7, f7, rfl, e7, y2, S2, rfl, rS2, _, rfl, ?_⟩
    rw [zn]
    exact q _ ((sB.trans s46).trans s7)
  · refine ⟨_, rfl, p, L, rfl, ta.same s1, okL, fun H2 s2 => ⟨_, _, rfl, ?_⟩⟩
    rw [← tw, tt]
    refine ⟨_, rfl, rfl, _, rfl, iteT ?_⟩
    have l128 : t < 128 := by
      have := List.mem_of_find?_eq_some tt
      have := (abcN_low t this).2
      omega
    refine ⟨_, rfl, _, rfl, (by show 1 ≤ sizeLine; decide), fun l nl => ?_⟩
    have kl := same_new nl (.lst [vc t])
    have sh : SeqAt.shaped (.list (chsD [t])) = true := shaped_chs [t] (fun c hc => by rw [List.mem_singleton.mp hc]; exact l128)
    refine ⟨.list (chsD [t]), .list (chsD [t]), .lst (SqL.of (kl _ _ (s2 _ _ el))) (dp_chs [t]), .lst (SqL.of upd_same) (dp_chs [t]), sh, sh, ?_⟩
    rw [show PyData.eqv (.list (chsD [t])) (.list (chsD [t])) = true by rw [eqv_chs]; exact decide_eq_true rfl]
    exact q _ ((s1.trans s2).trans kl)
end
/-! ### letters of trees -/
def isLow (c : Nat) : Bool := decide (97 ≤ c) && decide (c ≤ 122)
/-- all labels are letters -/
def B.lts (t : B) : Prop := ∀ c ∈ t.pre, isLow c = true
theorem B.lts_node {l r : B} {x : Nat} : (B.node l x r).lts ↔ isLow x = true ∧ l.lts ∧ r.lts := by
  unfold B.lts
  constructor
  · intro h
    exact ⟨h x List.mem_cons_self, fun c hc => h c (List.mem_cons_of_mem _ (List.mem_append_left _ hc)), fun c hc => h c (List.mem_cons_of_mem _ (List.mem_append_right _ hc))⟩
  · rintro ⟨h1, h2, h3⟩ c hc
    rcases List.mem_cons.mp hc with rfl | hc
    · exact h1
    · rcases List.mem_append.mp hc with hc | hc
      · exact h2 c hc
      · exact h3 c hc
theorem B.lts_nil : B.nil.lts := fun _ h => nomatch h
theorem B.low_lts : ∀ t : B, t.low → t.lts
  | .nil, _ => B.lts_nil
  | .node l c r, h => B.lts_node.mpr ⟨by unfold isLow; rw [decide_eq_true h.2.1.1, decide_eq_true h.2.1.2]; rfl, l.low_lts h.1, r.low_lts h.2.2⟩
def spSz (n : Nat) : Sp := fun vs H Q _ => ∃ (v : V) (t : B), vs = [v] ∧ BAt H v t ∧ t.size < n ∧ Q (.int (t.size : Int)) H
section
variable {P : Program} {w : World} {K : PySem.W.Frag} {mg : Str → Option Value} {base : Heap} {f : Addr} {fd : FuncData}
theorem ok_size (F : Fun K "size_of" "size_of" s_size_of f fd) (b : Binds K fd ["tree"] []) (g : mg "size_of" = some (.ref f)) : ∀ n : Nat, FnOk P w K mg base CX0 n f fd ["tree"] (spSz n)
  | 0 => by
    have no : ∀ vs H Q E, ¬ spSz 0 vs H Q E := fun vs H Q E h => by
      obtain ⟨v, t, _, _, h1, _⟩ := h
      omega
    exact ⟨fun vs H Q E h => absurd h (no vs H Q E), fun A outer s H args us vs Q E _ _ _ _ h => absurd h (no vs H Q E)⟩
  | n + 1 => by
    have Dself : Df P w K mg base n "size_of" ["tree"] (spSz n) := ⟨f, fd, ok_size F b g n, b, F.kp, g⟩
    refine F.ok sc_size_of (fun vs H Q E h => ?_) (fun cdv A outer s H vs Q E hr h => ?_)
    · obtain ⟨v, t, rfl, _⟩ := h
      rfl
    obtain ⟨v, t, rfl, hv, hn, q⟩ := h
    refine ⟨_, (pss_cons (ps_if (pt_cmpR op_isN (pv 0) pe_non (nomark _))
      (pss_one (ps_ret pe_int)) pss_nil)
    (pss_one (ps_ret (pe_op op_add (pe_op op_add (pe_call Dself.ok (hr.mono (by omega)) rfl Dself.g Dself.kp Dself.b .nil pass0 (pa_cons (pe_ix ix_tup (pv 0) pe_int (fun _ _ => rfl)) pa_nil)) pe_int) (pe_call Dself.ok (hr.mono (by omega)) rfl Dself.g Dself.kp Dself.b .nil pass0 (pa_cons (pe_ix ix_tup (pv 0) pe_int (fun _ _ => rfl)) pa_nil)))))), ?_⟩
    rcases hv.inv with ⟨rfl, rfl⟩ | ⟨a, l, r, x, tl, tr, rfl, rfl, ea, hl, hr'⟩
    · exact ⟨_, rfl, rfl, _, rfl, iteT q⟩
    · refine ⟨_, rfl, rfl, _, rfl, iteF ?_⟩
      have hz : tl.size + 1 + tr.size < n + 1 := hn
      refine ⟨_, rfl, a, _, 0, l, rfl, rfl, SqT.of ea, atI_nat (j := 0) rfl, l, tl, rfl, hl, by omega, _, _, rfl, rfl, _, rfl, a, _, 2, r, rfl, rfl, SqT.of ea, atI_nat (j := 2) rfl, r, tr, rfl, hr', by omega, _, _, rfl, rfl, ?_⟩
      have e : (tl.size : Int) + 1 + (tr.size : Int) = ((tl.size + 1 + tr.size : Nat) : Int) := by omega
      show Q (.int ((tl.size : Int) + 1 + (tr.size : Int))) H
      rw [e]
      exact q
end
/-! ### walks -/
inductive Kd where
  | first
  | between
  | last
def Kd.str : Kd → Str
  | .first => "first"
  | .between => "between"
  | .last => "last"
def B.post : B → List Nat
  | .nil => []
  | .node l x r => l.post ++ r.post ++ [x]
def B.wk (k : Kd) (t : B) : List Nat := match k with
  | .first => t.pre
  | .between => t.mid
  | .last => t.post
def B.steps (k : Kd) : B → List Nat → List (List Nat × Nat)
  | .nil, _ => []
  | .node l x r, q => match k with
    | .first => [(q, x)] ++ l.steps k (q ++ [108]) ++ r.steps k (q ++ [114])
    | .between => l.steps k (q ++ [108]) ++ [(q, x)] ++ r.steps k (q ++ [114])
    | .last => l.steps k (q ++ [108]) ++ r.steps k (q ++ [114]) ++ [(q, x)]
theorem B.steps_wk (k : Kd) (t : B) : ∀ q : List Nat, (t.steps k q).map (·.2) = t.wk k := by
  induction t with
  | nil => intro q; cases k <;> rfl
  | node l x r h1 h2 =>
    intro q
    have a := h1 (q ++ [108])
    have b := h2 (q ++ [114])
    cases k
    · show ([(q, x)] ++ l.steps .first (q ++ [108]) ++ r.steps .first (q ++ [114])).map (·.2) = x :: (l.pre ++ r.pre)
      rw [List.map_append, List.map_append, a, b]; rfl
    · show (l.steps .between (q ++ [108]) ++ [(q, x)] ++ r.steps .between (q ++ [114])).map (·.2) = l.mid ++ x :: r.mid
      rw [List.map_append, List.map_append, a, b]
      show l.mid ++ [x] ++ r.mid = _
      rw [List.append_assoc]; rfl
    · show (l.steps .last (q ++ [108]) ++ r.steps .last (q ++ [114]) ++ [(q, x)]).map (·.2) = l.post ++ r.post ++ [x]
      rw [List.map_append, List.map_append, a, b]; rfl
theorem B.wk_len (k : Kd) (t : B) : (t.wk k).length = t.size := by
  cases k
  · exact t.pre_len
  · exact t.mid_len
  · show t.post.length = t.size
    induction t with
    | nil => rfl
    | node l x r h1 h2 =>
      show (l.post ++ r.post ++ [x]).length = l.size + 1 + r.size
      rw [List.length_append, List.length_append, h1, h2, List.length_cons, List.length_nil]
      omega
theorem B.steps_len (k : Kd) (t : B) (q : List Nat) : (t.steps k q).length = t.size := by
  rw [← t.wk_len k, ← t.steps_wk k q, List.length_map]
inductive StAt (H : Hp) : List V → List (List Nat × Nat) → Prop
  | nil : StAt H [] []
  | cons {a : Addr} {q : List Nat} {x : Nat} {vs : List V} {ss : List (List Nat × Nat)} : H a = some (.tup [.str (tx q), .str (ch x)]) → StAt H vs ss → StAt H (.ref a :: vs) ((q, x) :: ss)
theorem StAt.keep {H H' : Hp} (k : KeepT H H') {vs : List V} {ss : List (List Nat × Nat)} (h : StAt H vs ss) : StAt H' vs ss := by
  induction h with
  | nil => exact .nil
  | cons e _ ih => exact .cons (k _ _ e) ih
theorem StAt.same {H H' : Hp} (k : Same H H') {vs : List V} {ss : List (List Nat × Nat)} (h : StAt H vs ss) : StAt H' vs ss := h.keep (Tw.Same.keepT k)
theorem StAt.app {H : Hp} {vs us : List V} {ss ts : List (List Nat × Nat)} (h : StAt H vs ss) (g : StAt H us ts) : StAt H (vs ++ us) (ss ++ ts) := by
  induction h with
  | nil => exact g
  | cons e _ ih => exact .cons e ih
theorem StAt.len {H : Hp} {vs : List V} {ss : List (List Nat × Nat)} (h : StAt H vs ss) : vs.length = ss.length := by
  induction h with
  | nil => rfl
  | cons _ _ ih => rw [List.length_cons, List.length_cons, ih]
theorem StAt.get {H : Hp} {vs : List V} {ss : List (List Nat × Nat)} (h : StAt H vs ss) : ∀ {i : Nat} {v : V}, vs[i]? = some v → ∃ a q x, v = .ref a ∧ ss[i]? = some (q, x) ∧ H a = some (.tup [.str (tx q), .str (ch x)]) := by
  induction h with
  | nil => intro i v e; simp at e
  | cons e _ ih =>
    intro i v he
    cases i with
    | zero => cases he; exact ⟨_, _, _, rfl, rfl, e⟩
    | succ i => exact ih he
theorem str_l : Str.ofString "l" = tx [108] := by decide +kernel
theorem str_r : Str.ofString "r" = tx [114] := by decide +kernel
theorem str_0 : Str.ofString "" = tx [] := by decide +kernel
def spDeep (n : Nat) : Sp := fun vs H Q _ => ∃ (v : V) (t : B) (k : Kd) (q : List Nat), vs = [v, .str k.str, .str (tx q)] ∧ BAt H v t ∧ t.size < n ∧ t.size + q.length ≤ 200 ∧
  ∀ (p : Addr) (us : List V) (H' : Hp), Same H H' → H' p = some (.lst us) → StAt H' us (t.steps k q) → Q (.ref p) H'
theorem iteS {x y : Str} {A B : Prop} (h : x = y) (a : A) : if decide (V.str x = V.str y) = true then A else B := by
  rw [if_pos (decide_eq_true (congrArg V.str h))]; exact a
theorem iteR {x y : Str} {A B : Prop} (h : x ≠ y) (b : B) : if decide (V.str x = V.str y) = true then A else B := by
  rw [if_neg (fun z => h (V.str.inj (of_decide_eq_true z)))]; exact b
section
variable {P : Program} {w : World} {K : PySem.W.Frag} {mg : Str → Option Value} {base : Heap} {f : Addr} {fd : FuncData}
theorem ok_deep (F : Fun K "deep_steps" "deep_steps" s_deep_steps f fd) (b : Binds K fd ["tree", "kind", "path"] []) (g : mg "deep_steps" = some (.ref f)) : ∀ n : Nat, FnOk P w K mg base CX0 n f fd ["tree", "kind", "path"] (spDeep n)
  | 0 => by
    have no : ∀ vs H Q E, ¬ spDeep 0 vs H Q E := fun vs H Q E h => by
      obtain ⟨v, t, k, q, _, _, h1, _⟩ := h
      omega
    exact ⟨fun vs H Q E h => absurd h (no vs H Q E), fun A outer s H args us vs Q E _ _ _ _ h => absurd h (no vs H Q E)⟩
  | n + 1 => by
    have Dself : Df P w K mg base n "deep_steps" ["tree", "kind", "path"] (spDeep n) := ⟨f, fd, ok_deep F b g n, b, F.kp, g⟩
    refine F.ok sc_deep_steps (fun vs H Q E h => ?_) (fun cdv A outer s H vs Q E hr h => ?_)
    · obtain ⟨v, t, k, q, rfl, _⟩ := h
      rfl
    obtain ⟨v, t, k, pth, rfl, hv, hn, hz, q⟩ := h
    refine ⟨_, (pss_cons (ps_if (pt_cmpR op_isN (pv 0) pe_non (nomark _))
      (pss_one (ps_ret (pe_lst pa_nil))) pss_nil)
    (pss_cons (ps_asg (pv 0) (pg_tup rfl (pgs_cons (pg_name (i := 3) sc_deep_steps.nd rfl (.inl rfl)) (pgs_cons (pg_name (i := 4) sc_deep_steps.nd rfl (.inl rfl)) (pgs_cons (pg_name (i := 5) sc_deep_steps.nd rfl (.inl rfl)) pgs_nil)))))
    (pss_cons (ps_set (i := 6) sc_deep_steps.nd rfl (.inl rfl) (pe_lst (pa_cons (pe_tup (pa_cons (pv 2) (pa_cons (pv 4) pa_nil))) pa_nil)))
    (pss_cons (ps_set (i := 7) sc_deep_steps.nd rfl (.inl rfl) (pe_call Dself.ok (hr.mono (by omega)) rfl Dself.g Dself.kp Dself.b .nil pass0 (pa_cons (pv 3) (pa_cons (pv 1) (pa_cons (pe_op op_add_str (pv 2) pe_str) pa_nil)))))
    (pss_cons (ps_set (i := 8) sc_deep_steps.nd rfl (.inl rfl) (pe_call Dself.ok (hr.mono (by omega)) rfl Dself.g Dself.kp Dself.b .nil pass0 (pa_cons (pv 5) (pa_cons (pv 1) (pa_cons (pe_op op_add_str (pv 2) pe_str) pa_nil)))))
    (pss_cons (ps_if (pt_cmpR op_eq (pv 1) pe_str (nomark _))
      (pss_one (ps_ret (pe_op op_cat (pe_op op_cat (pv 6) (pv 7)) (pv 8)))) pss_nil)
    (pss_cons (ps_if (pt_cmpR op_eq (pv 1) pe_str (nomark _))
      (pss_one (ps_ret (pe_op op_cat (pe_op op_cat (pv 7) (pv 6)) (pv 8)))) pss_nil)
    (pss_one (ps_ret (pe_op op_cat (pe_op op_cat (pv 7) (pv 8)) (pv 6))))))))))), ?_⟩
    rcases hv.inv with ⟨rfl, rfl⟩ | ⟨a, l, r, x, tl, tr, rfl, rfl, ea, hl, hr'⟩
    · refine ⟨_, rfl, rfl, _, rfl, iteT ⟨(by show 0 ≤ sizeLine; decide), fun p np => ?_⟩⟩
      exact q p [] _ (same_new np _) upd_same .nil
    · refine ⟨_, rfl, rfl, _, rfl, iteF ?_⟩
      refine ⟨_, rfl, a, _, rfl, SqT.of ea, rfl, _, _, rfl, _, _, rfl, _, _, rfl, rfl, ?_⟩
      have sz : tl.size + 1 + tr.size < n + 1 := hn
      have sz2 : tl.size + 1 + tr.size + pth.length ≤ 200 := hz
      -- root
      refine ⟨_, rfl, _, rfl, (by show 2 ≤ sizeLine; decide), fun tp ntp => ⟨(by show 1 ≤ sizeLine; decide), fun ro nro => ?_⟩⟩
      have q1 := same_new ntp (.tup [.str (tx pth), .str (ch x)])
      have q2 := same_new nro (.lst [.ref tp])
      have etp := q2 _ _ (upd_same (H := H) (a := tp) (o := .tup [.str (tx pth), .str (ch x)]))
      have ero := upd_same (H := upd H tp (.tup [.str (tx pth), .str (ch x)])) (a := ro) (o := .lst [.ref tp])
      have s1 := q1.trans q2
      generalize upd (upd H tp (.tup [.str (tx pth), .str (ch x)])) ro (.lst [.ref tp]) = H1 at etp ero s1
      -- lefts
      refine ⟨_, rfl, _, rfl, _, rfl, _, _, rfl, rfl, ?_, ?_⟩
      · rw [str_l, tx_len, tx_len]; exact small (by show _ + 1 ≤ 1000; omega)
      rw [str_l, tx_app]
      refine ⟨l, tl, k, pth ++ [108], rfl, hl.same s1, by omega, by rw [List.length_append]; show _ + (_ + 1) ≤ 200; omega, fun lp ul H2 s2 elp stl => ?_⟩
      -- rights
      refine ⟨_, rfl, _, rfl, _, rfl, _, _, rfl, rfl, ?_, ?_⟩
      · rw [str_r, tx_len, tx_len]; exact small (by show _ + 1 ≤ 1000; omega)
      rw [str_r, tx_app]
      refine ⟨r, tr, k, pth ++ [114], rfl, (hr'.same s1).same s2, by omega, by rw [List.length_append]; show _ + (_ + 1) ≤ 200; omega, fun rp ur H3 s3 erp str => ?_⟩
      have ero3 := s3 _ _ (s2 _ _ ero)
      have elp3 := s3 _ _ elp
      have strt : StAt H3 [.ref tp] [(pth, x)] := .cons (s3 _ _ (s2 _ _ etp)) .nil
      have stl3 := stl.same s3
      have sA := (s1.trans s2).trans s3
      have ll := stl.len
      have lr := str.len
      rw [B.steps_len] at ll lr
      cases k
      · refine ⟨_, rfl, rfl, _, rfl, iteS rfl ?_⟩
        refine ⟨_, rfl, _, rfl, ro, lp, _, _, rfl, rfl, ero3, elp3, small (by show 1 + _ ≤ 1000; omega), fun c1 n1 => ?_⟩
        have k1 := same_new n1 (.lst ([.ref tp] ++ ul))
        refine ⟨_, rfl, c1, rp, _, _, rfl, rfl, upd_same, k1 _ _ erp, small (by rw [List.length_append]; show 1 + _ + _ ≤ 1000; omega), fun c2 n2 => ?_⟩
        have k2 := same_new n2 (.lst ([.ref tp] ++ ul ++ ur))
        exact q c2 _ _ (sA.trans (k1.trans k2)) upd_same (((strt.app stl3).app str).same (k1.trans k2))
      · refine ⟨_, rfl, rfl, _, rfl, iteR (by decide +kernel) ?_⟩
        refine ⟨_, rfl, rfl, _, rfl, iteS rfl ?_⟩
        refine ⟨_, rfl, _, rfl, lp, ro, _, _, rfl, rfl, elp3, ero3, small (by show _ + 1 ≤ 1000; omega), fun c1 n1 => ?_⟩
        have k1 := same_new n1 (.lst (ul ++ [.ref tp]))
        refine ⟨_, rfl, c1, rp, _, _, rfl, rfl, upd_same, k1 _ _ erp, small (by rw [List.length_append]; show _ + 1 + _ ≤ 1000; omega), fun c2 n2 => ?_⟩
        have k2 := same_new n2 (.lst (ul ++ [.ref tp] ++ ur))
        exact q c2 _ _ (sA.trans (k1.trans k2)) upd_same (((stl3.app strt).app str).same (k1.trans k2))
      · refine ⟨_, rfl, rfl, _, rfl, iteR (by decide +kernel) ?_⟩
        refine ⟨_, rfl, rfl, _, rfl, iteR (by decide +kernel) ?_⟩
        refine ⟨_, rfl, _, rfl, lp, rp, _, _, rfl, rfl, elp3, erp, small (by omega), fun c1 n1 => ?_⟩
        have k1 := same_new n1 (.lst (ul ++ ur))
        refine ⟨_, rfl, c1, ro, _, _, rfl, rfl, upd_same, k1 _ _ ero3, small (by rw [List.length_append]; show _ + _ + 1 ≤ 1000; omega), fun c2 n2 => ?_⟩
        have k2 := same_new n2 (.lst (ul ++ ur ++ [.ref tp]))
        exact q c2 _ _ (sA.trans (k1.trans k2)) upd_same (((stl3.app str).app strt).same (k1.trans k2))
/-- the tuple KINDS of the text -/
structure KindsT (K : PySem.W.Frag) (mg : Str → Option Value) (a : Addr) : Prop where
  mg : mg "KINDS" = some (.ref a)
  sq : ∀ H : Hp, SqT K H a [.str "first", .str "between", .str "last", .str "level"]
end
/-! ### sorted(xs, key=lambda x: x[0]), sorted(xs, key=lambda x: len(x[0])) -/
section
variable {prog : Program} {w : World} {A : Around} {s : Shared}
/-- a lambda of one name, called; its body told from the new frame -/
theorem lam_one {f c' : Addr} {q x : Str} {params : Arguments} {body : Expr} {scope : Scope} {cl : List (Str × Addr)} {pm ctv v : Value} {Q : Value → Shared → Prop}
    (room : A.depth < recursionLimit) (hf : s.heap.get? f = some (PySem.W.kla_obj "<lambda>" q params body scope cl pm c' ctv)) (hrec : s.heap.CodeRec (.ref c') q) (lim : s.heap.NoLimit)
    (hco : scope.isCoroutine = false) (hgen : scope.isGenerator = false) (hk : scope.kind = .function) (hc : ∀ y ∈ scope.names, y.2 ≠ .cell) (hx : scope.names.lookup x = some .local)
    (hbind : bindArgs (PySem.W.kla_fn "<lambda>" q params body scope cl pm (.ref c') ctv) ⟨[v], []⟩ = pure [(x, v)])
    (hbody : ∀ (h₁ : Heap) (env : Env), (∀ b o, s.heap.get? b = some o → h₁.get? b = some o) → env.scope = scope → env.globals = mainGlobals → env.builtins = builtinsNs → env.kindOf x = some .local → h₁.Ns env.locals (fun y => [(x, v)].reverse.lookup y) →
      wpAny (model prog w) (A.deeper env) (eval body env) Q (fun _ _ => False) { s with heap := h₁, toks := s.toks + 1 }) :
    wpAny (model prog w) A (call (.ref f) [v]) Q (fun _ _ => False) s := by
  refine wpAny_call (PySem.W.kla_callFunE room hf rfl hco hgen rfl hrec ?_)
  rw [hbind]
  refine wpAny_pure (wpAny_newFunctionEnv hc (fun y hy => by rw [List.mem_singleton.mp hy]; exact hx) (fun h₁ hns hsb => ⟨lim.fresh _ hsb, ?_⟩) hk)
  refine PySem.W.kla_codeExpr (wpAny_mono (hbody h₁ _ (fun b o e => hsb.extBut b o (Nat.ne_of_lt (Heap.lt_size e)) (Heap.get?_push_of_some _ e)) rfl rfl rfl hx hns) (fun v s' h => h) fun _ _ h => h.elim)
/-- its body x[0], x a pair that begins with a text -/
theorem lam_item {env : Env} {x : Str} {t : Addr} {items : Array Value} {z : Str} {tz : Tok} {m : Str → Option Value} {j : Nat} {p1 cp pos : Pos} {Q : Value → Shared → Prop} (hk : env.scope.kind = .function) (hx : env.kindOf x = some .local) (hn : s.heap.Ns env.locals m)
    (hm : m x = some (.ref t)) (ht : IsTup s.heap t items) (h0 : items[0]? = some (.str z tz)) (hd : (x == ("__debug__" : Str)) = false) (hq : ∀ tk, Q (.str z tz) { s with toks := tk }) :
    wpAny (model prog w) A (eval (.Subscript (.Name x p1) (.Constant (.int 0) j cp) pos) env) Q (fun _ _ => False) s := by
  refine Subscript_ (wpAny_Name (wpAny_loadName_local hk hx hn hm ?_) hd)
  refine wpAny_Constant_int ?_
  have hsz : 0 < items.size := (Array.getElem?_eq_some_iff.mp h0).1
  exact item_tuple (j := 0) ht (by decide) (by decide) (seqIndex_of (Int.le_refl 0) (by omega)) h0 (hq _)
/-- its body len(x[0]) -/
theorem lam_len {env : Env} {x : Str} {t : Addr} {items : Array Value} {z : Str} {tz : Tok} {m mg mb : Str → Option Value} {j : Nat} {p0 p1 cp pos pos2 : Pos} {Q : Value → Shared → Prop} (hk : env.scope.kind = .function) (hx : env.kindOf x = some .local) (hn : s.heap.Ns env.locals m)
    (hl : env.kindOf "len" = some .globalImplicit) (hg : env.globals = mainGlobals) (hbn : env.builtins = builtinsNs) (hmg : s.heap.Ns mainGlobals mg) (hmb : s.heap.Ns builtinsNs mb) (hml : mg "len" = none) (hbl : mb "len" = bootBuiltins "len")
    (hm : m x = some (.ref t)) (ht : IsTup s.heap t items) (h0 : items[0]? = some (.str z tz)) (hd : (x == ("__debug__" : Str)) = false) (hz : z.length ≤ 1000000) (hq : ∀ tu tk, Q (.int (z.length : Int) tu) { s with toks := tk }) :
    wpAny (model prog w) A (eval (.Call (.Name "len" p0) [.Subscript (.Name x p1) (.Constant (.int 0) j cp) pos] [] pos2) env) Q (fun _ _ => False) s := by
  refine Call_ (Calls.Name_function_global hk hl (Calls.loadGlobal_builtin (by rw [hg]; exact hmg) hml (by rw [hbn]; exact hmb) (hbl.trans (show bootBuiltins "len" = some (.builtin "len") by decide +kernel)) ?_) (by decide))
  refine PyProof.Rows.callWith_builtin1 ?_
  refine Calls.spliced_cons (lam_item hk hx hn hm ht h0 hd fun tk => Calls.spliced_nil ?_)
  exact PySem.P.len_str (by omega) (hq _ _)
end
theorem each_vals {vs : List V} {us : List Value} (h : Vals vs us) : PySem.W.EachIs (fun u v => RelV v u) us vs := by
  induction h with
  | nil => exact .nil
  | cons r _ ih => exact .cons r ih
theorem vals_each {vs : List V} {us : List Value} (h : PySem.W.EachIs (fun u v => RelV v u) us vs) : Vals vs us := by
  induction h with
  | nil => exact .nil
  | cons r _ ih => exact .cons r ih
theorem seqL_ext {K : PySem.W.Frag} {H H' : Hp} (e : LamX.ExtN H H') {a : Addr} {xs : List V} (h : SqL K H a xs) : SqL K H' a xs := by
  rcases h with h | h
  · rcases h with h | ⟨o, h⟩
    · exact .inl (.inl (e _ _ h (fun ps z => by cases z)))
    · exact .inl (.inr ⟨o, e _ _ h (fun ps z => by cases z)⟩)
  · exact .inr h
/-- a lambda of one name whose value at a pair that begins with the text z is g z -/
def KeyLam (x : Str) (mg : Str → Option Value) (params : Arguments) (body : Expr) (scope : Scope) (g : Str → PyData) : Prop :=
  scope.isCoroutine = false ∧ scope.isGenerator = false ∧ scope.kind = .function ∧ (∀ y ∈ scope.names, y.2 ≠ .cell ∧ y.2 ≠ .free) ∧ scope.names.lookup x = some .local ∧
  (∀ (q : Str) (pm cv ctv v : Value) (cl : List (Str × Addr)), bindArgs (PySem.W.kla_fn "<lambda>" q params body scope cl pm cv ctv) ⟨[v], []⟩ = pure [(x, v)]) ∧
  ∀ {prog : Program} {w : World} {A : Around} {s : Shared} {env : Env} {t : Addr} {items : Array Value} {z : Str} {tz : Tok} {mb : Str → Option Value} {m : Str → Option Value} {Q : Value → Shared → Prop}, env.scope = scope → env.globals = mainGlobals → env.builtins = builtinsNs → env.kindOf x = some .local → s.heap.Ns env.locals m → m x = some (.ref t) →
    s.heap.Ns mainGlobals mg → s.heap.Ns builtinsNs mb → (∀ y : Str, y ≠ "__name__" → mb y = bootBuiltins y) → IsTup s.heap t items → items[0]? = some (.str z tz) → z.length ≤ 1000000 → (∀ v tk, Reads s.heap v (g z) [] → Q v { s with toks := tk }) →
    wpAny (model prog w) A (eval body env) Q (fun _ _ => False) s
def KeyG (g : Str → PyData) : Prop := (∀ z z', PySem.W.alike (g z) (g z') = true) ∧ (∀ z, g z ≠ .none ∧ ∀ xs, g z ≠ .tuple xs) ∧ ∀ z, (g z).depth = 0
def tSortK (K : PySem.W.Frag) (T : List (Addr × Str)) (g : Str → PyData) (te : TE) : TE := fun σ H Q => te σ H fun v H1 => ∃ (a : Addr) (xs : List V) (kf : V → PyData), v = .ref a ∧ SqL K H1 a xs ∧ LamX.Tabs T H1 ∧
  (∀ x ∈ xs, ∃ (t : Addr) (z : Str) (u : V), x = .ref t ∧ H1 t = some (.tup [.str z, u]) ∧ kf x = g z ∧ z.length ≤ 1000000) ∧
  ∀ (p : Addr) (H2 : Hp), LamX.ExtN H1 H2 → LamX.Tabs T H2 → H2 p = none → Q (.ref p) (upd H2 p (.lst (xs.mergeSort (PySem.W.dataLe false kf))))
section
variable {X : Cx}
theorem pe_sortKey {T : List (Addr × Str)} {c P : Addr} {k : Nat} {g : Str → PyData} {te : TE} {e : Expr} {x : Str} {params : Arguments} {body : Expr} {scope : Scope} {p lpos kpos pos : Pos} (he : PE X e te) (hg : Gl X "sorted") (hm : X.mg "sorted" = none) (hr : Room (k + 1) X.A)
    (TB : LamX.TabB X.base X.mg c P) (hcode : X.env.code = .ref c) (hmT : (P, X.env.qual ++ "<lambda>") ∈ T) (hu : ∀ p ∈ T, p.1 = P → p.2 = X.env.qual ++ "<lambda>") (hdef : defaultsOf params X.env = ([], []))
    (KL : KeyLam x X.mg params body scope g) (KG : KeyG g) (hst : backTo pos (starEach [e] X.env) = (false, eval e X.env) :: backTo pos (starEach [] X.env) := by rfl) :
    PE X (.Call (.Name "sorted" p) [e] [⟨some "key", .Lambda params body scope lpos, kpos⟩] pos) (tSortK X.K T g te) := by
  obtain ⟨k1, k2, k3, k4, k5, k6, k7⟩ := KL
  obtain ⟨g1, g2, g3⟩ := KG
  refine ⟨fun pins s σ H Q I h => ?_⟩
  refine wpAny_Call_Name_kw (ld_blt I hg hm (show bootBuiltins "sorted" = some (.builtin "sorted") by decide +kernel) ?_)
  refine PyProof.Rows.callWith_kw ?_ hst (by rw [hst]; rfl) (by rfl) (by rfl)
  rw [hst]
  refine Calls.spliced_cons (thn (he.run pins s σ H _ I h) fun u s1 ⟨v, H1, I1, r1, a, xs, kf, ev, hs, hT, hx, q⟩ => ?_)
  subst ev
  obtain rfl : u = Value.ref a := r1
  refine Calls.spliced_nil ?_
  refine PyProof.Rows.evalAll_cons ?_
  show wpAny _ _ (eval (.Lambda params body scope lpos) X.env >>= fun v => standAt pos >>= fun _ => pure v) _ _ _
  refine wpAny_bind (LamX.lam_make2 I1 TB hcode hmT hu hT hdef (fun y hy e => absurd e (k4 y hy).2) fun f c' pm ctv H2 s2 I2 eN T2 hf hfn hfr hco => wpAny_bind (wpAny_standAt (wpAny_pure (PyProof.Rows.evalAll_nil ?_))))
  show wpAny _ _ (call (.builtin "sorted") [.ref a] [("key", .ref f)]) _ _ s2
  have hs2 := seqL_ext eN hs
  obtain ⟨its, rv, hl, hz⟩ := I2.list hs2
  have ex : ∀ z, z ∈ xs.map kf → ∃ y, z = g y := fun z hm => by
    obtain ⟨v, hv, rfl⟩ := List.mem_map.mp hm
    obtain ⟨_, y, _, _, _, e, _⟩ := hx v hv
    exact ⟨y, e⟩
  have room := hr.dp
  have units := hr.un
  refine PySem.W.sorted_key_data (b := false) (β := V) (bs := xs) (R := fun u v => RelV v u) kf hl.isList (each_vals rv) (fun d hd d' hd' => ?_) (.inr fun d hd => ?_) hz (fun v hv => ?_) (PyProof.Rows.ksk_s1 _ _) (fun _ => PyProof.Rows.ksk_l1 _ _) (fun _ => PyProof.Rows.ksk_t1 _ _) (fun v y r hy h tk kp => ?_) fun out c2 h' tk kp fresh ho hlen eo => ?_
  · obtain ⟨y, rfl⟩ := ex d hd
    obtain ⟨y', rfl⟩ := ex d' hd'
    exact g1 y y'
  · obtain ⟨y, rfl⟩ := ex d hd
    exact g2 y
  · obtain ⟨y, e⟩ := ex (kf v) (List.mem_map.mpr ⟨v, hv, rfl⟩)
    rw [e, g3]
    omega
  · obtain ⟨t, z, u2, rfl, ht, ek, hzl⟩ := hx y hy
    obtain rfl : v = Value.ref t := r
    obtain ⟨_, its2, r2, o, hot, hct, n, hdt⟩ := I2.hok t _ (eN _ _ ht (fun ps z => by cases z))
    obtain ⟨w1, w2, rfl, rw1, _⟩ := vals2 r2
    obtain ⟨tz, rfl⟩ := rw1
    obtain ⟨⟨oc, vs, tc, hoc, hdc, hvc⟩, _, _⟩ := I2.hok c' _ hco
    obtain ⟨mb, b1, b2⟩ := I2.mod.blt
    have glob : s2.heap.Ns mainGlobals X.mg := I2.mod.glob.keeps I2.bk
    have blt : s2.heap.Ns builtinsNs mb := b1.keeps I2.bk
    refine lam_one (s := { s2 with heap := h, toks := tk }) (by show X.A.depth < recursionLimit; omega) (kp _ _ hf) ⟨c', oc, vs, tc, rfl, kp _ _ hoc, hdc, hvc⟩ (I2.nolimit.keeps kp) k1 k2 k3 (fun y hy => (k4 y hy).1) k5 (k6 _ _ _ _ _ _) fun h₁ env kp2 e1 e2 e3 e4 hns => ?_
    have kk : ∀ b o, s2.heap.get? b = some o → h₁.get? b = some o := fun b o e => kp2 b o (kp b o e)
    refine k7 e1 e2 e3 e4 hns (by simp) (glob.keeps kk) (blt.keeps kk) b2 (⟨o, kk _ _ hot, hct, n, hdt⟩ : IsTup h₁ t _) rfl hzl fun v' tk' hrd => ?_
    rw [ek]
    exact ⟨h₁, tk', rfl, kp2, hrd⟩
  · have hp : H2 (s2.heap.objs.size + 1) = none := I2.hok.fresh (Nat.le_succ _)
    refine ⟨.ref _, _, I2.laid (t' := tk) kp (Nat.le_succ _) (o := .lst (xs.mergeSort (PySem.W.dataLe false kf))) ⟨by rw [List.length_mergeSort]; exact hz, out, c2, vals_each eo, ho⟩, rfl, q _ _ eN T2 hp⟩
end
theorem keyG_str : KeyG PyData.str := ⟨fun _ _ => by simp [PySem.W.alike], fun _ => ⟨by simp, by simp⟩, fun _ => by simp [PyData.depth]⟩
theorem keyG_len : KeyG fun z : Str => .int (z.length : Int) := ⟨fun _ _ => by simp [PySem.W.alike], fun _ => ⟨by simp, by simp⟩, fun _ => by simp [PyData.depth]⟩
theorem keyLam_item {mg : Str → Option Value} {x : Str} {params : Arguments} {scope : Scope} {j : Nat} {p1 cp pos : Pos} (h1 : scope.isCoroutine = false) (h2 : scope.isGenerator = false) (h3 : scope.kind = .function) (h4 : ∀ y ∈ scope.names, y.2 ≠ .cell ∧ y.2 ≠ .free) (h5 : scope.names.lookup x = some .local)
    (h6 : ∀ (q : Str) (pm cv ctv v : Value) (cl : List (Str × Addr)), bindArgs (PySem.W.kla_fn "<lambda>" q params (.Subscript (.Name x p1) (.Constant (.int 0) j cp) pos) scope cl pm cv ctv) ⟨[v], []⟩ = pure [(x, v)]) (hd : (x == ("__debug__" : Str)) = false) :
    KeyLam x mg params (.Subscript (.Name x p1) (.Constant (.int 0) j cp) pos) scope PyData.str :=
  ⟨h1, h2, h3, h4, h5, h6, fun e1 e2 e3 e4 hn hm g b b2 ht h0 hz hq => lam_item (by rw [e1]; exact h3) e4 hn hm ht h0 hd fun tk => hq _ tk (Reads.str _ _)⟩
theorem keyLam_len {mg : Str → Option Value} {x : Str} {params : Arguments} {scope : Scope} {j : Nat} {p0 p1 cp pos pos2 : Pos} (h1 : scope.isCoroutine = false) (h2 : scope.isGenerator = false) (h3 : scope.kind = .function) (h4 : ∀ y ∈ scope.names, y.2 ≠ .cell ∧ y.2 ≠ .free) (h5 : scope.names.lookup x = some .local)
    (h6 : ∀ (q : Str) (pm cv ctv v : Value) (cl : List (Str × Addr)), bindArgs (PySem.W.kla_fn "<lambda>" q params (.Call (.Name "len" p0) [.Subscript (.Name x p1) (.Constant (.int 0) j cp) pos] [] pos2) scope cl pm cv ctv) ⟨[v], []⟩ = pure [(x, v)]) (hd : (x == ("__debug__" : Str)) = false)
    (h7 : scope.names.lookup ("len" : Str) = some NameKind.globalImplicit) (h8 : mg "len" = none) :
    KeyLam x mg params (.Call (.Name "len" p0) [.Subscript (.Name x p1) (.Constant (.int 0) j cp) pos] [] pos2) scope fun z => .int (z.length : Int) :=
  ⟨h1, h2, h3, h4, h5, h6, fun e1 e2 e3 e4 hn hm g b b2 ht h0 hz hq => lam_len (by rw [e1]; exact h3) e4 hn (by rw [← e1] at h7; exact h7) e2 e3 g b h8 (b2 _ (by decide)) hm ht h0 hd hz fun tu tk => hq _ tk (Reads.int _ _)⟩
/-! ### walks of all four kinds -/
inductive K4 where
  | deep (k : Kd)
  | level
def K4.str : K4 → Str
  | .deep k => k.str
  | .level => "level"
def pathLe (a b : List Nat × Nat) : Bool := decide ((a.1.length : Int) ≤ (b.1.length : Int))
def B.steps4 (t : B) : K4 → List (List Nat × Nat)
  | .deep k => t.steps k []
  | .level => (t.steps .first []).mergeSort pathLe
def B.wk4 (t : B) (k : K4) : List Nat := (t.steps4 k).map (·.2)
theorem B.steps4_len (t : B) (k : K4) : (t.steps4 k).length = t.size := by
  cases k with
  | deep k => exact t.steps_len k []
  | level => exact (List.length_mergeSort _).trans (t.steps_len .first [])
theorem B.wk4_len (t : B) (k : K4) : (t.wk4 k).length = t.size := by
  unfold B.wk4
  rw [List.length_map, t.steps4_len]
theorem B.steps_mapL (g : Nat → Nat) (k : Kd) : ∀ (t : B) (q : List Nat), (t.mapL g).steps k q = (t.steps k q).map fun s => (s.1, g s.2)
  | .nil, q => by cases k <;> rfl
  | .node l x r, q => by
    have a := steps_mapL g k l (q ++ [108])
    have b := steps_mapL g k r (q ++ [114])
    show B.steps k (.node (l.mapL g) (g x) (r.mapL g)) q = _
    cases k
    · show [(q, g x)] ++ (l.mapL g).steps .first (q ++ [108]) ++ (r.mapL g).steps .first (q ++ [114]) = ([(q, x)] ++ l.steps .first (q ++ [108]) ++ r.steps .first (q ++ [114])).map _
      rw [a, b, List.map_append, List.map_append]; rfl
    · show (l.mapL g).steps .between (q ++ [108]) ++ [(q, g x)] ++ (r.mapL g).steps .between (q ++ [114]) = (l.steps .between (q ++ [108]) ++ [(q, x)] ++ r.steps .between (q ++ [114])).map _
      rw [a, b, List.map_append, List.map_append]; rfl
    · show (l.mapL g).steps .last (q ++ [108]) ++ (r.mapL g).steps .last (q ++ [114]) ++ [(q, g x)] = (l.steps .last (q ++ [108]) ++ r.steps .last (q ++ [114]) ++ [(q, x)]).map _
      rw [a, b, List.map_append, List.map_append]; rfl
theorem B.steps4_mapL (g : Nat → Nat) (k : K4) (t : B) : (t.mapL g).steps4 k = (t.steps4 k).map fun s => (s.1, g s.2) := by
  cases k with
  | deep k => exact t.steps_mapL g k []
  | level =>
    show ((t.mapL g).steps .first []).mergeSort pathLe = ((t.steps .first []).mergeSort pathLe).map _
    rw [t.steps_mapL g .first []]
    exact (List.map_mergeSort (r := pathLe) (s := pathLe) (f := fun s : List Nat × Nat => (s.1, g s.2)) fun a _ b _ => rfl).symm
theorem B.wk4_mapL (g : Nat → Nat) (k : K4) (t : B) : (t.mapL g).wk4 k = (t.wk4 k).map g := by
  unfold B.wk4
  rw [t.steps4_mapL, List.map_map, List.map_map]
  rfl
theorem B.steps_path (k : Kd) : ∀ (t : B) (q : List Nat), ∀ s ∈ t.steps k q, s.1.length ≤ q.length + t.size
  | .nil, q => fun s h => nomatch h
  | .node l x r, q => fun s h => by
    have a := steps_path k l (q ++ [108])
    have b := steps_path k r (q ++ [114])
    have z : (B.node l x r).size = l.size + 1 + r.size := rfl
    have l1 : (q ++ [108]).length = q.length + 1 := List.length_append
    have l2 : (q ++ [114]).length = q.length + 1 := List.length_append
    have key : s = (q, x) ∨ s ∈ l.steps k (q ++ [108]) ∨ s ∈ r.steps k (q ++ [114]) := by
      cases k <;> (simp only [B.steps, List.mem_append, List.mem_cons, List.not_mem_nil, or_false] at h; rcases h with (h | h) | h <;> simp [h])
    rcases key with rfl | h | h
    · show q.length ≤ _
      omega
    · have := a s h
      omega
    · have := b s h
      omega
/-- a step as a value -/
def stIs (H : Hp) (v : V) (s : List Nat × Nat) : Prop := ∃ a : Addr, v = .ref a ∧ H a = some (.tup [.str (tx s.1), .str (ch s.2)])
theorem StAt.zip {H : Hp} {us : List V} {ss : List (List Nat × Nat)} (h : StAt H us ss) : ∃ ps : List (V × (List Nat × Nat)), ps.map (·.1) = us ∧ ps.map (·.2) = ss ∧ ∀ p ∈ ps, stIs H p.1 p.2 := by
  induction h with
  | nil => exact ⟨[], rfl, rfl, fun _ h => nomatch h⟩
  | cons e _ ih =>
    obtain ⟨ps, h1, h2, h3⟩ := ih
    refine ⟨(_, _) :: ps, by rw [List.map_cons, h1], by rw [List.map_cons, h2], fun p hp => ?_⟩
    rcases List.mem_cons.mp hp with rfl | hp
    · exact ⟨_, rfl, e⟩
    · exact h3 p hp
theorem StAt.of {H : Hp} : ∀ (ps : List (V × (List Nat × Nat))), (∀ p ∈ ps, stIs H p.1 p.2) → StAt H (ps.map (·.1)) (ps.map (·.2))
  | [], _ => .nil
  | (v, s) :: ps, h => by
    obtain ⟨a, e, ha⟩ := h _ List.mem_cons_self
    have e : v = .ref a := e
    subst e
    exact .cons ha (StAt.of ps fun p hp => h p (List.mem_cons_of_mem _ hp))
def keyOfStep (H : Hp) (x : V) : Nat := match x with
  | .ref t => (match H t with | some (.tup [.str z, _]) => z.length | _ => 0)
  | _ => 0
theorem keyOfStep_at {H : Hp} {v : V} {s : List Nat × Nat} (h : stIs H v s) : keyOfStep H v = s.1.length := by
  obtain ⟨a, rfl, e⟩ := h
  simp only [keyOfStep, e, tx_len]
theorem StAt.sorted {H : Hp} {us : List V} {ss : List (List Nat × Nat)} (h : StAt H us ss) :
    StAt H (us.mergeSort (PySem.W.dataLe false fun v => PyData.int (keyOfStep H v : Int))) (ss.mergeSort pathLe) := by
  obtain ⟨ps, rfl, rfl, hp⟩ := h.zip
  rw [PySem.W.dataLe_int]
  have e1 : ((ps.mergeSort fun a b => pathLe a.2 b.2).map (·.1)) = (ps.map (·.1)).mergeSort fun a b => decide ((keyOfStep H a : Int) ≤ (keyOfStep H b : Int)) :=
    List.map_mergeSort fun a ha b hb => by
      rw [keyOfStep_at (hp a ha), keyOfStep_at (hp b hb)]
      rfl
  have e2 : ((ps.mergeSort fun a b => pathLe a.2 b.2).map (·.2)) = (ps.map (·.2)).mergeSort pathLe := List.map_mergeSort fun a _ b _ => rfl
  rw [← e1, ← e2]
  exact StAt.of _ fun p h => hp p (List.mem_mergeSort.mp h)
theorem extN_keepT {H H' : Hp} (k : LamX.ExtN H H') : KeepT H H' := fun b xs e => k b _ e fun ps z => by cases z
/-- a def whose code object is known -/
theorem okC {P : Program} {w : World} {K : PySem.W.Frag} {mg : Str → Option Value} {base : Heap} {f : Addr} {fd : FuncData} {x qual : Str} {st : Stmt} {N ps : List Str} {k : Nat} {sp : Sp} {c : Addr} (F : Fun K x qual st f fd) (hc : fd.code = .ref c) (S : FnScope N ps (defScope st)) (len : ∀ vs H Q E, sp vs H Q E → vs.length = ps.length)
    (hbody : ∀ (A : Around) (outer : List Env) (s : Shared) (H : Hp) (vs : List V) (Q : VK) (E : XK), Room k (A.deeper (envOfC qual (defScope st) s.heap.objs.size f (.ref c))) → sp vs H Q E →
      ∃ t, PSs (cxOf CX0 P w K mg base N qual (defScope st) f (.ref c) A outer s H E).nox (defBody st) t ∧ t { nx := fun _ H' => Q .non H', rt := Q } (start N vs) H) : FnOk P w K mg base CX0 (k + 1) f fd ps sp := by
  obtain ⟨oc, od, kV, doc, pm, an, cdv, ct, osl, rfl, lk, hcd⟩ := F.ex
  obtain rfl : cdv = .ref c := hc
  refine fn_of lk hcd S len fun A outer s H vs Q E hr hsp => ?_
  obtain ⟨t, h, q⟩ := hbody A outer s H vs Q E hr hsp
  exact ⟨t, h.nox, q⟩
def spKind : Sp := fun vs H Q _ => ∃ k : K4, vs = [.str k.str] ∧ Q (.bl true) H
def spLevel (T : List (Addr × Str)) : Sp := fun vs H Q _ => ∃ (v : V) (t : B), vs = [v] ∧ BAt H v t ∧ t.size ≤ 50 ∧ LamX.Tabs T H ∧
  ∀ (p : Addr) (us : List V) (H' : Hp), LamX.ExtN H H' → LamX.Tabs T H' → H' p = some (.lst us) → StAt H' us (t.steps4 .level) → Q (.ref p) H'
def spSteps (T : List (Addr × Str)) : Sp := fun vs H Q _ => ∃ (v : V) (t : B) (k : K4), vs = [v, .str k.str] ∧ BAt H v t ∧ t.size ≤ 50 ∧ LamX.Tabs T H ∧
  ∀ (p : Addr) (us : List V) (H' : Hp), LamX.ExtN H H' → LamX.Tabs T H' → H' p = some (.lst us) → StAt H' us (t.steps4 k) → Q (.ref p) H'
def spWalk (T : List (Addr × Str)) : Sp := fun vs H Q _ => ∃ (v : V) (t : B) (k : K4), vs = [v, .str k.str] ∧ BAt H v t ∧ t.size ≤ 50 ∧ LamX.Tabs T H ∧ ∀ H', LamX.ExtN H H' → LamX.Tabs T H' → Q (.str (tx (t.wk4 k))) H'
section
variable {P : Program} {w : World} {K : PySem.W.Frag} {mg : Str → Option Value} {base : Heap} {f : Addr} {fd : FuncData}
theorem ok_kind {k : Nat} {aK : Addr} (F : Fun K "is_kind" "is_kind" s_is_kind f fd) (M : Mgs mg) (Kk : KindsT K mg aK) : FnOk P w K mg base CX0 (k + 1) f fd ["value"] spKind := by
  refine F.ok sc_is_kind (fun vs H Q E h => ?_) (fun cdv A outer s H vs Q E hr h => ?_)
  · obtain ⟨k, rfl, _⟩ := h
    rfl
  obtain ⟨k, rfl, q⟩ := h
  refine ⟨_, (pss_one (ps_ret (pe_and (pe_callB call_isi rfl M.isinstance (by decide +kernel) (pa_cons (pv 0) (pa_cons (pe_bltn (v := .ty "str") rfl M.str (by decide +kernel) rfl) pa_nil))) (pe_one (pe_cmpR op_in_seq (pv 0) (pe_glob (v := .ref _) rfl Kk.mg rfl) (by rfl)))))), ?_⟩
  refine ⟨_, rfl, _, _, _, _, true, rfl, .ty _, .base (.str _), kit_ty (by decide +kernel), _, rfl, iteT ?_⟩
  refine ⟨_, rfl, aK, _, rfl, .inr (Kk.sq H), rfl, ?_, ?_⟩
  · rfl
  · have e : (if false = true then !inV (.str k.str) [.str "first", .str "between", .str "last", .str "level"] else inV (.str k.str) [.str "first", .str "between", .str "last", .str "level"]) = true := by
      cases k with
      | deep k => cases k <;> decide +kernel
      | level => decide +kernel
    rw [e]
    exact q
theorem ok_level {T : List (Addr × Str)} {c P' : Addr} (F : Fun K "level_steps" "level_steps" s_level_steps f fd) (hc : fd.code = .ref c) (M : Mgs mg) (TB : LamX.TabB base mg c P') (hmT : (P', ("level_steps.<locals>.<lambda>" : Str)) ∈ T) (hu : ∀ p ∈ T, p.1 = P' → p.2 = ("level_steps.<locals>.<lambda>" : Str))
    (Ddeep_steps : Df P w K mg base 60 "deep_steps" ["tree", "kind", "path"] (spDeep 60)) : FnOk P w K mg base CX0 61 f fd ["tree"] (spLevel T) := by
  refine okC F hc sc_level_steps (fun vs H Q E h => ?_) (fun A outer s H vs Q E hr h => ?_)
  · obtain ⟨v, t, rfl, _⟩ := h
    rfl
  obtain ⟨v, t, rfl, hv, hz, hT, q⟩ := h
  have hr := hr
  refine ⟨_, (pss_one (ps_ret (pe_sortKey (pe_call Ddeep_steps.ok (hr.mono (by omega)) rfl Ddeep_steps.g Ddeep_steps.kp Ddeep_steps.b .nil pass0 (pa_cons (pv 0) (pa_cons pe_str (pa_cons pe_str pa_nil)))) rfl M.sorted hr TB rfl hmT hu rfl (keyLam_len rfl rfl rfl (by decide +kernel) rfl (fun _ _ _ _ _ _ => rfl) (by decide +kernel) rfl M.len) keyG_len))), ?_⟩
  have z0 : t.size + 0 ≤ 200 := by omega
  refine ⟨_, rfl, v, t, .first, [], (by rw [← str_0]; rfl), hv, by omega, z0, fun p us H1 s1 ep st => ?_⟩
  have hT1 := hT.ext s1
  refine ⟨p, us, fun x => .int (keyOfStep H1 x : Int), rfl, SqL.of ep, hT1, fun x hx => ?_, fun p2 H2 eN T2 np => ?_⟩
  · obtain ⟨j, hj⟩ := List.getElem?_of_mem hx
    obtain ⟨a, pq, y, rfl, es, ea⟩ := st.get hj
    have hl : (tx pq).length ≤ 1000000 := by
      have := B.steps_path .first t [] _ (List.mem_of_getElem? es)
      rw [tx_len]
      show pq.length ≤ 1000000
      have h2 : pq.length ≤ 0 + t.size := this
      omega
    refine ⟨a, tx pq, _, rfl, ea, ?_, hl⟩
    show PyData.int (keyOfStep H1 (.ref a) : Int) = .int ((tx pq).length : Int)
    rw [keyOfStep_at (s := (pq, y)) ⟨a, rfl, ea⟩, tx_len]
  · have j3 := same_new np (.lst (us.mergeSort (PySem.W.dataLe false fun x => PyData.int (keyOfStep H1 x : Int))))
    exact q p2 _ _ (fun b o e n => j3 _ _ (eN _ _ (s1 _ _ e) n)) (T2.ext j3) upd_same ((st.sorted.keep (extN_keepT eN)).same j3)
theorem ok_steps {T : List (Addr × Str)} (F : Fun K "ordered_steps" "ordered_steps" s_ordered_steps f fd) (Dis_kind : Df P w K mg base 1 "is_kind" ["value"] spKind) (Ddeep_steps : Df P w K mg base 60 "deep_steps" ["tree", "kind", "path"] (spDeep 60)) (Dlevel_steps : Df P w K mg base 61 "level_steps" ["tree"] (spLevel T)) :
    FnOk P w K mg base CX0 62 f fd ["tree", "kind"] (spSteps T) := by
  refine F.ok sc_ordered_steps (fun vs H Q E h => ?_) (fun cdv A outer s H vs Q E hr h => ?_)
  · obtain ⟨v, t, k, rfl, _⟩ := h
    rfl
  obtain ⟨v, t, k, rfl, hv, hz, hT, q⟩ := h
  refine ⟨_, (pss_cons (ps_if (pt_not (pt_val (pe_call Dis_kind.ok (hr.mono (by omega)) rfl Dis_kind.g Dis_kind.kp Dis_kind.b .nil pass0 (pa_cons (pv 1) pa_nil))))
      (pss_one ps_never) pss_nil)
    (pss_cons (ps_if (pt_cmpR op_eq (pv 1) pe_str (nomark _))
      (pss_one (ps_ret (pe_call Dlevel_steps.ok (hr.mono (by omega)) rfl Dlevel_steps.g Dlevel_steps.kp Dlevel_steps.b .nil pass0 (pa_cons (pv 0) pa_nil)))) pss_nil)
    (pss_one (ps_ret (pe_call Ddeep_steps.ok (hr.mono (by omega)) rfl Ddeep_steps.g Ddeep_steps.kp Ddeep_steps.b .nil pass0 (pa_cons (pv 0) (pa_cons (pv 1) (pa_cons pe_str pa_nil)))))))), ?_⟩
  refine ⟨_, rfl, k, rfl, _, rfl, iteF ?_⟩
  cases k with
  | level =>
    refine ⟨_, rfl, rfl, _, rfl, iteS rfl ?_⟩
    exact ⟨_, rfl, v, t, rfl, hv, hz, hT, q⟩
  | deep k =>
    refine ⟨_, rfl, rfl, _, rfl, iteR (by cases k <;> decide +kernel) ?_⟩
    refine ⟨_, rfl, _, rfl, v, t, k, [], ?_, hv, by omega, by show t.size + 0 ≤ 200; omega, fun p us H' sm e st => q p us H' (.of sm) (hT.ext sm) e st⟩
    rw [← str_0]
    rfl
theorem ok_walk {T : List (Addr × Str)} (F : Fun K "walk" "walk" s_walk f fd) (Dordered_steps : Df P w K mg base 62 "ordered_steps" ["tree", "kind"] (spSteps T)) : FnOk P w K mg base CX0 63 f fd ["tree", "kind"] (spWalk T) := by
  refine F.ok sc_walk (fun vs H Q E h => ?_) (fun cdv A outer s H vs Q E hr h => ?_)
  · obtain ⟨v, t, k, rfl, _⟩ := h
    rfl
  obtain ⟨v, t, k, rfl, hv, hz, hT, q⟩ := h
  refine ⟨_, (pss_one (ps_ret (pe_bm PySem.F.plainAttrs_str PySem.F.slot_str_join PySem.F.type_str_join mt_join pe_str (pa_cons (pe_lc (own := [("path", 2), ("label", 3)]) (g := gTup K 2 (gCons (gName 2) (gCons (gName 3) gNil))) (tt := tYes) rfl sc_walk.nd (pi_list (pe_call Dordered_steps.ok (hr.mono (by omega)) rfl Dordered_steps.g Dordered_steps.kp Dordered_steps.b .nil pass0 (pa_cons (pv 0) (pa_cons (pv 1) pa_nil)))) (blkOk_by (N := ["tree", "kind", "path", "label"]) (sc := defScope s_walk) (by decide +kernel)) (fun _ _ _ _ _ => (pg_tup rfl (pgs_cons (pg_name (i := 2) sc_walk.nd rfl (.inl rfl)) (pgs_cons (pg_name (i := 3) sc_walk.nd rfl (.inl rfl)) pgs_nil)))) (fun _ _ _ _ _ => pts_nil) (fun _ _ _ _ _ => (pv 3))) pa_nil)))), ?_⟩
  refine ⟨rfl, _, rfl, _, rfl, v, t, k, rfl, hv, hz, hT, fun p us H1 s1 T1 ep st => ?_⟩
  refine ⟨p, rfl, ⟨_, SqL.of ep⟩, fun D nD => ?_⟩
  have q1 := same_new nD (.lst [])
  have hl := st.len
  rw [B.steps4_len] at hl
  have ez : (t.steps4 k).map (·.2) = t.wk4 k := rfl
  refine lc_list (K := K) (a := p) (xs := us) (fun i H' => Same H1 H' ∧ H' D = some (.lst (((t.wk4 k).take i).map vc))) ⟨q1, upd_same⟩ (fun i H' _ hp => SqL.of (hp.1 _ _ ep)) (fun i x H' hx hp => ?_) (fun H' hp => ?_)
  · obtain ⟨sm, ed⟩ := hp
    obtain ⟨a, pq, c, rfl, es, ea⟩ := st.get hx
    have hc : (t.wk4 k)[i]? = some c := by rw [← ez, List.getElem?_map, es]; rfl
    have hi := (List.getElem?_eq_some_iff.mp hx).1
    refine ⟨a, _, rfl, SqT.of (sm _ _ ea), rfl, _, _, rfl, _, _, rfl, rfl, rfl, kept ?_⟩
    refine ⟨_, rfl, _, ed, ?_, fun b o e => ?_, ?_⟩
    · rw [List.length_map, List.length_take]; exact small1000 (by omega)
    · rw [upd_ne (ne_of_none e nD)]; exact sm _ _ e
    · rw [upd_same, take_next hc, List.map_append]; rfl
  · obtain ⟨sm, ed⟩ := hp
    have tk : (t.wk4 k).take us.length = t.wk4 k := List.take_of_length_le (by rw [t.wk4_len k]; omega)
    rw [tk, map_vc] at ed
    refine ⟨_, D, (t.wk4 k).map ch, rfl, rfl, .inl (SqL.of ed), tx_joinOk _ (by rw [t.wk4_len k]; omega), ?_⟩
    rw [tx_join]
    exact q H' (s1.trans (.of sm)) (T1.ext sm)
end
/-! ### mirrored -/
def B.mir : B → B
  | .nil => .nil
  | .node l x r => .node r.mir x l.mir
theorem B.mir_size : ∀ t : B, t.mir.size = t.size
  | .nil => rfl
  | .node l x r => by
    have h1 := l.mir_size
    have h2 := r.mir_size
    show r.mir.size + 1 + l.mir.size = l.size + 1 + r.size
    omega
theorem B.mir_lows : ∀ t : B, t.lows → t.mir.lows
  | .nil, _ => trivial
  | .node l _ r, ⟨h1, h2, h3⟩ => ⟨r.mir_lows h3, h2, l.mir_lows h1⟩
theorem B.mir_mapL (g : Nat → Nat) : ∀ t : B, (t.mapL g).mir = t.mir.mapL g
  | .nil => rfl
  | .node l x r => by
    show B.node (r.mapL g).mir (g x) (l.mapL g).mir = .node (r.mir.mapL g) (g x) (l.mir.mapL g)
    rw [r.mir_mapL g, l.mir_mapL g]
def spMir (n : Nat) : Sp := fun vs H Q _ => ∃ (v : V) (t : B), vs = [v] ∧ BAt H v t ∧ t.size < n ∧ ∀ (v' : V) (H' : Hp), Same H H' → BAt H' v' t.mir → Q v' H'
section
variable {P : Program} {w : World} {K : PySem.W.Frag} {mg : Str → Option Value} {base : Heap} {f : Addr} {fd : FuncData}
theorem ok_mir (F : Fun K "mirrored" "mirrored" s_mirrored f fd) (b : Binds K fd ["tree"] []) (g : mg "mirrored" = some (.ref f)) : ∀ n : Nat, FnOk P w K mg base CX0 n f fd ["tree"] (spMir n)
  | 0 => by
    have no : ∀ vs H Q E, ¬ spMir 0 vs H Q E := fun vs H Q E h => by
      obtain ⟨v, t, _, _, h1, _⟩ := h
      exact absurd h1 (Nat.not_lt_zero _)
    exact ⟨fun vs H Q E h => absurd h (no vs H Q E), fun A outer s H args us vs Q E _ _ _ _ h => absurd h (no vs H Q E)⟩
  | n + 1 => by
    have Dself : Df P w K mg base n "mirrored" ["tree"] (spMir n) := ⟨f, fd, ok_mir F b g n, b, F.kp, g⟩
    refine F.ok sc_mirrored (fun vs H Q E h => ?_) (fun cdv A outer s H vs Q E hr h => ?_)
    · obtain ⟨v, t, rfl, _⟩ := h
      rfl
    obtain ⟨v, t, rfl, ht, hn, q⟩ := h
    refine ⟨_, (pss_cons (ps_if (pt_cmpR op_isN (pv 0) pe_non (nomark _))
      (pss_one (ps_ret pe_non)) pss_nil)
    (pss_cons (ps_asg (pv 0) (pg_tup rfl (pgs_cons (pg_name (i := 1) sc_mirrored.nd rfl (.inl rfl)) (pgs_cons (pg_name (i := 2) sc_mirrored.nd rfl (.inl rfl)) (pgs_cons (pg_name (i := 3) sc_mirrored.nd rfl (.inl rfl)) pgs_nil)))))
    (pss_one (ps_ret (pe_tup (pa_cons (pe_call Dself.ok (hr.mono (by omega)) rfl Dself.g Dself.kp Dself.b .nil pass0 (pa_cons (pv 3) pa_nil)) (pa_cons (pv 2) (pa_cons (pe_call Dself.ok (hr.mono (by omega)) rfl Dself.g Dself.kp Dself.b .nil pass0 (pa_cons (pv 1) pa_nil)) pa_nil)))))))), ?_⟩
    rcases ht.inv with ⟨rfl, rfl⟩ | ⟨a, vl, vr, x, tl, tr, rfl, rfl, ea, hl, hr'⟩
    · exact ⟨_, rfl, rfl, _, rfl, iteT (q _ _ (Same.refl H) .nil)⟩
    have hz : tl.size + 1 + tr.size < n + 1 := hn
    refine ⟨_, rfl, rfl, _, rfl, iteF ?_⟩
    refine ⟨_, rfl, a, _, rfl, SqT.of ea, rfl, vl, _, rfl, .str (ch x), _, rfl, vr, _, rfl, rfl, ?_⟩
    refine ⟨_, rfl, vr, tr, rfl, hr', by omega, fun v1 H1 s1 h1 => ?_⟩
    refine ⟨_, rfl, _, rfl, vl, tl, rfl, hl.same s1, by omega, fun v2 H2 s2 h2 => ?_⟩
    refine ⟨(by show 3 ≤ sizeLine; decide), fun r nr => ?_⟩
    have k2 := same_new nr (.tup [v1, .str (ch x), v2])
    exact q _ _ (s1.trans (s2.trans k2)) (.node upd_same (h1.same (s2.trans k2)) (h2.same k2))
end
/-! ### led so many times -/
theorem low_lows : ∀ {t : B}, t.low → t.lows
  | .nil, _ => trivial
  | .node _ _ _, ⟨h1, h2, h3⟩ => ⟨low_lows h1, h2, low_lows h3⟩
theorem mapL_lows {g : Nat → Nat} (h : ∀ c, lowc c → lowc (g c)) : ∀ {t : B}, t.lows → (t.mapL g).lows
  | .nil, _ => trivial
  | .node _ _ _, ⟨h1, h2, h3⟩ => ⟨mapL_lows h h1, h _ h2, mapL_lows h h3⟩
theorem B.okR : ∀ {t : B}, t.lows → okR t.data = true ∧ wtR t.data ≤ 4 + 25 * t.size ∧ t.data.depth ≤ t.size
  | .nil, _ => ⟨rfl, by decide, by decide⟩
  | .node l x r, ⟨h1, h2, h3⟩ => by
    obtain ⟨a1, a2, a3⟩ := B.okR h1
    obtain ⟨b1, b2, b3⟩ := B.okR h3
    have hc : ((ch x).cps.toList.all (· < 128)) = true := by
      show ([x].all (· < 128)) = true
      have := h2.2
      simp; omega
    have hl : (ch x).length = 1 := rfl
    refine ⟨?_, ?_, ?_⟩
    · simp only [B.data, Tw.okR, okRs, a1, b1, hc, hl]
      decide
    · simp only [B.data, wtR, wtRs, hl, B.size]
      omega
    · simp only [B.data, PyData.depth, PyData.depthAll, B.size]
      omega
def itN (f : Nat → Nat) : Nat → Nat → Nat
  | 0, c => c
  | n + 1, c => f (itN f n c)
theorem itN_add (f : Nat → Nat) (m c : Nat) : ∀ n, itN f (m + n) c = itN f n (itN f m c)
  | 0 => rfl
  | n + 1 => by
    show f (itN f (m + n) c) = f (itN f n (itN f m c))
    rw [itN_add f m c n]
theorem itN_low {f : Nat → Nat} (lf : ∀ c, lowc c → lowc (f c)) {c : Nat} (h : lowc c) : ∀ n, lowc (itN f n c)
  | 0 => h
  | n + 1 => lf _ (itN_low lf h n)
def WayIt (f : Nat → Nat) (c : Nat) (w : List Nat) : Prop := 0 < w.length ∧ ∀ i, i < w.length → w.getD i 0 = itN f i c
theorem lastD_at : ∀ (w : List Nat), 0 < w.length → w.getLastD 0 = w.getD (w.length - 1) 0
  | [], h => absurd h (Nat.lt_irrefl _)
  | [_], _ => rfl
  | _ :: b :: w, _ => by
    have := lastD_at (b :: w) (Nat.succ_pos _)
    rw [List.getLastD_cons] at this
    rw [List.getLastD_cons, List.getLastD_cons, this]
    rfl
theorem grow_it {f : Nat → Nat} {c : Nat} : ∀ (n : Nat) (w : List Nat), WayIt f c w → WayIt f c (grow f n w)
  | 0, _, h => h
  | n + 1, w, h => by
    by_cases m : f (w.getLastD 0) ∈ w
    · rw [grow_stop m]; exact h
    · rw [grow_step m]
      refine grow_it n _ ⟨by rw [List.length_append]; exact Nat.lt_of_lt_of_le h.1 (Nat.le_add_right _ _), fun i hi => ?_⟩
      rw [List.length_append] at hi
      have hi : i < w.length + 1 := hi
      by_cases g : i < w.length
      · rw [List.getD_eq_getElem?_getD, List.getElem?_append_left g, ← List.getD_eq_getElem?_getD]
        exact h.2 i g
      · have e : i = w.length := by omega
        subst e
        rw [List.getD_eq_getElem?_getD, List.getElem?_append_right (Nat.le_refl _), Nat.sub_self, lastD_at w h.1, h.2 _ (by have := h.1; omega)]
        have : w.length = (w.length - 1) + 1 := by have := h.1; omega
        conv => rhs; rw [this]
        rfl
theorem way_it (f : Nat → Nat) (c : Nat) : WayIt f c (wayOf f c) := grow_it 26 [c] ⟨Nat.zero_lt_one, fun i hi => by
  have : i = 0 := by have hi : i < 1 := hi; omega
  subst this
  rfl⟩
theorem led_it {f : Nat → Nat} (lf : ∀ c, lowc c → lowc (f c)) {c : Nat} (h : lowc c) (t : Nat) : ledOf f c t = itN f t c := by
  obtain ⟨w0, wi⟩ := way_it f c
  have b := back_lt lf h
  have mem := (way_ok lf h).2
  have per : itN f (wayOf f c).length c = itN f (backOf f c) c := by
    have e1 : (wayOf f c).length = ((wayOf f c).length - 1) + 1 := by omega
    rw [e1]
    show f (itN f ((wayOf f c).length - 1) c) = _
    rw [← wi _ (by omega), ← lastD_at _ w0, ← wi _ b]
    unfold backOf
    rw [List.getD_eq_getElem?_getD, List.getElem?_eq_getElem (List.idxOf_lt_length_of_mem mem)]
    exact (List.getElem_idxOf _).symm
  have cyc : ∀ k, itN f (backOf f c + k) c = itN f (backOf f c + k % ((wayOf f c).length - backOf f c)) c := by
    intro k
    induction k using Nat.strongRecOn with
    | ind k ih =>
      by_cases g : k < (wayOf f c).length - backOf f c
      · rw [Nat.mod_eq_of_lt g]
      · rw [Nat.mod_eq_sub_mod (by omega), ← ih (k - ((wayOf f c).length - backOf f c)) (by omega)]
        have e : backOf f c + k = (wayOf f c).length + (k - ((wayOf f c).length - backOf f c)) := by omega
        rw [e, itN_add, per, ← itN_add]
  unfold ledOf
  by_cases g : t < backOf f c
  · rw [if_pos g, wi _ (by omega)]
  · rw [if_neg g, wi _ (led_at lf h t), ← cyc (t - backOf f c)]
    congr 1
    omega
theorem mapL_congr {f g : Nat → Nat} : ∀ {t : B}, t.lows → (∀ c, lowc c → f c = g c) → t.mapL f = t.mapL g
  | .nil, _, _ => rfl
  | .node l x r, ⟨h1, h2, h3⟩, h => by
    show B.node (l.mapL f) (f x) (r.mapL f) = .node (l.mapL g) (g x) (r.mapL g)
    rw [mapL_congr h1 h, mapL_congr h3 h, h x h2]
theorem mapL_mapL (f g : Nat → Nat) : ∀ t : B, (t.mapL f).mapL g = t.mapL fun c => g (f c)
  | .nil => rfl
  | .node l x r => by
    show B.node ((l.mapL f).mapL g) (g (f x)) ((r.mapL f).mapL g) = .node (l.mapL fun c => g (f c)) (g (f x)) (r.mapL fun c => g (f c))
    rw [mapL_mapL f g l, mapL_mapL f g r]
/-- a tree renamed so many times -/
def B.ren (t : B) (M : Ld) (m : Nat) : B := t.mapL fun c => ledOf (tgt M) c m
theorem B.ren_it {t : B} {M : Ld} (lo : t.lows) (ok : LdOk M) (m : Nat) : t.ren M m = t.mapL (itN (tgt M) m) := mapL_congr lo fun c hc => led_it (fun x hx => tgt_low ok hx) hc m
theorem B.ren_lows {t : B} {M : Ld} (lo : t.lows) (ok : LdOk M) (m : Nat) : (t.ren M m).lows := mapL_lows (fun c hc => led_low (fun x hx => tgt_low ok hx) hc m) lo
theorem B.ren_size (t : B) (M : Ld) (m : Nat) : (t.ren M m).size = t.size := t.mapL_size _
theorem ren_ren {t : B} {M : Ld} (lo : t.lows) (ok : LdOk M) (m n : Nat) : (t.ren M m).ren M n = t.ren M (m + n) := by
  rw [B.ren_it (B.ren_lows lo ok m) ok, B.ren_it lo ok, B.ren_it lo ok, mapL_mapL]
  exact mapL_congr lo fun c _ => (itN_add _ m c n).symm
theorem ren_both {t : B} {M N O : Ld} (lo : t.lows) (ok : LdOk M) (okN : LdOk N) (okO : LdOk O) (h : ∀ x, tgt O x = tgt N (tgt M x)) : t.ren O 1 = (t.ren M 1).ren N 1 := by
  rw [B.ren_it (B.ren_lows lo ok 1) okN, B.ren_it lo ok, B.ren_it lo okO, mapL_mapL]
  exact mapL_congr lo fun c _ => h c
theorem ren_twice {t : B} {M O : Ld} (lo : t.lows) (ok : LdOk M) (okO : LdOk O) (h : ∀ x, tgt O x = tgt M (tgt M x)) (m : Nat) : t.ren O m = t.ren M (2 * m) := by
  rw [B.ren_it lo ok, B.ren_it lo okO]
  refine mapL_congr lo fun c _ => ?_
  induction m with
  | zero => rfl
  | succ m ih =>
    show tgt O (itN (tgt O) m c) = _
    rw [ih, h]
    rfl
theorem ren_mir (t : B) (M : Ld) (m : Nat) : (t.ren M m).mir = t.mir.ren M m := B.mir_mapL _ t
theorem ren_walk {t : B} {M : Ld} (lo : t.lows) (ok : LdOk M) (k : K4) : (t.ren M 1).wk4 k = (t.wk4 k).map (tgt M) := by
  rw [B.ren_it lo ok, B.wk4_mapL]
  rfl
theorem B.lay {t : B} (h : t.lows) : t.data.canLay0 = true := by
  induction t with
  | nil => rfl
  | node l x r h1 h2 =>
    obtain ⟨a, b, c⟩ := h
    have e : (PyData.str (ch x)).canLay0 = true := SeqAt.canLay_of_shaped (shaped_ch (by have := b.2; omega))
    rw [show (B.node l x r).data.canLay0 = (l.data.canLay0 && ((PyData.str (ch x)).canLay0 && (r.data.canLay0 && true))) by simp only [B.data, PyData.canLay0, PyData.canLayAll0], h1 a, e, h2 c]
    rfl
theorem B.shaped {t : B} (h : t.lows) (hz : t.size ≤ 60) : SeqAt.shaped t.data = true := by
  unfold SeqAt.shaped
  rw [t.lay h, Bool.true_and]
  have := (B.okR h).2.2
  exact decide_eq_true (by omega)
theorem B.eqv_self : ∀ t : B, PyData.eqv t.data t.data = true
  | .nil => by simp only [B.data, PyData.eqv]
  | .node l x r => by
    rw [show PyData.eqv (B.node l x r).data (B.node l x r).data = (PyData.eqv l.data l.data && (PyData.eqv (.str (ch x)) (.str (ch x)) && (PyData.eqv r.data r.data && true))) by simp only [B.data, PyData.eqv, PyData.eqvAll], l.eqv_self, r.eqv_self, eqv_ch, decide_eq_true rfl]
    rfl
theorem wk4_low {t : B} (lo : t.lows) (k : K4) : ∀ c ∈ t.wk4 k, lowc c := by
  have sub : ∀ (k : Kd) (t : B), t.lows → ∀ (q : List Nat), ∀ s ∈ t.steps k q, lowc s.2 := by
    intro k t
    induction t with
    | nil => intro _ q s h; exact nomatch h
    | node l x r h1 h2 =>
      intro lo q s h
      obtain ⟨a, b, c⟩ := lo
      have key : s = (q, x) ∨ s ∈ l.steps k (q ++ [108]) ∨ s ∈ r.steps k (q ++ [114]) := by
        cases k <;> (simp only [B.steps, List.mem_append, List.mem_cons, List.not_mem_nil, or_false] at h; rcases h with (h | h) | h <;> simp [h])
      rcases key with rfl | h | h
      · exact b
      · exact h1 a _ s h
      · exact h2 c _ s h
  intro c hc
  obtain ⟨s, hs, rfl⟩ := List.mem_map.mp hc
  cases k with
  | deep k => exact sub k t lo [] s hs
  | level => exact sub .first t lo [] s (List.mem_mergeSort.mp hs)
/-! ### _law_calls_right -/
theorem sized {H H' : Hp} {D : Deck} {n : Nat} (s : SameD D H H') (d : DeckOk H D n) {b : Addr} {o : HO} (e : H b = some o) (nl : ∀ xs, o ≠ .lst xs) : H' b = some o := by
  obtain ⟨⟨x1, h1⟩, ⟨x2, h2⟩⟩ := d.lists
  exact s b o (fun z => by rw [z, h1] at e; exact nl _ (Option.some.inj e).symm) (fun z => by rw [z, h2] at e; exact nl _ (Option.some.inj e).symm) e
theorem Rn.sameD {C : Addr} {H H' : Hp} {a : Addr} {N : Ld} {D : Deck} {n : Nat} (r : Rn C H a N) (s : SameD D H H') (d : DeckOk H D n) : Rn C H' a N := by
  obtain ⟨dx, x, h1, h2⟩ := r
  exact ⟨dx, x, sized s d h1 (fun _ z => by cases z), sized s d h2 (fun _ z => by cases z)⟩
theorem BAt.non {H : Hp} {v : V} (h : BAt H v .nil) : v = .non := by cases h; rfl
theorem ne_self (x : Str) : (!decide (V.str x = V.str x)) = false := by simp
theorem InsC.of {X : Cx} {C : Addr} {H : Hp} {a : Addr} {N : Ld} (r : Rn C H a N) : StX.InsC X H a C := by
  obtain ⟨dx, d, h1, _⟩ := r
  exact .inr ⟨dx, _, h1⟩
theorem tabsD {T : List (Addr × Str)} {D : Deck} {H H' : Hp} {n : Nat} (d : DeckOk H D n) (s : SameD D H H') (h : LamX.Tabs T H) : LamX.Tabs T H' := fun p hp => by
  obtain ⟨⟨x1, l1⟩, ⟨x2, l2⟩⟩ := d.lists
  obtain ⟨ps, h1, h2, h3⟩ := h p hp
  refine ⟨ps, s _ _ (fun z => by rw [z, l1] at h1; cases h1) (fun z => by rw [z, l2] at h1; cases h1) h1, h2, fun pos cv hc => ?_⟩
  obtain ⟨c, e1, e2⟩ := h3 pos cv hc
  refine ⟨c, e1, s _ _ (fun z => ?_) (fun z => ?_) e2⟩
  · rw [z, l1] at e2; unfold LamX.CodeO at e2; cases e2
  · rw [z, l2] at e2; unfold LamX.CodeO at e2; cases e2
theorem Rn.ext {C : Addr} {H H' : Hp} {a : Addr} {N : Ld} (e : LamX.ExtN H H') (r : Rn C H a N) : Rn C H' a N := by
  obtain ⟨dx, x, h1, h2⟩ := r
  exact ⟨dx, x, e _ _ h1 (fun ps z => by cases z), e _ _ h2 (fun ps z => by cases z)⟩
theorem DeckOk.ext {H H' : Hp} {D : Deck} {n : Nat} (d : DeckOk H D n) (e : LamX.ExtN H H') : DeckOk H' D n := by
  obtain ⟨c, r, h1, h2, h3, h4⟩ := d.ex
  have nl : ∀ (xs : List V) ps, HO.lst xs ≠ .tbl ps := fun _ ps z => by cases z
  exact ⟨⟨c, r, e _ _ h1 (nl _), e _ _ h2 (nl _), e _ _ h3 (nl _), h4⟩, d.dc, d.dr, d.cr⟩
theorem ne_data {t u : B} (h : t = u) : (!PyData.eqv t.data u.data) = false := by
  subst h
  rw [t.eqv_self]
  rfl
structure Fr (C : Addr) (D : Deck) (n : Nat) (a b : Addr) (M N : Ld) (v : V) (t : B) (T : List (Addr × Str)) (H : Hp) : Prop where
  ra : Rn C H a M
  rb : Rn C H b N
  bt : BAt H v t
  dk : DeckOk H D n
  tb : LamX.Tabs T H
theorem Fr.ext {C : Addr} {D : Deck} {n : Nat} {a b : Addr} {M N : Ld} {v : V} {t : B} {T : List (Addr × Str)} {H H' : Hp} (h : Fr C D n a b M N v t T H) (e : LamX.ExtN H H') (k : LamX.Tabs T H') : Fr C D n a b M N v t T H' :=
  ⟨h.ra.ext e, h.rb.ext e, h.bt.keep (extN_keepT e), h.dk.ext e, k⟩
theorem Fr.same {C : Addr} {D : Deck} {n : Nat} {a b : Addr} {M N : Ld} {v : V} {t : B} {T : List (Addr × Str)} {H H' : Hp} (h : Fr C D n a b M N v t T H) (e : Same H H') : Fr C D n a b M N v t T H' := h.ext (.of e) (h.tb.ext e)
def fourK : List K4 := [.deep .first, .deep .between, .deep .last, .level]
def spCR (C : Addr) (T : List (Addr × Str)) : Sp := fun vs H Q _ => ∃ (D : Deck) (n : Nat) (a b : Addr) (M N : Ld) (v : V) (t : B), vs = [.ref D.dk, .ref a, .ref b, v] ∧ DeckOk H D n ∧ n + 2 ≤ 1000000 ∧ Rn C H a M ∧ Ren M ∧ Rn C H b N ∧ Ren N ∧ BAt H v t ∧ t.lows ∧ t.size ≤ 12 ∧ LamX.Tabs T H ∧
  ∀ H', DeckOk H' D (n + 2) → Rn C H' a M → Rn C H' b N → BAt H' v t → LamX.Tabs T H' → Q (.bl true) H'
section
variable {P : Program} {w : World} {K : PySem.W.Frag} {mg : Str → Option Value} {base : Heap} {f : Addr} {fd : FuncData} {C gG gA gE gS gN gC gL gB gO : Addr}
theorem ok_cr {T : List (Addr × Str)} (F : Fun K "_law_calls_right" "_law_calls_right" s__law_calls_right f fd) (M : Mgs mg) (TD : RenC K mg C gG) (Dget : FnR P w K mg base CX0 2 gG (spGet C)) (OC : OwnC K C gA gE gS gN gC gL gB) (FA : FnR P w K mg base CX0 4 gA (spAddR C)) (cO : StX.CallO K C gO) (FO : FnR P w K mg base CX0 19 gO (spCallR C 13))
    (D_law_draw : Df P w K mg base 1 "_law_draw" ["_law_state", "_law_below"] spDraw) (Dsize_of : Df P w K mg base 13 "size_of" ["tree"] (spSz 13)) (Dmirrored : Df P w K mg base 13 "mirrored" ["tree"] (spMir 13)) (Dwalk : Df P w K mg base 63 "walk" ["tree", "kind"] (spWalk T)) :
    FnOk P w K mg base CX0 64 f fd ["_law_state", "_law_one", "_law_other", "_law_tree_here"] (spCR C T) := by
  refine F.ok sc__law_calls_right (fun vs H Q E h => ?_) (fun cdv A outer s H vs Q E hr h => ?_)
  · obtain ⟨D, n, a, b, _, _, v, t, rfl, _⟩ := h
    rfl
  obtain ⟨D, n, a, b, M1, M2, v, t, rfl, d0, hn, r1, n1, r2, n2, bt, lo, hz, T0, q⟩ := h
  refine ⟨_, (pss_cons (ps_par3 (i := 4) (j := 5) (l := 6) (by rfl) sc__law_calls_right.nd rfl rfl rfl (by decide) (by decide) (by decide) rfl rfl rfl (pa_cons (pe_op (op_addOwn OC.sf OC.ad OC.adf FA (hr.mono (by omega)) pass0) (pv 1) (pv 2)) (pa_cons (pe_call D_law_draw.ok (hr.mono (by omega)) rfl D_law_draw.g D_law_draw.kp D_law_draw.b .nil pass0 (pa_cons (pv 0) (pa_cons pe_int pa_nil))) (pa_cons (pe_call D_law_draw.ok (hr.mono (by omega)) rfl D_law_draw.g D_law_draw.kp D_law_draw.b .nil pass0 (pa_cons (pv 0) (pa_cons (pe_op op_pow pe_int pe_int) pa_nil))) pa_nil))) (by rfl))
    (pss_cons (ps_if (pt_cmpR (op_neD hr.units) (StX.pe_callO (pv 4) cO FO (hr.mono (by omega)) pass0 (pa_cons (pv 3) pa_nil)) (StX.pe_callO (pv 2) cO FO (hr.mono (by omega)) pass0 (pa_cons (StX.pe_callO (pv 1) cO FO (hr.mono (by omega)) pass0 (pa_cons (pv 3) pa_nil)) pa_nil)) (nomark _))
      (pss_one (ps_ret pe_bl)) pss_nil)
    (pss_cons (ps_if (pt_cmpR (op_neD hr.units) (StX.pe_callO (pv 1) cO FO (hr.mono (by omega)) pass0 (pa_cons (StX.pe_callO (pv 1) cO FO (hr.mono (by omega)) pass0 (pa_cons (pv 3) (pa_cons (pv 5) pa_nil))) (pa_cons (pv 6) pa_nil))) (StX.pe_callO (pv 1) cO FO (hr.mono (by omega)) pass0 (pa_cons (pv 3) (pa_cons (pe_op op_add (pv 5) (pv 6)) pa_nil))) (nomark _))
      (pss_one (ps_ret pe_bl)) pss_nil)
    (pss_cons (ps_set (i := 7) sc__law_calls_right.nd rfl (.inl rfl) (pe_op (op_addOwn OC.sf OC.ad OC.adf FA (hr.mono (by omega)) pass0) (pv 1) (pv 1)))
    (pss_cons (ps_if (PW.pt (pw_or (pt_cmpR (op_neD hr.units) (StX.pe_callO (pv 7) cO FO (hr.mono (by omega)) pass0 (pa_cons (pv 3) (pa_cons (pv 6) pa_nil))) (StX.pe_callO (pv 1) cO FO (hr.mono (by omega)) pass0 (pa_cons (pv 3) (pa_cons (pe_op op_mul pe_int (pv 6)) pa_nil))) (nomark _)) (pw_or1 (pt_cmpR op_ne (pe_call Dsize_of.ok (hr.mono (by omega)) rfl Dsize_of.g Dsize_of.kp Dsize_of.b .nil pass0 (pa_cons (StX.pe_callO (pv 1) cO FO (hr.mono (by omega)) pass0 (pa_cons (pv 3) (pa_cons (pv 6) pa_nil))) pa_nil)) (pe_call Dsize_of.ok (hr.mono (by omega)) rfl Dsize_of.g Dsize_of.kp Dsize_of.b .nil pass0 (pa_cons (pv 3) pa_nil)) (nomark _)))))
      (pss_one (ps_ret pe_bl)) pss_nil)
    (pss_cons (ps_if (pt_cmpR (op_neD hr.units) (StX.pe_callO (pv 1) cO FO (hr.mono (by omega)) pass0 (pa_cons (pe_call Dmirrored.ok (hr.mono (by omega)) rfl Dmirrored.g Dmirrored.kp Dmirrored.b .nil pass0 (pa_cons (pv 3) pa_nil)) pa_nil)) (pe_call Dmirrored.ok (hr.mono (by omega)) rfl Dmirrored.g Dmirrored.kp Dmirrored.b .nil pass0 (pa_cons (StX.pe_callO (pv 1) cO FO (hr.mono (by omega)) pass0 (pa_cons (pv 3) pa_nil)) pa_nil)) (nomark _))
      (pss_one (ps_ret pe_bl)) pss_nil)
    (pss_cons (ps_for PassesOwn.never rfl (pi_list (pe_lst (pa_cons pe_str (pa_cons pe_str (pa_cons pe_str (pa_cons pe_str pa_nil)))))) (pg_name (i := 8) sc__law_calls_right.nd rfl (.inl rfl))
      (pss_cons (ps_set (i := 10) sc__law_calls_right.nd rfl (.inl rfl) (pe_bm PySem.F.plainAttrs_str PySem.F.slot_str_join PySem.F.type_str_join mt_join pe_str (pa_cons (pe_lc (own := [("_law_letter", 9)]) (g := gName 9) (tt := tYes) rfl sc__law_calls_right.nd (pi_str (pe_call Dwalk.ok (hr.mono (by omega)) rfl Dwalk.g Dwalk.kp Dwalk.b .nil pass0 (pa_cons (pv 3) (pa_cons (pv 8) pa_nil)))) (blkOk_by (N := ["_law_state", "_law_one", "_law_other", "_law_tree_here", "_law_both", "_law_many", "_law_more", "_law_twice_here", "_law_kind", "_law_letter", "_law_due"]) (sc := defScope s__law_calls_right) (by decide +kernel)) (fun _ _ _ _ _ => (pg_name (i := 9) sc__law_calls_right.nd rfl (.inl rfl))) (fun _ _ _ _ _ => pts_nil) (fun _ _ _ _ _ => (pe_ixOwn TD.gi TD.gf TD.gn Dget (hr.mono (by omega)) (pv 1) (pv 9) (fun _ _ => rfl)))) pa_nil)))
    (pss_one (ps_if (pt_cmpR op_ne (pe_call Dwalk.ok (hr.mono (by omega)) rfl Dwalk.g Dwalk.kp Dwalk.b .nil pass0 (pa_cons (StX.pe_callO (pv 1) cO FO (hr.mono (by omega)) pass0 (pa_cons (pv 3) pa_nil)) (pa_cons (pv 8) pa_nil))) (pv 10) (nomark _))
      (pss_one (ps_ret pe_bl)) pss_nil))))
    (pss_one (ps_ret pe_bl))))))))), ?_⟩
  obtain ⟨d1, f1, e1⟩ := r1.ins
  obtain ⟨d2, f2, e2⟩ := r2.ins
  refine ⟨_, rfl, _, rfl, a, b, d1, d2, f1, f2, rfl, rfl, e1, e2, a, b, M1, M2, rfl, r1, r2, n1, n2, fun y O H1 nO tO s1 nY rO => ⟨⟨_, rfl⟩, ?_⟩⟩
  refine ⟨_, rfl, D, n, 40, rfl, d0.same s1, by omega, by decide, by decide, fun i1 H2 g0 g1 dH sH => ?_⟩
  refine ⟨_, rfl, _, _, rfl, rfl, ⟨by decide, by decide, by decide⟩, D, n + 1, _, rfl, dH, by omega, by decide, by decide, fun i2 H3 j0 j1 dI sI => ?_⟩
  obtain ⟨m1, rfl⟩ : ∃ m : Nat, i1 = (m : Int) := ⟨i1.toNat, by omega⟩
  obtain ⟨m2, rfl⟩ : ∃ m : Nat, i2 = (m : Int) := ⟨i2.toNat, by omega⟩
  have fr : Fr C D (n + 2) a b M1 M2 v t T H3 := ⟨((r1.same s1).sameD sH (d0.same s1)).sameD sI dH, ((r2.same s1).sameD sH (d0.same s1)).sameD sI dH, ((bt.same s1).keep (sH.keepT (d0.same s1))).keep (sI.keepT dH), dI, tabsD dH sI (tabsD (d0.same s1) sH (T0.ext s1))⟩
  have rY := (rO.sameD sH (d0.same s1)).sameD sI dH
  clear rO r1 r2 bt d0 T0 sH sI dH dI e1 e2 s1 g0 g1 j0 j1
  have l1 := n1.ok
  have l2 := n2.ok
  have lO := nO.ok
  have sd : ∀ (M : Ld) m, LdOk M → SeqAt.shaped (t.ren M m).data = true := fun M m ok => B.shaped (B.ren_lows lo ok m) (by rw [B.ren_size]; omega)
  have z13 : t.size < 13 := by omega
  have y13 : ∀ M m, (t.ren M m).size < 13 := fun M m => by rw [B.ren_size]; omega
  refine ⟨_, _, _, rfl, _, rfl, y, rfl, _, rfl, InsC.of rY, .inr ⟨y, O, v, t, 1, rfl, rY, lO, fr.bt, lo, z13, fun v1 H4 s4 b1 => ?_⟩⟩
  have fr := fr.same s4
  refine ⟨_, rfl, b, rfl, _, rfl, a, rfl, _, rfl, InsC.of fr.ra, .inr ⟨a, M1, v, t, 1, rfl, fr.ra, l1, fr.bt, lo, z13, fun v2 H5 s5 b2 => ?_⟩⟩
  have fr := fr.same s5
  refine ⟨InsC.of fr.rb, .inr ⟨b, M2, v2, t.ren M1 1, 1, rfl, fr.rb, l2, b2, B.ren_lows lo l1 1, y13 _ _, fun v3 H6 s6 b3 => ?_⟩⟩
  have fr := fr.same s6
  refine ⟨(t.ren O 1).data, ((t.ren M1 1).ren M2 1).data, ((b1.same s5).same s6).dp, b3.dp, sd O 1 lO, B.shaped (B.ren_lows (B.ren_lows lo l1 1) l2 1) (by rw [B.ren_size, B.ren_size]; omega), _, rfl, ?_⟩
  rw [ne_data (show t.ren O 1 = (t.ren M1 1).ren M2 1 from ren_both lo l1 l2 lO tO)]
  refine iteF ?_
  refine ⟨_, rfl, a, rfl, _, rfl, a, rfl, _, rfl, _, rfl, InsC.of fr.ra, .inl ⟨a, M1, v, t, m1, rfl, fr.ra, l1, fr.bt, lo, z13, fun v4 H7 s7 b4 => ?_⟩⟩
  clear b1 b2 b3 s4 s5 s6
  have fr := fr.same s7
  refine ⟨_, rfl, InsC.of fr.ra, .inl ⟨a, M1, v4, t.ren M1 m1, m2, rfl, fr.ra, l1, b4, B.ren_lows lo l1 m1, y13 _ _, fun v5 H8 s8 b5 => ?_⟩⟩
  have fr := fr.same s8
  refine ⟨_, rfl, a, rfl, _, rfl, _, rfl, _, rfl, _, _, rfl, rfl, InsC.of fr.ra, .inl ⟨a, M1, v, t, m1 + m2, rfl, fr.ra, l1, fr.bt, lo, z13, fun v6 H9 s9 b6 => ?_⟩⟩
  have fr := fr.same s9
  refine ⟨((t.ren M1 m1).ren M1 m2).data, (t.ren M1 (m1 + m2)).data, (b5.same s9).dp, b6.dp, B.shaped (B.ren_lows (B.ren_lows lo l1 m1) l1 m2) (by rw [B.ren_size, B.ren_size]; omega), sd M1 _ l1, _, rfl, ?_⟩
  rw [ne_data (show (t.ren M1 m1).ren M1 m2 = t.ren M1 (m1 + m2) from ren_ren lo l1 m1 m2)]
  refine iteF ?_
  clear b4 b5 b6 s7 s8 s9
  obtain ⟨d1, f1, ea⟩ := fr.ra.ins
  refine ⟨_, rfl, _, rfl, a, a, d1, d1, f1, f1, rfl, rfl, ea, ea, a, a, M1, M1, rfl, fr.ra, fr.ra, n1, n1, fun y2 O2 HA nO2 tO2 sA nY2 rY2 => ⟨⟨_, rfl⟩, ?_⟩⟩
  have fr := fr.same sA
  have lO2 := nO2.ok
  clear ea
  refine ⟨_, rfl, y2, rfl, _, rfl, _, rfl, InsC.of rY2, .inl ⟨y2, O2, v, t, m2, rfl, rY2, lO2, fr.bt, lo, z13, fun v7 HB sB b7 => ?_⟩⟩
  have fr := fr.same sB
  refine ⟨_, rfl, a, rfl, _, rfl, _, rfl, _, _, rfl, rfl, (.inl ⟨by decide, by decide⟩), InsC.of fr.ra, .inl ⟨a, M1, v, t, 2 * m2, rfl, fr.ra, l1, fr.bt, lo, z13, fun v8 HC sC b8 => ?_⟩⟩
  have fr := fr.same sC
  refine ⟨(t.ren O2 m2).data, (t.ren M1 (2 * m2)).data, (b7.same sC).dp, b8.dp, sd O2 m2 lO2, sd M1 _ l1, _, rfl, ?_⟩
  rw [ne_data (show t.ren O2 m2 = t.ren M1 (2 * m2) from ren_twice lo l1 lO2 tO2 m2)]
  refine iteF ?_
  refine ⟨_, rfl, a, rfl, _, rfl, _, rfl, InsC.of fr.ra, .inl ⟨a, M1, v, t, m2, rfl, fr.ra, l1, fr.bt, lo, z13, fun v9 HD sD b9 => ?_⟩⟩
  have fr := fr.same sD
  refine ⟨v9, t.ren M1 m2, rfl, b9, y13 _ _, ?_⟩
  refine ⟨_, rfl, v, t, rfl, fr.bt, z13, ?_⟩
  refine ⟨rfl, _, rfl, ?_⟩
  rw [show (!decide (V.int ((t.ren M1 m2).size : Int) = V.int (t.size : Int))) = false by rw [B.ren_size]; simp]
  refine iteF ?_
  clear b7 b8 b9 sA sB sC sD rY2 rY
  refine ⟨_, rfl, a, rfl, _, rfl, v, t, rfl, fr.bt, z13, fun w1 HE sE c1 => ?_⟩
  have fr := fr.same sE
  have zm : t.mir.size ≤ 12 := by rw [B.mir_size]; exact hz
  refine ⟨InsC.of fr.ra, .inr ⟨a, M1, w1, t.mir, 1, rfl, fr.ra, l1, c1, B.mir_lows t lo, by omega, fun w2 HF sF c2 => ?_⟩⟩
  have fr := fr.same sF
  refine ⟨_, rfl, a, rfl, _, rfl, InsC.of fr.ra, .inr ⟨a, M1, v, t, 1, rfl, fr.ra, l1, fr.bt, lo, z13, fun w3 HG sG c3 => ?_⟩⟩
  have fr := fr.same sG
  refine ⟨w3, t.ren M1 1, rfl, c3, y13 _ _, fun w4 HI sI c4 => ?_⟩
  have fr := fr.same sI
  refine ⟨(t.mir.ren M1 1).data, (t.ren M1 1).mir.data, ((c2.same sG).same sI).dp, c4.dp, B.shaped (B.ren_lows (B.mir_lows t lo) l1 1) (by rw [B.ren_size]; omega), B.shaped (B.mir_lows _ (B.ren_lows lo l1 1)) (by rw [B.mir_size, B.ren_size]; omega), _, rfl, ?_⟩
  rw [ne_data (show t.mir.ren M1 1 = (t.ren M1 1).mir from (ren_mir t M1 1).symm)]
  refine iteF ?_
  clear c1 c2 c3 c4 sE sF sG sI
  refine ⟨(by show 4 ≤ sizeLine; decide), fun q0 nq => ⟨q0, rfl, ⟨_, SqL.of upd_same⟩, ?_⟩⟩
  have kq := same_new nq (.lst [.str "first", .str "between", .str "last", .str "level"])
  have fr := fr.same kq
  have eq : upd HI q0 (.lst [.str "first", .str "between", .str "last", .str "level"]) q0 = some (.lst (fourK.map fun k => V.str k.str)) := upd_same
  clear kq nq
  generalize upd HI q0 (.lst [.str "first", .str "between", .str "last", .str "level"]) = HJ at fr eq ⊢
  refine for_it (walk_list (K := K) (a := q0) (xs := fourK.map fun k => V.str k.str)) (fun k σ H' => H' q0 = some (.lst (fourK.map fun k => V.str k.str)) ∧ Fr C D (n + 2) a b M1 M2 v t T H' ∧ ∃ o8 o9 o10 : Option V, σ = [some (.ref D.dk), some (.ref a), some (.ref b), some v, some (.ref y), some (.int (m1 : Int)), some (.int (m2 : Int)), some (.ref y2), o8, o9, o10]) ⟨eq, fr, _, _, _, rfl⟩ (fun k σ H' _ hp => SqL.of hp.1) (fun i x σ HK H'' hk hp hy => ?_) (fun σ HK hp => ?_)
  · obtain ⟨g1, hy⟩ := hy
    subst g1
    obtain ⟨eq, fr, o8, o9, o10, rfl⟩ := hp
    obtain ⟨k, rfl⟩ : ∃ k : K4, x = V.str k.str := by
      obtain ⟨k, _, e⟩ := List.mem_map.mp (List.mem_of_getElem? hy)
      exact ⟨k, e.symm⟩
    refine ⟨rfl, _, rfl, _, rfl, v, t, k, rfl, fr.bt, by omega, fr.tb, fun HL eL TL => ?_⟩
    have fr := fr.ext eL TL
    have eq := eL _ _ eq (fun ps z => by cases z)
    have wl : (t.wk4 k).length ≤ 12 := by rw [t.wk4_len]; exact hz
    refine ⟨_, rfl, fun D2 nD => ?_⟩
    refine lc_it (walk_str (z := tx (t.wk4 k))) (fun i H' => (∀ b o, b ≠ D2 → HL b = some o → H' b = some o) ∧ H' D2 = some (.lst ((((t.wk4 k).take i).map (tgt M1)).map vc))) ⟨fun b o hb e => by rw [upd_ne hb]; exact e, upd_same⟩ (fun _ _ _ _ => trivial) (fun i y H' H'' hi hp hy => ?_) (fun HM hp => ?_)
    · obtain ⟨e1, c, hc, rfl⟩ := hy
      subst e1
      have hc : (t.wk4 k)[i]? = some c := by
        have : (t.wk4 k).toArray[i]? = some c := hc
        rwa [List.getElem?_toArray] at this
      have lc := wk4_low lo k c (List.mem_of_getElem? hc)
      have sm : Same HL H'' := fun b o e => hp.1 _ _ (ne_of_none e nD) e
      have ra := fr.ra.same sm
      obtain ⟨d1, f1, ea⟩ := ra.ins
      refine ⟨rfl, kept ?_⟩
      refine ⟨_, rfl, _, rfl, a, d1, f1, rfl, ea, a, M1, c, rfl, ra, lc, ?_⟩
      refine ⟨_, hp.2, ?_, fun b' o hb e => by rw [upd_ne hb]; exact hp.1 _ _ hb e, ?_⟩
      · rw [List.length_map, List.length_map, List.length_take]
        have : sizeLine = 16777216 := rfl
        omega
      · rw [upd_same, List.take_add_one, hc, List.map_append, List.map_append]
        rfl
    obtain ⟨s1, eD⟩ := hp
    have sm : Same HL HM := fun b o e => s1 _ _ (ne_of_none e nD) e
    have tk : (t.wk4 k).take (tx (t.wk4 k)).cps.size = t.wk4 k := List.take_of_length_le (Nat.le_refl _)
    rw [tk, map_vc] at eD
    have fr := fr.same sm
    have eq := sm _ _ eq
    refine ⟨_, D2, ((t.wk4 k).map (tgt M1)).map ch, rfl, rfl, .inl (SqL.of eD), tx_joinOk _ (by rw [List.length_map]; omega), ?_⟩
    rw [tx_join]
    refine ⟨_, rfl, a, rfl, _, rfl, InsC.of fr.ra, .inr ⟨a, M1, v, t, 1, rfl, fr.ra, l1, fr.bt, lo, z13, fun v1 HN sN b1 => ?_⟩⟩
    have fr := fr.same sN
    have eq := sN _ _ eq
    refine ⟨_, rfl, v1, t.ren M1 1, k, rfl, b1, by rw [B.ren_size]; omega, fr.tb, fun HO eO TO => ?_⟩
    have fr := fr.ext eO TO
    have eq := eO _ _ eq (fun ps z => by cases z)
    refine ⟨_, rfl, rfl, _, rfl, ?_⟩
    rw [ren_walk lo l1 k, ne_self]
    exact iteF ⟨eq, fr, _, _, _, rfl⟩
  obtain ⟨eq, fr, o8, o9, o10, rfl⟩ := hp
  exact q _ fr.dk fr.ra fr.rb fr.bt fr.tb
end
/-! ### the law -/
theorem TabAt.sameD {H H' : Hp} {p : Addr} {L : Ld} {D : Deck} {n : Nat} (t : TabAt H p L) (o : Off D p) (s : SameD D H H') (d : DeckOk H D n) : TabAt H' p L := by
  obtain ⟨vs, h1, h2⟩ := t
  exact ⟨vs, s.at o h1, h2.keep (s.keepT d)⟩
theorem rowText_low {L : Ld} (ok : LdOk L) : (rowText L).length ≤ 128 ∧ (rowText L).cps.toList.all (· < 128) = true := by
  refine ⟨by have := rowText_len L; have := ok.len; omega, ?_⟩
  show (TL.tl (rowText L)).all (· < 128) = true
  rw [rowText_tl]
  have : ∀ M : Ld, (∀ p ∈ M, lowc p.1 ∧ lowc p.2) → ∀ c ∈ TL.joinL [32] (M.map wordOf), c < 128 := by
    intro M
    induction M with
    | nil => intro _ c h; cases h
    | cons p M ih =>
      intro hM c h
      have hp := hM p List.mem_cons_self
      have hw : ∀ c ∈ wordOf p, c < 128 := fun c h => by
        have : c = p.1 ∨ c = 62 ∨ c = p.2 := by simpa [wordOf] using h
        have := hp.1.2
        have := hp.2.2
        omega
      cases M with
      | nil => exact hw c h
      | cons q M =>
        have h : c ∈ wordOf p ++ ([32] ++ TL.joinL [32] ((q :: M).map wordOf)) := h
        rcases List.mem_append.mp h with h | h
        · exact hw c h
        · rcases List.mem_append.mp h with h | h
          · rw [List.mem_singleton.mp h]; decide
          · exact ih (fun p hp => hM p (List.mem_cons_of_mem _ hp)) c h
  rw [List.all_eq_true]
  exact fun c hc => decide_eq_true (this L ok.low c hc)
theorem kept_ok {t : B} {M N : Ld} (lo : t.lows) (z : t.size ≤ 12) (o1 : LdOk M) (o2 : LdOk N) : okR (.list [.str (rowText M), .str (rowText N), t.data]) = true ∧ wtR (.list [.str (rowText M), .str (rowText N), t.data]) ≤ 1000000 ∧ (PyData.list [.str (rowText M), .str (rowText N), t.data]).depth ≤ 60 := by
  obtain ⟨a1, a2, a3⟩ := B.okR lo
  obtain ⟨b1, b2⟩ := rowText_low o1
  obtain ⟨c1, c2⟩ := rowText_low o2
  refine ⟨?_, ?_, ?_⟩
  · simp only [okR, okRs, a1, b2, decide_eq_true b1, c2, decide_eq_true c1, Bool.and_self]
  · simp only [wtR, wtRs]
    omega
  · simp only [PyData.depth, PyData.depthAll]
    omega
def TbV (P' : Addr) : List (Addr × Str) := [(P', "level_steps.<locals>.<lambda>")]
section
variable {P : Program} {w : World} {K : PySem.W.Frag} {mg : Str → Option Value} {base : Heap} {f : Addr} {fd : FuncData}
theorem run_law {s : Shared} {H : Hp} {a0 P' : Addr} {ns : List Int} {C gA gE gS gN gC gL gB gRd pm : Addr} {mc : Value} (F : Fun K "law" "law" s_law f fd) (bd : BindsTo s fd ⟨[.ref a0], []⟩ [("_law_script", .ref a0)]) (hP : H P' = some (.tbl #[])) (en : Env0 P w K mg base callerA [] s H) (hS : SqL K H a0 (ns.map V.int))
    (M : Mgs mg) (D_law_start : Df P w K mg base 1 "_law_start" ["_law_script"] (spDeck K)) (D_law_table : Df P w K mg base 2 "_law_table" ["_law_state"] spTable) (D_law_tree : Df P w K mg base 29 "_law_tree" ["_law_state", "_law_limit"] spTree)
    (D_law_text : Df P w K mg base 1 "_law_text" ["_law_rows"] spText) (gR : mg "Renaming" = some (.ref C)) (CR : ClX.CRead K C mc) (CM : ClX.CMet K C mc "read" pm gRd) (FR : FnR P w K mg base CX0 4 gRd (spReadA C)) (OC : OwnC K C gA gE gS gN gC gL gB) (FS : FnR P w K mg base CX0 1 gS (spStr C))
    (D_law_sum_right : Df P w K mg base 6 "_law_sum_right" ["_law_one", "_law_other", "_law_third"] (spSum C)) (D_law_back_right : Df P w K mg base 7 "_law_back_right" ["_law_renaming", "_law_rows"] (spBR C)) (D_law_within_right : DfG P w K mg base 6 "_law_within_right" ["_law_one", "_law_other", "_law_rows"] (spWR C)) (D_law_calls_right : Df P w K mg base 64 "_law_calls_right" ["_law_state", "_law_one", "_law_other", "_law_tree_here"] (spCR C (TbV P'))) :
    codeAny (model P w) callerA (.call (.ref f) ⟨[.ref a0], []⟩) (L2.CR CX0 [] P w H s (fun v _ => v = .bl true) fun _ _ _ => False) s := by
  refine enter_def (k := 76) (vs := [.ref a0]) (us := [.ref a0]) F sc_law ⟨rfl, by decide, by decide⟩ en bd (.cons rfl .nil) rfl fun cdv hr => ?_
  refine ⟨_, (pss_cons (ps_set (i := 1) sc_law.nd rfl (.inl rfl) (pe_call D_law_start.ok (hr.mono (by omega)) rfl D_law_start.g D_law_start.kp D_law_start.b .nil pass0 (pa_cons (pv 0) pa_nil)))
    (pss_cons (ps_for PassesOwn.never rfl (pi_range1 rfl M.range (pa_cons pe_int pa_nil)) (pg_name (i := 2) sc_law.nd rfl (.inl rfl))
      (pss_cons (ps_par3 (i := 3) (j := 4) (l := 5) (by rfl) sc_law.nd rfl rfl rfl (by decide) (by decide) (by decide) rfl rfl rfl (pa_cons (pe_call D_law_table.ok (hr.mono (by omega)) rfl D_law_table.g D_law_table.kp D_law_table.b .nil pass0 (pa_cons (pv 1) pa_nil)) (pa_cons (pe_call D_law_table.ok (hr.mono (by omega)) rfl D_law_table.g D_law_table.kp D_law_table.b .nil pass0 (pa_cons (pv 1) pa_nil)) (pa_cons (pe_call D_law_tree.ok (hr.mono (by omega)) rfl D_law_tree.g D_law_tree.kp D_law_tree.b .nil pass0 (pa_cons (pv 1) (pa_cons pe_int pa_nil))) pa_nil))) (by rfl))
    (pss_cons (ps_par (i := 6) (j := 7) (by rfl) sc_law.nd rfl rfl (by decide) rfl rfl (pa_cons (ClX.pe_cmeth (pe_glob (v := .ref C) rfl gR rfl) CR CM FR (hr.mono (by omega)) pass0 (pa_cons (pe_call D_law_text.ok (hr.mono (by omega)) rfl D_law_text.g D_law_text.kp D_law_text.b .nil pass0 (pa_cons (pv 3) pa_nil)) pa_nil)) (pa_cons (ClX.pe_cmeth (pe_glob (v := .ref C) rfl gR rfl) CR CM FR (hr.mono (by omega)) pass0 (pa_cons (pe_call D_law_text.ok (hr.mono (by omega)) rfl D_law_text.g D_law_text.kp D_law_text.b .nil pass0 (pa_cons (pv 4) pa_nil)) pa_nil)) pa_nil)) (by rfl))
    (pss_cons (ps_set (i := 8) sc_law.nd rfl (.inl rfl) (ClX.pe_cmeth (pe_glob (v := .ref C) rfl gR rfl) CR CM FR (hr.mono (by omega)) pass0 (pa_cons (pe_call D_law_text.ok (hr.mono (by omega)) rfl D_law_text.g D_law_text.kp D_law_text.b .nil pass0 (pa_cons (pe_call D_law_table.ok (hr.mono (by omega)) rfl D_law_table.g D_law_table.kp D_law_table.b .nil pass0 (pa_cons (pv 1) pa_nil)) pa_nil)) pa_nil)))
    (pss_cons (ps_set (i := 9) sc_law.nd rfl (.inl rfl) (pe_callB (call_reprR rfl hr.units) rfl M.repr (by decide +kernel) (pa_cons (pe_lst (pa_cons (pe_callTy (call_strOwn OC.st OC.stf FS (hr.mono (by omega))) rfl M.str (by decide +kernel) (pa_cons (pv 6) pa_nil)) (pa_cons (pe_callTy (call_strOwn OC.st OC.stf FS (hr.mono (by omega))) rfl M.str (by decide +kernel) (pa_cons (pv 7) pa_nil)) (pa_cons (pv 5) pa_nil)))) pa_nil)))
    (pss_cons (ps_if (PW.pt (pw_or (pt_not (pt_val (pe_call D_law_sum_right.ok (hr.mono (by omega)) rfl D_law_sum_right.g D_law_sum_right.kp D_law_sum_right.b .nil pass0 (pa_cons (pv 6) (pa_cons (pv 7) (pa_cons (pv 8) pa_nil)))))) (pw_or1 (pt_not (pt_val (pe_call D_law_back_right.ok (hr.mono (by omega)) rfl D_law_back_right.g D_law_back_right.kp D_law_back_right.b .nil pass0 (pa_cons (pv 6) (pa_cons (pv 3) pa_nil))))))))
      (pss_one (ps_ret pe_bl)) pss_nil)
    (pss_cons (ps_if (PW.pt (pw_or (pt_not (pt_val (pe_callG D_law_within_right.ok rfl (hr.mono (by omega)) rfl D_law_within_right.g D_law_within_right.kp D_law_within_right.b (pa_cons (pv 6) (pa_cons (pv 7) (pa_cons (pv 3) pa_nil)))))) (pw_or1 (pt_not (pt_val (pe_call D_law_calls_right.ok (hr.mono (by omega)) rfl D_law_calls_right.g D_law_calls_right.kp D_law_calls_right.b .nil pass0 (pa_cons (pv 1) (pa_cons (pv 6) (pa_cons (pv 7) (pa_cons (pv 5) pa_nil))))))))))
      (pss_one (ps_ret pe_bl)) pss_nil)
    (pss_one (ps_if (pt_cmpR op_ne (pe_callB (call_reprR rfl hr.units) rfl M.repr (by decide +kernel) (pa_cons (pe_lst (pa_cons (pe_callTy (call_strOwn OC.st OC.stf FS (hr.mono (by omega))) rfl M.str (by decide +kernel) (pa_cons (pv 6) pa_nil)) (pa_cons (pe_callTy (call_strOwn OC.st OC.stf FS (hr.mono (by omega))) rfl M.str (by decide +kernel) (pa_cons (pv 7) pa_nil)) (pa_cons (pv 5) pa_nil)))) pa_nil)) (pv 9) (nomark _))
      (pss_one (ps_ret pe_bl)) pss_nil)))))))))
    (pss_one (ps_ret pe_bl)))), ?_⟩
  have T0 : LamX.Tabs (TbV P') H := fun p hp => by
    rw [List.mem_singleton.mp hp]
    exact .nil hP
  refine ⟨_, rfl, a0, ns, rfl, hS, fun D H1 d1 s1 => ?_⟩
  have T1 := T0.ext s1
  refine ⟨6, rfl, by decide, by decide, ?_⟩
  refine for_range (lo := 0) (n := 6) (fun i σ H' => ∃ (o2 o3 o4 o5 o6 o7 o8 o9 : Option V) (c : Nat), σ = [some (.ref a0), some (.ref D.dk), o2, o3, o4, o5, o6, o7, o8, o9] ∧ DeckOk H' D c ∧ c ≤ 300 * i ∧ LamX.Tabs (TbV P') H') ⟨none, none, none, none, none, none, none, none, 0, rfl, d1, by omega, T1⟩ (fun i σ H2 hi hp => ?_) (fun σ H2 hp => rfl)
  obtain ⟨o2, o3, o4, o5, o6, o7, o8, o9, c0, rfl, d2, hc, T2⟩ := hp
  refine ⟨_, rfl, D, c0, rfl, d2, by omega, fun p L n3 H3 d3 hn3 s3 tab neL okL oP => ?_⟩
  have T3 := tabsD d2 s3 T2
  refine ⟨_, rfl, D, n3, rfl, d3, by omega, fun p2 L2 n4 H4 d4 hn4 s4 tb2 neL2 okL2 oP2 => ?_⟩
  have T4 := tabsD d3 s4 T3
  have tab := tab.sameD oP s4 d3
  refine ⟨_, rfl, D, n4, 12, rfl, d4, by omega, by decide, by decide, fun v t n5 H5 d5 hn5 s5 bt t1 t12 tlow => ⟨_, _, _, rfl, ?_⟩⟩
  have T5 := tabsD d4 s5 T4
  have tab := tab.sameD oP s5 d4
  have tb2 := tb2.sameD oP2 s5 d4
  have lo := low_lows tlow
  refine ⟨rfl, _, rfl, p, L, rfl, tab, okL.len, fun H6 s6 => ?_⟩
  refine ⟨L, rfl, okL, fun a H7 M1 nM1 tM1 s7 na r1 => ?_⟩
  have s57 := s6.trans s7
  refine ⟨rfl, _, rfl, p2, L2, rfl, tb2.same s57, okL2.len, fun H8 s8 => ?_⟩
  refine ⟨L2, rfl, okL2, fun b H9 M2 nM2 tM2 s9 nb r2 => ⟨_, _, rfl, ?_⟩⟩
  have s79 := s8.trans s9
  have s59 := s57.trans s79
  have r1 := r1.same s79
  have d9 := d5.same s59
  have T9 := T5.ext s59
  have bt := bt.same s59
  have tab := tab.same s59
  clear s6 s7 s8 s9 s57 s79 s59 s5 s4 s3 tb2 d2 d3 d4 d5 T2 T3 T4 T5
  refine ⟨rfl, _, rfl, D, n5, rfl, d9, by omega, fun p3 L3 n6 HA dA hnA sA tb3 neL3 okL3 oP3 => ⟨p3, L3, rfl, tb3, okL3.len, fun HB sB => ?_⟩⟩
  refine ⟨L3, rfl, okL3, fun c HC M3 nM3 tM3 sC nc r3 => ?_⟩
  have sBC := sB.trans sC
  have r1 := (r1.sameD sA d9).same sBC
  have r2 := (r2.sameD sA d9).same sBC
  have bt := (bt.keep (sA.keepT d9)).same sBC
  have tab := (tab.sameD oP sA d9).same sBC
  have TC := (tabsD d9 sA T9).ext sBC
  have dC := dA.same sBC
  clear sA sB sC sBC tb3 d9 dA T9
  obtain ⟨k1, k2, k3⟩ := kept_ok lo t12 nM1.ok nM2.ok
  obtain ⟨dx1, dd1, ea1, ed1⟩ := id r1
  refine ⟨_, rfl, a, dx1, renF dd1, rfl, ea1, a, M1, rfl, r1, nM1.ok.len, nM1.ok, fun HD sD => ⟨_, rfl, ?_⟩⟩
  have r1 := r1.same sD
  have r2 := r2.same sD
  have r3 := r3.same sD
  obtain ⟨dx2, dd2, ea2, ed2⟩ := id r2
  refine ⟨_, rfl, b, dx2, renF dd2, rfl, ea2, b, M2, rfl, r2, nM2.ok.len, nM2.ok, fun HE sE => ⟨_, rfl, _, rfl, (by show 3 ≤ sizeLine; decide), fun l nl => ?_⟩⟩
  have kl := same_new nl (.lst [.str (rowText M1), .str (rowText M2), v])
  have sl := sE.trans kl
  have r1 := r1.same sl
  have r2 := r2.same sl
  have r3 := r3.same sl
  have sDl := sD.trans sl
  have bt := bt.same sDl
  have tab := tab.same sDl
  have TF := TC.ext sDl
  have dF := dC.same sDl
  refine ⟨l, .list [.str (rowText M1), .str (rowText M2), t.data], rfl, .lst (SqL.of upd_same) (.cons (.str _) (.cons (.str _) (.cons bt.dp .nil))), k1, k2, k3, ?_⟩
  clear sD sE kl sl sDl TC dC ea1 ed1 ea2 ed2
  generalize upd HE l (.lst [.str (rowText M1), .str (rowText M2), v]) = HF at r1 r2 r3 bt tab TF dF ⊢
  refine ⟨_, rfl, _, rfl, _, rfl, a, b, c, M1, M2, M3, rfl, r1, r2, r3, nM1, nM2, nM3, fun HG sG => ⟨_, rfl, iteF ?_⟩⟩
  refine ⟨_, rfl, _, rfl, a, p, M1, L, rfl, r1.same sG, nM1, tab.same sG, okL, tM1, fun HH sH => ⟨_, rfl, iteF ?_⟩⟩
  have sGH := sG.trans sH
  refine ⟨_, rfl, _, rfl, _, rfl, a, b, p, M1, M2, L, rfl, r1.same sGH, r2.same sGH, nM1, nM2, tab.same sGH, okL, tM1, fun HI sI => ⟨_, rfl, iteF ?_⟩⟩
  have sGI := sGH.trans sI
  refine ⟨_, rfl, _, rfl, _, rfl, _, rfl, D, n6, a, b, M1, M2, v, t, rfl, dF.same sGI, by omega, r1.same sGI, nM1, r2.same sGI, nM2, bt.same sGI, lo, t12, TF.ext sGI, fun HJ dJ r1 r2 bt TJ => ⟨_, rfl, iteF ?_⟩⟩
  obtain ⟨dx1, dd1, ea1, ed1⟩ := id r1
  refine ⟨_, rfl, a, dx1, renF dd1, rfl, ea1, a, M1, rfl, r1, nM1.ok.len, nM1.ok, fun HK sK => ⟨_, rfl, ?_⟩⟩
  have r2 := r2.same sK
  obtain ⟨dx2, dd2, ea2, ed2⟩ := id r2
  refine ⟨_, rfl, b, dx2, renF dd2, rfl, ea2, b, M2, rfl, r2, nM2.ok.len, nM2.ok, fun HL sL => ⟨_, rfl, _, rfl, (by show 3 ≤ sizeLine; decide), fun l2 nl2 => ?_⟩⟩
  have kl := same_new nl2 (.lst [.str (rowText M1), .str (rowText M2), v])
  have sl := (sK.trans sL).trans kl
  refine ⟨l2, .list [.str (rowText M1), .str (rowText M2), t.data], rfl, .lst (SqL.of upd_same) (.cons (.str _) (.cons (.str _) (.cons (bt.same sl).dp .nil))), k1, k2, k3, ?_⟩
  refine ⟨_, rfl, rfl, _, rfl, ?_⟩
  rw [ne_self]
  refine iteF ?_
  exact ⟨_, _, _, _, _, _, _, _, n6 + 2, rfl, dJ.same sl, by omega, TJ.ext sl⟩
end
/-! ### the law's own call where tables of code objects may grow -/
theorem law_atT {P : Program} {w : World} {K : PySem.W.Frag} {mg mb : Str → Option Value} {fa a : Addr} {s₁ : Shared} {vs : List Value} {ns : List Int} {cs : List (Addr × Addr)}
    (inK : K.In s₁.heap) (gl : s₁.heap.Ns mainGlobals mg) (bl : s₁.heap.Ns builtinsNs mb) (isB : ∀ x : Str, x ≠ "__name__" → mb x = bootBuiltins x) (lim : s₁.heap.NoLimit) (gens : s₁.gens = #[])
    (tab : ∀ p ∈ cs, s₁.heap.get? p.2 = some { cls := .none, data := .fields #[] }) (out : ∀ p ∈ cs, K.lookup p.2 = none) (code : ∀ p ∈ cs, PySem.W.CodeHd s₁.heap p.1 p.2)
    (main : ∃ (bm : Addr) (ob : Obj), mg "__builtins__" = some (.ref bm) ∧ bm ≠ builtinsNs ∧ s₁.heap.get? bm = some ob ∧ ob.cls = .type "module" ∧ ob.dict = some builtinsNs ∧ ob.data = .plain)
    (obj : s₁.heap.get? a = some { cls := .type "list", data := .seq vs.toArray }) (hints : IntsAre vs ns) (few : ns.length ≤ sizeLine)
    (run : ∀ (base : Heap) (H : Hp), K.In base → base.Ns mainGlobals mg → (∀ p ∈ cs, LamX.TabB base mg p.1 p.2) → (∀ p ∈ cs, H p.2 = some (.tbl #[])) → Env0 P w K mg base callerA [] s₁ H → SqL K H a (ns.map V.int) →
      codeAny (model P w) callerA (.call (.ref fa) ⟨[.ref a], []⟩) (CR CX0 [] P w H s₁ (fun v _ => v = .bl true) fun _ _ _ => False) s₁) :
    codeAny (model P w) callerA (.call (.ref fa) ⟨[.ref a], []⟩) (fun r s' => r = .ok (.ret (.bool true)) ∧ OldK s₁.heap s'.heap ∧ s'.os = s₁.os ∧ AllBare s'.gens) s₁ := by
  have rel := vals_ints hints
  have lens := hints.length
  have tabAt : ∀ b, b ∈ cs.map (·.2) → ∃ p ∈ cs, p.2 = b ∧ s₁.heap.get? b = some { cls := .none, data := .fields #[] } := fun b m => by
    obtain ⟨p, hp, rfl⟩ := List.mem_map.mp m
    exact ⟨p, hp, rfl, tab p hp⟩
  have notTab : a ∉ cs.map (·.2) := fun m => by
    obtain ⟨_, _, _, e⟩ := tabAt a m
    rw [obj] at e
    cases e
  -- what is tracked: the script, where it is not the text's own, and the tables
  obtain ⟨H, atTab, atA, other⟩ : ∃ H : Hp, (∀ b, b ∈ cs.map (·.2) → H b = some (.tbl #[])) ∧
      ((H a = none ∧ ∃ o, K.lookup a = some o) ∨ (K.lookup a = none ∧ H a = some (.frz { cls := .type "list", data := .seq vs.toArray } (.lst (ns.map V.int))))) ∧ ∀ b, b ∉ cs.map (·.2) → b ≠ a → H b = none := by
    cases z : K.lookup a with
    | some o =>
      refine ⟨fun b => if b ∈ cs.map (·.2) then some (.tbl #[]) else none, fun b m => if_pos m, .inl ⟨if_neg notTab, o, rfl⟩, fun b n _ => if_neg n⟩
    | none =>
      refine ⟨fun b => if b ∈ cs.map (·.2) then some (.tbl #[]) else if b = a then some (.frz { cls := .type "list", data := .seq vs.toArray } (.lst (ns.map V.int))) else none, fun b m => if_pos m, .inr ⟨rfl, ?_⟩, fun b n m => ?_⟩
      · show (if a ∈ cs.map (·.2) then _ else _) = _
        rw [if_neg notTab, if_pos rfl]
      · show (if b ∈ cs.map (·.2) then _ else _) = _
        rw [if_neg n, if_neg m]
  have kinds : ∀ b u, H b = some u → (b ∈ cs.map (·.2) ∧ u = .tbl #[]) ∨ (b = a ∧ K.lookup a = none ∧ u = .frz { cls := .type "list", data := .seq vs.toArray } (.lst (ns.map V.int))) := fun b u e => by
    by_cases m : b ∈ cs.map (·.2)
    · rw [atTab b m] at e
      cases e
      exact .inl ⟨m, rfl⟩
    · by_cases ba : b = a
      · subst ba
        rcases atA with ⟨n, _⟩ | ⟨n, h⟩
        · rw [n] at e; cases e
        · rw [h] at e
          cases e
          exact .inr ⟨rfl, n, rfl⟩
      · rw [other b m ba] at e
        cases e
  -- an object of another form is not tracked
  have away : ∀ {b : Addr} {o : Obj}, s₁.heap.get? b = some o → o.data ≠ .fields #[] → (∀ xs n, o.data ≠ .seq xs n) → H b = none := fun {b o} e n1 n2 => by
    cases z : H b with
    | none => rfl
    | some u =>
      rcases kinds b u z with ⟨m, _⟩ | ⟨rfl, _, _⟩
      · obtain ⟨_, _, _, e2⟩ := tabAt b m
        rw [e] at e2
        cases e2
        exact absurd rfl n1
      · rw [obj] at e
        cases e
        exact absurd rfl (n2 _ _)
  have hok : HOk P w H s₁.heap := fun b u e => by
    rcases kinds b u e with ⟨m, rfl⟩ | ⟨rfl, _, rfl⟩
    · obtain ⟨_, _, _, e2⟩ := tabAt b m
      exact e2
    · exact ⟨obj, by rw [List.length_map]; exact few, vs, _, rel, obj⟩
  have hS : SqL K H a (ns.map V.int) := by
    rcases atA with ⟨_, o, z⟩ | ⟨_, h⟩
    · have same := inK a o z
      rw [obj] at same
      cases same
      exact .inr ⟨_, vs.toArray, _, z, rfl, rfl, rfl, by rw [List.size_toArray, lens]; exact few, by rw [List.toList_toArray]; exact rel⟩
    · exact .inl (.inr ⟨_, h⟩)
  have dicts : ∀ {b : Addr} {m : Str → Option Value}, s₁.heap.Ns b m → (hidT s₁.heap H).Ns b m := by
    rintro b m ⟨o, es, ep, e, isD, r⟩
    exact ⟨o, es, ep, hidT_get e (away e (by rw [isD]; exact fun z => by cases z) fun xs n => by rw [isD]; exact fun z => by cases z), isD, r⟩
  have inK' : K.In (hidT s₁.heap H) := fun b o e => hidT_get (inK b o e) (by
    cases z : H b with
    | none => rfl
    | some u =>
      rcases kinds b u z with ⟨m, _⟩ | ⟨rfl, n, _⟩
      · obtain ⟨p, hp, rfl, _⟩ := tabAt b m
        rw [out p hp] at e
        cases e
      · rw [n] at e
        cases e)
  have seats : ∀ p ∈ cs, LamX.TabB (hidT s₁.heap H) mg p.1 p.2 := fun p hp => by
    have tp := tab p hp
    refine ⟨?_, ?_, fun z => ?_⟩
    · obtain ⟨o, xs, file, tf, flags, tg, inF, text, tt, e, cls, isF, at11, rest⟩ := code p hp
      refine ⟨o, xs, file, tf, flags, tg, inF, text, tt, hidT_get e (away e (fun z => ?_) fun ys n => by rw [isF]; exact fun z => by cases z), cls, isF, at11, rest⟩
      rw [isF] at z
      cases z
      simp at at11
    · obtain ⟨bm, ob, g1, g2, g3, g4, g5, g6⟩ := main
      refine ⟨bm, ob, g1, g2, fun z => ?_, fun z => ?_, hidT_get g3 (away g3 (by rw [g6]; exact fun z => by cases z) fun ys n => by rw [g6]; exact fun z => by cases z), g4, g5, g6⟩
      · obtain ⟨o, es, ep, e, isD, _⟩ := gl
        rw [z, e] at g3
        cases g3
        rw [isD] at g6
        cases g6
      · rw [z, tp] at g3
        cases g3
        cases g6
    · obtain ⟨o, es, ep, e, isD, _⟩ := gl
      rw [z, tp] at e
      cases e
      cases isD
  obtain ⟨mc, l1, l2⟩ := lim
  have env : Env0 P w K mg (hidT s₁.heap H) callerA [] s₁ H :=
    ⟨rfl, ⟨inK', dicts gl, ⟨mb, dicts bl, isB⟩, ⟨mc, dicts l1, l2⟩⟩, fun _ _ e => of_hidT e, Nat.le_of_eq (hidT_size _ _), trivial, (fun _ hb => nomatch hb), hok, .of_eq gens⟩
  refine codeAny_mono (run _ H inK' (dicts gl) seats (fun p hp => atTab _ (List.mem_map.mpr ⟨p, hp, rfl⟩)) env hS) ?_
  intro r s' h
  match r, h with
  | .ok (.ret u), h =>
    obtain ⟨v, H', os, bare, un, hok', rv, isT⟩ := h
    subst isT
    cases rv
    have keeps : ∀ b o, b ∉ cs.map (·.2) → s₁.heap.get? b = some o → s'.heap.get? b = some o := fun b o nb e => by
      cases z : H b with
      | none => exact un.keep b o e z (fun y => nomatch y) (fun y => nomatch y)
      | some u =>
        rcases kinds b u z with ⟨m, _⟩ | ⟨rfl, _, rfl⟩
        · exact absurd m nb
        · obtain ⟨e2, _⟩ := hok' b _ (un.frzs b _ _ z)
          rw [obj] at e
          cases e
          exact e2
    have grew : ∀ b, b ∈ cs.map (·.2) → ∃ more : Array Value, s'.heap.get? b = some { cls := .none, data := .fields more } := fun b m => by
      obtain ⟨more, z⟩ := un.tbls b #[] (atTab b m)
      exact ⟨_, hok' b _ z⟩
    refine ⟨rfl, ⟨fun b o e => ?_, fun b o e => ?_⟩, os, bare⟩
    · by_cases m : b ∈ cs.map (·.2)
      · obtain ⟨more, g⟩ := grew b m
        obtain ⟨p, hp, rfl, e2⟩ := tabAt b m
        rw [e] at e2
        cases e2
        exact .inr (.inl ⟨((code p hp).tab (tab p hp)).isCodeTable, rfl, #[], more, rfl, by rw [Array.empty_append]; exact g⟩)
      · exact .inl (keeps b o m e)
    · by_cases m : b ∈ cs.map (·.2)
      · obtain ⟨more, g⟩ := grew b m
        exact ⟨_, g⟩
      · exact ⟨o, keeps b o m e⟩
/-! ### a law with tables of code objects that calls repr -/
theorem enter_defC {P : Program} {w : World} {K : PySem.W.Frag} {mg : Str → Option Value} {base : Heap} {f c : Addr} {fd : FuncData} {N ps : List Str} {k : Nat} {x qual : Str} {st : Stmt} (F : Fun K x qual st f fd) (hc : fd.code = .ref c) (S : FnScope N ps (defScope st))
    {A : Around} {outer : List Env} {s : Shared} {H : Hp} {args : Args} {us : List Value} {vs : List V} {Q : VK} {E : XK}
    (room : Room (k + 1) A) (en : Env0 P w K mg base A outer s H) (bd : BindsTo s fd args (ps.zip us)) (rel : Vals vs us) (hln : vs.length = ps.length)
    (body : Room k (A.deeper (envOfC qual (defScope st) s.heap.objs.size f (.ref c))) →
      ∃ t, PSs (cxOf CX0 P w K mg base N qual (defScope st) f (.ref c) A outer s H E).nox (defBody st) t ∧ t { nx := fun _ H' => Q .non H', rt := Q } (start N vs) H) :
    codeAny (model P w) A (.call (.ref f) args) (CR CX0 outer P w H s Q E) s := by
  obtain ⟨oc, od, kV, doc, pm, an, cdv, ct, osl, rfl, look, code⟩ := F.ex
  cases (show cdv = .ref c from hc)
  have keepB : ∀ b o, base.get? b = some o → s.heap.get? b = some o := fun b o e => (en.bs b o e).1
  have inS : K.In s.heap := en.mod.kin.keeps keepB
  have where_ : ∀ y ∈ ps.zip us, (defScope st).names.lookup y.1 = some .local ∨
      ((defScope st).names.lookup y.1 = some .cell ∧ ((cellsFrom (s.heap.objs.size + 1) (defScope st).names []).lookup y.1).isSome = true) := fun ⟨nm, u⟩ hy =>
    (S.par nm (List.of_mem_zip hy).1).elim .inl fun z => .inr ⟨z, PySem.W.cellsFrom_some _ _ _ (.inl z)⟩
  refine codeAny_call_function (prog := P) (w := w) (A := A) (s := s) room.depth (inS _ _ look) rfl S.co S.gen rfl (PySem.W.codeRec_of inS code) (R := CR CX0 outer P w H s Q E) (args := args) (bd _ _ _ _ ?_)
  refine wpAny_newFunctionEnv_cells S.kind where_ fun env isEnv s1 inC => ?_
  subst isEnv
  refine ⟨(en.mod.nolimit.keeps keepB).keeps inC.toInCall.keep, codeAny_func ?_⟩
  obtain ⟨t, ht, hq⟩ := body (room.deeper _)
  refine wpAny_mono (ht.nox.run [] s1 (start N vs) H _ (inv_start S room.hd en hln rel inC) hq) (fun fl s' done => ?_) (fun e s' z => z)
  match fl, done with
  | .ret u, done => obtain ⟨v, σ', H', I', rv, qv⟩ := done; exact ⟨v, H', I'.os, I'.bare, I'.base, I'.hok, rv, qv⟩
  | .next, done => obtain ⟨σ', H', I', qv⟩ := done; exact ⟨V.non, H', I'.os, I'.bare, I'.base, I'.hok, rfl, qv⟩
  | .brk, done => exact done.elim fun _ z => z.elim fun _ z => z.2.elim
  | .cont, done => exact done.elim fun _ z => z.elim fun _ z => z.2.elim
def RunT (l : PySem.W.OpenLaw) (w : World) (K : PySem.W.Frag) (mg : Str → Option Value) (fa : Addr) (h : Heap) : Prop :=
  ∃ cs : List (Addr × Addr), (∀ p ∈ cs, h.get? p.2 = some { cls := .none, data := .fields #[] }) ∧ (∀ p ∈ cs, K.lookup p.2 = none) ∧ (∀ p ∈ cs, PySem.W.CodeHd h p.1 p.2) ∧
    ∀ (base : Heap) (H : Hp) (s : Shared) (a : Addr) (ns : List Int), K.In base → base.Ns mainGlobals mg → (∀ p ∈ cs, LamX.TabB base mg p.1 p.2) → (∀ p ∈ cs, H p.2 = some (.tbl #[])) → Env0 l.prog w K mg base callerA [] s H → SqL K H a (ns.map V.int) → ns.length ≤ 63 →
      codeAny (model l.prog w) callerA (.call (.ref fa) ⟨[.ref a], []⟩) (CR CX0 [] l.prog w H s (fun v _ => v = .bl true) fun _ _ _ => False) s
theorem walk_atT {l : PySem.W.OpenLaw} {q : Program} {loose : List Str} {XP : (Str → Option Value) → Heap → Prop} {YP : World → Heap → Prop} {d : DefRec} {K : Params → PySem.W.Frag} (most : l.most = some 63) (noDf : d.params.defaults = [])
    (inK : ∀ (w : World) (h : Heap), YP w h → (K w.params).In h)
    (F : ∀ (w : World) (mg : Str → Option Value) (fa : Addr) (h : Heap), YP w h → (K w.params).In h → h.Ns mainGlobals mg → mg d.name = some (.ref fa) → RunT l w (K w.params) mg fa h) :
    PySem.W.WalkO q loose XP YP l.row.toRowW d [] (fun f vs => PySem.call f vs) := by
  refine Att.attach_callB most noDf fun w s₀ s₁ mg mb fa o pm cd doc a vs ns G Y ho hd hcd hmg hobj hints hlen hbits hg => ?_
  obtain ⟨cs, hT, nT, C, run⟩ := F w mg fa _ Y (inK w _ Y) G.T.g hmg
  exact law_atT (inK w _ Y) G.T.g G.T.b G.T.builtins G.T.nolimit hg hT nT C G.T.bmain hobj hints (Nat.le_trans hlen (by decide)) fun base H h1 h2 tb ht en hS => run base H s₁ a ns h1 h2 tb ht en hS hlen
theorem bd_of_call {K : PySem.W.Frag} {g : Addr} {fd : FuncData} (FD : FunD K "__call__" "Renaming.__call__" (defArgs s_Renaming___call__) (defBody s_Renaming___call__) (defScope s_Renaming___call__) [.int 1] [] g fd) : ∃ ds, Vals [.int 1] ds ∧ Binds K fd ["self", "tree", "times"] ds := FD.binds1 (ps := ["self", "tree", "times"]) 2 0 (by simp) rfl (fun T kV doc pm an cdv ct us its h1 h2 => match us, its, h1, h2 with | [_, _], [_], _, _ => ⟨_, rfl, rfl⟩)
theorem b_of_call {K : PySem.W.Frag} {g : Addr} {fd : FuncData} (FD : FunD K "__call__" "Renaming.__call__" (defArgs s_Renaming___call__) (defBody s_Renaming___call__) (defScope s_Renaming___call__) [.int 1] [] g fd) : Binds K fd ["self", "tree", "times"] [] := by
  obtain ⟨dz, vz, bz⟩ := FD.binds1 (ps := ["self", "tree", "times"]) 3 1 (by simp) rfl (fun T kV doc pm an cdv ct us its h1 h2 => match us, its, h1, h2 with | [_, _, _], [_], _, _ => ⟨_, rfl, rfl⟩)
  cases vz
  exact bz
theorem ch_self (c : Nat) : ch c ≠ ("self" : Str) := fun h => by
  have := congrArg (fun x => x.cps.size) h
  have h1 : (ch c).cps.size = 1 := rfl
  have h2 : ("self" : Str).cps.size = 4 := by decide +kernel
  rw [h1, h2] at this
  exact absurd this (by decide)
theorem keys_self {ks : List Str} {L : Ld} (e : ks = L.map fun p => ch p.1) : ∀ k ∈ ks, k ≠ ("self" : Str) := fun k hk => by
  rw [e] at hk
  obtain ⟨p, _, rfl⟩ := List.mem_map.mp hk
  exact ch_self _
theorem keys_nd {ks : List Str} {L : Ld} (e : ks = L.map fun p => ch p.1) (ok : LdOk L) : ks.Nodup := by
  rw [e, show (L.map fun p => ch p.1) = (L.map (·.1)).map ch by rw [List.map_map]; rfl]
  exact List.Pairwise.map _ (fun _ _ h e => h (ch_inj e)) ok.nd
theorem keys_few {ks : List Str} {L : Ld} (e : ks = L.map fun p => ch p.1) (ok : LdOk L) : ks.length ≤ 1000 := by
  rw [e, List.length_map]
  have := ok.len
  omega
/-! ### what the top has left -/
theorem all_mk {l : PySem.W.OpenLaw} {w : World} {K : PySem.W.Frag} {h : Heap} {mg : Str → Option Value} {fa f1 f2 f3 f4 f5 f6 f7 f8 f9 f10 f11 f12 f13 f14 f15 f16 f17 f18 f19 f20 f21 f22 f23 f24 C_NotOneToOne C_WalkError C_NoLabel C_NoTree C_Twice i_NotOneToOne : Addr} (X : K.In h) (G : h.Ns mainGlobals mg) (hfa : mg "law" = some (.ref fa))
    {od1 an1 od2 an2 od3 an3 od4 an4 od5 an5 od6 an6 od7 an7 od8 an8 od9 an9 od10 an10 od11 an11 od12 an12 od13 an13 od14 an14 od15 an15 od16 an16 od17 an17 od18 an18 od19 an19 od20 an20 od21 an21 od22 an22 od23 an23 od24 an24 : Option Addr} {sl1 sl2 sl3 sl4 sl5 sl6 sl7 sl8 sl9 sl10 sl11 sl12 sl13 sl14 sl15 sl16 sl17 sl18 sl19 sl20 sl21 sl22 sl23 sl24 : Array (Option Value)}
    {oc1 kV1 dc1 pm1 cd1 ct1 oc2 kV2 dc2 pm2 cd2 ct2 oc3 kV3 dc3 pm3 cd3 ct3 oc4 kV4 dc4 pm4 cd4 ct4 oc5 kV5 dc5 pm5 cd5 ct5 oc6 kV6 dc6 pm6 cd6 ct6 oc7 kV7 dc7 pm7 cd7 ct7 oc8 kV8 dc8 pm8 cd8 ct8 oc9 kV9 dc9 pm9 cd9 ct9 oc10 kV10 dc10 pm10 cd10 ct10 oc11 kV11 dc11 pm11 cd11 ct11 oc12 kV12 dc12 pm12 cd12 ct12 oc13 kV13 dc13 pm13 cd13 ct13 oc14 kV14 dc14 pm14 cd14 ct14 oc15 kV15 dc15 pm15 cd15 ct15 oc16 kV16 dc16 pm16 cd16 ct16 oc17 kV17 dc17 pm17 cd17 ct17 oc18 kV18 dc18 pm18 cd18 ct18 oc19 kV19 dc19 pm19 cd19 ct19 oc20 kV20 dc20 pm20 cd20 ct20 oc21 kV21 dc21 pm21 cd21 ct21 oc22 kV22 dc22 pm22 cd22 ct22 oc23 kV23 dc23 pm23 cd23 ct23 oc24 kV24 dc24 pm24 cd24 ct24 : Value}
     {CD g_init g_read g_call pm T_call : Addr} {rest : List Value} {oc_init kw_init dc_init pm_init cd_init ct_init oc_read kw_read dc_read pm_read cd_read ct_read oc_call kw_call dc_call pm_call cd_call ct_call : Value} {od_init an_init od_read an_read od_call an_call to_call : Option Addr} {sl_init sl_read sl_call ts_call : Array (Option Value)} {tn_call : Nat} {tt_call : Tok} {g_getitem : Addr} {oc_getitem kw_getitem dc_getitem pm_getitem cd_getitem ct_getitem : Value} {od_getitem an_getitem : Option Addr} {sl_getitem : Array (Option Value)} {g_letter_after : Addr} {oc_letter_after kw_letter_after dc_letter_after pm_letter_after cd_letter_after ct_letter_after : Value} {od_letter_after an_letter_after : Option Addr} {sl_letter_after : Array (Option Value)} {g_renamed : Addr} {oc_renamed kw_renamed dc_renamed pm_renamed cd_renamed ct_renamed : Value} {od_renamed an_renamed : Option Addr} {sl_renamed : Array (Option Value)} {g_str : Addr} {oc_str kw_str dc_str pm_str cd_str ct_str : Value} {od_str an_str : Option Addr} {sl_str : Array (Option Value)} {g_within : Addr} {oc_within kw_within dc_within pm_within cd_within ct_within : Value} {od_within an_within : Option Addr} {sl_within : Array (Option Value)} {g_add : Addr} {oc_add kw_add dc_add pm_add cd_add ct_add : Value} {od_add an_add : Option Addr} {sl_add : Array (Option Value)} {g_neg : Addr} {oc_neg kw_neg dc_neg pm_neg cd_neg ct_neg : Value} {od_neg an_neg : Option Addr} {sl_neg : Array (Option Value)} {g_eq : Addr} {oc_eq kw_eq dc_eq pm_eq cd_eq ct_eq : Value} {od_eq an_eq : Option Addr} {sl_eq : Array (Option Value)} {g_contains : Addr} {oc_contains kw_contains dc_contains pm_contains cd_contains ct_contains : Value} {od_contains an_contains : Option Addr} {sl_contains : Array (Option Value)} {g_len : Addr} {oc_len kw_len dc_len pm_len cd_len ct_len : Value} {od_len an_len : Option Addr} {sl_len : Array (Option Value)} {g_bool : Addr} {oc_bool kw_bool dc_bool pm_bool cd_bool ct_bool : Value} {od_bool an_bool : Option Addr} {sl_bool : Array (Option Value)} {tLe : Tok} {aK : Addr} {oK : Option Addr} {tK1 tK2 tK3 tK4 : Tok} {nK : Nat} {sK : Array (Option Value)} {cT PT : Addr} {ocT : Value} {odT : Option Addr} {vsT : Array Value} {slT : Array (Option Value)}
    {nm_NotOneToOne q_NotOneToOne : Str} {N_NotOneToOne : Addr} {bs_NotOneToOne sub_NotOneToOne : List Value} {sn_NotOneToOne : List Str} {ab_NotOneToOne : Bool} {col_NotOneToOne : Option Bool} {dd_NotOneToOne : Option Addr} {m0_NotOneToOne m1_NotOneToOne m2_NotOneToOne m3_NotOneToOne m5_NotOneToOne : Option Value}  {oc_NotOneToOne dc_NotOneToOne pm_NotOneToOne cd_NotOneToOne ct_NotOneToOne : Value} {od_NotOneToOne an_NotOneToOne : Option Addr} {sl_NotOneToOne : Array (Option Value)}
    (a_NotOneToOne : PySem.W.nsIn K mainGlobals "NotOneToOne" = some (some (.ref C_NotOneToOne)))
    (a_WalkError : PySem.W.nsIn K mainGlobals "WalkError" = some (some (.ref C_WalkError)))
    (a_NoLabel : PySem.W.nsIn K mainGlobals "NoLabel" = some (some (.ref C_NoLabel)))
    (a_NoTree : PySem.W.nsIn K mainGlobals "NoTree" = some (some (.ref C_NoTree)))
    (a_Twice : PySem.W.nsIn K mainGlobals "Twice" = some (some (.ref C_Twice)))
    (x_NotOneToOne : K.lookup C_NotOneToOne = some (excClassObj nm_NotOneToOne q_NotOneToOne C_NotOneToOne N_NotOneToOne bs_NotOneToOne (.ref C_WalkError :: [.type "ValueError", .type "Exception", .type "BaseException", .type "object"]) true sn_NotOneToOne sub_NotOneToOne ab_NotOneToOne col_NotOneToOne dd_NotOneToOne m0_NotOneToOne m1_NotOneToOne m2_NotOneToOne m3_NotOneToOne m5_NotOneToOne "ValueError.__new__"))
    (sa_NotOneToOne : PySem.W.findIn K (.ref C_NotOneToOne) "__setattr__" = some (some (.builtin "object.__setattr__")))
    (ga_NotOneToOne : PySem.W.findIn K (.ref C_NotOneToOne) "__getattribute__" = some (some (.builtin "BaseException.__getattribute__")))
    (gg_NotOneToOne : PySem.W.findIn K (.ref C_NotOneToOne) "__getattr__" = some none)
    (nb_NotOneToOne : PySem.W.findIn K (.ref C_NotOneToOne) "letter" = some none)
    (ii_NotOneToOne : PySem.W.findIn K (.ref C_NotOneToOne) "__init__" = some (some (.ref i_NotOneToOne)))
    (ti_NotOneToOne : PySem.W.typeIn K (.ref i_NotOneToOne) = some (.type "function"))
    (li_NotOneToOne : K.lookup i_NotOneToOne = some ⟨oc_NotOneToOne, od_NotOneToOne, .func (PySem.W.fnOf "__init__" "NotOneToOne.__init__" (iA_letter ⟨16, 17, 16, 21⟩ ⟨16, 23, 16, 29⟩) (iB_letter ⟨17, 8, 17, 12⟩ ⟨17, 8, 17, 19⟩ ⟨17, 22, 17, 28⟩ ⟨17, 8, 17, 28⟩) iS_letter .none .none dc_NotOneToOne pm_NotOneToOne an_NotOneToOne cd_NotOneToOne ct_NotOneToOne), sl_NotOneToOne⟩)
    (ci_NotOneToOne : PySem.W.codeIn K cd_NotOneToOne "NotOneToOne.__init__" = true)
    (kC_NotOneToOne : PySem.W.keepIn K (.ref C_NotOneToOne) = true)
    (eC_NotOneToOne : PySem.W.subIn K (.ref C_NotOneToOne) (.type "BaseException") = some true)
    (tC_NotOneToOne : PySem.W.typeIn K (.ref C_NotOneToOne) = some (.type "type"))
    (hC_NotOneToOne : PySem.W.hasDictIn K C_NotOneToOne = true)
    (h1_NotOneToOne : PySem.W.findIn K (.ref C_NotOneToOne) "__class__" = some (some (.builtin "object.__class__")))
    (h2_NotOneToOne : PySem.W.specialIn K (.builtin "object.__class__") "__get__" = some (some (.builtin "getset_descriptor.__get__")))
    (h3_NotOneToOne : PySem.W.takesIn K (.builtin "object.__class__") = some true)
    (h4_NotOneToOne : PySem.W.mroIn K C_NotOneToOne (.type "object") = some true)
    (aR : PySem.W.nsIn K mainGlobals "Renaming" = some (some (.ref CD)))
    (pg : PySem.W.plainGet K CD Str.empty = true)
    (hd : PySem.W.hasDictIn K CD = true)
    (po : PySem.W.plainOver K CD = true)
    (sa : PySem.W.findIn K (.ref CD) "__setattr__" = some (some (.builtin "object.__setattr__")))
    (mk : PySem.W.makesIn K CD = true)
    (kc : PySem.W.keepIn K (.ref CD) = true)
    (nL : PySem.W.findIn K (.ref CD) "leads" = some none)
    (rd : PySem.W.readsIn K CD (.type "type") = true)
    (gaD : PySem.W.specialIn K (.ref CD) "__getattribute__" = some (some (.builtin "type.__getattribute__")))
    (rf : PySem.W.findCls K (.ref CD) (.type "type") "read" = some (.get (.builtin "classmethod.__get__") (.ref pm) .none (.ref CD)))
    (rr : PySem.W.recIn K pm "classmethod" = some (.ref g_read :: rest))
    (ri : PySem.W.fnIn K g_read = true)
    (at_init : PySem.W.findIn K (.ref CD) "__init__" = some (some (.ref g_init)))
    (fn_init : PySem.W.isFn K (.ref g_init) = true)
    (at_call : PySem.W.findIn K (.ref CD) "__call__" = some (some (.ref g_call)))
    (fn_call : PySem.W.isFn K (.ref g_call) = true)
    (fi_call : PySem.W.fnIn K g_call = true)
    (kp_init : PySem.W.keepIn K (.ref g_init) = true)
    (lk_init : K.lookup g_init = some ⟨oc_init, od_init, .func (PySem.W.fnOf "__init__" "Renaming.__init__" (defArgs s_Renaming___init__) (defBody s_Renaming___init__) (defScope s_Renaming___init__) .none kw_init dc_init pm_init an_init cd_init ct_init), sl_init⟩)
    (cd_f_init : PySem.W.codeIn K cd_init "Renaming.__init__" = true)
    (kp_read : PySem.W.keepIn K (.ref g_read) = true)
    (lk_read : K.lookup g_read = some ⟨oc_read, od_read, .func (PySem.W.fnOf "read" "Renaming.read" (defArgs s_Renaming_read) (defBody s_Renaming_read) (defScope s_Renaming_read) .none kw_read dc_read pm_read an_read cd_read ct_read), sl_read⟩)
    (cd_f_read : PySem.W.codeIn K cd_read "Renaming.read" = true)
    (kp_call : PySem.W.keepIn K (.ref g_call) = true)
    (lk_call : K.lookup g_call = some ⟨oc_call, od_call, .func (PySem.W.fnOf "__call__" "Renaming.__call__" (defArgs s_Renaming___call__) (defBody s_Renaming___call__) (defScope s_Renaming___call__) (.ref T_call) kw_call dc_call pm_call an_call cd_call ct_call), sl_call⟩)
    (cd_f_call : PySem.W.codeIn K cd_call "Renaming.__call__" = true)
    (tl_call : K.lookup T_call = some ⟨.type "tuple", to_call, .seq #[.int 1 tt_call] tn_call, ts_call⟩)
    (at_getitem : PySem.W.findIn K (.ref CD) "__getitem__" = some (some (.ref g_getitem)))
    (fn_getitem : PySem.W.isFn K (.ref g_getitem) = true)
    (kp_getitem : PySem.W.keepIn K (.ref g_getitem) = true)
    (lk_getitem : K.lookup g_getitem = some ⟨oc_getitem, od_getitem, .func (PySem.W.fnOf "__getitem__" "Renaming.__getitem__" (defArgs s_Renaming___getitem__) (defBody s_Renaming___getitem__) (defScope s_Renaming___getitem__) .none kw_getitem dc_getitem pm_getitem an_getitem cd_getitem ct_getitem), sl_getitem⟩)
    (cd_f_getitem : PySem.W.codeIn K cd_getitem "Renaming.__getitem__" = true)
    (at_letter_after : PySem.W.findIn K (.ref CD) "letter_after" = some (some (.ref g_letter_after)))
    (fn_letter_after : PySem.W.isFn K (.ref g_letter_after) = true)
    (kp_letter_after : PySem.W.keepIn K (.ref g_letter_after) = true)
    (lk_letter_after : K.lookup g_letter_after = some ⟨oc_letter_after, od_letter_after, .func (PySem.W.fnOf "letter_after" "Renaming.letter_after" (defArgs s_Renaming_letter_after) (defBody s_Renaming_letter_after) (defScope s_Renaming_letter_after) .none kw_letter_after dc_letter_after pm_letter_after an_letter_after cd_letter_after ct_letter_after), sl_letter_after⟩)
    (cd_f_letter_after : PySem.W.codeIn K cd_letter_after "Renaming.letter_after" = true)
    (at_renamed : PySem.W.findIn K (.ref CD) "renamed" = some (some (.ref g_renamed)))
    (fn_renamed : PySem.W.isFn K (.ref g_renamed) = true)
    (kp_renamed : PySem.W.keepIn K (.ref g_renamed) = true)
    (lk_renamed : K.lookup g_renamed = some ⟨oc_renamed, od_renamed, .func (PySem.W.fnOf "renamed" "Renaming.renamed" (defArgs s_Renaming_renamed) (defBody s_Renaming_renamed) (defScope s_Renaming_renamed) .none kw_renamed dc_renamed pm_renamed an_renamed cd_renamed ct_renamed), sl_renamed⟩)
    (cd_f_renamed : PySem.W.codeIn K cd_renamed "Renaming.renamed" = true)
    (at_str : PySem.W.findIn K (.ref CD) "__str__" = some (some (.ref g_str)))
    (fn_str : PySem.W.isFn K (.ref g_str) = true)
    (kp_str : PySem.W.keepIn K (.ref g_str) = true)
    (lk_str : K.lookup g_str = some ⟨oc_str, od_str, .func (PySem.W.fnOf "__str__" "Renaming.__str__" (defArgs s_Renaming___str__) (defBody s_Renaming___str__) (defScope s_Renaming___str__) .none kw_str dc_str pm_str an_str cd_str ct_str), sl_str⟩)
    (cd_f_str : PySem.W.codeIn K cd_str "Renaming.__str__" = true)
    (at_within : PySem.W.findIn K (.ref CD) "within" = some (some (.ref g_within)))
    (fn_within : PySem.W.isFn K (.ref g_within) = true)
    (kp_within : PySem.W.keepIn K (.ref g_within) = true)
    (lk_within : K.lookup g_within = some ⟨oc_within, od_within, .func (PySem.W.fnOf "within" "Renaming.within" (defArgs s_Renaming_within) (defBody s_Renaming_within) (defScope s_Renaming_within) .none kw_within dc_within pm_within an_within cd_within ct_within), sl_within⟩)
    (cd_f_within : PySem.W.codeIn K cd_within "Renaming.within" = true)
    (at_add : PySem.W.findIn K (.ref CD) "__add__" = some (some (.ref g_add)))
    (fn_add : PySem.W.isFn K (.ref g_add) = true)
    (kp_add : PySem.W.keepIn K (.ref g_add) = true)
    (lk_add : K.lookup g_add = some ⟨oc_add, od_add, .func (PySem.W.fnOf "__add__" "Renaming.__add__" (defArgs s_Renaming___add__) (defBody s_Renaming___add__) (defScope s_Renaming___add__) .none kw_add dc_add pm_add an_add cd_add ct_add), sl_add⟩)
    (cd_f_add : PySem.W.codeIn K cd_add "Renaming.__add__" = true)
    (at_neg : PySem.W.findIn K (.ref CD) "__neg__" = some (some (.ref g_neg)))
    (fn_neg : PySem.W.isFn K (.ref g_neg) = true)
    (kp_neg : PySem.W.keepIn K (.ref g_neg) = true)
    (lk_neg : K.lookup g_neg = some ⟨oc_neg, od_neg, .func (PySem.W.fnOf "__neg__" "Renaming.__neg__" (defArgs s_Renaming___neg__) (defBody s_Renaming___neg__) (defScope s_Renaming___neg__) .none kw_neg dc_neg pm_neg an_neg cd_neg ct_neg), sl_neg⟩)
    (cd_f_neg : PySem.W.codeIn K cd_neg "Renaming.__neg__" = true)
    (at_eq : PySem.W.findIn K (.ref CD) "__eq__" = some (some (.ref g_eq)))
    (fn_eq : PySem.W.isFn K (.ref g_eq) = true)
    (kp_eq : PySem.W.keepIn K (.ref g_eq) = true)
    (lk_eq : K.lookup g_eq = some ⟨oc_eq, od_eq, .func (PySem.W.fnOf "__eq__" "Renaming.__eq__" (defArgs s_Renaming___eq__) (defBody s_Renaming___eq__) (defScope s_Renaming___eq__) .none kw_eq dc_eq pm_eq an_eq cd_eq ct_eq), sl_eq⟩)
    (cd_f_eq : PySem.W.codeIn K cd_eq "Renaming.__eq__" = true)
    (at_contains : PySem.W.findIn K (.ref CD) "__contains__" = some (some (.ref g_contains)))
    (fn_contains : PySem.W.isFn K (.ref g_contains) = true)
    (kp_contains : PySem.W.keepIn K (.ref g_contains) = true)
    (lk_contains : K.lookup g_contains = some ⟨oc_contains, od_contains, .func (PySem.W.fnOf "__contains__" "Renaming.__contains__" (defArgs s_Renaming___contains__) (defBody s_Renaming___contains__) (defScope s_Renaming___contains__) .none kw_contains dc_contains pm_contains an_contains cd_contains ct_contains), sl_contains⟩)
    (cd_f_contains : PySem.W.codeIn K cd_contains "Renaming.__contains__" = true)
    (at_len : PySem.W.findIn K (.ref CD) "__len__" = some (some (.ref g_len)))
    (fn_len : PySem.W.isFn K (.ref g_len) = true)
    (kp_len : PySem.W.keepIn K (.ref g_len) = true)
    (lk_len : K.lookup g_len = some ⟨oc_len, od_len, .func (PySem.W.fnOf "__len__" "Renaming.__len__" (defArgs s_Renaming___len__) (defBody s_Renaming___len__) (defScope s_Renaming___len__) .none kw_len dc_len pm_len an_len cd_len ct_len), sl_len⟩)
    (cd_f_len : PySem.W.codeIn K cd_len "Renaming.__len__" = true)
    (at_bool : PySem.W.findIn K (.ref CD) "__bool__" = some (some (.ref g_bool)))
    (fn_bool : PySem.W.isFn K (.ref g_bool) = true)
    (kp_bool : PySem.W.keepIn K (.ref g_bool) = true)
    (lk_bool : K.lookup g_bool = some ⟨oc_bool, od_bool, .func (PySem.W.fnOf "__bool__" "Renaming.__bool__" (defArgs s_Renaming___bool__) (defBody s_Renaming___bool__) (defScope s_Renaming___bool__) .none kw_bool dc_bool pm_bool an_bool cd_bool ct_bool), sl_bool⟩)
    (cd_f_bool : PySem.W.codeIn K cd_bool "Renaming.__bool__" = true)
    (fi_getitem : PySem.W.fnIn K g_getitem = true)
    (sfD : PySem.W.selfFirst K CD = true)
    (iha : PySem.W.findIn K (.ref CD) "__class__" = some (some (.builtin "object.__class__")))
    (ihn : PySem.W.specialIn K (.builtin "object.__class__") "__get__" = some (some (.builtin "getset_descriptor.__get__")))
    (ihtk : PySem.W.takesIn K (.builtin "object.__class__") = some true)
    (ihm : PySem.W.mroIn K CD (.type "object") = some true)
    (ime : PySem.W.kitOne K (.ref CD) (.ref CD) = some true)
    (e1 : PySem.W.exmOne K (.ref C_NotOneToOne) (.ref C_WalkError) = some true)
    (kNN : PySem.W.kitOne K (.ref C_NotOneToOne) (.ref C_NotOneToOne) = some true)
    (kM : PySem.W.kitAny K (.ref C_NotOneToOne) [.type "LookupError", .ref C_NoLabel, .ref C_NoTree, .ref C_Twice] = some false)
    (aLn : PySem.W.nsIn K mainGlobals "LETTERS" = some (some (.str "abcdefghijklmnopqrstuvwxyz" tLe)))
    (aKn : PySem.W.nsIn K mainGlobals "KINDS" = some (some (.ref aK)))
    (aKl : K.lookup aK = some ⟨.type "tuple", oK, .seq #[.str "first" tK1, .str "between" tK2, .str "last" tK3, .str "level" tK4] nK, sK⟩)
    (eCd : cd8 = .ref cT)
    (eLk : K.lookup cT = some ⟨ocT, odT, .fields vsT, slT⟩)
    (eP : vsT[11]? = some (.ref PT))
    (eHd : PySem.W.codeHdIn K cT PT = true)
    (eNo : K.lookup PT = none)
    (eNe : mainGlobals ≠ PT)
    (eTs : h.get? PT = some { cls := .none, data := .fields #[] })
    (a1 : PySem.W.nsIn K mainGlobals "is_letter" = some (some (.ref f1)))
    (l1 : K.lookup f1 = some ⟨oc1, od1, .func (PySem.W.fnOf "is_letter" "is_letter" (defArgs s_is_letter) (defBody s_is_letter) (defScope s_is_letter) .none kV1 dc1 pm1 an1 cd1 ct1), sl1⟩)
    (c1 : PySem.W.codeIn K cd1 "is_letter" = true)
    (k1 : PySem.W.keepIn K (.ref f1) = true)
    (a2 : PySem.W.nsIn K mainGlobals "is_lead" = some (some (.ref f2)))
    (l2 : K.lookup f2 = some ⟨oc2, od2, .func (PySem.W.fnOf "is_lead" "is_lead" (defArgs s_is_lead) (defBody s_is_lead) (defScope s_is_lead) .none kV2 dc2 pm2 an2 cd2 ct2), sl2⟩)
    (c2 : PySem.W.codeIn K cd2 "is_lead" = true)
    (k2 : PySem.W.keepIn K (.ref f2) = true)
    (a3 : PySem.W.nsIn K mainGlobals "size_of" = some (some (.ref f3)))
    (l3 : K.lookup f3 = some ⟨oc3, od3, .func (PySem.W.fnOf "size_of" "size_of" (defArgs s_size_of) (defBody s_size_of) (defScope s_size_of) .none kV3 dc3 pm3 an3 cd3 ct3), sl3⟩)
    (c3 : PySem.W.codeIn K cd3 "size_of" = true)
    (k3 : PySem.W.keepIn K (.ref f3) = true)
    (a4 : PySem.W.nsIn K mainGlobals "mirrored" = some (some (.ref f4)))
    (l4 : K.lookup f4 = some ⟨oc4, od4, .func (PySem.W.fnOf "mirrored" "mirrored" (defArgs s_mirrored) (defBody s_mirrored) (defScope s_mirrored) .none kV4 dc4 pm4 an4 cd4 ct4), sl4⟩)
    (c4 : PySem.W.codeIn K cd4 "mirrored" = true)
    (k4 : PySem.W.keepIn K (.ref f4) = true)
    (a5 : PySem.W.nsIn K mainGlobals "is_kind" = some (some (.ref f5)))
    (l5 : K.lookup f5 = some ⟨oc5, od5, .func (PySem.W.fnOf "is_kind" "is_kind" (defArgs s_is_kind) (defBody s_is_kind) (defScope s_is_kind) .none kV5 dc5 pm5 an5 cd5 ct5), sl5⟩)
    (c5 : PySem.W.codeIn K cd5 "is_kind" = true)
    (k5 : PySem.W.keepIn K (.ref f5) = true)
    (a6 : PySem.W.nsIn K mainGlobals "ordered_steps" = some (some (.ref f6)))
    (l6 : K.lookup f6 = some ⟨oc6, od6, .func (PySem.W.fnOf "ordered_steps" "ordered_steps" (defArgs s_ordered_steps) (defBody s_ordered_steps) (defScope s_ordered_steps) .none kV6 dc6 pm6 an6 cd6 ct6), sl6⟩)
    (c6 : PySem.W.codeIn K cd6 "ordered_steps" = true)
    (k6 : PySem.W.keepIn K (.ref f6) = true)
    (a7 : PySem.W.nsIn K mainGlobals "deep_steps" = some (some (.ref f7)))
    (l7 : K.lookup f7 = some ⟨oc7, od7, .func (PySem.W.fnOf "deep_steps" "deep_steps" (defArgs s_deep_steps) (defBody s_deep_steps) (defScope s_deep_steps) .none kV7 dc7 pm7 an7 cd7 ct7), sl7⟩)
    (c7 : PySem.W.codeIn K cd7 "deep_steps" = true)
    (k7 : PySem.W.keepIn K (.ref f7) = true)
    (a8 : PySem.W.nsIn K mainGlobals "level_steps" = some (some (.ref f8)))
    (l8 : K.lookup f8 = some ⟨oc8, od8, .func (PySem.W.fnOf "level_steps" "level_steps" (defArgs s_level_steps) (defBody s_level_steps) (defScope s_level_steps) .none kV8 dc8 pm8 an8 cd8 ct8), sl8⟩)
    (c8 : PySem.W.codeIn K cd8 "level_steps" = true)
    (k8 : PySem.W.keepIn K (.ref f8) = true)
    (a9 : PySem.W.nsIn K mainGlobals "walk" = some (some (.ref f9)))
    (l9 : K.lookup f9 = some ⟨oc9, od9, .func (PySem.W.fnOf "walk" "walk" (defArgs s_walk) (defBody s_walk) (defScope s_walk) .none kV9 dc9 pm9 an9 cd9 ct9), sl9⟩)
    (c9 : PySem.W.codeIn K cd9 "walk" = true)
    (k9 : PySem.W.keepIn K (.ref f9) = true)
    (a10 : PySem.W.nsIn K mainGlobals "_law_start" = some (some (.ref f10)))
    (l10 : K.lookup f10 = some ⟨oc10, od10, .func (PySem.W.fnOf "_law_start" "_law_start" (defArgs s__law_start) (defBody s__law_start) (defScope s__law_start) .none kV10 dc10 pm10 an10 cd10 ct10), sl10⟩)
    (c10 : PySem.W.codeIn K cd10 "_law_start" = true)
    (k10 : PySem.W.keepIn K (.ref f10) = true)
    (a11 : PySem.W.nsIn K mainGlobals "_law_draw" = some (some (.ref f11)))
    (l11 : K.lookup f11 = some ⟨oc11, od11, .func (PySem.W.fnOf "_law_draw" "_law_draw" (defArgs s__law_draw) (defBody s__law_draw) (defScope s__law_draw) .none kV11 dc11 pm11 an11 cd11 ct11), sl11⟩)
    (c11 : PySem.W.codeIn K cd11 "_law_draw" = true)
    (k11 : PySem.W.keepIn K (.ref f11) = true)
    (a12 : PySem.W.nsIn K mainGlobals "_law_letters" = some (some (.ref f12)))
    (l12 : K.lookup f12 = some ⟨oc12, od12, .func (PySem.W.fnOf "_law_letters" "_law_letters" (defArgs s__law_letters) (defBody s__law_letters) (defScope s__law_letters) .none kV12 dc12 pm12 an12 cd12 ct12), sl12⟩)
    (c12 : PySem.W.codeIn K cd12 "_law_letters" = true)
    (k12 : PySem.W.keepIn K (.ref f12) = true)
    (a13 : PySem.W.nsIn K mainGlobals "_law_grown" = some (some (.ref f13)))
    (l13 : K.lookup f13 = some ⟨oc13, od13, .func (PySem.W.fnOf "_law_grown" "_law_grown" (defArgs s__law_grown) (defBody s__law_grown) (defScope s__law_grown) .none kV13 dc13 pm13 an13 cd13 ct13), sl13⟩)
    (c13 : PySem.W.codeIn K cd13 "_law_grown" = true)
    (k13 : PySem.W.keepIn K (.ref f13) = true)
    (a14 : PySem.W.nsIn K mainGlobals "_law_tree" = some (some (.ref f14)))
    (l14 : K.lookup f14 = some ⟨oc14, od14, .func (PySem.W.fnOf "_law_tree" "_law_tree" (defArgs s__law_tree) (defBody s__law_tree) (defScope s__law_tree) .none kV14 dc14 pm14 an14 cd14 ct14), sl14⟩)
    (c14 : PySem.W.codeIn K cd14 "_law_tree" = true)
    (k14 : PySem.W.keepIn K (.ref f14) = true)
    (a15 : PySem.W.nsIn K mainGlobals "_law_table" = some (some (.ref f15)))
    (l15 : K.lookup f15 = some ⟨oc15, od15, .func (PySem.W.fnOf "_law_table" "_law_table" (defArgs s__law_table) (defBody s__law_table) (defScope s__law_table) .none kV15 dc15 pm15 an15 cd15 ct15), sl15⟩)
    (c15 : PySem.W.codeIn K cd15 "_law_table" = true)
    (k15 : PySem.W.keepIn K (.ref f15) = true)
    (a16 : PySem.W.nsIn K mainGlobals "_law_to" = some (some (.ref f16)))
    (l16 : K.lookup f16 = some ⟨oc16, od16, .func (PySem.W.fnOf "_law_to" "_law_to" (defArgs s__law_to) (defBody s__law_to) (defScope s__law_to) .none kV16 dc16 pm16 an16 cd16 ct16), sl16⟩)
    (c16 : PySem.W.codeIn K cd16 "_law_to" = true)
    (k16 : PySem.W.keepIn K (.ref f16) = true)
    (a17 : PySem.W.nsIn K mainGlobals "_law_text" = some (some (.ref f17)))
    (l17 : K.lookup f17 = some ⟨oc17, od17, .func (PySem.W.fnOf "_law_text" "_law_text" (defArgs s__law_text) (defBody s__law_text) (defScope s__law_text) .none kV17 dc17 pm17 an17 cd17 ct17), sl17⟩)
    (c17 : PySem.W.codeIn K cd17 "_law_text" = true)
    (k17 : PySem.W.keepIn K (.ref f17) = true)
    (a18 : PySem.W.nsIn K mainGlobals "_law_twice" = some (some (.ref f18)))
    (l18 : K.lookup f18 = some ⟨oc18, od18, .func (PySem.W.fnOf "_law_twice" "_law_twice" (defArgs s__law_twice) (defBody s__law_twice) (defScope s__law_twice) .none kV18 dc18 pm18 an18 cd18 ct18), sl18⟩)
    (c18 : PySem.W.codeIn K cd18 "_law_twice" = true)
    (k18 : PySem.W.keepIn K (.ref f18) = true)
    (a19 : PySem.W.nsIn K mainGlobals "_law_back" = some (some (.ref f19)))
    (l19 : K.lookup f19 = some ⟨oc19, od19, .func (PySem.W.fnOf "_law_back" "_law_back" (defArgs s__law_back) (defBody s__law_back) (defScope s__law_back) .none kV19 dc19 pm19 an19 cd19 ct19), sl19⟩)
    (c19 : PySem.W.codeIn K cd19 "_law_back" = true)
    (k19 : PySem.W.keepIn K (.ref f19) = true)
    (a20 : PySem.W.nsIn K mainGlobals "_law_back_right" = some (some (.ref f20)))
    (l20 : K.lookup f20 = some ⟨oc20, od20, .func (PySem.W.fnOf "_law_back_right" "_law_back_right" (defArgs s__law_back_right) (defBody s__law_back_right) (defScope s__law_back_right) .none kV20 dc20 pm20 an20 cd20 ct20), sl20⟩)
    (c20 : PySem.W.codeIn K cd20 "_law_back_right" = true)
    (k20 : PySem.W.keepIn K (.ref f20) = true)
    (a21 : PySem.W.nsIn K mainGlobals "_law_sum_right" = some (some (.ref f21)))
    (l21 : K.lookup f21 = some ⟨oc21, od21, .func (PySem.W.fnOf "_law_sum_right" "_law_sum_right" (defArgs s__law_sum_right) (defBody s__law_sum_right) (defScope s__law_sum_right) .none kV21 dc21 pm21 an21 cd21 ct21), sl21⟩)
    (c21 : PySem.W.codeIn K cd21 "_law_sum_right" = true)
    (k21 : PySem.W.keepIn K (.ref f21) = true)
    (a22 : PySem.W.nsIn K mainGlobals "_law_within_right" = some (some (.ref f22)))
    (l22 : K.lookup f22 = some ⟨oc22, od22, .func (PySem.W.fnOf "_law_within_right" "_law_within_right" (defArgs s__law_within_right) (defBody s__law_within_right) (defScope s__law_within_right) .none kV22 dc22 pm22 an22 cd22 ct22), sl22⟩)
    (c22 : PySem.W.codeIn K cd22 "_law_within_right" = true)
    (k22 : PySem.W.keepIn K (.ref f22) = true)
    (a23 : PySem.W.nsIn K mainGlobals "_law_calls_right" = some (some (.ref f23)))
    (l23 : K.lookup f23 = some ⟨oc23, od23, .func (PySem.W.fnOf "_law_calls_right" "_law_calls_right" (defArgs s__law_calls_right) (defBody s__law_calls_right) (defScope s__law_calls_right) .none kV23 dc23 pm23 an23 cd23 ct23), sl23⟩)
    (c23 : PySem.W.codeIn K cd23 "_law_calls_right" = true)
    (k23 : PySem.W.keepIn K (.ref f23) = true)
    (a24 : PySem.W.nsIn K mainGlobals "law" = some (some (.ref f24)))
    (l24 : K.lookup f24 = some ⟨oc24, od24, .func (PySem.W.fnOf "law" "law" (defArgs s_law) (defBody s_law) (defScope s_law) .none kV24 dc24 pm24 an24 cd24 ct24), sl24⟩)
    (c24 : PySem.W.codeIn K cd24 "law" = true)
    (k24 : PySem.W.keepIn K (.ref f24) = true)
    (z1 : PySem.W.nsIn K mainGlobals "zip" = some none)
    (z2 : PySem.W.nsIn K mainGlobals "all" = some none)
    (z3 : PySem.W.nsIn K mainGlobals "repr" = some none)
    (z4 : PySem.W.nsIn K mainGlobals "len" = some none)
    (z5 : PySem.W.nsIn K mainGlobals "isinstance" = some none)
    (z6 : PySem.W.nsIn K mainGlobals "list" = some none)
    (z7 : PySem.W.nsIn K mainGlobals "tuple" = some none)
    (z8 : PySem.W.nsIn K mainGlobals "str" = some none)
    (z9 : PySem.W.nsIn K mainGlobals "int" = some none)
    (z10 : PySem.W.nsIn K mainGlobals "bool" = some none)
    (z11 : PySem.W.nsIn K mainGlobals "dict" = some none)
    (z12 : PySem.W.nsIn K mainGlobals "range" = some none)
    (z13 : PySem.W.nsIn K mainGlobals "sorted" = some none)
    (z14 : PySem.W.nsIn K mainGlobals "abs" = some none)
    (z15 : PySem.W.nsIn K mainGlobals "min" = some none)
    (z16 : PySem.W.nsIn K mainGlobals "max" = some none)
    (z17 : PySem.W.nsIn K mainGlobals "enumerate" = some none)
    (z18 : PySem.W.nsIn K mainGlobals "LookupError" = some none)
    : RunT l w K mg fa h := by
  have e := hfa.symm.trans (PySem.W.mg_of X G a24)
  cases e
  refine ⟨[(cT, PT)], fun p hp => ?_, fun p hp => ?_, fun p hp => ?_, fun base H s a ns inB gl TB0 hT en hS hn => ?_⟩
  · rw [List.mem_singleton.mp hp]; exact eTs
  · rw [List.mem_singleton.mp hp]; exact eNo
  · rw [List.mem_singleton.mp hp]; exact PySem.W.codeHd_of_K X eHd
  have TB := TB0 (cT, PT) (List.mem_singleton.mpr rfl)
  have hP := hT (cT, PT) (List.mem_singleton.mpr rfl)
  have gC_NotOneToOne := PySem.W.mg_of X G a_NotOneToOne
  have gC_WalkError := PySem.W.mg_of X G a_WalkError
  have gC_NoLabel := PySem.W.mg_of X G a_NoLabel
  have gC_NoTree := PySem.W.mg_of X G a_NoTree
  have gC_Twice := PySem.W.mg_of X G a_Twice
  have F1 := fun_mk (st := s_is_letter) l1 c1 k1
  have g1 := PySem.W.mg_of X G a1
  have F2 := fun_mk (st := s_is_lead) l2 c2 k2
  have g2 := PySem.W.mg_of X G a2
  have F3 := fun_mk (st := s_size_of) l3 c3 k3
  have g3 := PySem.W.mg_of X G a3
  have F4 := fun_mk (st := s_mirrored) l4 c4 k4
  have g4 := PySem.W.mg_of X G a4
  have F5 := fun_mk (st := s_is_kind) l5 c5 k5
  have g5 := PySem.W.mg_of X G a5
  have F6 := fun_mk (st := s_ordered_steps) l6 c6 k6
  have g6 := PySem.W.mg_of X G a6
  have F7 := fun_mk (st := s_deep_steps) l7 c7 k7
  have g7 := PySem.W.mg_of X G a7
  have F8 := fun_mk (st := s_level_steps) l8 c8 k8
  have g8 := PySem.W.mg_of X G a8
  have F9 := fun_mk (st := s_walk) l9 c9 k9
  have g9 := PySem.W.mg_of X G a9
  have F10 := fun_mk (st := s__law_start) l10 c10 k10
  have g10 := PySem.W.mg_of X G a10
  have F11 := fun_mk (st := s__law_draw) l11 c11 k11
  have g11 := PySem.W.mg_of X G a11
  have F12 := fun_mk (st := s__law_letters) l12 c12 k12
  have g12 := PySem.W.mg_of X G a12
  have F13 := fun_mk (st := s__law_grown) l13 c13 k13
  have g13 := PySem.W.mg_of X G a13
  have F14 := fun_mk (st := s__law_tree) l14 c14 k14
  have g14 := PySem.W.mg_of X G a14
  have F15 := fun_mk (st := s__law_table) l15 c15 k15
  have g15 := PySem.W.mg_of X G a15
  have F16 := fun_mk (st := s__law_to) l16 c16 k16
  have g16 := PySem.W.mg_of X G a16
  have F17 := fun_mk (st := s__law_text) l17 c17 k17
  have g17 := PySem.W.mg_of X G a17
  have F18 := fun_mk (st := s__law_twice) l18 c18 k18
  have g18 := PySem.W.mg_of X G a18
  have F19 := fun_mk (st := s__law_back) l19 c19 k19
  have g19 := PySem.W.mg_of X G a19
  have F20 := fun_mk (st := s__law_back_right) l20 c20 k20
  have g20 := PySem.W.mg_of X G a20
  have F21 := fun_mk (st := s__law_sum_right) l21 c21 k21
  have g21 := PySem.W.mg_of X G a21
  have F22 := fun_mk (st := s__law_within_right) l22 c22 k22
  have g22 := PySem.W.mg_of X G a22
  have F23 := fun_mk (st := s__law_calls_right) l23 c23 k23
  have g23 := PySem.W.mg_of X G a23
  have F24 := fun_mk (st := s_law) l24 c24 k24
  have m_zip := PySem.W.mg_none_of X G z1
  have m_all := PySem.W.mg_none_of X G z2
  have m_repr := PySem.W.mg_none_of X G z3
  have m_len := PySem.W.mg_none_of X G z4
  have m_isinstance := PySem.W.mg_none_of X G z5
  have m_list := PySem.W.mg_none_of X G z6
  have m_tuple := PySem.W.mg_none_of X G z7
  have m_str := PySem.W.mg_none_of X G z8
  have m_int := PySem.W.mg_none_of X G z9
  have m_bool := PySem.W.mg_none_of X G z10
  have m_dict := PySem.W.mg_none_of X G z11
  have m_range := PySem.W.mg_none_of X G z12
  have m_sorted := PySem.W.mg_none_of X G z13
  have m_abs := PySem.W.mg_none_of X G z14
  have m_min := PySem.W.mg_none_of X G z15
  have m_max := PySem.W.mg_none_of X G z16
  have m_enumerate := PySem.W.mg_none_of X G z17
  have m_LookupError := PySem.W.mg_none_of X G z18
  have b1 := F1.binds (ps := ["value"]) fun _ _ _ _ _ _ us hl => match us, hl with | [_], _ => rfl
  have b2 := F2.binds (ps := ["word"]) fun _ _ _ _ _ _ us hl => match us, hl with | [_], _ => rfl
  have b3 := F3.binds (ps := ["tree"]) fun _ _ _ _ _ _ us hl => match us, hl with | [_], _ => rfl
  have b4 := F4.binds (ps := ["tree"]) fun _ _ _ _ _ _ us hl => match us, hl with | [_], _ => rfl
  have b5 := F5.binds (ps := ["value"]) fun _ _ _ _ _ _ us hl => match us, hl with | [_], _ => rfl
  have b6 := F6.binds (ps := ["tree", "kind"]) fun _ _ _ _ _ _ us hl => match us, hl with | [_, _], _ => rfl
  have b7 := F7.binds (ps := ["tree", "kind", "path"]) fun _ _ _ _ _ _ us hl => match us, hl with | [_, _, _], _ => rfl
  have b8 := F8.binds (ps := ["tree"]) fun _ _ _ _ _ _ us hl => match us, hl with | [_], _ => rfl
  have b9 := F9.binds (ps := ["tree", "kind"]) fun _ _ _ _ _ _ us hl => match us, hl with | [_, _], _ => rfl
  have b10 := F10.binds (ps := ["_law_script"]) fun _ _ _ _ _ _ us hl => match us, hl with | [_], _ => rfl
  have b11 := F11.binds (ps := ["_law_state", "_law_below"]) fun _ _ _ _ _ _ us hl => match us, hl with | [_, _], _ => rfl
  have b12 := F12.binds (ps := ["_law_state", "_law_many"]) fun _ _ _ _ _ _ us hl => match us, hl with | [_, _], _ => rfl
  have b13 := F13.binds (ps := ["_law_state", "_law_letters_here", "_law_way"]) fun _ _ _ _ _ _ us hl => match us, hl with | [_, _, _], _ => rfl
  have b14 := F14.binds (ps := ["_law_state", "_law_limit"]) fun _ _ _ _ _ _ us hl => match us, hl with | [_, _], _ => rfl
  have b15 := F15.binds (ps := ["_law_state"]) fun _ _ _ _ _ _ us hl => match us, hl with | [_], _ => rfl
  have b16 := F16.binds (ps := ["_law_rows", "_law_letter"]) fun _ _ _ _ _ _ us hl => match us, hl with | [_, _], _ => rfl
  have b17 := F17.binds (ps := ["_law_rows"]) fun _ _ _ _ _ _ us hl => match us, hl with | [_], _ => rfl
  have b18 := F18.binds (ps := ["_law_rows"]) fun _ _ _ _ _ _ us hl => match us, hl with | [_], _ => rfl
  have b19 := F19.binds (ps := ["_law_renaming"]) fun _ _ _ _ _ _ us hl => match us, hl with | [_], _ => rfl
  have b20 := F20.binds (ps := ["_law_renaming", "_law_rows"]) fun _ _ _ _ _ _ us hl => match us, hl with | [_, _], _ => rfl
  have b21 := F21.binds (ps := ["_law_one", "_law_other", "_law_third"]) fun _ _ _ _ _ _ us hl => match us, hl with | [_, _, _], _ => rfl
  have b22 := F22.binds (ps := ["_law_one", "_law_other", "_law_rows"]) fun _ _ _ _ _ _ us hl => match us, hl with | [_, _, _], _ => rfl
  have b23 := F23.binds (ps := ["_law_state", "_law_one", "_law_other", "_law_tree_here"]) fun _ _ _ _ _ _ us hl => match us, hl with | [_, _, _, _], _ => rfl
  have E_NotOneToOne : Err_letter K mg "ValueError.__new__" [.type "ValueError", .type "Exception", .type "BaseException", .type "object"] "NotOneToOne" "NotOneToOne.__init__" C_NotOneToOne i_NotOneToOne :=
    { gC := gC_NotOneToOne, nd := by decide +kernel, cls := ⟨nm_NotOneToOne, q_NotOneToOne, N_NotOneToOne, bs_NotOneToOne, _, sn_NotOneToOne, sub_NotOneToOne, ab_NotOneToOne, col_NotOneToOne, dd_NotOneToOne, m0_NotOneToOne, m1_NotOneToOne, m2_NotOneToOne, m3_NotOneToOne, m5_NotOneToOne, x_NotOneToOne, by first | rfl | decide +kernel⟩, sa := sa_NotOneToOne, ga := ga_NotOneToOne, gg := gg_NotOneToOne, noN := nb_NotOneToOne, iC := ii_NotOneToOne, tC := ti_NotOneToOne, kC := kC_NotOneToOne, exC := eC_NotOneToOne, tyC := tC_NotOneToOne, hdC := hC_NotOneToOne,
      fn := ⟨_, _, _, _, _, _, _, _, _, _, _, _, _, _, li_NotOneToOne, ci_NotOneToOne⟩ }
  have X_NotOneToOne : ExcC K C_NotOneToOne := ⟨ga_NotOneToOne, gg_NotOneToOne, eC_NotOneToOne, hC_NotOneToOne, h1_NotOneToOne, h2_NotOneToOne, h3_NotOneToOne, h4_NotOneToOne⟩
  have M : Mgs mg := ⟨m_zip, m_all, m_repr, m_len, m_isinstance, m_list, m_tuple, m_str, m_int, m_bool, m_dict, m_range, m_sorted, m_abs, m_min, m_max⟩
  have F_init := fun_mk (st := s_Renaming___init__) lk_init cd_f_init kp_init
  have F_read := fun_mk (st := s_Renaming_read) lk_read cd_f_read kp_read
  have b_read := F_read.binds (ps := ["cls", "text"]) fun _ _ _ _ _ _ us hl => match us, hl with | [_, _], _ => rfl
  have FD_call : FunD K "__call__" "Renaming.__call__" (defArgs s_Renaming___call__) (defBody s_Renaming___call__) (defScope s_Renaming___call__) [.int 1] [] g_call _ := ⟨⟨_, _, _, _, _, _, _, _, _, _, rfl, lk_call, cd_f_call, .inr ⟨by simp, T_call, _, [.int 1 tt_call], _, rfl, tl_call, rfl, .cons ⟨_, rfl⟩ .nil⟩, .inl rfl⟩, kp_call⟩
  obtain ⟨dn_call, vd_call, bd_call⟩ := bd_of_call FD_call
  have b_call := b_of_call FD_call
  have F_getitem := fun_mk (st := s_Renaming___getitem__) lk_getitem cd_f_getitem kp_getitem
  have b_getitem := F_getitem.binds (ps := ["self", "at"]) fun _ _ _ _ _ _ us hl => match us, hl with | [_, _], _ => rfl
  have F_letter_after := fun_mk (st := s_Renaming_letter_after) lk_letter_after cd_f_letter_after kp_letter_after
  have b_letter_after := F_letter_after.binds (ps := ["self", "letter", "times"]) fun _ _ _ _ _ _ us hl => match us, hl with | [_, _, _], _ => rfl
  have F_renamed := fun_mk (st := s_Renaming_renamed) lk_renamed cd_f_renamed kp_renamed
  have b_renamed := F_renamed.binds (ps := ["self", "tree", "times"]) fun _ _ _ _ _ _ us hl => match us, hl with | [_, _, _], _ => rfl
  have F_str := fun_mk (st := s_Renaming___str__) lk_str cd_f_str kp_str
  have b_str := F_str.binds (ps := ["self"]) fun _ _ _ _ _ _ us hl => match us, hl with | [_], _ => rfl
  have F_within := fun_mk (st := s_Renaming_within) lk_within cd_f_within kp_within
  have b_within := F_within.binds (ps := ["self", "other"]) fun _ _ _ _ _ _ us hl => match us, hl with | [_, _], _ => rfl
  have F_add := fun_mk (st := s_Renaming___add__) lk_add cd_f_add kp_add
  have b_add := F_add.binds (ps := ["self", "other"]) fun _ _ _ _ _ _ us hl => match us, hl with | [_, _], _ => rfl
  have F_neg := fun_mk (st := s_Renaming___neg__) lk_neg cd_f_neg kp_neg
  have b_neg := F_neg.binds (ps := ["self"]) fun _ _ _ _ _ _ us hl => match us, hl with | [_], _ => rfl
  have F_eq := fun_mk (st := s_Renaming___eq__) lk_eq cd_f_eq kp_eq
  have b_eq := F_eq.binds (ps := ["self", "other"]) fun _ _ _ _ _ _ us hl => match us, hl with | [_, _], _ => rfl
  have F_contains := fun_mk (st := s_Renaming___contains__) lk_contains cd_f_contains kp_contains
  have b_contains := F_contains.binds (ps := ["self", "x"]) fun _ _ _ _ _ _ us hl => match us, hl with | [_, _], _ => rfl
  have F_len := fun_mk (st := s_Renaming___len__) lk_len cd_f_len kp_len
  have b_len := F_len.binds (ps := ["self"]) fun _ _ _ _ _ _ us hl => match us, hl with | [_], _ => rfl
  have F_bool := fun_mk (st := s_Renaming___bool__) lk_bool cd_f_bool kp_bool
  have b_bool := F_bool.binds (ps := ["self"]) fun _ _ _ _ _ _ us hl => match us, hl with | [_], _ => rfl
  have gR := PySem.W.mg_of X G aR
  have mLET := PySem.W.mg_of X G aLn
  have TD : RenC K mg CD g_getitem := ⟨⟨pg, hd, po, sa⟩, nL, at_getitem, fi_getitem, fn_getitem⟩
  have IC : InsK K CD := ⟨iha, ihn, ihtk, ihm, ime⟩
  have MK : L2.Mk K CD g_init := ⟨mk, at_init, fn_init, kc⟩
  have OC : OwnC K CD g_add g_eq g_str g_neg g_contains g_len g_bool := ⟨sfD, at_add, fn_add, at_eq, fn_eq, at_str, fn_str, at_neg, fn_neg, at_contains, fn_contains, at_len, fn_len, at_bool, fn_bool⟩
  have EB : ErrB K mg C_NotOneToOne := ⟨⟨_, gC_WalkError, e1⟩, X_NotOneToOne, kNN, m_LookupError, ⟨_, _, _, gC_NoLabel, gC_NoTree, gC_Twice, kM⟩⟩
  have Dis_letter : Df l.prog w K mg base 1 "is_letter" ["value"] spOne := ⟨f1, _, ok_one (k := 0) F1 M, b1, k1, g1⟩
  have Dis_lead : Df l.prog w K mg base 2 "is_lead" ["word"] spLead := ⟨f2, _, ok_lead F2 M Dis_letter, b2, k2, g2⟩
  have FG : FnR l.prog w K mg base CX0 2 g_getitem (spGet CD) := (FnOk.raw (ok_get F_getitem TD Dis_letter) b_getitem .nil).imp fun vs H Q E h => by rw [List.append_nil]; exact h
  have FGF : FnR l.prog w K mg base CX0 2 g_getitem (spGetF CD) := (FnOk.raw (ok_getF F_getitem TD Dis_letter) b_getitem .nil).imp fun vs H Q E h => by rw [List.append_nil]; exact h
  have Dla : MDf l.prog w K mg base CD 4 "letter_after" ["self", "letter", "times"] (spAfter CD) := ⟨g_letter_after, _, ok_after F_letter_after M TD FG, b_letter_after, ⟨at_letter_after, fn_letter_after, kp_letter_after⟩⟩
  have Dren : MDf l.prog w K mg base CD 18 "renamed" ["self", "tree", "times"] (spRenN CD 13) := ⟨g_renamed, _, ok_ren F_renamed b_renamed ⟨at_renamed, fn_renamed, kp_renamed⟩ TD Dla 13, b_renamed, ⟨at_renamed, fn_renamed, kp_renamed⟩⟩
  have Dwi : MDf l.prog w K mg base CD 4 "within" ["self", "other"] (spWithin CD) := ⟨g_within, _, ok_within F_within M TD FGF, b_within, ⟨at_within, fn_within, kp_within⟩⟩
  have FO1 : FnR l.prog w K mg base CX0 19 g_call (spRenN CD 13) := (FnOk.raw (ok_call FD_call TD Dren) b_call .nil).imp fun vs H Q E h => by rw [List.append_nil]; exact h
  have FO : FnR l.prog w K mg base CX0 19 g_call (spCallR CD 13) := FnR_or FO1 (FnOk.raw (ok_call FD_call TD Dren) bd_call vd_call)
  have FS : FnR l.prog w K mg base CX0 1 g_str (spStr CD) := (FnOk.raw (ok_str F_str TD) b_str .nil).imp fun vs H Q E h => by rw [List.append_nil]; exact h
  have DI : ∀ ks : List Str, (∃ L : Ld, ks = L.map (fun p => ch p.1) ∧ LdOk L) → FnKwX CX0 l.prog w K mg base 2 g_init 1 ks (spInitR CD ks) := fun ks ⟨L, e, ok⟩ => ok_initR F_init M TD Dis_letter (kw_any (keys_self e) (keys_nd e ok) (keys_few e ok)) (keys_few e ok)
  have FR1 : FnR l.prog w K mg base CX0 4 g_read (spRead CD) := (FnOk.raw (ok_read F_read M m_enumerate MK Dis_lead DI) b_read .nil).imp fun vs H Q E h => by rw [List.append_nil]; exact h
  have FR0 : FnR l.prog w K mg base CX0 4 g_read (spRead0 CD) := (FnOk.raw (ok_read0 F_read M m_enumerate MK Dis_lead DI) b_read .nil).imp fun vs H Q E h => by rw [List.append_nil]; exact h
  have FR := read_all FR1 FR0
  have FA : FnR l.prog w K mg base CX0 4 g_add (spAddR CD) := (FnOk.raw (ok_addR F_add TD mLET gR MK FG DI) b_add .nil).imp fun vs H Q E h => by rw [List.append_nil]; exact h
  have FN : FnR l.prog w K mg base (L2.CX l.prog w) 5 g_neg (spNegR CD C_NotOneToOne) := (FnOk.raw (ok_negR F_neg M TD E_NotOneToOne mLET gR MK FG DI) b_neg .nil).imp fun vs H Q E h => by rw [List.append_nil]; exact h
  have FE : FnR l.prog w K mg base CX0 2 g_eq (spEqR CD) := (FnOk.raw (ok_eqR F_eq M gR TD IC) b_eq .nil).imp fun vs H Q E h => by rw [List.append_nil]; exact h
  have FC : FnR l.prog w K mg base CX0 2 g_contains (spCont CD) := (FnOk.raw (ok_cont F_contains TD Dis_letter) b_contains .nil).imp fun vs H Q E h => by rw [List.append_nil]; exact h
  have FL : FnR l.prog w K mg base CX0 1 g_len (spLenR CD) := (FnOk.raw (ok_lenR (k := 0) F_len M TD) b_len .nil).imp fun vs H Q E h => by rw [List.append_nil]; exact h
  have FB : FnR l.prog w K mg base CX0 1 g_bool (spBoolR CD) := (FnOk.raw (ok_boolR (k := 0) F_bool M TD) b_bool .nil).imp fun vs H Q E h => by rw [List.append_nil]; exact h
  have Dsize_of : Df l.prog w K mg base 13 "size_of" ["tree"] (spSz 13) := ⟨f3, _, ok_size F3 b3 g3 13, b3, k3, g3⟩
  have Dmirrored : Df l.prog w K mg base 13 "mirrored" ["tree"] (spMir 13) := ⟨f4, _, ok_mir F4 b4 g4 13, b4, k4, g4⟩
  have Kk : KindsT K mg aK := ⟨PySem.W.mg_of X G aKn, fun H => .inr ⟨_, _, _, aKl, rfl, rfl, (by show 4 ≤ sizeLine; decide), .cons ⟨_, rfl⟩ (.cons ⟨_, rfl⟩ (.cons ⟨_, rfl⟩ (.cons ⟨_, rfl⟩ .nil)))⟩⟩
  have Dis_kind : Df l.prog w K mg base 1 "is_kind" ["value"] spKind := ⟨f5, _, ok_kind (k := 0) F5 M Kk, b5, k5, g5⟩
  have Ddeep_steps : Df l.prog w K mg base 60 "deep_steps" ["tree", "kind", "path"] (spDeep 60) := ⟨f7, _, ok_deep F7 b7 g7 60, b7, k7, g7⟩
  have Dlevel_steps : Df l.prog w K mg base 61 "level_steps" ["tree"] (spLevel (TbV PT)) := ⟨f8, _, ok_level F8 eCd M TB (List.mem_singleton.mpr rfl) (fun p hp _ => by rw [List.mem_singleton.mp hp]) Ddeep_steps, b8, k8, g8⟩
  have Dordered_steps : Df l.prog w K mg base 62 "ordered_steps" ["tree", "kind"] (spSteps (TbV PT)) := ⟨f6, _, ok_steps F6 Dis_kind Ddeep_steps Dlevel_steps, b6, k6, g6⟩
  have Dwalk : Df l.prog w K mg base 63 "walk" ["tree", "kind"] (spWalk (TbV PT)) := ⟨f9, _, ok_walk F9 Dordered_steps, b9, k9, g9⟩
  have D_law_start : Df l.prog w K mg base 1 "_law_start" ["_law_script"] (spDeck K) := ⟨f10, _, ok_start (k := 0) F10 M, b10, k10, g10⟩
  have D_law_draw : Df l.prog w K mg base 1 "_law_draw" ["_law_state", "_law_below"] spDraw := ⟨f11, _, ok_draw (k := 0) F11 M, b11, k11, g11⟩
  have D_law_letters : Df l.prog w K mg base 2 "_law_letters" ["_law_state", "_law_many"] spLett := ⟨f12, _, ok_lett F12 M D_law_draw, b12, k12, g12⟩
  have D_law_grown : Df l.prog w K mg base 28 "_law_grown" ["_law_state", "_law_letters_here", "_law_way"] (spGrown 27) := ⟨f13, _, ok_grown F13 b13 g13 M D_law_draw 27, b13, k13, g13⟩
  have D_law_tree : Df l.prog w K mg base 29 "_law_tree" ["_law_state", "_law_limit"] spTree := ⟨f14, _, ok_tree F14 M D_law_draw D_law_letters D_law_grown, b14, k14, g14⟩
  have D_law_table : Df l.prog w K mg base 2 "_law_table" ["_law_state"] spTable := ⟨f15, _, ok_table F15 M D_law_draw, b15, k15, g15⟩
  have D_law_to : Df l.prog w K mg base 1 "_law_to" ["_law_rows", "_law_letter"] spTo := ⟨f16, _, ok_to F16 M, b16, k16, g16⟩
  have D_law_text : Df l.prog w K mg base 1 "_law_text" ["_law_rows"] spText := ⟨f17, _, ok_text F17 M, b17, k17, g17⟩
  have D_law_twice : Df l.prog w K mg base 2 "_law_twice" ["_law_rows"] spTwice := ⟨f18, _, ok_twice F18 M D_law_to, b18, k18, g18⟩
  have D_law_back : Df l.prog w K mg base 6 "_law_back" ["_law_renaming"] (spBack CD) := ⟨f19, _, ok_back F19 M E_NotOneToOne EB OC FN, b19, k19, g19⟩
  have D_law_back_right : Df l.prog w K mg base 7 "_law_back_right" ["_law_renaming", "_law_rows"] (spBR CD) := ⟨f20, _, ok_br F20 M TD IC gR MK FG OC DI FA FE FN FL FB D_law_back D_law_twice, b20, k20, g20⟩
  have CR : ClX.CRead K CD _ := ⟨rd, gaD⟩
  have CM : ClX.CMet K CD _ "read" pm g_read := ⟨rf, ⟨_, rr⟩, ri⟩
  have cO : StX.CallO K CD g_call := ⟨at_call, fn_call, fi_call⟩
  have D_law_sum_right : Df l.prog w K mg base 6 "_law_sum_right" ["_law_one", "_law_other", "_law_third"] (spSum CD) := ⟨f21, _, ok_sum F21 M TD gR MK FG OC DI FA FE FS CR CM FR, b21, k21, g21⟩
  have D_law_within_right : DfG l.prog w K mg base 6 "_law_within_right" ["_law_one", "_law_other", "_law_rows"] (spWR CD) := ⟨f22, _, ok_wr F22 M TD gR MK FG OC DI FE FC CR CM FR Dwi D_law_text, b22, k22, g22⟩
  have D_law_calls_right : Df l.prog w K mg base 64 "_law_calls_right" ["_law_state", "_law_one", "_law_other", "_law_tree_here"] (spCR CD (TbV PT)) := ⟨f23, _, ok_cr F23 M TD FG OC FA cO FO D_law_draw Dsize_of Dmirrored Dwalk, b23, k23, g23⟩
  exact run_law F24 (.of_eq rfl) hP en hS M D_law_start D_law_table D_law_tree D_law_text gR CR CM FR OC FS D_law_sum_right D_law_back_right D_law_within_right D_law_calls_right
end Tw
open PySem PySem.W PyProof.Rows
set_option maxRecDepth 100000 in
set_option maxHeartbeats 0 in
theorem PySem.Challenge.cw_treewalks_k19_whole_sums_of_renamings_holds : PySem.Challenge.rw_treewalks_k19_whole_sums_of_renamings.Holds := by
  w_on; o_law; k_head; (case hw => w_witness2)
  k_fill
  refine Tw.walk_atT (l := PySem.Challenge.rw_treewalks_k19_whole_sums_of_renamings) rfl rfl (fun w h Y => by first | exact PySem.W.kIn_of Y | exact PySem.W.km_in_of Y) ?F
  case F =>
    intro w mg fa h Y KX G hmg
    refine' Tw.all_mk KX G hmg ?a_NotOneToOne ?a_WalkError ?a_NoLabel ?a_NoTree ?a_Twice ?x_NotOneToOne ?sa_NotOneToOne ?ga_NotOneToOne ?gg_NotOneToOne ?nb_NotOneToOne ?ii_NotOneToOne ?ti_NotOneToOne ?li_NotOneToOne ?ci_NotOneToOne ?kC_NotOneToOne ?eC_NotOneToOne ?tC_NotOneToOne ?hC_NotOneToOne ?h1_NotOneToOne ?h2_NotOneToOne ?h3_NotOneToOne ?h4_NotOneToOne ?aR ?pg ?hd ?po ?sa ?mk ?kc ?nL ?rd ?gaD ?rf ?rr ?ri ?at_init ?fn_init ?at_call ?fn_call ?fi_call ?kp_init ?lk_init ?cd_f_init ?kp_read ?lk_read ?cd_f_read ?kp_call ?lk_call ?cd_f_call ?tl_call ?at_getitem ?fn_getitem ?kp_getitem ?lk_getitem ?cd_f_getitem ?at_letter_after ?fn_letter_after ?kp_letter_after ?lk_letter_after ?cd_f_letter_after ?at_renamed ?fn_renamed ?kp_renamed ?lk_renamed ?cd_f_renamed ?at_str ?fn_str ?kp_str ?lk_str ?cd_f_str ?at_within ?fn_within ?kp_within ?lk_within ?cd_f_within ?at_add ?fn_add ?kp_add ?lk_add ?cd_f_add ?at_neg ?fn_neg ?kp_neg ?lk_neg ?cd_f_neg ?at_eq ?fn_eq ?kp_eq ?lk_eq ?cd_f_eq ?at_contains ?fn_contains ?kp_contains ?lk_contains ?cd_f_contains ?at_len ?fn_len ?kp_len ?lk_len ?cd_f_len ?at_bool ?fn_bool ?kp_bool ?lk_bool ?cd_f_bool ?fi_getitem ?sfD ?iha ?ihn ?ihtk ?ihm ?ime ?e1 ?kNN ?kM ?aLn ?aKn ?aKl ?eCd ?eLk ?eP ?eHd ?eNo ?eNe ?eTs ?a1 ?l1 ?c1 ?k1 ?a2 ?l2 ?c2 ?k2 ?a3 ?l3 ?c3 ?k3 ?a4 ?l4 ?c4 ?k4 ?a5 ?l5 ?c5 ?k5 ?a6 ?l6 ?c6 ?k6 ?a7 ?l7 ?c7 ?k7 ?a8 ?l8 ?c8 ?k8 ?a9 ?l9 ?c9 ?k9 ?a10 ?l10 ?c10 ?k10 ?a11 ?l11 ?c11 ?k11 ?a12 ?l12 ?c12 ?k12 ?a13 ?l13 ?c13 ?k13 ?a14 ?l14 ?c14 ?k14 ?a15 ?l15 ?c15 ?k15 ?a16 ?l16 ?c16 ?k16 ?a17 ?l17 ?c17 ?k17 ?a18 ?l18 ?c18 ?k18 ?a19 ?l19 ?c19 ?k19 ?a20 ?l20 ?c20 ?k20 ?a21 ?l21 ?c21 ?k21 ?a22 ?l22 ?c22 ?k22 ?a23 ?l23 ?c23 ?k23 ?a24 ?l24 ?c24 ?k24 ?z1 ?z2 ?z3 ?z4 ?z5 ?z6 ?z7 ?z8 ?z9 ?z10 ?z11 ?z12 ?z13 ?z14 ?z15 ?z16 ?z17 ?z18
    (case a_NotOneToOne => k_is)
    (case a_WalkError => k_is)
    (case a_NoLabel => k_is)
    (case a_NoTree => k_is)
    (case a_Twice => k_is)
    (case x_NotOneToOne => k_is)
    (case sa_NotOneToOne => k_is)
    (case ga_NotOneToOne => k_is)
    (case gg_NotOneToOne => k_is)
    (case nb_NotOneToOne => k_is)
    (case ii_NotOneToOne => k_is)
    (case ti_NotOneToOne => k_is)
    (case li_NotOneToOne => k_is)
    (case ci_NotOneToOne => k_is)
    (case kC_NotOneToOne => k_is)
    (case eC_NotOneToOne => k_is)
    (case tC_NotOneToOne => k_is)
    (case hC_NotOneToOne => k_is)
    (case h1_NotOneToOne => k_is)
    (case h2_NotOneToOne => k_is)
    (case h3_NotOneToOne => k_is)
    (case h4_NotOneToOne => k_is)
    (case aR => first | k_is | rfl | decide +kernel)
    (case pg => first | k_is | rfl | decide +kernel)
    (case hd => first | k_is | rfl | decide +kernel)
    (case po => first | k_is | rfl | decide +kernel)
    (case sa => first | k_is | rfl | decide +kernel)
    (case mk => first | k_is | rfl | decide +kernel)
    (case kc => first | k_is | rfl | decide +kernel)
    (case nL => first | k_is | rfl | decide +kernel)
    (case rd => first | k_is | rfl | decide +kernel)
    (case gaD => first | k_is | rfl | decide +kernel)
    (case rf => first | k_is | rfl | decide +kernel)
    (case rr => first | k_is | rfl | decide +kernel)
    (case ri => first | k_is | rfl | decide +kernel)
    (case at_init => first | k_is | rfl | decide +kernel)
    (case fn_init => first | k_is | rfl | decide +kernel)
    (case at_call => first | k_is | rfl | decide +kernel)
    (case fn_call => first | k_is | rfl | decide +kernel)
    (case fi_call => first | k_is | rfl | decide +kernel)
    (case kp_init => first | k_is | rfl | decide +kernel)
    (case lk_init => first | k_is | rfl | decide +kernel)
    (case cd_f_init => first | k_is | rfl | decide +kernel)
    (case kp_read => first | k_is | rfl | decide +kernel)
    (case lk_read => first | k_is | rfl | decide +kernel)
    (case cd_f_read => first | k_is | rfl | decide +kernel)
    (case kp_call => first | k_is | rfl | decide +kernel)
    (case lk_call => first | k_is | rfl | decide +kernel)
    (case cd_f_call => first | k_is | rfl | decide +kernel)
    (case tl_call => first | k_is | rfl | decide +kernel)
    (case at_getitem => first | k_is | rfl | decide +kernel)
    (case fn_getitem => first | k_is | rfl | decide +kernel)
    (case kp_getitem => first | k_is | rfl | decide +kernel)
    (case lk_getitem => first | k_is | rfl | decide +kernel)
    (case cd_f_getitem => first | k_is | rfl | decide +kernel)
    (case at_letter_after => first | k_is | rfl | decide +kernel)
    (case fn_letter_after => first | k_is | rfl | decide +kernel)
    (case kp_letter_after => first | k_is | rfl | decide +kernel)
    (case lk_letter_after => first | k_is | rfl | decide +kernel)
    (case cd_f_letter_after => first | k_is | rfl | decide +kernel)
    (case at_renamed => first | k_is | rfl | decide +kernel)
    (case fn_renamed => first | k_is | rfl | decide +kernel)
    (case kp_renamed => first | k_is | rfl | decide +kernel)
    (case lk_renamed => first | k_is | rfl | decide +kernel)
    (case cd_f_renamed => first | k_is | rfl | decide +kernel)
    (case at_str => first | k_is | rfl | decide +kernel)
    (case fn_str => first | k_is | rfl | decide +kernel)
    (case kp_str => first | k_is | rfl | decide +kernel)
    (case lk_str => first | k_is | rfl | decide +kernel)
    (case cd_f_str => first | k_is | rfl | decide +kernel)
    (case at_within => first | k_is | rfl | decide +kernel)
    (case fn_within => first | k_is | rfl | decide +kernel)
    (case kp_within => first | k_is | rfl | decide +kernel)
    (case lk_within => first | k_is | rfl | decide +kernel)
    (case cd_f_within => first | k_is | rfl | decide +kernel)
    (case at_add => first | k_is | rfl | decide +kernel)
    (case fn_add => first | k_is | rfl | decide +kernel)
    (case kp_add => first | k_is | rfl | decide +kernel)
    (case lk_add => first | k_is | rfl | decide +kernel)
    (case cd_f_add => first | k_is | rfl | decide +kernel)
    (case at_neg => first | k_is | rfl | decide +kernel)
    (case fn_neg => first | k_is | rfl | decide +kernel)
    (case kp_neg => first | k_is | rfl | decide +kernel)
    (case lk_neg => first | k_is | rfl | decide +kernel)
    (case cd_f_neg => first | k_is | rfl | decide +kernel)
    (case at_eq => first | k_is | rfl | decide +kernel)
    (case fn_eq => first | k_is | rfl | decide +kernel)
    (case kp_eq => first | k_is | rfl | decide +kernel)
    (case lk_eq => first | k_is | rfl | decide +kernel)
    (case cd_f_eq => first | k_is | rfl | decide +kernel)
    (case at_contains => first | k_is | rfl | decide +kernel)
    (case fn_contains => first | k_is | rfl | decide +kernel)
    (case kp_contains => first | k_is | rfl | decide +kernel)
    (case lk_contains => first | k_is | rfl | decide +kernel)
    (case cd_f_contains => first | k_is | rfl | decide +kernel)
    (case at_len => first | k_is | rfl | decide +kernel)
    (case fn_len => first | k_is | rfl | decide +kernel)
    (case kp_len => first | k_is | rfl | decide +kernel)
    (case lk_len => first | k_is | rfl | decide +kernel)
    (case cd_f_len => first | k_is | rfl | decide +kernel)
    (case at_bool => first | k_is | rfl | decide +kernel)
    (case fn_bool => first | k_is | rfl | decide +kernel)
    (case kp_bool => first | k_is | rfl | decide +kernel)
    (case lk_bool => first | k_is | rfl | decide +kernel)
    (case cd_f_bool => first | k_is | rfl | decide +kernel)
    (case fi_getitem => first | k_is | rfl | decide +kernel)
    (case sfD => first | k_is | rfl | decide +kernel)
    (case iha => first | k_is | rfl | decide +kernel)
    (case ihn => first | k_is | rfl | decide +kernel)
    (case ihtk => first | k_is | rfl | decide +kernel)
    (case ihm => first | k_is | rfl | decide +kernel)
    (case ime => first | k_is | rfl | decide +kernel)
    (case e1 => first | k_is | rfl | decide +kernel)
    (case kNN => first | k_is | rfl | decide +kernel)
    (case kM => first | k_is | rfl | decide +kernel)
    (case aLn => first | k_is | rfl | decide +kernel)
    (case aKn => first | k_is | rfl | decide +kernel)
    (case aKl => first | k_is | rfl | decide +kernel)
    (case a1 => k_is)
    (case l1 => k_is)
    (case c1 => k_is)
    (case k1 => k_is)
    (case a2 => k_is)
    (case l2 => k_is)
    (case c2 => k_is)
    (case k2 => k_is)
    (case a3 => k_is)
    (case l3 => k_is)
    (case c3 => k_is)
    (case k3 => k_is)
    (case a4 => k_is)
    (case l4 => k_is)
    (case c4 => k_is)
    (case k4 => k_is)
    (case a5 => k_is)
    (case l5 => k_is)
    (case c5 => k_is)
    (case k5 => k_is)
    (case a6 => k_is)
    (case l6 => k_is)
    (case c6 => k_is)
    (case k6 => k_is)
    (case a7 => k_is)
    (case l7 => k_is)
    (case c7 => k_is)
    (case k7 => k_is)
    (case a8 => k_is)
    (case l8 => k_is)
    (case c8 => k_is)
    (case k8 => k_is)
    (case a9 => k_is)
    (case l9 => k_is)
    (case c9 => k_is)
    (case k9 => k_is)
    (case a10 => k_is)
    (case l10 => k_is)
    (case c10 => k_is)
    (case k10 => k_is)
    (case a11 => k_is)
    (case l11 => k_is)
    (case c11 => k_is)
    (case k11 => k_is)
    (case a12 => k_is)
    (case l12 => k_is)
    (case c12 => k_is)
    (case k12 => k_is)
    (case a13 => k_is)
    (case l13 => k_is)
    (case c13 => k_is)
    (case k13 => k_is)
    (case a14 => k_is)
    (case l14 => k_is)
    (case c14 => k_is)
    (case k14 => k_is)
    (case a15 => k_is)
    (case l15 => k_is)
    (case c15 => k_is)
    (case k15 => k_is)
    (case a16 => k_is)
    (case l16 => k_is)
    (case c16 => k_is)
    (case k16 => k_is)
    (case a17 => k_is)
    (case l17 => k_is)
    (case c17 => k_is)
    (case k17 => k_is)
    (case a18 => k_is)
    (case l18 => k_is)
    (case c18 => k_is)
    (case k18 => k_is)
    (case a19 => k_is)
    (case l19 => k_is)
    (case c19 => k_is)
    (case k19 => k_is)
    (case a20 => k_is)
    (case l20 => k_is)
    (case c20 => k_is)
    (case k20 => k_is)
    (case a21 => k_is)
    (case l21 => k_is)
    (case c21 => k_is)
    (case k21 => k_is)
    (case a22 => k_is)
    (case l22 => k_is)
    (case c22 => k_is)
    (case k22 => k_is)
    (case a23 => k_is)
    (case l23 => k_is)
    (case c23 => k_is)
    (case k23 => k_is)
    (case a24 => k_is)
    (case l24 => k_is)
    (case c24 => k_is)
    (case k24 => k_is)
    (case z1 => k_is)
    (case z2 => k_is)
    (case z3 => k_is)
    (case z4 => k_is)
    (case z5 => k_is)
    (case z6 => k_is)
    (case z7 => k_is)
    (case z8 => k_is)
    (case z9 => k_is)
    (case z10 => k_is)
    (case z11 => k_is)
    (case z12 => k_is)
    (case z13 => k_is)
    (case z14 => k_is)
    (case z15 => k_is)
    (case z16 => k_is)
    (case z17 => k_is)
    (case z18 => k_is)
    (case eCd => rfl)
    (case eLk => k_is)
    (case eP => rfl)
    (case eHd => first | kernel_rfl | decide +kernel | rfl)
    (case eNo => first | kernel_rfl | decide +kernel | rfl | k_is)
    (case eNe => first | decide +kernel | decide)
    (case eTs => exact PySem.W.km_tabs_of Y _ (by first | k_mem | simp | decide))
