import PyProof.Rows.All
import Wide.All
import OpenK.AllK
import Wide.FinOn
import HandS.ForMost
import HandS.ForExc
import HandS.Wide
import HandS.IsInst
import HandS.Flow
import HandS.FStrTup
import HandS.NoneIn
import HandS.TupAny
import HandS.Style
import HandS.TryMany
import HandS.ExcIs
import HandS.ExcField
import HandS.ExcOwn
import KE.KExcInit
import KE.KExcIs
import HandS.Walk
import HandS.Zip
import HandS.Star
import HandS.Style
import PyProof.Rows.SortShellAny
import KE.GoesZip
import KE.GoesMore
import KE.SortKeyHeap
import HandS.Lambda
import HandS.EndTab
import PyProof.CollectStr
import PyProof.P3Eq
import HandS.Sort
import HandS.Set
import HandS.SetFor
import HandS.Strs
import HandS.SetTxt0
import HandS.TupSets
import HandS.DictComp
import KE.KSortTupG
import KE.KSortTupUse
import HandS.More
import HandS.Replace
import PySem.Challenge.RW_treewalks_k11_certificates_of_pairs
set_option Elab.async false
set_option maxRecDepth 100000
set_option maxHeartbeats 4000000
namespace Tw
open PySem PySem.Spec PyProof.Rows L2
/-! ### trees over signs -/
abbrev ch (c : Nat) : Str := ⟨#[c]⟩
def tx (l : List Nat) : Str := ⟨l.toArray⟩
theorem tx_cps (l : List Nat) : (tx l).cps.toList = l := rfl
theorem tx_size (l : List Nat) : (tx l).cps.size = l.length := rfl
theorem tx_len (l : List Nat) : (tx l).length = l.length := rfl
theorem tx_one (c : Nat) : tx [c] = ch c := rfl
theorem tx_app (a b : List Nat) : tx a ++ tx b = tx (a ++ b) := by
  show (⟨(tx a).cps ++ (tx b).cps⟩ : Str) = _
  simp [tx]
theorem ch_app (c : Nat) (b : List Nat) : ch c ++ tx b = tx (c :: b) := tx_app [c] b
theorem tx_inj {a b : List Nat} (h : tx a = tx b) : a = b := congrArg (fun z : Str => z.cps.toList) h
theorem ch_inj {a b : Nat} (h : ch a = ch b) : a = b := by have := tx_inj (a := [a]) (b := [b]) h; simpa using this
theorem ch_lt (a b : Nat) : decide ((ch a).cps.toList < (ch b).cps.toList) = decide (a < b) := by
  have : ((ch a).cps.toList < (ch b).cps.toList) ↔ a < b := by
    show [a] < [b] ↔ _
    simp [List.cons_lt_cons_iff]
  simp only [this]
theorem tx_to (l : List Nat) (k : Nat) : cutS (tx l) none (some (k : Int)) = tx (l.take k) := by
  unfold cutS tx
  show (⟨_⟩ : Str) = ⟨_⟩
  rw [HT.sIx_nat, HT.sIx_none]
  show (⟨((l.drop 0).take (min k l.length - 0)).toArray⟩ : Str) = ⟨(l.take k).toArray⟩
  rw [List.drop_zero, Nat.sub_zero, Nat.min_def]
  split
  · rfl
  · rw [List.take_of_length_le (Nat.le_refl _), List.take_of_length_le (by omega)]
theorem tx_from (l : List Nat) (k : Nat) : cutS (tx l) (some (k : Int)) none = tx (l.drop k) := by
  unfold cutS tx
  show (⟨_⟩ : Str) = ⟨_⟩
  rw [HT.sIx_nat, HT.sIx_none]
  show (⟨((l.drop (min k l.length)).take (l.length - min k l.length)).toArray⟩ : Str) = ⟨(l.drop k).toArray⟩
  by_cases h : k ≤ l.length
  · rw [Nat.min_eq_left h, List.take_of_length_le (by rw [List.length_drop]; omega)]
  · rw [Nat.min_eq_right (by omega), List.drop_eq_nil_of_le (Nat.le_refl _), List.drop_eq_nil_of_le (by omega), List.take_nil]
theorem joinL_ones : ∀ l : List Nat, TL.joinL [] (l.map fun c => [c]) = l
  | [] => rfl
  | [c] => rfl
  | c :: d :: r => by
    have := joinL_ones (d :: r)
    show [c] ++ ([] ++ TL.joinL [] ((d :: r).map fun c => [c])) = _
    rw [this]; rfl
theorem tx_join (l : List Nat) : Txt.join (Str.ofString "") (l.map ch) = tx l := by
  rw [TL.join_eq]
  have e := TL.tl_join (Str.ofString "") (l.map ch)
  refine TL.ext_tl (e.trans ?_)
  rw [List.map_map]
  exact joinL_ones l
theorem tx_joinOk (l : List Nat) (h : l.length ≤ 1000) : ((l.map ch).map (·.length)).sum + (l.map ch).length * (Str.ofString "").length ≤ 16777216 := by
  have e0 : (Str.ofString "").length = 0 := by decide +kernel
  have e1 : ∀ l : List Nat, ((l.map ch).map (·.length)).sum = l.length := by
    intro l
    induction l with
    | nil => rfl
    | cons c r ih =>
      rw [List.map_cons, List.map_cons, List.sum_cons, ih, List.length_cons]
      show 1 + r.length = _
      omega
  rw [e0, e1]
  omega
inductive B where
  | nil
  | node (l : B) (x : Nat) (r : B)
  deriving DecidableEq
def B.size : B → Nat
  | .nil => 0
  | .node l _ r => l.size + 1 + r.size
def B.deep : B → Nat
  | .nil => 0
  | .node l _ r => 1 + max l.deep r.deep
def B.data : B → PyData
  | .nil => .none
  | .node l x r => .tuple [l.data, .str (ch x), r.data]
def B.pre : B → List Nat
  | .nil => []
  | .node l x r => x :: (l.pre ++ r.pre)
def B.mid : B → List Nat
  | .nil => []
  | .node l x r => l.mid ++ x :: r.mid
theorem B.deep_le : ∀ t : B, t.deep ≤ t.size
  | .nil => Nat.le_refl _
  | .node l _ r => by
    have h1 := l.deep_le
    have h2 := r.deep_le
    show 1 + max l.deep r.deep ≤ l.size + 1 + r.size
    omega
theorem B.pre_len : ∀ t : B, t.pre.length = t.size
  | .nil => rfl
  | .node l x r => by
    have h1 := l.pre_len
    have h2 := r.pre_len
    show (x :: (l.pre ++ r.pre)).length = l.size + 1 + r.size
    rw [List.length_cons, List.length_append]
    omega
theorem B.mid_len : ∀ t : B, t.mid.length = t.size
  | .nil => rfl
  | .node l x r => by
    have h1 := l.mid_len
    have h2 := r.mid_len
    show (l.mid ++ x :: r.mid).length = l.size + 1 + r.size
    rw [List.length_append, List.length_cons]
    omega
theorem B.mid_mem (t : B) (c : Nat) : c ∈ t.mid ↔ c ∈ t.pre := by
  induction t with
  | nil => exact Iff.rfl
  | node l x r h1 h2 =>
    show c ∈ l.mid ++ x :: r.mid ↔ c ∈ x :: (l.pre ++ r.pre)
    rw [List.mem_append, List.mem_cons, List.mem_cons, List.mem_append, h1, h2]
    constructor
    · rintro (h | h | h)
      · exact .inr (.inl h)
      · exact .inl h
      · exact .inr (.inr h)
    · rintro (h | h | h)
      · exact .inr (.inl h)
      · exact .inl h
      · exact .inr (.inr h)
/-- the tree t lies at v -/
inductive BAt (H : Hp) : V → B → Prop
  | nil : BAt H .non .nil
  | node {a : Addr} {l r : V} {x : Nat} {tl tr : B} : H a = some (.tup [l, .str (ch x), r]) → BAt H l tl → BAt H r tr → BAt H (.ref a) (.node tl x tr)
/-- tuples stand still -/
def KeepT (H H' : Hp) : Prop := ∀ b xs, H b = some (.tup xs) → H' b = some (.tup xs)
theorem KeepT.refl (H : Hp) : KeepT H H := fun _ _ h => h
theorem KeepT.trans {H H1 H2 : Hp} (a : KeepT H H1) (b : KeepT H1 H2) : KeepT H H2 := fun c xs h => b c xs (a c xs h)
theorem Same.keepT {H H' : Hp} (h : Same H H') : KeepT H H' := fun b xs e => h b _ e
theorem BAt.keep {H H' : Hp} (k : KeepT H H') {v : V} {t : B} (h : BAt H v t) : BAt H' v t := by
  induction h with
  | nil => exact .nil
  | node e _ _ h1 h2 => exact .node (k _ _ e) h1 h2
theorem BAt.same {H H' : Hp} (k : Same H H') {v : V} {t : B} (h : BAt H v t) : BAt H' v t := h.keep (Tw.Same.keepT k)
theorem BAt.dp {K : PySem.W.Frag} {H : Hp} {v : V} {t : B} (h : BAt H v t) : Dp K H v t.data := by
  induction h with
  | nil => exact .non
  | node e _ _ h1 h2 => exact .tup (SqT.of e) (.cons h1 (.cons (.str _) (.cons h2 .nil)))
theorem BAt.inv {H : Hp} {v : V} {t : B} (h : BAt H v t) : (v = .non ∧ t = .nil) ∨ ∃ a l r x tl tr, v = .ref a ∧ t = .node tl x tr ∧ H a = some (.tup [l, .str (ch x), r]) ∧ BAt H l tl ∧ BAt H r tr := by
  cases h with
  | nil => exact .inl ⟨rfl, rfl⟩
  | node e h1 h2 => exact .inr ⟨_, _, _, _, _, _, rfl, rfl, e, h1, h2⟩
theorem same_new {H : Hp} {p : Addr} (h : H p = none) (o : HO) : Same H (upd H p o) := fun b u q => by rw [upd_ne (ne_of_none q h)]; exact q
theorem small {n : Nat} (h : n ≤ 1000) : n ≤ sizeLine := Nat.le_of_lt (small1000 h)
theorem at_map {α : Type} {f : α → V} {ns : List α} {i : Int} {v : α} (h0 : 0 ≤ i) (h : ns[i.toNat]? = some v) : atI (ns.map f) i = some (f v) := by
  have e : i = ((i.toNat : Nat) : Int) := by omega
  rw [e]
  exact atI_nat (by rw [List.getElem?_map, h]; rfl)
theorem ixN_nat {n : Nat} {i : Int} (h0 : 0 ≤ i) (h : i < n) : ixN n i = some i.toNat := by
  unfold ixN
  first
    | rw [if_pos h0, if_pos h]
    | (rw [if_pos h0]; rw [if_pos (by omega)])
    | simp [h0, h]
theorem cut_to (xs : List V) (k : Nat) : cutV xs none (some (k : Int)) = xs.take k := by
  unfold cutV
  rw [HT.sIx_nat, HT.sIx_none, List.drop_zero, Nat.sub_zero]
  rw [Nat.min_def]
  split
  · rfl
  · rw [List.take_of_length_le (Nat.le_refl _), List.take_of_length_le (by omega)]
theorem cut_from (xs : List V) (k : Nat) : cutV xs (some (k : Int)) none = xs.drop k := by
  unfold cutV
  rw [HT.sIx_nat, HT.sIx_none]
  by_cases h : k ≤ xs.length
  · rw [Nat.min_eq_left h, List.take_of_length_le (by rw [List.length_drop]; omega)]
  · rw [Nat.min_eq_right (by omega), List.drop_eq_nil_of_le (Nat.le_refl _), List.drop_eq_nil_of_le (by omega), List.take_nil]
theorem kept {σ : L2.St} {H : Hp} {A B : Hp → Prop} (h : A H) : tYes σ H (fun b H3 => if b = true then A H3 else B H3) := by
  show if true = true then A H else B H
  exact iteT h
theorem erase_map {α β : Type} (f : α → β) : ∀ (l : List α) (i : Nat), (l.map f).eraseIdx i = (l.eraseIdx i).map f
  | [], _ => rfl
  | _ :: _, 0 => rfl
  | x :: l, i + 1 => congrArg (f x :: ·) (erase_map f l i)
/-- a def that stands at a name, with its promise -/
structure Df (P : Program) (w : World) (K : PySem.W.Frag) (mg : Str → Option Value) (base : Heap) (k : Nat) (nm : Str) (ps : List Str) (sp : Sp) where
  f : Addr
  fd : FuncData
  ok : FnOk P w K mg base CX0 k f fd ps sp
  b : Binds K fd ps []
  kp : PySem.W.keepIn K (.ref f) = true
  g : mg nm = some (.ref f)
structure Mgs (mg : Str → Option Value) : Prop where
  zip : mg "zip" = none
  all : mg "all" = none
  repr : mg "repr" = none
  len : mg "len" = none
  isinstance : mg "isinstance" = none
  list : mg "list" = none
  tuple : mg "tuple" = none
  str : mg "str" = none
  int : mg "int" = none
  bool : mg "bool" = none
  dict : mg "dict" = none
  range : mg "range" = none
  enumerate : mg "enumerate" = none
  sum : mg "sum" = none
  sorted : mg "sorted" = none
  abs : mg "abs" = none
  min : mg "min" = none
  max : mg "max" = none
theorem vals_signs : ∀ (l : List Nat) (vs : List Value), vs.length = l.length → (∀ (j : Nat) (v : Value), vs[j]? = some v → ∃ c u, l[j]? = some c ∧ v = .str ⟨#[c]⟩ u) → Vals (l.map fun c => V.str ⟨#[c]⟩) vs
  | [], [], _, _ => .nil
  | [], _ :: _, h, _ => by simp at h
  | _ :: _, [], h, _ => by simp at h
  | c :: l, v :: vs, h, k => by
    obtain ⟨c', u, e, rfl⟩ := k 0 v rfl
    cases e
    exact .cons ⟨u, rfl⟩ (vals_signs l vs (by simpa using h) fun j v e => k (j + 1) v e)
theorem call_signs {X : Cx} (hc : X.calm = true) : CallR X (.type "list") (fun xs H Q => ∃ x : Str, xs = [.str x] ∧ x.cps.size ≤ 1000 ∧ ∀ p, H p = none → Q (.ref p) (upd H p (.lst (x.cps.toList.map fun c => V.str ⟨#[c]⟩)))) := by
  intro pins s σ H xs us Q I r h
  obtain ⟨x, rfl, hz, q⟩ := h
  obtain ⟨u, rfl, t, rfl⟩ := vals1 r
  have hz' : x.cps.size ≤ sizeLine := small hz
  refine call_list_str (I.ok.hd hc) x t (fun h' tk acc' c' hk hS hacc => ?_) hz'
  have hv : Vals (x.cps.toList.map fun c => V.str ⟨#[c]⟩) acc'.toList := vals_signs _ _ (by rw [Array.length_toList, Array.length_toList]; exact hacc.1) fun j v e => by
    obtain ⟨c, u, h1, h2⟩ := hacc.2 j v (by rw [← Array.getElem?_toList]; exact e)
    exact ⟨c, u, by rw [Array.getElem?_toList]; exact h1, h2⟩
  exact ⟨.ref s.heap.objs.size, _, I.laid (t' := tk) hk (Nat.le_refl _) (show ObjOk X.prog X.w _ h' _ (.lst _) from ⟨by rw [List.length_map, Array.length_toList]; exact hz', acc'.toList, c', hv, by rw [Array.toArray_toList]; exact hS⟩), rfl, q _ (I.hok.fresh (Nat.le_refl _))⟩
/-- for c in text -/
theorem for_text {x : Str} {g : TG} {tb : TS} {D : Ends} {σ : L2.St} {H : Hp} (Pv : Nat → L2.St → Hp → Prop) (h0 : Pv 0 σ H)
    (hs : ∀ i c σ H, x.cps.toList[i]? = some c → Pv i σ H → g (.str ⟨#[c]⟩) σ H fun σ2 H2 => tb { D with nx := Pv (i + 1), ct := Pv (i + 1), bk := D.nx } σ2 H2)
    (hd : ∀ σ H, Pv x.cps.toList.length σ H → D.nx σ H) :
    ∃ W : Nat → Nat → L2.St → Hp → Prop, (∃ m, W 0 m σ H) ∧ ∀ i m σ H, W i m σ H →
      ((Its x).stop i H ∧ D.nx σ H) ∨ ((Its x).go i H ∧ ∃ N : L2.St → Hp → Prop, (∀ σ' H', N σ' H' → ∃ m', m' < m ∧ W (i + 1) m' σ' H') ∧ ∀ v H', (Its x).yld i H v H' → g v σ H' fun σ2 H2 => tb { D with nx := N, ct := N, bk := D.nx } σ2 H2) := by
  refine for_it walk_str Pv h0 (fun _ _ _ _ _ => trivial) (fun i v σ H H' hi hp hy => ?_) (fun σ H hp => hd σ H (by rw [Array.length_toList]; exact hp))
  obtain ⟨rfl, c, hc, rfl⟩ := hy
  exact hs i c σ H' (by rw [Array.getElem?_toList]; exact hc) hp
theorem lc_text {x : Str} {g : TG} {tt : TT} {te : TE} {vs : List Nat} {σ : L2.St} {H1 : Hp} {D : Addr} {Qd : Hp → Prop} (Pv : Nat → Hp → Prop) (h0 : Pv 0 (upd H1 D (.lst [])))
    (hs : ∀ i c H, x.cps.toList[i]? = some c → Pv i H → g (.str ⟨#[c]⟩) (wipe σ vs) H fun σ2 H2 => wipe σ2 vs = wipe σ vs ∧ tt σ2 H2 fun b H3 =>
      if b = true then te σ2 H3 fun y H4 => ∃ acc, H4 D = some (.lst acc) ∧ acc.length < sizeLine ∧ Pv (i + 1) (upd H4 D (.lst (acc ++ [y]))) else Pv (i + 1) H3) (hd : ∀ H, Pv x.cps.toList.length H → Qd H) :
    ∃ W : Nat → Nat → Hp → Prop, (∃ m, W 0 m (upd H1 D (.lst []))) ∧ ∀ i m H, W i m H →
      ((Its x).stop i H ∧ Qd H) ∨ ((Its x).go i H ∧ ∃ Nx : Hp → Prop, (∀ H', Nx H' → ∃ m', m' < m ∧ W (i + 1) m' H') ∧ ∀ v H', (Its x).yld i H v H' → g v (wipe σ vs) H' fun σ2 H2 => wipe σ2 vs = wipe σ vs ∧ tt σ2 H2 fun b H3 =>
        if b = true then te σ2 H3 fun y H4 => ∃ acc, H4 D = some (.lst acc) ∧ acc.length < sizeLine ∧ Nx (upd H4 D (.lst (acc ++ [y]))) else Nx H3) := by
  refine lc_it walk_str Pv h0 (fun _ _ _ _ => trivial) (fun i v H H' hi hp hy => ?_) (fun H hp => hd H (by rw [Array.length_toList]; exact hp))
  obtain ⟨rfl, c, hc, rfl⟩ := hy
  exact hs i c H' (by rw [Array.getElem?_toList]; exact hc) hp
/-! ### the text by places -/
def top (i : Nat) : Stmt := PySem.Challenge.pw_treewalks_k11_certificates_of_pairs.main.body.getD i (.Pass ⟨0, 0, 0, 0⟩)
abbrev s_is_letter : Stmt := top 4
abbrev s_is_ascending : Stmt := top 5
abbrev s_is_tagged : Stmt := top 6
abbrev s_is_node : Stmt := top 8
abbrev s_is_tree : Stmt := top 9
abbrev s_is_kind : Stmt := top 12
abbrev s_ordered_steps : Stmt := top 13
abbrev s_deep_steps : Stmt := top 14
abbrev s_level_steps : Stmt := top 15
abbrev s_walk : Stmt := top 16
abbrev s_walks : Stmt := top 17
abbrev s_pair_of : Stmt := top 19
abbrev s_in_order : Stmt := top 20
abbrev s_is_below : Stmt := top 21
abbrev s_children_of : Stmt := top 22
abbrev s_families_of : Stmt := top 23
abbrev s_letters_of : Stmt := top 24
abbrev s_is_triple : Stmt := top 25
abbrev s_is_crowd : Stmt := top 26
abbrev s_has_wrong_root : Stmt := top 27
abbrev s_triples_of : Stmt := top 28
abbrev s_reason_against : Stmt := top 29
abbrev s_grown : Stmt := top 30
abbrev s_pair_certificate : Stmt := top 31
abbrev s_pair_holds : Stmt := top 32
abbrev s__law_spring : Stmt := top 34
abbrev s__law_draw : Stmt := top 35
abbrev s__law_same : Stmt := top 36
abbrev s__law_letters : Stmt := top 37
abbrev s__law_grown : Stmt := top 38
abbrev s__law_drawn_tree : Stmt := top 39
abbrev s__law_front : Stmt := top 40
abbrev s__law_back : Stmt := top 41
abbrev s__law_closed : Stmt := top 42
abbrev s__law_pair : Stmt := top 43
abbrev s__law_is_below : Stmt := top 44
abbrev s__law_children : Stmt := top 45
abbrev s__law_triples : Stmt := top 46
abbrev s__law_crowds : Stmt := top 47
abbrev s__law_word : Stmt := top 48
abbrev s__law_is_tree : Stmt := top 49
abbrev s__law_sided : Stmt := top 50
abbrev s__law_certificate_right : Stmt := top 51
abbrev s_law : Stmt := top 52
theorem sc_is_letter : FnScope ["value"] ["value"] (defScope s_is_letter) := ⟨rfl, rfl, rfl, by decide +kernel, rfl, by decide +kernel, by decide +kernel⟩
theorem sc_is_ascending : FnScope ["items", "one", "other"] ["items"] (defScope s_is_ascending) := ⟨rfl, rfl, rfl, by decide +kernel, rfl, by decide +kernel, by decide +kernel⟩
theorem sc_is_tagged : FnScope ["value"] ["value"] (defScope s_is_tagged) := ⟨rfl, rfl, rfl, by decide +kernel, rfl, by decide +kernel, by decide +kernel⟩
theorem sc_is_node : FnScope ["value"] ["value"] (defScope s_is_node) := ⟨rfl, rfl, rfl, by decide +kernel, rfl, by decide +kernel, by decide +kernel⟩
theorem sc_is_tree : FnScope ["value", "count", "waiting", "part", "side"] ["value"] (defScope s_is_tree) := ⟨rfl, rfl, rfl, by decide +kernel, rfl, by decide +kernel, by decide +kernel⟩
theorem sc_is_kind : FnScope ["value"] ["value"] (defScope s_is_kind) := ⟨rfl, rfl, rfl, by decide +kernel, rfl, by decide +kernel, by decide +kernel⟩
theorem sc_ordered_steps : FnScope ["tree", "kind"] ["tree", "kind"] (defScope s_ordered_steps) := ⟨rfl, rfl, rfl, by decide +kernel, rfl, by decide +kernel, by decide +kernel⟩
theorem sc_deep_steps : FnScope ["tree", "kind", "path", "left", "label", "right", "root", "lefts", "rights"] ["tree", "kind", "path"] (defScope s_deep_steps) := ⟨rfl, rfl, rfl, by decide +kernel, rfl, by decide +kernel, by decide +kernel⟩
theorem sc_level_steps : FnScope ["tree"] ["tree"] (defScope s_level_steps) := ⟨rfl, rfl, rfl, by decide +kernel, rfl, by decide +kernel, by decide +kernel⟩
theorem sc_walk : FnScope ["tree", "kind", "path", "label"] ["tree", "kind"] (defScope s_walk) := ⟨rfl, rfl, rfl, by decide +kernel, rfl, by decide +kernel, by decide +kernel⟩
theorem sc_pair_of : FnScope ["tree"] ["tree"] (defScope s_pair_of) := ⟨rfl, rfl, rfl, by decide +kernel, rfl, by decide +kernel, by decide +kernel⟩
theorem sc_in_order : FnScope ["text", "letters", "letter"] ["text", "letters"] (defScope s_in_order) := ⟨rfl, rfl, rfl, by decide +kernel, rfl, by decide +kernel, by decide +kernel⟩
theorem sc_is_below : FnScope ["pair", "letter", "other", "first", "last"] ["pair", "letter", "other"] (defScope s_is_below) := ⟨rfl, rfl, rfl, by decide +kernel, rfl, by decide +kernel, by decide +kernel⟩
theorem sc_children_of : FnScope ["pair", "letter", "other", "lower", "one"] ["pair", "letter"] (defScope s_children_of) := ⟨rfl, rfl, rfl, by decide +kernel, rfl, by decide +kernel, by decide +kernel⟩
theorem sc_families_of : FnScope ["pair", "letter"] ["pair"] (defScope s_families_of) := ⟨rfl, rfl, rfl, by decide +kernel, rfl, by decide +kernel, by decide +kernel⟩
theorem sc_letters_of : FnScope ["pair", "value", "many", "item"] ["pair", "value", "many"] (defScope s_letters_of) := ⟨rfl, rfl, rfl, by decide +kernel, rfl, by decide +kernel, by decide +kernel⟩
theorem sc_is_triple : FnScope ["pair", "value", "one", "two", "three"] ["pair", "value"] (defScope s_is_triple) := ⟨rfl, rfl, rfl, by decide +kernel, rfl, by decide +kernel, by decide +kernel⟩
theorem sc_is_crowd : FnScope ["pair", "value", "parent", "children", "family", "child"] ["pair", "value"] (defScope s_is_crowd) := ⟨rfl, rfl, rfl, by decide +kernel, rfl, by decide +kernel, by decide +kernel⟩
theorem sc_has_wrong_root : FnScope ["pair", "first", "last"] ["pair"] (defScope s_has_wrong_root) := ⟨rfl, rfl, rfl, by decide +kernel, rfl, by decide +kernel, by decide +kernel⟩
theorem sc_triples_of : FnScope ["pair", "first", "three", "two", "one"] ["pair"] (defScope s_triples_of) := ⟨rfl, rfl, rfl, by decide +kernel, rfl, by decide +kernel, by decide +kernel⟩
theorem sc_reason_against : FnScope ["pair", "triples", "families", "letter"] ["pair"] (defScope s_reason_against) := ⟨rfl, rfl, rfl, by decide +kernel, rfl, by decide +kernel, by decide +kernel⟩
theorem sc_grown : FnScope ["families", "letter", "lefts", "child", "parts", "sides"] ["families", "letter", "lefts"] (defScope s_grown) := ⟨rfl, rfl, rfl, by decide +kernel, rfl, by decide +kernel, by decide +kernel⟩
theorem sc_pair_certificate : FnScope ["pair", "reason"] ["pair"] (defScope s_pair_certificate) := ⟨rfl, rfl, rfl, by decide +kernel, rfl, by decide +kernel, by decide +kernel⟩
theorem sc_pair_holds : FnScope ["pair", "value", "word", "proof"] ["pair", "value"] (defScope s_pair_holds) := ⟨rfl, rfl, rfl, by decide +kernel, rfl, by decide +kernel, by decide +kernel⟩
theorem sc__law_spring : FnScope ["_law_script", "_law_cell", "_law_cells"] ["_law_script"] (defScope s__law_spring) := ⟨rfl, rfl, rfl, by decide +kernel, rfl, by decide +kernel, by decide +kernel⟩
theorem sc__law_draw : FnScope ["_law_spring_here", "_law_bound", "_law_cells", "_law_rests", "_law_count", "_law_spot", "_law_digit", "_law_mixed"] ["_law_spring_here", "_law_bound"] (defScope s__law_draw) := ⟨rfl, rfl, rfl, by decide +kernel, rfl, by decide +kernel, by decide +kernel⟩
theorem sc__law_same : FnScope ["_law_found", "_law_due", "_law_k"] ["_law_found", "_law_due"] (defScope s__law_same) := ⟨rfl, rfl, rfl, by decide +kernel, rfl, by decide +kernel, by decide +kernel⟩
theorem sc__law_letters : FnScope ["_law_spring_here", "_law_many", "_law_left", "_law_k"] ["_law_spring_here", "_law_many"] (defScope s__law_letters) := ⟨rfl, rfl, rfl, by decide +kernel, rfl, by decide +kernel, by decide +kernel⟩
theorem sc__law_grown : FnScope ["_law_spring_here", "_law_letters_here", "_law_way", "_law_some", "_law_spot", "_law_left", "_law_right"] ["_law_spring_here", "_law_letters_here", "_law_way"] (defScope s__law_grown) := ⟨rfl, rfl, rfl, by decide +kernel, rfl, by decide +kernel, by decide +kernel⟩
theorem sc__law_drawn_tree : FnScope ["_law_spring_here", "_law_bound", "_law_letters_here"] ["_law_spring_here", "_law_bound"] (defScope s__law_drawn_tree) := ⟨rfl, rfl, rfl, by decide +kernel, rfl, by decide +kernel, by decide +kernel⟩
theorem sc__law_front : FnScope ["_law_tree"] ["_law_tree"] (defScope s__law_front) := ⟨rfl, rfl, rfl, by decide +kernel, rfl, by decide +kernel, by decide +kernel⟩
theorem sc__law_back : FnScope ["_law_tree"] ["_law_tree"] (defScope s__law_back) := ⟨rfl, rfl, rfl, by decide +kernel, rfl, by decide +kernel, by decide +kernel⟩
theorem sc__law_closed : FnScope ["_law_spring_here", "_law_letters_here", "_law_stack", "_law_found", "_law_letter", "_law_many"] ["_law_spring_here", "_law_letters_here"] (defScope s__law_closed) := ⟨rfl, rfl, rfl, by decide +kernel, rfl, by decide +kernel, by decide +kernel⟩
theorem sc__law_pair : FnScope ["_law_spring_here", "_law_bound", "_law_tree", "_law_way", "_law_front_here", "_law_back_here", "_law_k", "_law_p", "_law_q"] ["_law_spring_here", "_law_bound"] (defScope s__law_pair) := ⟨rfl, rfl, rfl, by decide +kernel, rfl, by decide +kernel, by decide +kernel⟩
theorem sc__law_is_below : FnScope ["_law_pair_here", "_law_letter", "_law_other"] ["_law_pair_here", "_law_letter", "_law_other"] (defScope s__law_is_below) := ⟨rfl, rfl, rfl, by decide +kernel, rfl, by decide +kernel, by decide +kernel⟩
theorem sc__law_children : FnScope ["_law_pair_here", "_law_letter", "_law_one", "_law_under", "_law_other"] ["_law_pair_here", "_law_letter"] (defScope s__law_children) := ⟨rfl, rfl, rfl, by decide +kernel, rfl, by decide +kernel, by decide +kernel⟩
theorem sc__law_triples : FnScope ["_law_pair_here", "_law_letter", "_law_found", "_law_front_here", "_law_places", "_law_i", "_law_j", "_law_k"] ["_law_pair_here"] (defScope s__law_triples) := ⟨rfl, rfl, rfl, by decide +kernel, rfl, by decide +kernel, by decide +kernel⟩
theorem sc__law_crowds : FnScope ["_law_pair_here", "_law_found", "_law_letter", "_law_some", "_law_i", "_law_j", "_law_one"] ["_law_pair_here"] (defScope s__law_crowds) := ⟨rfl, rfl, rfl, by decide +kernel, rfl, by decide +kernel, by decide +kernel⟩
theorem sc__law_word : FnScope ["_law_pair_here"] ["_law_pair_here"] (defScope s__law_word) := ⟨rfl, rfl, rfl, by decide +kernel, rfl, by decide +kernel, by decide +kernel⟩
theorem sc__law_is_tree : FnScope ["_law_value", "_law_part"] ["_law_value"] (defScope s__law_is_tree) := ⟨rfl, rfl, rfl, by decide +kernel, rfl, by decide +kernel, by decide +kernel⟩
theorem sc__law_sided : FnScope ["_law_tree", "_law_lefts", "_law_left", "_law_right", "_law_one"] ["_law_tree", "_law_lefts"] (defScope s__law_sided) := ⟨rfl, rfl, rfl, by decide +kernel, rfl, by decide +kernel, by decide +kernel⟩
theorem sc__law_certificate_right : FnScope ["_law_pair_here", "_law_told", "_law_word_here", "_law_thing", "_law_some", "_law_one"] ["_law_pair_here", "_law_told"] (defScope s__law_certificate_right) := ⟨rfl, rfl, rfl, by decide +kernel, rfl, by decide +kernel, by decide +kernel⟩
theorem sc_law : FnScope ["_law_script", "_law_spring_here", "_law_letters_here", "_law_front_here", "_law_crowd", "_law_back_here", "_law_pairs", "_law_pair_here", "_law_turn", "_law_kept", "_law_told"] ["_law_script"] (defScope s_law) := ⟨rfl, rfl, rfl, by decide +kernel, rfl, by decide +kernel, by decide +kernel⟩
/-! ### xs != [], xs == [] -/
section
variable {X : Cx}
theorem op_neL (hu : X.A.units < cLine) : OpR X (compareOp .NotEq) (fun x y H Q => ∃ a b xs, x = .ref a ∧ y = .ref b ∧ SqL X.K H a xs ∧ SqL X.K H b [] ∧ Q (.bl (!xs.isEmpty)) H) := by
  intro pins s σ H x y v u Q I rx ry h
  obtain ⟨a, b, xs, rfl, rfl, hx, hy, q⟩ := h
  cases rx
  cases ry
  obtain ⟨its, r1, t1, _⟩ := I.list hx
  obtain ⟨its2, r2, t2, _⟩ := I.list hy
  cases r2
  cases r1 with
  | nil =>
    have rc := SeqAt.RcNeAt.lists (A := X.A) (s := s) (items := ([] : List Value).toArray) (items2 := ([] : List Value).toArray) (e := fun _ => true) t1.isList t2.isList rfl hu (fun j h1 _ => absurd h1 (by simp))
    exact rc X.prog X.w X.xe _ ⟨.bl _, H, I, rfl, q⟩
  | cons _ _ =>
    have rc := SeqAt.RcNeAt.lists_lengths (A := X.A) (s := s) t1.isList t2.isList (by simp) hu
    exact rc X.prog X.w X.xe _ ⟨.bl _, H, I, rfl, q⟩
theorem cmpOf_ltS {prog : Program} {w : World} {A : Around} (x y : Str) (t u : Tok) :
    CmpOf prog w A .Lt (fun i v => (#[Value.str x t, Value.str y u])[i]? = some v) (fun i j => decide (([x, y].getD i x).cps.toList < ([x, y].getD j x).cps.toList)) := fun i j vi vj s Q E hi hj h => by
  have one : ∀ (i : Nat) (v : Value), (#[Value.str x t, Value.str y u])[i]? = some v → ∃ tk, v = .str ([x, y].getD i x) tk := fun i v e => by
    match i with
    | 0 => exact ⟨t, by simpa using e.symm⟩
    | 1 => exact ⟨u, by simpa using e.symm⟩
    | n + 2 => simp at e
  obtain ⟨t1, rfl⟩ := one i vi hi
  obtain ⟨t2, rfl⟩ := one j vj hj
  exact lt_str h
theorem cmpOf_gtS {prog : Program} {w : World} {A : Around} (x y : Str) (t u : Tok) :
    CmpOf prog w A .Gt (fun i v => (#[Value.str x t, Value.str y u])[i]? = some v) (fun i j => decide (([x, y].getD j x).cps.toList < ([x, y].getD i x).cps.toList)) := fun i j vi vj s Q E hi hj h => by
  have one : ∀ (i : Nat) (v : Value), (#[Value.str x t, Value.str y u])[i]? = some v → ∃ tk, v = .str ([x, y].getD i x) tk := fun i v e => by
    match i with
    | 0 => exact ⟨t, by simpa using e.symm⟩
    | 1 => exact ⟨u, by simpa using e.symm⟩
    | n + 2 => simp at e
  obtain ⟨t1, rfl⟩ := one i vi hi
  obtain ⟨t2, rfl⟩ := one j vj hj
  exact PySem.P.gt_str h
theorem argBest1 (bt : Nat → Nat → Bool) : argBest bt 1 = if bt 1 0 = true then 1 else 0 := rfl
theorem max_two_str {prog : Program} {w : World} {A : Around} {E : Value → Shared → Prop} {s : Shared} {Q : Value → Shared → Prop} {x y : Str} {t u : Tok} (hh : A.handled = none)
    (h : ∀ h' tk, (∀ c o, s.heap.get? c = some o → h'.get? c = some o) → Q (if x.cps.toList < y.cps.toList then .str y u else .str x t) { s with heap := h', toks := tk }) :
    wpAny (model prog w) A (call (.builtin "max") [.str x t, .str y u]) Q E s := by
  have hT : (s.heap.push { cls := .type "tuple", data := .seq #[.str x t, .str y u] }).IsTuple s.heap.objs.size #[.str x t, .str y u] := ⟨_, Heap.get?_push_size _ rfl, rfl, 0, rfl⟩
  refine call_max_two (wpAny_pyIter_tuple hT ?_)
  have hsz : (s.heap.push { cls := .type "tuple", data := .seq #[.str x t, .str y u] }).objs.size = s.heap.objs.size + 1 := Heap.size_push ..
  refine ⟨_, [_, s.heap.objs.size], [_], _, _, _, _, rfl, Walks.tuple (A := A.in1) hh _ s.heap.objs.size (by rw [hsz]; exact Nat.ne_of_lt (Nat.lt_succ_self _)) #[.str x t, .str y u],
    ⟨⟨_, Heap.get?_push_size _ rfl, rfl, rfl⟩, hT.push _⟩, fun c hc => ?_, by simp, cmpOf_gtS x y t u, fun v h' tk hP hk => ?_⟩
  · show c < ((s.heap.push _).push _).objs.size
    rw [Heap.size_push, hsz]
    rcases List.mem_cons.mp hc with rfl | hc
    · rw [hsz]; exact Nat.lt_succ_self _
    · rcases List.mem_cons.mp hc with rfl | hc
      · exact Nat.lt_succ_of_lt (Nat.lt_succ_self _)
      · cases hc
  · have hold : ∀ c o, s.heap.get? c = some o → h'.get? c = some o := fun c o e => by
      refine hk c o (fun hm => ?_) (Heap.get?_push_of_some _ (Heap.get?_push_of_some _ e))
      rcases List.mem_cons.mp hm with e1 | hm
      · have := Heap.lt_size e; rw [e1, hsz] at this; exact Nat.lt_irrefl _ (Nat.lt_of_succ_lt this)
      · cases hm
    have := h h' tk hold
    have hv : v = if x.cps.toList < y.cps.toList then .str y u else .str x t := by
      rw [show #[Value.str x t, Value.str y u].size - 1 = 1 from rfl, argBest1] at hP
      replace hP : #[Value.str x t, Value.str y u][if decide (x.cps.toList < y.cps.toList) = true then 1 else 0]? = some v := hP
      by_cases hc : x.cps.toList < y.cps.toList
      · rw [if_pos (decide_eq_true hc)] at hP
        rw [if_pos hc]
        exact (Option.some.inj hP).symm
      · rw [if_neg (fun z => hc (of_decide_eq_true z))] at hP
        rw [if_neg hc]
        exact (Option.some.inj hP).symm
    rw [hv]; exact this
theorem min_two_str {prog : Program} {w : World} {A : Around} {E : Value → Shared → Prop} {s : Shared} {Q : Value → Shared → Prop} {x y : Str} {t u : Tok} (hh : A.handled = none)
    (h : ∀ h' tk, (∀ c o, s.heap.get? c = some o → h'.get? c = some o) → Q (if y.cps.toList < x.cps.toList then .str y u else .str x t) { s with heap := h', toks := tk }) :
    wpAny (model prog w) A (call (.builtin "min") [.str x t, .str y u]) Q E s := by
  have hT : (s.heap.push { cls := .type "tuple", data := .seq #[.str x t, .str y u] }).IsTuple s.heap.objs.size #[.str x t, .str y u] := ⟨_, Heap.get?_push_size _ rfl, rfl, 0, rfl⟩
  refine call_min_two (wpAny_pyIter_tuple hT ?_)
  have hsz : (s.heap.push { cls := .type "tuple", data := .seq #[.str x t, .str y u] }).objs.size = s.heap.objs.size + 1 := Heap.size_push ..
  refine ⟨_, [_, s.heap.objs.size], [_], _, _, _, _, rfl, Walks.tuple (A := A.in1) hh _ s.heap.objs.size (by rw [hsz]; exact Nat.ne_of_lt (Nat.lt_succ_self _)) #[.str x t, .str y u],
    ⟨⟨_, Heap.get?_push_size _ rfl, rfl, rfl⟩, hT.push _⟩, fun c hc => ?_, by simp, cmpOf_ltS x y t u, fun v h' tk hP hk => ?_⟩
  · show c < ((s.heap.push _).push _).objs.size
    rw [Heap.size_push, hsz]
    rcases List.mem_cons.mp hc with rfl | hc
    · rw [hsz]; exact Nat.lt_succ_self _
    · rcases List.mem_cons.mp hc with rfl | hc
      · exact Nat.lt_succ_of_lt (Nat.lt_succ_self _)
      · cases hc
  · have hold : ∀ c o, s.heap.get? c = some o → h'.get? c = some o := fun c o e => by
      refine hk c o (fun hm => ?_) (Heap.get?_push_of_some _ (Heap.get?_push_of_some _ e))
      rcases List.mem_cons.mp hm with e1 | hm
      · have := Heap.lt_size e; rw [e1, hsz] at this; exact Nat.lt_irrefl _ (Nat.lt_of_succ_lt this)
      · cases hm
    have := h h' tk hold
    have hv : v = if y.cps.toList < x.cps.toList then .str y u else .str x t := by
      rw [show #[Value.str x t, Value.str y u].size - 1 = 1 from rfl, argBest1] at hP
      replace hP : #[Value.str x t, Value.str y u][if decide (y.cps.toList < x.cps.toList) = true then 1 else 0]? = some v := hP
      by_cases hc : y.cps.toList < x.cps.toList
      · rw [if_pos (decide_eq_true hc)] at hP
        rw [if_pos hc]
        exact (Option.some.inj hP).symm
      · rw [if_neg (fun z => hc (of_decide_eq_true z))] at hP
        rw [if_neg hc]
        exact (Option.some.inj hP).symm
    rw [hv]; exact this
theorem call_max2S (hc : X.calm = true) : CallR X (.builtin "max") (fun xs H Q => ∃ a b : Nat, xs = [.str (ch a), .str (ch b)] ∧ Q (.str (ch (max a b))) H) := by
  intro pins s σ H xs us Q I r h
  obtain ⟨a, b, rfl, q⟩ := h
  obtain ⟨u, w', rfl, ⟨t, rfl⟩, ⟨t', rfl⟩⟩ := vals2 r
  refine max_two_str (I.ok.hd hc) fun h' tk k => ⟨_, H, I.kept k, ?_, q⟩
  have e : ((ch a).cps.toList < (ch b).cps.toList) ↔ a < b := by
    have := ch_lt a b
    simpa using this
  by_cases hj : a < b
  · rw [if_pos (e.mpr hj), Nat.max_eq_right (Nat.le_of_lt hj)]; exact ⟨_, rfl⟩
  · rw [if_neg (fun z => hj (e.mp z)), Nat.max_eq_left (by omega)]; exact ⟨_, rfl⟩
theorem call_min2S (hc : X.calm = true) : CallR X (.builtin "min") (fun xs H Q => ∃ a b : Nat, xs = [.str (ch a), .str (ch b)] ∧ Q (.str (ch (min a b))) H) := by
  intro pins s σ H xs us Q I r h
  obtain ⟨a, b, rfl, q⟩ := h
  obtain ⟨u, w', rfl, ⟨t, rfl⟩, ⟨t', rfl⟩⟩ := vals2 r
  refine min_two_str (I.ok.hd hc) fun h' tk k => ⟨_, H, I.kept k, ?_, q⟩
  have e : ((ch b).cps.toList < (ch a).cps.toList) ↔ b < a := by
    have := ch_lt b a
    simpa using this
  by_cases hj : b < a
  · rw [if_pos (e.mpr hj), Nat.min_eq_right (Nat.le_of_lt hj)]; exact ⟨_, rfl⟩
  · rw [if_neg (fun z => hj (e.mp z)), Nat.min_eq_left (by omega)]; exact ⟨_, rfl⟩
end
/-! ### the deck -/
structure Deck where
  dk : Addr
  ca : Addr
  ra : Addr
structure DeckOk (H : Hp) (D : Deck) (n : Nat) : Prop where
  ex : ∃ cells rests : List Int, H D.dk = some (.lst [.ref D.ca, .ref D.ra, .int (n : Int)]) ∧ H D.ca = some (.lst (cells.map V.int)) ∧ H D.ra = some (.lst (rests.map V.int)) ∧ 0 < cells.length ∧ rests.length = cells.length ∧ cells.length ≤ 62
  dc : D.dk ≠ D.ca
  dr : D.dk ≠ D.ra
  cr : D.ca ≠ D.ra
/-- all stands still but the deck's list and its rests -/
def SameD (D : Deck) (H H' : Hp) : Prop := ∀ b o, b ≠ D.dk → b ≠ D.ra → H b = some o → H' b = some o
theorem SameD.refl (D : Deck) (H : Hp) : SameD D H H := fun _ _ _ _ h => h
theorem SameD.trans {D : Deck} {H H1 H2 : Hp} (a : SameD D H H1) (b : SameD D H1 H2) : SameD D H H2 := fun c o h1 h2 h => b c o h1 h2 (a c o h1 h2 h)
theorem SameD.of {D : Deck} {H H' : Hp} (h : Same H H') : SameD D H H' := fun b o _ _ e => h b o e
theorem DeckOk.lists {H : Hp} {D : Deck} {n : Nat} (d : DeckOk H D n) : (∃ xs, H D.dk = some (.lst xs)) ∧ (∃ xs, H D.ra = some (.lst xs)) := by
  obtain ⟨c, r, h1, _, h3, _⟩ := d.ex
  exact ⟨⟨_, h1⟩, ⟨_, h3⟩⟩
theorem SameD.keepT {D : Deck} {H H' : Hp} {n : Nat} (h : SameD D H H') (d : DeckOk H D n) : KeepT H H' := fun b xs e => by
  obtain ⟨⟨x1, h1⟩, ⟨x2, h2⟩⟩ := d.lists
  exact h b _ (ne_of e h1 (by intro z; cases z)) (ne_of e h2 (by intro z; cases z)) e
theorem SameD.free {D : Deck} {H H' : Hp} {n : Nat} (h : SameD D H H') (d : DeckOk H' D n) {p : Addr} (e : H' p = none) : H p = none := by
  obtain ⟨⟨x1, h1⟩, ⟨x2, h2⟩⟩ := d.lists
  have n1 : p ≠ D.dk := fun z => by rw [z, h1] at e; cases e
  have n2 : p ≠ D.ra := fun z => by rw [z, h2] at e; cases e
  cases q : H p with
  | none => rfl
  | some o =>
    rw [h p o n1 n2 q] at e
    cases e
theorem DeckOk.same {H H' : Hp} {D : Deck} {n : Nat} (d : DeckOk H D n) (h : Same H H') : DeckOk H' D n := by
  obtain ⟨c, r, h1, h2, h3, h4⟩ := d.ex
  exact ⟨⟨c, r, h _ _ h1, h _ _ h2, h _ _ h3, h4⟩, d.dc, d.dr, d.cr⟩
structure Off (D : Deck) (p : Addr) : Prop where
  dk : p ≠ D.dk
  ca : p ≠ D.ca
  ra : p ≠ D.ra
theorem DeckOk.new {H : Hp} {D : Deck} {n : Nat} (d : DeckOk H D n) {p : Addr} (e : H p = none) : Off D p := by
  obtain ⟨c, r, h1, h2, h3, _⟩ := d.ex
  refine ⟨fun z => ?_, fun z => ?_, fun z => ?_⟩
  · rw [z, h1] at e
    cases e
  · rw [z, h2] at e
    cases e
  · rw [z, h3] at e
    cases e
theorem DeckOk.put {H : Hp} {D : Deck} {n : Nat} (d : DeckOk H D n) {p : Addr} (f : Off D p) (o : HO) : DeckOk (upd H p o) D n := by
  obtain ⟨c, r, h1, h2, h3, h4⟩ := d.ex
  exact ⟨⟨c, r, by rw [upd_ne f.dk.symm]; exact h1, by rw [upd_ne f.ca.symm]; exact h2, by rw [upd_ne f.ra.symm]; exact h3, h4⟩, d.dc, d.dr, d.cr⟩
theorem SameD.put {D : Deck} {H H' : Hp} {p : Addr} (s : SameD D H H') (e : H p = none) (o : HO) : SameD D H (upd H' p o) := fun b u h1 h2 h => by
  rw [upd_ne (ne_of_none h e)]
  exact s b u h1 h2 h
theorem SameD.at {D : Deck} {H H' : Hp} {p : Addr} {o : HO} (s : SameD D H H') (f : Off D p) (e : H p = some o) : H' p = some o := s p o f.dk f.ra e
theorem modB (z p : Int) (h0 : 0 < p) : 0 ≤ z % p ∧ z % p < p := ⟨Int.emod_nonneg z (by omega), Int.emod_lt_of_pos z h0⟩
def spDraw : Sp := fun vs H Q _ => ∃ (D : Deck) (n : Nat) (m : Int), vs = [.ref D.dk, .int m] ∧ DeckOk H D n ∧ n ≤ 1000000 ∧ 0 < m ∧ m < 1000000000 ∧ ∀ (i : Int) (H' : Hp), 0 ≤ i → i < m → DeckOk H' D (n + 1) → SameD D H H' → Q (.int i) H'
section
variable {P : Program} {w : World} {K : PySem.W.Frag} {mg : Str → Option Value} {base : Heap} {f : Addr} {fd : FuncData}
theorem ok_draw {k : Nat} (F : Fun K "_law_draw" "_law_draw" s__law_draw f fd) (M : Mgs mg) : FnOk P w K mg base CX0 (k + 1) f fd ["_law_spring_here", "_law_bound"] spDraw := by
  refine F.ok sc__law_draw (fun vs H Q E h => ?_) (fun cdv A outer s H vs Q E hr h => ?_)
  · obtain ⟨D, n, m, rfl, _⟩ := h
    rfl
  obtain ⟨D, n, m, rfl, d, hn, m0, m1, q⟩ := h
  obtain ⟨cells, rests, e1, e2, e3, c0, cr, c1⟩ := d.ex
  refine ⟨_, (pss_cons (ps_asg (pv 0) (pg_unl rfl (pgs_cons (pg_name (i := 2) sc__law_draw.nd rfl (.inl rfl)) (pgs_cons (pg_name (i := 3) sc__law_draw.nd rfl (.inl rfl)) (pgs_cons (pg_name (i := 4) sc__law_draw.nd rfl (.inl rfl)) pgs_nil)))))
    (pss_cons (ps_set (i := 5) sc__law_draw.nd rfl (.inl rfl) (pe_op op_mod (pv 4) (pe_callB call_len_seq rfl M.len PySem.boot_len (pa_cons (pv 2) pa_nil))))
    (pss_cons (ps_asg (pe_op op_add (pv 4) pe_int) (pg_sub (pv 0) pe_int set_list))
    (pss_cons (ps_if (pt_cmpR op_gt (pe_ix ix_list (pv 3) (pv 5) (fun _ _ => rfl)) pe_int (nomark _))
      (pss_cons (ps_set (i := 6) sc__law_draw.nd rfl (.inl rfl) (pe_op op_mod (pe_ix ix_list (pv 3) (pv 5) (fun _ _ => rfl)) (pv 1)))
    (pss_cons (ps_asg (pe_op op_fdiv (pe_ix ix_list (pv 3) (pv 5) (fun _ _ => rfl)) (pv 1)) (pg_sub (pv 3) (pv 5) set_list))
    (pss_one (ps_ret (pv 6))))) pss_nil)
    (pss_cons (ps_set (i := 7) sc__law_draw.nd rfl (.inl rfl) (pe_op op_mod (pe_op op_pow (pe_op op_add (pe_op op_add (pe_op op_mod (pe_ix ix_list (pv 2) (pv 5) (fun _ _ => rfl)) pe_int) (pe_op op_mul pe_int (pv 4))) pe_int) pe_int) pe_int))
    (pss_cons (ps_set (i := 7) sc__law_draw.nd rfl (.inl rfl) (pe_op op_mod (pe_op op_pow (pe_op op_add (pe_op op_add (pv 7) (pe_op op_mul pe_int (pe_op op_mod (pv 4) pe_int))) pe_int) pe_int) pe_int))
    (pss_one (ps_ret (pe_op op_mod (pe_op op_fdiv (pv 7) pe_int) (pv 1)))))))))), ?_⟩
  refine ⟨_, rfl, D.dk, _, rfl, SqL.of e1, rfl, _, _, rfl, _, _, rfl, _, _, rfl, rfl, ?_⟩
  have cl : ((cells.map V.int).length : Int) = (cells.length : Int) := by rw [List.length_map]
  refine ⟨_, rfl, _, rfl, D.ca, _, rfl, .inl (SqL.of e2), _, _, rfl, rfl, (by show (0 : Int) < ((cells.map V.int).length : Int); rw [cl]; omega), ?_⟩
  have i0 : 0 ≤ (n : Int) % ((cells.map V.int).length : Int) := Int.emod_nonneg _ (by rw [cl]; omega)
  have i1 : (n : Int) % ((cells.map V.int).length : Int) < (cells.length : Int) := by
    rw [cl]
    exact Int.emod_lt_of_pos _ (by omega)
  refine ⟨_, rfl, _, _, rfl, rfl, _, rfl, D.dk, _, _, 2, rfl, rfl, e1, rfl, ?_⟩
  have x2 : (upd H D.dk (.lst [.ref D.ca, .ref D.ra, .int ((n : Int) + 1)])) D.ca = some (.lst (cells.map V.int)) := by rw [upd_ne d.dc.symm]; exact e2
  have x3 : (upd H D.dk (.lst [.ref D.ca, .ref D.ra, .int ((n : Int) + 1)])) D.ra = some (.lst (rests.map V.int)) := by rw [upd_ne d.dr.symm]; exact e3
  have x1 : (upd H D.dk (.lst [.ref D.ca, .ref D.ra, .int ((n : Int) + 1)])) D.dk = some (.lst [.ref D.ca, .ref D.ra, .int ((n + 1 : Nat) : Int)]) := upd_same
  have sd : SameD D H (upd H D.dk (.lst [.ref D.ca, .ref D.ra, .int ((n : Int) + 1)])) := fun b o h1 _ e => by rw [upd_ne h1]; exact e
  have rl : ((rests.map V.int).length : Int) = (cells.length : Int) := by rw [List.length_map, cr]
  have l1 : ((n : Int) % ((cells.map V.int).length : Int)).toNat < rests.length := by omega
  have l2 : ((n : Int) % ((cells.map V.int).length : Int)).toNat < cells.length := by omega
  have a1 := at_map (f := V.int) i0 (List.getElem?_eq_getElem l1)
  have a2 := at_map (f := V.int) i0 (List.getElem?_eq_getElem l2)
  refine ⟨_, rfl, _, rfl, D.ra, _, _, _, rfl, rfl, SqL.of x3, a1, _, _, rfl, rfl, _, rfl, ite2 (fun _ => ?_) (fun _ => ?_)⟩
  · refine ⟨_, rfl, _, rfl, D.ra, _, _, _, rfl, rfl, SqL.of x3, a1, _, rfl, _, _, rfl, rfl, m0, ?_⟩
    refine ⟨_, rfl, _, rfl, D.ra, _, _, _, rfl, rfl, SqL.of x3, a1, _, rfl, _, _, rfl, rfl, ⟨m0, by omega⟩, ?_⟩
    refine ⟨_, rfl, _, rfl, D.ra, _, _, _, rfl, rfl, x3, ixN_nat i0 (by rw [rl]; exact i1), ?_⟩
    refine ⟨_, rfl, ?_⟩
    refine q _ _ (Int.emod_nonneg _ (by omega)) (Int.emod_lt_of_pos _ m0) ⟨⟨cells, rests.set ((n : Int) % ((cells.map V.int).length : Int)).toNat (rests[((n : Int) % ((cells.map V.int).length : Int)).toNat] / m), ?_, ?_, ?_, c0, ?_, c1⟩, d.dc, d.dr, d.cr⟩ ?_
    · rw [upd_ne d.dr]; exact x1
    · rw [upd_ne d.cr]; exact x2
    · rw [upd_same, List.map_set]
    · rw [List.length_set]; exact cr
    · exact sd.trans fun b o _ h2 e => by rw [upd_ne h2]; exact e
  · have b1 := modB cells[((n : Int) % ((cells.map V.int).length : Int)).toNat] 2147483579 (by decide)
    have b2 := modB (n : Int) 983 (by decide)
    refine ⟨_, rfl, _, rfl, D.ca, _, _, _, rfl, rfl, SqL.of x2, a2, _, _, rfl, rfl, (show (0 : Int) < 2147483579 by decide), _, rfl, _, _, rfl, rfl, .inl ⟨by decide, by decide⟩, _, _, rfl, rfl, _, _, rfl, rfl, _, _, rfl, rfl, ⟨by decide, by decide, by omega⟩, _, _, rfl, rfl, (show (0 : Int) < 2147483629 by decide), ?_⟩
    generalize (cells[((n : Int) % ((cells.map V.int).length : Int)).toNat] % 2147483579 + 58309 * (n : Int) + 1213) ^ Int.toNat 3 = y1
    have b3 := modB y1 2147483629 (by decide)
    refine ⟨_, rfl, _, rfl, _, _, rfl, rfl, (show (0 : Int) < 983 by decide), _, _, rfl, rfl, .inl ⟨by decide, by decide⟩, _, _, rfl, rfl, _, _, rfl, rfl, _, _, rfl, rfl, ⟨by decide, by decide, by omega⟩, _, _, rfl, rfl, (show (0 : Int) < 2305843009213693951 by decide), ?_⟩
    refine ⟨_, rfl, _, _, rfl, rfl, ⟨by decide, by decide⟩, _, rfl, _, _, rfl, rfl, m0, ?_⟩
    exact q _ _ (Int.emod_nonneg _ (by omega)) (Int.emod_lt_of_pos _ m0) ⟨⟨cells, rests, x1, x2, x3, c0, cr, c1⟩, d.dc, d.dr, d.cr⟩ sd
end
/-! ### _law_spring -/
theorem rep_flat {α : Type} (a : α) : ∀ m : Nat, (List.replicate m [a]).flatten = List.replicate m a
  | 0 => rfl
  | m + 1 => by
    rw [List.replicate_succ, List.replicate_succ, List.flatten_cons, rep_flat a m]
    rfl
def spSpring (K : PySem.W.Frag) : Sp := fun vs H Q _ => ∃ (a : Addr) (ns : List Int), vs = [.ref a] ∧ SqL K H a (ns.map V.int) ∧ ∀ (D : Deck) (H' : Hp), DeckOk H' D 0 → Same H H' → Q (.ref D.dk) H'
section
variable {P : Program} {w : World} {K : PySem.W.Frag} {mg : Str → Option Value} {base : Heap} {f : Addr} {fd : FuncData}
theorem ok_spring {k : Nat} (F : Fun K "_law_spring" "_law_spring" s__law_spring f fd) (M : Mgs mg) : FnOk P w K mg base CX0 (k + 1) f fd ["_law_script"] (spSpring K) := by
  refine F.ok sc__law_spring (fun vs H Q E h => ?_) (fun cdv A outer s H vs Q E hr h => ?_)
  · obtain ⟨a, ns, rfl, _⟩ := h
    rfl
  obtain ⟨a, ns, rfl, hS, q⟩ := h
  refine ⟨_, (pss_cons (ps_set (i := 2) sc__law_spring.nd rfl (.inl rfl) (pe_op op_cat (pe_lc (own := [("_law_cell", 1)]) (g := gName 1) (tt := tYes) rfl sc__law_spring.nd (pi_list (pe_slice sl_list (pv 0) po_none (po_some pe_int))) (blkOk_by (N := ["_law_script", "_law_cell", "_law_cells"]) (sc := defScope s__law_spring) (by decide +kernel)) (fun _ _ _ _ _ => (pg_name (i := 1) sc__law_spring.nd rfl (.inl rfl))) (fun _ _ _ _ _ => pts_nil) (fun _ _ _ _ _ => (pe_callB call_abs rfl M.abs (by decide +kernel) (pa_cons (pv 1) pa_nil)))) (pe_op op_rep (pe_lst (pa_cons pe_int pa_nil)) (pe_callTy call_int1 rfl M.int (by decide +kernel) (pa_cons (pe_cmpR op_eq (pe_callB call_len_seq rfl M.len PySem.boot_len (pa_cons (pv 0) pa_nil)) pe_int (nomark _)) pa_nil)))))
    (pss_one (ps_ret (pe_lst (pa_cons (pv 2) (pa_cons (pe_lc (own := [("_law_cell", 1)]) (g := gName 1) (tt := tYes) rfl sc__law_spring.nd (pi_list (pv 2)) (blkOk_by (N := ["_law_script", "_law_cell", "_law_cells"]) (sc := defScope s__law_spring) (by decide +kernel)) (fun _ _ _ _ _ => (pg_name (i := 1) sc__law_spring.nd rfl (.inl rfl))) (fun _ _ _ _ _ => pts_nil) (fun _ _ _ _ _ => (pe_op op_mul (pv 1) (pe_callTy call_int1 rfl M.int (by decide +kernel) (pa_cons (pe_cmpR op_ge (pv 1) (pe_op op_pow pe_int pe_int) (nomark _)) pa_nil))))) (pa_cons pe_int pa_nil))))))), ?_⟩
  refine ⟨.ref a, rfl, 62, rfl, a, ns.map V.int, rfl, hS, fun c nc => ?_⟩
  rw [show (62 : Int) = ((62 : Nat) : Int) from rfl, cut_to, ← List.map_take]
  have s1 := same_new nc (.lst ((ns.take 62).map V.int))
  have ec := upd_same (H := H) (a := c) (o := .lst ((ns.take 62).map V.int))
  generalize upd H c (.lst ((ns.take 62).map V.int)) = H1 at s1 ec
  refine ⟨c, rfl, ⟨_, SqL.of ec⟩, fun c2 nc2 => ?_⟩
  have s2 := same_new nc2 (.lst [])
  refine lc_list (K := K) (a := c) (xs := (ns.take 62).map V.int) (fun i H' => Same H1 H' ∧ ∃ ys : List Int, ys.length = i ∧ H' c2 = some (.lst (ys.map V.int))) ⟨s2, [], rfl, upd_same⟩ (fun i H' _ hp => SqL.of (hp.1 _ _ ec)) (fun i x H' hx hp => ?_) (fun H2 hp => ?_)
  · obtain ⟨sm, ys, hy, hd⟩ := hp
    rw [List.getElem?_map] at hx
    obtain ⟨v, hv, rfl⟩ := Option.map_eq_some_iff.mp hx
    have hi : i < 62 := by
      have := (List.getElem?_eq_some_iff.mp hv).1
      rw [List.length_take] at this
      omega
    refine ⟨rfl, kept ?_⟩
    refine ⟨_, rfl, v, rfl, _, hd, by rw [List.length_map]; exact small1000 (by omega), fun b o e => ?_, ys ++ [if v < 0 then -v else v], by rw [List.length_append, hy]; rfl, ?_⟩
    · rw [upd_ne (ne_of_none e nc2)]
      exact sm _ _ e
    · rw [upd_same, List.map_append]
      rfl
  obtain ⟨sm0, cs, hcs0, ec2⟩ := hp
  have hcs : cs.length = min 62 ns.length := by rw [hcs0, List.length_map, List.length_take]
  have s2 := sm0
  refine ⟨(by show 1 ≤ sizeLine; decide), fun z nz => ?_⟩
  have s3 := same_new nz (.lst [.int 0])
  have ez := upd_same (H := H2) (a := z) (o := .lst [.int 0])
  have ec3 := s3 _ _ ec2
  generalize upd H2 z (.lst [.int 0]) = H3 at s3 ez ec3
  have sH := (s1.trans s2).trans s3
  refine ⟨.ref a, rfl, a, _, rfl, .inl (sH.seq hS), rfl, .inr ⟨_, rfl, z, _, _, rfl, rfl, ez, ?_, ?_, ?_, fun y ny => ?_⟩⟩
  · split <;> decide
  · split <;> decide
  · split <;> decide
  have s4 := same_new ny (.lst (List.replicate (Int.toNat (if decide (V.int ((ns.map V.int).length : Int) = V.int 0) = true then 1 else 0)) [V.int 0]).flatten)
  obtain ⟨ex, hex, hexl⟩ : ∃ ex : List Int, (List.replicate (Int.toNat (if decide (V.int ((ns.map V.int).length : Int) = V.int 0) = true then 1 else 0)) [V.int 0]).flatten = ex.map V.int ∧ 0 < cs.length + ex.length ∧ cs.length + ex.length ≤ 62 := by
    by_cases h0 : ns.length = 0
    · refine ⟨[0], ?_, Nat.succ_pos _, ?_⟩
      · rw [show (decide (V.int ((ns.map V.int).length : Int) = V.int 0)) = true by rw [List.length_map, h0]; rfl]
        rfl
      · rw [hcs, h0]; decide
    · refine ⟨[], ?_, ?_, ?_⟩
      · rw [show (decide (V.int ((ns.map V.int).length : Int) = V.int 0)) = false by
          apply decide_eq_false
          intro z
          have z' := V.int.inj z
          rw [List.length_map] at z'
          omega]
        rfl
      · rw [hcs, List.length_nil]; omega
      · rw [hcs, List.length_nil]; omega
  refine ⟨c2, y, _, _, rfl, rfl, s4 _ _ ec3, upd_same, ?_, fun p np => ?_⟩
  · rw [hex, List.length_map, List.length_map]
    exact small (by omega)
  have s5 := same_new np (.lst (cs.map V.int ++ (List.replicate (Int.toNat (if decide (V.int ((ns.map V.int).length : Int) = V.int 0) = true then 1 else 0)) [V.int 0]).flatten))
  have s6 := sH.trans (s4.trans s5)
  refine ⟨.ref p, rfl, _, rfl, p, rfl, ⟨_, SqL.of upd_same⟩, fun r nr => ?_⟩
  rw [hex, ← List.map_append] at s5 s6 nr ⊢
  generalize hH2 : upd (upd H3 y (.lst (ex.map V.int))) p (.lst ((cs ++ ex).map V.int)) = H4 at s5 s6 nr ⊢
  have ep : H4 p = some (.lst ((cs ++ ex).map V.int)) := by rw [← hH2]; exact upd_same
  have hpr : p ≠ r := ne_of_none ep nr
  refine lc_list (K := K) (a := p) (xs := (cs ++ ex).map V.int) (fun i H' => Same H4 H' ∧ ∃ ys : List Int, ys.length = i ∧ H' r = some (.lst (ys.map V.int))) ⟨same_new nr _, [], rfl, upd_same⟩ (fun i H' _ hp => SqL.of (hp.1 _ _ ep)) (fun i x H' hx hp => ?_) (fun H5 hp => ?_)
  · obtain ⟨sm, ys, hy, hd⟩ := hp
    rw [List.getElem?_map] at hx
    obtain ⟨v, hv, rfl⟩ := Option.map_eq_some_iff.mp hx
    have hi : i < 63 := by
      have := (List.getElem?_eq_some_iff.mp hv).1
      rw [List.length_append] at this
      omega
    refine ⟨rfl, kept ?_⟩
    refine ⟨_, rfl, _, rfl, _, _, rfl, rfl, ⟨by decide, by decide, by decide⟩, _, _, rfl, rfl, .inr ⟨_, rfl, _, _, rfl, rfl, .inr ?_, _, hd, by rw [List.length_map]; exact small1000 (by omega), fun b o e => ?_, ys ++ [v * (if decide (v ≥ (10 : Int) ^ Int.toNat 18) = true then 1 else 0)], by rw [List.length_append, hy]; rfl, ?_⟩⟩
    · split <;> decide
    · rw [upd_ne (ne_of_none e nr)]
      exact sm _ _ e
    · rw [upd_same, List.map_append]
      rfl
  · obtain ⟨sm, ys, hy, hd⟩ := hp
    refine ⟨(by show 3 ≤ sizeLine; decide), fun t nt => ?_⟩
    have s9 := same_new nt (.lst [.ref p, .ref r, .int 0])
    have ep3 := sm _ _ ep
    refine q ⟨t, p, r⟩ _ ⟨⟨cs ++ ex, ys, upd_same, s9 _ _ ep3, s9 _ _ hd, ?_, ?_, ?_⟩, (ne_of_none ep3 nt).symm, (ne_of_none hd nt).symm, hpr⟩ (s6.trans (sm.trans s9))
    · rw [List.length_append]; omega
    · rw [hy, List.length_map]
    · rw [List.length_append]; omega
end
/-! ### _law_letters -/
abbrev vc (c : Nat) : V := .str (ch c)
abbrev vt (z : List Nat) : V := .str (tx z)
theorem at_ge {α : Type} {xs : List α} {i : Int} (h0 : 0 ≤ i) (h : i.toNat < xs.length) : atI xs i = some xs[i.toNat] := by
  have e := atI_nat (xs := xs) (j := i.toNat) (List.getElem?_eq_getElem h)
  rwa [Int.toNat_of_nonneg h0] at e
theorem erase_perm {α : Type} : ∀ {l : List α} {i : Nat} (h : i < l.length), List.Perm (l[i] :: l.eraseIdx i) l
  | x :: l, 0, _ => List.Perm.refl _
  | x :: l, i + 1, h => by
    have := erase_perm (l := l) (i := i) (Nat.lt_of_succ_lt_succ h)
    show List.Perm (l[i]'(Nat.lt_of_succ_lt_succ h) :: x :: l.eraseIdx i) (x :: l)
    exact (List.Perm.swap _ _ _).trans (this.cons x)
abbrev rLenSeq (K : PySem.W.Frag) : List V → Hp → VK → Prop := fun xs H Q => ∃ p ys, xs = [V.ref p] ∧ (SqL K H p ys ∨ SqT K H p ys) ∧ Q (V.int (ys.length : Int)) H
def Lts (l : List Nat) : Prop := l.Nodup ∧ ∀ c ∈ l, 97 ≤ c ∧ c ≤ 122
theorem map_vc (l : List Nat) : l.map vc = (l.map ch).map V.str := by rw [List.map_map]; rfl
def spLetters : Sp := fun vs H Q _ => ∃ (D : Deck) (n m : Nat), vs = [.ref D.dk, .int (m : Int)] ∧ DeckOk H D n ∧ n + m ≤ 1000000 ∧ m ≤ 26 ∧
  ∀ (zs : List Nat) (H' : Hp), DeckOk H' D (n + m) → SameD D H H' → Lts zs → zs.length = m → Q (.str (tx zs)) H'
section
variable {P : Program} {w : World} {K : PySem.W.Frag} {mg : Str → Option Value} {base : Heap} {f : Addr} {fd : FuncData}
theorem ok_letters {k : Nat} (F : Fun K "_law_letters" "_law_letters" s__law_letters f fd) (M : Mgs mg) (D_law_draw : Df P w K mg base (k + 1) "_law_draw" ["_law_spring_here", "_law_bound"] spDraw) : FnOk P w K mg base CX0 (k + 2) f fd ["_law_spring_here", "_law_many"] spLetters := by
  refine F.ok sc__law_letters (fun vs H Q E h => ?_) (fun cdv A outer s H vs Q E hr h => ?_)
  · obtain ⟨D, n, m, rfl, _⟩ := h
    rfl
  obtain ⟨D, n, m, rfl, d, hn, hm, q⟩ := h
  refine ⟨_, (pss_cons (ps_set (i := 2) sc__law_letters.nd rfl (.inr rfl) (pe_callTy (call_signs rfl) rfl M.list (by decide +kernel) (pa_cons pe_str pa_nil)))
    (pss_one (ps_ret (pe_bm PySem.F.plainAttrs_str PySem.F.slot_str_join PySem.F.type_str_join mt_join pe_str (pa_cons (pe_lc (own := [("_law_k", 3)]) (g := gName 3) (tt := tYes) rfl sc__law_letters.nd (pi_range1 rfl M.range (pa_cons (pv 1) pa_nil)) (blkOk_by (N := ["_law_spring_here", "_law_many", "_law_left", "_law_k"]) (sc := defScope s__law_letters) (by decide +kernel)) (fun _ _ _ _ _ => (pg_name (i := 3) sc__law_letters.nd rfl (.inl rfl))) (fun _ _ _ _ _ => pts_nil) (fun _ _ _ _ _ => (show PE _ _ (tBM K _ _ _ _) from pe_bm PySem.F.plainAttrs_list PySem.F.slot_list_pop PySem.F.type_list_pop mt_popAt (pv 2) (pa_cons (pe_call D_law_draw.ok (hr.mono (by omega)) rfl D_law_draw.g D_law_draw.kp D_law_draw.b .nil pass0 (pa_cons (pv 0) (pa_cons (pe_callB (show CallR _ (.builtin "len") (rLenSeq K) from call_len_seq) rfl M.len PySem.boot_len (pa_cons (pv 2) pa_nil)) pa_nil))) pa_nil)))) pa_nil))))), ?_⟩
  have e26 : (Str.ofString "abcdefghijklmnopqrstuvwxyz").cps.toList = (List.range 26).map (· + 97) := by decide +kernel
  refine ⟨Str.ofString "abcdefghijklmnopqrstuvwxyz", rfl, (by decide +kernel), fun ra nra => ?_⟩
  have q1 := same_new nra (.lst ((Str.ofString "abcdefghijklmnopqrstuvwxyz").cps.toList.map vc))
  have era := upd_same (H := H) (a := ra) (o := .lst ((Str.ofString "abcdefghijklmnopqrstuvwxyz").cps.toList.map vc))
  have d1 := d.same q1
  have ora := d.new nra
  have ltsA : Lts (Str.ofString "abcdefghijklmnopqrstuvwxyz").cps.toList := by
    rw [e26]
    refine ⟨by decide +kernel, fun c hc => ?_⟩
    obtain ⟨j, hj, rfl⟩ := List.mem_map.mp hc
    have := List.mem_range.mp hj
    omega
  have lenA : (Str.ofString "abcdefghijklmnopqrstuvwxyz").cps.toList.length = 26 := by rw [e26]; rfl
  generalize (Str.ofString "abcdefghijklmnopqrstuvwxyz").cps.toList = AL at q1 era d1 ltsA lenA ⊢
  have nraS : ∀ {H' : Hp}, SameD D (upd H ra (.lst (AL.map vc))) H' → SameD D H H' := fun s b o h1 h2 e => s b o h1 h2 (q1 b o e)
  generalize hH1 : upd H ra (.lst (AL.map vc)) = H1 at q1 era d1 nraS ⊢
  refine ⟨rfl, _, rfl, (m : Int), rfl, by omega, by omega, fun Dc nDc => ?_⟩
  rw [Int.toNat_natCast]
  have oDc := d1.new nDc
  have nrd : ra ≠ Dc := ne_of_none era nDc
  have nDcH : H Dc = none := by
    cases z : H Dc with
    | none => rfl
    | some o => rw [q1 _ _ z] at nDc; cases nDc
  refine lc_it (walk_range (lo := 0) (n := m)) (fun i H' => ∃ rest xs : List Nat, xs.length = i ∧ DeckOk H' D (n + i) ∧ SameD D H H' ∧ H' ra = some (.lst (rest.map vc)) ∧ H' Dc = some (.lst (xs.map vc)) ∧ (xs ++ rest).Perm AL)
    ⟨AL, [], rfl, d1.put oDc _, (SameD.of q1).put nDcH _, by rw [upd_ne nrd]; exact era, upd_same, .refl _⟩ (fun i H' _ _ => trivial) (fun i x H' H'' hi hp hy => ?_) (fun H' hp => ?_)
  · obtain ⟨rest, xs, hx, d2, s2, er, eD, pm⟩ := hp
    obtain ⟨rfl, rfl⟩ := hy
    have hlen : xs.length + rest.length = 26 := by rw [← List.length_append, pm.length_eq, lenA]
    refine ⟨rfl, kept ?_⟩
    refine ⟨_, rfl, .inl ⟨rfl, _, SqL.of er⟩, _, rfl, _, rfl, ra, _, rfl, .inl (SqL.of er), D, _, _, rfl, d2, by omega, by rw [List.length_map]; omega, by rw [List.length_map]; omega, fun j H2 j0 j1 d3 s3 => ?_⟩
    rw [List.length_map] at j1
    have hj : j.toNat < rest.length := by omega
    have er2 := s3.at ora er
    have eD2 := s3.at oDc eD
    refine ⟨ra, _, j, j.toNat, vc rest[j.toNat], rfl, rfl, er2, by omega, by omega, (ixN_seq (ixN_nat j0 (by rw [List.length_map]; omega))).1, by rw [List.getElem?_map, List.getElem?_eq_getElem hj]; rfl, ?_⟩
    refine ⟨_, by rw [upd_ne nrd.symm]; exact eD2, by rw [List.length_map]; exact small1000 (by omega), rest.eraseIdx j.toNat, xs ++ [rest[j.toNat]], by rw [List.length_append, hx]; rfl, (d3.put ora _).put oDc _, ((s2.trans s3).put nra _).put nDcH _, ?_, ?_, ?_⟩
    · rw [upd_ne nrd, upd_same, erase_map]
    · rw [upd_same, List.map_append]; rfl
    · rw [List.append_assoc]
      exact (List.Perm.append_left xs (erase_perm hj)).trans pm
  · obtain ⟨rest, xs, hx, d2, s2, er, eD, pm⟩ := hp
    rw [map_vc] at eD
    refine ⟨_, Dc, xs.map ch, rfl, rfl, .inl (SqL.of eD), tx_joinOk _ (by omega), ?_⟩
    rw [tx_join]
    have nd : (xs ++ rest).Nodup := pm.nodup_iff.mpr ltsA.1
    exact q xs H' d2 s2 ⟨(List.nodup_append.mp nd).1, fun c hc => ltsA.2 c (pm.mem_iff.mp (List.mem_append_left _ hc))⟩ hx
end
/-! ### _law_grown, _law_drawn_tree, _law_front, _law_back -/
theorem str_0 : Str.ofString "" = tx [] := by decide +kernel
theorem tx_nil {l : List Nat} (h : tx l = Str.ofString "") : l = [] := by rw [str_0] at h; exact tx_inj h
theorem tx_mid {l : List Nat} {i j : Nat} (hi : i ≤ l.length) (hj : j ≤ l.length) : cutS (tx l) (some (i : Int)) (some (j : Int)) = tx ((l.drop i).take (j - i)) := by
  unfold cutS tx
  show (⟨_⟩ : Str) = ⟨_⟩
  rw [HT.sIx_nat, HT.sIx_nat]
  show (⟨((l.drop (min i l.length)).take (min j l.length - min i l.length)).toArray⟩ : Str) = _
  rw [Nat.min_eq_left hi, Nat.min_eq_left hj]
def B.post : B → List Nat
  | .nil => []
  | .node l x r => l.post ++ r.post ++ [x]
theorem B.post_len : ∀ t : B, t.post.length = t.size
  | .nil => rfl
  | .node l x r => by
    have h1 := l.post_len
    have h2 := r.post_len
    show (l.post ++ r.post ++ [x]).length = l.size + 1 + r.size
    rw [List.length_append, List.length_append, h1, h2, List.length_cons, List.length_nil]
    omega
def spFront (N : Nat) : Sp := fun vs H Q _ => ∃ (v : V) (t : B), vs = [v] ∧ BAt H v t ∧ t.size < N ∧ t.size ≤ 300 ∧ Q (.str (tx t.pre)) H
def spBack (N : Nat) : Sp := fun vs H Q _ => ∃ (v : V) (t : B), vs = [v] ∧ BAt H v t ∧ t.size < N ∧ t.size ≤ 300 ∧ Q (.str (tx t.post)) H
section
variable {P : Program} {w : World} {K : PySem.W.Frag} {mg : Str → Option Value} {base : Heap} {f : Addr} {fd : FuncData}
theorem ok_front (F : Fun K "_law_front" "_law_front" s__law_front f fd) (b : Binds K fd ["_law_tree"] []) (g : mg "_law_front" = some (.ref f)) : ∀ N : Nat, FnOk P w K mg base CX0 N f fd ["_law_tree"] (spFront N)
  | 0 => by
    have no : ∀ vs H Q E, ¬ spFront 0 vs H Q E := fun vs H Q E h => by
      obtain ⟨v, t, _, _, h1, _⟩ := h
      omega
    exact ⟨fun vs H Q E h => absurd h (no vs H Q E), fun A outer s H args us vs Q E _ _ _ _ h => absurd h (no vs H Q E)⟩
  | N + 1 => by
    have Dself : Df P w K mg base N "_law_front" ["_law_tree"] (spFront N) := ⟨f, fd, ok_front F b g N, b, F.kp, g⟩
    refine F.ok sc__law_front (fun vs H Q E h => ?_) (fun cdv A outer s H vs Q E hr h => ?_)
    · obtain ⟨v, t, rfl, _⟩ := h
      rfl
    obtain ⟨v, t, rfl, hv, hn, hz, q⟩ := h
    refine ⟨_, (pss_one (ps_ret (pe_ifExp (pt_cmpR op_isN (pv 0) pe_non (nomark _)) pe_str (pe_op op_add_str (pe_op op_add_str (pe_ix ix_tup (pv 0) pe_int (fun _ _ => rfl)) (pe_call Dself.ok (hr.mono (by omega)) rfl Dself.g Dself.kp Dself.b .nil pass0 (pa_cons (pe_ix ix_tup (pv 0) pe_int (fun _ _ => rfl)) pa_nil))) (pe_call Dself.ok (hr.mono (by omega)) rfl Dself.g Dself.kp Dself.b .nil pass0 (pa_cons (pe_ix ix_tup (pv 0) pe_int (fun _ _ => rfl)) pa_nil)))))), ?_⟩
    rcases hv.inv with ⟨rfl, rfl⟩ | ⟨a, l, r, x, tl, tr, rfl, rfl, ea, hl, hr'⟩
    · refine ⟨_, rfl, rfl, _, rfl, iteT ?_⟩
      show Q (.str (Str.ofString "")) H
      rw [str_0]
      exact q
    · have sz : tl.size + 1 + tr.size < N + 1 := hn
      have sz2 : tl.size + 1 + tr.size ≤ 300 := hz
      have pl := tl.pre_len
      have pr := tr.pre_len
      refine ⟨_, rfl, rfl, _, rfl, iteF ?_⟩
      refine ⟨_, rfl, a, _, _, _, rfl, rfl, SqT.of ea, rfl, _, rfl, a, _, _, _, rfl, rfl, SqT.of ea, rfl, l, tl, rfl, hl, by omega, by omega, _, _, rfl, rfl, small (by rw [tx_len]; show 1 + _ ≤ 1000; omega), ?_⟩
      rw [ch_app]
      refine ⟨_, rfl, a, _, _, _, rfl, rfl, SqT.of ea, rfl, r, tr, rfl, hr', by omega, by omega, _, _, rfl, rfl, small (by rw [tx_len, tx_len, List.length_cons]; omega), ?_⟩
      rw [tx_app]
      exact q
theorem ok_back (F : Fun K "_law_back" "_law_back" s__law_back f fd) (b : Binds K fd ["_law_tree"] []) (g : mg "_law_back" = some (.ref f)) : ∀ N : Nat, FnOk P w K mg base CX0 N f fd ["_law_tree"] (spBack N)
  | 0 => by
    have no : ∀ vs H Q E, ¬ spBack 0 vs H Q E := fun vs H Q E h => by
      obtain ⟨v, t, _, _, h1, _⟩ := h
      omega
    exact ⟨fun vs H Q E h => absurd h (no vs H Q E), fun A outer s H args us vs Q E _ _ _ _ h => absurd h (no vs H Q E)⟩
  | N + 1 => by
    have Dself : Df P w K mg base N "_law_back" ["_law_tree"] (spBack N) := ⟨f, fd, ok_back F b g N, b, F.kp, g⟩
    refine F.ok sc__law_back (fun vs H Q E h => ?_) (fun cdv A outer s H vs Q E hr h => ?_)
    · obtain ⟨v, t, rfl, _⟩ := h
      rfl
    obtain ⟨v, t, rfl, hv, hn, hz, q⟩ := h
    refine ⟨_, (pss_one (ps_ret (pe_ifExp (pt_cmpR op_isN (pv 0) pe_non (nomark _)) pe_str (pe_op op_add_str (pe_op op_add_str (pe_call Dself.ok (hr.mono (by omega)) rfl Dself.g Dself.kp Dself.b .nil pass0 (pa_cons (pe_ix ix_tup (pv 0) pe_int (fun _ _ => rfl)) pa_nil)) (pe_call Dself.ok (hr.mono (by omega)) rfl Dself.g Dself.kp Dself.b .nil pass0 (pa_cons (pe_ix ix_tup (pv 0) pe_int (fun _ _ => rfl)) pa_nil))) (pe_ix ix_tup (pv 0) pe_int (fun _ _ => rfl)))))), ?_⟩
    rcases hv.inv with ⟨rfl, rfl⟩ | ⟨a, l, r, x, tl, tr, rfl, rfl, ea, hl, hr'⟩
    · refine ⟨_, rfl, rfl, _, rfl, iteT ?_⟩
      show Q (.str (Str.ofString "")) H
      rw [str_0]
      exact q
    · have sz : tl.size + 1 + tr.size < N + 1 := hn
      have sz2 : tl.size + 1 + tr.size ≤ 300 := hz
      have pl := tl.post_len
      have pr := tr.post_len
      refine ⟨_, rfl, rfl, _, rfl, iteF ?_⟩
      refine ⟨_, rfl, a, _, _, _, rfl, rfl, SqT.of ea, rfl, l, tl, rfl, hl, by omega, by omega, _, rfl, a, _, _, _, rfl, rfl, SqT.of ea, rfl, r, tr, rfl, hr', by omega, by omega, _, _, rfl, rfl, small (by rw [tx_len, tx_len]; omega), ?_⟩
      rw [tx_app]
      refine ⟨_, rfl, a, _, _, _, rfl, rfl, SqT.of ea, rfl, _, _, rfl, rfl, small (by rw [tx_len, List.length_append]; show _ + 1 ≤ 1000; omega), ?_⟩
      rw [show tx (tl.post ++ tr.post) ++ ch x = tx (tl.post ++ tr.post ++ [x]) from tx_app _ [x]]
      exact q
end
/-! ### _law_grown -/
section
variable {P : Program} {w : World} {K : PySem.W.Frag} {mg : Str → Option Value} {base : Heap} {f : Addr} {fd : FuncData}
def spGrown (N : Nat) : Sp := fun vs H Q _ => ∃ (D : Deck) (n way : Nat) (zs : List Nat), vs = [.ref D.dk, .str (tx zs), .int (way : Int)] ∧ way < 3 ∧ zs.length < N ∧ zs.length ≤ 100 ∧ DeckOk H D n ∧ n + 2 * zs.length ≤ 1000000 ∧
  ∀ (v : V) (t : B) (H' : Hp), DeckOk H' D (n + 2 * zs.length) → SameD D H H' → BAt H' v t → t.pre = zs → Q v H'
theorem ok_grown (F : Fun K "_law_grown" "_law_grown" s__law_grown f fd) (M : Mgs mg) (b : Binds K fd ["_law_spring_here", "_law_letters_here", "_law_way"] []) (g : mg "_law_grown" = some (.ref f)) (D_law_draw : Df P w K mg base 1 "_law_draw" ["_law_spring_here", "_law_bound"] spDraw) :
    ∀ N : Nat, FnOk P w K mg base CX0 (N + 1) f fd ["_law_spring_here", "_law_letters_here", "_law_way"] (spGrown N)
  | 0 => by
    have no : ∀ vs H Q E, ¬ spGrown 0 vs H Q E := fun vs H Q E h => by
      obtain ⟨D, n, way, zs, _, _, h1, _⟩ := h
      omega
    exact ⟨fun vs H Q E h => absurd h (no vs H Q E), fun A outer s H args us vs Q E _ _ _ _ h => absurd h (no vs H Q E)⟩
  | N + 1 => by
    have Dself : Df P w K mg base (N + 1) "_law_grown" ["_law_spring_here", "_law_letters_here", "_law_way"] (spGrown N) := ⟨f, fd, ok_grown F M b g D_law_draw N, b, F.kp, g⟩
    refine F.ok (k := N + 1) sc__law_grown (fun vs H Q E h => ?_) (fun cdv A outer s H vs Q E hr h => ?_)
    · obtain ⟨D, n, way, zs, rfl, _⟩ := h
      rfl
    obtain ⟨D, n, way, zs, rfl, hw, hn, h100, d, hc, q⟩ := h
    refine ⟨_, (pss_cons (ps_if (pt_cmpR op_eq (pv 1) pe_str (nomark _))
      (pss_one (ps_ret pe_non)) pss_nil)
    (pss_cons (ps_set (i := 3) sc__law_grown.nd rfl (.inl rfl) (pe_op op_sub (pe_callB call_len_str rfl M.len PySem.boot_len (pa_cons (pv 1) pa_nil)) pe_int))
    (pss_cons (ps_set (i := 4) sc__law_grown.nd rfl (.inl rfl) (pe_ix ix_list (pe_lst (pa_cons (pe_call D_law_draw.ok (hr.mono (by omega)) rfl D_law_draw.g D_law_draw.kp D_law_draw.b .nil pass0 (pa_cons (pv 0) (pa_cons (pe_op op_add (pv 3) pe_int) pa_nil))) (pa_cons (pe_op op_mul (pv 3) (pe_call D_law_draw.ok (hr.mono (by omega)) rfl D_law_draw.g D_law_draw.kp D_law_draw.b .nil pass0 (pa_cons (pv 0) (pa_cons pe_int pa_nil)))) (pa_cons (pe_op op_fdiv (pv 3) pe_int) pa_nil)))) (pv 2) (fun _ _ => rfl)))
    (pss_cons (ps_par (i := 5) (j := 6) (by rfl) sc__law_grown.nd rfl rfl (by decide) rfl rfl (pa_cons (pe_slice sl_str (pv 1) (po_some pe_int) (po_some (pe_op op_add (pv 4) pe_int))) (pa_cons (pe_slice sl_str (pv 1) (po_some (pe_op op_add (pv 4) pe_int)) po_none) pa_nil)) (by rfl))
    (pss_one (ps_ret (pe_tup (pa_cons (pe_call Dself.ok (hr.mono (by omega)) rfl Dself.g Dself.kp Dself.b .nil pass0 (pa_cons (pv 0) (pa_cons (pv 5) (pa_cons (pv 2) pa_nil)))) (pa_cons (pe_ix ix_str (pv 1) pe_int (fun _ _ => rfl)) (pa_cons (pe_call Dself.ok (hr.mono (by omega)) rfl Dself.g Dself.kp Dself.b .nil pass0 (pa_cons (pv 0) (pa_cons (pv 6) (pa_cons (pv 2) pa_nil)))) pa_nil)))))))))), ?_⟩
    refine ⟨_, rfl, rfl, _, rfl, ?_⟩
    cases zs with
    | nil =>
      rw [show decide (V.str (tx []) = V.str (Str.ofString "")) = true from decide_eq_true (congrArg V.str str_0.symm)]
      exact iteT (q .non .nil H d (SameD.refl D H) .nil rfl)
    | cons x zs =>
      rw [decide_eq_false (fun e => by have := tx_nil (V.str.inj e); cases this)]
      refine iteF ?_
      have hn' : zs.length + 1 < N + 1 := hn
      have h100' : zs.length + 1 ≤ 100 := h100
      have hc' : n + 2 * (zs.length + 1) ≤ 1000000 := hc
      refine ⟨_, rfl, tx (x :: zs), rfl, (by rw [tx_len]; exact Nat.le_of_lt (small (by omega))), _, _, rfl, rfl, ?_⟩
      rw [tx_len]
      have el : (((x :: zs).length : Nat) : Int) - 1 = (zs.length : Int) := by rw [List.length_cons]; omega
      generalize hz3 : (fun i j : Int => V.int (i - j)) (((x :: zs).length : Nat) : Int) 1 = z3
      obtain rfl : z3 = .int (zs.length : Int) := by rw [← hz3]; exact congrArg V.int el
      refine ⟨_, rfl, _, rfl, _, _, rfl, rfl, D, n, _, rfl, d, by omega, by omega, by omega, fun i H1 i0 i1 d1 s1 => ?_⟩
      refine ⟨_, rfl, _, rfl, D, n + 1, _, rfl, d1, by omega, by decide, by decide, fun j H2 j0 j1 d2 s2 => ?_⟩
      refine ⟨_, _, rfl, rfl, ?_, ?_⟩
      · exact .inl ⟨by omega, by omega⟩
      refine ⟨_, rfl, _, _, rfl, rfl, ⟨by decide, by decide⟩, (by show 3 ≤ sizeLine; decide), fun p np => ?_⟩
      have jm : ∃ mz : Nat, mz ≤ zs.length ∧ (zs.length : Int) * j = (mz : Int) := by
        rcases (by omega : j = 0 ∨ j = 1) with rfl | rfl
        · exact ⟨0, Nat.zero_le _, by omega⟩
        · exact ⟨zs.length, Nat.le_refl _, by omega⟩
      obtain ⟨mz, hmz, emz⟩ := jm
      have sp0 : ∃ sp : Nat, sp ≤ zs.length ∧ atI [V.int i, (fun i j : Int => V.int (i * j)) (zs.length : Int) j, (fun i j : Int => V.int (i / j)) (zs.length : Int) 2] (way : Int) = some (V.int (sp : Int)) := by
        rcases (by omega : way = 0 ∨ way = 1 ∨ way = 2) with rfl | rfl | rfl
        · refine ⟨i.toNat, by omega, (atI_nat (j := 0) rfl).trans ?_⟩
          rw [Int.toNat_of_nonneg i0]
        · exact ⟨mz, hmz, (atI_nat (j := 1) rfl).trans (congrArg (fun z => some (V.int z)) emz)⟩
        · exact ⟨zs.length / 2, by omega, (atI_nat (j := 2) rfl).trans (congrArg (fun z => some (V.int z)) (by omega))⟩
      obtain ⟨sp, hsp, esp⟩ := sp0
      have d3 := d2.put (d2.new np) (.lst [V.int i, (fun i j : Int => V.int (i * j)) (zs.length : Int) j, (fun i j : Int => V.int (i / j)) (zs.length : Int) 2])
      have s3 := (s1.trans s2).trans (SameD.of (same_new np (.lst [V.int i, (fun i j : Int => V.int (i * j)) (zs.length : Int) j, (fun i j : Int => V.int (i / j)) (zs.length : Int) 2])))
      refine ⟨_, rfl, p, _, _, _, rfl, rfl, SqL.of upd_same, esp, ?_⟩
      generalize upd H2 p (.lst [V.int i, (fun i j : Int => V.int (i * j)) (zs.length : Int) j, (fun i j : Int => V.int (i / j)) (zs.length : Int) 2]) = H3 at d3 s3 ⊢
      have c1 : cutS (tx (x :: zs)) (some 1) (some ((sp : Int) + 1)) = tx (zs.take sp) := by
        have h := tx_mid (l := x :: zs) (i := 1) (j := sp + 1) (by rw [List.length_cons]; omega) (by rw [List.length_cons]; omega)
        exact h
      have c2 : cutS (tx (x :: zs)) (some ((sp : Int) + 1)) none = tx (zs.drop sp) := tx_from (x :: zs) (sp + 1)
      have zl : (tx (x :: zs)).length ≤ sizeLine := by rw [tx_len]; exact Nat.le_of_lt (small (by omega))
      refine ⟨_, rfl, 1, rfl, _, rfl, _, _, rfl, rfl, _, rfl, tx (x :: zs), rfl, zl, ?_⟩
      refine ⟨_, rfl, _, rfl, _, _, rfl, rfl, _, rfl, tx (x :: zs), rfl, zl, _, _, rfl, ?_⟩
      rw [c1, c2]
      have lt : (zs.take sp).length = sp := by rw [List.length_take]; omega
      have ld : (zs.drop sp).length = zs.length - sp := List.length_drop
      refine ⟨_, rfl, _, rfl, _, rfl, D, n + 1 + 1, way, zs.take sp, rfl, hw, by omega, by omega, d3, by omega, fun v1 t1 H4 d4 s4 b1 e1 => ?_⟩
      refine ⟨_, rfl, tx (x :: zs), 0, x, rfl, rfl, zl, atI_nat (j := 0) rfl, ?_⟩
      refine ⟨_, rfl, _, rfl, _, rfl, D, _, way, zs.drop sp, rfl, hw, by omega, by omega, d4, by omega, fun v2 t2 H5 d5 s5 b2 e2 => ⟨(by show 3 ≤ sizeLine; decide), fun p2 np2 => ?_⟩⟩
      have sN := same_new np2 (.tup [v1, V.str (ch x), v2])
      have dN := d5.same sN
      rw [show n + 1 + 1 + 2 * (zs.take sp).length + 2 * (zs.drop sp).length = n + 2 * (x :: zs).length by rw [List.length_cons]; omega] at dN
      refine q _ (.node t1 x t2) _ dN (s3.trans (s4.trans (s5.trans (SameD.of sN)))) (.node upd_same ((b1.keep (s5.keepT d4)).same sN) (b2.same sN)) ?_
      show x :: (t1.pre ++ t2.pre) = x :: zs
      rw [e1, e2, List.take_append_drop]
end
/-! ### _law_drawn_tree -/
def spDrawnTree (N : Nat) : Sp := fun vs H Q _ => ∃ (D : Deck) (n m : Nat), vs = [.ref D.dk, .int (m : Int)] ∧ DeckOk H D n ∧ n ≤ 900000 ∧ 0 < m ∧ m ≤ 26 ∧ m < N ∧
  ∀ (v : V) (t : B) (H' : Hp) (n' : Nat), n' ≤ n + 80 → DeckOk H' D n' → SameD D H H' → BAt H' v t → Lts t.pre → 0 < t.size → t.size ≤ m → Q v H'
section
variable {P : Program} {w : World} {K : PySem.W.Frag} {mg : Str → Option Value} {base : Heap} {f : Addr} {fd : FuncData}
theorem ok_drawn {N : Nat} (F : Fun K "_law_drawn_tree" "_law_drawn_tree" s__law_drawn_tree f fd) (M : Mgs mg)
    (D_law_draw : Df P w K mg base (N + 1) "_law_draw" ["_law_spring_here", "_law_bound"] spDraw)
    (D_law_letters : Df P w K mg base (N + 1) "_law_letters" ["_law_spring_here", "_law_many"] spLetters)
    (D_law_grown : Df P w K mg base (N + 1) "_law_grown" ["_law_spring_here", "_law_letters_here", "_law_way"] (spGrown N)) :
    FnOk P w K mg base CX0 (N + 2) f fd ["_law_spring_here", "_law_bound"] (spDrawnTree N) := by
  refine F.ok (k := N + 1) sc__law_drawn_tree (fun vs H Q E h => ?_) (fun cdv A outer s H vs Q E hr h => ?_)
  · obtain ⟨D, n, m, rfl, _⟩ := h
    rfl
  obtain ⟨D, n, m, rfl, d, hn, m0, m26, mN, q⟩ := h
  refine ⟨_, (pss_cons (ps_set (i := 2) sc__law_drawn_tree.nd rfl (.inl rfl) (pe_call D_law_letters.ok (hr.mono (by omega)) rfl D_law_letters.g D_law_letters.kp D_law_letters.b .nil pass0 (pa_cons (pv 0) (pa_cons (pe_op op_add pe_int (pe_call D_law_draw.ok (hr.mono (by omega)) rfl D_law_draw.g D_law_draw.kp D_law_draw.b .nil pass0 (pa_cons (pv 0) (pa_cons (pv 1) pa_nil)))) pa_nil))))
    (pss_one (ps_ret (pe_call D_law_grown.ok (hr.mono (by omega)) rfl D_law_grown.g D_law_grown.kp D_law_grown.b .nil pass0 (pa_cons (pv 0) (pa_cons (pv 2) (pa_cons (pe_call D_law_draw.ok (hr.mono (by omega)) rfl D_law_draw.g D_law_draw.kp D_law_draw.b .nil pass0 (pa_cons (pv 0) (pa_cons pe_int pa_nil))) pa_nil))))))), ?_⟩
  refine ⟨_, rfl, _, rfl, _, rfl, D, n, _, rfl, d, by omega, by omega, by omega, fun i H1 i0 i1 d1 s1 => ?_⟩
  obtain ⟨k, rfl⟩ := Int.eq_ofNat_of_zero_le i0
  have vk : (fun i j : Int => V.int (i + j)) 1 (k : Int) = V.int ((1 + k : Nat) : Int) := congrArg V.int (by omega)
  refine ⟨_, _, rfl, rfl, D, n + 1, 1 + k, congrArg (fun z => [V.ref D.dk, z]) vk, d1, by omega, by omega, fun zs H2 d2 s2 lz ez => ?_⟩
  refine ⟨_, rfl, _, rfl, _, rfl, D, _, _, rfl, d2, by omega, by decide, by decide, fun j H3 j0 j1 d3 s3 => ?_⟩
  obtain ⟨way, rfl⟩ := Int.eq_ofNat_of_zero_le j0
  refine ⟨D, _, way, zs, rfl, by omega, by omega, by omega, d3, by omega, fun v t H4 d4 s4 b e => ?_⟩
  have ts : t.size = 1 + k := by rw [← t.pre_len, e, ez]
  exact q v t H4 _ (by omega) d4 (s1.trans (s2.trans (s3.trans s4))) b (by rw [e]; exact lz) (by omega) (by omega)
end
/-! ### _law_closed -/
theorem take_nextG {α : Type} {l : List α} {i : Nat} {c : α} (h : l[i]? = some c) : l.take (i + 1) = l.take i ++ [c] := by
  rw [List.take_succ, h]; rfl
theorem take_next {l : List Nat} {i c : Nat} (h : l[i]? = some c) : l.take (i + 1) = l.take i ++ [c] := by
  rw [List.take_succ, h]; rfl
def spClosed : Sp := fun vs H Q _ => ∃ (D : Deck) (n : Nat) (zs : List Nat), vs = [.ref D.dk, .str (tx zs)] ∧ DeckOk H D n ∧ n + zs.length ≤ 1000000 ∧ zs.length ≤ 100 ∧
  ∀ (ys : List Nat) (H' : Hp) (n' : Nat), n' ≤ n + zs.length → DeckOk H' D n' → SameD D H H' → ys.Perm zs → Q (.str (tx ys)) H'
section
variable {P : Program} {w : World} {K : PySem.W.Frag} {mg : Str → Option Value} {base : Heap} {f : Addr} {fd : FuncData}
theorem last_map {l : List Nat} (h : 0 < l.length) : (l.map vc)[(l.map vc).length - 1]? = some (vc (l[l.length - 1]'(by omega))) := by
  rw [List.length_map, List.getElem?_map, List.getElem?_eq_getElem (by omega)]
  rfl
theorem drop_last_perm {l : List Nat} (h : 0 < l.length) (fs : List Nat) : (fs ++ [l[l.length - 1]'(by omega)] ++ l.dropLast).Perm (fs ++ l) := by
  have e : l.dropLast ++ [l[l.length - 1]'(by omega)] = l := by
    have hne : l ≠ [] := fun z => by rw [z] at h; exact absurd h (by decide)
    have := List.dropLast_concat_getLast hne
    rw [List.getLast_eq_getElem] at this
    exact this
  conv => rhs; rw [← e]
  rw [List.append_assoc]
  exact List.Perm.append_left fs List.perm_append_comm
theorem ok_closed {k : Nat} (F : Fun K "_law_closed" "_law_closed" s__law_closed f fd) (M : Mgs mg) (D_law_draw : Df P w K mg base (k + 1) "_law_draw" ["_law_spring_here", "_law_bound"] spDraw) : FnOk P w K mg base CX0 (k + 2) f fd ["_law_spring_here", "_law_letters_here"] spClosed := by
  refine F.ok (k := k + 1) sc__law_closed (fun vs H Q E h => ?_) (fun cdv A outer s H vs Q E hr h => ?_)
  · obtain ⟨D, n, zs, rfl, _⟩ := h
    rfl
  obtain ⟨D, n, zs, rfl, d, hn, h100, q⟩ := h
  refine ⟨_, (pss_cons (ps_par (i := 2) (j := 3) (by rfl) sc__law_closed.nd rfl rfl (by decide) rfl rfl (pa_cons (pe_lst pa_nil) (pa_cons pe_str pa_nil)) (by rfl))
    (pss_cons (ps_for PassesOwn.never rfl (pi_str (pv 1)) (pg_name (i := 4) sc__law_closed.nd rfl (.inl rfl))
      (pss_cons (ps_set (i := 5) sc__law_closed.nd rfl (.inl rfl) (pe_ifExp (pt_cmpR (op_neL hr.units0) (pv 2) (pe_lst pa_nil) (nomark _)) (pe_op op_add pe_int (pe_call D_law_draw.ok (hr.mono (by omega)) rfl D_law_draw.g D_law_draw.kp D_law_draw.b .nil pass0 (pa_cons (pv 0) (pa_cons (pe_callB call_len_seq rfl M.len PySem.boot_len (pa_cons (pv 2) pa_nil)) pa_nil)))) pe_int))
    (pss_cons (ps_while PassesOwn.never (pt_cmpR op_gt (pe_callB call_len_seq rfl M.len PySem.boot_len (pa_cons (pv 2) pa_nil)) (pv 5) (nomark _))
      (pss_one (ps_set (i := 3) sc__law_closed.nd rfl (.inl rfl) (pe_op op_add_str (pv 3) (pe_bm0 PySem.F.plainAttrs_list PySem.F.slot_list_pop PySem.F.type_list_pop mt_pop (pv 2))))))
    (pss_one (ps_expr (pe_bm PySem.F.plainAttrs_list PySem.F.slot_list_append PySem.F.type_list_append mt_append (pv 2) (pa_cons (pv 4) pa_nil)))))))
    (pss_one (ps_ret (pe_op op_add_str (pv 3) (pe_bm PySem.F.plainAttrs_str PySem.F.slot_str_join PySem.F.type_str_join mt_join pe_str (pa_cons (pe_revL (pv 2)) pa_nil))))))), ?_⟩
  refine ⟨(by show 0 ≤ sizeLine; decide), fun st nst => ?_⟩
  have q0 := same_new nst (.lst [])
  have est := upd_same (H := H) (a := st) (o := .lst [])
  have d0 := d.same q0
  have ost := d.new nst
  refine ⟨_, _, rfl, ?_⟩
  have nH : ∀ {o : HO} {H' : Hp}, SameD D H H' → SameD D H (upd H' st o) := fun {o H'} s b u h1 h2 h => by
    rw [upd_ne (ne_of_none h nst)]
    exact s b u h1 h2 h
  have sd0 := SameD.of (D := D) q0
  generalize upd H st (.lst []) = H0 at q0 est d0 sd0 ⊢
  refine ⟨_, rfl, _, rfl, ?_⟩
  refine for_text (x := tx zs) (fun i σ H' => ∃ (ss fs : List Nat) (m : Nat) (o4 o5 : Option V), σ = [some (.ref D.dk), some (vt zs), some (.ref st), some (.str (tx fs)), o4, o5] ∧ DeckOk H' D m ∧ m ≤ n + i ∧ SameD D H H' ∧ H' st = some (.lst (ss.map vc)) ∧ (fs ++ ss).Perm (zs.take i))
    ⟨[], [], n, none, none, by rw [← str_0]; rfl, d0, Nat.le_refl _, sd0, est, .refl _⟩ (fun i c σ H1 hc hp => ?_) (fun σ H1 hp => ?_)
  · obtain ⟨ss, fs, m, o4, o5, rfl, d1, lm, s1, e1, pm⟩ := hp
    rw [tx_cps] at hc
    have hi := (List.getElem?_eq_some_iff.mp hc).1
    have plen : fs.length + ss.length = i := by
      have := pm.length_eq
      rw [List.length_append, List.length_take] at this
      omega
    refine ⟨_, rfl, (by show 0 ≤ sizeLine; decide), fun p np => ?_⟩
    have q1 := same_new np (.lst [])
    have e1' := q1 _ _ e1
    have d1' := d1.same q1
    have s1' := s1.trans (SameD.of q1)
    have ep := upd_same (H := H1) (a := p) (o := .lst [])
    generalize upd H1 p (.lst []) = H2 at q1 e1' d1' s1' ep ⊢
    refine ⟨st, p, _, rfl, rfl, SqL.of e1', SqL.of ep, _, rfl, ?_⟩
    have go : ∀ b : Bool, ((!(ss.map vc).isEmpty) = b) → True := fun _ _ => trivial
    by_cases hs : ss = []
    case' pos =>
      subst hs
      refine iteF ?_
      have d2 := d1'
      have s2 := s1'
      have e2 := e1'
      have l2 : m ≤ n + (i + 1) := by omega
      have hj : (0 : Int) ≤ 0 := Int.le_refl 0
    case' neg =>
      have hne : (ss.map vc).isEmpty = false := by
        cases ss with
        | nil => exact absurd rfl hs
        | cons a l => rfl
      rw [show (!(ss.map vc).isEmpty) = true by rw [hne]; rfl]
      have sl : 0 < ss.length := List.length_pos_iff.mpr hs
      refine iteT ⟨_, rfl, _, rfl, st, _, rfl, .inl (SqL.of e1'), D, m, _, rfl, d1', by omega, by rw [List.length_map]; omega, by rw [List.length_map]; omega, fun j H3 j0 j1 d2 s12 => ?_⟩
      refine ⟨_, _, rfl, rfl, ?_⟩
      have s2 := s1'.trans s12
      have e2 := s12.at ost e1'
      have l2 : m + 1 ≤ n + (i + 1) := by omega
      have hj : (0 : Int) ≤ 1 + j := by omega
    all_goals
      refine while_by (fun σ H' => ∃ (ss' fs' : List Nat) (mv : Int), σ = [some (.ref D.dk), some (vt zs), some (.ref st), some (.str (tx fs')), some (vc c), some (.int mv)] ∧ 0 ≤ mv ∧ DeckOk H' D _ ∧ SameD D H H' ∧ H' st = some (.lst (ss'.map vc)) ∧ (fs' ++ ss').Perm (zs.take i)) (fun σ H' => match H' st with | some (.lst xs) => xs.length | _ => 0)
        ⟨_, fs, _, rfl, hj, d2, s2, e2, pm⟩ (fun σ H5 hp => ?_) ?_
      · obtain ⟨ss', fs', mv, rfl, mv0, d5, s5, e5, pm5⟩ := hp
        have plen5 : fs'.length + ss'.length = i := by
          have := pm5.length_eq
          rw [List.length_append, List.length_take] at this
          omega
        refine ⟨_, rfl, st, _, rfl, .inl (SqL.of e5), _, rfl, _, _, rfl, rfl, _, rfl, ite2 (fun hgt => ?_) (fun _ => ?_)⟩
        · have hgt' := of_decide_eq_true hgt
          rw [List.length_map] at hgt'
          have sl5 : 0 < ss'.length := by omega
          refine ⟨_, rfl, _, rfl, .inl ⟨rfl, _, SqL.of e5⟩, st, _, _, rfl, rfl, e5, last_map sl5, _, _, rfl, rfl, small (by rw [tx_len]; show _ + 1 ≤ 1000; omega), ?_⟩
          rw [show tx fs' ++ ch (ss'[ss'.length - 1]'(by omega)) = tx (fs' ++ [ss'[ss'.length - 1]'(by omega)]) from tx_app fs' _]
          refine ⟨⟨ss'.dropLast, _, mv, rfl, mv0, d5.put ost _, nH s5, by rw [upd_same, List.map_dropLast], (drop_last_perm sl5 fs').trans pm5⟩, ?_⟩
          rw [upd_same, e5]
          show (ss'.map vc).dropLast.length < (ss'.map vc).length
          rw [List.length_dropLast, List.length_map]
          omega
        · refine ⟨_, rfl, .inl ⟨rfl, _, SqL.of e5⟩, _, rfl, st, _, _, rfl, rfl, e5, by rw [List.length_map]; exact small1000 (by omega), ?_⟩
          refine ⟨ss' ++ [c], fs', _, _, _, rfl, d5.put ost _, l2, nH s5, by rw [upd_same, List.map_append]; rfl, ?_⟩
          rw [take_next hc, ← List.append_assoc]
          exact pm5.append_right _
      · intro σ H' Q1 Q2 hQ h
        obtain ⟨v, e, p, ys, e2, e3, x, e4, i', j', e5, e6, k', e7, h⟩ := h
        exact ⟨v, e, p, ys, e2, e3, x, e4, i', j', e5, e6, k', e7, hQ _ _ h⟩
  · obtain ⟨ss, fs, m, o4, o5, rfl, d1, lm, s1, e1, pm⟩ := hp
    rw [tx_cps, List.take_length] at pm
    rw [tx_cps] at lm
    have pl := pm.length_eq
    rw [List.length_append] at pl
    refine ⟨_, rfl, rfl, _, rfl, st, _, rfl, SqL.of e1, fun p np => ?_⟩
    have q6 := same_new np (.lst (ss.map vc).reverse)
    refine ⟨_, p, ss.reverse.map ch, rfl, rfl, .inl (SqL.of (by rw [upd_same, ← List.map_reverse, map_vc])), tx_joinOk _ (by rw [List.length_reverse]; omega), ?_⟩
    rw [tx_join]
    refine ⟨_, _, rfl, rfl, small (by rw [tx_len, tx_len, List.length_reverse]; omega), ?_⟩
    rw [tx_app]
    exact q _ _ m lm (d1.same q6) (s1.trans (SameD.of q6)) ((List.Perm.append_left fs (List.reverse_perm ss)).trans pm)
end
/-! ### _law_pair -/
theorem iteI {i j : Int} {A B : Prop} (h : i = j) (a : A) : if decide (V.int i = V.int j) = true then A else B := by
  rw [if_pos (decide_eq_true (congrArg V.int h))]; exact a
theorem iteJ {i j : Int} {A B : Prop} (h : i ≠ j) (b : B) : if decide (V.int i = V.int j) = true then A else B := by
  rw [if_neg (fun z => h (V.int.inj (of_decide_eq_true z)))]; exact b
theorem iteS {x y : Str} {A B : Prop} (h : x = y) (a : A) : if decide (V.str x = V.str y) = true then A else B := by
  rw [if_pos (decide_eq_true (congrArg V.str h))]; exact a
theorem iteR {x y : Str} {A B : Prop} (h : x ≠ y) (b : B) : if decide (V.str x = V.str y) = true then A else B := by
  rw [if_neg (fun z => h (V.str.inj (of_decide_eq_true z)))]; exact b
theorem seq_cut {t u : TS} {D : Ends} {σ : L2.St} {H : Hp} (I : L2.St → Hp → Prop) (h2 : ∀ σ' H', I σ' H' → u D σ' H') (h1 : (∀ σ' H', I σ' H' → u D σ' H') → t { D with nx := u D } σ H) : tSeq t u D σ H := h1 h2
theorem seq_cutN {t u : TS} {D : Ends} {r1 : VK} {r2 r3 : L2.St → Hp → Prop} {σ : L2.St} {H : Hp} (I : L2.St → Hp → Prop) (h2 : ∀ σ' H', I σ' H' → u D σ' H') (h1 : (∀ σ' H', I σ' H' → u D σ' H') → t { D with nx := u D } σ H) : (Ends.mk (tSeq t u D) r1 r2 r3).nx σ H := h1 h2
structure PairI (D : Deck) (v : V) (fr : List Nat) (way : Int) (H : Hp) (n : Nat) (σ : L2.St) (H' : Hp) : Prop where
  ex : ∃ (b : Addr) (bs : List Nat) (nn : Nat) (o6 o7 o8 : Option V), σ = [some (.ref D.dk), some (.int 12), some v, some (.int way), some (vt fr), some (.ref b), o6, o7, o8] ∧ H' b = some (.lst (bs.map vc)) ∧ bs.Perm fr ∧ DeckOk H' D nn ∧ nn ≤ n ∧ SameD D H H' ∧ Off D b ∧ H b = none
theorem PairI.mk' {D : Deck} {v : V} {fr : List Nat} {way : Int} {H : Hp} {n : Nat} {H' : Hp} {b : Addr} {bs : List Nat} {nn : Nat} {o6 o7 o8 : Option V} (e : H' b = some (.lst (bs.map vc))) (p : bs.Perm fr) (d : DeckOk H' D nn) (l : nn ≤ n) (s : SameD D H H') (o : Off D b) (z : H b = none) :
    PairI D v fr way H n [some (.ref D.dk), some (.int 12), some v, some (.int way), some (vt fr), some (.ref b), o6, o7, o8] H' := ⟨b, bs, nn, o6, o7, o8, rfl, e, p, d, l, s, o, z⟩
theorem SameD.own {D : Deck} {H H' : Hp} {b : Addr} {o : HO} (s : SameD D H H') (z : H b = none) : SameD D H (upd H' b o) := fun a u h1 h2 h => by
  rw [upd_ne (ne_of_none h z)]
  exact s a u h1 h2 h
def spPair : Sp := fun vs H Q _ => ∃ (D : Deck) (n : Nat), vs = [.ref D.dk, .int 12] ∧ DeckOk H D n ∧ n ≤ 900000 ∧
  ∀ (p : Addr) (fr bk : List Nat) (H' : Hp) (n' : Nat), n' ≤ n + 200 → DeckOk H' D n' → SameD D H H' → H' p = some (.tup [.str (tx fr), .str (tx bk)]) → Lts fr → bk.Perm fr → 0 < fr.length → fr.length ≤ 12 → Q (.ref p) H'
theorem post_perm : ∀ t : B, t.post.Perm t.pre
  | .nil => .refl _
  | .node l x r => by
    have h1 := post_perm l
    have h2 := post_perm r
    show (l.post ++ r.post ++ [x]).Perm (x :: (l.pre ++ r.pre))
    exact List.perm_append_comm.trans ((h1.append h2).cons x)
theorem set_len {l : List Nat} {i : Nat} {c : Nat} : (l.map vc).set i (vc c) = (l.set i c).map vc := by rw [List.map_set]
theorem swap_perm {l : List Nat} {i j : Nat} (hi : i < l.length) (hj : j < l.length) : ((l.set i l[j]).set j l[i]).Perm l := by
  rw [List.perm_iff_count]
  intro a
  rw [List.count_set (by rw [List.length_set]; exact hj), List.count_set hi, List.getElem_set]
  have h1 := List.count_pos_iff.mpr (List.getElem_mem hi)
  have h2 := List.count_pos_iff.mpr (List.getElem_mem hj)
  by_cases hij : i = j
  · subst hij
    rw [if_pos rfl]
    by_cases ha : l[i] = a
    · rw [ha] at h1
      simp [ha]; omega
    · simp [ha]
  · rw [if_neg hij]
    by_cases ha : l[i] = a
    · rw [ha] at h1
      by_cases hb : l[j] = a
      · simp [ha, hb]; omega
      · simp [ha, hb]; omega
    · by_cases hb : l[j] = a
      · rw [hb] at h2
        simp [ha, hb]
      · simp [ha, hb]
section
variable {P : Program} {w : World} {K : PySem.W.Frag} {mg : Str → Option Value} {base : Heap} {f : Addr} {fd : FuncData}
theorem ok_pair {N : Nat} (hN : 12 < N) (F : Fun K "_law_pair" "_law_pair" s__law_pair f fd) (M : Mgs mg) (D_law_draw : Df P w K mg base (N + 2) "_law_draw" ["_law_spring_here", "_law_bound"] spDraw)
    (D_law_drawn_tree : Df P w K mg base (N + 2) "_law_drawn_tree" ["_law_spring_here", "_law_bound"] (spDrawnTree N)) (D_law_front : Df P w K mg base (N + 2) "_law_front" ["_law_tree"] (spFront 20)) (D_law_back : Df P w K mg base (N + 2) "_law_back" ["_law_tree"] (spBack 20))
    (D_law_closed : Df P w K mg base (N + 2) "_law_closed" ["_law_spring_here", "_law_letters_here"] spClosed) : FnOk P w K mg base CX0 (N + 3) f fd ["_law_spring_here", "_law_bound"] spPair := by
  refine F.ok (k := N + 2) sc__law_pair (fun vs H Q E h => ?_) (fun cdv A outer s H vs Q E hr h => ?_)
  · obtain ⟨D, n, rfl, _⟩ := h
    rfl
  obtain ⟨D, n, rfl, d, hn, q⟩ := h
  refine ⟨_, (pss_cons (ps_par (i := 2) (j := 3) (by rfl) sc__law_pair.nd rfl rfl (by decide) rfl rfl (pa_cons (pe_call D_law_drawn_tree.ok (hr.mono (by omega)) rfl D_law_drawn_tree.g D_law_drawn_tree.kp D_law_drawn_tree.b .nil pass0 (pa_cons (pv 0) (pa_cons (pv 1) pa_nil))) (pa_cons (pe_call D_law_draw.ok (hr.mono (by omega)) rfl D_law_draw.g D_law_draw.kp D_law_draw.b .nil pass0 (pa_cons (pv 0) (pa_cons pe_int pa_nil))) pa_nil)) (by rfl))
    (pss_cons (ps_asg (pe_tup (pa_cons (pe_call D_law_front.ok (hr.mono (by omega)) rfl D_law_front.g D_law_front.kp D_law_front.b .nil pass0 (pa_cons (pv 2) pa_nil)) (pa_cons (pe_callTy (call_signs rfl) rfl M.list (by decide +kernel) (pa_cons (pe_call D_law_back.ok (hr.mono (by omega)) rfl D_law_back.g D_law_back.kp D_law_back.b .nil pass0 (pa_cons (pv 2) pa_nil)) pa_nil)) pa_nil))) (pg_tup rfl (pgs_cons (pg_name (i := 4) sc__law_pair.nd rfl (.inl rfl)) (pgs_cons (pg_name (i := 5) sc__law_pair.nd rfl (.inr rfl)) pgs_nil))))
    (pss_cons (ps_if (pt_cmpR op_eq (pv 3) pe_int (nomark _))
      (pss_one (ps_set (i := 5) sc__law_pair.nd rfl (.inr rfl) (pe_callTy (call_signs rfl) rfl M.list (by decide +kernel) (pa_cons (pe_call D_law_closed.ok (hr.mono (by omega)) rfl D_law_closed.g D_law_closed.kp D_law_closed.b .nil pass0 (pa_cons (pv 0) (pa_cons (pv 4) pa_nil))) pa_nil)))) pss_nil)
    (pss_cons (ps_if (pt_cmpR op_eq (pv 3) pe_int (nomark _))
      (pss_one (ps_set (i := 5) sc__law_pair.nd rfl (.inr rfl) (pe_lc (own := [("_law_k", 6)]) (g := gName 6) (tt := tYes) rfl sc__law_pair.nd (pi_range1 rfl M.range (pa_cons (pe_callB call_len_seq rfl M.len PySem.boot_len (pa_cons (pv 5) pa_nil)) pa_nil)) (blkOk_by (N := ["_law_spring_here", "_law_bound", "_law_tree", "_law_way", "_law_front_here", "_law_back_here", "_law_k", "_law_p", "_law_q"]) (sc := defScope s__law_pair) (by decide +kernel)) (fun _ _ _ _ _ => (pg_name (i := 6) sc__law_pair.nd rfl (.inl rfl))) (fun _ _ _ _ _ => pts_nil) (fun _ _ _ _ _ => (show PE _ _ (tBM K _ _ _ _) from pe_bm PySem.F.plainAttrs_list PySem.F.slot_list_pop PySem.F.type_list_pop mt_popAt (pv 5) (pa_cons (pe_call D_law_draw.ok (hr.mono (by omega)) rfl D_law_draw.g D_law_draw.kp D_law_draw.b .nil pass0 (pa_cons (pv 0) (pa_cons (pe_callB (show CallR _ (.builtin "len") (rLenSeq K) from call_len_seq) rfl M.len PySem.boot_len (pa_cons (pv 5) pa_nil)) pa_nil))) pa_nil)))))) pss_nil)
    (pss_cons (ps_if (pt_cmpR op_eq (pv 3) pe_int (nomark _))
      (pss_cons (ps_par (i := 7) (j := 8) (by rfl) sc__law_pair.nd rfl rfl (by decide) rfl rfl (pa_cons (pe_call D_law_draw.ok (hr.mono (by omega)) rfl D_law_draw.g D_law_draw.kp D_law_draw.b .nil pass0 (pa_cons (pv 0) (pa_cons (pe_callB call_len_seq rfl M.len PySem.boot_len (pa_cons (pv 5) pa_nil)) pa_nil))) (pa_cons (pe_call D_law_draw.ok (hr.mono (by omega)) rfl D_law_draw.g D_law_draw.kp D_law_draw.b .nil pass0 (pa_cons (pv 0) (pa_cons (pe_callB call_len_seq rfl M.len PySem.boot_len (pa_cons (pv 5) pa_nil)) pa_nil))) pa_nil)) (by rfl))
    (pss_one (ps_asg (pe_tup (pa_cons (pe_ix ix_list (pv 5) (pv 8) (fun _ _ => rfl)) (pa_cons (pe_ix ix_list (pv 5) (pv 7) (fun _ _ => rfl)) pa_nil))) (pg_tup rfl (pgs_cons (pg_sub (pv 5) (pv 7) set_list) (pgs_cons (pg_sub (pv 5) (pv 8) set_list) pgs_nil)))))) pss_nil)
    (pss_one (ps_ret (pe_tup (pa_cons (pv 4) (pa_cons (pe_bm PySem.F.plainAttrs_str PySem.F.slot_str_join PySem.F.type_str_join mt_join pe_str (pa_cons (pv 5) pa_nil)) pa_nil)))))))))), ?_⟩
  refine ⟨_, rfl, _, rfl, D, n, 12, rfl, d, hn, by decide, by decide, hN, fun v t H1 n1 l1 d1 s1 hv lt t0 t12 => ?_⟩
  refine ⟨_, rfl, D, n1, _, rfl, d1, by omega, by decide, by decide, fun way H2 w0 w5 d2 s2 => ?_⟩
  refine ⟨_, _, rfl, ?_⟩
  have hv2 := hv.keep (s2.keepT d1)
  have tp := t.pre_len
  have tb := t.post_len
  refine ⟨_, rfl, v, t, rfl, hv2, by omega, by omega, _, rfl, v, t, rfl, hv2, by omega, by omega, tx t.post, rfl, (by show t.post.length ≤ 1000; omega), fun b nb => ?_⟩
  have q3 := same_new nb (.lst (t.post.map vc))
  have e3 := upd_same (H := H2) (a := b) (o := .lst (t.post.map vc))
  have d3 := d2.same q3
  have o3 := d2.new nb
  have s3 := (s1.trans s2).trans (SameD.of q3)
  have hb0 : ∀ {o : HO} {H' : Hp}, SameD D H H' → SameD D H (upd H' b o) := fun {o H'} s a u h1 h2 h => by
    have : a ≠ b := fun z => by
      have h5 := (s1.trans s2) a u h1 h2 h
      rw [z, nb] at h5; cases h5
    rw [upd_ne this]
    exact s a u h1 h2 h
  change ∀ {o : HO} {H' : Hp}, SameD D H H' → SameD D H (upd H' b o) at hb0
  generalize hH3 : upd H2 b (.lst (t.post.map vc)) = H3 at q3 e3 d3 s3
  have hH3' : upd H2 b (.lst ((tx t.post).cps.toList.map fun c => V.str ⟨#[c]⟩)) = H3 := hH3
  rw [hH3']
  refine ⟨(by show 2 ≤ sizeLine; decide), fun tp2 ntp2 => ?_⟩
  have q4 := same_new ntp2 (.tup [.str (tx t.pre), .ref b])
  refine ⟨tp2, _, rfl, SqT.of upd_same, rfl, _, _, rfl, _, _, rfl, rfl, ?_⟩
  have e4 := q4 _ _ e3
  have d4 := d3.same q4
  have s4 := s3.trans (SameD.of q4)
  generalize upd H3 tp2 (.tup [.str (tx t.pre), .ref b]) = H4 at q4 e4 d4 s4 ⊢
  have p4 := post_perm t
  clear hv hv2 hH3 hH3' q3 q4 e3 d3 s3 d1
  generalize hfr : t.pre = fr at *
  generalize t.post = bs at *
  have fl : 0 < fr.length := by omega
  have fl2 : fr.length ≤ 12 := by omega
  have zb := (s1.trans s2).free d2 nb
  refine seq_cutN (PairI D v fr way H (n + 110)) (fun σ H5 hp => ?_) (fun rest => ?_)
  rotate_left
  · refine ⟨_, rfl, rfl, _, rfl, ?_⟩
    by_cases h2 : way = 2
    · refine iteI h2 ?_
      refine ⟨_, rfl, _, rfl, D, _, fr, rfl, d4, by omega, by omega, fun ys H5 n5 l5 d5 s5 pm => ?_⟩
      have yl := pm.length_eq
      refine ⟨tx ys, rfl, (by show ys.length ≤ 1000; omega), fun c nc => ?_⟩
      have q6 := same_new nc (.lst (ys.map vc))
      have s45 := s4.trans s5
      exact rest _ _ (.mk' (bs := ys) upd_same pm (d5.same q6) (by omega) (s45.trans (SameD.of q6)) (d5.new nc) (s45.free d5 nc))
    · refine iteJ h2 ?_
      exact rest _ _ (.mk' e4 p4 d4 (by omega) s4 o3 zb)
  obtain ⟨b, bs, nn, o6, o7, o8, rfl, e5, p5, d5, l5, s5, ob, zb⟩ := hp.ex
  refine seq_cut (PairI D v fr way H (n + 130)) (fun σ H6 hp => ?_) (fun rest => ?_)
  rotate_left
  · refine ⟨_, rfl, rfl, _, rfl, ?_⟩
    by_cases h2 : way = 3
    · refine iteI h2 ?_
      have bl := p5.length_eq
      refine ⟨_, rfl, b, _, rfl, .inl (SqL.of e5), _, rfl, by rw [List.length_map]; omega, by rw [List.length_map]; omega, fun Dc nDc => ?_⟩
      rw [Int.toNat_natCast, List.length_map]
      have q6 := same_new nDc (.lst [])
      have oDc := d5.new nDc
      have nbd : b ≠ Dc := ne_of_none e5 nDc
      have zDc := s5.free d5 nDc
      refine lc_it (walk_range (lo := 0) (n := bs.length)) (fun i H' => ∃ rest xs : List Nat, xs.length = i ∧ DeckOk H' D (nn + i) ∧ SameD D H H' ∧ H' b = some (.lst (rest.map vc)) ∧ H' Dc = some (.lst (xs.map vc)) ∧ (xs ++ rest).Perm bs)
        ⟨bs, [], rfl, d5.put oDc _, s5.own zDc, by rw [upd_ne nbd]; exact e5, upd_same, .refl _⟩ (fun i H' _ _ => trivial) (fun i x H' H'' hi hp hy => ?_) (fun H' hp => ?_)
      · obtain ⟨rs, xs, hx, d2, s2, er, eD, pm⟩ := hp
        obtain ⟨rfl, rfl⟩ := hy
        have hlen : xs.length + rs.length = bs.length := by rw [← List.length_append, pm.length_eq]
        refine ⟨rfl, kept ?_⟩
        refine ⟨_, rfl, .inl ⟨rfl, _, SqL.of er⟩, _, rfl, _, rfl, b, _, rfl, .inl (SqL.of er), D, _, _, rfl, d2, by omega, by rw [List.length_map]; omega, by rw [List.length_map]; omega, fun j H2 j0 j1 d3 s3 => ?_⟩
        rw [List.length_map] at j1
        have hj : j.toNat < rs.length := by omega
        have er2 := s3.at ob er
        have eD2 := s3.at oDc eD
        refine ⟨b, _, j, j.toNat, vc rs[j.toNat], rfl, rfl, er2, by omega, by omega, (ixN_seq (ixN_nat j0 (by rw [List.length_map]; omega))).1, by rw [List.getElem?_map, List.getElem?_eq_getElem hj]; rfl, ?_⟩
        refine ⟨_, by rw [upd_ne nbd.symm]; exact eD2, by rw [List.length_map]; exact small1000 (by omega), rs.eraseIdx j.toNat, xs ++ [rs[j.toNat]], by rw [List.length_append, hx]; rfl, (d3.put ob _).put oDc _, ((s2.trans s3).own zb).own zDc, ?_, ?_, ?_⟩
        · rw [upd_ne nbd, upd_same, erase_map]
        · rw [upd_same, List.map_append]; rfl
        · rw [List.append_assoc]
          exact (List.Perm.append_left xs (erase_perm hj)).trans pm
      · obtain ⟨rs, xs, hx, d2, s2, er, eD, pm⟩ := hp
        have hr0 : rs = [] := by
          have := pm.length_eq
          rw [List.length_append] at this
          exact List.length_eq_zero_iff.mp (by omega)
        subst hr0
        rw [List.append_nil] at pm
        exact rest _ _ (.mk' eD (pm.trans p5) d2 (by omega) s2 oDc zDc)
    · refine iteJ h2 ?_
      exact rest _ _ (.mk' e5 p5 d5 (by omega) s5 ob zb)
  obtain ⟨b, bs, nn, o6, o7, o8, rfl, e5, p5, d5, l5, s5, ob, zb⟩ := hp.ex
  have bl := p5.length_eq
  refine seq_cut (PairI D v fr way H (n + 150)) (fun σ H6 hp => ?_) (fun rest => ?_)
  rotate_left
  · refine ⟨_, rfl, rfl, _, rfl, ?_⟩
    by_cases h2 : way = 4
    · refine iteI h2 ?_
      refine ⟨_, rfl, _, rfl, b, _, rfl, .inl (SqL.of e5), D, nn, _, rfl, d5, by omega, by rw [List.length_map]; omega, by rw [List.length_map]; omega, fun i H6 i0 i1 d6 s6 => ?_⟩
      have e6 := s6.at ob e5
      refine ⟨_, rfl, _, rfl, b, _, rfl, .inl (SqL.of e6), D, _, _, rfl, d6, by omega, by rw [List.length_map]; omega, by rw [List.length_map]; omega, fun j H7 j0 j1 d7 s7 => ?_⟩
      have e7 := s7.at ob e6
      rw [List.length_map] at i1 j1
      have hi : i.toNat < bs.length := by omega
      have hj : j.toNat < bs.length := by omega
      refine ⟨_, _, rfl, ?_⟩
      have ai := at_map (f := vc) i0 (List.getElem?_eq_getElem hi)
      have aj := at_map (f := vc) j0 (List.getElem?_eq_getElem hj)
      refine ⟨_, rfl, _, rfl, b, _, _, _, rfl, rfl, SqL.of e7, aj, _, rfl, _, rfl, b, _, _, _, rfl, rfl, SqL.of e7, ai, (by show 2 ≤ sizeLine; decide), fun tp3 ntp3 => ?_⟩
      have q8 := same_new ntp3 (.tup [vc bs[j.toNat], vc bs[i.toNat]])
      have e8 := q8 _ _ e7
      have d8 := d7.same q8
      have s8 := ((s5.trans s6).trans s7).trans (SameD.of q8)
      refine ⟨tp3, _, rfl, SqT.of upd_same, rfl, _, _, rfl, ?_⟩
      generalize upd H7 tp3 (.tup [vc bs[j.toNat], vc bs[i.toNat]]) = H8 at e8 d8 s8 ⊢
      refine ⟨_, rfl, _, rfl, b, _, _, _, rfl, rfl, e8, ixN_nat i0 (by rw [List.length_map]; omega), ?_⟩
      refine ⟨_, _, rfl, _, rfl, _, rfl, b, _, _, _, rfl, rfl, upd_same, ixN_nat j0 (by rw [List.length_set, List.length_map]; omega), rfl, ?_⟩
      exact rest _ _ (.mk' (bs := (bs.set i.toNat bs[j.toNat]).set j.toNat bs[i.toNat]) (by rw [upd_same, set_len, set_len]) ((swap_perm hi hj).trans p5) ((d8.put ob _).put ob _) (by omega) ((s8.own zb).own zb) ob zb)
    · refine iteJ h2 ?_
      exact rest _ _ (.mk' e5 p5 d5 (by omega) s5 ob zb)
  obtain ⟨b, bs, nn, o6, o7, o8, rfl, e5, p5, d5, l5, s5, ob, zb⟩ := hp.ex
  have bl := p5.length_eq
  rw [map_vc] at e5
  refine ⟨_, rfl, rfl, _, rfl, _, b, bs.map ch, rfl, rfl, .inl (SqL.of e5), tx_joinOk _ (by omega), ?_⟩
  rw [tx_join]
  refine ⟨(by show 2 ≤ sizeLine; decide), fun p np => ?_⟩
  exact q p fr bs _ nn (by omega) (d5.same (same_new np _)) (s5.trans (SameD.of (same_new np _))) upd_same lt p5 fl fl2
end
/-! ### places of letters in texts; is_letter, is_ascending, in_order, is_below -/
def pos : List Nat → Nat → Nat
  | [], _ => 0
  | x :: l, c => if x = c then 0 else pos l c + 1
theorem pos_lt : ∀ {l : List Nat} {c : Nat}, c ∈ l → pos l c < l.length
  | x :: l, c, h => by
    show (if x = c then 0 else pos l c + 1) < l.length + 1
    split
    · omega
    · rename_i hx
      rcases List.mem_cons.mp h with e | e
      · exact absurd e.symm hx
      · have := pos_lt e
        omega
theorem pos_get : ∀ {l : List Nat} {c : Nat}, c ∈ l → l[pos l c]? = some c
  | x :: l, c, h => by
    show (x :: l)[if x = c then 0 else pos l c + 1]? = some c
    split
    · rename_i hx; rw [hx]; rfl
    · rename_i hx
      rcases List.mem_cons.mp h with e | e
      · exact absurd e.symm hx
      · rw [List.getElem?_cons_succ]; exact pos_get e
theorem pos_first : ∀ {l : List Nat} {c k : Nat}, k < pos l c → l[k]? ≠ some c
  | [], _, _, h => absurd h (Nat.not_lt_zero _)
  | x :: l, c, k, h => by
    have h : k < (if x = c then 0 else pos l c + 1) := h
    split at h
    · omega
    · rename_i hx
      cases k with
      | zero => exact fun z => hx (Option.some.inj z)
      | succ k => rw [List.getElem?_cons_succ]; exact pos_first (by omega)
theorem pos_at : ∀ {l : List Nat} {i c : Nat}, l.Nodup → l[i]? = some c → pos l c = i
  | x :: l, 0, c, _, h => by
    have : x = c := Option.some.inj h
    show (if x = c then 0 else pos l c + 1) = 0
    rw [if_pos this]
  | x :: l, i + 1, c, nd, h => by
    have h : l[i]? = some c := h
    have n := List.nodup_cons.mp nd
    have : x ≠ c := fun z => n.1 (z ▸ List.mem_of_getElem? h)
    show (if x = c then 0 else pos l c + 1) = i + 1
    rw [if_neg this, pos_at n.2 h]
theorem pos_inj {l : List Nat} {c d : Nat} (hc : c ∈ l) (hd : d ∈ l) (e : pos l c = pos l d) : c = d := by
  have h1 := pos_get hc
  have h2 := pos_get hd
  rw [e, h2] at h1
  exact (Option.some.inj h1).symm
theorem pos_left : ∀ {a b : List Nat} {c : Nat}, c ∈ a → pos (a ++ b) c = pos a c
  | x :: a, b, c, h => by
    show (if x = c then 0 else pos (a ++ b) c + 1) = if x = c then 0 else pos a c + 1
    split
    · rfl
    · rename_i hx
      rcases List.mem_cons.mp h with e | e
      · exact absurd e.symm hx
      · rw [pos_left e]
theorem pos_right : ∀ {a b : List Nat} {c : Nat}, c ∉ a → pos (a ++ b) c = a.length + pos b c
  | [], b, c, _ => (Nat.zero_add _).symm
  | x :: a, b, c, h => by
    have n := fun z => h (List.mem_cons_of_mem x z)
    show (if x = c then 0 else pos (a ++ b) c + 1) = a.length + 1 + pos b c
    rw [if_neg (fun z => h (by rw [z]; exact List.mem_cons_self)), pos_right n]
    omega
theorem pos_nil : ∀ {l : List Nat} {c : Nat}, c ∉ l → pos l c = l.length
  | [], _, _ => rfl
  | x :: l, c, h => by
    show (if x = c then 0 else pos l c + 1) = l.length + 1
    rw [if_neg (fun z => h (by rw [z]; exact List.mem_cons_self)), pos_nil (fun z => h (List.mem_cons_of_mem x z))]
theorem occ_pos {L : List Nat} {c : Nat} (h : c ∈ L) : (∃ rest, Builtin.Str.occurrences (tx L) (ch c) 0 (tx L).length 1 = pos L c :: rest) ∧ Txt.find (tx L) (ch c) = (pos L c : Int) := by
  have at_iff : ∀ k, StrLaws.At (tx L) (ch c) (tx L).length k ↔ L[k]? = some c := fun k => StrLaws.subAt_one (tx L) c k
  rcases PyProof.Rows.find_whole (tx L) (ch c) with ⟨_, h1⟩ | ⟨i, h1, h2, h3⟩
  · exact absurd ((at_iff _).mpr (pos_get h)) (h1 _)
  · have ei : i = pos L c := by
      rcases Nat.lt_trichotomy i (pos L c) with e | e | e
      · exact absurd ((at_iff i).mp h2) (pos_first e)
      · exact e
      · exact absurd ((at_iff _).mpr (pos_get h)) (h3 _ e)
    subst ei
    refine ⟨?_, h1⟩
    unfold Txt.find at h1
    split at h1
    · rename_i j rest hj
      have : j = pos L c := by omega
      subst this
      exact ⟨rest, hj⟩
    · omega
def rSIndex : V → List V → Hp → VK → Prop := fun x xs H Q => ∃ (l : List Nat) (c : Nat), x = .str (tx l) ∧ xs = [.str (ch c)] ∧ c ∈ l ∧ Q (.int (pos l c : Int)) H
theorem mt_sindexC {X : Cx} : MtR X "str.index" rSIndex := by
  intro pins s σ H x xs v us Q I rx rs h
  obtain ⟨l, c, rfl, rfl, hc, q⟩ := h
  obtain ⟨rest, hr⟩ := (occ_pos hc).1
  exact mt_sindex pins s σ H _ _ v us Q I rx rs ⟨_, _, _, rest, rfl, rfl, hr, q⟩
def rSFind : V → List V → Hp → VK → Prop := fun x xs H Q => ∃ (l : List Nat) (c : Nat), x = .str (tx l) ∧ xs = [.str (ch c)] ∧ c ∈ l ∧ Q (.int (pos l c : Int)) H
theorem mt_findC {X : Cx} : MtR X "str.find" rSFind := by
  intro pins s σ H x xs v us Q I rx rs h
  obtain ⟨l, c, rfl, rfl, hc, q⟩ := h
  refine mt_find pins s σ H _ _ v us Q I rx rs ⟨_, _, rfl, rfl, ?_⟩
  rw [(occ_pos hc).2]
  exact q
theorem lc_zipL {K : PySem.W.Frag} {a b : Addr} {xs ys : List V} {n : Nat} {g : TG} {tt : TT} {te : TE} {vs : List Nat} {σ : L2.St} {H1 : Hp} {D : Addr} {Qd : Hp → Prop} (hn : n = min xs.length ys.length) (Pv : Nat → Hp → Prop) (h0 : Pv 0 (upd H1 D (.lst []))) (hq : ∀ i H, Pv i H → SqL K H a xs ∧ SqL K H b ys)
    (hs : ∀ (i : Nat) (x y : V) (T : Addr) (H : Hp), i < n → xs[i]? = some x → ys[i]? = some y → Pv i H → H T = none → g (.ref T) (wipe σ vs) (upd H T (.tup [x, y])) fun σ2 H2 => wipe σ2 vs = wipe σ vs ∧ tt σ2 H2 fun b H3 =>
      if b = true then te σ2 H3 fun y H4 => ∃ acc, H4 D = some (.lst acc) ∧ acc.length < sizeLine ∧ Pv (i + 1) (upd H4 D (.lst (acc ++ [y]))) else Pv (i + 1) H3) (hd : ∀ H, Pv n H → Qd H) :
    ∃ W : Nat → Nat → Hp → Prop, (∃ m, W 0 m (upd H1 D (.lst []))) ∧ ∀ i m H, W i m H →
      ((Itz K a b).stop i H ∧ Qd H) ∨ ((Itz K a b).go i H ∧ ∃ Nx : Hp → Prop, (∀ H', Nx H' → ∃ m', m' < m ∧ W (i + 1) m' H') ∧ ∀ v H', (Itz K a b).yld i H v H' → g v (wipe σ vs) H' fun σ2 H2 => wipe σ2 vs = wipe σ vs ∧ tt σ2 H2 fun b H3 =>
        if b = true then te σ2 H3 fun y H4 => ∃ acc, H4 D = some (.lst acc) ∧ acc.length < sizeLine ∧ Nx (upd H4 D (.lst (acc ++ [y]))) else Nx H3) := by
  refine lc_it (walk_zip (K := K) (n := n) hn) Pv h0 (fun i H _ hp => hq i H hp) (fun i v H H' hi hp hy => ?_) hd
  obtain ⟨T, x, y, rfl, hT, rfl, hx, hy⟩ := hy
  exact hs i x y T H hi hx hy hp hT
theorem all3 (a b : Bool) : ([a, b].all id) = (a && b) := by cases a <;> cases b <;> rfl
def spLetter : Sp := fun vs H Q _ => ∃ c : Nat, vs = [.str (ch c)] ∧ Q (.bl (decide (97 ≤ c) && decide (c ≤ 122))) H
def spAsc3 (K : PySem.W.Frag) : Sp := fun vs H Q _ => ∃ (a : Addr) (i j k : Int), vs = [.ref a] ∧ SqL K H a [.int i, .int j, .int k] ∧ ∀ H', Same H H' → Q (.bl (decide (i < j) && decide (j < k))) H'
def spOrd3 (K : PySem.W.Frag) : Sp := fun vs H Q _ => ∃ (l : List Nat) (a : Addr) (x y z : Nat), vs = [.str (tx l), .ref a] ∧ SqL K H a [vc x, vc y, vc z] ∧ x ∈ l ∧ y ∈ l ∧ z ∈ l ∧
  ∀ H', Same H H' → Q (.bl (decide (pos l x < pos l y) && decide (pos l y < pos l z))) H'
/-- a pair of texts of different letters -/
structure PairAt (H : Hp) (p : Addr) (fr bk : List Nat) : Prop where
  at' : H p = some (.tup [.str (tx fr), .str (tx bk)])
  lt : Lts fr
  pm : bk.Perm fr
  n0 : 0 < fr.length
  n1 : fr.length ≤ 26
theorem PairAt.same {H H' : Hp} {p : Addr} {fr bk : List Nat} (h : PairAt H p fr bk) (s : Same H H') : PairAt H' p fr bk := ⟨s _ _ h.at', h.lt, h.pm, h.n0, h.n1⟩
theorem PairAt.mem {H : Hp} {p : Addr} {fr bk : List Nat} (h : PairAt H p fr bk) {c : Nat} (hc : c ∈ fr) : c ∈ bk := h.pm.mem_iff.mpr hc
def blw (fr bk : List Nat) (x y : Nat) : Bool := decide (pos fr y < pos fr x) && decide (pos bk x < pos bk y)
def spBelow : Sp := fun vs H Q _ => ∃ (p : Addr) (fr bk : List Nat) (x y : Nat), vs = [.ref p, .str (ch x), .str (ch y)] ∧ PairAt H p fr bk ∧ x ∈ fr ∧ y ∈ fr ∧ Q (.bl (blw fr bk x y)) H
theorem dec_cast (a b : Nat) : decide ((a : Int) < (b : Int)) = decide (a < b) := by
  by_cases h : a < b
  · rw [decide_eq_true h, decide_eq_true (by omega)]
  · rw [decide_eq_false h, decide_eq_false (by omega)]
section
variable {P : Program} {w : World} {K : PySem.W.Frag} {mg : Str → Option Value} {base : Heap} {f : Addr} {fd : FuncData}
theorem ok_letter {k : Nat} (F : Fun K "is_letter" "is_letter" s_is_letter f fd) (M : Mgs mg) : FnOk P w K mg base CX0 (k + 1) f fd ["value"] spLetter := by
  refine F.ok sc_is_letter (fun vs H Q E h => ?_) (fun cdv A outer s H vs Q E hr h => ?_)
  · obtain ⟨c, rfl, _⟩ := h
    rfl
  obtain ⟨c, rfl, q⟩ := h
  refine ⟨_, (pss_one (ps_ret (pe_and (pe_callB call_isi rfl M.isinstance (by decide +kernel) (pa_cons (pv 0) (pa_cons (pe_bltn (v := .ty "str") rfl M.str (by decide +kernel) rfl) pa_nil))) (pe_and (pe_cmpR op_eq (pe_callB call_len_str rfl M.len PySem.boot_len (pa_cons (pv 0) pa_nil)) pe_int (nomark _)) (pe_one (pe_chain op_le_str op_le_str pe_str (pv 0) pe_str)))))), ?_⟩
  refine ⟨_, rfl, _, _, _, _, true, rfl, .ty _, .base (.str (ch c)), kit_ty (by decide +kernel), _, rfl, iteT ?_⟩
  refine ⟨_, rfl, ch c, rfl, (by show 1 ≤ sizeLine; decide), rfl, _, rfl, ?_⟩
  rw [show decide (V.int ((ch c).length : Nat) = V.int 1) = true from rfl]
  refine iteT ?_
  refine ⟨_, rfl, _, _, rfl, rfl, _, rfl, ?_⟩
  have e1 : (!decide ((ch c).cps.toList < (Str.ofString "a").cps.toList)) = decide (97 ≤ c) := by
    rw [show Str.ofString "a" = ch 97 by decide +kernel, ch_lt]
    by_cases h : c < 97
    · rw [decide_eq_true h, decide_eq_false (by omega)]; rfl
    · rw [decide_eq_false h, decide_eq_true (by omega)]; rfl
  have e2 : (!decide ((Str.ofString "z").cps.toList < (ch c).cps.toList)) = decide (c ≤ 122) := by
    rw [show Str.ofString "z" = ch 122 by decide +kernel, ch_lt]
    by_cases h : 122 < c
    · rw [decide_eq_true h, decide_eq_false (by omega)]; rfl
    · rw [decide_eq_false h, decide_eq_true (by omega)]; rfl
  rw [e1]
  by_cases h : 97 ≤ c
  · rw [decide_eq_true h] at q ⊢
    refine iteT ⟨_, _, rfl, rfl, ?_⟩
    rw [e2]
    exact q
  · rw [decide_eq_false h] at q ⊢
    exact iteF q
theorem ok_asc3 {k : Nat} (F : Fun K "is_ascending" "is_ascending" s_is_ascending f fd) (M : Mgs mg) : FnOk P w K mg base CX0 (k + 1) f fd ["items"] (spAsc3 K) := by
  refine F.ok sc_is_ascending (fun vs H Q E h => ?_) (fun cdv A outer s H vs Q E hr h => ?_)
  · obtain ⟨a, i, j, k, rfl, _⟩ := h
    rfl
  obtain ⟨a, i, j, k, rfl, ha, q⟩ := h
  refine ⟨_, (pss_one (ps_ret (pe_callB (cr_all rfl) rfl M.all (by decide +kernel) (pa_cons (pe_lc (own := [("one", 1), ("other", 2)]) (g := gTup K 2 (gCons (gName 1) (gCons (gName 2) gNil))) (tt := tYes) rfl sc_is_ascending.nd (pi_zip (by rfl) M.zip (pa_cons (pv 0) (pa_cons (pe_slice sl_list (pv 0) (po_some pe_int) po_none) pa_nil))) (blkOk_by (N := ["items", "one", "other"]) (sc := defScope s_is_ascending) (by decide +kernel)) (fun _ _ _ _ _ => (pg_tup rfl (pgs_cons (pg_name (i := 1) sc_is_ascending.nd rfl (.inl rfl)) (pgs_cons (pg_name (i := 2) sc_is_ascending.nd rfl (.inl rfl)) pgs_nil)))) (fun _ _ _ _ _ => pts_nil) (fun _ _ _ _ _ => (pe_cmpR op_lt (pv 1) (pv 2) (nomark _)))) pa_nil)))), ?_⟩
  refine ⟨_, rfl, _, rfl, 1, rfl, a, _, rfl, ha, fun b nb => ?_⟩
  rw [show (1 : Int) = ((1 : Nat) : Int) from rfl, cut_from]
  have q0 := same_new nb (.lst [.int j, .int k])
  refine ⟨a, b, _, _, rfl, q0.seq ha, SqL.of upd_same, fun D nD => ?_⟩
  have q1 := same_new nD (.lst [])
  have ha1 := q0.seq ha
  have eb : SqL K (upd H b (.lst [.int j, .int k])) b [.int j, .int k] := SqL.of upd_same
  refine lc_zipL (K := K) (a := a) (b := b) (xs := [.int i, .int j, .int k]) (ys := [.int j, .int k]) (n := 2) rfl (fun n H' => Same (upd H b (.lst [.int j, .int k])) H' ∧ H' D = some (.lst (([decide (i < j), decide (j < k)].take n).map V.bl))) ⟨q1, upd_same⟩ (fun n H' hp => ⟨hp.1.seq ha1, hp.1.seq eb⟩) (fun n x y p H' hi hx hy hp np => ?_) (fun H' hp => ?_)
  · obtain ⟨sm, ed⟩ := hp
    have q2 := same_new np (.tup [x, y])
    have hn : n = 0 ∨ n = 1 := by omega
    rcases hn with rfl | rfl
    · cases hx
      cases hy
      refine ⟨p, _, rfl, SqT.of upd_same, rfl, _, _, rfl, _, _, rfl, rfl, rfl, kept ?_⟩
      refine ⟨_, rfl, _, rfl, _, _, rfl, rfl, _, q2 _ _ ed, (by show 0 < sizeLine; decide), fun b o e => ?_, ?_⟩
      · rw [upd_ne (ne_of_none e nD)]; exact q2 _ _ (sm _ _ e)
      · rw [upd_same]; rfl
    · cases hx
      cases hy
      refine ⟨p, _, rfl, SqT.of upd_same, rfl, _, _, rfl, _, _, rfl, rfl, rfl, kept ?_⟩
      refine ⟨_, rfl, _, rfl, _, _, rfl, rfl, _, q2 _ _ ed, (by show 1 < sizeLine; decide), fun b o e => ?_, ?_⟩
      · rw [upd_ne (ne_of_none e nD)]; exact q2 _ _ (sm _ _ e)
      · rw [upd_same]; rfl
  · obtain ⟨sm, ed⟩ := hp
    refine ⟨D, [decide (i < j), decide (j < k)], rfl, SqL.of ed, ?_⟩
    rw [all3]
    exact q H' (q0.trans sm)
theorem ok_ord3 {k : Nat} (F : Fun K "in_order" "in_order" s_in_order f fd) (Dis_ascending : Df P w K mg base (k + 1) "is_ascending" ["items"] (spAsc3 K)) : FnOk P w K mg base CX0 (k + 2) f fd ["text", "letters"] (spOrd3 K) := by
  refine F.ok (k := k + 1) sc_in_order (fun vs H Q E h => ?_) (fun cdv A outer s H vs Q E hr h => ?_)
  · obtain ⟨l, a, x, y, z, rfl, _⟩ := h
    rfl
  obtain ⟨l, a, x, y, z, rfl, ha, hx, hy, hz, q⟩ := h
  refine ⟨_, (pss_one (ps_ret (pe_call Dis_ascending.ok (hr.mono (by omega)) rfl Dis_ascending.g Dis_ascending.kp Dis_ascending.b .nil pass0 (pa_cons (pe_lc (own := [("letter", 2)]) (g := gName 2) (tt := tYes) rfl sc_in_order.nd (pi_list (pv 1)) (blkOk_by (N := ["text", "letters", "letter"]) (sc := defScope s_in_order) (by decide +kernel)) (fun _ _ _ _ _ => (pg_name (i := 2) sc_in_order.nd rfl (.inl rfl))) (fun _ _ _ _ _ => pts_nil) (fun _ _ _ _ _ => (show PE _ _ (tBM K _ _ _ _) from pe_bm PySem.F.plainAttrs_str PySem.F.slot_str_index PySem.F.type_str_index (show MtR _ "str.index" rSIndex from mt_sindexC) (pv 0) (pa_cons (pv 2) pa_nil)))) pa_nil)))), ?_⟩
  refine ⟨_, rfl, a, rfl, ⟨_, ha⟩, fun D nD => ?_⟩
  have q1 := same_new nD (.lst [])
  refine lc_list (K := K) (a := a) (xs := [vc x, vc y, vc z]) (fun i H' => Same H H' ∧ H' D = some (.lst (([x, y, z].take i).map fun c => V.int (pos l c : Int)))) ⟨q1, upd_same⟩ (fun i H' _ hp => hp.1.seq ha) (fun i v H' hv hp => ?_) (fun H' hp => ?_)
  · obtain ⟨sm, ed⟩ := hp
    obtain ⟨c, hc, rfl, hcl⟩ : ∃ c, [x, y, z][i]? = some c ∧ v = vc c ∧ c ∈ l := by
      match i, hv with
      | 0, h => cases h; exact ⟨x, rfl, rfl, hx⟩
      | 1, h => cases h; exact ⟨y, rfl, rfl, hy⟩
      | 2, h => cases h; exact ⟨z, rfl, rfl, hz⟩
    refine ⟨rfl, kept ?_⟩
    refine ⟨_, rfl, rfl, _, rfl, l, c, rfl, rfl, hcl, _, ed, by rw [List.length_map, List.length_take]; exact small1000 (by show min i 3 ≤ 1000; omega), fun b o e => ?_, ?_⟩
    · rw [upd_ne (ne_of_none e nD)]; exact sm _ _ e
    · rw [upd_same, take_nextG hc, List.map_append]; rfl
  · obtain ⟨sm, ed⟩ := hp
    refine ⟨D, _, _, _, rfl, SqL.of ed, fun H2 s2 => ?_⟩
    rw [dec_cast, dec_cast]
    exact q H2 (sm.trans s2)
theorem ok_below {k : Nat} (F : Fun K "is_below" "is_below" s_is_below f fd) : FnOk P w K mg base CX0 (k + 1) f fd ["pair", "letter", "other"] spBelow := by
  refine F.ok sc_is_below (fun vs H Q E h => ?_) (fun cdv A outer s H vs Q E hr h => ?_)
  · obtain ⟨p, fr, bk, x, y, rfl, _⟩ := h
    rfl
  obtain ⟨p, fr, bk, x, y, rfl, hp, hx, hy, q⟩ := h
  refine ⟨_, (pss_cons (ps_asg (pv 0) (pg_tup rfl (pgs_cons (pg_name (i := 3) sc_is_below.nd rfl (.inl rfl)) (pgs_cons (pg_name (i := 4) sc_is_below.nd rfl (.inl rfl)) pgs_nil))))
    (pss_one (ps_ret (pe_and (pe_cmpR op_lt (pe_bm PySem.F.plainAttrs_str PySem.F.slot_str_index PySem.F.type_str_index (show MtR _ "str.index" rSIndex from mt_sindexC) (pv 3) (pa_cons (pv 2) pa_nil)) (pe_bm PySem.F.plainAttrs_str PySem.F.slot_str_index PySem.F.type_str_index (show MtR _ "str.index" rSIndex from mt_sindexC) (pv 3) (pa_cons (pv 1) pa_nil)) (nomark _)) (pe_one (pe_cmpR op_lt (pe_bm PySem.F.plainAttrs_str PySem.F.slot_str_index PySem.F.type_str_index (show MtR _ "str.index" rSIndex from mt_sindexC) (pv 4) (pa_cons (pv 1) pa_nil)) (pe_bm PySem.F.plainAttrs_str PySem.F.slot_str_index PySem.F.type_str_index (show MtR _ "str.index" rSIndex from mt_sindexC) (pv 4) (pa_cons (pv 2) pa_nil)) (nomark _))))))), ?_⟩
  refine ⟨_, rfl, p, _, rfl, SqT.of hp.at', rfl, _, _, rfl, _, _, rfl, rfl, ?_⟩
  refine ⟨_, rfl, rfl, _, rfl, fr, y, rfl, rfl, hy, _, rfl, rfl, _, rfl, fr, x, rfl, rfl, hx, _, _, rfl, rfl, _, rfl, ?_⟩
  unfold blw at q
  rw [dec_cast]
  by_cases h : pos fr y < pos fr x
  · rw [decide_eq_true h] at q ⊢
    refine iteT ⟨_, rfl, rfl, _, rfl, bk, x, rfl, rfl, hp.mem hx, _, rfl, rfl, _, rfl, bk, y, rfl, rfl, hp.mem hy, _, _, rfl, rfl, ?_⟩
    show Q (.bl (decide ((pos bk x : Int) < (pos bk y : Int)))) H
    rw [dec_cast]
    exact q
  · rw [decide_eq_false h] at q ⊢
    exact iteF q
theorem ok_lawBelow {k : Nat} (F : Fun K "_law_is_below" "_law_is_below" s__law_is_below f fd) : FnOk P w K mg base CX0 (k + 1) f fd ["_law_pair_here", "_law_letter", "_law_other"] spBelow := by
  refine F.ok sc__law_is_below (fun vs H Q E h => ?_) (fun cdv A outer s H vs Q E hr h => ?_)
  · obtain ⟨p, fr, bk, x, y, rfl, _⟩ := h
    rfl
  obtain ⟨p, fr, bk, x, y, rfl, hp, hx, hy, q⟩ := h
  refine ⟨_, (pss_one (ps_ret (pe_and (pe_cmpR op_gt (pe_bm PySem.F.plainAttrs_str PySem.F.slot_str_find PySem.F.type_str_find (show MtR _ "str.find" rSFind from mt_findC) (pe_ix ix_tup (pv 0) pe_int (fun _ _ => rfl)) (pa_cons (pv 1) pa_nil)) (pe_bm PySem.F.plainAttrs_str PySem.F.slot_str_find PySem.F.type_str_find (show MtR _ "str.find" rSFind from mt_findC) (pe_ix ix_tup (pv 0) pe_int (fun _ _ => rfl)) (pa_cons (pv 2) pa_nil)) (nomark _)) (pe_one (pe_cmpR op_lt (pe_bm PySem.F.plainAttrs_str PySem.F.slot_str_find PySem.F.type_str_find (show MtR _ "str.find" rSFind from mt_findC) (pe_ix ix_tup (pv 0) pe_int (fun _ _ => rfl)) (pa_cons (pv 1) pa_nil)) (pe_bm PySem.F.plainAttrs_str PySem.F.slot_str_find PySem.F.type_str_find (show MtR _ "str.find" rSFind from mt_findC) (pe_ix ix_tup (pv 0) pe_int (fun _ _ => rfl)) (pa_cons (pv 2) pa_nil)) (nomark _)))))), ?_⟩
  refine ⟨_, rfl, p, _, _, _, rfl, rfl, SqT.of hp.at', atI_nat (j := 0) rfl, rfl, _, rfl, fr, x, rfl, rfl, hx, ?_⟩
  refine ⟨_, rfl, p, _, _, _, rfl, rfl, SqT.of hp.at', atI_nat (j := 0) rfl, rfl, _, rfl, fr, y, rfl, rfl, hy, _, _, rfl, rfl, _, rfl, ?_⟩
  unfold blw at q
  rw [show decide ((pos fr x : Int) > (pos fr y : Int)) = decide (pos fr y < pos fr x) from dec_cast _ _]
  by_cases h : pos fr y < pos fr x
  · rw [decide_eq_true h] at q ⊢
    refine iteT ⟨_, rfl, p, _, _, _, rfl, rfl, SqT.of hp.at', atI_nat (j := 1) rfl, rfl, _, rfl, bk, x, rfl, rfl, hp.mem hx, ?_⟩
    refine ⟨_, rfl, p, _, _, _, rfl, rfl, SqT.of hp.at', atI_nat (j := 1) rfl, rfl, _, rfl, bk, y, rfl, rfl, hp.mem hy, _, _, rfl, rfl, ?_⟩
    show Q (.bl (decide ((pos bk x : Int) < (pos bk y : Int)))) H
    rw [dec_cast]
    exact q
  · rw [decide_eq_false h] at q ⊢
    exact iteF q
end
/-! ### children_of, _law_children -/
theorem op_eqL {X : Cx} (hu : X.A.units < cLine) : OpR X (compareOp .Eq) (fun x y H Q => ∃ a b xs, x = .ref a ∧ y = .ref b ∧ SqL X.K H a xs ∧ SqL X.K H b [] ∧ Q (.bl xs.isEmpty) H) := by
  intro pins s σ H x y v u Q I rx ry h
  obtain ⟨a, b, xs, rfl, rfl, hx, hy, q⟩ := h
  cases rx
  cases ry
  obtain ⟨its, r1, t1, _⟩ := I.list hx
  obtain ⟨its2, r2, t2, _⟩ := I.list hy
  cases r2
  cases r1 with
  | nil =>
    have rc := SeqAt.RcAt.lists (A := X.A) (s := s) (items := ([] : List Value).toArray) (items2 := ([] : List Value).toArray) (e := fun _ => true) t1.isList t2.isList rfl hu (fun j h1 _ => absurd h1 (by simp))
    exact rc X.prog X.w X.xe _ ⟨.bl _, H, I, rfl, q⟩
  | cons _ _ =>
    have rc := SeqAt.RcAt.lists_lengths (A := X.A) (s := s) t1.isList t2.isList (by simp) hu
    exact rc X.prog X.w X.xe _ ⟨.bl _, H, I, rfl, q⟩
def rEqNil (K : PySem.W.Frag) : V → V → Hp → VK → Prop := fun x y H Q => ∃ a b xs, x = .ref a ∧ y = .ref b ∧ SqL K H a xs ∧ SqL K H b [] ∧ Q (.bl xs.isEmpty) H
def lowr (fr bk : List Nat) (c : Nat) : List Nat := fr.filter fun o => blw fr bk o c
def kids (fr bk : List Nat) (c : Nat) : List Nat := (lowr fr bk c).filter fun o => !((lowr fr bk c).map fun q => blw fr bk o q).any id
theorem filt_next {α : Type} {l : List α} {i : Nat} {c : α} (p : α → Bool) (h : l[i]? = some c) : (l.take (i + 1)).filter p = (l.take i).filter p ++ (if p c = true then [c] else []) := by
  rw [take_nextG h, List.filter_append, List.filter_cons, List.filter_nil]
theorem lowr_mem {fr bk : List Nat} {c o : Nat} (h : o ∈ lowr fr bk c) : o ∈ fr := (List.mem_filter.mp h).1
theorem lowr_len (fr bk : List Nat) (c : Nat) : (lowr fr bk c).length ≤ fr.length := List.length_filter_le _ _
theorem kids_mem {fr bk : List Nat} {c o : Nat} (h : o ∈ kids fr bk c) : o ∈ fr := lowr_mem (List.mem_filter.mp h).1
theorem kids_len (fr bk : List Nat) (c : Nat) : (kids fr bk c).length ≤ fr.length := Nat.le_trans (List.length_filter_le _ _) (lowr_len fr bk c)
def spKids : Sp := fun vs H Q _ => ∃ (p : Addr) (fr bk : List Nat) (c : Nat), vs = [.ref p, .str (ch c)] ∧ PairAt H p fr bk ∧ c ∈ fr ∧ ∀ H', Same H H' → Q (.str (tx (kids fr bk c))) H'
def spLKids : Sp := fun vs H Q _ => ∃ (p : Addr) (fr bk : List Nat) (c : Nat), vs = [.ref p, .str (ch c)] ∧ PairAt H p fr bk ∧ c ∈ fr ∧ ∀ (H' : Hp) (d : Addr), Same H H' → H d = none → H' d = some (.lst ((kids fr bk c).map vc)) → Q (.ref d) H'
theorem get_map_vc {l : List Nat} {i : Nat} {v : V} (h : (l.map vc)[i]? = some v) : ∃ c, l[i]? = some c ∧ v = vc c := by
  rw [List.getElem?_map] at h
  obtain ⟨c, h1, rfl⟩ := Option.map_eq_some_iff.mp h
  exact ⟨c, h1, rfl⟩
section
variable {P : Program} {w : World} {K : PySem.W.Frag} {mg : Str → Option Value} {base : Heap} {f : Addr} {fd : FuncData}
theorem ok_kids {k : Nat} (F : Fun K "children_of" "children_of" s_children_of f fd) (hany : mg "any" = none) (Dis_below : Df P w K mg base (k + 1) "is_below" ["pair", "letter", "other"] spBelow) : FnOk P w K mg base CX0 (k + 2) f fd ["pair", "letter"] spKids := by
  refine F.ok (k := k + 1) sc_children_of (fun vs H Q E h => ?_) (fun cdv A outer s H vs Q E hr h => ?_)
  · obtain ⟨p, fr, bk, c, rfl, _⟩ := h
    rfl
  obtain ⟨p, fr, bk, c, rfl, hp, hc, q⟩ := h
  have n26 := hp.n1
  refine ⟨_, (pss_cons (ps_set (i := 3) sc_children_of.nd rfl (.inr rfl) (pe_lc (own := [("other", 2)]) (g := gName 2) rfl sc_children_of.nd (pi_str (pe_ix ix_tup (pv 0) pe_int (fun _ _ => rfl))) (blkOk_by (N := ["pair", "letter", "other", "lower", "one"]) (sc := defScope s_children_of) (by decide +kernel)) (fun _ _ _ _ _ => (pg_name (i := 2) sc_children_of.nd rfl (.inl rfl))) (fun _ _ _ _ _ => pts_one (pt_val (pe_call Dis_below.ok (hr.mono (by omega)) rfl Dis_below.g Dis_below.kp Dis_below.b .nil pass0 (pa_cons (pv 0) (pa_cons (pv 2) (pa_cons (pv 1) pa_nil)))))) (fun _ _ _ _ _ => (pv 2))))
    (pss_one (ps_ret (pe_bm PySem.F.plainAttrs_str PySem.F.slot_str_join PySem.F.type_str_join mt_join pe_str (pa_cons (pe_lc (own := [("one", 4)]) (g := gName 4) rfl sc_children_of.nd (pi_list (pv 3)) (blkOk_by (N := ["pair", "letter", "other", "lower", "one"]) (sc := defScope s_children_of) (by decide +kernel)) (fun _ _ _ _ _ => (pg_name (i := 4) sc_children_of.nd rfl (.inr rfl))) (fun _ _ _ _ _ => pts_one (pt_not (pt_val (pe_callB (show CallR _ (.builtin "any") (rAny K) from cr_any rfl) rfl hany (by decide +kernel) (pa_cons (pe_lc (own := [("other", 2)]) (g := gName 2) (tt := tYes) rfl sc_children_of.nd (show PI _ _ _ (iList K _) from pi_list (pv 3)) (blkOk_by (N := ["pair", "letter", "other", "lower", "one"]) (sc := { kind := .function, names := [(".0", .local), ("one", .cell), ("any", .globalImplicit), ("lower", .cell), ("pair", .cell)], isGenerator := false, isCoroutine := false }) (by decide +kernel)) (fun _ _ _ _ _ => (pg_name (i := 2) sc_children_of.nd rfl (.inl rfl))) (fun _ _ _ _ _ => pts_nil) (fun _ _ _ _ _ => (pe_call Dis_below.ok (hr.mono (by omega)) rfl Dis_below.g Dis_below.kp Dis_below.b .nil pass0 (pa_cons (pv 0) (pa_cons (pv 4) (pa_cons (pv 2) pa_nil)))))) pa_nil))))) (fun _ _ _ _ _ => (pv 4))) pa_nil))))), ?_⟩
  refine ⟨_, rfl, p, _, _, _, rfl, rfl, SqT.of hp.at', atI_nat (j := 0) rfl, _, rfl, fun D nD => ?_⟩
  have k1 := same_new nD (.lst [])
  refine lc_text (x := tx fr) (fun i H' => Same H H' ∧ H' D = some (.lst (((fr.take i).filter fun o => blw fr bk o c).map vc))) ⟨k1, upd_same⟩ (fun i o H1 ho hq => ?_) (fun H1 hq => ?_)
  · obtain ⟨s1, e1⟩ := hq
    rw [tx_cps] at ho
    have hi := (List.getElem?_eq_some_iff.mp ho).1
    have hof := List.mem_of_getElem? ho
    refine ⟨rfl, ?_⟩
    refine ⟨_, rfl, _, rfl, _, rfl, p, fr, bk, o, c, rfl, hp.same s1, hof, hc, _, rfl, ?_⟩
    rw [filt_next _ ho]
    cases hb : blw fr bk o c with
    | true =>
      refine iteT ⟨_, rfl, _, e1, ?_, fun b u e => ?_, ?_⟩
      · rw [List.length_map]; exact small1000 (Nat.le_trans (List.length_filter_le _ _) (by rw [List.length_take]; omega))
      · rw [upd_ne (ne_of_none e nD)]; exact s1 _ _ e
      · rw [upd_same, if_pos rfl, List.map_append]; rfl
    | false =>
      refine iteF ⟨s1, ?_⟩
      rw [if_neg Bool.false_ne_true, List.append_nil]
      exact e1
  obtain ⟨s1, e1⟩ := hq
  rw [tx_cps, List.take_length] at e1
  have e1 : H1 D = some (.lst ((lowr fr bk c).map vc)) := e1
  have ll := lowr_len fr bk c
  have lm := fun o => lowr_mem (fr := fr) (bk := bk) (c := c) (o := o)
  have eK : kids fr bk c = (lowr fr bk c).filter fun o => !((lowr fr bk c).map fun q => blw fr bk o q).any id := rfl
  generalize lowr fr bk c = lo at e1 ll lm eK
  refine ⟨rfl, _, rfl, D, rfl, ⟨_, SqL.of e1⟩, fun D2 n2 => ?_⟩
  have k2 := same_new n2 (.lst [])
  refine lc_list (K := K) (a := D) (xs := lo.map vc) (fun i H' => Same H1 H' ∧ H' D2 = some (.lst (((lo.take i).filter fun o => !(lo.map fun q => blw fr bk o q).any id).map vc))) ⟨k2, upd_same⟩ (fun i H' _ hq => SqL.of (hq.1 _ _ e1)) (fun i x H2 hx hq => ?_) (fun H2 hq => ?_)
  · obtain ⟨s2, e2⟩ := hq
    obtain ⟨o, ho, rfl⟩ := get_map_vc hx
    have hi := (List.getElem?_eq_some_iff.mp ho).1
    have hof := lm o (List.mem_of_getElem? ho)
    refine ⟨rfl, ?_⟩
    refine ⟨_, rfl, D, rfl, ⟨_, SqL.of (s2 _ _ e1)⟩, fun D3 n3 => ?_⟩
    have k3 := same_new n3 (.lst [])
    refine lc_list (K := K) (a := D) (xs := lo.map vc) (fun j H' => Same H2 H' ∧ H' D3 = some (.lst (((lo.take j).map fun q => blw fr bk o q).map V.bl))) ⟨k3, upd_same⟩ (fun j H' _ hq => SqL.of (hq.1 _ _ (s2 _ _ e1))) (fun j y H3 hy hq => ?_) (fun H3 hq => ?_)
    · obtain ⟨s3, e3⟩ := hq
      obtain ⟨z, hz, rfl⟩ := get_map_vc hy
      have hj := (List.getElem?_eq_some_iff.mp hz).1
      refine ⟨rfl, kept ?_⟩
      refine ⟨_, rfl, _, rfl, _, rfl, p, fr, bk, o, z, rfl, ((hp.same s1).same s2).same s3, hof, lm z (List.mem_of_getElem? hz), ?_⟩
      refine ⟨_, e3, by rw [List.length_map, List.length_map, List.length_take]; exact small1000 (by omega), fun b u e => ?_, ?_⟩
      · rw [upd_ne (ne_of_none e n3)]; exact s3 _ _ e
      · rw [upd_same, take_nextG hz, List.map_append, List.map_append]; rfl
    · obtain ⟨s3, e3⟩ := hq
      rw [List.length_map, List.take_length] at e3
      refine ⟨D3, _, rfl, SqL.of e3, _, rfl, ?_⟩
      rw [filt_next _ ho]
      have e2' := s3 _ _ e2
      cases hb : (lo.map fun q => blw fr bk o q).any id with
      | true =>
        refine iteF ⟨s2.trans s3, ?_⟩
        rw [if_neg (by simp), List.append_nil]
        exact e2'
      | false =>
        refine iteT ⟨_, rfl, _, e2', ?_, fun b u e => ?_, ?_⟩
        · rw [List.length_map]; exact small1000 (Nat.le_trans (List.length_filter_le _ _) (by rw [List.length_take]; omega))
        · rw [upd_ne (ne_of_none e n2)]; exact s3 _ _ (s2 _ _ e)
        · rw [upd_same, if_pos (show (!false) = true from rfl), List.map_append]; rfl
  · obtain ⟨s2, e2⟩ := hq
    rw [List.length_map, List.take_length, ← eK, map_vc] at e2
    have kl := kids_len fr bk c
    refine ⟨_, D2, (kids fr bk c).map ch, rfl, rfl, .inl (SqL.of e2), tx_joinOk _ (by omega), ?_⟩
    rw [tx_join]
    exact q H2 (s1.trans s2)
theorem ok_lawKids {k : Nat} (F : Fun K "_law_children" "_law_children" s__law_children f fd) (D_law_is_below : Df P w K mg base (k + 1) "_law_is_below" ["_law_pair_here", "_law_letter", "_law_other"] spBelow) : FnOk P w K mg base CX0 (k + 2) f fd ["_law_pair_here", "_law_letter"] spLKids := by
  refine F.ok (k := k + 1) sc__law_children (fun vs H Q E h => ?_) (fun cdv A outer s H vs Q E hr h => ?_)
  · obtain ⟨p, fr, bk, c, rfl, _⟩ := h
    rfl
  obtain ⟨p, fr, bk, c, rfl, hp, hc, q⟩ := h
  have n26 := hp.n1
  refine ⟨_, (pss_cons (ps_set (i := 3) sc__law_children.nd rfl (.inr rfl) (pe_lc (own := [("_law_one", 2)]) (g := gName 2) rfl sc__law_children.nd (pi_str (pe_ix ix_tup (pv 0) pe_int (fun _ _ => rfl))) (blkOk_by (N := ["_law_pair_here", "_law_letter", "_law_one", "_law_under", "_law_other"]) (sc := defScope s__law_children) (by decide +kernel)) (fun _ _ _ _ _ => (pg_name (i := 2) sc__law_children.nd rfl (.inl rfl))) (fun _ _ _ _ _ => pts_one (pt_val (pe_call D_law_is_below.ok (hr.mono (by omega)) rfl D_law_is_below.g D_law_is_below.kp D_law_is_below.b .nil pass0 (pa_cons (pv 0) (pa_cons (pv 2) (pa_cons (pv 1) pa_nil)))))) (fun _ _ _ _ _ => (pv 2))))
    (pss_one (ps_ret (pe_lc (own := [("_law_one", 2)]) (g := gName 2) rfl sc__law_children.nd (pi_list (pv 3)) (blkOk_by (N := ["_law_pair_here", "_law_letter", "_law_one", "_law_under", "_law_other"]) (sc := defScope s__law_children) (by decide +kernel)) (fun _ _ _ _ _ => (pg_name (i := 2) sc__law_children.nd rfl (.inr rfl))) (fun _ _ _ _ _ => pts_one (pt_cmpR (show OpR _ (compareOp .Eq) (rEqNil K) from op_eqL hr.units0) (pe_lc (own := [("_law_other", 4)]) (g := gName 4) rfl sc__law_children.nd (show PI _ _ _ (iList K _) from pi_list (pv 3)) (blkOk_by (N := ["_law_pair_here", "_law_letter", "_law_one", "_law_under", "_law_other"]) (sc := { kind := .function, names := [(".0", .local), ("_law_one", .cell), ("_law_pair_here", .cell), ("_law_under", .cell)], isGenerator := false, isCoroutine := false }) (by decide +kernel)) (fun _ _ _ _ _ => (pg_name (i := 4) sc__law_children.nd rfl (.inl rfl))) (fun _ _ _ _ _ => pts_one (pt_val (pe_call D_law_is_below.ok (hr.mono (by omega)) rfl D_law_is_below.g D_law_is_below.kp D_law_is_below.b .nil pass0 (pa_cons (pv 0) (pa_cons (pv 2) (pa_cons (pv 4) pa_nil)))))) (fun _ _ _ _ _ => pe_int)) (pe_lst pa_nil) (nomark _))) (fun _ _ _ _ _ => (pv 2)))))), ?_⟩
  refine ⟨_, rfl, p, _, _, _, rfl, rfl, SqT.of hp.at', atI_nat (j := 0) rfl, _, rfl, fun D nD => ?_⟩
  have k1 := same_new nD (.lst [])
  refine lc_text (x := tx fr) (fun i H' => Same H H' ∧ H' D = some (.lst (((fr.take i).filter fun o => blw fr bk o c).map vc))) ⟨k1, upd_same⟩ (fun i o H1 ho hq => ?_) (fun H1 hq => ?_)
  · obtain ⟨s1, e1⟩ := hq
    rw [tx_cps] at ho
    have hi := (List.getElem?_eq_some_iff.mp ho).1
    have hof := List.mem_of_getElem? ho
    refine ⟨rfl, ?_⟩
    refine ⟨_, rfl, _, rfl, _, rfl, p, fr, bk, o, c, rfl, hp.same s1, hof, hc, _, rfl, ?_⟩
    rw [filt_next _ ho]
    cases hb : blw fr bk o c with
    | true =>
      refine iteT ⟨_, rfl, _, e1, ?_, fun b u e => ?_, ?_⟩
      · rw [List.length_map]; exact small1000 (Nat.le_trans (List.length_filter_le _ _) (by rw [List.length_take]; omega))
      · rw [upd_ne (ne_of_none e nD)]; exact s1 _ _ e
      · rw [upd_same, if_pos rfl, List.map_append]; rfl
    | false =>
      refine iteF ⟨s1, ?_⟩
      rw [if_neg Bool.false_ne_true, List.append_nil]
      exact e1
  obtain ⟨s1, e1⟩ := hq
  rw [tx_cps, List.take_length] at e1
  have e1 : H1 D = some (.lst ((lowr fr bk c).map vc)) := e1
  have ll := lowr_len fr bk c
  have lm := fun o => lowr_mem (fr := fr) (bk := bk) (c := c) (o := o)
  have eK : kids fr bk c = (lowr fr bk c).filter fun o => !((lowr fr bk c).map fun q => blw fr bk o q).any id := rfl
  generalize lowr fr bk c = lo at e1 ll lm eK
  refine ⟨_, rfl, D, rfl, ⟨_, SqL.of e1⟩, fun D2 n2 => ?_⟩
  have k2 := same_new n2 (.lst [])
  refine lc_list (K := K) (a := D) (xs := lo.map vc) (fun i H' => Same H1 H' ∧ H' D2 = some (.lst (((lo.take i).filter fun o => !(lo.map fun q => blw fr bk o q).any id).map vc))) ⟨k2, upd_same⟩ (fun i H' _ hq => SqL.of (hq.1 _ _ e1)) (fun i x H2 hx hq => ?_) (fun H2 hq => ?_)
  · obtain ⟨s2, e2⟩ := hq
    obtain ⟨o, ho, rfl⟩ := get_map_vc hx
    have hi := (List.getElem?_eq_some_iff.mp ho).1
    have hof := lm o (List.mem_of_getElem? ho)
    refine ⟨rfl, ?_⟩
    refine ⟨_, rfl, D, rfl, ⟨_, SqL.of (s2 _ _ e1)⟩, fun D3 n3 => ?_⟩
    have k3 := same_new n3 (.lst [])
    refine lc_list (K := K) (a := D) (xs := lo.map vc) (fun j H' => Same H2 H' ∧ H' D3 = some (.lst (((lo.take j).filter fun q => blw fr bk o q).map fun _ => V.int 1))) ⟨k3, upd_same⟩ (fun j H' _ hq => SqL.of (hq.1 _ _ (s2 _ _ e1))) (fun j y H3 hy hq => ?_) (fun H3 hq => ?_)
    · obtain ⟨s3, e3⟩ := hq
      obtain ⟨z, hz, rfl⟩ := get_map_vc hy
      have hj := (List.getElem?_eq_some_iff.mp hz).1
      refine ⟨rfl, ?_⟩
      refine ⟨_, rfl, _, rfl, _, rfl, p, fr, bk, o, z, rfl, ((hp.same s1).same s2).same s3, hof, lm z (List.mem_of_getElem? hz), _, rfl, ?_⟩
      rw [filt_next _ hz]
      cases hb : blw fr bk o z with
      | true =>
        refine iteT ⟨_, e3, ?_, fun b u e => ?_, ?_⟩
        · rw [List.length_map]; exact small1000 (Nat.le_trans (List.length_filter_le _ _) (by rw [List.length_take]; omega))
        · rw [upd_ne (ne_of_none e n3)]; exact s3 _ _ e
        · rw [upd_same, if_pos rfl, List.map_append]; rfl
      | false =>
        refine iteF ⟨s3, ?_⟩
        rw [if_neg Bool.false_ne_true, List.append_nil]
        exact e3
    · obtain ⟨s3, e3⟩ := hq
      rw [List.length_map, List.take_length] at e3
      refine ⟨(by show 0 ≤ sizeLine; decide), fun e ne => ?_⟩
      have k4 := same_new ne (.lst [])
      refine ⟨D3, e, _, rfl, rfl, SqL.of (k4 _ _ e3), SqL.of upd_same, _, rfl, ?_⟩
      rw [filt_next _ ho]
      have s4 := s3.trans k4
      have e2' := s4 _ _ e2
      have ea : (((lo.filter fun q => blw fr bk o q).map fun _ => V.int 1).isEmpty) = !(lo.map fun q => blw fr bk o q).any id := by
        rw [List.isEmpty_map]
        clear e1 ll lm eK e2 e3 hx ho hi e2'
        induction lo with
        | nil => rfl
        | cons z lo ih =>
          rw [List.filter_cons, List.map_cons, List.any_cons]
          cases blw fr bk o z with
          | true => rfl
          | false => rw [if_neg Bool.false_ne_true, ih]; rfl
      rw [ea]
      cases hb : (lo.map fun q => blw fr bk o q).any id with
      | true =>
        refine iteF ⟨s2.trans s4, ?_⟩
        rw [if_neg (by simp), List.append_nil]
        exact e2'
      | false =>
        refine iteT ⟨_, rfl, _, e2', ?_, fun b u e => ?_, ?_⟩
        · rw [List.length_map]; exact small1000 (Nat.le_trans (List.length_filter_le _ _) (by rw [List.length_take]; omega))
        · rw [upd_ne (ne_of_none e n2)]; exact s4 _ _ (s2 _ _ e)
        · rw [upd_same, if_pos (show (!false) = true from rfl), List.map_append]; rfl
  · obtain ⟨s2, e2⟩ := hq
    rw [List.length_map, List.take_length, ← eK] at e2
    exact q H2 D2 (s1.trans s2) (by cases z : H D2 with | none => rfl | some o => rw [s1 _ _ z] at n2; cases n2) e2
end
/-! ### tuple(text) -/
section
open PySem.AutoSeq1
theorem meets_tuple_new_str (x : Str) (t : Tok) (hsz : x.cps.size ≤ sizeLine) :
    Meets (Builtin.«tuple.__new__» ⟨[.type "tuple", .str x t], []⟩)
      (fun A R s => A.handled = none ∧ ∀ (s' : Shared) (acc : Array Value), (∀ b o, s.heap.get? b = some o → s'.heap.get? b = some o) → s'.gens = s.gens → s'.drawn = s.drawn → s'.os = s.os → ItemsOf (SignAt x) acc x.cps.size →
        R (.ok (.ret (.ref s'.heap.objs.size))) { s' with heap := s'.heap.push { cls := .type "tuple", data := .seq acc } }) :=
  .of_wp fun prog w A R s h => by
    obtain ⟨hh, h⟩ := h
    have hsub := sub_tuple_self
    have hinit := init_tuple_lookup
    have hmh := madeHere_tuple
    have hT : Shared.TypeIs s (.str x t) "str" := rfl
    wp_walk using wpAny_typeOf hT, wpAny_collect_str (A := A.in1) (hn := hsz) hh x t
    intro s' acc hk hg hd ho hit
    show wpAny _ _ (Builtin.Tuple.tupleExact acc.toList.toArray >>= fun v => ret v) _ _ _
    have hsz' : acc.toList.toArray.size ≤ sizeLine := by rw [Array.toArray_toList, hit.1]; exact hsz
    unfold Builtin.Tuple.tupleExact
    refine wpAny_bind (wpAny_newObj_type ?_ hsz')
    refine wpAny_pure ⟨_, rfl, ?_⟩
    have e : acc.toList.toArray = acc := by simp
    rw [e]
    exact h s' acc hk hg hd ho hit
theorem call_tuple_str {prog : Program} {w : World} {A : Around} {E : Value → Shared → Prop} {s : Shared} {x : Str} {t : Tok} {Q : Value → Shared → Prop} (hh : A.handled = none) (hsz : x.cps.size ≤ sizeLine)
    (h : ∀ (s' : Shared) (acc : Array Value), (∀ b o, s.heap.get? b = some o → s'.heap.get? b = some o) → s'.gens = s.gens → s'.drawn = s.drawn → s'.os = s.os → ItemsOf (SignAt x) acc x.cps.size →
        Q (.ref s'.heap.objs.size) { s' with heap := s'.heap.push { cls := .type "tuple", data := .seq acc } }) :
    wpAny (model prog w) A (call (.type "tuple") [.str x t]) Q E s :=
  callType_new F.called_tuple (by decide) (F.typeCall_tuple_1 _) (F.newCall_tuple_1 _) (fun obj => F.args_object_init_2 obj _) F.entry_tuple_new
    (meets_tuple_new_str x t hsz) ⟨hh, fun s' acc hk hg hd ho hit => ⟨⟨_, Heap.get?_push_size _ rfl, rfl⟩, h s' acc hk hg hd ho hit⟩⟩
end
def rTupS : List V → Hp → VK → Prop := fun xs H Q => ∃ x : Str, xs = [.str x] ∧ x.cps.size ≤ 1000 ∧ ∀ p, H p = none → Q (.ref p) (upd H p (.tup (x.cps.toList.map fun c => V.str ⟨#[c]⟩)))
theorem call_tupS {X : Cx} (hc : X.calm = true) : CallR X (.type "tuple") rTupS := by
  intro pins s σ H xs us Q I r h
  obtain ⟨x, rfl, hz, q⟩ := h
  obtain ⟨u, rfl, t, rfl⟩ := vals1 r
  have hz' : x.cps.size ≤ sizeLine := small hz
  refine call_tuple_str (I.ok.hd hc) hz' fun s' acc hk hg hd ho hit => ?_
  have hv : Vals (x.cps.toList.map fun c => V.str ⟨#[c]⟩) acc.toList := vals_signs _ _ (by rw [Array.length_toList, Array.length_toList]; exact hit.1) fun j v e => by
    obtain ⟨c, u, h1, h2⟩ := hit.2 j v (by rw [← Array.getElem?_toList]; exact e)
    exact ⟨c, u, by rw [Array.getElem?_toList]; exact h1, h2⟩
  obtain ⟨h', g', d', t', o'⟩ := s'
  cases hg
  cases hd
  cases ho
  have I1 : Inv X pins σ H { s with heap := h', toks := t' } := I.kept (t' := t') hk
  have I2 : Inv X pins σ (upd H h'.objs.size (.tup (x.cps.toList.map fun c => V.str ⟨#[c]⟩))) { s with heap := h'.push { cls := .type "tuple", data := .seq acc }, toks := t' } :=
    I1.laid (t' := t') (fun b o e => Heap.get?_push_of_some _ e) (Nat.le_refl _) (show ObjOk X.prog X.w _ _ _ (.tup _) from ⟨by rw [List.length_map, Array.length_toList]; exact hz', acc.toList, hv, by
      rw [Array.toArray_toList]
      exact IsTup.new h' acc⟩)
  exact ⟨.ref h'.objs.size, _, I2, rfl, q _ (I1.hok.fresh (Nat.le_refl _))⟩
/-! ### families_of, single_among -/
theorem dc_text {x : Str} {g : TG} {tt : TT} {tk tv : TE} {vs : List Nat} {σ : L2.St} {H1 : Hp} {D : Addr} {Q : VK} (Pv : Nat → Hp → Prop) (h0 : Pv 0 (upd H1 D (.dK [])))
    (hs : ∀ i c H, x.cps.toList[i]? = some c → Pv i H → g (.str ⟨#[c]⟩) (wipe σ vs) H fun σ2 H2 => wipe σ2 vs = wipe σ vs ∧ tt σ2 H2 fun b H3 =>
      if b = true then tk σ2 H3 fun y H4 => tv σ2 H4 fun z H5 => ∃ kvs k, y = kV k ∧ H5 D = some (.dK kvs) ∧ kvs.length < sizeLine ∧ Pv (i + 1) (upd H5 D (.dK (putK kvs k z))) else Pv (i + 1) H3) (hd : ∀ H, Pv x.cps.toList.length H → Q (.ref D) H) :
    ∃ W : Nat → Nat → Hp → Prop, (∃ m, W 0 m (upd H1 D (.dK []))) ∧ ∀ i m H, W i m H →
      ((Its x).stop i H ∧ Q (.ref D) H) ∨ ((Its x).go i H ∧ ∃ Nx : Hp → Prop, (∀ H', Nx H' → ∃ m', m' < m ∧ W (i + 1) m' H') ∧ ∀ v H', (Its x).yld i H v H' → g v (wipe σ vs) H' fun σ2 H2 => wipe σ2 vs = wipe σ vs ∧ tt σ2 H2 fun b H3 =>
        if b = true then tk σ2 H3 fun y H4 => tv σ2 H4 fun z H5 => ∃ kvs k, y = kV k ∧ H5 D = some (.dK kvs) ∧ kvs.length < sizeLine ∧ Nx (upd H5 D (.dK (putK kvs k z))) else Nx H3) := by
  have w := walk_str (z := x)
  refine ⟨fun i m H => m = x.cps.size - i ∧ i ≤ x.cps.size ∧ Pv i H, ⟨x.cps.size, by simp, Nat.zero_le _, h0⟩, ?_⟩
  rintro i m H ⟨rfl, hi, p⟩
  by_cases hlt : i < x.cps.size
  · refine .inr ⟨w.goes i H hlt trivial, Pv (i + 1), fun H' p' => ⟨x.cps.size - (i + 1), by omega, rfl, hlt, p'⟩, fun v H' y => ?_⟩
    obtain ⟨rfl, c, hc, rfl⟩ := w.yields i H v H' hlt trivial y
    exact hs i c H' (by rw [Array.getElem?_toList]; exact hc) p
  · have e : i = x.cps.size := by omega
    subst e
    exact .inl ⟨w.stops H trivial, hd H (by rw [Array.length_toList]; exact p)⟩
def famL (fr bk : List Nat) (l : List Nat) : List (Key × V) := l.map fun c => ((.inr (ch c) : Key), (.str (tx (kids fr bk c)) : V))
structure FamAt (H : Hp) (d : Addr) (fr bk : List Nat) : Prop where
  at' : H d = some (.dK (famL fr bk fr))
theorem putK_new (kvs : List (Key × V)) (k : Key) (v : V) (h : ∀ kv ∈ kvs, kv.1 ≠ k) : putK kvs k v = kvs ++ [(k, v)] := by
  unfold putK
  rw [if_neg]
  intro z
  obtain ⟨kv, h1, h2⟩ := List.any_eq_true.mp z
  exact h kv h1 (of_decide_eq_true h2)
theorem fam_get (fr bk : List Nat) : ∀ {l : List Nat} {c : Nat}, c ∈ l → valV (famL fr bk l) (.inr (ch c)) = some (.str (tx (kids fr bk c)))
  | x :: l, c, h => by
    by_cases e : x = c
    · subst e
      exact valV_pos rfl
    · have h' : c ∈ l := (List.mem_cons.mp h).resolve_left (Ne.symm e)
      have ne : ((.inr (ch x) : Key)) ≠ .inr (ch c) := fun z => e (ch_inj (Sum.inr.inj z))
      have := fam_get fr bk h'
      show valV (((.inr (ch x) : Key), (.str (tx (kids fr bk x)) : V)) :: famL fr bk l) _ = _
      rw [valV_neg ne]
      exact this
def spFam : Sp := fun vs H Q _ => ∃ (p : Addr) (fr bk : List Nat), vs = [.ref p] ∧ PairAt H p fr bk ∧ ∀ (H' : Hp) (d : Addr), Same H H' → FamAt H' d fr bk → Q (.ref d) H'
def sing (fr bk : List Nat) : List Nat := fr.filter fun c => decide ((kids fr bk c).length = 1)
def spSing : Sp := fun vs H Q _ => ∃ (d : Addr) (fr bk : List Nat), vs = [.ref d] ∧ FamAt H d fr bk ∧ fr.length ≤ 26 ∧ ∀ (H' : Hp), Same H H' → Q (.str (tx (sing fr bk))) H'
section
variable {P : Program} {w : World} {K : PySem.W.Frag} {mg : Str → Option Value} {base : Heap} {f : Addr} {fd : FuncData}
theorem ok_fam {k : Nat} (F : Fun K "families_of" "families_of" s_families_of f fd) (Dchildren_of : Df P w K mg base (k + 2) "children_of" ["pair", "letter"] spKids) : FnOk P w K mg base CX0 (k + 3) f fd ["pair"] spFam := by
  refine F.ok (k := k + 2) sc_families_of (fun vs H Q E h => ?_) (fun cdv A outer s H vs Q E hr h => ?_)
  · obtain ⟨p, fr, bk, rfl, _⟩ := h
    rfl
  obtain ⟨p, fr, bk, rfl, hp, q⟩ := h
  have n26 := hp.n1
  refine ⟨_, (pss_one (ps_ret (pe_dc (own := [("letter", 1)]) (g := gName 1) (tt := tYes) rfl sc_families_of.nd (pi_str (pe_ix ix_tup (pv 0) pe_int (fun _ _ => rfl))) (blkOk_by (N := ["pair", "letter"]) (sc := defScope s_families_of) (by decide +kernel)) (fun _ _ _ _ _ => (pg_name (i := 1) sc_families_of.nd rfl (.inl rfl))) (fun _ _ _ _ _ => pts_nil) (fun _ _ _ _ _ => (pv 1)) (fun _ _ _ _ _ => (pe_call Dchildren_of.ok (hr.mono (by omega)) rfl Dchildren_of.g Dchildren_of.kp Dchildren_of.b .nil pass0 (pa_cons (pv 0) (pa_cons (pv 1) pa_nil))))))), ?_⟩
  refine ⟨_, rfl, p, _, _, _, rfl, rfl, SqT.of hp.at', atI_nat (j := 0) rfl, _, rfl, fun D nD => ?_⟩
  have k1 := same_new nD (.dK [])
  refine dc_text (x := tx fr) (fun i H' => Same H H' ∧ H' D = some (.dK (famL fr bk (fr.take i)))) ⟨k1, upd_same⟩ (fun i c H1 hc hq => ?_) (fun H1 hq => ?_)
  · obtain ⟨s1, e1⟩ := hq
    rw [tx_cps] at hc
    have hi := (List.getElem?_eq_some_iff.mp hc).1
    refine ⟨rfl, kept ?_⟩
    refine ⟨_, rfl, _, rfl, _, rfl, p, fr, bk, c, rfl, hp.same s1, List.mem_of_getElem? hc, fun H2 s2 => ?_⟩
    refine ⟨_, .inr (ch c), rfl, s2 _ _ e1, by unfold famL; rw [List.length_map, List.length_take]; exact small1000 (by omega), fun b u e => ?_, ?_⟩
    · rw [upd_ne (ne_of_none e nD)]; exact s2 _ _ (s1 _ _ e)
    · rw [upd_same, putK_new, take_nextG hc]
      · unfold famL; rw [List.map_append]; rfl
      · intro kv hkv z
        obtain ⟨d, hd, rfl⟩ := List.mem_map.mp hkv
        have e : d = c := ch_inj (Sum.inr.inj z)
        subst e
        obtain ⟨j, hj⟩ := List.getElem?_of_mem hd
        have hji : j < i := by
          have := (List.getElem?_eq_some_iff.mp hj).1
          rw [List.length_take] at this
          omega
        rw [List.getElem?_take_of_lt hji] at hj
        have h1 := pos_at hp.lt.1 hj
        have h2 := pos_at hp.lt.1 hc
        omega
  · obtain ⟨s1, e1⟩ := hq
    rw [tx_cps, List.take_length] at e1
    exact q H1 D s1 ⟨e1⟩
end
/-! ### triples, the reason -/
theorem atI_last {α : Type} {xs : List α} {v : α} (h : xs.getLast? = some v) : atI xs (-1) = some v := by
  have hne : xs ≠ [] := fun z => by rw [z] at h; cases h
  have hl := List.length_pos_iff.mpr hne
  unfold atI ixN
  rw [if_neg (by omega), if_pos (by omega)]
  rw [List.getLast?_eq_getElem?] at h
  show xs[((-1 : Int) + (xs.length : Int)).toNat]? = some v
  rw [show ((-1 : Int) + (xs.length : Int)).toNat = xs.length - 1 by omega]
  exact h
def tri (fr bk : List Nat) (x y z : Nat) : Bool := (decide (pos fr x < pos fr y) && decide (pos fr y < pos fr z)) && (decide (pos bk z < pos bk x) && decide (pos bk x < pos bk y))
def wroot (fr bk : List Nat) : Bool := decide (fr.head? ≠ bk.getLast?)
def triB (fr bk : List Nat) : Bool := fr.any fun x => fr.any fun y => fr.any fun z => tri fr bk x y z
def crowdB (fr bk : List Nat) : Bool := fr.any fun c => decide (2 < (kids fr bk c).length)
def badB (fr bk : List Nat) : Bool := wroot fr bk || (triB fr bk || crowdB fr bk)
structure TripAt (H : Hp) (t : Addr) (x y z : Nat) : Prop where
  at' : H t = some (.tup [vc x, vc y, vc z])
def spLetters3 : Sp := fun vs H Q _ => ∃ (p t : Addr) (fr bk : List Nat) (x y z : Nat), vs = [.ref p, .ref t, .int 3] ∧ PairAt H p fr bk ∧ TripAt H t x y z ∧ x ∈ fr ∧ y ∈ fr ∧ z ∈ fr ∧ ∀ H', Same H H' → Q (.bl true) H'
def spTriple : Sp := fun vs H Q _ => ∃ (p t : Addr) (fr bk : List Nat) (x y z : Nat), vs = [.ref p, .ref t] ∧ PairAt H p fr bk ∧ TripAt H t x y z ∧ x ∈ fr ∧ y ∈ fr ∧ z ∈ fr ∧ ∀ H', Same H H' → Q (.bl (tri fr bk x y z)) H'
def spWroot : Sp := fun vs H Q _ => ∃ (p : Addr) (fr bk : List Nat), vs = [.ref p] ∧ PairAt H p fr bk ∧ Q (.bl (wroot fr bk)) H
/-- tuples of three letters -/
inductive TrAt (H : Hp) : List V → List (Nat × Nat × Nat) → Prop
  | nil : TrAt H [] []
  | snoc {us : List V} {ts : List (Nat × Nat × Nat)} {t : Addr} {x y z : Nat} : TrAt H us ts → TripAt H t x y z → TrAt H (us ++ [.ref t]) (ts ++ [(x, y, z)])
theorem TrAt.keep {H H' : Hp} (k : KeepT H H') {us : List V} {ts : List (Nat × Nat × Nat)} (h : TrAt H us ts) : TrAt H' us ts := by
  induction h with
  | nil => exact .nil
  | snoc _ e ih => exact .snoc ih ⟨k _ _ e.at'⟩
theorem TrAt.len {H : Hp} {us : List V} {ts : List (Nat × Nat × Nat)} (h : TrAt H us ts) : us.length = ts.length := by
  induction h with
  | nil => rfl
  | snoc _ _ ih => rw [List.length_append, List.length_append, ih]; rfl
theorem TrAt.get {H : Hp} {us : List V} {ts : List (Nat × Nat × Nat)} (h : TrAt H us ts) : ∀ {i : Nat} {u : V}, us[i]? = some u → ∃ t x y z, u = .ref t ∧ ts[i]? = some (x, y, z) ∧ TripAt H t x y z := by
  induction h with
  | nil => intro i u e; cases e
  | @snoc us ts t x y z h e ih =>
    intro i u hu
    by_cases hi : i < us.length
    · rw [List.getElem?_append_left hi] at hu
      obtain ⟨t', x', y', z', h1, h2, h3⟩ := ih hu
      exact ⟨t', x', y', z', h1, by rw [List.getElem?_append_left (by rw [← h.len]; exact hi)]; exact h2, h3⟩
    · have hl := h.len
      have hi2 : i = us.length := by
        have := (List.getElem?_eq_some_iff.mp hu).1
        rw [List.length_append] at this
        have : i < us.length + 1 := this
        omega
      subst hi2
      rw [List.getElem?_append_right (Nat.le_refl _), Nat.sub_self] at hu
      cases hu
      exact ⟨t, x, y, z, rfl, by rw [hl, List.getElem?_append_right (Nat.le_refl _), Nat.sub_self]; rfl, e⟩
def isTri (fr bk : List Nat) (t : Nat × Nat × Nat) : Prop := t.1 ∈ fr ∧ t.2.1 ∈ fr ∧ t.2.2 ∈ fr ∧ tri fr bk t.1 t.2.1 t.2.2 = true
theorem isTri.triB {fr bk : List Nat} {t : Nat × Nat × Nat} (h : isTri fr bk t) : triB fr bk = true :=
  List.any_eq_true.mpr ⟨_, h.1, List.any_eq_true.mpr ⟨_, h.2.1, List.any_eq_true.mpr ⟨_, h.2.2.1, h.2.2.2⟩⟩⟩
def leT (fr : List Nat) (t u : Nat × Nat × Nat) : Prop := pos fr t.2.2 < pos fr u.2.2 ∨ (pos fr t.2.2 = pos fr u.2.2 ∧ (pos fr t.2.1 < pos fr u.2.1 ∨ (pos fr t.2.1 = pos fr u.2.1 ∧ pos fr t.1 ≤ pos fr u.1)))
/-- the triples that stand in D: all that the word S tells of are there, in some way -/
structure TrIn (H : Hp) (D : Addr) (fr bk : List Nat) (n : Nat) (S : Nat → Nat → Nat → Prop) (H' : Hp) : Prop where
  same : Same H H'
  ex : ∃ us ts, H' D = some (.lst us) ∧ TrAt H' us ts ∧ ts.length ≤ n ∧ (∀ t ∈ ts, isTri fr bk t) ∧ (∀ x y z, isTri fr bk (x, y, z) → (S (pos fr x) (pos fr y) (pos fr z) → ts ≠ [])) ∧ ∀ t, ts[0]? = some t → ∀ u, isTri fr bk u → leT fr t u
theorem TrIn.mono {H : Hp} {D : Addr} {fr bk : List Nat} {n m : Nat} {S T : Nat → Nat → Nat → Prop} {H' : Hp} (h : TrIn H D fr bk n S H') (l : n ≤ m) (st : ∀ x y z, x < y → y < z → T x y z → S x y z) : TrIn H D fr bk m T H' := by
  obtain ⟨s, us, ts, e, a, b, c, d, mn⟩ := h
  refine ⟨s, us, ts, e, a, Nat.le_trans b l, c, fun x y z ht hT => d x y z ht (st _ _ _ ?_ ?_ hT), mn⟩
  · have := ht.2.2.2
    unfold tri at this
    simp only [Bool.and_eq_true, decide_eq_true_eq] at this
    exact this.1.1
  · have := ht.2.2.2
    unfold tri at this
    simp only [Bool.and_eq_true, decide_eq_true_eq] at this
    exact this.1.2
def spTriples : Sp := fun vs H Q _ => ∃ (p : Addr) (fr bk : List Nat), vs = [.ref p] ∧ PairAt H p fr bk ∧
  ∀ (D : Addr) (us : List V) (ts : List (Nat × Nat × Nat)) (H' : Hp), Same H H' → H' D = some (.lst us) → TrAt H' us ts → (∀ t ∈ ts, isTri fr bk t) → (triB fr bk = true → ts ≠ []) → (∀ t, ts[0]? = some t → ∀ u, isTri fr bk u → leT fr t u) → Q (.ref D) H'
section
variable {P : Program} {w : World} {K : PySem.W.Frag} {mg : Str → Option Value} {base : Heap} {f : Addr} {fd : FuncData}
theorem letter_ok {c : Nat} (h : 97 ≤ c ∧ c ≤ 122) : (decide (97 ≤ c) && decide (c ≤ 122)) = true := by rw [decide_eq_true h.1, decide_eq_true h.2]; rfl
theorem ok_letters3 {k : Nat} (F : Fun K "letters_of" "letters_of" s_letters_of f fd) (M : Mgs mg) (Dis_letter : Df P w K mg base (k + 1) "is_letter" ["value"] spLetter) : FnOk P w K mg base CX0 (k + 2) f fd ["pair", "value", "many"] spLetters3 := by
  refine F.ok (k := k + 1) sc_letters_of (fun vs H Q E h => ?_) (fun cdv A outer s H vs Q E hr h => ?_)
  · obtain ⟨p, t, fr, bk, x, y, z, rfl, _⟩ := h
    rfl
  obtain ⟨p, t, fr, bk, x, y, z, rfl, hp, ht, hx, hy, hz, q⟩ := h
  have ht := ht.at'
  refine ⟨_, (pss_cons (ps_if (PW.pt (pw_or (pt_not (pt_val (pe_callB call_isi rfl M.isinstance (by decide +kernel) (pa_cons (pv 1) (pa_cons (pe_bltn (v := .ty "tuple") rfl M.tuple (by decide +kernel) rfl) pa_nil))))) (pw_or1 (pt_cmpR op_ne (pe_callB call_len_seq rfl M.len PySem.boot_len (pa_cons (pv 1) pa_nil)) (pv 2) (nomark _)))))
      (pss_one (ps_ret pe_bl)) pss_nil)
    (pss_one (ps_ret (pe_callB (cr_all rfl) rfl M.all (by decide +kernel) (pa_cons (pe_lc (own := [("item", 3)]) (g := gName 3) (tt := tYes) rfl sc_letters_of.nd (pi_tup (pv 1)) (blkOk_by (N := ["pair", "value", "many", "item"]) (sc := defScope s_letters_of) (by decide +kernel)) (fun _ _ _ _ _ => (pg_name (i := 3) sc_letters_of.nd rfl (.inl rfl))) (fun _ _ _ _ _ => pts_nil) (fun _ _ _ _ _ => (pe_and (pe_call Dis_letter.ok (hr.mono (by omega)) rfl Dis_letter.g Dis_letter.kp Dis_letter.b .nil pass0 (pa_cons (pv 3) pa_nil)) (pe_one (pe_cmpR op_in_sign (pv 3) (pe_ix (show IxR _ (rIxT K) from ix_tup) (pv 0) pe_int (fun _ _ => rfl)) (by rfl)))))) pa_nil))))), ?_⟩
  refine ⟨_, rfl, _, _, _, _, true, rfl, .ty _, .base (.tup ht), kit_ty (by decide +kernel), _, rfl, iteF ?_⟩
  refine ⟨_, rfl, t, _, rfl, .inr (SqT.of ht), _, rfl, rfl, _, rfl, iteNS rfl ?_⟩
  refine ⟨_, rfl, t, rfl, ⟨_, SqT.of ht⟩, fun D nD => ?_⟩
  have k1 := same_new nD (.lst [])
  refine lc_tup (K := K) (a := t) (xs := [vc x, vc y, vc z]) (fun i H' => Same H H' ∧ H' D = some (.lst ((List.replicate (min i 3) true).map V.bl))) ⟨k1, upd_same⟩ (fun i H' _ hq => SqT.of (hq.1 _ _ ht)) (fun i v H1 hv hq => ?_) (fun H1 hq => ?_)
  · obtain ⟨s1, e1⟩ := hq
    obtain ⟨c, rfl, hc⟩ : ∃ c, v = vc c ∧ c ∈ fr := by
      match i, hv with
      | 0, h => cases h; exact ⟨x, rfl, hx⟩
      | 1, h => cases h; exact ⟨y, rfl, hy⟩
      | 2, h => cases h; exact ⟨z, rfl, hz⟩
    have hi : i < 3 := (List.getElem?_eq_some_iff.mp hv).1
    refine ⟨rfl, kept ?_⟩
    refine ⟨_, rfl, c, rfl, ?_⟩
    rw [letter_ok (hp.lt.2 c hc)]
    refine ⟨_, rfl, iteT ?_⟩
    refine ⟨_, rfl, _, rfl, p, _, _, _, rfl, rfl, SqT.of ((hp.same s1).at'), atI_nat (j := 0) rfl, c, tx fr, rfl, rfl, _, e1, ?_, fun b u e => ?_, ?_⟩
    · rw [List.length_map, List.length_replicate]; exact small1000 (by omega)
    · rw [upd_ne (ne_of_none e nD)]; exact s1 _ _ e
    · rw [upd_same, show decide (c ∈ (tx fr).cps.toList) = true from decide_eq_true hc, show min (i + 1) 3 = min i 3 + 1 by omega, List.replicate_succ', List.map_append]
      rfl
  · obtain ⟨s1, e1⟩ := hq
    exact ⟨D, _, rfl, SqL.of e1, q H1 s1⟩
theorem ok_triple {k : Nat} (F : Fun K "is_triple" "is_triple" s_is_triple f fd) (Dletters_of : Df P w K mg base (k + 2) "letters_of" ["pair", "value", "many"] spLetters3) (Din_order : Df P w K mg base (k + 2) "in_order" ["text", "letters"] (spOrd3 K)) :
    FnOk P w K mg base CX0 (k + 3) f fd ["pair", "value"] spTriple := by
  refine F.ok (k := k + 2) sc_is_triple (fun vs H Q E h => ?_) (fun cdv A outer s H vs Q E hr h => ?_)
  · obtain ⟨p, t, fr, bk, x, y, z, rfl, _⟩ := h
    rfl
  obtain ⟨p, t, fr, bk, x, y, z, rfl, hp, ht, hx, hy, hz, q⟩ := h
  refine ⟨_, (pss_cons (ps_if (pt_not (pt_val (pe_call Dletters_of.ok (hr.mono (by omega)) rfl Dletters_of.g Dletters_of.kp Dletters_of.b .nil pass0 (pa_cons (pv 0) (pa_cons (pv 1) (pa_cons pe_int pa_nil))))))
      (pss_one (ps_ret pe_bl)) pss_nil)
    (pss_cons (ps_asg (pv 1) (pg_tup rfl (pgs_cons (pg_name (i := 2) sc_is_triple.nd rfl (.inl rfl)) (pgs_cons (pg_name (i := 3) sc_is_triple.nd rfl (.inl rfl)) (pgs_cons (pg_name (i := 4) sc_is_triple.nd rfl (.inl rfl)) pgs_nil)))))
    (pss_one (ps_ret (pe_and (pe_call Din_order.ok (hr.mono (by omega)) rfl Din_order.g Din_order.kp Din_order.b .nil pass0 (pa_cons (pe_ix ix_tup (pv 0) pe_int (fun _ _ => rfl)) (pa_cons (pe_lst (pa_cons (pv 2) (pa_cons (pv 3) (pa_cons (pv 4) pa_nil)))) pa_nil))) (pe_one (pe_call Din_order.ok (hr.mono (by omega)) rfl Din_order.g Din_order.kp Din_order.b .nil pass0 (pa_cons (pe_ix ix_tup (pv 0) pe_int (fun _ _ => rfl)) (pa_cons (pe_lst (pa_cons (pv 4) (pa_cons (pv 2) (pa_cons (pv 3) pa_nil)))) pa_nil))))))))), ?_⟩
  refine ⟨_, rfl, _, rfl, p, t, fr, bk, x, y, z, rfl, hp, ht, hx, hy, hz, fun H1 s1 => ?_⟩
  refine ⟨_, rfl, iteF ?_⟩
  refine ⟨_, rfl, t, _, rfl, SqT.of (s1 _ _ ht.at'), rfl, _, _, rfl, _, _, rfl, _, _, rfl, rfl, ?_⟩
  have hp1 := hp.same s1
  refine ⟨_, rfl, p, _, _, _, rfl, rfl, SqT.of hp1.at', atI_nat (j := 0) rfl, _, rfl, _, rfl, _, rfl, (by show 3 ≤ sizeLine; decide), fun l nl => ?_⟩
  have k2 := same_new nl (.lst [vc x, vc y, vc z])
  refine ⟨fr, l, x, y, z, rfl, SqL.of upd_same, hx, hy, hz, fun H2 s2 => ?_⟩
  refine ⟨_, rfl, ?_⟩
  have s12 := s1.trans (k2.trans s2)
  have hp2 := hp.same s12
  unfold tri at q
  cases hb : (decide (pos fr x < pos fr y) && decide (pos fr y < pos fr z)) with
  | false =>
    refine iteF ?_
    have := q H2 s12
    rw [hb] at this
    exact this
  | true =>
    refine iteT ?_
    refine ⟨_, rfl, p, _, _, _, rfl, rfl, SqT.of hp2.at', atI_nat (j := 1) rfl, _, rfl, _, rfl, _, rfl, (by show 3 ≤ sizeLine; decide), fun l2 nl2 => ?_⟩
    have k3 := same_new nl2 (.lst [vc z, vc x, vc y])
    refine ⟨bk, l2, z, x, y, rfl, SqL.of upd_same, hp.mem hz, hp.mem hx, hp.mem hy, fun H3 s3 => ?_⟩
    have := q H3 (s12.trans (k3.trans s3))
    rw [hb] at this
    exact this
theorem ok_wroot {k : Nat} (F : Fun K "has_wrong_root" "has_wrong_root" s_has_wrong_root f fd) : FnOk P w K mg base CX0 (k + 1) f fd ["pair"] spWroot := by
  refine F.ok sc_has_wrong_root (fun vs H Q E h => ?_) (fun cdv A outer s H vs Q E hr h => ?_)
  · obtain ⟨p, fr, bk, rfl, _⟩ := h
    rfl
  obtain ⟨p, fr, bk, rfl, hp, q⟩ := h
  refine ⟨_, (pss_cons (ps_asg (pv 0) (pg_tup rfl (pgs_cons (pg_name (i := 1) sc_has_wrong_root.nd rfl (.inl rfl)) (pgs_cons (pg_name (i := 2) sc_has_wrong_root.nd rfl (.inl rfl)) pgs_nil))))
    (pss_one (ps_ret (pe_cmpR op_ne (pe_ix ix_str (pv 1) pe_int (fun _ _ => rfl)) (pe_ix ix_str (pv 2) (pe_un un_neg pe_int) (fun _ _ => rfl)) (nomark _))))), ?_⟩
  have n0 := hp.n0
  have n26 := hp.n1
  have bl := hp.pm.length_eq
  obtain ⟨a, ha⟩ : ∃ a, fr[0]? = some a := ⟨_, List.getElem?_eq_getElem n0⟩
  obtain ⟨b, hb⟩ : ∃ b, bk.getLast? = some b := by
    cases h : bk.getLast? with
    | none => rw [List.getLast?_eq_none_iff] at h; rw [h] at bl; rw [← bl] at n0; exact absurd n0 (by decide)
    | some b => exact ⟨b, rfl⟩
  have zl : (tx fr).length ≤ sizeLine := by rw [tx_len]; exact small (by omega)
  have zb : (tx bk).length ≤ sizeLine := by rw [tx_len]; exact small (by omega)
  refine ⟨_, rfl, p, _, rfl, SqT.of hp.at', rfl, _, _, rfl, _, _, rfl, rfl, ?_⟩
  refine ⟨_, rfl, tx fr, 0, a, rfl, rfl, zl, atI_nat (j := 0) ha, _, rfl, 1, rfl, tx bk, -1, b, rfl, rfl, zb, atI_last hb, rfl, ?_⟩
  have e : wroot fr bk = !decide (V.str (⟨#[a]⟩ : Str) = V.str ⟨#[b]⟩) := by
    unfold wroot
    rw [hb, List.head?_eq_getElem?, ha]
    by_cases h : a = b
    · subst h; simp
    · rw [decide_eq_true (show some a ≠ some b from fun z => h (Option.some.inj z)), decide_eq_false (fun z => h (ch_inj (V.str.inj z)))]; rfl
  rw [e] at q
  exact q
end
/-! ### comprehensions of several clauses, clause by clause -/
def thenPut (elt : Expr) (acc : Value) (env : Env) (k : Sem PySem.Fin) : Sem PySem.Fin := (do let _ ← call (.builtin "list.append") [acc, ← eval elt env]) >>= fun _ => k
def thenIn (e src : Expr) (d : Nat) (acc : Value) (env : Env) (k : Sem PySem.Fin) : Sem PySem.Fin := do
  let z ← eval src env
  standAt src.pos
  let z ← foldedSetIterable src env z
  let _ ← runOwn (.compStart e d (← holding [z] (pyIter z)) acc env) env
  k
def turnBy (e tg src : Expr) (ifs : List Expr) (d : Nat) (it acc : Value) (env : Env) (b : Sem PySem.Fin → Sem PySem.Fin) : Sem PySem.Fin :=
  standAt src.pos >>= fun _ => pyNext it >>= fun r => match r with
    | none => pure (.done .next)
    | some v => letOwnedTupleGo tg it v >>= fun _ => assign tg env v >>= fun _ =>
      (forIn ifs true fun q r => if r = true then do let g ← isTrue q env (eval q env); pure (ForInStep.yield g) else pure (ForInStep.yield r)) >>= fun g =>
        if g = true then b (again (.compLoop e d it acc env)) else again (.compLoop e d it acc env)
theorem turn_put {elt : Expr} {cs : List Comprehension} {sc : Scope} {ps : Pos} {d : Nat} {it acc : Value} {env : Env} {tg src : Expr} {ifs : List Expr} (h : cs[d]? = some ⟨tg, src, ifs, 0⟩) (h1 : cs[d + 1]? = none) :
    compTurn (.ListComp elt cs sc ps) d it acc env = turnBy (.ListComp elt cs sc ps) tg src ifs d it acc env (thenPut elt acc env) := by
  unfold compTurn
  simp only [h, h1]
  rfl
theorem turn_in {elt : Expr} {cs : List Comprehension} {sc : Scope} {ps : Pos} {d : Nat} {it acc : Value} {env : Env} {tg src tg1 src1 : Expr} {ifs ifs1 : List Expr} (h : cs[d]? = some ⟨tg, src, ifs, 0⟩) (h1 : cs[d + 1]? = some ⟨tg1, src1, ifs1, 0⟩) :
    compTurn (.ListComp elt cs sc ps) d it acc env = turnBy (.ListComp elt cs sc ps) tg src ifs d it acc env (thenIn (.ListComp elt cs sc ps) src1 (d + 1) acc env) := by
  unfold compTurn
  simp only [h, h1]
  rfl
/-- what follows a clause's tests: from the slots and the heap; behind it the slots vs are forgotten -/
abbrev TB := L2.St → Hp → (Hp → Prop) → Prop
structure PB (Y : Cx) (b : Sem PySem.Fin → Sem PySem.Fin) (vs : List Nat) (t : TB) : Prop where
  run : ∀ (pins : List (Addr × Obj)) (s : Shared) (σ : L2.St) (H : Hp) (Q : Hp → Prop) (k : Sem PySem.Fin) (R : PySem.Fin → Shared → Prop) (E : Value → Shared → Prop), Inv Y pins σ H s → t σ H Q →
    (∀ s' H', Inv Y pins (wipe σ vs) H' s' → Q H' → wpAny (model Y.prog Y.w) Y.A k R E s') → wpAny (model Y.prog Y.w) Y.A (b k) R E s
theorem noE {α : Type} {t : Sem α} {Q Q' : α → Shared → Prop} {M : Model} {A : Around} {E E' : Value → Shared → Prop} {s : Shared} (h : wpAny M A t Q E s) (hE : E = fun _ _ => False) (hQ : ∀ a s, Q a s → Q' a s) : wpAny M A t Q' E' s := by
  subst hE
  exact wpAny_mono h hQ fun _ _ z => z.elim
def tPut (te : TE) (D : Addr) : TB := fun σ H Q => te σ H fun y H' => ∃ acc, H' D = some (.lst acc) ∧ acc.length < sizeLine ∧ Q (upd H' D (.lst (acc ++ [y])))
theorem pb_put {Y : Cx} (hx : Y.xe = fun _ _ => False) {elt : Expr} {te : TE} {D : Addr} (he : PE Y elt te) : PB Y (thenPut elt (.ref D) Y.env) [] (tPut te D) := by
  refine ⟨fun pins s σ H Q k R E I h hk => ?_⟩
  unfold thenPut
  refine wpAny_bind (wpAny_bind (noE (he.run pins s σ H _ I h) hx fun u s1 h1 => ?_))
  obtain ⟨y, H1, I1, r1, acc, e1, z1, q1⟩ := h1
  exact wpAny_bind (app_ok I1 e1 z1 r1 fun s2 I2 => wpAny_pure (hk s2 _ I2 q1))
/-- the loop of a clause: W as in a comprehension of one clause -/
def tLev (J : It) (g : TG) (tt : TT) (t : TB) (ws : List Nat) (σ : L2.St) (H : Hp) (Q : Hp → Prop) : Prop := ∃ W : Nat → Nat → Hp → Prop, (∃ m, W 0 m H) ∧ ∀ i m H, W i m H →
  (J.stop i H ∧ Q H) ∨ (J.go i H ∧ ∃ Nx : Hp → Prop, (∀ H', Nx H' → ∃ m', m' < m ∧ W (i + 1) m' H') ∧ ∀ x H', J.yld i H x H' → g x (wipe σ ws) H' fun σ2 H2 => wipe σ2 ws = wipe σ ws ∧ tt σ2 H2 fun b H3 => if b = true then t σ2 H3 Nx else Nx H3)
theorem lev_loop {Y : Cx} (hx : Y.xe = fun _ _ => False) (hc : Y.calm = true) {elt : Expr} {cs : List Comprehension} {sc : Scope} {ps : Pos} {d : Nat} {it D : Addr} {tg src : Expr} {ifs : List Expr} {b : Sem PySem.Fin → Sem PySem.Fin} {J : It} {fp : List Addr} {tn : Nat → Heap → Prop}
    {pins : List (Addr × Obj)} {σ : L2.St} {H : Hp} {Q : Hp → Prop} {g : TG} {tt : TT} {t : TB} {vs ws : List Nat} {s : Shared} {R : Result → Shared → Prop}
    (ht : ∀ it, compTurn (.ListComp elt cs sc ps) d it (.ref D) Y.env = turnBy (.ListComp elt cs sc ps) tg src ifs d it (.ref D) Y.env b)
    (T : Turn Y.prog Y.w Y.K tg J fp it tn) (hg : PG Y tg g) (hts : PTs Y ifs tt) (hb : PB Y b vs t) (hv : ∀ i ∈ vs, i ∈ ws)
    (I : Inv Y pins (wipe σ ws) H s) (st : tn 0 s.heap) (hf : ∀ b ∈ fp, FpOk Y pins H b) (h : tLev J g tt t ws σ H Q)
    (hR : ∀ s' H', Inv Y pins (wipe σ ws) H' s' → Q H' → R (.ok .next) s') :
    codeAny (model Y.prog Y.w) Y.A (.compLoop (.ListComp elt cs sc ps) d (.ref it) (.ref D) Y.env) R s := by
  obtain ⟨W, ⟨m0, w0⟩, turn⟩ := h
  have stat : ∀ {H' : Hp}, (∀ b ∈ fp, H' b = none) → ∀ b ∈ fp, FpOk Y pins H' b := fun hn b hb => ⟨hn b hb, (hf b hb).2⟩
  refine codeAny_loop rfl (fun n s' => ∃ i H', Inv Y pins (wipe σ ws) H' s' ∧ tn i s'.heap ∧ (∀ b ∈ fp, H' b = none) ∧ W i n H') (fun n s1 h1 => ?_) m0 ⟨0, H, I, st, fun b hb => (hf b hb).1, w0⟩
  obtain ⟨i, H1, I1, st1, n1, w1⟩ := h1
  show wpAny _ Y.A ((compTurn (.ListComp elt cs sc ps) d (.ref it) (.ref D) Y.env).onRaise (fun x => do noteFrame x Y.env; theTreesLotGoes x)) _ _ s1
  refine wpAny_noted ?_
  rw [ht]
  unfold turnBy
  refine wpAny_bind (wpAny_standAt ?_)
  rcases turn i n H1 w1 with ⟨stop, q1⟩ | ⟨go, Nx, hNx, step⟩
  · refine wpAny_bind (noE (T.done Y rfl rfl rfl hc i pins s1 _ H1 (fun _ _ => False) I1 (stat n1) st1 stop) rfl fun r s2 h2 => ?_)
    obtain ⟨hr, I2⟩ := h2
    subst hr
    exact wpAny_pure (hR s2 H1 I2 q1)
  · refine wpAny_bind (noE (T.item Y rfl rfl rfl hc i pins s1 _ H1 (fun _ _ => False) I1 (stat n1) st1 go) rfl fun r s2 h2 => ?_)
    obtain ⟨u, hr, h2⟩ := h2
    subst hr
    refine wpAny_bind (noE h2 rfl fun _ s3 h3 => ?_)
    obtain ⟨x, H3, I3, r3, y3, st3, n3⟩ := h3
    have I3' := I3.pinned (stat n3) (T.obj _ _ st3)
    refine wpAny_bind (noE (hg.run _ s3 _ H3 x u _ I3' r3 (step x H3 y3)) hx fun _ s4 h4 => ?_)
    obtain ⟨σ4, H4, I4, hw4, q4⟩ := h4
    refine wpAny_bind (noE (hts.run _ s4 σ4 H4 _ I4 q4) hx fun c s5 h5 => ?_)
    obtain ⟨H5, I5, q5⟩ := h5
    have fin : ∀ {σ' : L2.St} {s' : Shared} {H' : Hp}, Inv Y (pins ++ pinsAt fp s3.heap) σ' H' s' → σ'.length = (wipe σ ws).length → (∀ (j : Nat) v, (wipe σ ws)[j]? = some (some v) → σ'[j]? = some (some v)) → Nx H' →
        ∃ m, m < n ∧ ∃ i H', Inv Y pins (wipe σ ws) H' s' ∧ tn i s'.heap ∧ (∀ b ∈ fp, H' b = none) ∧ W i m H' := fun {σ' s' H'} I' hl hk nx => by
      obtain ⟨m', hm, w'⟩ := hNx H' nx
      have pin' : ∀ b ∈ fp, ∀ o, s3.heap.get? b = some o → s'.heap.get? b = some o ∧ H' b = none := fun b hb o e =>
        have z := I'.pin (b, o) (List.mem_append_right _ (List.mem_append_right _ (mem_pinsAt hb e)))
        ⟨z.1, z.2.1⟩
      refine ⟨m', hm, i + 1, H', I'.unpinned.weak hl.symm hk, T.keep _ _ _ st3 fun b hb o e => (pin' b hb o e).1, fun b hb => ?_, w'⟩
      obtain ⟨o, e, _⟩ := T.obj _ _ st3 b hb
      exact (pin' b hb o e).2
    have hl4 : σ4.length = (wipe σ ws).length := by rw [← hw4, wipe_length]
    have hk4 : ∀ (j : Nat) v, (wipe σ ws)[j]? = some (some v) → σ4[j]? = some (some v) := fun j v e => by
      rw [← hw4] at e
      exact (wipe_some e).1
    have hk5 : ∀ (j : Nat) v, (wipe σ ws)[j]? = some (some v) → (wipe σ4 vs)[j]? = some (some v) := fun j v e => by
      rw [← hw4] at e
      obtain ⟨e1, e2⟩ := wipe_some e
      rw [wipe_out fun z => e2 (hv j z)]
      exact e1
    cases c with
    | false =>
      rw [if_neg Bool.false_ne_true] at q5 ⊢
      exact wpAny_pure ⟨rfl, fin I5 hl4 hk4 q5⟩
    | true =>
      rw [if_pos rfl] at q5 ⊢
      exact hb.run _ s5 σ4 H5 _ _ _ _ I5 q5 fun s6 H6 I6 q6 => wpAny_pure ⟨rfl, fin I6 (by rw [wipe_length]; exact hl4) hk5 q6⟩
theorem start_at {prog : Program} {w : World} {A : Around} {R : Result → Shared → Prop} {s : Shared} {elt : Expr} {cs : List Comprehension} {sc : Scope} {ps : Pos} {d : Nat} {it acc : Value} {env : Env} {tg src : Expr} {ifs : List Expr} (hd : cs[d]? = some ⟨tg, src, ifs, 0⟩)
    (h0 : codeAny (model prog w) A (.compLoop (.ListComp elt cs sc ps) d it acc env) R s)
    (h : wpAny (model prog w) A (pyIter it) (fun it' s' => codeAny (model prog w) A (.compLoop (.ListComp elt cs sc ps) d it' acc env) R s') (notedBy (model prog w) A env fun x s' => R (.error x) s') s) :
    codeAny (model prog w) A (.compStart (.ListComp elt cs sc ps) d it acc env) R s := by
  refine codeAny_of_tree ?_
  show wpAny _ _ ((compStart (.ListComp elt cs sc ps) d it acc env).onRaise (fun x => do noteFrame x env; standAt theWindowsPlace)) _ _ s
  refine wpAny_notedAt ?_
  have hcl : (clausesOf (.ListComp elt cs sc ps))[d]? = some ⟨tg, src, ifs, 0⟩ := hd
  unfold compStart
  simp only [hcl]
  show wpAny _ _ (ask >>= _) _ _ s
  refine wpAny_bind (wpAny_askSetting (wpAny_ite ?_))
  split
  · first
      | exact wpAny_pure ⟨rfl, h0⟩
      | exact wpAny_bind (wpAny_pure (wpAny_pure ⟨rfl, h0⟩))
  · first
      | exact wpAny_bind (wpAny_rule (wpAny_bind (wpAny_standAt (wpAny_bind (wpAny_mono h (fun i2 s2 h2 => wpAny_pure ⟨rfl, h2⟩) fun _ _ z => z)))))
      | (refine wpAny_bind (wpAny_rule ?_); show wpAny _ _ (standAt src.pos >>= _) _ _ s; exact wpAny_bind (wpAny_standAt (wpAny_bind (wpAny_mono h (fun i2 s2 h2 => wpAny_pure ⟨rfl, h2⟩) fun _ _ z => z))))
def tIn (wi : TI) (g : TG) (tt : TT) (t : TB) (ws : List Nat) : TB := fun σ H Q => wi σ H fun J H1 => tLev J g tt t ws σ H1 Q
theorem pb_in {Y : Cx} (hx : Y.xe = fun _ _ => False) (hc : Y.calm = true) {elt : Expr} {cs : List Comprehension} {sc : Scope} {ps : Pos} {d : Nat} {D : Addr} {tg src : Expr} {ifs : List Expr} {b : Sem PySem.Fin → Sem PySem.Fin} {wi : TI} {g : TG} {tt : TT} {t : TB} {vs ws : List Nat}
    (hd : cs[d]? = some ⟨tg, src, ifs, 0⟩) (ht : ∀ it, compTurn (.ListComp elt cs sc ps) d it (.ref D) Y.env = turnBy (.ListComp elt cs sc ps) tg src ifs d it (.ref D) Y.env b)
    (hi : PI Y tg src wi) (hg : PG Y tg g) (hts : PTs Y ifs tt) (hb : PB Y b vs t) (hv : ∀ i ∈ vs, i ∈ ws) (hs : ∀ x, foldedSetIterable src Y.env x = pure x) :
    PB Y (thenIn (.ListComp elt cs sc ps) src d (.ref D) Y.env) ws (tIn wi g tt t ws) := by
  refine ⟨fun pins s σ H Q k R E I h hk => ?_⟩
  unfold thenIn
  refine wpAny_bind (noE (hi.run pins s σ H _ I h) hx fun xv s1 h1 => ?_)
  refine wpAny_bind (wpAny_standAt (wpAny_bind (wpAny_of_eq (hs xv) (wpAny_bind (wpAny_holding (noE h1 hx fun itv s2 h2 => ?_))))))
  obtain ⟨it, fp, tn, J, H2, rfl, I2, T, st2, f2, q2⟩ := h2
  refine wpAny_bind (wpAny_runOwn ?_)
  rw [Around.mark_none]
  have I2' : Inv Y pins (wipe σ ws) H2 s2 := I2.weak (wipe_length _ _) fun j v e => (wipe_some e).1
  have loop := lev_loop (R := fun r s' => match r with | .ok _ => ∃ H', Inv Y pins (wipe σ ws) H' s' ∧ Q H' | .error _ => False) hx hc ht T hg hts hb hv I2' st2 f2 q2 (fun s' H' I' q' => ⟨H', I', q'⟩)
  refine codeAny_mono (start_at hd loop (T.self Y.A 0 _ _ _ st2 loop)) fun r s' hr => ?_
  cases r with
  | error e => exact hr.elim
  | ok f =>
    obtain ⟨H', I', q'⟩ := hr
    first
      | exact hk s' H' I' q'
      | exact wpAny_pure (hk s' H' I' q')
      | exact wpAny_bind (wpAny_pure (hk s' H' I' q'))
def tLcN (wi : TI) (g : TG) (tt : TT) (t : Addr → TB) (ws : List Nat) : TE := fun σ H Q => wi σ H fun J H1 => ∀ D, H1 D = none → tLev J g tt (t D) ws σ (upd H1 D (.lst [])) fun H' => Q (.ref D) H'
theorem lcN_core {X : Cx} {pins : List (Addr × Obj)} {s : Shared} {σ : L2.St} {H : Hp} {Q : VK} {elt tg src : Expr} {ifs : List Expr} {cs : List Comprehension} {scope : Scope} {own : List (Str × Nat)} {vs : List Nat} {pos pos' : Pos} {wi : TI} {g : TG} {tt : TT} {t : Addr → TB} {b : Value → Env → Sem PySem.Fin → Sem PySem.Fin} {use : Option (Value → Sem Unit)} {Qf : Value → Shared → Prop}
    (hc : X.calm = true) (hN : X.N.Nodup) (I : Inv X pins σ H s) (hi : PI X tg src wi) (ok : BlkOk X.N X.env.scope scope own) (hv : ∀ i ∈ vs, i ∈ own.map (·.2))
    (hg : ∀ (s : Shared) (H : Hp) (C : Addr) (cl : List (Str × Addr)) (fp : List Addr), PG (X.blk s H scope (compEnvC scope cl C X.env) fp) tg g) (hts : ∀ (s : Shared) (H : Hp) (C : Addr) (cl : List (Str × Addr)) (fp : List Addr), PTs (X.blk s H scope (compEnvC scope cl C X.env) fp) ifs tt)
    (hb : ∀ (s : Shared) (H : Hp) (C : Addr) (cl : List (Str × Addr)) (fp : List Addr) (D : Addr), PB (X.blk s H scope (compEnvC scope cl C X.env) fp) (b (.ref D) (compEnvC scope cl C X.env)) vs (t D))
    (ht : ∀ it acc env, compTurn (.ListComp elt (⟨tg, src, ifs, 0⟩ :: cs) scope pos) 0 it acc env = turnBy (.ListComp elt (⟨tg, src, ifs, 0⟩ :: cs) scope pos) tg src ifs 0 it acc env (b acc env)) (hs : ∀ x, foldedSetIterable src X.env x = pure x)
    (h : tLcN wi g tt t (own.map (·.2)) σ H Q)
    (hRR : ∀ D C s' m H', Inv X pins σ H' s' → Q (.ref D) H' → s'.heap.Ns C m → FpOk X pins H' C → compPost (model X.prog X.w) X.A X.xe use Qf (.ref D) C (.ok .next) s') :
    wpAny (model X.prog X.w) X.A (comprehension (.ListComp elt (⟨tg, src, ifs, 0⟩ :: cs) scope pos) scope X.env pos' (newList []) false (eval src X.env) use) Qf X.xe s := by
  have free : ∀ y ∈ scope.names, y.2 = .free → ∃ c, X.env.cells.lookup y.1 = some c := fun y hy e => (ok.free y hy e).elim (fun z => I.ok.has _ (.inl z)) fun z => I.ok.has _ (.inr z)
  refine wpAny_comprehension_free (use := use) rfl hs (closure_ok free) ok.kind (fun y hy e => by rw [ok.uniq y hy, e]) (wpAny_mono (hi.run pins s σ H _ I h) (fun xv s1 h1 => wpAny_mono h1 (fun itv s2 h2 => ?_) fun _ _ z => z) fun _ _ z => z)
  obtain ⟨it, fp, tn, J, H2, rfl, I2, T, st2, f2, q⟩ := h2
  refine wpAny_newObj_type (newEnv_comp ?_) (by show 0 ≤ sizeLine; decide)
  obtain ⟨D, hD⟩ : ∃ D, s2.heap.objs.size = D := ⟨_, rfl⟩
  have fD : H2 D = none := I2.hok.fresh (Nat.le_of_eq hD)
  have lev := q D fD
  obtain ⟨s3, hs3⟩ : ∃ s3 : Shared, ({ s2 with heap := s2.heap.push { cls := .type "list", data := .seq ([] : List Value).toArray } } : Shared) = s3 := ⟨_, rfl⟩
  have hp3 : s3.heap = s2.heap.push { cls := .type "list", data := .seq ([] : List Value).toArray } := by rw [← hs3]
  have I3 : Inv X pins σ (upd H2 D (.lst [])) s3 := by
    rw [← hs3]
    exact I2.laid (t' := s2.toks) (fun b o e => Heap.get?_push_of_some _ e) (Nat.le_of_eq hD) ⟨Nat.zero_le _, [], 0, .nil, by rw [← hD]; exact Heap.get?_push_size _ rfl⟩
  have below : ∀ b ∈ fp, b < s2.heap.objs.size := fun b hb => by
    obtain ⟨o, e, _⟩ := T.obj _ _ st2 b hb
    exact Heap.lt_size e
  have f3 : ∀ b ∈ fp, FpOk X pins (upd H2 D (.lst [])) b ∧ b < s3.heap.objs.size := fun b hb => by
    have lt := below b hb
    refine ⟨⟨?_, (f2 b hb).2⟩, by rw [hp3, Heap.size_push]; exact Nat.lt_succ_of_lt lt⟩
    rw [upd_ne (by rw [← hD]; exact Nat.ne_of_lt lt)]
    exact (f2 b hb).1
  have st3 : tn 0 s3.heap := T.keep _ _ _ st2 fun b _ o e => by rw [hp3]; exact Heap.get?_push_of_some _ e
  have I4 := block_start I3 ok hN f3
  rw [hs3, hD]
  have pg := hg s3 (upd H2 D (.lst [])) s3.heap.objs.size (cellsFrom (s3.heap.objs.size + 1) scope.names (cloFrom X.env.cells scope.names [])) fp
  have pt := hts s3 (upd H2 D (.lst [])) s3.heap.objs.size (cellsFrom (s3.heap.objs.size + 1) scope.names (cloFrom X.env.cells scope.names [])) fp
  have pb := hb s3 (upd H2 D (.lst [])) s3.heap.objs.size (cellsFrom (s3.heap.objs.size + 1) scope.names (cloFrom X.env.cells scope.names [])) fp D
  have no3 : ∀ b ∈ fp, (upd H2 D (.lst [])) b = none := fun b hb => (f3 b hb).1.1
  obtain ⟨ce, hce⟩ : ∃ ce, compEnvC scope (cellsFrom (s3.heap.objs.size + 1) scope.names (cloFrom X.env.cells scope.names [])) s3.heap.objs.size X.env = ce := ⟨_, rfl⟩
  change codeAny _ _ (.compStart (.ListComp elt (⟨tg, src, ifs, 0⟩ :: cs) scope pos) 0 (.ref it) (.ref D) (compEnvC scope (cellsFrom (s3.heap.objs.size + 1) scope.names (cloFrom X.env.cells scope.names [])) s3.heap.objs.size X.env)) (compPost _ _ _ use Qf (.ref D) s3.heap.objs.size) _
  rw [hce] at I4 pg pt pb ⊢
  have locs : ce.locals = s3.heap.objs.size := by rw [← hce]; rfl
  obtain ⟨H3, hH3⟩ : ∃ H3, upd H2 D (.lst []) = H3 := ⟨_, rfl⟩
  rw [hH3] at I3 I4 pg pt pb f3 lev no3
  obtain ⟨s4, hs4⟩ : ∃ s4 : Shared, ({ s3 with heap := pushCells (s3.heap.push { cls := .type "dict", data := .dict #[] }) scope.names } : Shared) = s4 := ⟨_, rfl⟩
  rw [hs4] at I4 ⊢
  have st4 : tn 0 s4.heap := T.keep _ _ _ st3 fun b _ o e => by rw [← hs4]; exact pushCells_keeps _ _ _ _ (Heap.get?_push_of_some _ e)
  have f4 : ∀ b ∈ fp, FpOk (X.blk s3 H3 scope ce fp) [] H3 b := fun b hb =>
    ⟨no3 b hb, (I4.ok.exf b hb).1, I4.ok.exfs b hb, .inl hb, fun x c e => (I4.ok.exf b hb).2 x c e, fun p hp => absurd (show p ∈ ([] : List (Addr × Obj)) ++ [] from hp) (by simp)⟩
  have loop : codeAny (model X.prog X.w) X.A (.compLoop (.ListComp elt (⟨tg, src, ifs, 0⟩ :: cs) scope pos) 0 (.ref it) (.ref D) ce) (compPost (model X.prog X.w) X.A X.xe use Qf (.ref D) s3.heap.objs.size) s4 := by
    refine lev_loop (Y := X.blk s3 H3 scope ce fp) rfl hc (fun it => ht it (.ref D) ce) T pg pt pb hv I4 st4 f4 lev fun s5 H5 I5 q5 => ?_
    have I6 : Inv X pins σ H5 s5 := I3.call' (ch := fp) I5.os I5.base I5.hok I5.bare fun b hb => ⟨(f3 b hb).1.2.2.2.1, (f3 b hb).1.2.1, (f3 b hb).1.2.2.2.2.1, (f3 b hb).1.2.2.2.2.2⟩
    have nC : H5 s3.heap.objs.size = none := by
      have z : H5 ce.locals = none := I5.free
      rw [locs] at z
      exact z
    obtain ⟨m, hm, _⟩ := I5.loc
    have hm : s5.heap.Ns ce.locals m := hm
    rw [locs] at hm
    exact hRR D s3.heap.objs.size s5 m H5 I6 q5 hm (I3.fpOk (Nat.le_refl _) nC)
  exact codeAny_compStart_list loop (T.self X.A 0 _ _ _ st4 loop)
theorem pe_lcN {X : Cx} {elt tg src : Expr} {ifs : List Expr} {cs : List Comprehension} {scope : Scope} {own : List (Str × Nat)} {vs : List Nat} {pos : Pos} {wi : TI} {g : TG} {tt : TT} {t : Addr → TB} {b : Value → Env → Sem PySem.Fin → Sem PySem.Fin}
    (hc : X.calm = true) (hN : X.N.Nodup) (hi : PI X tg src wi) (ok : BlkOk X.N X.env.scope scope own) (hv : ∀ i ∈ vs, i ∈ own.map (·.2))
    (hg : ∀ (s : Shared) (H : Hp) (C : Addr) (cl : List (Str × Addr)) (fp : List Addr), PG (X.blk s H scope (compEnvC scope cl C X.env) fp) tg g) (hts : ∀ (s : Shared) (H : Hp) (C : Addr) (cl : List (Str × Addr)) (fp : List Addr), PTs (X.blk s H scope (compEnvC scope cl C X.env) fp) ifs tt)
    (ht : ∀ it acc env, compTurn (.ListComp elt (⟨tg, src, ifs, 0⟩ :: cs) scope pos) 0 it acc env = turnBy (.ListComp elt (⟨tg, src, ifs, 0⟩ :: cs) scope pos) tg src ifs 0 it acc env (b acc env))
    (hb : ∀ (s : Shared) (H : Hp) (C : Addr) (cl : List (Str × Addr)) (fp : List Addr) (D : Addr), PB (X.blk s H scope (compEnvC scope cl C X.env) fp) (b (.ref D) (compEnvC scope cl C X.env)) vs (t D)) (hs : ∀ x, foldedSetIterable src X.env x = pure x := by intro _; rfl) :
    PE X (.ListComp elt (⟨tg, src, ifs, 0⟩ :: cs) scope pos) (tLcN wi g tt t (own.map (·.2))) := by
  refine ⟨fun pins s σ H Q I h => ?_⟩
  rw [eval_ListComp]
  refine lcN_core hc hN I hi ok hv hg hts hb ht hs h fun D C s' m H' I' q hn f => ⟨m, hn, fun h'' sb => ?_⟩
  exact ⟨.ref D, H', I'.turned (t' := s'.toks) (fun b o hb e => (sb.2 b hb).trans e) f.1 f.2.1 f.2.2.2.1 f.2.2.2.2.1 f.2.2.2.2.2, rfl, q⟩
/-- the loop of a clause by what holds at its turns -/
theorem lev_it {J : It} {n : Nat} {G : Hp → Prop} {Yl : Nat → Hp → V → Hp → Prop} (w : Walk J n G Yl) {g : TG} {tt : TT} {t : TB} {ws : List Nat} {σ : L2.St} {H : Hp} {Q : Hp → Prop} (Pv : Nat → Hp → Prop) (h0 : Pv 0 H) (hG : ∀ i H, i ≤ n → Pv i H → G H)
    (hs : ∀ i x H H', i < n → Pv i H → Yl i H x H' → g x (wipe σ ws) H' fun σ2 H2 => wipe σ2 ws = wipe σ ws ∧ tt σ2 H2 fun b H3 => if b = true then t σ2 H3 (Pv (i + 1)) else Pv (i + 1) H3) (hd : ∀ H, Pv n H → Q H) : tLev J g tt t ws σ H Q := by
  refine ⟨fun i m H => m = n - i ∧ i ≤ n ∧ Pv i H, ⟨n, by simp, Nat.zero_le _, h0⟩, ?_⟩
  rintro i m H ⟨rfl, hi, p⟩
  have q := hG i H hi p
  by_cases lt : i < n
  · exact .inr ⟨w.goes i H lt q, Pv (i + 1), fun H' p' => ⟨n - (i + 1), by omega, rfl, lt, p'⟩, fun x H' y => hs i x H H' lt p (w.yields i H x H' lt q y)⟩
  · have e : i = n := by omega
    subst e
    exact .inl ⟨w.stops H q, hd H p⟩
theorem lev_range {lo : Int} {n : Nat} {g : TG} {tt : TT} {t : TB} {ws : List Nat} {σ : L2.St} {H : Hp} {Q : Hp → Prop} (Pv : Nat → Hp → Prop) (h0 : Pv 0 H)
    (hs : ∀ i H, i < n → Pv i H → g (.int (lo + i)) (wipe σ ws) H fun σ2 H2 => wipe σ2 ws = wipe σ ws ∧ tt σ2 H2 fun b H3 => if b = true then t σ2 H3 (Pv (i + 1)) else Pv (i + 1) H3) (hd : ∀ H, Pv n H → Q H) : tLev (Itr lo n) g tt t ws σ H Q := by
  refine lev_it walk_range Pv h0 (fun _ _ _ _ => trivial) (fun i x H H' hi hp hy => ?_) hd
  obtain ⟨rfl, rfl⟩ := hy
  exact hs i H' hi hp
theorem lev_list {K : PySem.W.Frag} {a : Addr} {xs : List V} {g : TG} {tt : TT} {t : TB} {ws : List Nat} {σ : L2.St} {H : Hp} {Q : Hp → Prop} (Pv : Nat → Hp → Prop) (h0 : Pv 0 H) (hl : ∀ i H, i ≤ xs.length → Pv i H → SqL K H a xs)
    (hs : ∀ i x H, xs[i]? = some x → Pv i H → g x (wipe σ ws) H fun σ2 H2 => wipe σ2 ws = wipe σ ws ∧ tt σ2 H2 fun b H3 => if b = true then t σ2 H3 (Pv (i + 1)) else Pv (i + 1) H3) (hd : ∀ H, Pv xs.length H → Q H) : tLev (Itl K a) g tt t ws σ H Q := by
  refine lev_it walk_list Pv h0 hl (fun i x H H' hi hp hy => ?_) hd
  obtain ⟨rfl, hx⟩ := hy
  exact hs i x H' hx hp
/-! ### triples_of, reason_against, single_letters -/
theorem idx_mem {fr : List Nat} {i : Nat} (h : i < fr.length) : fr[i] ∈ fr := List.getElem_mem h
theorem tri_pos {fr bk : List Nat} {x y z : Nat} (h : tri fr bk x y z = true) : pos fr x < pos fr y ∧ pos fr y < pos fr z := by
  unfold tri at h
  simp only [Bool.and_eq_true, decide_eq_true_eq] at h
  exact h.1
section
variable {P : Program} {w : World} {K : PySem.W.Frag} {mg : Str → Option Value} {base : Heap} {f : Addr} {fd : FuncData}
theorem ok_triples {k : Nat} (F : Fun K "triples_of" "triples_of" s_triples_of f fd) (M : Mgs mg) (Dis_triple : Df P w K mg base (k + 3) "is_triple" ["pair", "value"] spTriple) : FnOk P w K mg base CX0 (k + 4) f fd ["pair"] spTriples := by
  refine F.ok (k := k + 3) sc_triples_of (fun vs H Q E h => ?_) (fun cdv A outer s H vs Q E hr h => ?_)
  · obtain ⟨p, fr, bk, rfl, _⟩ := h
    rfl
  obtain ⟨p, fr, bk, rfl, hp, q⟩ := h
  have n26 := hp.n1
  have nd := hp.lt.1
  refine ⟨_, (pss_cons (ps_set (i := 1) sc_triples_of.nd rfl (.inr rfl) (pe_ix ix_tup (pv 0) pe_int (fun _ _ => rfl)))
    (pss_one (ps_ret (pe_lcN (own := [("three", 2), ("two", 3), ("one", 4)]) (vs := [3, 4]) (g := gName 2) (tt := tYes) rfl sc_triples_of.nd (pi_range1 rfl M.range (pa_cons (pe_callB call_len_str rfl M.len PySem.boot_len (pa_cons (pv 1) pa_nil)) pa_nil)) (blkOk_by (N := ["pair", "first", "three", "two", "one"]) (sc := defScope s_triples_of) (by decide +kernel)) (by decide) (fun _ _ _ _ _ => (pg_name (i := 2) sc_triples_of.nd rfl (.inl rfl))) (fun _ _ _ _ _ => pts_nil) (fun _ _ _ => turn_in rfl rfl) (fun _ _ _ _ _ _ => (pb_in (ws := [3, 4]) (g := gName 3) (tt := tYes) rfl rfl rfl (fun _ => turn_in rfl rfl) (pi_range1 rfl M.range (pa_cons (pv 2) pa_nil)) (pg_name (i := 3) sc_triples_of.nd rfl (.inl rfl)) (pts_nil) (pb_in (ws := [4]) (g := gName 4) rfl rfl rfl (fun _ => turn_put rfl rfl) (pi_range1 rfl M.range (pa_cons (pv 3) pa_nil)) (pg_name (i := 4) sc_triples_of.nd rfl (.inl rfl)) (pts_one (pt_val (pe_call Dis_triple.ok (hr.mono (by omega)) rfl Dis_triple.g Dis_triple.kp Dis_triple.b .nil pass0 (pa_cons (pv 0) (pa_cons (pe_tup (pa_cons (pe_ix ix_str (pv 1) (pv 4) (fun _ _ => rfl)) (pa_cons (pe_ix ix_str (pv 1) (pv 3) (fun _ _ => rfl)) (pa_cons (pe_ix ix_str (pv 1) (pv 2) (fun _ _ => rfl)) pa_nil)))) pa_nil))))) (pb_put rfl (pe_tup (pa_cons (pe_ix ix_str (pv 1) (pv 4) (fun _ _ => rfl)) (pa_cons (pe_ix ix_str (pv 1) (pv 3) (fun _ _ => rfl)) (pa_cons (pe_ix ix_str (pv 1) (pv 2) (fun _ _ => rfl)) pa_nil))))) (by decide) (fun _ => rfl)) (by decide) (fun _ => rfl))))))), ?_⟩
  have lz : (tx fr).length ≤ sizeLine := small (by rw [tx_len]; omega)
  refine ⟨_, rfl, p, _, _, _, rfl, rfl, SqT.of hp.at', atI_nat (j := 0) rfl, ?_⟩
  refine ⟨_, rfl, _, rfl, lz, _, rfl, by rw [tx_len]; omega, by rw [tx_len]; omega, fun D nD => ?_⟩
  rw [tx_len, Int.toNat_natCast]
  refine lev_range (lo := 0) (n := fr.length) (fun i H' => TrIn H D fr bk (900 * i) (fun _ _ c => c < i) H') ?_ (fun i H1 hi hq => ?_) (fun H1 hq => ?_)
  · exact ⟨same_new nD _, [], [], upd_same, .nil, Nat.le_refl _, fun t ht => absurd ht (by simp), fun x y z _ h => absurd h (Nat.not_lt_zero _), fun t h => by simp at h⟩
  · rw [show (0 : Int) + (i : Int) = ((i : Nat) : Int) by omega]
    refine ⟨rfl, kept ?_⟩
    refine ⟨_, rfl, _, rfl, by omega, by omega, ?_⟩
    rw [Int.toNat_natCast]
    refine lev_range (lo := 0) (n := i) (fun j H' => TrIn H D fr bk (900 * i + 30 * j) (fun _ b c => c < i ∨ (c = i ∧ b < j)) H') ?_ (fun j H2 hj hq2 => ?_) (fun H2 hq2 => ?_)
    · exact hq.mono (by omega) (fun x y z _ _ h => by omega)
    · rw [show (0 : Int) + (j : Int) = ((j : Nat) : Int) by omega]
      refine ⟨rfl, kept ?_⟩
      refine ⟨_, rfl, _, rfl, by omega, by omega, ?_⟩
      rw [Int.toNat_natCast]
      refine lev_range (lo := 0) (n := j) (fun l H' => TrIn H D fr bk (900 * i + 30 * j + l) (fun a b c => c < i ∨ (c = i ∧ (b < j ∨ (b = j ∧ a < l)))) H') ?_ (fun l H3 hl hq3 => ?_) (fun H3 hq3 => ?_)
      · exact hq2.mono (by omega) (fun x y z _ _ h => by omega)
      · rw [show (0 : Int) + (l : Int) = ((l : Nat) : Int) by omega]
        refine ⟨rfl, ?_⟩
        have gi := List.getElem?_eq_getElem (l := fr) hi
        have gj := List.getElem?_eq_getElem (l := fr) (show j < fr.length by omega)
        have gl := List.getElem?_eq_getElem (l := fr) (show l < fr.length by omega)
        have pi := pos_at nd gi
        have pj := pos_at nd gj
        have pl := pos_at nd gl
        have mi := List.mem_of_getElem? gi
        have mj := List.mem_of_getElem? gj
        have ml := List.mem_of_getElem? gl
        generalize fr[i] = ci at gi pi mi
        generalize fr[j] = cj at gj pj mj
        generalize fr[l] = cl at gl pl ml
        obtain ⟨s3, us, ts, e3, ta, tl, t1, t2, t3⟩ := hq3
        have tcv := t2
        refine ⟨_, rfl, _, rfl, _, rfl, _, _, _, rfl, rfl, lz, atI_nat (j := l) gl, _, rfl, _, rfl, _, _, _, rfl, rfl, lz, atI_nat (j := j) gj, _, rfl, _, rfl, _, _, _, rfl, rfl, lz, atI_nat (j := i) gi, (by show 3 ≤ sizeLine; decide), fun t nt => ?_⟩
        have k4 := same_new nt (.tup [vc cl, vc cj, vc ci])
        refine ⟨p, t, fr, bk, cl, cj, ci, rfl, (hp.same s3).same k4, ⟨upd_same⟩, ml, mj, mi, fun H4 s4 => ⟨_, rfl, ?_⟩⟩
        have s34 := k4.trans s4
        cases hb : tri fr bk cl cj ci with
        | false =>
          refine iteF ⟨s3.trans s34, us, ts, s34 _ _ e3, ta.keep (Tw.Same.keepT s34), by omega, t1, fun x y z ht hS => ?_, t3⟩
          refine t2 x y z ht ?_
          have := tri_pos ht.2.2.2
          rcases hS with h | ⟨h1, h | ⟨h2, h3⟩⟩
          · exact .inl h
          · exact .inr ⟨h1, .inl h⟩
          · by_cases h4 : pos fr x < l
            · exact .inr ⟨h1, .inr ⟨h2, h4⟩⟩
            · exfalso
              have h5 : pos fr x = l := by omega
              have ex : x = cl := pos_inj ht.1 ml (by rw [h5, pl])
              have ey : y = cj := pos_inj ht.2.1 mj (by rw [h2, pj])
              have ez : z = ci := pos_inj ht.2.2.1 mi (by rw [h1, pi])
              have h6 := ht.2.2.2
              simp only at h6
              rw [ex, ey, ez, hb] at h6
              cases h6
        | true =>
          refine iteT ?_
          refine ⟨_, rfl, _, rfl, _, _, _, rfl, rfl, lz, atI_nat (j := l) gl, _, rfl, _, rfl, _, _, _, rfl, rfl, lz, atI_nat (j := j) gj, _, rfl, _, rfl, _, _, _, rfl, rfl, lz, atI_nat (j := i) gi, (by show 3 ≤ sizeLine; decide), fun t2 nt2 => ?_⟩
          have k5 := same_new nt2 (.tup [vc cl, vc cj, vc ci])
          have s35 := s34.trans k5
          have hul := ta.len
          refine ⟨_, s35 _ _ e3, ?_, fun b o e => ?_, us ++ [.ref t2], ts ++ [(cl, cj, ci)], upd_same, ?_, ?_, ?_, ?_, ?_⟩
          · rw [hul]; show _ < 16777216; omega
          · rw [upd_ne (ne_of_none e nD)]; exact s35 _ _ (s3 _ _ e)
          · have kT : KeepT (upd H4 t2 (.tup [vc cl, vc cj, vc ci])) (upd (upd H4 t2 (.tup [vc cl, vc cj, vc ci])) D (.lst (us ++ [.ref t2]))) := fun c xs e => by
              rw [upd_ne (ne_of e (s35 _ _ e3) (by intro z; cases z))]; exact e
            exact (TrAt.snoc (ta.keep (Tw.Same.keepT s35)) ⟨upd_same⟩).keep kT
          · rw [List.length_append]; show _ + 1 ≤ _; omega
          · intro t' ht'
            rcases List.mem_append.mp ht' with h | h
            · exact t1 t' h
            · rw [List.mem_singleton.mp h]
              exact ⟨ml, mj, mi, hb⟩
          · intro _ _ _ _ _ z
            have := congrArg List.length z
            rw [List.length_append] at this
            simp at this
          · intro t' ht' u hu
            cases hts : ts with
            | cons t0 ts' =>
              rw [hts] at ht'
              exact t3 t' (by rw [hts]; exact ht') u hu
            | nil =>
              rw [hts] at ht'
              have et : (cl, cj, ci) = t' := Option.some.inj ht'
              have hS : ¬ (pos fr u.2.2 < i ∨ (pos fr u.2.2 = i ∧ (pos fr u.2.1 < j ∨ (pos fr u.2.1 = j ∧ pos fr u.1 < l)))) := fun h => tcv u.1 u.2.1 u.2.2 hu h hts
              rw [← et]
              unfold leT
              show pos fr ci < _ ∨ (pos fr ci = _ ∧ (pos fr cj < _ ∨ (pos fr cj = _ ∧ pos fr cl ≤ _)))
              rw [pi, pj, pl]
              omega
      · exact hq3.mono (by omega) (fun x y z h1 h2 h => by omega)
    · exact hq2.mono (by omega) (fun x y z h1 h2 h => by omega)
  · obtain ⟨s3, us, ts, e3, ta, tl, t1, t2, t3⟩ := hq
    refine q D us ts H1 s3 e3 ta t1 (fun hb => ?_) t3
    unfold triB at hb
    obtain ⟨x, hx, hb⟩ := List.any_eq_true.mp hb
    obtain ⟨y, hy, hb⟩ := List.any_eq_true.mp hb
    obtain ⟨z, hz, hb⟩ := List.any_eq_true.mp hb
    exact t2 x y z ⟨hx, hy, hz, hb⟩ (pos_lt hz)
/-- why there is no tree -/
inductive ReasonAt (H : Hp) (fr bk : List Nat) : V → Prop
  | none : badB fr bk = false → ReasonAt H fr bk .non
  | root {r : Addr} {c : Nat} : wroot fr bk = true → fr[0]? = some c → H r = some (.tup [.str "root", vc c]) → ReasonAt H fr bk (.ref r)
  | triple {r t : Addr} {x y z : Nat} : wroot fr bk = false → isTri fr bk (x, y, z) → (∀ u, isTri fr bk u → leT fr (x, y, z) u) → H r = some (.tup [.str "triple", .ref t]) → TripAt H t x y z → ReasonAt H fr bk (.ref r)
  | crowd {r t : Addr} {c : Nat} : wroot fr bk = false → triB fr bk = false → c ∈ fr → 2 < (kids fr bk c).length → (∀ d ∈ fr, pos fr d < pos fr c → ¬ 2 < (kids fr bk d).length) → H r = some (.tup [.str "crowd", .ref t]) → H t = some (.tup ((c :: (kids fr bk c).take 3).map vc)) → ReasonAt H fr bk (.ref r)
theorem ReasonAt.bad {H : Hp} {fr bk : List Nat} {v : V} (h : ReasonAt H fr bk v) : (badB fr bk = false ∧ v = .non) ∨ (badB fr bk = true ∧ ∃ r, v = .ref r) := by
  cases h with
  | none h => exact .inl ⟨h, rfl⟩
  | root h _ _ => exact .inr ⟨by unfold badB; rw [h]; rfl, _, rfl⟩
  | triple _ h _ _ _ => exact .inr ⟨by unfold badB; rw [h.triB, Bool.true_or, Bool.or_true], _, rfl⟩
  | crowd _ _ h1 h2 _ _ _ => exact .inr ⟨by
      unfold badB
      rw [show crowdB fr bk = true from List.any_eq_true.mpr ⟨_, h1, decide_eq_true h2⟩, Bool.or_true, Bool.or_true], _, rfl⟩
def spReason : Sp := fun vs H Q _ => ∃ (p : Addr) (fr bk : List Nat), vs = [.ref p] ∧ PairAt H p fr bk ∧ ∀ (v : V) (H' : Hp), Same H H' → ReasonAt H' fr bk v → Q v H'
theorem ok_reason {k : Nat} (F : Fun K "reason_against" "reason_against" s_reason_against f fd) (M : Mgs mg) (Dhas_wrong_root : Df P w K mg base (k + 4) "has_wrong_root" ["pair"] spWroot) (Dtriples_of : Df P w K mg base (k + 4) "triples_of" ["pair"] spTriples)
    (Dfamilies_of : Df P w K mg base (k + 4) "families_of" ["pair"] spFam) : FnOk P w K mg base CX0 (k + 5) f fd ["pair"] spReason := by
  refine F.ok (k := k + 4) sc_reason_against (fun vs H Q E h => ?_) (fun cdv A outer s H vs Q E hr h => ?_)
  · obtain ⟨p, fr, bk, rfl, _⟩ := h
    rfl
  obtain ⟨p, fr, bk, rfl, hp, q⟩ := h
  have n26 := hp.n1
  have n0 := hp.n0
  have lz : (tx fr).length ≤ sizeLine := small (by rw [tx_len]; omega)
  refine ⟨_, (pss_cons (ps_if (pt_val (pe_call Dhas_wrong_root.ok (hr.mono (by omega)) rfl Dhas_wrong_root.g Dhas_wrong_root.kp Dhas_wrong_root.b .nil pass0 (pa_cons (pv 0) pa_nil)))
      (pss_one (ps_ret (pe_tup (pa_cons pe_str (pa_cons (pe_ix ix_str (pe_ix ix_tup (pv 0) pe_int (fun _ _ => rfl)) pe_int (fun _ _ => rfl)) pa_nil))))) pss_nil)
    (pss_cons (ps_set (i := 1) sc_reason_against.nd rfl (.inl rfl) (pe_call Dtriples_of.ok (hr.mono (by omega)) rfl Dtriples_of.g Dtriples_of.kp Dtriples_of.b .nil pass0 (pa_cons (pv 0) pa_nil)))
    (pss_cons (ps_if (pt_truth (pv 1) (by intro _; rfl))
      (pss_one (ps_ret (pe_tup (pa_cons pe_str (pa_cons (pe_ix ix_list (pv 1) pe_int (fun _ _ => rfl)) pa_nil))))) pss_nil)
    (pss_cons (ps_set (i := 2) sc_reason_against.nd rfl (.inl rfl) (pe_call Dfamilies_of.ok (hr.mono (by omega)) rfl Dfamilies_of.g Dfamilies_of.kp Dfamilies_of.b .nil pass0 (pa_cons (pv 0) pa_nil)))
    (pss_cons (ps_for PassesOwn.never rfl (pi_str (pe_ix ix_tup (pv 0) pe_int (fun _ _ => rfl))) (pg_name (i := 3) sc_reason_against.nd rfl (.inl rfl))
      (pss_one (ps_if (pt_cmpR op_gt (pe_callB call_len_str rfl M.len PySem.boot_len (pa_cons (pe_dget (Nat.lt_of_le_of_lt (Nat.add_le_add_left (by decide) _) hr.units) (pv 2) (pv 3) (fun _ _ => rfl)) pa_nil)) pe_int (nomark _))
      (pss_one (ps_ret (pe_tup (pa_cons pe_str (pa_cons (pe_callTy (call_tupS rfl) rfl M.tuple (by decide +kernel) (pa_cons (pe_op op_add_str (pv 3) (pe_slice sl_str (pe_dget (Nat.lt_of_le_of_lt (Nat.add_le_add_left (by decide) _) hr.units) (pv 2) (pv 3) (fun _ _ => rfl)) po_none (po_some pe_int))) pa_nil)) pa_nil))))) pss_nil)))
    (pss_one (ps_ret pe_non))))))), ?_⟩
  refine ⟨_, rfl, p, fr, bk, rfl, hp, _, rfl, ?_⟩
  cases hw : wroot fr bk with
  | true =>
    refine iteT ?_
    have g0 := List.getElem?_eq_getElem (l := fr) n0
    refine ⟨_, rfl, p, _, _, _, rfl, rfl, SqT.of hp.at', atI_nat (j := 0) rfl, _, _, _, rfl, rfl, lz, atI_nat (j := 0) g0, (by show 2 ≤ sizeLine; decide), fun r nr => ?_⟩
    exact q _ _ (same_new nr _) (.root hw g0 upd_same)
  | false =>
    refine iteF ?_
    refine ⟨_, rfl, p, fr, bk, rfl, hp, fun D us ts H1 s1 e1 ta t1 t2 t3 => ?_⟩
    refine ⟨_, rfl, _, .inl ⟨us, SqL.of e1, rfl⟩, ?_⟩
    cases hu : us with
    | cons u us' =>
      obtain ⟨t, x, y, z, rfl, hts, hT⟩ := ta.get (i := 0) (u := u) (by rw [hu]; rfl)
      refine iteT ?_
      refine ⟨_, rfl, D, _, _, _, rfl, rfl, SqL.of e1, atI_nat (j := 0) (by rw [hu]; rfl), (by show 2 ≤ sizeLine; decide), fun r nr => ?_⟩
      have k2 := same_new nr (.tup [.str "triple", .ref t])
      exact q _ _ (s1.trans k2) (.triple hw (t1 _ (List.mem_of_getElem? hts)) (t3 _ hts) upd_same ⟨k2 _ _ hT.at'⟩)
    | nil =>
      refine iteF ?_
      have htb : triB fr bk = false := by
        cases h : triB fr bk with
        | false => rfl
        | true =>
          have h1 := ta.len
          rw [hu] at h1
          exact absurd (List.length_eq_zero_iff.mp h1.symm) (t2 h)
      refine ⟨_, rfl, p, fr, bk, rfl, hp.same s1, fun H2 d s2 hd => ?_⟩
      have s12 := s1.trans s2
      have hd := hd.at'
      refine ⟨_, rfl, p, _, _, _, rfl, rfl, SqT.of (hp.same s12).at', atI_nat (j := 0) rfl, _, rfl, ?_⟩
      refine for_text (x := tx fr) (fun i σ H' => ∃ o3, σ = [some (.ref p), some (.ref D), some (.ref d), o3] ∧ H' = H2 ∧ ∀ c ∈ fr.take i, ¬ 2 < (kids fr bk c).length) ⟨_, rfl, rfl, fun c h => absurd h (by simp)⟩ (fun i c σ H3 hc hq => ?_) (fun σ H3 hq => ?_)
      · obtain ⟨o3, rfl, rfl, no⟩ := hq
        rw [tx_cps] at hc
        have hcf := List.mem_of_getElem? hc
        have kl := kids_len fr bk c
        refine ⟨_, rfl, _, rfl, d, _, rfl, .inl ⟨_, .inr (ch c), .inl hd, rfl, (fam_get fr bk hcf).symm⟩, _, rfl, small (by rw [tx_len]; omega), _, _, rfl, rfl, _, rfl, ?_⟩
        by_cases h2 : 2 < (kids fr bk c).length
        · rw [tx_len, decide_eq_true (by omega)]
          refine iteT ?_
          refine ⟨_, rfl, _, rfl, _, rfl, d, _, rfl, .inl ⟨_, .inr (ch c), .inl hd, rfl, (fam_get fr bk hcf).symm⟩, 3, rfl, _, rfl, small (by rw [tx_len]; omega), ?_⟩
          rw [show (3 : Int) = ((3 : Nat) : Int) from rfl, tx_to]
          refine ⟨_, _, rfl, rfl, small (by rw [tx_len, List.length_take]; show 1 + _ ≤ 1000; omega), ?_⟩
          rw [show (⟨#[c]⟩ : Str) ++ tx ((kids fr bk c).take 3) = tx (c :: (kids fr bk c).take 3) from ch_app c _]
          refine ⟨_, rfl, (by show (c :: (kids fr bk c).take 3).length ≤ 1000; rw [List.length_cons, List.length_take]; omega), fun t nt => ?_⟩
          have k3 := same_new nt (.tup ((c :: (kids fr bk c).take 3).map vc))
          refine ⟨(by show 2 ≤ sizeLine; decide), fun r nr => ?_⟩
          have k4 := same_new nr (.tup [.str "crowd", .ref t])
          exact q _ _ (s12.trans (k3.trans k4)) (.crowd hw htb hcf h2 (fun d hd hlt => no d (List.mem_iff_getElem?.mpr ⟨pos fr d, by rw [List.getElem?_take, if_pos (by rw [pos_at hp.lt.1 hc] at hlt; exact hlt), pos_get hd]⟩)) upd_same (k4 _ _ upd_same))
        · rw [tx_len, decide_eq_false (by omega)]
          refine iteF ⟨_, rfl, rfl, fun c' h => ?_⟩
          rw [take_nextG hc] at h
          rcases List.mem_append.mp h with h | h
          · exact no c' h
          · rw [List.mem_singleton.mp h]; exact h2
      · obtain ⟨o3, rfl, rfl, no⟩ := hq
        rw [tx_cps, List.take_length] at no
        refine q _ _ s12 (.none ?_)
        unfold badB
        rw [hw, htb]
        show crowdB fr bk = false
        unfold crowdB
        rw [List.any_eq_false]
        intro c hc
        simp only [decide_eq_true_eq]
        exact no c hc
end
/-! ### pairs of trees: mathematics -/
theorem post_mem (t : B) (c : Nat) : c ∈ t.post ↔ c ∈ t.pre := (post_perm t).mem_iff
section
variable {l r : B} {x : Nat}
theorem nd_x (nd : (B.node l x r).pre.Nodup) : x ∉ l.pre ∧ x ∉ r.pre ∧ l.pre.Nodup ∧ r.pre.Nodup ∧ ∀ c ∈ l.pre, c ∉ r.pre := by
  have nd : (x :: (l.pre ++ r.pre)).Nodup := nd
  obtain ⟨h1, h2⟩ := List.nodup_cons.mp nd
  obtain ⟨h3, h4, h5⟩ := List.nodup_append.mp h2
  exact ⟨fun z => h1 (List.mem_append_left _ z), fun z => h1 (List.mem_append_right _ z), h3, h4, fun c hc hr => h5 c hc c hr rfl⟩
theorem pre_l (nd : (B.node l x r).pre.Nodup) {c : Nat} (h : c ∈ l.pre) : pos (B.node l x r).pre c = pos l.pre c + 1 := by
  have n := nd_x nd
  show (if x = c then 0 else pos (l.pre ++ r.pre) c + 1) = _
  rw [if_neg (fun z : x = c => n.1 (by rw [z]; exact h)), pos_left h]
theorem pre_r (nd : (B.node l x r).pre.Nodup) {c : Nat} (h : c ∈ r.pre) : pos (B.node l x r).pre c = l.size + pos r.pre c + 1 := by
  have n := nd_x nd
  show (if x = c then 0 else pos (l.pre ++ r.pre) c + 1) = _
  rw [if_neg (fun z : x = c => n.2.1 (by rw [z]; exact h)), pos_right (fun z => n.2.2.2.2 c z h), l.pre_len]
theorem pre_x : pos (B.node l x r).pre x = 0 := by
  show (if x = x then 0 else pos (l.pre ++ r.pre) x + 1) = 0
  rw [if_pos rfl]
theorem post_l {c : Nat} (h : c ∈ l.pre) : pos (B.node l x r).post c = pos l.post c := by
  show pos (l.post ++ r.post ++ [x]) c = _
  have h := (post_mem l c).mpr h
  rw [pos_left (List.mem_append_left _ h), pos_left h]
theorem post_r (nd : (B.node l x r).pre.Nodup) {c : Nat} (h : c ∈ r.pre) : pos (B.node l x r).post c = l.size + pos r.post c := by
  have n := nd_x nd
  show pos (l.post ++ r.post ++ [x]) c = _
  rw [pos_left (List.mem_append_right _ ((post_mem r c).mpr h)), pos_right (fun z => n.2.2.2.2 c ((post_mem l c).mp z) h), l.post_len]
theorem post_x (nd : (B.node l x r).pre.Nodup) : pos (B.node l x r).post x = l.size + r.size := by
  have n := nd_x nd
  show pos (l.post ++ r.post ++ [x]) x = _
  rw [pos_right (fun z => ?_), List.length_append, l.post_len, r.post_len]
  · show _ + (if x = x then 0 else _) = _
    rw [if_pos rfl]
    rfl
  · rcases List.mem_append.mp z with z | z
    · exact n.1 ((post_mem l x).mp z)
    · exact n.2.1 ((post_mem r x).mp z)
theorem lt_pre {t : B} {c : Nat} (h : c ∈ t.pre) : pos t.pre c < t.size := by have := pos_lt h; rwa [t.pre_len] at this
theorem lt_post {t : B} {c : Nat} (h : c ∈ t.pre) : pos t.post c < t.size := by have := pos_lt ((post_mem t c).mpr h); rwa [t.post_len] at this
abbrev bl (t : B) (a b : Nat) : Bool := blw t.pre t.post a b
theorem bool_eq {p q : Bool} (h : p = true ↔ q = true) : p = q := by
  cases p <;> cases q <;> simp_all
theorem blw_iff {fr bk : List Nat} {a b : Nat} : blw fr bk a b = true ↔ pos fr b < pos fr a ∧ pos bk a < pos bk b := by
  unfold blw
  simp only [Bool.and_eq_true, decide_eq_true_eq]
theorem bl_ll (nd : (B.node l x r).pre.Nodup) {a b : Nat} (ha : a ∈ l.pre) (hb : b ∈ l.pre) : bl (.node l x r) a b = bl l a b := by
  refine bool_eq ?_
  rw [blw_iff, blw_iff, pre_l nd ha, pre_l nd hb, post_l ha, post_l hb]
  omega
theorem bl_rr (nd : (B.node l x r).pre.Nodup) {a b : Nat} (ha : a ∈ r.pre) (hb : b ∈ r.pre) : bl (.node l x r) a b = bl r a b := by
  refine bool_eq ?_
  rw [blw_iff, blw_iff, pre_r nd ha, pre_r nd hb, post_r nd ha, post_r nd hb]
  omega
theorem bl_no {fr bk : List Nat} {a b : Nat} (h : ¬ (pos fr b < pos fr a ∧ pos bk a < pos bk b)) : blw fr bk a b = false := by
  cases e : blw fr bk a b with
  | false => rfl
  | true => exact absurd (blw_iff.mp e) h
theorem bl_lr (nd : (B.node l x r).pre.Nodup) {a b : Nat} (ha : a ∈ l.pre) (hb : b ∈ r.pre) : bl (.node l x r) a b = false := by
  refine bl_no ?_
  have := lt_pre ha
  rw [pre_l nd ha, pre_r nd hb]
  omega
theorem bl_rl (nd : (B.node l x r).pre.Nodup) {a b : Nat} (ha : a ∈ r.pre) (hb : b ∈ l.pre) : bl (.node l x r) a b = false := by
  refine bl_no ?_
  have := lt_post hb
  rw [post_r nd ha, post_l hb]
  omega
theorem bl_x {b : Nat} : bl (.node l x r) x b = false := by
  refine bl_no ?_
  rw [pre_x]
  omega
theorem bl_to_x (nd : (B.node l x r).pre.Nodup) {a : Nat} (ha : a ∈ l.pre ∨ a ∈ r.pre) : bl (.node l x r) a x = true := by
  refine blw_iff.mpr ?_
  rw [pre_x, post_x nd]
  rcases ha with ha | ha
  · have := lt_post ha
    rw [pre_l nd ha, post_l ha]
    omega
  · have := lt_post ha
    rw [pre_r nd ha, post_r nd ha]
    omega
end
abbrev kd (t : B) (c : Nat) : List Nat := kids t.pre t.post c
abbrev lw (t : B) (c : Nat) : List Nat := lowr t.pre t.post c
def B.rt : B → List Nat
  | .nil => []
  | .node _ x _ => [x]
section
variable {l r : B} {x : Nat}
theorem filter_false {α : Type} {p : α → Bool} {l : List α} (h : ∀ a ∈ l, p a = false) : l.filter p = [] := List.filter_eq_nil_iff.mpr fun a ha => by rw [h a ha]; exact Bool.false_ne_true
theorem filter_true {α : Type} {p : α → Bool} {l : List α} (h : ∀ a ∈ l, p a = true) : l.filter p = l := List.filter_eq_self.mpr h
theorem lw_l (nd : (B.node l x r).pre.Nodup) {c : Nat} (h : c ∈ l.pre) : lw (.node l x r) c = lw l c := by
  show (x :: (l.pre ++ r.pre)).filter (fun o => bl (.node l x r) o c) = l.pre.filter fun o => bl l o c
  rw [List.filter_cons, bl_x, if_neg Bool.false_ne_true, List.filter_append, filter_false (l := r.pre) (fun o ho => bl_rl nd ho h), List.append_nil]
  exact List.filter_congr fun o ho => bl_ll nd ho h
theorem lw_r (nd : (B.node l x r).pre.Nodup) {c : Nat} (h : c ∈ r.pre) : lw (.node l x r) c = lw r c := by
  show (x :: (l.pre ++ r.pre)).filter (fun o => bl (.node l x r) o c) = r.pre.filter fun o => bl r o c
  rw [List.filter_cons, bl_x, if_neg Bool.false_ne_true, List.filter_append, filter_false (l := l.pre) (fun o ho => bl_lr nd ho h), List.nil_append]
  exact List.filter_congr fun o ho => bl_rr nd ho h
theorem lw_x (nd : (B.node l x r).pre.Nodup) : lw (.node l x r) x = l.pre ++ r.pre := by
  show (x :: (l.pre ++ r.pre)).filter (fun o => bl (.node l x r) o x) = _
  rw [List.filter_cons, bl_x, if_neg Bool.false_ne_true, List.filter_append, filter_true (l := l.pre) (fun o ho => bl_to_x nd (.inl ho)), filter_true (l := r.pre) (fun o ho => bl_to_x nd (.inr ho))]
theorem any_map {l : List Nat} {f : Nat → Bool} : (l.map f).any id = l.any f := by
  induction l with
  | nil => rfl
  | cons a l ih => rw [List.map_cons, List.any_cons, List.any_cons, ih]; rfl
theorem any_congr {l : List Nat} {f g : Nat → Bool} (h : ∀ a ∈ l, f a = g a) : l.any f = l.any g := by
  induction l with
  | nil => rfl
  | cons a l ih => rw [List.any_cons, List.any_cons, h a List.mem_cons_self, ih fun b hb => h b (List.mem_cons_of_mem _ hb)]
theorem kd_l (nd : (B.node l x r).pre.Nodup) {c : Nat} (h : c ∈ l.pre) : kd (.node l x r) c = kd l c := by
  show (lw (.node l x r) c).filter (fun o => !((lw (.node l x r) c).map fun q => bl (.node l x r) o q).any id) = (lw l c).filter fun o => !((lw l c).map fun q => bl l o q).any id
  rw [lw_l nd h]
  refine List.filter_congr fun o ho => congrArg (fun z => !z) ?_
  rw [any_map, any_map]
  exact any_congr fun q hq => bl_ll nd (lowr_mem ho) (lowr_mem hq)
theorem kd_r (nd : (B.node l x r).pre.Nodup) {c : Nat} (h : c ∈ r.pre) : kd (.node l x r) c = kd r c := by
  show (lw (.node l x r) c).filter (fun o => !((lw (.node l x r) c).map fun q => bl (.node l x r) o q).any id) = (lw r c).filter fun o => !((lw r c).map fun q => bl r o q).any id
  rw [lw_r nd h]
  refine List.filter_congr fun o ho => congrArg (fun z => !z) ?_
  rw [any_map, any_map]
  exact any_congr fun q hq => bl_rr nd (lowr_mem ho) (lowr_mem hq)
theorem tops : ∀ {t : B}, t.pre.Nodup → t.pre.filter (fun o => !t.pre.any fun q => bl t o q) = t.rt
  | .nil, _ => rfl
  | .node l x r, nd => by
    show (x :: (l.pre ++ r.pre)).filter (fun o => !(x :: (l.pre ++ r.pre)).any fun q => bl (.node l x r) o q) = [x]
    rw [List.filter_cons, if_pos, filter_false]
    · intro o ho
      rw [List.any_cons, bl_to_x nd (List.mem_append.mp ho)]
      rfl
    · rw [Bool.not_eq_true', List.any_eq_false]
      intro q _
      rw [bl_x]
      exact Bool.false_ne_true
theorem kd_x (nd : (B.node l x r).pre.Nodup) : kd (.node l x r) x = l.rt ++ r.rt := by
  have n := nd_x nd
  show (lw (.node l x r) x).filter (fun o => !((lw (.node l x r) x).map fun q => bl (.node l x r) o q).any id) = _
  rw [lw_x nd, List.filter_append, ← tops n.2.2.1, ← tops n.2.2.2.1]
  congr 1
  · refine List.filter_congr fun o ho => congrArg (fun z => !z) ?_
    rw [any_map, List.any_append, any_congr (g := fun q => bl l o q) (fun q hq => bl_ll nd ho hq), any_congr (l := r.pre) (g := fun _ => false) (fun q hq => bl_lr nd ho hq)]
    rw [show (r.pre.any fun _ => false) = false from by rw [List.any_eq_false]; intro _ _; exact Bool.false_ne_true, Bool.or_false]
  · refine List.filter_congr fun o ho => congrArg (fun z => !z) ?_
    rw [any_map, List.any_append, any_congr (l := r.pre) (g := fun q => bl r o q) (fun q hq => bl_rr nd ho hq), any_congr (l := l.pre) (g := fun _ => false) (fun q hq => bl_rl nd ho hq)]
    rw [show (l.pre.any fun _ => false) = false from by rw [List.any_eq_false]; intro _ _; exact Bool.false_ne_true, Bool.false_or]
theorem rt_len (t : B) : t.rt.length = if t = .nil then 0 else 1 := by cases t <;> rfl
theorem kd_small : ∀ {t : B}, t.pre.Nodup → ∀ c ∈ t.pre, (kd t c).length ≤ 2
  | .nil, _, c, h => by cases h
  | .node l x r, nd, c, h => by
    have n := nd_x nd
    rcases List.mem_cons.mp (show c ∈ x :: (l.pre ++ r.pre) from h) with rfl | h
    · rw [kd_x nd, List.length_append, rt_len, rt_len]
      split <;> split <;> omega
    · rcases List.mem_append.mp h with h | h
      · rw [kd_l nd h]; exact kd_small n.2.2.1 c h
      · rw [kd_r nd h]; exact kd_small n.2.2.2.1 c h
theorem no_tri : ∀ {t : B}, t.pre.Nodup → ∀ a b c, a ∈ t.pre → b ∈ t.pre → c ∈ t.pre → ¬ (pos t.pre a < pos t.pre b ∧ pos t.pre b < pos t.pre c ∧ pos t.post c < pos t.post a ∧ pos t.post a < pos t.post b)
  | .nil, _, a, _, _, h, _, _ => by cases h
  | .node l x r, nd, a, b, c, ha, hb, hc => by
    have n := nd_x nd
    have cs : ∀ {d : Nat}, d ∈ (B.node l x r).pre → (d = x ∧ pos (B.node l x r).pre d = 0 ∧ pos (B.node l x r).post d = l.size + r.size) ∨ (d ∈ l.pre ∧ pos (B.node l x r).pre d = pos l.pre d + 1 ∧ pos (B.node l x r).post d = pos l.post d ∧ pos l.pre d < l.size ∧ pos l.post d < l.size) ∨
        (d ∈ r.pre ∧ pos (B.node l x r).pre d = l.size + pos r.pre d + 1 ∧ pos (B.node l x r).post d = l.size + pos r.post d ∧ pos r.pre d < r.size ∧ pos r.post d < r.size) := fun {d} hd => by
      rcases List.mem_cons.mp (show d ∈ x :: (l.pre ++ r.pre) from hd) with rfl | h
      · exact .inl ⟨rfl, pre_x, post_x nd⟩
      · rcases List.mem_append.mp h with h | h
        · exact .inr (.inl ⟨h, pre_l nd h, post_l h, lt_pre h, lt_post h⟩)
        · exact .inr (.inr ⟨h, pre_r nd h, post_r nd h, lt_pre h, lt_post h⟩)
    rintro ⟨h1, h2, h3, h4⟩
    rcases cs ha with ⟨_, a1, a2⟩ | ⟨ma, a1, a2, a3, a4⟩ | ⟨ma, a1, a2, a3, a4⟩ <;> rcases cs hb with ⟨_, b1, b2⟩ | ⟨mb, b1, b2, b3, b4⟩ | ⟨mb, b1, b2, b3, b4⟩ <;> rcases cs hc with ⟨_, c1, c2⟩ | ⟨mc, c1, c2, c3, c4⟩ | ⟨mc, c1, c2, c3, c4⟩ <;> try omega
    · exact no_tri n.2.2.1 a b c ma mb mc ⟨by omega, by omega, by omega, by omega⟩
    · exact no_tri n.2.2.2.1 a b c ma mb mc ⟨by omega, by omega, by omega, by omega⟩
end
theorem good_tree {t : B} (nd : t.pre.Nodup) (z : 0 < t.size) : badB t.pre t.post = false := by
  unfold badB
  have h1 : wroot t.pre t.post = false := by
    cases t with
    | nil => exact absurd z (by decide)
    | node l x r =>
      unfold wroot
      show decide ((x :: (l.pre ++ r.pre)).head? ≠ (l.post ++ r.post ++ [x]).getLast?) = false
      rw [List.getLast?_append]
      simp
  have h2 : triB t.pre t.post = false := by
    cases h : triB t.pre t.post with
    | false => rfl
    | true =>
      unfold triB at h
      obtain ⟨a, ha, h⟩ := List.any_eq_true.mp h
      obtain ⟨b, hb, h⟩ := List.any_eq_true.mp h
      obtain ⟨c, hc, h⟩ := List.any_eq_true.mp h
      unfold tri at h
      simp only [Bool.and_eq_true, decide_eq_true_eq] at h
      exact absurd ⟨h.1.1, h.1.2, h.2.1, h.2.2⟩ (no_tri nd a b c ha hb hc)
  have h3 : crowdB t.pre t.post = false := by
    unfold crowdB
    rw [List.any_eq_false]
    intro c hc
    have := kd_small nd c hc
    simp only [decide_eq_true_eq]
    have : (kids t.pre t.post c).length ≤ 2 := this
    omega
  rw [h1, h2, h3]
  rfl
/-! ### forests: B read by first child and next sibling; its postorder is mid -/
theorem mid_perm : ∀ t : B, t.mid.Perm t.pre
  | .nil => .refl _
  | .node l x r => by
    show (l.mid ++ x :: r.mid).Perm (x :: (l.pre ++ r.pre))
    exact (List.perm_middle).trans (((mid_perm l).append (mid_perm r)).cons x)
theorem mid_mem (t : B) (c : Nat) : c ∈ t.mid ↔ c ∈ t.pre := (mid_perm t).mem_iff
def B.rts : B → List Nat
  | .nil => []
  | .node _ x r => x :: r.rts
abbrev fl (t : B) (a b : Nat) : Bool := blw t.pre t.mid a b
abbrev kf (t : B) (c : Nat) : List Nat := kids t.pre t.mid c
abbrev lf (t : B) (c : Nat) : List Nat := lowr t.pre t.mid c
theorem lt_mid {t : B} {c : Nat} (h : c ∈ t.pre) : pos t.mid c < t.size := by have := pos_lt ((mid_mem t c).mpr h); rwa [t.mid_len] at this
section
variable {l r : B} {x : Nat}
theorem mid_l {c : Nat} (h : c ∈ l.pre) : pos (B.node l x r).mid c = pos l.mid c := by
  show pos (l.mid ++ x :: r.mid) c = _
  rw [pos_left ((mid_mem l c).mpr h)]
theorem mid_x (nd : (B.node l x r).pre.Nodup) : pos (B.node l x r).mid x = l.size := by
  have n := nd_x nd
  show pos (l.mid ++ x :: r.mid) x = _
  rw [pos_right (fun z => n.1 ((mid_mem l x).mp z)), l.mid_len]
  show _ + (if x = x then 0 else _) = _
  rw [if_pos rfl]
  rfl
theorem mid_r (nd : (B.node l x r).pre.Nodup) {c : Nat} (h : c ∈ r.pre) : pos (B.node l x r).mid c = l.size + 1 + pos r.mid c := by
  have n := nd_x nd
  show pos (l.mid ++ x :: r.mid) c = _
  rw [pos_right (fun z => n.2.2.2.2 c ((mid_mem l c).mp z) h), l.mid_len]
  show _ + (if x = c then 0 else _ + 1) = _
  rw [if_neg (fun z : x = c => n.2.1 (by rw [z]; exact h))]
  omega
theorem fl_ll (nd : (B.node l x r).pre.Nodup) {a b : Nat} (ha : a ∈ l.pre) (hb : b ∈ l.pre) : fl (.node l x r) a b = fl l a b := by
  refine bool_eq ?_
  rw [blw_iff, blw_iff, pre_l nd ha, pre_l nd hb, mid_l ha, mid_l hb]
  omega
theorem fl_rr (nd : (B.node l x r).pre.Nodup) {a b : Nat} (ha : a ∈ r.pre) (hb : b ∈ r.pre) : fl (.node l x r) a b = fl r a b := by
  refine bool_eq ?_
  rw [blw_iff, blw_iff, pre_r nd ha, pre_r nd hb, mid_r nd ha, mid_r nd hb]
  omega
theorem fl_lr (nd : (B.node l x r).pre.Nodup) {a b : Nat} (ha : a ∈ l.pre) (hb : b ∈ r.pre) : fl (.node l x r) a b = false := by
  refine bl_no ?_
  have := lt_pre ha
  rw [pre_l nd ha, pre_r nd hb]
  omega
theorem fl_rl (nd : (B.node l x r).pre.Nodup) {a b : Nat} (ha : a ∈ r.pre) (hb : b ∈ l.pre) : fl (.node l x r) a b = false := by
  refine bl_no ?_
  have := lt_mid hb
  rw [mid_r nd ha, mid_l hb]
  omega
theorem fl_x {b : Nat} : fl (.node l x r) x b = false := by
  refine bl_no ?_
  rw [pre_x]
  omega
theorem fl_to_x (nd : (B.node l x r).pre.Nodup) {a : Nat} (ha : a ∈ l.pre) : fl (.node l x r) a x = true := by
  refine blw_iff.mpr ?_
  have := lt_mid ha
  rw [pre_x, mid_x nd, pre_l nd ha, mid_l ha]
  omega
theorem fl_r_x (nd : (B.node l x r).pre.Nodup) {a : Nat} (ha : a ∈ r.pre) : fl (.node l x r) a x = false := by
  refine bl_no ?_
  rw [mid_x nd, mid_r nd ha]
  omega
theorem lf_l (nd : (B.node l x r).pre.Nodup) {c : Nat} (h : c ∈ l.pre) : lf (.node l x r) c = lf l c := by
  show (x :: (l.pre ++ r.pre)).filter (fun o => fl (.node l x r) o c) = l.pre.filter fun o => fl l o c
  rw [List.filter_cons, fl_x, if_neg Bool.false_ne_true, List.filter_append, filter_false (l := r.pre) (fun o ho => fl_rl nd ho h), List.append_nil]
  exact List.filter_congr fun o ho => fl_ll nd ho h
theorem lf_r (nd : (B.node l x r).pre.Nodup) {c : Nat} (h : c ∈ r.pre) : lf (.node l x r) c = lf r c := by
  show (x :: (l.pre ++ r.pre)).filter (fun o => fl (.node l x r) o c) = r.pre.filter fun o => fl r o c
  rw [List.filter_cons, fl_x, if_neg Bool.false_ne_true, List.filter_append, filter_false (l := l.pre) (fun o ho => fl_lr nd ho h), List.nil_append]
  exact List.filter_congr fun o ho => fl_rr nd ho h
theorem lf_x (nd : (B.node l x r).pre.Nodup) : lf (.node l x r) x = l.pre := by
  show (x :: (l.pre ++ r.pre)).filter (fun o => fl (.node l x r) o x) = _
  rw [List.filter_cons, fl_x, if_neg Bool.false_ne_true, List.filter_append, filter_true (l := l.pre) (fun o ho => fl_to_x nd ho), filter_false (l := r.pre) (fun o ho => fl_r_x nd ho), List.append_nil]
theorem kf_l (nd : (B.node l x r).pre.Nodup) {c : Nat} (h : c ∈ l.pre) : kf (.node l x r) c = kf l c := by
  show (lf (.node l x r) c).filter (fun o => !((lf (.node l x r) c).map fun q => fl (.node l x r) o q).any id) = (lf l c).filter fun o => !((lf l c).map fun q => fl l o q).any id
  rw [lf_l nd h]
  refine List.filter_congr fun o ho => congrArg (fun z => !z) ?_
  rw [any_map, any_map]
  exact any_congr fun q hq => fl_ll nd (lowr_mem ho) (lowr_mem hq)
theorem kf_r (nd : (B.node l x r).pre.Nodup) {c : Nat} (h : c ∈ r.pre) : kf (.node l x r) c = kf r c := by
  show (lf (.node l x r) c).filter (fun o => !((lf (.node l x r) c).map fun q => fl (.node l x r) o q).any id) = (lf r c).filter fun o => !((lf r c).map fun q => fl r o q).any id
  rw [lf_r nd h]
  refine List.filter_congr fun o ho => congrArg (fun z => !z) ?_
  rw [any_map, any_map]
  exact any_congr fun q hq => fl_rr nd (lowr_mem ho) (lowr_mem hq)
theorem any_false {l : List Nat} {f : Nat → Bool} (h : ∀ a ∈ l, f a = false) : l.any f = false := by
  rw [List.any_eq_false]
  intro a ha
  rw [h a ha]
  exact Bool.false_ne_true
theorem topsF : ∀ {t : B}, t.pre.Nodup → t.pre.filter (fun o => !t.pre.any fun q => fl t o q) = t.rts
  | .nil, _ => rfl
  | .node l x r, nd => by
    have n := nd_x nd
    show (x :: (l.pre ++ r.pre)).filter (fun o => !(x :: (l.pre ++ r.pre)).any fun q => fl (.node l x r) o q) = x :: r.rts
    rw [List.filter_cons, if_pos, List.filter_append, filter_false (l := l.pre), List.nil_append, ← topsF n.2.2.2.1]
    · refine congrArg (fun z => x :: z) (List.filter_congr fun o ho => congrArg (fun z => !z) ?_)
      rw [List.any_cons, fl_r_x nd ho, Bool.false_or, List.any_append, any_false (l := l.pre) (fun q hq => fl_rl nd ho hq), Bool.false_or]
      exact any_congr fun q hq => fl_rr nd ho hq
    · intro o ho
      rw [List.any_cons, fl_to_x nd ho]
      rfl
    · rw [Bool.not_eq_true']
      exact any_false fun q _ => fl_x
theorem kf_x (nd : (B.node l x r).pre.Nodup) : kf (.node l x r) x = l.rts := by
  have n := nd_x nd
  show (lf (.node l x r) x).filter (fun o => !((lf (.node l x r) x).map fun q => fl (.node l x r) o q).any id) = _
  rw [lf_x nd, ← topsF n.2.2.1]
  refine List.filter_congr fun o ho => congrArg (fun z => !z) ?_
  rw [any_map]
  exact any_congr fun q hq => fl_ll nd ho hq
end
theorem pos_sub : ∀ {L : List Nat} {a b : Nat}, L.Nodup → [a, b].Sublist L → pos L a < pos L b
  | [], _, _, _, h => by cases h
  | d :: L, a, b, nd, h => by
    obtain ⟨nd1, nd2⟩ := List.nodup_cons.mp nd
    show (if d = a then 0 else pos L a + 1) < (if d = b then 0 else pos L b + 1)
    cases h with
    | cons _ h =>
      have ha : a ∈ L := h.subset List.mem_cons_self
      have hb : b ∈ L := h.subset (List.mem_cons_of_mem _ List.mem_cons_self)
      rw [if_neg (fun z => nd1 (by rw [z]; exact ha)), if_neg (fun z => nd1 (by rw [z]; exact hb))]
      exact Nat.succ_lt_succ (pos_sub nd2 h)
    | cons_cons _ h =>
      have hb : b ∈ L := h.subset List.mem_cons_self
      rw [if_pos rfl, if_neg (fun z => nd1 (by rw [z]; exact hb))]
      omega
theorem split_by {p : Nat → Bool} : ∀ {zs : List Nat}, (∀ y z, [y, z].Sublist zs → p y = false → p z = true → False) → zs = zs.filter p ++ zs.filter (fun c => !p c)
  | [], _ => rfl
  | c :: r, h => by
    have hr : ∀ y z, [y, z].Sublist r → p y = false → p z = true → False := fun y z s => h y z (s.cons _)
    cases hc : p c with
    | true =>
      rw [List.filter_cons_of_pos hc, List.filter_cons_of_neg (by simp [hc]), List.cons_append, ← split_by hr]
    | false =>
      have none : ∀ z ∈ r, p z = false := fun z hz => by
        cases e : p z with
        | false => rfl
        | true => exact (h c z ((List.singleton_sublist.mpr hz).cons_cons c) hc e).elim
      rw [List.filter_cons_of_neg (by simp [hc]), List.filter_cons_of_pos (by simp [hc]), filter_false none, filter_true (fun z hz => by rw [none z hz]; rfl)]
      rfl
theorem forest_of : ∀ (n : Nat) (A Bk : List Nat), A.length ≤ n → A.Nodup → Bk.Perm A → (∀ a b c, [a, b, c].Sublist A → [c, a, b].Sublist Bk → False) → ∃ t : B, t.pre = A ∧ t.mid = Bk
  | _, [], Bk, _, _, pm, _ => ⟨.nil, rfl, (List.perm_nil.mp pm).symm⟩
  | 0, _ :: _, _, h, _, _, _ => absurd h (Nat.not_succ_le_zero _)
  | n + 1, y :: A', Bk, h, nd, pm, nt => by
    obtain ⟨ny, nd'⟩ := List.nodup_cons.mp nd
    obtain ⟨P, S, rfl⟩ := List.append_of_mem (pm.mem_iff.mpr (List.mem_cons_self (a := y) (l := A')))
    have pm2 : (P ++ S).Perm A' := (List.perm_cons y).mp (List.perm_middle.symm.trans pm)
    have ndPS : (P ++ S).Nodup := pm2.nodup_iff.mpr nd'
    obtain ⟨ndP, ndS, dis⟩ := List.nodup_append.mp ndPS
    let p : Nat → Bool := fun c => decide (c ∈ P)
    have pS : ∀ c ∈ S, p c = false := fun c hc => decide_eq_false fun z => dis c z c hc rfl
    have pP : ∀ c ∈ P, p c = true := fun c hc => decide_eq_true hc
    have sp : A' = A'.filter p ++ A'.filter (fun c => !p c) := split_by fun a b s ha hb => by
      have ma : a ∈ A' := s.subset List.mem_cons_self
      have mb : b ∈ P := of_decide_eq_true hb
      have ma2 : a ∈ S := by
        rcases List.mem_append.mp (pm2.mem_iff.mpr ma) with z | z
        · rw [pP a z] at ha; cases ha
        · exact z
      refine nt y a b (s.cons_cons y) ?_
      exact (List.singleton_sublist.mpr mb).append ((List.singleton_sublist.mpr ma2).cons_cons y)
    have pm1 : P.Perm (A'.filter p) := by
      have := pm2.filter p
      rwa [List.filter_append, filter_true pP, filter_false pS, List.append_nil] at this
    have pm3 : S.Perm (A'.filter fun c => !p c) := by
      have := pm2.filter fun c => !p c
      rwa [List.filter_append, filter_false (l := P) (fun c hc => by rw [pP c hc]; rfl), filter_true (l := S) (fun c hc => by rw [pS c hc]; rfl), List.nil_append] at this
    have hl : A'.length ≤ n := Nat.le_of_succ_le_succ h
    have s1 : (A'.filter p).Sublist A' := List.filter_sublist
    have s2 : (A'.filter fun c => !p c).Sublist A' := List.filter_sublist
    obtain ⟨t1, a1, b1⟩ := forest_of n _ P (Nat.le_trans s1.length_le hl) (nd'.sublist s1) pm1 (fun a b c h1 h2 => nt a b c ((h1.trans s1).cons _) (h2.trans (List.sublist_append_left _ _)))
    obtain ⟨t2, a2, b2⟩ := forest_of n _ S (Nat.le_trans s2.length_le hl) (nd'.sublist s2) pm3 (fun a b c h1 h2 => nt a b c ((h1.trans s2).cons _) ((h2.trans (List.sublist_cons_self _ _)).trans (List.sublist_append_right _ _)))
    exact ⟨.node t1 y t2, by show y :: (t1.pre ++ t2.pre) = _; rw [a1, a2, ← sp], by show t1.mid ++ y :: t2.mid = _; rw [b1, b2]⟩
def B.mk2 : List B → Nat → B
  | [], x => .node .nil x .nil
  | [a], x => .node a x .nil
  | a :: b :: _, x => .node a x b
def B.bs : B → List B
  | .nil => []
  | .node l x r => B.mk2 l.bs x :: r.bs
def Nar2 : B → Prop
  | .nil => True
  | .node l _ r => l.rts.length ≤ 2 ∧ Nar2 l ∧ Nar2 r
theorem bs_len : ∀ t : B, t.bs.length = t.rts.length
  | .nil => rfl
  | .node l x r => by
    show r.bs.length + 1 = r.rts.length + 1
    rw [bs_len r]
theorem bs_pre : ∀ {t : B}, Nar2 t → (t.bs.map B.pre).flatten = t.pre
  | .nil, _ => rfl
  | .node l x r, h => by
    obtain ⟨h1, h2, h3⟩ := h
    have i1 := bs_pre h2
    show (B.mk2 l.bs x).pre ++ (r.bs.map B.pre).flatten = x :: (l.pre ++ r.pre)
    rw [bs_pre h3, ← i1]
    rw [← bs_len] at h1
    generalize l.bs = L at h1
    match L, h1 with
    | [], _ => rfl
    | [a], _ =>
      show x :: (a.pre ++ []) ++ r.pre = x :: (a.pre ++ [] ++ r.pre)
      rfl
    | [a, b], _ =>
      show x :: (a.pre ++ b.pre) ++ r.pre = x :: (a.pre ++ (b.pre ++ []) ++ r.pre)
      rw [List.append_nil]
      rfl
theorem bs_post : ∀ {t : B}, Nar2 t → (t.bs.map B.post).flatten = t.mid
  | .nil, _ => rfl
  | .node l x r, h => by
    obtain ⟨h1, h2, h3⟩ := h
    have i1 := bs_post h2
    show (B.mk2 l.bs x).post ++ (r.bs.map B.post).flatten = l.mid ++ x :: r.mid
    rw [bs_post h3, ← i1]
    rw [← bs_len] at h1
    generalize l.bs = L at h1
    match L, h1 with
    | [], _ => rfl
    | [a], _ =>
      show a.post ++ [] ++ [x] ++ r.mid = a.post ++ [] ++ x :: r.mid
      rw [List.append_assoc]
      rfl
    | [a, b], _ =>
      show a.post ++ b.post ++ [x] ++ r.mid = a.post ++ (b.post ++ []) ++ x :: r.mid
      rw [List.append_nil, List.append_assoc]
      rfl
theorem nar_of : ∀ {t : B}, t.pre.Nodup → (∀ c ∈ t.pre, (kf t c).length ≤ 2) → Nar2 t
  | .nil, _, _ => trivial
  | .node l x r, nd, h => by
    have n := nd_x nd
    have hx := h x List.mem_cons_self
    rw [kf_x nd] at hx
    refine ⟨hx, nar_of n.2.2.1 fun c hc => ?_, nar_of n.2.2.2.1 fun c hc => ?_⟩
    · have := h c (List.mem_cons_of_mem _ (List.mem_append_left _ hc))
      rwa [kf_l nd hc] at this
    · have := h c (List.mem_cons_of_mem _ (List.mem_append_right _ hc))
      rwa [kf_r nd hc] at this
theorem good_pair {fr bk : List Nat} (nd : fr.Nodup) (pm : bk.Perm fr) (n0 : 0 < fr.length) (hb : badB fr bk = false) :
    ∃ (l : B) (x : Nat), fr = (B.node l x .nil).pre ∧ bk = (B.node l x .nil).mid ∧ Nar2 (B.node l x .nil) := by
  unfold badB at hb
  rw [Bool.or_eq_false_iff, Bool.or_eq_false_iff] at hb
  obtain ⟨hw, ht, hc⟩ := hb
  have ndb : bk.Nodup := pm.nodup_iff.mpr nd
  obtain ⟨t, e1, e2⟩ := forest_of fr.length fr bk (Nat.le_refl _) nd pm fun a b c h1 h2 => by
    have ha : a ∈ fr := h1.subset List.mem_cons_self
    have hb : b ∈ fr := h1.subset (List.mem_cons_of_mem _ List.mem_cons_self)
    have hc : c ∈ fr := h1.subset (List.mem_cons_of_mem _ (List.mem_cons_of_mem _ List.mem_cons_self))
    have p1 := pos_sub nd ((show [a, b].Sublist [a, b, c] from ((List.nil_sublist [c]).cons_cons b).cons_cons a).trans h1)
    have p2 := pos_sub nd (((List.Sublist.refl [b, c]).cons a).trans h1)
    have p3 := pos_sub ndb ((show [c, a].Sublist [c, a, b] from ((List.nil_sublist [b]).cons_cons a).cons_cons c).trans h2)
    have p4 := pos_sub ndb (((List.Sublist.refl [a, b]).cons c).trans h2)
    have : triB fr bk = true := List.any_eq_true.mpr ⟨a, ha, List.any_eq_true.mpr ⟨b, hb, List.any_eq_true.mpr ⟨c, hc, by unfold tri; simp only [Bool.and_eq_true, decide_eq_true_eq]; exact ⟨⟨p1, p2⟩, p3, p4⟩⟩⟩⟩
    rw [this] at ht
    cases ht
  subst e1 e2
  cases t with
  | nil => cases n0
  | node l x r =>
    have n := nd_x nd
    have hr : r = .nil := by
      cases r with
      | nil => rfl
      | node a y b =>
        exfalso
        unfold wroot at hw
        have hw := of_decide_eq_false hw
        refine hw fun z => ?_
        have e : (B.node l x (.node a y b)).mid.getLast? = (B.node a y b).mid.getLast? := by
          show (l.mid ++ x :: (B.node a y b).mid).getLast? = _
          have hne : (B.node a y b).mid ≠ [] := fun z => by
            have := (B.node a y b).mid_len
            rw [z] at this
            have : 0 = a.size + 1 + b.size := this
            omega
          rw [List.getLast?_append, List.getLast?_cons, List.getLast?_eq_some_getLast hne]
          rfl
        rw [e] at z
        have z : some x = (B.node a y b).mid.getLast? := z
        exact n.2.1 ((mid_mem _ x).mp (List.mem_of_getLast? z.symm))
    subst hr
    refine ⟨l, x, rfl, rfl, nar_of nd fun c hc' => ?_⟩
    unfold crowdB at hc
    have := List.any_eq_false.mp hc c hc'
    have := fun z => this (decide_eq_true z)
    exact Nat.le_of_not_lt this
/-! ### walks -/
inductive Kd where
  | first
  | between
  | last
def Kd.str : Kd → Str
  | .first => "first"
  | .between => "between"
  | .last => "last"
def B.wk (k : Kd) (t : B) : List Nat := match k with
  | .first => t.pre
  | .between => t.mid
  | .last => t.post
def B.steps (k : Kd) : B → List Nat → List (List Nat × Nat)
  | .nil, _ => []
  | .node l x r, q => match k with
    | .first => [(q, x)] ++ l.steps k (q ++ [108]) ++ r.steps k (q ++ [114])
    | .between => l.steps k (q ++ [108]) ++ [(q, x)] ++ r.steps k (q ++ [114])
    | .last => l.steps k (q ++ [108]) ++ r.steps k (q ++ [114]) ++ [(q, x)]
theorem B.steps_wk (k : Kd) (t : B) : ∀ q : List Nat, (t.steps k q).map (·.2) = t.wk k := by
  induction t with
  | nil => intro q; cases k <;> rfl
  | node l x r h1 h2 =>
    intro q
    have a := h1 (q ++ [108])
    have b := h2 (q ++ [114])
    cases k
    · show ([(q, x)] ++ l.steps .first (q ++ [108]) ++ r.steps .first (q ++ [114])).map (·.2) = x :: (l.pre ++ r.pre)
      rw [List.map_append, List.map_append, a, b]; rfl
    · show (l.steps .between (q ++ [108]) ++ [(q, x)] ++ r.steps .between (q ++ [114])).map (·.2) = l.mid ++ x :: r.mid
      rw [List.map_append, List.map_append, a, b]
      show l.mid ++ [x] ++ r.mid = _
      rw [List.append_assoc]; rfl
    · show (l.steps .last (q ++ [108]) ++ r.steps .last (q ++ [114]) ++ [(q, x)]).map (·.2) = l.post ++ r.post ++ [x]
      rw [List.map_append, List.map_append, a, b]; rfl
theorem B.wk_len (k : Kd) (t : B) : (t.wk k).length = t.size := by
  cases k
  · exact t.pre_len
  · exact t.mid_len
  · exact t.post_len
theorem B.steps_len (k : Kd) (t : B) (q : List Nat) : (t.steps k q).length = t.size := by
  rw [← t.wk_len k, ← t.steps_wk k q, List.length_map]
inductive StAt (H : Hp) : List V → List (List Nat × Nat) → Prop
  | nil : StAt H [] []
  | cons {a : Addr} {q : List Nat} {x : Nat} {vs : List V} {ss : List (List Nat × Nat)} : H a = some (.tup [.str (tx q), .str (ch x)]) → StAt H vs ss → StAt H (.ref a :: vs) ((q, x) :: ss)
theorem StAt.keep {H H' : Hp} (k : KeepT H H') {vs : List V} {ss : List (List Nat × Nat)} (h : StAt H vs ss) : StAt H' vs ss := by
  induction h with
  | nil => exact .nil
  | cons e _ ih => exact .cons (k _ _ e) ih
theorem StAt.same {H H' : Hp} (k : Same H H') {vs : List V} {ss : List (List Nat × Nat)} (h : StAt H vs ss) : StAt H' vs ss := h.keep (Tw.Same.keepT k)
theorem StAt.app {H : Hp} {vs us : List V} {ss ts : List (List Nat × Nat)} (h : StAt H vs ss) (g : StAt H us ts) : StAt H (vs ++ us) (ss ++ ts) := by
  induction h with
  | nil => exact g
  | cons e _ ih => exact .cons e ih
theorem StAt.len {H : Hp} {vs : List V} {ss : List (List Nat × Nat)} (h : StAt H vs ss) : vs.length = ss.length := by
  induction h with
  | nil => rfl
  | cons _ _ ih => rw [List.length_cons, List.length_cons, ih]
theorem StAt.get {H : Hp} {vs : List V} {ss : List (List Nat × Nat)} (h : StAt H vs ss) : ∀ {i : Nat} {v : V}, vs[i]? = some v → ∃ a q x, v = .ref a ∧ ss[i]? = some (q, x) ∧ H a = some (.tup [.str (tx q), .str (ch x)]) := by
  induction h with
  | nil => intro i v e; simp at e
  | cons e _ ih =>
    intro i v he
    cases i with
    | zero => cases he; exact ⟨_, _, _, rfl, rfl, e⟩
    | succ i => exact ih he
theorem str_l : Str.ofString "l" = tx [108] := by decide +kernel
theorem str_r : Str.ofString "r" = tx [114] := by decide +kernel
def spDeep (n : Nat) : Sp := fun vs H Q _ => ∃ (v : V) (t : B) (k : Kd) (q : List Nat), vs = [v, .str k.str, .str (tx q)] ∧ BAt H v t ∧ t.size < n ∧ t.size + q.length ≤ 200 ∧
  ∀ (p : Addr) (us : List V) (H' : Hp), Same H H' → H' p = some (.lst us) → StAt H' us (t.steps k q) → Q (.ref p) H'
section
variable {P : Program} {w : World} {K : PySem.W.Frag} {mg : Str → Option Value} {base : Heap} {f : Addr} {fd : FuncData}
theorem ok_deep (F : Fun K "deep_steps" "deep_steps" s_deep_steps f fd) (b : Binds K fd ["tree", "kind", "path"] []) (g : mg "deep_steps" = some (.ref f)) : ∀ n : Nat, FnOk P w K mg base CX0 n f fd ["tree", "kind", "path"] (spDeep n)
  | 0 => by
    have no : ∀ vs H Q E, ¬ spDeep 0 vs H Q E := fun vs H Q E h => by
      obtain ⟨v, t, k, q, _, _, h1, _⟩ := h
      omega
    exact ⟨fun vs H Q E h => absurd h (no vs H Q E), fun A outer s H args us vs Q E _ _ _ _ h => absurd h (no vs H Q E)⟩
  | n + 1 => by
    have Dself : Df P w K mg base n "deep_steps" ["tree", "kind", "path"] (spDeep n) := ⟨f, fd, ok_deep F b g n, b, F.kp, g⟩
    refine F.ok sc_deep_steps (fun vs H Q E h => ?_) (fun cdv A outer s H vs Q E hr h => ?_)
    · obtain ⟨v, t, k, q, rfl, _⟩ := h
      rfl
    obtain ⟨v, t, k, pth, rfl, hv, hn, hz, q⟩ := h
    refine ⟨_, (pss_cons (ps_if (pt_cmpR op_isN (pv 0) pe_non (nomark _))
      (pss_one (ps_ret (pe_lst pa_nil))) pss_nil)
    (pss_cons (ps_asg (pv 0) (pg_tup rfl (pgs_cons (pg_name (i := 3) sc_deep_steps.nd rfl (.inl rfl)) (pgs_cons (pg_name (i := 4) sc_deep_steps.nd rfl (.inl rfl)) (pgs_cons (pg_name (i := 5) sc_deep_steps.nd rfl (.inl rfl)) pgs_nil)))))
    (pss_cons (ps_set (i := 6) sc_deep_steps.nd rfl (.inl rfl) (pe_lst (pa_cons (pe_tup (pa_cons (pv 2) (pa_cons (pv 4) pa_nil))) pa_nil)))
    (pss_cons (ps_set (i := 7) sc_deep_steps.nd rfl (.inl rfl) (pe_call Dself.ok (hr.mono (by omega)) rfl Dself.g Dself.kp Dself.b .nil pass0 (pa_cons (pv 3) (pa_cons (pv 1) (pa_cons (pe_op op_add_str (pv 2) pe_str) pa_nil)))))
    (pss_cons (ps_set (i := 8) sc_deep_steps.nd rfl (.inl rfl) (pe_call Dself.ok (hr.mono (by omega)) rfl Dself.g Dself.kp Dself.b .nil pass0 (pa_cons (pv 5) (pa_cons (pv 1) (pa_cons (pe_op op_add_str (pv 2) pe_str) pa_nil)))))
    (pss_cons (ps_if (pt_cmpR op_eq (pv 1) pe_str (nomark _))
      (pss_one (ps_ret (pe_op op_cat (pe_op op_cat (pv 6) (pv 7)) (pv 8)))) pss_nil)
    (pss_cons (ps_if (pt_cmpR op_eq (pv 1) pe_str (nomark _))
      (pss_one (ps_ret (pe_op op_cat (pe_op op_cat (pv 7) (pv 6)) (pv 8)))) pss_nil)
    (pss_one (ps_ret (pe_op op_cat (pe_op op_cat (pv 7) (pv 8)) (pv 6))))))))))), ?_⟩
    rcases hv.inv with ⟨rfl, rfl⟩ | ⟨a, l, r, x, tl, tr, rfl, rfl, ea, hl, hr'⟩
    · refine ⟨_, rfl, rfl, _, rfl, iteT ⟨(by show 0 ≤ sizeLine; decide), fun p np => ?_⟩⟩
      exact q p [] _ (same_new np _) upd_same .nil
    · refine ⟨_, rfl, rfl, _, rfl, iteF ?_⟩
      refine ⟨_, rfl, a, _, rfl, SqT.of ea, rfl, _, _, rfl, _, _, rfl, _, _, rfl, rfl, ?_⟩
      have sz : tl.size + 1 + tr.size < n + 1 := hn
      have sz2 : tl.size + 1 + tr.size + pth.length ≤ 200 := hz
      -- root
      refine ⟨_, rfl, _, rfl, (by show 2 ≤ sizeLine; decide), fun tp ntp => ⟨(by show 1 ≤ sizeLine; decide), fun ro nro => ?_⟩⟩
      have q1 := same_new ntp (.tup [.str (tx pth), .str (ch x)])
      have q2 := same_new nro (.lst [.ref tp])
      have etp := q2 _ _ (upd_same (H := H) (a := tp) (o := .tup [.str (tx pth), .str (ch x)]))
      have ero := upd_same (H := upd H tp (.tup [.str (tx pth), .str (ch x)])) (a := ro) (o := .lst [.ref tp])
      have s1 := q1.trans q2
      generalize upd (upd H tp (.tup [.str (tx pth), .str (ch x)])) ro (.lst [.ref tp]) = H1 at etp ero s1
      -- lefts
      refine ⟨_, rfl, _, rfl, _, rfl, _, _, rfl, rfl, ?_, ?_⟩
      · rw [str_l, tx_len, tx_len]; exact small (by show _ + 1 ≤ 1000; omega)
      rw [str_l, tx_app]
      refine ⟨l, tl, k, pth ++ [108], rfl, hl.same s1, by omega, by rw [List.length_append]; show _ + (_ + 1) ≤ 200; omega, fun lp ul H2 s2 elp stl => ?_⟩
      -- rights
      refine ⟨_, rfl, _, rfl, _, rfl, _, _, rfl, rfl, ?_, ?_⟩
      · rw [str_r, tx_len, tx_len]; exact small (by show _ + 1 ≤ 1000; omega)
      rw [str_r, tx_app]
      refine ⟨r, tr, k, pth ++ [114], rfl, (hr'.same s1).same s2, by omega, by rw [List.length_append]; show _ + (_ + 1) ≤ 200; omega, fun rp ur H3 s3 erp str => ?_⟩
      have ero3 := s3 _ _ (s2 _ _ ero)
      have elp3 := s3 _ _ elp
      have strt : StAt H3 [.ref tp] [(pth, x)] := .cons (s3 _ _ (s2 _ _ etp)) .nil
      have stl3 := stl.same s3
      have sA := (s1.trans s2).trans s3
      have ll := stl.len
      have lr := str.len
      rw [B.steps_len] at ll lr
      cases k
      · refine ⟨_, rfl, rfl, _, rfl, iteS rfl ?_⟩
        refine ⟨_, rfl, _, rfl, ro, lp, _, _, rfl, rfl, ero3, elp3, small (by show 1 + _ ≤ 1000; omega), fun c1 n1 => ?_⟩
        have k1 := same_new n1 (.lst ([.ref tp] ++ ul))
        refine ⟨_, rfl, c1, rp, _, _, rfl, rfl, upd_same, k1 _ _ erp, small (by rw [List.length_append]; show 1 + _ + _ ≤ 1000; omega), fun c2 n2 => ?_⟩
        have k2 := same_new n2 (.lst ([.ref tp] ++ ul ++ ur))
        exact q c2 _ _ (sA.trans (k1.trans k2)) upd_same (((strt.app stl3).app str).same (k1.trans k2))
      · refine ⟨_, rfl, rfl, _, rfl, iteR (by decide +kernel) ?_⟩
        refine ⟨_, rfl, rfl, _, rfl, iteS rfl ?_⟩
        refine ⟨_, rfl, _, rfl, lp, ro, _, _, rfl, rfl, elp3, ero3, small (by show _ + 1 ≤ 1000; omega), fun c1 n1 => ?_⟩
        have k1 := same_new n1 (.lst (ul ++ [.ref tp]))
        refine ⟨_, rfl, c1, rp, _, _, rfl, rfl, upd_same, k1 _ _ erp, small (by rw [List.length_append]; show _ + 1 + _ ≤ 1000; omega), fun c2 n2 => ?_⟩
        have k2 := same_new n2 (.lst (ul ++ [.ref tp] ++ ur))
        exact q c2 _ _ (sA.trans (k1.trans k2)) upd_same (((stl3.app strt).app str).same (k1.trans k2))
      · refine ⟨_, rfl, rfl, _, rfl, iteR (by decide +kernel) ?_⟩
        refine ⟨_, rfl, rfl, _, rfl, iteR (by decide +kernel) ?_⟩
        refine ⟨_, rfl, _, rfl, lp, rp, _, _, rfl, rfl, elp3, erp, small (by omega), fun c1 n1 => ?_⟩
        have k1 := same_new n1 (.lst (ul ++ ur))
        refine ⟨_, rfl, c1, ro, _, _, rfl, rfl, upd_same, k1 _ _ ero3, small (by rw [List.length_append]; show _ + _ + 1 ≤ 1000; omega), fun c2 n2 => ?_⟩
        have k2 := same_new n2 (.lst (ul ++ ur ++ [.ref tp]))
        exact q c2 _ _ (sA.trans (k1.trans k2)) upd_same (((stl3.app str).app strt).same (k1.trans k2))
/-- the tuple KINDS of the text -/
structure KindsT (K : PySem.W.Frag) (mg : Str → Option Value) (a : Addr) : Prop where
  mg : mg "KINDS" = some (.ref a)
  sq : ∀ H : Hp, SqT K H a [.str "first", .str "between", .str "last", .str "level"]
def spKind : Sp := fun vs H Q _ => ∃ k : Kd, vs = [.str k.str] ∧ Q (.bl true) H
theorem ok_kind {k : Nat} {aK : Addr} (F : Fun K "is_kind" "is_kind" s_is_kind f fd) (M : Mgs mg) (Kk : KindsT K mg aK) : FnOk P w K mg base CX0 (k + 1) f fd ["value"] spKind := by
  refine F.ok sc_is_kind (fun vs H Q E h => ?_) (fun cdv A outer s H vs Q E hr h => ?_)
  · obtain ⟨k, rfl, _⟩ := h
    rfl
  obtain ⟨k, rfl, q⟩ := h
  refine ⟨_, (pss_one (ps_ret (pe_and (pe_callB call_isi rfl M.isinstance (by decide +kernel) (pa_cons (pv 0) (pa_cons (pe_bltn (v := .ty "str") rfl M.str (by decide +kernel) rfl) pa_nil))) (pe_one (pe_cmpR op_in_seq (pv 0) (pe_glob (v := .ref _) rfl Kk.mg rfl) (by rfl)))))), ?_⟩
  refine ⟨_, rfl, _, _, _, _, true, rfl, .ty _, .base (.str _), kit_ty (by decide +kernel), _, rfl, iteT ?_⟩
  refine ⟨_, rfl, aK, _, rfl, .inr (Kk.sq H), rfl, ?_, ?_⟩
  · rfl
  · have e : (if false = true then !inV (.str k.str) [.str "first", .str "between", .str "last", .str "level"] else inV (.str k.str) [.str "first", .str "between", .str "last", .str "level"]) = true := by
      cases k <;> decide +kernel
    rw [e]
    exact q
def spSteps : Sp := fun vs H Q _ => ∃ (v : V) (t : B) (k : Kd), vs = [v, .str k.str] ∧ BAt H v t ∧ t.size ≤ 50 ∧
  ∀ (p : Addr) (us : List V) (H' : Hp), Same H H' → H' p = some (.lst us) → StAt H' us (t.steps k []) → Q (.ref p) H'
theorem ok_steps (F : Fun K "ordered_steps" "ordered_steps" s_ordered_steps f fd) (Dis_kind : Df P w K mg base 1 "is_kind" ["value"] spKind) (Ddeep_steps : Df P w K mg base 60 "deep_steps" ["tree", "kind", "path"] (spDeep 60)) :
    FnOk P w K mg base CX0 61 f fd ["tree", "kind"] spSteps := by
  refine F.ok sc_ordered_steps (fun vs H Q E h => ?_) (fun cdv A outer s H vs Q E hr h => ?_)
  · obtain ⟨v, t, k, rfl, _⟩ := h
    rfl
  obtain ⟨v, t, k, rfl, hv, hz, q⟩ := h
  refine ⟨_, (pss_cons (ps_if (pt_not (pt_val (pe_call Dis_kind.ok (hr.mono (by omega)) rfl Dis_kind.g Dis_kind.kp Dis_kind.b .nil pass0 (pa_cons (pv 1) pa_nil))))
      (pss_one ps_never) pss_nil)
    (pss_cons (ps_if (pt_cmpR op_eq (pv 1) pe_str (nomark _))
      (pss_one ps_never) pss_nil)
    (pss_one (ps_ret (pe_call Ddeep_steps.ok (hr.mono (by omega)) rfl Ddeep_steps.g Ddeep_steps.kp Ddeep_steps.b .nil pass0 (pa_cons (pv 0) (pa_cons (pv 1) (pa_cons pe_str pa_nil)))))))), ?_⟩
  refine ⟨_, rfl, k, rfl, _, rfl, iteF ?_⟩
  refine ⟨_, rfl, rfl, _, rfl, iteR (by cases k <;> decide +kernel) ?_⟩
  refine ⟨_, rfl, _, rfl, v, t, k, [], ?_, hv, by omega, by show t.size + 0 ≤ 200; omega, q⟩
  rw [← str_0]
  rfl
def spWalk : Sp := fun vs H Q _ => ∃ (v : V) (t : B) (k : Kd), vs = [v, .str k.str] ∧ BAt H v t ∧ t.size ≤ 50 ∧ ∀ H', Same H H' → Q (.str (tx (t.wk k))) H'
theorem ok_walk (F : Fun K "walk" "walk" s_walk f fd) (Dordered_steps : Df P w K mg base 61 "ordered_steps" ["tree", "kind"] spSteps) : FnOk P w K mg base CX0 62 f fd ["tree", "kind"] spWalk := by
  refine F.ok sc_walk (fun vs H Q E h => ?_) (fun cdv A outer s H vs Q E hr h => ?_)
  · obtain ⟨v, t, k, rfl, _⟩ := h
    rfl
  obtain ⟨v, t, k, rfl, hv, hz, q⟩ := h
  refine ⟨_, (pss_one (ps_ret (pe_bm PySem.F.plainAttrs_str PySem.F.slot_str_join PySem.F.type_str_join mt_join pe_str (pa_cons (pe_lc (own := [("path", 2), ("label", 3)]) (g := gTup K 2 (gCons (gName 2) (gCons (gName 3) gNil))) (tt := tYes) rfl sc_walk.nd (pi_list (pe_call Dordered_steps.ok (hr.mono (by omega)) rfl Dordered_steps.g Dordered_steps.kp Dordered_steps.b .nil pass0 (pa_cons (pv 0) (pa_cons (pv 1) pa_nil)))) (blkOk_by (N := ["tree", "kind", "path", "label"]) (sc := defScope s_walk) (by decide +kernel)) (fun _ _ _ _ _ => (pg_tup rfl (pgs_cons (pg_name (i := 2) sc_walk.nd rfl (.inl rfl)) (pgs_cons (pg_name (i := 3) sc_walk.nd rfl (.inl rfl)) pgs_nil)))) (fun _ _ _ _ _ => pts_nil) (fun _ _ _ _ _ => (pv 3))) pa_nil)))), ?_⟩
  refine ⟨rfl, _, rfl, _, rfl, v, t, k, rfl, hv, hz, fun p us H1 s1 ep st => ?_⟩
  refine ⟨p, rfl, ⟨_, SqL.of ep⟩, fun D nD => ?_⟩
  have q1 := same_new nD (.lst [])
  have hl := st.len
  rw [B.steps_len] at hl
  have ez := t.steps_wk k []
  refine lc_list (K := K) (a := p) (xs := us) (fun i H' => Same H1 H' ∧ H' D = some (.lst (((t.wk k).take i).map vc))) ⟨q1, upd_same⟩ (fun i H' _ hp => SqL.of (hp.1 _ _ ep)) (fun i x H' hx hp => ?_) (fun H' hp => ?_)
  · obtain ⟨sm, ed⟩ := hp
    obtain ⟨a, pq, c, rfl, es, ea⟩ := st.get hx
    have hc : (t.wk k)[i]? = some c := by rw [← ez, List.getElem?_map, es]; rfl
    have hi := (List.getElem?_eq_some_iff.mp hx).1
    refine ⟨a, _, rfl, SqT.of (sm _ _ ea), rfl, _, _, rfl, _, _, rfl, rfl, rfl, kept ?_⟩
    refine ⟨_, rfl, _, ed, ?_, fun b o e => ?_, ?_⟩
    · rw [List.length_map, List.length_take]; exact small1000 (by omega)
    · rw [upd_ne (ne_of_none e nD)]; exact sm _ _ e
    · rw [upd_same, take_next hc, List.map_append]; rfl
  · obtain ⟨sm, ed⟩ := hp
    have tk : (t.wk k).take us.length = t.wk k := List.take_of_length_le (by rw [t.wk_len k]; omega)
    rw [tk, map_vc] at ed
    refine ⟨_, D, (t.wk k).map ch, rfl, rfl, .inl (SqL.of ed), tx_joinOk _ (by rw [t.wk_len k]; omega), ?_⟩
    rw [tx_join]
    exact q H' (s1.trans sm)

/-! walks, pair_of -/
theorem sc_walks : FnScope ["tree", "kinds", "kind"] ["tree", "kinds"] (defScope s_walks) := ⟨rfl, rfl, rfl, by decide +kernel, rfl, by decide +kernel, by decide +kernel⟩
def spWalksT : Sp := fun vs H Q _ => ∃ (v : V) (t : B) (p : Addr), vs = [v, .ref p] ∧ BAt H v t ∧ t.size ≤ 50 ∧ H p = some (.tup [.str "first", .str "last"]) ∧ ∀ (d : Addr) (H' : Hp), Same H H' → H' d = some (.tup [.str (tx t.pre), .str (tx t.post)]) → Q (.ref d) H'
def spWalks : Sp := fun vs H Q E => ∃ ws rest, vs = ws ++ rest ∧ ws.length = ["tree"].length ∧ rest.length ≤ sizeLine ∧ ∀ p, H p = Option.none → spWalksT (ws ++ [V.ref p]) (upd H p (.tup rest)) Q E
structure DfR (P : Program) (w : World) (K : PySem.W.Frag) (mg : Str → Option Value) (base : Heap) (k : Nat) (nm : Str) (sp : Sp) where
  f : Addr
  ok : FnR P w K mg base CX0 k f sp
  kp : PySem.W.keepIn K (.ref f) = true
  g : mg nm = some (.ref f)
theorem ok_walks (F : Fun K "walks" "walks" s_walks f fd) (M : Mgs mg) (Dwalk : Df P w K mg base 62 "walk" ["tree", "kind"] spWalk) : FnR P w K mg base CX0 63 f spWalks := by
  obtain ⟨oc, od, kV, doc, pm, an, cdv, ct, osl, rfl, lk, hcd⟩ := F.ex
  refine StX.fn_star (k := 62) (ps := ["tree"]) (pv := "kinds") (sp := spWalksT) lk hcd sc_walks StX.cxUp_none (fun us rest hl => by match us, hl with | [_], _ => cases rest <;> rfl) fun A outer s H vs Q E hr h => ?_
  obtain ⟨v, t, p, rfl, hv, hz, ep, q⟩ := h
  refine ⟨_, ((pss_one (ps_ret (pe_callTy call_tuple_of rfl M.tuple (by decide +kernel) (pa_cons (pe_lc (own := [("kind", 2)]) (g := gName 2) (tt := tYes) rfl sc_walks.nd (pi_tup (pv 1)) (blkOk_by (N := ["tree", "kinds", "kind"]) (sc := defScope s_walks) (by decide +kernel)) (fun _ _ _ _ _ => (pg_name (i := 2) sc_walks.nd rfl (.inl rfl))) (fun _ _ _ _ _ => pts_nil) (fun _ _ _ _ _ => (pe_call Dwalk.ok (hr.mono (by omega)) rfl Dwalk.g Dwalk.kp Dwalk.b .nil pass0 (pa_cons (pv 0) (pa_cons (pv 2) pa_nil))))) pa_nil)))) : PSs (cxOf CX0 P w K mg base ["tree", "kinds", "kind"] "walks" (defScope s_walks) f cdv A outer s H E).nox (defBody s_walks) _).nox, ?_⟩
  refine ⟨_, rfl, p, rfl, ⟨_, SqT.of ep⟩, fun D nD => ?_⟩
  have k1 := same_new nD (.lst [])
  refine lc_tup (K := K) (a := p) (xs := [.str "first", .str "last"]) (fun i H' => Same H H' ∧ H' D = some (.lst (([V.str (tx t.pre), .str (tx t.post)]).take i))) ⟨k1, upd_same⟩ (fun i H' _ hq => SqT.of (hq.1 _ _ ep)) (fun i x H1 hx hq => ?_) (fun H1 hq => ?_)
  · obtain ⟨s1, e1⟩ := hq
    obtain ⟨kk, rfl, hk⟩ : ∃ kk : Kd, x = .str kk.str ∧ ([V.str (tx t.pre), .str (tx t.post)])[i]? = some (.str (tx (t.wk kk))) := by
      match i, hx with
      | 0, h => cases h; exact ⟨.first, rfl, rfl⟩
      | 1, h => cases h; exact ⟨.last, rfl, rfl⟩
    refine ⟨rfl, kept ?_⟩
    refine ⟨_, rfl, _, rfl, v, t, kk, rfl, hv.same s1, hz, fun H2 s2 => ?_⟩
    refine ⟨_, s2 _ _ e1, ?_, fun b u e => ?_, ?_⟩
    · rw [List.length_take]; exact small1000 (by show min i 2 ≤ 1000; omega)
    · rw [upd_ne (ne_of_none e nD)]; exact s2 _ _ (s1 _ _ e)
    · rw [upd_same, take_nextG hk]
  · obtain ⟨s1, e1⟩ := hq
    refine ⟨D, _, rfl, .inl ⟨SqL.of e1, fun d nd => ?_⟩⟩
    exact q d _ (s1.trans (same_new nd _)) upd_same
def spPairOf : Sp := fun vs H Q _ => ∃ (v : V) (t : B), vs = [v] ∧ BAt H v t ∧ t.size ≤ 50 ∧ ∀ (p : Addr) (H' : Hp), Same H H' → H' p = some (.tup [.str (tx t.pre), .str (tx t.post)]) → Q (.ref p) H'
theorem pe_callP {X : Cx} {CX : CXT} {k : Nat} {f : Addr} {sp : Sp} {E : XK} {x : Str} {e : Expr} {es : List Expr} {t : TA} {p pos : Pos} (F : FnR X.prog X.w X.K X.mg X.base CX k f sp) (hr : Room k X.A) (hk : PySem.W.keepIn X.K (.ref f) = true) (hg : Gl X x) (hm : X.mg x = some (.ref f)) (hx : Passes CX X E)
    (ha : PA X (e :: es) t) (hd : (x == ("__debug__" : Str)) = false := by decide) (he : starEach (e :: es) X.env = (false, eval e X.env) :: starEach es X.env := by rfl) (hpl : (backTo pos (starEach es X.env)).any (·.1) = false := by rfl) :
    PE X (.Call (.Name x p) (e :: es) [] pos) (fun σ H Q => t σ H fun vs H1 => sp vs H1 Q E) :=
  ⟨fun pins s σ H Q I h => wpAny_Call_Name_kw (ld_glob I hg hm (PySem.W.callWith_K (h₀ := X.base) I.ok.mod.kin hk (thn (ha.run pos pins s σ H _ I h) fun us s1 ⟨vs, H1, I1, r, q⟩ => ⟨I1.kIn, wpAny_call (run_fnR F hr hx I1 r q)⟩) he hpl) hd)⟩
theorem ok_pairOf (F : Fun K "pair_of" "pair_of" s_pair_of f fd) (Dwalks : DfR P w K mg base 63 "walks" spWalks) : FnOk P w K mg base CX0 64 f fd ["tree"] spPairOf := by
  refine F.ok (k := 63) sc_pair_of (fun vs H Q E h => ?_) (fun cdv A outer s H vs Q E hr h => ?_)
  · obtain ⟨v, t, rfl, _⟩ := h
    rfl
  obtain ⟨v, t, rfl, hv, hz, q⟩ := h
  refine ⟨_, pss_one (ps_ret (pe_callP (E := E0) Dwalks.ok hr Dwalks.kp rfl Dwalks.g pass0 (pa_cons (pv 0) (pa_cons pe_str (pa_cons pe_str pa_nil))))), ?_⟩
  refine ⟨_, rfl, [v], _, rfl, rfl, (by show 2 ≤ sizeLine; decide), fun p np => ?_⟩
  have k1 := same_new np (.tup [.str "first", .str "last"])
  exact ⟨v, t, p, rfl, hv.same k1, hz, upd_same, fun d H' s e => q d H' (k1.trans s) e⟩
end
/-! ### letters, nodes, trees, tags -/
def ltB (t : B) : Prop := ∀ c ∈ t.pre, 97 ≤ c ∧ c ≤ 122
theorem ltB.l {l r : B} {x : Nat} (h : ltB (.node l x r)) : ltB l := fun c hc => h c (List.mem_cons_of_mem _ (List.mem_append_left _ hc))
theorem ltB.r {l r : B} {x : Nat} (h : ltB (.node l x r)) : ltB r := fun c hc => h c (List.mem_cons_of_mem _ (List.mem_append_right _ hc))
theorem ltB.x {l r : B} {x : Nat} (h : ltB (.node l x r)) : 97 ≤ x ∧ x ≤ 122 := h x List.mem_cons_self
/-- trees, none of them empty -/
inductive FAt (H : Hp) : List V → List B → Prop
  | nil : FAt H [] []
  | cons {v : V} {t : B} {vs : List V} {ts : List B} : BAt H v t → t ≠ .nil → ltB t → FAt H vs ts → FAt H (v :: vs) (t :: ts)
theorem FAt.keep {H H' : Hp} (k : KeepT H H') {vs : List V} {ts : List B} (h : FAt H vs ts) : FAt H' vs ts := by
  induction h with
  | nil => exact .nil
  | cons a b c _ ih => exact .cons (a.keep k) b c ih
theorem FAt.app {H : Hp} {vs us : List V} {ts ss : List B} (h : FAt H vs ts) (g : FAt H us ss) : FAt H (vs ++ us) (ts ++ ss) := by
  induction h with
  | nil => exact g
  | cons a b c _ ih => exact .cons a b c ih
def sizes (ts : List B) : Nat := (ts.map B.size).sum
theorem sizes_app (a b : List B) : sizes (a ++ b) = sizes a + sizes b := by unfold sizes; rw [List.map_append, List.sum_append]
theorem FAt.len {H : Hp} {vs : List V} {ts : List B} (h : FAt H vs ts) : vs.length = ts.length ∧ ts.length ≤ sizes ts := by
  induction h with
  | nil => exact ⟨rfl, Nat.le_refl _⟩
  | @cons v t vs ts a b c _ ih =>
    refine ⟨by rw [List.length_cons, List.length_cons, ih.1], ?_⟩
    have : 1 ≤ t.size := by
      cases t with
      | nil => exact absurd rfl b
      | node l x r => show 1 ≤ l.size + 1 + r.size; omega
    have e : sizes (t :: ts) = t.size + sizes ts := by unfold sizes; rw [List.map_cons, List.sum_cons]
    rw [List.length_cons, e]
    omega
theorem FAt.last {H : Hp} {vs : List V} {ts : List B} (h : FAt H vs ts) (hne : vs ≠ []) : ∃ v t ts', vs[vs.length - 1]? = some v ∧ ts = ts' ++ [t] ∧ BAt H v t ∧ t ≠ .nil ∧ ltB t ∧ FAt H vs.dropLast ts' := by
  induction h with
  | nil => exact absurd rfl hne
  | @cons v t vs ts a b c k ih =>
    cases k with
    | nil => exact ⟨v, t, [], rfl, rfl, a, b, c, .nil⟩
    | @cons v1 t1 vs1 ts1 a1 b1 c1 k1 =>
      obtain ⟨w, u, us, e1, e2, e3, e4, e5, e6⟩ := ih (List.cons_ne_nil _ _)
      exact ⟨w, u, t :: us, e1, by rw [e2]; rfl, e3, e4, e5, .cons a b c e6⟩
def spNode : Sp := fun vs H Q _ => ∃ (a : Addr) (l r : V) (c : Nat), vs = [.ref a] ∧ H a = some (.tup [l, .str (ch c), r]) ∧ 97 ≤ c ∧ c ≤ 122 ∧ Q (.bl true) H
def spIsTree : Sp := fun vs H Q _ => ∃ (v : V) (t : B), vs = [v] ∧ BAt H v t ∧ t ≠ .nil ∧ ltB t ∧ t.size ≤ 12 ∧ ∀ H', Same H H' → Q (.bl true) H'
def keepV : V → List V
  | .non => []
  | v => [v]
theorem keep_step {xs : List V} {j : Nat} {x : V} (h : xs[j]? = some x) : (xs.take (j + 1)).flatMap keepV = (xs.take j).flatMap keepV ++ keepV x := by
  rw [List.take_add_one, h, List.flatMap_append]
  congr 1
  show keepV x ++ [] = keepV x
  rw [List.append_nil]
theorem keep_f {H : Hp} {v : V} {t : B} (h : BAt H v t) (k : ltB t) : ∃ ts, FAt H (keepV v) ts ∧ sizes ts = t.size := by
  cases h with
  | nil => exact ⟨[], .nil, rfl⟩
  | node e h1 h2 => exact ⟨[_], .cons (.node e h1 h2) (fun z => nomatch z) k .nil, rfl⟩
section
variable {P : Program} {w : World} {K : PySem.W.Frag} {mg : Str → Option Value} {base : Heap} {f : Addr} {fd : FuncData}
theorem ok_node {k : Nat} (F : Fun K "is_node" "is_node" s_is_node f fd) (M : Mgs mg) (Dis_letter : Df P w K mg base (k + 1) "is_letter" ["value"] spLetter) : FnOk P w K mg base CX0 (k + 2) f fd ["value"] spNode := by
  refine F.ok sc_is_node (fun vs H Q E h => ?_) (fun cdv A outer s H vs Q E hr h => ?_)
  · obtain ⟨a, l, r, c, rfl, _⟩ := h
    rfl
  obtain ⟨a, l, r, c, rfl, ea, h1, h2, q⟩ := h
  refine ⟨_, (pss_one (ps_ret (pe_and (pe_callB call_isi rfl M.isinstance (by decide +kernel) (pa_cons (pv 0) (pa_cons (pe_bltn (v := .ty "tuple") rfl M.tuple (by decide +kernel) rfl) pa_nil))) (pe_and (pe_cmpR op_eq (pe_callB call_len_seq rfl M.len PySem.boot_len (pa_cons (pv 0) pa_nil)) pe_int (nomark _)) (pe_one (pe_call Dis_letter.ok (hr.mono (by omega)) rfl Dis_letter.g Dis_letter.kp Dis_letter.b .nil pass0 (pa_cons (pe_ix ix_tup (pv 0) pe_int (fun _ _ => rfl)) pa_nil))))))), ?_⟩
  refine ⟨_, rfl, _, _, _, _, true, rfl, .ty _, .base (.tup ea), kit_ty (by decide +kernel), _, rfl, iteT ?_⟩
  refine ⟨_, rfl, a, _, rfl, .inr (SqT.of ea), rfl, _, rfl, iteI rfl ?_⟩
  refine ⟨_, rfl, a, _, _, _, rfl, rfl, SqT.of ea, atI_nat (j := 1) rfl, c, rfl, ?_⟩
  rw [letter_ok ⟨h1, h2⟩]
  exact q
theorem ok_isTree {tM : Tok} (F : Fun K "is_tree" "is_tree" s_is_tree f fd) (mMAX : mg "MAX_NODES" = some (.int 12 tM)) (Dis_node : Df P w K mg base 2 "is_node" ["value"] spNode) : FnOk P w K mg base CX0 3 f fd ["value"] spIsTree := by
  refine F.ok sc_is_tree (fun vs H Q E h => ?_) (fun cdv A outer s H vs Q E hr h => ?_)
  · obtain ⟨v, t, rfl, _⟩ := h
    rfl
  obtain ⟨v, t, rfl, hv, hn, lt, hz, q⟩ := h
  refine ⟨_, (pss_cons (ps_set (i := 1) sc_is_tree.nd rfl (.inl rfl) pe_int)
    (pss_cons (ps_set (i := 2) sc_is_tree.nd rfl (.inl rfl) (pe_lst (pa_cons (pv 0) pa_nil)))
    (pss_cons (ps_while PassesOwn.never (pt_truth (pv 2) (by intro _; rfl))
      (pss_cons (ps_set (i := 3) sc_is_tree.nd rfl (.inl rfl) (pe_bm0 PySem.F.plainAttrs_list PySem.F.slot_list_pop PySem.F.type_list_pop mt_pop (pv 2)))
    (pss_cons (ps_aug (i := 1) sc_is_tree.nd rfl (.inl rfl) pe_int ip_add)
    (pss_cons (ps_if (PW.pt (pw_or (pt_cmpR op_gt (pv 1) (pe_glob (v := .int _) rfl mMAX ⟨_, rfl⟩) (nomark _)) (pw_or1 (pt_not (pt_val (pe_call Dis_node.ok (hr.mono (by omega)) rfl Dis_node.g Dis_node.kp Dis_node.b .nil pass0 (pa_cons (pv 3) pa_nil)))))))
      (pss_one (ps_ret pe_bl)) pss_nil)
    (pss_one (ps_expr (pe_bm PySem.F.plainAttrs_list PySem.F.slot_list_extend PySem.F.type_list_extend mt_extend (pv 2) (pa_cons (pe_lc (own := [("side", 4)]) (g := gName 4) rfl sc_is_tree.nd (pi_tup (pe_tup (pa_cons (pe_ix ix_tup (pv 3) pe_int (fun _ _ => rfl)) (pa_cons (pe_ix ix_tup (pv 3) pe_int (fun _ _ => rfl)) pa_nil)))) (blkOk_by (N := ["value", "count", "waiting", "part", "side"]) (sc := defScope s_is_tree) (by decide +kernel)) (fun _ _ _ _ _ => (pg_name (i := 4) sc_is_tree.nd rfl (.inl rfl))) (fun _ _ _ _ _ => pts_one (pt_cmpR op_notN (pv 4) pe_non (nomark _))) (fun _ _ _ _ _ => (pv 4))) pa_nil))))))))
    (pss_one (ps_ret pe_bl))))), ?_⟩
  refine ⟨_, rfl, (by show 1 ≤ sizeLine; decide), fun wa nw => ?_⟩
  have q0 := same_new nw (.lst [v])
  refine while_by (c := fun σ H' Q' => tVar 2 σ H' fun x H2 => ∃ k, TruV K x H2 k ∧ Q' k H2) (fun σ H' => ∃ (c : Nat) (y3 : Option V) (ws : List V) (ts : List B), σ = [some v, some (.int (c : Int)), some (.ref wa), y3, none] ∧ Same H H' ∧ H' wa = some (.lst ws) ∧ FAt H' ws ts ∧ c + sizes ts = t.size)
    (fun σ H' => match σ[1]? with | some (some (V.int c)) => (13 - c).toNat | _ => 0) ?_ (fun σ H' hp => ?_) ?_
  · exact ⟨0, none, [v], [t], rfl, q0, upd_same, .cons (hv.same q0) hn lt .nil, by show 0 + (t.size + 0) = t.size; omega⟩
  · obtain ⟨c, y3, ws, ts, rfl, sm, ew, fa, hs⟩ := hp
    refine ⟨_, rfl, !ws.isEmpty, .inl ⟨ws, SqL.of ew, rfl⟩, ?_⟩
    cases hws : ws with
    | nil => exact iteF (q H' sm)
    | cons w0 wr =>
      refine iteT ?_
      obtain ⟨x, u, us, ex, rfl, bu, nu, lu, fu⟩ := fa.last (by rw [hws]; exact List.cons_ne_nil _ _)
      have su : sizes (us ++ [u]) = sizes us + u.size := by rw [sizes_app]; show _ + (u.size + 0) = _; omega
      rw [su] at hs
      refine ⟨_, rfl, .inl ⟨rfl, _, SqL.of ew⟩, wa, _, x, rfl, rfl, ew, ex, ?_⟩
      have kp : KeepT H' (upd H' wa (.lst ws.dropLast)) := fun b xs e => by rw [upd_ne (ne_of e ew (by intro z; cases z))]; exact e
      have sm2 : Same H (upd H' wa (.lst ws.dropLast)) := fun b o z => by rw [upd_ne (ne_of_none z nw)]; exact sm _ _ z
      have ew2 := upd_same (H := H') (a := wa) (o := .lst ws.dropLast)
      have fu2 := fu.keep kp
      have bu2 := bu.keep kp
      generalize upd H' wa (.lst ws.dropLast) = H2 at sm2 ew2 fu2 bu2
      refine ⟨_, rfl, _, _, rfl, rfl, ?_⟩
      rcases bu2.inv with ⟨_, z⟩ | ⟨a, l, r, y, tl, tr, rfl, rfl, ea, hl, hr'⟩
      · exact absurd z nu
      have uz : (B.node tl y tr).size = tl.size + 1 + tr.size := rfl
      have c12 : c + 1 ≤ 12 := by omega
      refine ⟨_, rfl, _, _, rfl, rfl, _, rfl, ?_⟩
      rw [decide_eq_false (show ¬ ((12 : Int) < (c : Int) + 1) by omega)]
      refine iteF ?_
      refine ⟨_, rfl, a, l, r, y, rfl, ea, lu.x.1, lu.x.2, _, rfl, iteF ?_⟩
      refine ⟨_, rfl, .inl ⟨rfl, _, SqL.of ew2⟩, ?_⟩
      refine ⟨_, rfl, a, _, _, _, rfl, rfl, SqT.of ea, atI_nat (j := 0) rfl, _, rfl, a, _, _, _, rfl, rfl, SqT.of ea, atI_nat (j := 2) rfl, (by show 2 ≤ sizeLine; decide), fun tp ntp => ?_⟩
      have k3 := same_new ntp (.tup [l, r])
      refine ⟨tp, rfl, ⟨_, SqT.of upd_same⟩, fun L nL => ?_⟩
      have k4 := same_new nL (.lst [])
      refine lc_tup (K := K) (a := tp) (xs := [l, r]) (fun j H'' => Same (upd H2 tp (.tup [l, r])) H'' ∧ H'' L = some (.lst ((([l, r] : List V).take j).flatMap keepV))) ⟨k4, upd_same⟩ (fun j H'' _ hp => SqT.of (hp.1 _ _ upd_same)) (fun j x H'' hx hp => ?_) (fun H3 hp => ?_)
      · obtain ⟨s5, eL⟩ := hp
        have hj : j < 2 := (List.getElem?_eq_some_iff.mp hx).1
        refine ⟨rfl, ?_⟩
        refine ⟨_, rfl, rfl, _, rfl, ?_⟩
        rw [keep_step hx]
        cases x with
        | non =>
          rw [show keepV .non = [] from rfl, List.append_nil]
          exact iteF ⟨s5, eL⟩
        | _ =>
          refine iteT ⟨_, rfl, _, eL, ?_, fun b o e => ?_, ?_⟩
          · refine Nat.lt_of_le_of_lt ?_ (show 4 < sizeLine by decide)
            match j, hj with
            | 0, _ => exact Nat.zero_le _
            | 1, _ => cases l <;> exact Nat.le_of_ble_eq_true rfl
          · rw [upd_ne (ne_of_none e nL)]; exact s5 _ _ e
          · rw [upd_same]; rfl
      · obtain ⟨s5, eL⟩ := hp
        have eL' : H3 L = some (.lst (keepV l ++ keepV r)) := by
          rw [eL]
          show some (HO.lst (keepV l ++ (keepV r ++ []))) = _
          rw [List.append_nil]
        have s25 := k3.trans s5
        obtain ⟨t1, f1, z1⟩ := keep_f (hl.same s25) lu.l
        obtain ⟨t2, f2, z2⟩ := keep_f (hr'.same s25) lu.r
        have ew3 := s25 _ _ ew2
        have fl := fu.len
        have kv : ∀ x : V, (keepV x).length ≤ 1 := fun x => by cases x <;> first | exact Nat.zero_le _ | exact Nat.le_refl _
        have k1 := kv l
        have k2 := kv r
        refine ⟨wa, L, _, _, rfl, rfl, ew3, eL', ?_, ?_⟩
        · rw [List.length_append]; exact small (by omega)
        have kp2 : KeepT H3 (upd H3 wa (.lst (ws.dropLast ++ (keepV l ++ keepV r)))) := fun b xs e => by rw [upd_ne (ne_of e ew3 (by intro z; cases z))]; exact e
        refine ⟨⟨c + 1, some (.ref a), _, us ++ (t1 ++ t2), rfl, fun b o z => ?_, upd_same, ((fu2.keep (Tw.Same.keepT s25)).app (f1.app f2)).keep kp2, ?_⟩, ?_⟩
        · rw [upd_ne (ne_of_none z nw)]; exact s25 _ _ (sm2 _ _ z)
        · rw [sizes_app, sizes_app, z1, z2]; omega
        · show (13 - ((c : Int) + 1)).toNat < (13 - (c : Int)).toNat
          omega
  · intro σ H' Q1 Q2 hQ h
    obtain ⟨v, e, k, h1, h2⟩ := h
    exact ⟨v, e, k, h1, hQ _ _ h2⟩
def spTagged : Sp := fun vs H Q _ => ∃ (a : Addr) (x : Str) (v : V), vs = [.ref a] ∧ H a = some (.tup [.str x, v]) ∧ Q (.bl true) H
theorem ok_tagged {k : Nat} (F : Fun K "is_tagged" "is_tagged" s_is_tagged f fd) (M : Mgs mg) : FnOk P w K mg base CX0 (k + 1) f fd ["value"] spTagged := by
  refine F.ok sc_is_tagged (fun vs H Q E h => ?_) (fun cdv A outer s H vs Q E hr h => ?_)
  · obtain ⟨a, x, v, rfl, _⟩ := h
    rfl
  obtain ⟨a, x, v, rfl, ea, q⟩ := h
  refine ⟨_, (pss_one (ps_ret (pe_and (pe_callB call_isi rfl M.isinstance (by decide +kernel) (pa_cons (pv 0) (pa_cons (pe_bltn (v := .ty "tuple") rfl M.tuple (by decide +kernel) rfl) pa_nil))) (pe_and (pe_cmpR op_eq (pe_callB call_len_seq rfl M.len PySem.boot_len (pa_cons (pv 0) pa_nil)) pe_int (nomark _)) (pe_one (pe_callB call_isi rfl M.isinstance (by decide +kernel) (pa_cons (pe_ix ix_tup (pv 0) pe_int (fun _ _ => rfl)) (pa_cons (pe_bltn (v := .ty "str") rfl M.str (by decide +kernel) rfl) pa_nil)))))))), ?_⟩
  refine ⟨_, rfl, _, _, _, _, true, rfl, .ty _, .base (.tup ea), kit_ty (by decide +kernel), _, rfl, iteT ?_⟩
  refine ⟨_, rfl, a, _, rfl, .inr (SqT.of ea), rfl, _, rfl, iteI rfl ?_⟩
  exact ⟨_, rfl, a, _, _, _, rfl, rfl, SqT.of ea, atI_nat (j := 0) rfl, _, _, _, _, true, rfl, .ty _, .base (.str _), kit_ty (by decide +kernel), q⟩
end
/-! ### first, *rest = a tuple -/
section
open PySem.W
theorem unpack_head {prog : Program} {w : World} {A : Around} {E : Value → Shared → Prop} {s : Shared} {l : Addr} {u : Value} {us : List Value} {Q : List Value → Shared → Prop} (hl : IsTup s.heap l (u :: us).toArray) (hh : A.handled = none) (hz : us.length ≤ 1000)
    (h : ∀ (h' : Heap) (tk : Tok), (∀ b o, s.heap.get? b = some o → h'.get? b = some o) → Q [u, .ref h'.objs.size] { s with heap := h'.push { cls := .type "list", data := .seq us.toArray }, toks := tk }) : wpAny (model prog w) A (unpackItems (.ref l) 2 (some 1)) Q E s := by
  have hlt : l ≠ s.heap.objs.size := by obtain ⟨o, ho, _⟩ := hl; exact Nat.ne_of_lt (Heap.lt_size ho)
  have sz : (u :: us).toArray.size = us.length + 1 := by simp
  unfold unpackItems
  refine wpAny_bind ?_
  unfold notIterableAtAll
  refine wpAny_bind (wpAny_specialOf hl.typeIs slot_tuple_iter.lookup ?_)
  refine wpAny_pure ?_
  simp only [Bool.false_eq_true, if_false]
  refine wpAny_bind (wpAny_holding (iter_tuple hl ?_))
  refine wpAny_bind (wpAny_holding (draw_tuple hlt 1 0 _ _ ⟨_, Heap.get?_push_size _ rfl, rfl, rfl⟩ (hl.push _) (by omega) fun h₁ it₁ b₁ => ?_))
  have hl₁ : IsTup h₁ l (u :: us).toArray := (hl.push _).extBut b₁.extBut hlt
  have it₁' := it₁
  obtain ⟨oi, hoi, _⟩ := it₁'
  have hl₁' := hl₁
  obtain ⟨ol, hol, _⟩ := hl₁'
  show wpAny _ _ (if ([u] : List Value).length < 1 then _ else _) _ _ _
  rw [if_neg (by show ¬ 1 < 1; omega)]
  refine wpAny_bind (wpAny_holding (kun_collect (s := { s with heap := h₁ }) (T := "tuple_iterator") (.inr (.inr (.inr rfl))) (Walks.tuple (A := A.in1) hh s.heap.objs.size l hlt (u :: us).toArray) (fun j u st => st.1.typeIs) (k := 1) (by omega) ⟨it₁, hl₁⟩ (Heap.lt_size hoi) (Heap.lt_size hol) (fun h₂ tk hk => ?_) (by rw [sz, sizeLine_eq]; omega)))
  show wpAny _ _ (if (us : List Value).length < 2 - 1 - 1 then _ else _) _ _ _
  rw [if_neg (by omega)]
  show wpAny _ _ (newList (us.take (us.length - 0)) >>= fun d => pure ([u] ++ [d] ++ us.drop (us.length - 0))) _ _ _
  rw [Nat.sub_zero, List.take_length, List.drop_length]
  refine wpAny_bind (wpAny_newList ?_ (by rw [sizeLine_eq]; omega))
  refine wpAny_pure ?_
  exact h h₂ tk fun b o e => hk b o (Nat.ne_of_lt (Heap.lt_size e)) (b₁.extBut b o (Nat.ne_of_lt (Heap.lt_size e)) (Heap.get?_push_of_some _ e))
end
def gHead (K : PySem.W.Frag) (t1 t2 : TG) : TG := fun v σ H Q => ∃ a x xs, v = .ref a ∧ SqT K H a (x :: xs) ∧ xs.length ≤ 1000 ∧ ∀ D, H D = none → t1 x σ (upd H D (.lst xs)) fun σ1 H1 => t2 (.ref D) σ1 H1 Q
theorem pg_head {X : Cx} {pos sp_ : Pos} {e1 e2 : Expr} {k : Nat} {t1 t2 : TG} (hc : X.calm = true) (h1 : PG X e1 t1) (h2 : PG X e2 t2)
    (hn : (assignEach [e1, .Starred e2 sp_] X.env).length = 2 := by rfl) (hst : (assignEach [e1, .Starred e2 sp_] X.env).findIdx? (·.1) = some 1 := by rfl)
    (hm : (assignEach [e1, .Starred e2 sp_] X.env).map (·.2) = [assign e1 X.env, assign e2 X.env] := by rfl) : PG X (.Tuple [e1, .Starred e2 sp_] k pos) (gHead X.K t1 t2) := by
  refine ⟨fun pins s σ H v u Q I r hw => ?_⟩
  obtain ⟨a, x, xs, e, hq, hz, hw⟩ := hw
  subst e
  cases r
  obtain ⟨its, rv, ht, _⟩ := I.tuple hq
  cases rv with
  | cons r1 rr =>
    rename_i y ys
    rw [PyProof.Rows.assign_Tuple]
    refine wpAny_bind (wpAny_standAt ?_)
    unfold unpack
    rw [hn, hst]
    refine wpAny_bind (wpAny_holding (unpack_head ht (I.ok.hd hc) (by rw [← rr.length]; exact hz) fun h' tk hk => ?_))
    have I1 : Inv X pins σ H { s with heap := h', toks := tk } := I.kept hk
    have I2 : Inv X pins σ (upd H h'.objs.size (.lst xs)) { s with heap := h'.push { cls := .type "list", data := .seq ys.toArray }, toks := tk } :=
      I1.laid (fun b o e => Heap.get?_push_of_some _ e) (Nat.le_refl _) ⟨small hz, ys, 0, rr, Heap.get?_push_size _ rfl⟩
    rw [hm]
    refine assignInOrder_cons (thn (h1.run pins _ σ _ x y _ I2 r1 (hw _ (I1.hok.fresh (Nat.le_refl _)))) fun _ s1 ⟨σ1, H1, I3, q1⟩ => ?_)
    refine assignInOrder_cons (thn (h2.run pins s1 σ1 H1 (.ref h'.objs.size) _ _ I3 rfl q1) fun _ s2 ⟨σ2, H2, I4, q2⟩ => ?_)
    exact assignInOrder_nil ⟨σ2, H2, I4, q2⟩
/-! ### is_crowd -/
def spLetters4 : Sp := fun vs H Q _ => ∃ (p t : Addr) (fr bk cs : List Nat), vs = [.ref p, .ref t, .int 4] ∧ PairAt H p fr bk ∧ H t = some (.tup (cs.map vc)) ∧ cs.length = 4 ∧ (∀ c ∈ cs, c ∈ fr) ∧ ∀ H', Same H H' → Q (.bl true) H'
/-- a crowd: a letter and three of its children, in order -/
def isCr (fr bk : List Nat) (c x y z : Nat) : Prop := c ∈ fr ∧ x ∈ kids fr bk c ∧ y ∈ kids fr bk c ∧ z ∈ kids fr bk c ∧ pos fr x < pos fr y ∧ pos fr y < pos fr z
def spCrowd : Sp := fun vs H Q _ => ∃ (p t : Addr) (fr bk : List Nat) (c x y z : Nat), vs = [.ref p, .ref t] ∧ PairAt H p fr bk ∧ H t = some (.tup [vc c, vc x, vc y, vc z]) ∧ isCr fr bk c x y z ∧ ∀ H', Same H H' → Q (.bl true) H'
section
variable {P : Program} {w : World} {K : PySem.W.Frag} {mg : Str → Option Value} {base : Heap} {f : Addr} {fd : FuncData}
theorem ok_letters4 {k : Nat} (F : Fun K "letters_of" "letters_of" s_letters_of f fd) (M : Mgs mg) (Dis_letter : Df P w K mg base (k + 1) "is_letter" ["value"] spLetter) : FnOk P w K mg base CX0 (k + 2) f fd ["pair", "value", "many"] spLetters4 := by
  refine F.ok (k := k + 1) sc_letters_of (fun vs H Q E h => ?_) (fun cdv A outer s H vs Q E hr h => ?_)
  · obtain ⟨p, t, fr, bk, cs, rfl, _⟩ := h
    rfl
  obtain ⟨p, t, fr, bk, cs, rfl, hp, ht, hl, hcs, q⟩ := h
  refine ⟨_, (pss_cons (ps_if (PW.pt (pw_or (pt_not (pt_val (pe_callB call_isi rfl M.isinstance (by decide +kernel) (pa_cons (pv 1) (pa_cons (pe_bltn (v := .ty "tuple") rfl M.tuple (by decide +kernel) rfl) pa_nil))))) (pw_or1 (pt_cmpR op_ne (pe_callB call_len_seq rfl M.len PySem.boot_len (pa_cons (pv 1) pa_nil)) (pv 2) (nomark _)))))
      (pss_one (ps_ret pe_bl)) pss_nil)
    (pss_one (ps_ret (pe_callB (cr_all rfl) rfl M.all (by decide +kernel) (pa_cons (pe_lc (own := [("item", 3)]) (g := gName 3) (tt := tYes) rfl sc_letters_of.nd (pi_tup (pv 1)) (blkOk_by (N := ["pair", "value", "many", "item"]) (sc := defScope s_letters_of) (by decide +kernel)) (fun _ _ _ _ _ => (pg_name (i := 3) sc_letters_of.nd rfl (.inl rfl))) (fun _ _ _ _ _ => pts_nil) (fun _ _ _ _ _ => (pe_and (pe_call Dis_letter.ok (hr.mono (by omega)) rfl Dis_letter.g Dis_letter.kp Dis_letter.b .nil pass0 (pa_cons (pv 3) pa_nil)) (pe_one (pe_cmpR op_in_sign (pv 3) (pe_ix (show IxR _ (rIxT K) from ix_tup) (pv 0) pe_int (fun _ _ => rfl)) (by rfl)))))) pa_nil))))), ?_⟩
  refine ⟨_, rfl, _, _, _, _, true, rfl, .ty _, .base (.tup ht), kit_ty (by decide +kernel), _, rfl, iteF ?_⟩
  refine ⟨_, rfl, t, _, rfl, .inr (SqT.of ht), _, rfl, rfl, _, rfl, iteNS (by rw [List.length_map, hl]; rfl) ?_⟩
  refine ⟨_, rfl, t, rfl, ⟨_, SqT.of ht⟩, fun D nD => ?_⟩
  have k1 := same_new nD (.lst [])
  refine lc_tup (K := K) (a := t) (xs := cs.map vc) (fun i H' => Same H H' ∧ H' D = some (.lst ((List.replicate (min i 4) true).map V.bl))) ⟨k1, upd_same⟩ (fun i H' _ hq => SqT.of (hq.1 _ _ ht)) (fun i v H1 hv hq => ?_) (fun H1 hq => ?_)
  · obtain ⟨s1, e1⟩ := hq
    have hi := (List.getElem?_eq_some_iff.mp hv).1
    rw [List.length_map, hl] at hi
    obtain ⟨c, rfl, hc⟩ : ∃ c, v = vc c ∧ c ∈ fr := by
      rw [List.getElem?_map] at hv
      obtain ⟨c, hc, e⟩ := Option.map_eq_some_iff.mp hv
      exact ⟨c, e.symm, hcs c (List.mem_of_getElem? hc)⟩
    refine ⟨rfl, kept ?_⟩
    refine ⟨_, rfl, c, rfl, ?_⟩
    rw [letter_ok (hp.lt.2 c hc)]
    refine ⟨_, rfl, iteT ?_⟩
    refine ⟨_, rfl, _, rfl, p, _, _, _, rfl, rfl, SqT.of ((hp.same s1).at'), atI_nat (j := 0) rfl, c, tx fr, rfl, rfl, _, e1, ?_, fun b u e => ?_, ?_⟩
    · rw [List.length_map, List.length_replicate]; exact small1000 (by omega)
    · rw [upd_ne (ne_of_none e nD)]; exact s1 _ _ e
    · rw [upd_same, show decide (c ∈ (tx fr).cps.toList) = true from decide_eq_true hc, show min (i + 1) 4 = min i 4 + 1 by omega, List.replicate_succ', List.map_append]
      rfl
  · obtain ⟨s1, e1⟩ := hq
    rw [List.length_map, hl] at e1
    exact ⟨D, _, rfl, SqL.of e1, q H1 s1⟩
theorem ok_crowd {k : Nat} (F : Fun K "is_crowd" "is_crowd" s_is_crowd f fd) (M : Mgs mg) (Dletters_of : Df P w K mg base (k + 2) "letters_of" ["pair", "value", "many"] spLetters4) (Dchildren_of : Df P w K mg base (k + 2) "children_of" ["pair", "letter"] spKids)
    (Din_order : Df P w K mg base (k + 2) "in_order" ["text", "letters"] (spOrd3 K)) : FnOk P w K mg base CX0 (k + 3) f fd ["pair", "value"] spCrowd := by
  refine F.ok (k := k + 2) sc_is_crowd (fun vs H Q E h => ?_) (fun cdv A outer s H vs Q E hr h => ?_)
  · obtain ⟨p, t, fr, bk, c, x, y, z, rfl, _⟩ := h
    rfl
  obtain ⟨p, t, fr, bk, c, x, y, z, rfl, hp, ht, ⟨hc, hx, hy, hz, o1, o2⟩, q⟩ := h
  have mx := kids_mem hx
  have my := kids_mem hy
  have mz := kids_mem hz
  have n26 := hp.n1
  refine ⟨_, (pss_cons (ps_if (pt_not (pt_val (pe_call Dletters_of.ok (hr.mono (by omega)) rfl Dletters_of.g Dletters_of.kp Dletters_of.b .nil pass0 (pa_cons (pv 0) (pa_cons (pv 1) (pa_cons pe_int pa_nil))))))
      (pss_one (ps_ret pe_bl)) pss_nil)
    (pss_cons (ps_asg (pv 1) (pg_head rfl (pg_name (i := 2) sc_is_crowd.nd rfl (.inl rfl)) (pg_name (i := 3) sc_is_crowd.nd rfl (.inl rfl))))
    (pss_cons (ps_set (i := 4) sc_is_crowd.nd rfl (.inr rfl) (pe_call Dchildren_of.ok (hr.mono (by omega)) rfl Dchildren_of.g Dchildren_of.kp Dchildren_of.b .nil pass0 (pa_cons (pv 0) (pa_cons (pv 2) pa_nil))))
    (pss_one (ps_ret (pe_and (pe_callB (cr_all rfl) rfl M.all (by decide +kernel) (pa_cons (pe_lc (own := [("child", 5)]) (g := gName 5) (tt := tYes) rfl sc_is_crowd.nd (pi_list (pv 3)) (blkOk_by (N := ["pair", "value", "parent", "children", "family", "child"]) (sc := defScope s_is_crowd) (by decide +kernel)) (fun _ _ _ _ _ => (pg_name (i := 5) sc_is_crowd.nd rfl (.inl rfl))) (fun _ _ _ _ _ => pts_nil) (fun _ _ _ _ _ => (pe_cmpR op_in_sign (pv 5) (pv 4) (by rfl)))) pa_nil)) (pe_one (pe_call Din_order.ok (hr.mono (by omega)) rfl Din_order.g Din_order.kp Din_order.b .nil pass0 (pa_cons (pe_ix ix_tup (pv 0) pe_int (fun _ _ => rfl)) (pa_cons (pv 3) pa_nil)))))))))), ?_⟩
  refine ⟨_, rfl, _, rfl, p, t, fr, bk, [c, x, y, z], rfl, hp, ht, rfl, fun d hd => ?_, fun H1 s1 => ?_⟩
  · simp only [List.mem_cons, List.not_mem_nil, or_false] at hd
    rcases hd with rfl | rfl | rfl | rfl <;> assumption
  refine ⟨_, rfl, iteF ?_⟩
  refine ⟨_, rfl, t, _, _, rfl, SqT.of (s1 _ _ ht), (by show 3 ≤ 1000; decide), fun C nC => ?_⟩
  have k2 := same_new nC (.lst [vc x, vc y, vc z])
  have eC := upd_same (H := H1) (a := C) (o := .lst [vc x, vc y, vc z])
  generalize upd H1 C (.lst [vc x, vc y, vc z]) = H2 at k2 eC ⊢
  have s2 := s1.trans k2
  refine ⟨_, rfl, _, rfl, p, fr, bk, c, rfl, hp.same s2, hc, fun H3 s3 => ?_⟩
  refine ⟨_, rfl, ?_⟩
  have eC3 := s3 _ _ eC
  refine ⟨C, rfl, ⟨_, SqL.of eC3⟩, fun D nD => ?_⟩
  have k4 := same_new nD (.lst [])
  refine lc_list (K := K) (a := C) (xs := [vc x, vc y, vc z]) (fun i H' => Same H3 H' ∧ H' D = some (.lst ((List.replicate (min i 3) true).map V.bl))) ⟨k4, upd_same⟩ (fun i H' _ hq => SqL.of (hq.1 _ _ eC3)) (fun i v H4 hv hq => ?_) (fun H4 hq => ?_)
  · obtain ⟨s4, e4⟩ := hq
    have hi : i < 3 := (List.getElem?_eq_some_iff.mp hv).1
    obtain ⟨d, rfl, hd⟩ : ∃ d, v = vc d ∧ d ∈ kids fr bk c := by
      match i, hv with
      | 0, h => cases h; exact ⟨x, rfl, hx⟩
      | 1, h => cases h; exact ⟨y, rfl, hy⟩
      | 2, h => cases h; exact ⟨z, rfl, hz⟩
    refine ⟨rfl, kept ?_⟩
    refine ⟨_, rfl, _, rfl, d, tx (kids fr bk c), rfl, rfl, _, e4, ?_, fun b u e => ?_, ?_⟩
    · rw [List.length_map, List.length_replicate]; exact small1000 (by omega)
    · rw [upd_ne (ne_of_none e nD)]; exact s4 _ _ e
    · rw [upd_same, show decide (d ∈ (tx (kids fr bk c)).cps.toList) = true from decide_eq_true hd, show min (i + 1) 3 = min i 3 + 1 by omega, List.replicate_succ', List.map_append]
      rfl
  · obtain ⟨s4, e4⟩ := hq
    refine ⟨D, _, rfl, SqL.of e4, ?_⟩
    refine ⟨_, rfl, iteT ?_⟩
    have sA := (s2.trans s3).trans s4
    refine ⟨_, rfl, p, _, _, _, rfl, rfl, SqT.of ((hp.same sA).at'), atI_nat (j := 0) rfl, _, rfl, fr, C, x, y, z, rfl, SqL.of (s4 _ _ eC3), mx, my, mz, fun H5 s5 => ?_⟩
    rw [decide_eq_true o1, decide_eq_true o2]
    exact q H5 (sA.trans s5)
end
/-! ### grown, pair_certificate, pair_holds -/
def B.sub : B → List (B × Nat)
  | .nil => []
  | .node l x r => (l, x) :: r.sub
theorem sub_rts : ∀ t : B, t.sub.map (·.2) = t.rts
  | .nil => rfl
  | .node l x r => by
    show x :: r.sub.map (·.2) = x :: r.rts
    rw [sub_rts r]
theorem sub_bs : ∀ t : B, t.sub.map (fun p => B.mk2 p.1.bs p.2) = t.bs
  | .nil => rfl
  | .node l x r => by
    show B.mk2 l.bs x :: r.sub.map (fun p => B.mk2 p.1.bs p.2) = B.mk2 l.bs x :: r.bs
    rw [sub_bs r]
theorem sub_all : ∀ {t : B} {l : B} {x : Nat}, t.pre.Nodup → Nar2 t → (l, x) ∈ t.sub → (B.node l x .nil).pre.Nodup ∧ Nar2 (.node l x .nil) ∧ (B.node l x .nil).size ≤ t.size ∧ ∀ c ∈ (B.node l x .nil).pre, c ∈ t.pre ∧ kf t c = kf (.node l x .nil) c
  | .nil, _, _, _, _, h => by cases h
  | .node a y r, l, x, nd, nr, h => by
    have n := nd_x nd
    rcases List.mem_cons.mp h with e | h
    · cases e
      have nd2 : (B.node a y .nil).pre.Nodup := by
        show (y :: (a.pre ++ [])).Nodup
        rw [List.append_nil]
        exact List.nodup_cons.mpr ⟨n.1, n.2.2.1⟩
      refine ⟨nd2, ⟨nr.1, nr.2.1, trivial⟩, (by show a.size + 1 + 0 ≤ a.size + 1 + r.size; omega), fun c hc => ?_⟩
      have hc : c ∈ y :: (a.pre ++ []) := hc
      rw [List.append_nil] at hc
      refine ⟨?_, ?_⟩
      · rcases List.mem_cons.mp hc with rfl | hc
        · exact List.mem_cons_self
        · exact List.mem_cons_of_mem _ (List.mem_append_left _ hc)
      · rcases List.mem_cons.mp hc with rfl | hc
        · rw [kf_x nd, kf_x nd2]
        · rw [kf_l nd hc, kf_l nd2 hc]
    · obtain ⟨h1, h2, h3, h4⟩ := sub_all n.2.2.2.1 nr.2.2 h
      refine ⟨h1, h2, (by show _ ≤ a.size + 1 + r.size; omega), fun c hc => ?_⟩
      obtain ⟨h5, h6⟩ := h4 c hc
      exact ⟨List.mem_cons_of_mem _ (List.mem_append_right _ h5), by rw [kf_r nd h5, h6]⟩
def BsAt (H : Hp) (us : List V) (bs : List B) : Prop := us.length = bs.length ∧ ∀ (i : Nat) (u : V) (b : B), us[i]? = some u → bs[i]? = some b → BAt H u b
theorem BsAt.nil {H : Hp} : BsAt H [] [] := ⟨rfl, fun i u b (h : ([] : List V)[i]? = some u) => by simp at h⟩
theorem BsAt.same {H H' : Hp} (s : Same H H') {us : List V} {bs : List B} (h : BsAt H us bs) : BsAt H' us bs := ⟨h.1, fun i u b h1 h2 => (h.2 i u b h1 h2).same s⟩
theorem BsAt.snoc {H : Hp} {us : List V} {bs : List B} {u : V} {b : B} (h : BsAt H us bs) (g : BAt H u b) : BsAt H (us ++ [u]) (bs ++ [b]) := by
  refine ⟨by rw [List.length_append, List.length_append, h.1]; rfl, fun i u' b' h1 h2 => ?_⟩
  by_cases hi : i < us.length
  · rw [List.getElem?_append_left hi] at h1
    rw [List.getElem?_append_left (by rw [← h.1]; exact hi)] at h2
    exact h.2 i _ _ h1 h2
  · have := (List.getElem?_eq_some_iff.mp h1).1
    rw [List.length_append] at this
    have : i < us.length + 1 := this
    have e : i = us.length := by omega
    subst e
    rw [List.getElem?_append_right (Nat.le_refl _), Nat.sub_self] at h1
    rw [h.1, List.getElem?_append_right (Nat.le_refl _), Nat.sub_self] at h2
    cases h1
    cases h2
    exact g
theorem BsAt.two {H : Hp} {us : List V} {bs : List B} {x : Nat} (h : BsAt H us bs) (l2 : bs.length ≤ 2) :
    ∃ b0 b1 u0 u1, (us ++ [.non, .non])[0]? = some u0 ∧ (us ++ [.non, .non])[1]? = some u1 ∧ BAt H u0 b0 ∧ BAt H u1 b1 ∧ B.mk2 bs x = .node b0 x b1 := by
  obtain ⟨hl, h⟩ := h
  match us, bs, hl, l2 with
  | [], [], _, _ => exact ⟨_, _, _, _, rfl, rfl, .nil, .nil, rfl⟩
  | [u0], [b0], _, _ => exact ⟨_, _, _, _, rfl, rfl, h 0 _ _ rfl rfl, .nil, rfl⟩
  | [u0, u1], [b0, b1], _, _ => exact ⟨_, _, _, _, rfl, rfl, h 0 _ _ rfl rfl, h 1 _ _ rfl rfl, rfl⟩
  | a :: b :: c :: us', bs, hl, l2 => exact absurd l2 (by rw [← hl, List.length_cons, List.length_cons, List.length_cons]; omega)
def spGrownF (n : Nat) : Sp := fun vs H Q _ => ∃ (d : Addr) (fr bk Ls : List Nat) (l : B) (x : Nat), vs = [.ref d, .str (ch x), .str (tx Ls)] ∧ FamAt H d fr bk ∧ Ls.length ≤ 26 ∧ (B.node l x .nil).pre.Nodup ∧ Nar2 (.node l x .nil) ∧ (B.node l x .nil).size < n ∧
  (∀ c ∈ (B.node l x .nil).pre, c ∈ fr ∧ c ∈ Ls ∧ kids fr bk c = kf (.node l x .nil) c) ∧ ∀ (v : V) (H' : Hp), Same H H' → BAt H' v (B.mk2 l.bs x) → Q v H'
section
variable {P : Program} {w : World} {K : PySem.W.Frag} {mg : Str → Option Value} {base : Heap} {f : Addr} {fd : FuncData}
theorem ok_grownF (F : Fun K "grown" "grown" s_grown f fd) (M : Mgs mg) (b : Binds K fd ["families", "letter", "lefts"] []) (g : mg "grown" = some (.ref f)) : ∀ n : Nat, FnOk P w K mg base CX0 n f fd ["families", "letter", "lefts"] (spGrownF n)
  | 0 => by
    have no : ∀ vs H Q E, ¬ spGrownF 0 vs H Q E := fun vs H Q E h => by
      obtain ⟨d, fr, bk, Ls, l, x, _, _, _, _, _, h1, _⟩ := h
      exact absurd h1 (Nat.not_lt_zero _)
    exact ⟨fun vs H Q E h => absurd h (no vs H Q E), fun A outer s H args us vs Q E _ _ _ _ h => absurd h (no vs H Q E)⟩
  | n + 1 => by
    have Dself : Df P w K mg base n "grown" ["families", "letter", "lefts"] (spGrownF n) := ⟨f, fd, ok_grownF F M b g n, b, F.kp, g⟩
    refine F.ok sc_grown (fun vs H Q E h => ?_) (fun cdv A outer s H vs Q E hr h => ?_)
    · obtain ⟨d, fr, bk, Ls, l, x, rfl, _⟩ := h
      rfl
    obtain ⟨d, fr, bk, Ls, l, x, rfl, hd, hL, nd, nr, hn, hk, q⟩ := h
    have hx := hk x List.mem_cons_self
    have hkx := hx.2.2
    rw [kf_x nd] at hkx
    have nl := (nd_x nd).2.2.1
    have hl2 := nr.1
    have hl2' := hl2
    rw [← sub_rts, List.length_map] at hl2'
    have szl : l.size + 1 + 0 < n + 1 := hn
    have dget : ∀ {H'}, Same H H' → FamAt H' d fr bk := fun s => ⟨s _ _ hd.at'⟩
    refine ⟨_, (pss_cons (ps_setLc (i := 4) (own := [("child", 3)]) (g := gName 3) (tt := tYes) (by rfl) sc_grown.nd rfl rfl (sw_true rfl rfl rfl (by decide +kernel)) (pi_str (pe_dget (Nat.lt_of_le_of_lt (Nat.add_le_add_left (by decide) _) hr.units) (pv 0) (pv 1) (fun _ _ => rfl))) (blkOk_by (N := ["families", "letter", "lefts", "child", "parts", "sides"]) (sc := defScope s_grown) (by decide +kernel)) (fun _ _ _ _ _ => (pg_name (i := 3) sc_grown.nd rfl (.inl rfl))) (fun _ _ _ _ _ => pts_nil) (fun _ _ _ _ _ => (pe_call Dself.ok (hr.mono (by omega)) rfl Dself.g Dself.kp Dself.b .nil pass0 (pa_cons (pv 0) (pa_cons (pv 3) (pa_cons (pv 2) pa_nil))))))
    (pss_cons (ps_if (PW.pt (pw_and (pt_cmpR op_eq (pe_callB call_len_seq rfl M.len PySem.boot_len (pa_cons (pv 4) pa_nil)) pe_int (nomark _)) (pw_and1 (pt_cmpR op_notIn_str (pv 1) (pv 2) (by rfl)))))
      (pss_one (ps_ret (pe_tup (pa_cons pe_non (pa_cons (pv 1) (pa_cons (pe_ix ix_list (pv 4) pe_int (fun _ _ => rfl)) pa_nil)))))) pss_nil)
    (pss_cons (ps_set (i := 5) sc_grown.nd rfl (.inl rfl) (pe_lst (StX.pa_star (pv 4) (pa_cons pe_non (pa_cons pe_non pa_nil)))))
    (pss_one (ps_ret (pe_tup (pa_cons (pe_ix ix_list (pv 5) pe_int (fun _ _ => rfl)) (pa_cons (pv 1) (pa_cons (pe_ix ix_list (pv 5) pe_int (fun _ _ => rfl)) pa_nil))))))))), ?_⟩
    have fg := fam_get fr bk hx.1
    rw [hkx] at fg
    refine ⟨_, rfl, _, rfl, d, _, rfl, .inl ⟨_, .inr (ch x), .inl hd.at', rfl, fg.symm⟩, _, rfl, fun D nD => ?_⟩
    have k1 := same_new nD (.lst [])
    refine lc_text (x := tx l.rts) (fun i H' => Same H H' ∧ ∃ us, H' D = some (.lst us) ∧ BsAt H' us (l.bs.take i)) ⟨k1, [], upd_same, BsAt.nil⟩ (fun i c H1 hc hq => ?_) (fun H1 hq => ?_)
    · obtain ⟨s1, us, e1, bu⟩ := hq
      rw [tx_cps, ← sub_rts, List.getElem?_map] at hc
      obtain ⟨⟨la, c'⟩, hs, rfl⟩ := Option.map_eq_some_iff.mp hc
      have hi := (List.getElem?_eq_some_iff.mp hs).1
      obtain ⟨a1, a2, a3, a4⟩ := sub_all nl nr.2.1 (List.mem_of_getElem? hs)
      have hb : l.bs[i]? = some (B.mk2 la.bs c') := by rw [← sub_bs, List.getElem?_map, hs]; rfl
      refine ⟨rfl, kept ?_⟩
      refine ⟨_, rfl, _, rfl, _, rfl, d, fr, bk, Ls, la, c', rfl, dget s1, hL, a1, a2, by omega, fun c hc => ?_, fun v H2 s2 hv => ?_⟩
      · obtain ⟨a5, a6⟩ := a4 c hc
        obtain ⟨h1, h2, h3⟩ := hk c (List.mem_cons_of_mem _ (List.mem_append_left _ a5))
        exact ⟨h1, h2, by rw [h3, kf_l nd a5, a6]⟩
      · have bl := bu.1
        refine ⟨us, s2 _ _ e1, ?_, fun b u e => ?_, us ++ [v], upd_same, ?_⟩
        · rw [bl, List.length_take]; exact small1000 (by rw [bs_len]; omega)
        · rw [upd_ne (ne_of_none e nD)]; exact s2 _ _ (s1 _ _ e)
        · rw [take_nextG hb]
          have e2 := s2 _ _ e1
          have kp : KeepT H2 (upd H2 D (.lst (us ++ [v]))) := fun c xs e => by rw [upd_ne (ne_of e e2 (by intro z; cases z))]; exact e
          have b2 := (bu.same s2).snoc hv
          exact ⟨b2.1, fun i u b h1 h2 => (b2.2 i u b h1 h2).keep kp⟩
    · obtain ⟨s1, us, e1, bu⟩ := hq
      have tl : (tx l.rts).cps.toList.length = l.bs.length := by rw [tx_cps, bs_len]
      rw [tl, List.take_length] at bu
      have ul := bu.1
      have l2 : l.bs.length ≤ 2 := by rw [bs_len]; exact hl2
      have hocc := (occ_pos hx.2.1).1
      obtain ⟨rest, hocc⟩ := hocc
      have hno : (!(!(Builtin.Str.occurrences (tx Ls) (ch x) 0 (tx Ls).length 1).isEmpty)) = false := by rw [hocc]; rfl
      -- what follows the test
      unfold gName
      refine seq_cutN (fun σ H' => H' = H1 ∧ σ = [some (.ref d), some (.str (ch x)), some (.str (tx Ls)), none, some (.ref D), none]) (fun σ H' hq => ?_) (fun rest => ?_)
      rotate_left
      · refine ⟨_, rfl, D, us, rfl, .inl (SqL.of e1), rfl, _, rfl, ?_⟩
        by_cases h1 : us.length = 1
        · refine iteI (by rw [h1]; rfl) ?_
          refine ⟨_, rfl, _, rfl, _, _, rfl, rfl, _, rfl, ?_⟩
          rw [hno]
          exact iteF (rest _ _ ⟨rfl, rfl⟩)
        · refine iteJ (fun z => h1 (by omega)) ?_
          first
            | exact rest _ _ ⟨rfl, rfl⟩
            | exact iteF (rest _ _ ⟨rfl, rfl⟩)
      · obtain ⟨rfl, rfl⟩ := hq
        refine ⟨_, rfl, D, us, rfl, .inr (SqL.of e1), (by rw [List.length_append]; show us.length + 2 ≤ sizeLine; exact small (by omega)), fun S nS => ?_⟩
        have k2 := same_new nS (.lst (us ++ [.non, .non]))
        have eS := upd_same (H := H') (a := S) (o := .lst (us ++ [.non, .non]))
        generalize upd H' S (.lst (us ++ [.non, .non])) = H2 at k2 eS ⊢
        obtain ⟨b0, b1, u0, u1, g0, g1, h0, h1, hm⟩ := bu.two (x := x) l2
        refine ⟨_, rfl, S, _, _, u0, rfl, rfl, SqL.of eS, atI_nat (j := 0) g0, _, rfl, _, rfl, S, _, _, u1, rfl, rfl, SqL.of eS, atI_nat (j := 1) g1, (by show 3 ≤ sizeLine; decide), fun t nt => ?_⟩
        have k3 := same_new nt (.tup [u0, .str (ch x), u1])
        refine q _ _ (s1.trans (k2.trans k3)) ?_
        rw [hm]
        exact .node upd_same (h0.same (k2.trans k3)) (h1.same (k2.trans k3))
end
theorem ReasonAt.same {H H' : Hp} (s : Same H H') {fr bk : List Nat} {v : V} (h : ReasonAt H fr bk v) : ReasonAt H' fr bk v := by
  cases h with
  | none h => exact .none h
  | root h1 h2 h3 => exact .root h1 h2 (s _ _ h3)
  | triple h0 h1 hm h2 h3 => exact .triple h0 h1 hm (s _ _ h2) ⟨s _ _ h3.at'⟩
  | crowd h0 h1 h2 h3 hf h4 h5 => exact .crowd h0 h1 h2 h3 hf (s _ _ h4) (s _ _ h5)
/-- a tree's forest from the pair, by choice -/
noncomputable def pick (fr bk : List Nat) : B × Nat := by
  classical
  exact if h : ∃ q : B × Nat, fr = (B.node q.1 q.2 .nil).pre ∧ bk = (B.node q.1 q.2 .nil).mid ∧ Nar2 (.node q.1 q.2 .nil) then Classical.choose h else (.nil, 0)
theorem pick_good {fr bk : List Nat} (nd : fr.Nodup) (pm : bk.Perm fr) (n0 : 0 < fr.length) (hb : badB fr bk = false) : fr = (B.node (pick fr bk).1 (pick fr bk).2 .nil).pre ∧ bk = (B.node (pick fr bk).1 (pick fr bk).2 .nil).mid ∧ Nar2 (.node (pick fr bk).1 (pick fr bk).2 .nil) := by
  have h : ∃ q : B × Nat, fr = (B.node q.1 q.2 .nil).pre ∧ bk = (B.node q.1 q.2 .nil).mid ∧ Nar2 (.node q.1 q.2 .nil) := by
    obtain ⟨l, x, h⟩ := good_pair nd pm n0 hb
    exact ⟨(l, x), h⟩
  have e : pick fr bk = Classical.choose h := by unfold pick; rw [dif_pos h]
  rw [e]
  exact Classical.choose_spec h
/-- a certificate of a pair -/
inductive CertAt (H : Hp) (fr bk : List Nat) : V → Prop
  | reason {r : Addr} : badB fr bk = true → ReasonAt H fr bk (.ref r) → CertAt H fr bk (.ref r)
  | tree {r : Addr} {u : V} {l : B} {x : Nat} : badB fr bk = false → (l, x) = pick fr bk → fr = (B.node l x .nil).pre → bk = (B.node l x .nil).mid → Nar2 (.node l x .nil) → H r = some (.tup [.str "tree", u]) → BAt H u (B.mk2 l.bs x) → CertAt H fr bk (.ref r)
theorem CertAt.same {H H' : Hp} (s : Same H H') {fr bk : List Nat} {v : V} (h : CertAt H fr bk v) : CertAt H' fr bk v := by
  cases h with
  | reason h1 h2 => exact .reason h1 (h2.same s)
  | tree h0 hp h1 h2 h3 h4 h5 => exact .tree h0 hp h1 h2 h3 (s _ _ h4) (h5.same s)
theorem mk2_walks {l : B} {x : Nat} (h : Nar2 (.node l x .nil)) : (B.mk2 l.bs x).pre = (B.node l x .nil).pre ∧ (B.mk2 l.bs x).post = (B.node l x .nil).mid := by
  have h1 := bs_pre h
  have h2 := bs_post h
  refine ⟨?_, ?_⟩
  · rw [← h1]
    show _ = (B.mk2 l.bs x).pre ++ []
    rw [List.append_nil]
  · rw [← h2]
    show _ = (B.mk2 l.bs x).post ++ []
    rw [List.append_nil]
theorem mk2_ne (L : List B) (x : Nat) : B.mk2 L x ≠ .nil := by
  match L with
  | [] => exact fun z => nomatch z
  | [_] => exact fun z => nomatch z
  | _ :: _ :: _ => exact fun z => nomatch z
theorem kids_sub (fr bk : List Nat) (c : Nat) : (kids fr bk c).Sublist fr := List.filter_sublist.trans List.filter_sublist
theorem crowd_of {fr bk : List Nat} (nd : fr.Nodup) {c : Nat} (hc : c ∈ fr) (h : 2 < (kids fr bk c).length) : ∃ x y z, (kids fr bk c).take 3 = [x, y, z] ∧ isCr fr bk c x y z := by
  have hs := kids_sub fr bk c
  unfold isCr
  generalize kids fr bk c = ks at h hs
  match ks, h with
  | x :: y :: z :: r, _ =>
    refine ⟨x, y, z, rfl, hc, List.mem_cons_self, List.mem_cons_of_mem _ List.mem_cons_self, List.mem_cons_of_mem _ (List.mem_cons_of_mem _ List.mem_cons_self), pos_sub nd ?_, pos_sub nd ?_⟩
    · exact (((List.nil_sublist (z :: r)).cons_cons y).cons_cons x).trans hs
    · exact ((((List.nil_sublist r).cons_cons z).cons_cons y).cons x).trans hs
theorem strOk_tx {l : List Nat} (h : ∀ c ∈ l, 97 ≤ c ∧ c ≤ 122) : PyData.strOk (tx l) = true := by
  unfold PyData.strOk
  rw [← Array.all_toList, tx_cps, List.all_eq_true]
  intro c hc
  have := h c hc
  exact decide_eq_true (by omega)
theorem pair_shaped {H : Hp} {p : Addr} {fr bk : List Nat} (h : PairAt H p fr bk) : SeqAt.shaped (.tuple [.str (tx fr), .str (tx bk)]) = true := by
  have h1 := strOk_tx h.lt.2
  have h2 := strOk_tx (l := bk) (fun c hc => h.lt.2 c (h.pm.mem_iff.mp hc))
  unfold SeqAt.shaped
  simp [PyData.canLay0, PyData.canLayAll0, PyData.depth, PyData.depthAll, h1, h2]
def spCert : Sp := fun vs H Q _ => ∃ (p : Addr) (fr bk : List Nat), vs = [.ref p] ∧ PairAt H p fr bk ∧ fr.length ≤ 12 ∧ ∀ (v : V) (H' : Hp), Same H H' → CertAt H' fr bk v → Q v H'
def spHoldsP : Sp := fun vs H Q _ => ∃ (p : Addr) (fr bk : List Nat) (v : V), vs = [.ref p, v] ∧ PairAt H p fr bk ∧ fr.length ≤ 12 ∧ CertAt H fr bk v ∧ ∀ H', Same H H' → Q (.bl true) H'
section
variable {P : Program} {w : World} {K : PySem.W.Frag} {mg : Str → Option Value} {base : Heap} {f : Addr} {fd : FuncData}
theorem ok_cert (F : Fun K "pair_certificate" "pair_certificate" s_pair_certificate f fd) (Dreason_against : Df P w K mg base 5 "reason_against" ["pair"] spReason) (Dfamilies_of : Df P w K mg base 5 "families_of" ["pair"] spFam)
    (Dgrown : Df P w K mg base 14 "grown" ["families", "letter", "lefts"] (spGrownF 14)) : FnOk P w K mg base CX0 15 f fd ["pair"] spCert := by
  refine F.ok (k := 14) sc_pair_certificate (fun vs H Q E h => ?_) (fun cdv A outer s H vs Q E hr h => ?_)
  · obtain ⟨p, fr, bk, rfl, _⟩ := h
    rfl
  obtain ⟨p, fr, bk, rfl, hp, h12, q⟩ := h
  refine ⟨_, (pss_cons (ps_set (i := 1) sc_pair_certificate.nd rfl (.inl rfl) (pe_call Dreason_against.ok (hr.mono (by omega)) rfl Dreason_against.g Dreason_against.kp Dreason_against.b .nil pass0 (pa_cons (pv 0) pa_nil)))
    (pss_cons (ps_if (pt_cmpR op_notN (pv 1) pe_non (nomark _))
      (pss_one (ps_ret (pv 1))) pss_nil)
    (pss_one (ps_ret (pe_tup (pa_cons pe_str (pa_cons (pe_call Dgrown.ok (hr.mono (by omega)) rfl Dgrown.g Dgrown.kp Dgrown.b .nil pass0 (pa_cons (pe_call Dfamilies_of.ok (hr.mono (by omega)) rfl Dfamilies_of.g Dfamilies_of.kp Dfamilies_of.b .nil pass0 (pa_cons (pv 0) pa_nil)) (pa_cons (pe_ix ix_str (pe_ix ix_tup (pv 0) pe_int (fun _ _ => rfl)) pe_int (fun _ _ => rfl)) (pa_cons (pe_ix ix_tup (pv 0) pe_int (fun _ _ => rfl)) pa_nil)))) pa_nil))))))), ?_⟩
  refine ⟨_, rfl, p, fr, bk, rfl, hp, fun v H1 s1 hv => ?_⟩
  rcases hv.bad with ⟨hb, rfl⟩ | ⟨hb, r, rfl⟩
  · refine ⟨_, rfl, rfl, _, rfl, iteF ?_⟩
    obtain ⟨l, x, hpk, e1, e2, hn⟩ : ∃ l x, (l, x) = pick fr bk ∧ fr = (B.node l x .nil).pre ∧ bk = (B.node l x .nil).mid ∧ Nar2 (.node l x .nil) := ⟨_, _, rfl, pick_good hp.lt.1 hp.pm hp.n0 hb⟩
    have nd := hp.lt.1
    have hp1 := hp.same s1
    have sz : (B.node l x .nil).size ≤ 12 := by rw [← B.pre_len, ← e1]; exact h12
    have g0 : fr[0]? = some x := by rw [e1]; rfl
    refine ⟨_, rfl, p, fr, bk, rfl, hp1, fun H2 d s2 hd => ?_⟩
    have hp2 := hp1.same s2
    have lz : (tx fr).length ≤ sizeLine := small (by rw [tx_len]; omega)
    refine ⟨_, rfl, p, _, _, _, rfl, rfl, SqT.of hp2.at', atI_nat (j := 0) rfl, _, _, _, rfl, rfl, lz, atI_nat (j := 0) g0, _, rfl, p, _, _, _, rfl, rfl, SqT.of hp2.at', atI_nat (j := 0) rfl, ?_⟩
    refine ⟨d, fr, bk, fr, l, x, rfl, hd, by omega, by rw [← e1]; exact nd, hn, by omega, fun c hc => ?_, fun v H3 s3 hv => ?_⟩
    · have hc' : c ∈ fr := by rw [e1]; exact hc
      exact ⟨hc', hc', by rw [e1, e2]⟩
    · refine ⟨(by show 2 ≤ sizeLine; decide), fun t nt => ?_⟩
      have k4 := same_new nt (.tup [.str "tree", v])
      exact q _ _ ((s1.trans s2).trans (s3.trans k4)) (.tree hb hpk e1 e2 hn upd_same (hv.same k4))
  · refine ⟨_, rfl, rfl, _, rfl, iteT ?_⟩
    exact ⟨_, rfl, q _ _ s1 (.reason hb hv)⟩
theorem ok_holdsP (F : Fun K "pair_holds" "pair_holds" s_pair_holds f fd) (Dis_tagged : Df P w K mg base 1 "is_tagged" ["value"] spTagged) (Dis_tree : Df P w K mg base 3 "is_tree" ["value"] spIsTree) (Dpair_of : Df P w K mg base 64 "pair_of" ["tree"] spPairOf)
    (Dhas_wrong_root : Df P w K mg base 4 "has_wrong_root" ["pair"] spWroot) (Dis_triple : Df P w K mg base 3 "is_triple" ["pair", "value"] spTriple) (Dis_crowd : Df P w K mg base 3 "is_crowd" ["pair", "value"] spCrowd) :
    FnOk P w K mg base CX0 65 f fd ["pair", "value"] spHoldsP := by
  refine F.ok (k := 64) sc_pair_holds (fun vs H Q E h => ?_) (fun cdv A outer s H vs Q E hr h => ?_)
  · obtain ⟨p, fr, bk, v, rfl, _⟩ := h
    rfl
  obtain ⟨p, fr, bk, v, rfl, hp, h12, hc, q⟩ := h
  refine ⟨_, (pss_cons (ps_if (pt_not (pt_val (pe_call Dis_tagged.ok (hr.mono (by omega)) rfl Dis_tagged.g Dis_tagged.kp Dis_tagged.b .nil pass0 (pa_cons (pv 1) pa_nil))))
      (pss_one (ps_ret pe_bl)) pss_nil)
    (pss_cons (ps_asg (pv 1) (pg_tup rfl (pgs_cons (pg_name (i := 2) sc_pair_holds.nd rfl (.inl rfl)) (pgs_cons (pg_name (i := 3) sc_pair_holds.nd rfl (.inl rfl)) pgs_nil))))
    (pss_cons (ps_if (pt_cmpR op_eq (pv 2) pe_str (nomark _))
      (pss_one (ps_ret (pe_and (pe_call Dis_tree.ok (hr.mono (by omega)) rfl Dis_tree.g Dis_tree.kp Dis_tree.b .nil pass0 (pa_cons (pv 3) pa_nil)) (pe_one (pe_cmpR (op_eqD hr.units) (pe_call Dpair_of.ok (hr.mono (by omega)) rfl Dpair_of.g Dpair_of.kp Dpair_of.b .nil pass0 (pa_cons (pv 3) pa_nil)) (pv 0) (nomark _)))))) pss_nil)
    (pss_cons (ps_if (pt_cmpR op_eq (pv 2) pe_str (nomark _))
      (pss_one (ps_ret (pe_and (pe_call Dhas_wrong_root.ok (hr.mono (by omega)) rfl Dhas_wrong_root.g Dhas_wrong_root.kp Dhas_wrong_root.b .nil pass0 (pa_cons (pv 0) pa_nil)) (pe_one (pe_cmpR op_eq (pv 3) (pe_ix ix_str (pe_ix ix_tup (pv 0) pe_int (fun _ _ => rfl)) pe_int (fun _ _ => rfl)) (nomark _)))))) pss_nil)
    (pss_cons (ps_if (pt_cmpR op_eq (pv 2) pe_str (nomark _))
      (pss_one (ps_ret (pe_call Dis_triple.ok (hr.mono (by omega)) rfl Dis_triple.g Dis_triple.kp Dis_triple.b .nil pass0 (pa_cons (pv 0) (pa_cons (pv 3) pa_nil))))) pss_nil)
    (pss_one (ps_ret (pe_and (pe_cmpR op_eq (pv 2) pe_str (nomark _)) (pe_one (pe_call Dis_crowd.ok (hr.mono (by omega)) rfl Dis_crowd.g Dis_crowd.kp Dis_crowd.b .nil pass0 (pa_cons (pv 0) (pa_cons (pv 3) pa_nil)))))))))))), ?_⟩
  have lz : (tx fr).length ≤ sizeLine := small (by rw [tx_len]; omega)
  cases hc with
  | @tree r u l x hb hpk e1 e2 hn er hu =>
    refine ⟨_, rfl, r, _, _, rfl, er, _, rfl, iteF ?_⟩
    refine ⟨_, rfl, r, _, rfl, SqT.of er, rfl, _, _, rfl, _, _, rfl, rfl, ?_⟩
    refine ⟨_, rfl, rfl, _, rfl, iteS rfl ?_⟩
    obtain ⟨m1, m2⟩ := mk2_walks hn
    have sz : (B.mk2 l.bs x).size ≤ 12 := by rw [← B.pre_len, m1, ← e1]; exact h12
    refine ⟨_, rfl, u, _, rfl, hu, mk2_ne _ _, fun c hc => hp.lt.2 c (by rw [e1, ← m1]; exact hc), sz, fun H1 s1 => ⟨_, rfl, iteT ?_⟩⟩
    refine ⟨_, rfl, u, _, rfl, hu.same s1, by omega, fun d H2 s2 ed => ?_⟩
    have s12 := s1.trans s2
    refine ⟨_, rfl, .tuple [.str (tx fr), .str (tx bk)], .tuple [.str (tx fr), .str (tx bk)], ?_, .tup (SqT.of (hp.same s12).at') (.cons (.str _) (.cons (.str _) .nil)), pair_shaped hp, pair_shaped hp, ?_⟩
    · rw [m1, m2, ← e1, ← e2] at ed
      exact .tup (SqT.of ed) (.cons (.str _) (.cons (.str _) .nil))
    · have : PyData.eqv (.tuple [.str (tx fr), .str (tx bk)]) (.tuple [.str (tx fr), .str (tx bk)]) = true := by simp [PyData.eqv, PyData.eqvAll]
      rw [this]
      exact q _ s12
  | @reason r hb hr' =>
    cases hr' with
    | root hw h0 er =>
      refine ⟨_, rfl, r, _, _, rfl, er, _, rfl, iteF ?_⟩
      refine ⟨_, rfl, r, _, rfl, SqT.of er, rfl, _, _, rfl, _, _, rfl, rfl, ?_⟩
      refine ⟨_, rfl, rfl, _, rfl, iteR (by decide +kernel) ?_⟩
      refine ⟨_, rfl, rfl, _, rfl, iteS rfl ?_⟩
      refine ⟨_, rfl, p, fr, bk, rfl, hp, _, rfl, ?_⟩
      rw [hw]
      refine iteT ?_
      refine ⟨_, rfl, _, rfl, p, _, _, _, rfl, rfl, SqT.of hp.at', atI_nat (j := 0) rfl, _, _, _, rfl, rfl, lz, atI_nat (j := 0) h0, rfl, ?_⟩
      rw [decide_eq_true rfl]
      exact q _ (Same.refl _)
    | @triple _ t x y z hw ht hmn er et =>
      refine ⟨_, rfl, r, _, _, rfl, er, _, rfl, iteF ?_⟩
      refine ⟨_, rfl, r, _, rfl, SqT.of er, rfl, _, _, rfl, _, _, rfl, rfl, ?_⟩
      refine ⟨_, rfl, rfl, _, rfl, iteR (by decide +kernel) ?_⟩
      refine ⟨_, rfl, rfl, _, rfl, iteR (by decide +kernel) ?_⟩
      refine ⟨_, rfl, rfl, _, rfl, iteS rfl ?_⟩
      refine ⟨_, rfl, _, rfl, p, t, fr, bk, x, y, z, rfl, hp, et, ht.1, ht.2.1, ht.2.2.1, fun H1 s1 => ?_⟩
      rw [ht.2.2.2]
      exact q _ s1
    | @crowd _ t c hw htb hc h2 hfst er et =>
      obtain ⟨x, y, z, ek, hcr⟩ := crowd_of hp.lt.1 hc h2
      rw [ek] at et
      refine ⟨_, rfl, r, _, _, rfl, er, _, rfl, iteF ?_⟩
      refine ⟨_, rfl, r, _, rfl, SqT.of er, rfl, _, _, rfl, _, _, rfl, rfl, ?_⟩
      refine ⟨_, rfl, rfl, _, rfl, iteR (by decide +kernel) ?_⟩
      refine ⟨_, rfl, rfl, _, rfl, iteR (by decide +kernel) ?_⟩
      refine ⟨_, rfl, rfl, _, rfl, iteR (by decide +kernel) ?_⟩
      refine ⟨_, rfl, rfl, _, rfl, iteS rfl ?_⟩
      refine ⟨_, rfl, _, rfl, p, t, fr, bk, c, x, y, z, rfl, hp, et, hcr, fun H1 s1 => ?_⟩
      exact q _ s1
end
/-! ### _law_triples, _law_crowds, _law_word -/
/-- tuples of letters -/
inductive WsAt (H : Hp) : List V → List (List Nat) → Prop
  | nil : WsAt H [] []
  | snoc {us : List V} {css : List (List Nat)} {t : Addr} {cs : List Nat} : WsAt H us css → H t = some (.tup (cs.map vc)) → WsAt H (us ++ [.ref t]) (css ++ [cs])
theorem WsAt.keep {H H' : Hp} (k : KeepT H H') {us : List V} {css : List (List Nat)} (h : WsAt H us css) : WsAt H' us css := by
  induction h with
  | nil => exact .nil
  | snoc _ e ih => exact .snoc ih (k _ _ e)
theorem WsAt.len {H : Hp} {us : List V} {css : List (List Nat)} (h : WsAt H us css) : us.length = css.length := by
  induction h with
  | nil => rfl
  | snoc _ _ ih => rw [List.length_append, List.length_append, ih]; rfl
theorem WsAt.get {H : Hp} {us : List V} {css : List (List Nat)} (h : WsAt H us css) : ∀ {i : Nat} {u : V}, us[i]? = some u → ∃ t cs, u = .ref t ∧ css[i]? = some cs ∧ H t = some (.tup (cs.map vc)) := by
  induction h with
  | nil => intro i u e; cases e
  | @snoc us css t cs h e ih =>
    intro i u hu
    by_cases hi : i < us.length
    · rw [List.getElem?_append_left hi] at hu
      obtain ⟨t', cs', h1, h2, h3⟩ := ih hu
      exact ⟨t', cs', h1, by rw [List.getElem?_append_left (by rw [← h.len]; exact hi)]; exact h2, h3⟩
    · have hl := h.len
      have hi2 : i = us.length := by
        have := (List.getElem?_eq_some_iff.mp hu).1
        rw [List.length_append] at this
        have : i < us.length + 1 := this
        omega
      subst hi2
      rw [List.getElem?_append_right (Nat.le_refl _), Nat.sub_self] at hu
      cases hu
      exact ⟨t, cs, rfl, by rw [hl, List.getElem?_append_right (Nat.le_refl _), Nat.sub_self]; rfl, e⟩
theorem WsAt.app {H : Hp} {us vs : List V} {css dss : List (List Nat)} (h : WsAt H us css) (g : WsAt H vs dss) : WsAt H (us ++ vs) (css ++ dss) := by
  induction g with
  | nil => rw [List.append_nil, List.append_nil]; exact h
  | snoc _ e ih => rw [← List.append_assoc, ← List.append_assoc]; exact .snoc ih e
theorem WsAt.empty {H : Hp} {us : List V} {css : List (List Nat)} (h : WsAt H us css) : us = [] ↔ css = [] := by
  rw [← List.length_eq_zero_iff, ← List.length_eq_zero_iff, h.len]
structure LtIn (H : Hp) (D : Addr) (fr bk : List Nat) (n : Nat) (S : Nat → Nat → Nat → Prop) (H' : Hp) : Prop where
  same : Same H H'
  ex : ∃ us css, H' D = some (.lst us) ∧ WsAt H' us css ∧ us.length ≤ n ∧ (∀ cs ∈ css, cs.length = 3 ∧ triB fr bk = true) ∧ ∀ x y z, isTri fr bk (x, y, z) → S (pos fr x) (pos fr y) (pos fr z) → [x, y, z] ∈ css
theorem LtIn.mono {H : Hp} {D : Addr} {fr bk : List Nat} {n m : Nat} {S T : Nat → Nat → Nat → Prop} {H' : Hp} (h : LtIn H D fr bk n S H') (l : n ≤ m) (st : ∀ x y z, x < y → y < z → z < fr.length → T x y z → S x y z) : LtIn H D fr bk m T H' := by
  obtain ⟨s, us, css, e, w, a, b, c⟩ := h
  refine ⟨s, us, css, e, w, Nat.le_trans a l, b, fun x y z ht hT => c x y z ht ?_⟩
  have h1 := tri_pos ht.2.2.2
  exact st _ _ _ h1.1 h1.2 (pos_lt ht.2.2.1) hT
def spWs (n : Nat) (B : List Nat → List Nat → Bool) (C : List Nat → List Nat → List Nat → Prop) : Sp := fun vs H Q _ => ∃ (p : Addr) (fr bk : List Nat), vs = [.ref p] ∧ PairAt H p fr bk ∧
  ∀ (D : Addr) (us : List V) (css : List (List Nat)) (H' : Hp), Same H H' → H' D = some (.lst us) → WsAt H' us css → us.length ≤ 1000000 → (∀ cs ∈ css, cs.length = n) → (∀ cs, C fr bk cs → cs ∈ css) → us.isEmpty = !B fr bk → Q (.ref D) H'
def Ct (fr bk cs : List Nat) : Prop := ∃ x y z, cs = [x, y, z] ∧ isTri fr bk (x, y, z)
def Cc (fr bk cs : List Nat) : Prop := ∃ c ∈ fr, 2 < (kids fr bk c).length ∧ cs = c :: (kids fr bk c).take 3
theorem empty_of {us : List V} {b : Bool} (h1 : us ≠ [] → b = true) (h2 : b = true → us ≠ []) : us.isEmpty = !b := by
  cases us with
  | nil =>
    cases b with
    | true => exact absurd rfl (h2 rfl)
    | false => rfl
  | cons u us => rw [h1 (by simp)]; rfl
section
variable {P : Program} {w : World} {K : PySem.W.Frag} {mg : Str → Option Value} {base : Heap} {f : Addr} {fd : FuncData}
theorem ok_lawTriples {k : Nat} (F : Fun K "_law_triples" "_law_triples" s__law_triples f fd) (M : Mgs mg) : FnOk P w K mg base CX0 (k + 1) f fd ["_law_pair_here"] (spWs 3 triB Ct) := by
  refine F.ok sc__law_triples (fun vs H Q E h => ?_) (fun cdv A outer s H vs Q E hr h => ?_)
  · obtain ⟨p, fr, bk, rfl, _⟩ := h
    rfl
  obtain ⟨p, fr, bk, rfl, hp, q⟩ := h
  have n26 := hp.n1
  have nd := hp.lt.1
  have lz : (tx fr).length ≤ sizeLine := small (by rw [tx_len]; omega)
  refine ⟨_, (pss_cons (ps_par3 (i := 2) (j := 3) (l := 4) (by rfl) sc__law_triples.nd rfl rfl rfl (by decide) (by decide) (by decide) rfl rfl rfl (pa_cons (pe_lst pa_nil) (pa_cons (pe_ix ix_tup (pv 0) pe_int (fun _ _ => rfl)) (pa_cons (pe_lc (own := [("_law_letter", 1)]) (g := gName 1) (tt := tYes) rfl sc__law_triples.nd (pi_str (pe_ix ix_tup (pv 0) pe_int (fun _ _ => rfl))) (blkOk_by (N := ["_law_pair_here", "_law_letter", "_law_found", "_law_front_here", "_law_places", "_law_i", "_law_j", "_law_k"]) (sc := defScope s__law_triples) (by decide +kernel)) (fun _ _ _ _ _ => (pg_name (i := 1) sc__law_triples.nd rfl (.inl rfl))) (fun _ _ _ _ _ => pts_nil) (fun _ _ _ _ _ => (show PE _ _ (tBM K _ _ _ _) from pe_bm PySem.F.plainAttrs_str PySem.F.slot_str_find PySem.F.type_str_find (show MtR _ "str.find" rSFind from mt_findC) (pe_ix (show IxR _ (rIxT K) from ix_tup) (pv 0) pe_int (fun _ _ => rfl)) (pa_cons (pv 1) pa_nil)))) pa_nil))) (by rfl))
    (pss_cons (ps_for PassesOwn.never rfl (pi_range1 rfl M.range (pa_cons (pe_callB call_len_str rfl M.len PySem.boot_len (pa_cons (pv 3) pa_nil)) pa_nil)) (pg_name (i := 5) sc__law_triples.nd rfl (.inl rfl))
      (pss_one (ps_for PassesOwn.never rfl (pi_range2 rfl M.range (pa_cons (pe_op op_add (pv 5) pe_int) (pa_cons (pe_callB call_len_str rfl M.len PySem.boot_len (pa_cons (pv 3) pa_nil)) pa_nil))) (pg_name (i := 6) sc__law_triples.nd rfl (.inl rfl))
      (pss_one (ps_for PassesOwn.never rfl (pi_range2 rfl M.range (pa_cons (pe_op op_add (pv 6) pe_int) (pa_cons (pe_callB call_len_str rfl M.len PySem.boot_len (pa_cons (pv 3) pa_nil)) pa_nil))) (pg_name (i := 7) sc__law_triples.nd rfl (.inl rfl))
      (pss_one (ps_if (pt_chain op_lt op_lt (pe_ix ix_list (pv 4) (pv 7) (fun _ _ => rfl)) (pe_ix ix_list (pv 4) (pv 5) (fun _ _ => rfl)) (pe_ix ix_list (pv 4) (pv 6) (fun _ _ => rfl)))
      (pss_one (ps_expr (pe_bm PySem.F.plainAttrs_list PySem.F.slot_list_append PySem.F.type_list_append mt_append (pv 2) (pa_cons (pe_tup (pa_cons (pe_ix ix_str (pv 3) (pv 5) (fun _ _ => rfl)) (pa_cons (pe_ix ix_str (pv 3) (pv 6) (fun _ _ => rfl)) (pa_cons (pe_ix ix_str (pv 3) (pv 7) (fun _ _ => rfl)) pa_nil)))) pa_nil)))) pss_nil)))))))
    (pss_one (ps_ret (pv 2))))), ?_⟩
  refine ⟨(by show 0 ≤ sizeLine; decide), fun D nD => ?_⟩
  have k1 := same_new nD (.lst [])
  have eD := upd_same (H := H) (a := D) (o := .lst [])
  generalize upd H D (.lst []) = H1 at k1 eD ⊢
  have hp1 := hp.same k1
  refine ⟨_, rfl, p, _, _, _, rfl, rfl, SqT.of hp1.at', atI_nat (j := 0) rfl, _, rfl, p, _, _, _, rfl, rfl, SqT.of hp1.at', atI_nat (j := 0) rfl, _, rfl, fun G nG => ?_⟩
  have nGD : D ≠ G := ne_of_none eD nG
  refine lc_text (x := tx fr) (fun i H' => Same H1 H' ∧ H' G = some (.lst (((fr.take i).map fun c => (pos bk c : Int)).map V.int))) ⟨same_new nG _, upd_same⟩ (fun i c H2 hc hq => ?_) (fun H2 hq => ?_)
  · obtain ⟨s2, e2⟩ := hq
    rw [tx_cps] at hc
    have hi := (List.getElem?_eq_some_iff.mp hc).1
    refine ⟨rfl, kept ?_⟩
    refine ⟨_, rfl, p, _, _, _, rfl, rfl, SqT.of (hp1.same s2).at', atI_nat (j := 1) rfl, rfl, _, rfl, bk, c, rfl, rfl, hp.mem (List.mem_of_getElem? hc), _, e2, ?_, fun b u e => ?_, ?_⟩
    · rw [List.length_map, List.length_map, List.length_take]; exact small1000 (by omega)
    · rw [upd_ne (ne_of_none e nG)]; exact s2 _ _ e
    · rw [upd_same, take_nextG hc, List.map_append, List.map_append]; rfl
  obtain ⟨s2, e2⟩ := hq
  rw [tx_cps, List.take_length] at e2
  have eD2 := s2 _ _ eD
  have s02 := k1.trans s2
  have hp2 := hp.same s02
  refine ⟨_, _, _, rfl, ?_⟩
  have gp : ∀ {i c : Nat}, fr[i]? = some c → ((fr.map fun c => (pos bk c : Int)).map V.int)[i]? = some (V.int (pos bk c : Int)) := fun {i c} h => by
    rw [List.getElem?_map, List.getElem?_map, h]; rfl
  refine ⟨_, rfl, _, rfl, lz, _, rfl, by rw [tx_len]; omega, by rw [tx_len]; omega, ?_⟩
  rw [tx_len, Int.toNat_natCast]
  refine for_range (lo := 0) (n := fr.length) (fun i σ H' => ∃ o1 o5 o6 o7, σ = [some (.ref p), o1, some (.ref D), some (.str (tx fr)), some (.ref G), o5, o6, o7] ∧ LtIn H D fr bk (900 * i) (fun a _ _ => a < i) H' ∧ H' G = some (.lst ((fr.map fun c => (pos bk c : Int)).map V.int)))
    ⟨none, none, none, none, rfl, ⟨s02, [], [], eD2, .nil, Nat.le_refl _, fun cs h => absurd h (by simp), fun x y z _ h => absurd h (Nat.not_lt_zero _)⟩, e2⟩ (fun i σ H3 hi hq => ?_) (fun σ H3 hq => ?_)
  · obtain ⟨o1, o5, o6, o7, rfl, L3, eG3⟩ := hq
    rw [show (0 : Int) + (i : Int) = ((i : Nat) : Int) by omega]
    refine ⟨_, rfl, _, _, rfl, rfl, _, rfl, _, rfl, lz, _, _, rfl, ⟨by omega, by omega, by rw [tx_len]; omega, by rw [tx_len]; omega⟩, ?_⟩
    rw [tx_len, show ((fr.length : Int) - ((i : Int) + 1)).toNat = fr.length - (i + 1) by omega]
    refine for_range (lo := (i : Int) + 1) (n := fr.length - (i + 1)) (fun j σ H' => ∃ o6 o7, σ = [some (.ref p), o1, some (.ref D), some (.str (tx fr)), some (.ref G), some (.int (i : Int)), o6, o7] ∧ LtIn H D fr bk (900 * i + 30 * j) (fun a b _ => a < i ∨ (a = i ∧ b < i + 1 + j)) H' ∧ H' G = some (.lst ((fr.map fun c => (pos bk c : Int)).map V.int)))
      ⟨_, _, rfl, L3.mono (by omega) (fun x y z _ _ _ h => by omega), eG3⟩ (fun j σ H4 hj hq => ?_) (fun σ H4 hq => ?_)
    · obtain ⟨o6, o7, rfl, L4, eG4⟩ := hq
      rw [show (i : Int) + 1 + (j : Int) = ((i + 1 + j : Nat) : Int) by omega]
      generalize hJ : i + 1 + j = J
      have hJn : J < fr.length := by omega
      refine ⟨_, rfl, _, _, rfl, rfl, _, rfl, _, rfl, lz, _, _, rfl, ⟨by omega, by omega, by rw [tx_len]; omega, by rw [tx_len]; omega⟩, ?_⟩
      rw [tx_len, show ((fr.length : Int) - ((J : Int) + 1)).toNat = fr.length - (J + 1) by omega]
      refine for_range (lo := (J : Int) + 1) (n := fr.length - (J + 1)) (fun l σ H' => ∃ o7, σ = [some (.ref p), o1, some (.ref D), some (.str (tx fr)), some (.ref G), some (.int (i : Int)), some (.int (J : Int)), o7] ∧ LtIn H D fr bk (900 * i + 30 * j + l) (fun a b c => a < i ∨ (a = i ∧ (b < J ∨ (b = J ∧ c < J + 1 + l)))) H' ∧ H' G = some (.lst ((fr.map fun c => (pos bk c : Int)).map V.int)))
        ⟨_, rfl, L4.mono (by omega) (fun x y z _ _ _ h => by omega), eG4⟩ (fun l σ H5 hl hq => ?_) (fun σ H5 hq => ?_)
      · obtain ⟨o7, rfl, L5, eG5⟩ := hq
        rw [show (J : Int) + 1 + (l : Int) = ((J + 1 + l : Nat) : Int) by omega]
        generalize hZ : J + 1 + l = Z
        have hZn : Z < fr.length := by omega
        have gi := List.getElem?_eq_getElem (l := fr) hi
        have gj := List.getElem?_eq_getElem (l := fr) hJn
        have gz := List.getElem?_eq_getElem (l := fr) hZn
        have pi := pos_at nd gi
        have pj := pos_at nd gj
        have pz := pos_at nd gz
        have mi := List.mem_of_getElem? gi
        have mj := List.mem_of_getElem? gj
        have mz := List.mem_of_getElem? gz
        generalize fr[i] = ci at gi pi mi
        generalize fr[J] = cj at gj pj mj
        generalize fr[Z] = cz at gz pz mz
        obtain ⟨s5, us, css, e5, w5, ul, t1, t2⟩ := L5
        have eb : tri fr bk ci cj cz = (decide (pos bk cz < pos bk ci) && decide (pos bk ci < pos bk cj)) := by
          unfold tri
          rw [pi, pj, pz, decide_eq_true (show i < J by omega), decide_eq_true (show J < Z by omega)]
          rfl
        refine ⟨_, rfl, _, rfl, G, _, _, _, rfl, rfl, SqL.of eG5, atI_nat (j := Z) (gp gz), _, rfl, _, rfl, G, _, _, _, rfl, rfl, SqL.of eG5, atI_nat (j := i) (gp gi), _, _, rfl, rfl, _, rfl, ?_⟩
        rw [dec_cast]
        have cov : ∀ x y z, isTri fr bk (x, y, z) → (pos fr x < i ∨ (pos fr x = i ∧ (pos fr y < J ∨ (pos fr y = J ∧ pos fr z < J + 1 + (l + 1))))) → [x, y, z] ∈ css ∨ (x = ci ∧ y = cj ∧ z = cz) := fun x y z ht hS => by
          rcases hS with h | ⟨h1, h | ⟨h2, h3⟩⟩
          · exact .inl (t2 x y z ht (.inl h))
          · exact .inl (t2 x y z ht (.inr ⟨h1, .inl h⟩))
          · by_cases h4 : pos fr z < J + 1 + l
            · exact .inl (t2 x y z ht (.inr ⟨h1, .inr ⟨h2, h4⟩⟩))
            · have h5 : pos fr z = Z := by omega
              exact .inr ⟨pos_inj ht.1 mi (by rw [h1, pi]), pos_inj ht.2.1 mj (by rw [h2, pj]), pos_inj ht.2.2.1 mz (by rw [h5, pz])⟩
        have no : tri fr bk ci cj cz = false → LtIn H D fr bk (900 * i + 30 * j + (l + 1)) (fun a b c => a < i ∨ (a = i ∧ (b < J ∨ (b = J ∧ c < J + 1 + (l + 1))))) H5 := fun hb => by
          refine ⟨s5, us, css, e5, w5, by omega, t1, fun x y z ht hS => ?_⟩
          rcases cov x y z ht hS with h | ⟨rfl, rfl, rfl⟩
          · exact h
          · have h6 := ht.2.2.2
            simp only at h6
            rw [hb] at h6
            cases h6
        by_cases h1 : pos bk cz < pos bk ci
        · rw [decide_eq_true h1] at eb ⊢
          refine iteT ⟨_, rfl, _, rfl, G, _, _, _, rfl, rfl, SqL.of eG5, atI_nat (j := J) (gp gj), _, _, rfl, rfl, _, rfl, ?_⟩
          rw [dec_cast]
          by_cases h2 : pos bk ci < pos bk cj
          · rw [decide_eq_true h2] at eb ⊢
            refine iteT ?_
            refine ⟨_, rfl, .inl ⟨rfl, _, SqL.of e5⟩, _, rfl, _, rfl, _, _, _, rfl, rfl, lz, atI_nat (j := i) gi, _, rfl, _, rfl, _, _, _, rfl, rfl, lz, atI_nat (j := J) gj, _, rfl, _, rfl, _, _, _, rfl, rfl, lz, atI_nat (j := Z) gz, (by show 3 ≤ sizeLine; decide), fun t nt => ?_⟩
            have k6 := same_new nt (.tup [vc ci, vc cj, vc cz])
            refine ⟨D, _, _, rfl, rfl, k6 _ _ e5, (by show _ < 16777216; omega), ?_⟩
            have tb : triB fr bk = true := isTri.triB (t := (ci, cj, cz)) ⟨mi, mj, mz, eb⟩
            have e6 := k6 _ _ e5
            have kp : KeepT (upd H5 t (.tup [vc ci, vc cj, vc cz])) (upd (upd H5 t (.tup [vc ci, vc cj, vc cz])) D (.lst (us ++ [.ref t]))) := fun b xs e => by rw [upd_ne (ne_of e e6 (by intro z; cases z))]; exact e
            refine ⟨_, rfl, ⟨fun b o e => ?_, us ++ [.ref t], css ++ [[ci, cj, cz]], upd_same, (WsAt.snoc (w5.keep (Tw.Same.keepT k6)) (cs := [ci, cj, cz]) upd_same).keep kp, by rw [List.length_append]; show _ + 1 ≤ _; omega, fun cs h => ?_, fun x y z ht hS => ?_⟩, by rw [upd_ne nGD.symm]; exact k6 _ _ eG5⟩
            · rw [upd_ne (ne_of_none e nD)]; exact k6 _ _ (s5 _ _ e)
            · rcases List.mem_append.mp h with h | h
              · exact t1 cs h
              · rw [List.mem_singleton.mp h]; exact ⟨rfl, tb⟩
            · rcases cov x y z ht hS with h | ⟨rfl, rfl, rfl⟩
              · exact List.mem_append_left _ h
              · exact List.mem_append_right _ (List.mem_singleton.mpr rfl)
          · rw [decide_eq_false h2] at eb ⊢
            exact iteF ⟨_, rfl, no eb, eG5⟩
        · rw [decide_eq_false h1] at eb ⊢
          exact iteF ⟨_, rfl, iteF ⟨_, rfl, no eb, eG5⟩⟩
      · obtain ⟨o7, rfl, L5, eG5⟩ := hq
        exact ⟨_, _, rfl, L5.mono (by omega) (fun x y z h1 h2 h3 h => by omega), eG5⟩
    · obtain ⟨o6, o7, rfl, L4, eG4⟩ := hq
      exact ⟨_, _, _, _, rfl, L4.mono (by omega) (fun x y z h1 h2 h3 h => by omega), eG4⟩
  · obtain ⟨o1, o5, o6, o7, rfl, ⟨s3, us, css, e3, w3, ul, t1, t2⟩, eG3⟩ := hq
    refine ⟨_, rfl, q D us css H3 s3 e3 w3 (by omega) (fun cs h => (t1 cs h).1) (fun cs ⟨x, y, z, e, ht⟩ => by rw [e]; exact t2 x y z ht (pos_lt ht.1)) (empty_of (fun hu => ?_) fun hb => ?_)⟩
    · have hc : css ≠ [] := fun z => hu (w3.empty.mpr z)
      obtain ⟨cs, h⟩ := List.exists_mem_of_ne_nil _ hc
      exact (t1 cs h).2
    · unfold triB at hb
      obtain ⟨x, hx, hb⟩ := List.any_eq_true.mp hb
      obtain ⟨y, hy, hb⟩ := List.any_eq_true.mp hb
      obtain ⟨z, hz, hb⟩ := List.any_eq_true.mp hb
      have hm := t2 x y z ⟨hx, hy, hz, hb⟩ (pos_lt hx)
      exact fun zz => absurd (w3.empty.mp zz) (List.ne_nil_of_mem hm)
end
/-! ### _law_crowds, _law_word -/
structure CrIn (H : Hp) (D : Addr) (fr bk : List Nat) (n : Nat) (S : List Nat → Prop) (H' : Hp) : Prop where
  same : Same H H'
  ex : ∃ us css, H' D = some (.lst us) ∧ WsAt H' us css ∧ us.length ≤ n ∧ (∀ cs ∈ css, cs.length = 4 ∧ crowdB fr bk = true) ∧ ∀ cs, S cs → cs ∈ css
theorem CrIn.mono {H : Hp} {D : Addr} {fr bk : List Nat} {n m : Nat} {S T : List Nat → Prop} {H' : Hp} (h : CrIn H D fr bk n S H') (l : n ≤ m) (st : ∀ cs, T cs → S cs) : CrIn H D fr bk m T H' := by
  obtain ⟨s, us, css, e, w, a, b, c⟩ := h
  exact ⟨s, us, css, e, w, Nat.le_trans a l, b, fun cs z => c cs (st cs z)⟩
def wordOf (fr bk : List Nat) : Str := if wroot fr bk = true then "root" else if triB fr bk = true then "triple" else if crowdB fr bk = true then "crowd" else "tree"
def spWord : Sp := fun vs H Q _ => ∃ (p : Addr) (fr bk : List Nat), vs = [.ref p] ∧ PairAt H p fr bk ∧ ∀ (H' : Hp), Same H H' → Q (.str (wordOf fr bk)) H'
section
variable {P : Program} {w : World} {K : PySem.W.Frag} {mg : Str → Option Value} {base : Heap} {f : Addr} {fd : FuncData}
theorem ok_lawCrowds {k : Nat} (F : Fun K "_law_crowds" "_law_crowds" s__law_crowds f fd) (M : Mgs mg) (D_law_children : Df P w K mg base (k + 2) "_law_children" ["_law_pair_here", "_law_letter"] spLKids) : FnOk P w K mg base CX0 (k + 3) f fd ["_law_pair_here"] (spWs 4 crowdB Cc) := by
  refine F.ok (k := k + 2) sc__law_crowds (fun vs H Q E h => ?_) (fun cdv A outer s H vs Q E hr h => ?_)
  · obtain ⟨p, fr, bk, rfl, _⟩ := h
    rfl
  obtain ⟨p, fr, bk, rfl, hp, q⟩ := h
  have n26 := hp.n1
  refine ⟨_, (pss_cons (ps_set (i := 1) sc__law_crowds.nd rfl (.inl rfl) (pe_lst pa_nil))
    (pss_cons (ps_for PassesOwn.never rfl (pi_str (pe_ix ix_tup (pv 0) pe_int (fun _ _ => rfl))) (pg_name (i := 2) sc__law_crowds.nd rfl (.inr rfl))
      (pss_cons (ps_set (i := 3) sc__law_crowds.nd rfl (.inr rfl) (pe_call D_law_children.ok (hr.mono (by omega)) rfl D_law_children.g D_law_children.kp D_law_children.b .nil pass0 (pa_cons (pv 0) (pa_cons (pv 2) pa_nil))))
    (pss_one (ps_for PassesOwn.never rfl (pi_range1 rfl M.range (pa_cons (pe_callB call_len_seq rfl M.len PySem.boot_len (pa_cons (pv 3) pa_nil)) pa_nil)) (pg_name (i := 4) sc__law_crowds.nd rfl (.inr rfl))
      (pss_one (ps_for PassesOwn.never rfl (pi_range2 rfl M.range (pa_cons (pe_op op_add (pv 4) pe_int) (pa_cons (pe_callB call_len_seq rfl M.len PySem.boot_len (pa_cons (pv 3) pa_nil)) pa_nil))) (pg_name (i := 5) sc__law_crowds.nd rfl (.inr rfl))
      (pss_one (ps_expr (pe_bm PySem.F.plainAttrs_list PySem.F.slot_list_extend PySem.F.type_list_extend mt_extend (pv 1) (pa_cons (pe_lc (own := [("_law_one", 6)]) (g := gName 6) (tt := tYes) rfl sc__law_crowds.nd (pi_list (pe_slice sl_list (pv 3) (po_some (pe_op op_add (pv 5) pe_int)) po_none)) (blkOk_by (N := ["_law_pair_here", "_law_found", "_law_letter", "_law_some", "_law_i", "_law_j", "_law_one"]) (sc := defScope s__law_crowds) (by decide +kernel)) (fun _ _ _ _ _ => (pg_name (i := 6) sc__law_crowds.nd rfl (.inl rfl))) (fun _ _ _ _ _ => pts_nil) (fun _ _ _ _ _ => (pe_tup (pa_cons (pv 2) (pa_cons (pe_ix (show IxR _ (rIxL K) from ix_list) (pv 3) (pv 4) (fun _ _ => rfl)) (pa_cons (pe_ix (show IxR _ (rIxL K) from ix_list) (pv 3) (pv 5) (fun _ _ => rfl)) (pa_cons (pv 6) pa_nil))))))) pa_nil))))))))))
    (pss_one (ps_ret (pv 1))))), ?_⟩
  refine ⟨(by show 0 ≤ sizeLine; decide), fun D nD => ?_⟩
  have k1 := same_new nD (.lst [])
  have eD := upd_same (H := H) (a := D) (o := .lst [])
  generalize upd H D (.lst []) = H1 at k1 eD ⊢
  have hp1 := hp.same k1
  refine ⟨_, rfl, p, _, _, _, rfl, rfl, SqT.of hp1.at', atI_nat (j := 0) rfl, _, rfl, ?_⟩
  refine for_text (x := tx fr) (fun m σ H' => ∃ o2 o3 o4 o5, σ = [some (.ref p), some (.ref D), o2, o3, o4, o5, none] ∧ CrIn H D fr bk (20000 * m) (fun cs => ∃ c ∈ fr.take m, 2 < (kids fr bk c).length ∧ cs = c :: (kids fr bk c).take 3) H')
    ⟨_, _, _, _, rfl, ⟨k1, [], [], eD, .nil, Nat.le_refl _, fun cs h => absurd h (by simp), fun cs ⟨c, h, _⟩ => absurd h (by simp)⟩⟩ (fun m c σ H2 hc hq => ?_) (fun σ H2 hq => ?_)
  · obtain ⟨o2, o3, o4, o5, rfl, C2⟩ := hq
    rw [tx_cps] at hc
    have hm := (List.getElem?_eq_some_iff.mp hc).1
    have hcf := List.mem_of_getElem? hc
    refine ⟨_, rfl, _, rfl, p, fr, bk, c, rfl, hp.same C2.same, hcf, fun H3 S s3 nS eS => ?_⟩
    have nSD : S ≠ D := fun z => by
      obtain ⟨_, us, css, e, _⟩ := C2
      rw [z, e] at nS; cases nS
    have kl := kids_len fr bk c
    have C3 : CrIn H D fr bk (20000 * m) (fun cs => ∃ c ∈ fr.take m, 2 < (kids fr bk c).length ∧ cs = c :: (kids fr bk c).take 3) H3 := by
      obtain ⟨s, us, css, e, w, a, b, cc⟩ := C2
      exact ⟨s.trans s3, us, css, s3 _ _ e, w.keep (Tw.Same.keepT s3), a, b, cc⟩
    have cB : 2 < (kids fr bk c).length → crowdB fr bk = true := fun h => List.any_eq_true.mpr ⟨c, hcf, decide_eq_true h⟩
    obtain ⟨Pm, hPm⟩ : ∃ Pm : List Nat → Prop, Pm = fun cs => ∃ c ∈ fr.take m, 2 < (kids fr bk c).length ∧ cs = c :: (kids fr bk c).take 3 := ⟨_, rfl⟩
    rw [← hPm] at C3
    have tk : ∀ cs, (∃ c' ∈ fr.take (m + 1), 2 < (kids fr bk c').length ∧ cs = c' :: (kids fr bk c').take 3) ↔ (Pm cs ∨ (2 < (kids fr bk c).length ∧ cs = c :: (kids fr bk c).take 3)) := fun cs => by
      rw [take_nextG hc, hPm]
      constructor
      · rintro ⟨c', h1, h2⟩
        rcases List.mem_append.mp h1 with h | h
        · exact .inl ⟨c', h, h2⟩
        · rw [List.mem_singleton.mp h] at h2; exact .inr h2
      · rintro (⟨c', h1, h2⟩ | h)
        · exact ⟨c', List.mem_append_left _ h1, h2⟩
        · exact ⟨c, List.mem_append_right _ (List.mem_singleton.mpr rfl), h⟩
    generalize kids fr bk c = ks at eS kl cB tk
    clear hPm
    clear C2
    refine ⟨_, rfl, S, _, rfl, .inl (SqL.of eS), _, rfl, by rw [List.length_map]; omega, by rw [List.length_map]; omega, ?_⟩
    rw [List.length_map, Int.toNat_natCast]
    refine for_range (lo := 0) (n := ks.length) (fun i σ H' => ∃ o4 o5, σ = [some (.ref p), some (.ref D), some (vc c), some (.ref S), o4, o5, none] ∧ CrIn H D fr bk (20000 * m + 700 * i) (fun cs => Pm cs ∨ (2 < ks.length ∧ 0 < i ∧ cs = c :: ks.take 3)) H' ∧ H' S = some (.lst (ks.map vc)))
      ⟨_, _, rfl, C3.mono (by omega) (fun cs h => h.elim id fun z => absurd z.2.1 (Nat.lt_irrefl _)), eS⟩ (fun i σ H4 hi hq => ?_) (fun σ H4 hq => ?_)
    · obtain ⟨o4, o5, rfl, C4, eS4⟩ := hq
      rw [show (0 : Int) + (i : Int) = ((i : Nat) : Int) by omega]
      refine ⟨_, rfl, _, _, rfl, rfl, _, rfl, S, _, rfl, .inl (SqL.of eS4), _, _, rfl, ⟨by omega, by omega, by rw [List.length_map]; omega, by rw [List.length_map]; omega⟩, ?_⟩
      rw [List.length_map, show ((ks.length : Int) - ((i : Int) + 1)).toNat = ks.length - (i + 1) by omega]
      refine for_range (lo := (i : Int) + 1) (n := ks.length - (i + 1)) (fun j σ H' => ∃ o5, σ = [some (.ref p), some (.ref D), some (vc c), some (.ref S), some (.int (i : Int)), o5, none] ∧ CrIn H D fr bk (20000 * m + 700 * i + 26 * j) (fun cs => Pm cs ∨ (2 < ks.length ∧ (0 < i ∨ 0 < j) ∧ cs = c :: ks.take 3)) H' ∧ H' S = some (.lst (ks.map vc)))
        ⟨_, rfl, C4.mono (by omega) (fun cs h => by rcases h with h | ⟨h1, h2, h3⟩; exact .inl h; exact .inr ⟨h1, by omega, h3⟩), eS4⟩ (fun j σ H5 hj hq => ?_) (fun σ H5 hq => ?_)
      · obtain ⟨o5, rfl, C5, eS5⟩ := hq
        rw [show (i : Int) + 1 + (j : Int) = ((i + 1 + j : Nat) : Int) by omega]
        generalize hJ : i + 1 + j = J
        have hJn : J < ks.length := by omega
        obtain ⟨s5, us, css, e5, w5, ul, t1, t2⟩ := C5
        refine ⟨_, rfl, .inl ⟨rfl, _, SqL.of e5⟩, _, rfl, _, rfl, _, _, rfl, rfl, _, rfl, S, _, rfl, SqL.of eS5, fun T nT => ?_⟩
        rw [show (J : Int) + 1 = ((J + 1 : Nat) : Int) by omega, cut_from, ← List.map_drop]
        have k6 := same_new nT (.lst ((ks.drop (J + 1)).map vc))
        have eT := upd_same (H := H5) (a := T) (o := .lst ((ks.drop (J + 1)).map vc))
        generalize upd H5 T (.lst ((ks.drop (J + 1)).map vc)) = H6 at k6 eT ⊢
        refine ⟨T, rfl, ⟨_, SqL.of eT⟩, fun G nG => ?_⟩
        have gi := at_map (f := vc) (ns := ks) (i := ((i : Nat) : Int)) (by omega) (List.getElem?_eq_getElem (show (((i : Nat) : Int)).toNat < ks.length by omega))
        have gj := at_map (f := vc) (ns := ks) (i := ((J : Nat) : Int)) (by omega) (List.getElem?_eq_getElem (show (((J : Nat) : Int)).toNat < ks.length by omega))
        refine lc_list (K := K) (a := T) (xs := (ks.drop (J + 1)).map vc) (fun l H' => Same H6 H' ∧ ∃ ws : List V, H' G = some (.lst ws) ∧ WsAt H' ws (((ks.drop (J + 1)).take l).map fun o => [c, ks[i], ks[J], o])) ⟨same_new nG _, [], upd_same, .nil⟩ (fun l H' _ hq => SqL.of (hq.1 _ _ eT)) (fun l v H7 hv hq => ?_) (fun H7 hq => ?_)
        · obtain ⟨s7, ws, e7, w7⟩ := hq
          have wl := w7.len
          rw [List.length_map, List.length_take] at wl
          rw [List.getElem?_map] at hv
          obtain ⟨o, ho, rfl⟩ := Option.map_eq_some_iff.mp hv
          have hl := (List.getElem?_eq_some_iff.mp ho).1
          rw [List.length_drop] at hl
          refine ⟨rfl, kept ?_⟩
          have eS7 := s7 _ _ (k6 _ _ eS5)
          refine ⟨_, rfl, _, rfl, _, rfl, S, _, _, _, rfl, rfl, SqL.of eS7, gi, _, rfl, _, rfl, S, _, _, _, rfl, rfl, SqL.of eS7, gj, _, rfl, (by show 4 ≤ sizeLine; decide), fun t nt => ?_⟩
          have k8 := same_new nt (.tup [vc c, vc ks[((i : Nat) : Int).toNat], vc ks[((J : Nat) : Int).toNat], vc o])
          have e78 := k8 _ _ e7
          refine ⟨_, e78, by rw [wl]; exact small1000 (by omega), fun b u e => ?_, _, upd_same, ?_⟩
          · rw [upd_ne (ne_of_none e nG)]; exact k8 _ _ (s7 _ _ e)
          · rw [take_nextG ho, List.map_append]
            exact (WsAt.snoc (w7.keep (Tw.Same.keepT k8)) (cs := [c, ks[i], ks[J], o]) upd_same).keep fun b xs e => by rw [upd_ne (ne_of e e78 (by intro z; cases z))]; exact e
        · obtain ⟨s7, ws, e7, w7⟩ := hq
          have wl := w7.len
          rw [List.length_map, List.take_length] at w7
          rw [List.length_map, List.length_map, List.take_length, List.length_drop] at wl
          have e57 := s7 _ _ (k6 _ _ e5)
          have w57 := w5.keep (Tw.Same.keepT (k6.trans s7))
          refine ⟨D, G, us, ws, rfl, rfl, e57, e7, (by show _ ≤ 16777216; omega), ?_⟩
          have hmem : 0 < ks.length - (J + 1) → 2 < ks.length := fun h => by omega
          have kp : KeepT H7 (upd H7 D (.lst (us ++ ws))) := fun b xs e => by rw [upd_ne (ne_of e e57 (by intro z; cases z))]; exact e
          refine ⟨_, rfl, ⟨fun b o e => ?_, us ++ ws, _, upd_same, (w57.app w7).keep kp, by rw [List.length_append]; omega, fun cs z => ?_, fun cs h => ?_⟩, ?_⟩
          · rw [upd_ne (ne_of_none e nD)]; exact s7 _ _ (k6 _ _ (s5 _ _ e))
          · rcases List.mem_append.mp z with z | z
            · exact t1 cs z
            · obtain ⟨o, ho, rfl⟩ := List.mem_map.mp z
              have := List.length_pos_of_mem ho
              rw [List.length_drop] at this
              exact ⟨rfl, cB (hmem this)⟩
          · rcases h with h | ⟨h1, h2, h3⟩
            · exact List.mem_append_left _ (t2 cs (.inl h))
            · by_cases h4 : 0 < i ∨ 0 < j
              · exact List.mem_append_left _ (t2 cs (.inr ⟨h1, h4, h3⟩))
              · have hi0 : i = 0 := by omega
                have hJ1 : J = 1 := by omega
                subst hi0 hJ1 h3
                refine List.mem_append_right _ ?_
                rcases ks with _ | ⟨x, _ | ⟨y, _ | ⟨z, r⟩⟩⟩
                · exact absurd h1 (by simp)
                · exact absurd h1 (by simp)
                · exact absurd h1 (by simp)
                · exact List.mem_map.mpr ⟨z, List.mem_cons_self, rfl⟩
          · rw [upd_ne nSD]; exact s7 _ _ (k6 _ _ eS5)
      · obtain ⟨o5, rfl, C5, eS5⟩ := hq
        refine ⟨_, _, rfl, C5.mono (by omega) (fun cs h => ?_), eS5⟩
        rcases h with h | ⟨h1, h2, h3⟩
        · exact .inl h
        · exact .inr ⟨h1, by omega, h3⟩
    · obtain ⟨o4, o5, rfl, C4, eS4⟩ := hq
      refine ⟨_, _, _, _, rfl, C4.mono (by omega) (fun cs h => ?_)⟩
      rcases (tk cs).mp h with h | ⟨h, h2⟩
      · exact .inl h
      · exact .inr ⟨h, by omega, h2⟩
  · obtain ⟨o2, o3, o4, o5, rfl, s3, us, css, e3, w3, ul, t1, t2⟩ := hq
    rw [tx_cps, List.take_length] at t2
    rw [tx_cps] at ul
    refine ⟨_, rfl, q D us css H2 s3 e3 w3 (by omega) (fun cs h => (t1 cs h).1) (fun cs ⟨c, h1, h2, h3⟩ => t2 cs ⟨c, h1, h2, h3⟩) (empty_of (fun hu => ?_) fun hb => ?_)⟩
    · have hc : css ≠ [] := fun z => hu (w3.empty.mpr z)
      obtain ⟨cs, h⟩ := List.exists_mem_of_ne_nil _ hc
      exact (t1 cs h).2
    · obtain ⟨c, hc, h⟩ := List.any_eq_true.mp hb
      have hm := t2 _ ⟨c, hc, of_decide_eq_true h, rfl⟩
      exact fun zz => absurd (w3.empty.mp zz) (List.ne_nil_of_mem hm)
theorem ok_word {k : Nat} (F : Fun K "_law_word" "_law_word" s__law_word f fd) (D_law_triples : Df P w K mg base (k + 1) "_law_triples" ["_law_pair_here"] (spWs 3 triB Ct)) (D_law_crowds : Df P w K mg base (k + 1) "_law_crowds" ["_law_pair_here"] (spWs 4 crowdB Cc)) :
    FnOk P w K mg base CX0 (k + 2) f fd ["_law_pair_here"] spWord := by
  refine F.ok (k := k + 1) sc__law_word (fun vs H Q E h => ?_) (fun cdv A outer s H vs Q E hr h => ?_)
  · obtain ⟨p, fr, bk, rfl, _⟩ := h
    rfl
  obtain ⟨p, fr, bk, rfl, hp, q⟩ := h
  refine ⟨_, (pss_cons (ps_if (pt_cmpR op_ne (pe_ix ix_str (pe_ix ix_tup (pv 0) pe_int (fun _ _ => rfl)) pe_int (fun _ _ => rfl)) (pe_ix ix_str (pe_ix ix_tup (pv 0) pe_int (fun _ _ => rfl)) (pe_un un_neg pe_int) (fun _ _ => rfl)) (nomark _))
      (pss_one (ps_ret pe_str)) pss_nil)
    (pss_cons (ps_if (pt_cmpR (op_neL hr.units0) (pe_call D_law_triples.ok (hr.mono (by omega)) rfl D_law_triples.g D_law_triples.kp D_law_triples.b .nil pass0 (pa_cons (pv 0) pa_nil)) (pe_lst pa_nil) (nomark _))
      (pss_one (ps_ret pe_str)) pss_nil)
    (pss_one (ps_ret (pe_ifExp (pt_cmpR (op_neL hr.units0) (pe_call D_law_crowds.ok (hr.mono (by omega)) rfl D_law_crowds.g D_law_crowds.kp D_law_crowds.b .nil pass0 (pa_cons (pv 0) pa_nil)) (pe_lst pa_nil) (nomark _)) pe_str pe_str))))), ?_⟩
  have n0 := hp.n0
  have n26 := hp.n1
  have bl := hp.pm.length_eq
  obtain ⟨a, ha⟩ : ∃ a, fr[0]? = some a := ⟨_, List.getElem?_eq_getElem n0⟩
  obtain ⟨b, hb⟩ : ∃ b, bk.getLast? = some b := by
    cases h : bk.getLast? with
    | none => rw [List.getLast?_eq_none_iff] at h; rw [h] at bl; rw [← bl] at n0; exact absurd n0 (by decide)
    | some b => exact ⟨b, rfl⟩
  have zl : (tx fr).length ≤ sizeLine := by rw [tx_len]; exact small (by omega)
  have zb : (tx bk).length ≤ sizeLine := by rw [tx_len]; exact small (by omega)
  have e : wroot fr bk = !decide (V.str (⟨#[a]⟩ : Str) = V.str ⟨#[b]⟩) := by
    unfold wroot
    rw [hb, List.head?_eq_getElem?, ha]
    by_cases h : a = b
    · subst h; simp
    · rw [decide_eq_true (show some a ≠ some b from fun z => h (Option.some.inj z)), decide_eq_false (fun z => h (ch_inj (V.str.inj z)))]; rfl
  refine ⟨_, rfl, p, _, _, _, rfl, rfl, SqT.of hp.at', atI_nat (j := 0) rfl, tx fr, 0, a, rfl, rfl, zl, atI_nat (j := 0) ha, _, rfl, p, _, _, _, rfl, rfl, SqT.of hp.at', atI_nat (j := 1) rfl, 1, rfl, tx bk, -1, b, rfl, rfl, zb, atI_last hb, rfl, _, rfl, ?_⟩
  rw [← e]
  cases hw : wroot fr bk with
  | true =>
    refine iteT ?_
    have := q H (Same.refl H)
    unfold wordOf at this
    rw [hw] at this
    exact this
  | false =>
    refine iteF ?_
    refine ⟨_, rfl, p, fr, bk, rfl, hp, fun D us css H1 s1 e1 _ _ _ _ em => ?_⟩
    refine ⟨(by show 0 ≤ sizeLine; decide), fun z nz => ?_⟩
    have k2 := same_new nz (.lst [])
    refine ⟨D, z, _, rfl, rfl, SqL.of (k2 _ _ e1), SqL.of upd_same, _, rfl, ?_⟩
    rw [em, Bool.not_not]
    have s12 := s1.trans k2
    cases ht : triB fr bk with
    | true =>
      refine iteT ?_
      have := q _ s12
      unfold wordOf at this
      rw [hw, ht] at this
      exact this
    | false =>
      refine iteF ?_
      refine ⟨_, rfl, p, fr, bk, rfl, hp.same s12, fun D us css H3 s3 e3 _ _ _ _ em => ?_⟩
      refine ⟨(by show 0 ≤ sizeLine; decide), fun z nz => ?_⟩
      have k4 := same_new nz (.lst [])
      refine ⟨D, z, _, rfl, rfl, SqL.of (k4 _ _ e3), SqL.of upd_same, _, rfl, ?_⟩
      rw [em, Bool.not_not]
      have s14 := s12.trans (s3.trans k4)
      have := q _ s14
      unfold wordOf at this
      rw [hw, ht] at this
      cases hcr : crowdB fr bk with
      | true =>
        rw [hcr] at this
        exact iteT this
      | false =>
        rw [hcr] at this
        exact iteF this
end
/-! ### t[::2] of a tuple of three -/
section
open HT
theorem getItem_tuple_odd {prog : Program} {w : World} {A : Around} {E : Value → Shared → Prop} {s : Shared} {t sl : Addr} {x y z vs : Value} {Q : Value → Shared → Prop} (ht : IsTup s.heap t #[x, y, z]) (hs : s.heap.IsSliceOf sl .none .none vs) (ps : IsPart vs (some 2))
    (h : Q (.ref s.heap.objs.size) { s with heap := s.heap.push { cls := .type "tuple", data := .seq #[x, z] } }) : wpAny (model prog w) A (getItem (.ref t) (.ref sl)) Q E s := by
  have hz : sizeOk (.seq #[x, z]) := (by show 2 ≤ sizeLine; decide)
  obtain ⟨os, hos, hcs, hds⟩ := id hs
  have hTs : s.TypeIs (.ref sl) "slice" := ⟨os, hos, hcs⟩
  unfold getItem
  try with_reducible refine wpAny_holding ?_
  first | refine wpAny_bind (wpAny_pure ?_) | skip
  refine wpAny_bind (wpAny_sequenceKey ht.typeIs (by decide) ?_)
  refine wpAny_bind (wpAny_callSpecial?_slot (name := Str.ofString "__getitem__") ht.typeIs PyProof.Rows.slot_tuple_getitem
    (wpAny_call_entry PyProof.Rows.slot_tuple_getitem ht.typeIs entry_tuple_getitem ?_ (args_tuple_getitem _ _)))
  show wpAny _ _ (Builtin.Tuple.tupleItemsOf (.ref t) >>= _) _ _ s
  refine wpAny_bind (tupleItemsOf_ ht ?_)
  refine wpAny_bind (wpAny_typeOf hTs ?_)
  rw [if_pos (by decide)]
  have app : ∀ {Q' : Int × Int × Nat → Shared → Prop} {E' : Value → Shared → Prop} {A' : Around}, Q' (0, 2, 2) s → wpAny (model prog w) A' (Builtin.Slice.sliceApplied (.ref sl) (pure (3 : Int))) Q' E' s := fun {Q' E' A'} hq => by
    unfold Builtin.Slice.sliceApplied Builtin.Slice.sliceFields
    refine wpAny_bind (wpAny_bind (wpAny_field hos hds (x := .none) rfl (wpAny_bind (wpAny_field hos hds (x := .none) rfl (wpAny_bind (wpAny_field hos hds (x := vs) rfl (wpAny_pure ?_)))))))
    refine wpAny_bind (slicePart_ ps ?_)
    show wpAny _ _ (if ((2 : Int) == 0) = true then _ else _) _ _ s
    rw [if_neg (by decide)]
    refine wpAny_bind (slicePart_none (wpAny_bind (slicePart_none (wpAny_bind (wpAny_pure ?_)))))
    exact wpAny_pure hq
  refine wpAny_bind (app ?_)
  show wpAny _ _ (if ((0 : Int) == 0 && (2 : Int) == 1 && (2 : Nat) == 3) = true then _ else _) _ _ s
  rw [if_neg (by decide)]
  first
    | exact wpAny_bind (m := Builtin.Tuple.tupleExact _) (wpAny_newObj_type (wpAny_pure ⟨_, rfl, wpAny_pure h⟩) hz)
    | exact wpAny_bind (m := Builtin.Tuple.tupleExact _) (wpAny_newObj_type (wpAny_bind (wpAny_pure (wpAny_pure ⟨_, rfl, wpAny_pure h⟩))) hz)
    | exact wpAny_bind (wpAny_bind (m := Builtin.Tuple.tupleExact _) (wpAny_newObj_type (wpAny_pure (wpAny_pure ⟨_, rfl, wpAny_pure h⟩)) hz))
    | exact wpAny_bind (wpAny_bind (m := Builtin.Tuple.tupleExact _) (wpAny_newObj_type (wpAny_pure ⟨_, rfl, wpAny_pure h⟩) hz))
end
theorem valsThree {x1 x2 x3 : V} {its : List Value} (r : Vals [x1, x2, x3] its) : ∃ y1 y2 y3, its = [y1, y2, y3] ∧ RelV x1 y1 ∧ RelV x3 y3 := by
  cases r with
  | cons r1 r => cases r with
    | cons r2 r => cases r with
      | cons r3 r => cases r with
        | nil => exact ⟨_, _, _, rfl, r1, r3⟩
def tOdd (K : PySem.W.Frag) (te : TE) : TE := fun σ H Q => te σ H fun x H1 => ∃ a u v w, x = .ref a ∧ SqT K H1 a [u, v, w] ∧ ∀ p, H1 p = none → Q (.ref p) (upd H1 p (.tup [u, w]))
theorem pe_odd {X : Cx} {e : Expr} {te : TE} {k : Nat} {p1 p3 pos : Pos} (he : PE X e te) : PE X (.Subscript e (.Slice none none (some (.Constant (.int 2) k p1)) p3) pos) (tOdd X.K te) := by
  refine ⟨fun pins s σ H Q I h => ?_⟩
  refine Subscript_ (thn (he.run pins s σ H _ I h) fun v s1 ⟨x, H1, I1, r1, q1⟩ => ?_)
  obtain ⟨a, x1, x2, x3, ex, hx, q⟩ := q1
  subst ex
  cases r1
  have hst : PO X (some (.Constant (.int 2) k p1)) (tPart (tC (.int 2))) := po_some pe_int
  refine wpAny_Slice (thn (po_none.run pins s1 σ H1 (fun o H2 => o = none ∧ H2 = H1) I1 ⟨rfl, rfl⟩) fun vl s2 ⟨l, H2, I2, pl, el, e2⟩ => ?_)
  subst el e2
  refine thn (po_none.run pins s2 σ H2 (fun o H3 => o = none ∧ H3 = H2) I2 ⟨rfl, rfl⟩) fun vu s3 ⟨u, H3, I3, pu, eu, e3⟩ => ?_
  subst eu e3
  refine thn (hst.run pins s3 σ H3 (fun o H4 => o = some 2 ∧ H4 = H3) I3 ⟨2, rfl, rfl, rfl⟩) fun vs s4 ⟨o, H4, I4, ps, eo, e4⟩ => ?_
  subst eo e4
  have I5 : Inv X pins σ H4 { s4 with heap := s4.heap.push { cls := .type "slice", data := .fields #[vl, vu, vs] } } := I4.kept (t' := s4.toks) fun b ob q => Heap.get?_push_of_some _ q
  obtain ⟨its, r, ht, hz⟩ := I5.tuple hx
  cases pl
  cases pu
  obtain ⟨y1, y2, y3, rfl, r1, r3⟩ := valsThree r
  show wpAny (model X.prog X.w) X.A (subscriptTail e (.Slice none none (some (.Constant (.int 2) k p1)) p3) (.ref a) (.ref s4.heap.objs.size)) (EP X pins σ Q) X.xe { s4 with heap := s4.heap.push { cls := .type "slice", data := .fields #[.none, .none, vs] } }
  refine tail_any (ops := [.ref a, .ref s4.heap.objs.size]) ht.typeIs PyProof.Rows.slot_tuple_getitem.lookup ?_ (by with_unfolding_all rfl)
  refine getItem_tuple_odd ht (Heap.IsSliceOf.new _ .none .none vs) ps ?_
  refine ⟨.ref _, _, I5.laid (t' := s4.toks) (o := .tup [x1, x3]) (fun b ob q => Heap.get?_push_of_some _ q) (Nat.le_refl _) ?_, rfl, q _ (I5.hok.fresh (Nat.le_refl _))⟩
  exact ⟨(by show 2 ≤ sizeLine; decide), [y1, y3], .cons r1 (.cons r3 .nil), IsTup.new _ _⟩
/-! ### _law_same, of equal data -/
theorem sqT_same {K : PySem.W.Frag} {H H' : Hp} {a : Addr} {xs : List V} (e : Same H H') (h : SqT K H a xs) : SqT K H' a xs := by
  rcases h with (h | ⟨o, h⟩) | h
  · exact .inl (.inl (e _ _ h))
  · exact .inl (.inr ⟨o, e _ _ h⟩)
  · exact .inr h
mutual
theorem dp_same {K : PySem.W.Frag} {H H' : Hp} (e : Same H H') : ∀ {v : V} {d : PyData}, Dp K H v d → Dp K H' v d
  | _, _, .non => .non
  | _, _, .bl b => .bl b
  | _, _, .int i => .int i
  | _, _, .str x => .str x
  | _, _, .lst h a => .lst (e.seq h) (dpAll_same e a)
  | _, _, .tup h a => .tup (sqT_same e h) (dpAll_same e a)
theorem dpAll_same {K : PySem.W.Frag} {H H' : Hp} (e : Same H H') : ∀ {vs : List V} {ds : List PyData}, DpAll K H vs ds → DpAll K H' vs ds
  | _, _, .nil => .nil
  | _, _, .cons h a => .cons (dp_same e h) (dpAll_same e a)
end
theorem dpAll_len {K : PySem.W.Frag} {H : Hp} : ∀ {vs : List V} {ds : List PyData}, DpAll K H vs ds → vs.length = ds.length
  | _, _, .nil => rfl
  | _, _, .cons _ a => congrArg (· + 1) (dpAll_len a)
theorem dpAll_get {K : PySem.W.Frag} {H : Hp} : ∀ {vs : List V} {ds : List PyData} {i : Nat} {d : PyData}, DpAll K H vs ds → ds[i]? = some d → ∃ v, vs[i]? = some v ∧ Dp K H v d
  | _, _, _, _, .nil, h => by simp at h
  | _, _, 0, _, .cons h _, e => by
    cases e
    exact ⟨_, rfl, h⟩
  | _, _, i + 1, _, .cons _ a, e => dpAll_get (i := i) a e
def tyD : PyData → String
  | .none => "NoneType"
  | .bool _ => "bool"
  | .int _ => "int"
  | .str _ => "str"
  | .list _ => "list"
  | .tuple _ => "tuple"
  | .dict _ => "dict"
theorem dp_ty {K : PySem.W.Frag} {H : Hp} {v : V} {d : PyData} (h : Dp K H v d) : TyX K H v (.type (tyD d)) := by
  cases h with
  | non => exact .base .non
  | bl b => exact .base (.bl b)
  | int i => exact .base (.int i)
  | str x => exact .base (.str x)
  | lst h _ =>
    rcases h with (h | ⟨o, h⟩) | ⟨o, its, n, h, hc, _⟩
    · exact .base (.lst h)
    · exact .base (.frz h)
    · exact .kList h hc
  | tup h _ =>
    rcases h with (h | ⟨o, h⟩) | ⟨o, its, n, h, hc, _⟩
    · exact .base (.tup h)
    · exact .fTuple h
    · exact .kTuple h hc
theorem kit_lt {K : PySem.W.Frag} {a : String} {r s : Bool} (h1 : kitB a "list" = some r) (h2 : kitB a "tuple" = some s) : PySem.W.kitAny K (.type a) [.type "list", .type "tuple"] = some (r || s) := by
  refine kitAny_cons (kit_ty h1) (fun e => kitAny_cons (kit_ty h2) (fun e2 => ?_) fun e2 => ?_) fun e => ?_
  · rw [kitAny_nil, e, e2]; rfl
  · rw [e2, Bool.or_true]
  · rw [e, Bool.true_or]
theorem depth_get : ∀ {ds : List PyData} {i : Nat} {d : PyData}, ds[i]? = some d → d.depth ≤ PyData.depthAll ds
  | [], _, _, h => by simp at h
  | x :: xs, 0, _, h => by
    cases h
    simp only [PyData.depthAll]
    omega
  | x :: xs, i + 1, d, h => by
    have := depth_get (ds := xs) (i := i) h
    simp only [PyData.depthAll]
    omega
mutual
def nar : PyData → Bool
  | .list xs => decide (xs.length ≤ 1000000) && narAll xs
  | .tuple xs => decide (xs.length ≤ 1000000) && narAll xs
  | .dict _ => false
  | .none => true
  | .bool _ => true
  | .int _ => true
  | .str _ => true
def narAll : List PyData → Bool
  | [] => true
  | x :: xs => nar x && narAll xs
end
theorem nar_get : ∀ {ds : List PyData} {i : Nat} {d : PyData}, ds[i]? = some d → narAll ds = true → nar d = true
  | [], _, _, h, _ => by simp at h
  | x :: xs, 0, _, h, k => by
    cases h
    simp only [narAll, Bool.and_eq_true] at k
    exact k.1
  | x :: xs, i + 1, d, h, k => by
    simp only [narAll, Bool.and_eq_true] at k
    exact nar_get (ds := xs) (i := i) h k.2
def spSame (K : PySem.W.Frag) (n : Nat) : Sp := fun vs H Q _ => ∃ (v v' : V) (d : PyData), vs = [v, v'] ∧ Dp K H v d ∧ Dp K H v' d ∧ d.depth < n ∧ nar d = true ∧ ∀ H', Same H H' → Q (.bl true) H'
theorem dp_two {K : PySem.W.Frag} {H : Hp} {v v' : V} {d : PyData} {n : Nat} (h : Dp K H v d) (h' : Dp K H v' d) (hd : d.depth < n + 1) (hn : nar d = true) :
    (∃ (p p' : Addr) (xs xs' : List V) (ds : List PyData) (bl : Bool) (ty : String), v = .ref p ∧ v' = .ref p' ∧ (SqL K H p xs ∨ SqT K H p xs) ∧ (SqL K H p' xs' ∨ SqT K H p' xs') ∧ DpAll K H xs ds ∧ DpAll K H xs' ds ∧
      TyX K H v (.type ty) ∧ TyX K H v' (.type ty) ∧ kitB ty "list" = some bl ∧ kitB ty "tuple" = some (!bl) ∧ PyData.depthAll ds < n ∧ ds.length ≤ 1000000 ∧ narAll ds = true ∧ tyD d = ty) ∨ (v = v' ∧ (v = .non ∨ (∃ b, v = .bl b) ∨ (∃ i, v = .int i) ∨ ∃ x, v = .str x)) := by
  have t1 := dp_ty h
  have t2 := dp_ty h'
  cases h with
  | non =>
    cases h'
    exact .inr ⟨rfl, .inl rfl⟩
  | bl b =>
    cases h'
    exact .inr ⟨rfl, .inr (.inl ⟨b, rfl⟩)⟩
  | int b =>
    cases h'
    exact .inr ⟨rfl, .inr (.inr (.inl ⟨b, rfl⟩))⟩
  | str b =>
    cases h'
    exact .inr ⟨rfl, .inr (.inr (.inr ⟨b, rfl⟩))⟩
  | lst h a =>
    cases h' with
    | lst h' a' =>
      simp only [PyData.depth] at hd
      simp only [nar, Bool.and_eq_true, decide_eq_true_eq] at hn
      exact .inl ⟨_, _, _, _, _, true, "list", rfl, rfl, .inl h, .inl h', a, a', t1, t2, by decide +kernel, by decide +kernel, by omega, hn.1, hn.2, rfl⟩
  | tup h a =>
    cases h' with
    | tup h' a' =>
      simp only [PyData.depth] at hd
      simp only [nar, Bool.and_eq_true, decide_eq_true_eq] at hn
      exact .inl ⟨_, _, _, _, _, false, "tuple", rfl, rfl, .inr h, .inr h', a, a', t1, t2, by decide +kernel, by decide +kernel, by omega, hn.1, hn.2, rfl⟩
theorem seq_same {K : PySem.W.Frag} {H H' : Hp} {p : Addr} {xs : List V} (e : Same H H') (h : SqL K H p xs ∨ SqT K H p xs) : SqL K H' p xs ∨ SqT K H' p xs := h.elim (fun h => .inl (e.seq h)) fun h => .inr (sqT_same e h)
theorem seq_ix {K : PySem.W.Frag} {H : Hp} {p : Addr} {xs : List V} {i : Int} {v : V} {Q : VK} (h : SqL K H p xs ∨ SqT K H p xs) (a : atI xs i = some v) (q : Q v H) : rIx K (.ref p) (.int i) H Q :=
  h.elim (fun h => .inl ⟨p, xs, i, v, rfl, rfl, h, a, q⟩) fun h => .inr (.inl ⟨p, xs, i, v, rfl, rfl, h, a, q⟩)
theorem tyX_same {K : PySem.W.Frag} {H H' : Hp} {v : V} {d : PyData} (e : Same H H') (h : Dp K H v d) : TyX K H' v (.type (tyD d)) := dp_ty (dp_same e h)
section
variable {P : Program} {w : World} {K : PySem.W.Frag} {mg : Str → Option Value} {base : Heap} {f : Addr} {fd : FuncData}
theorem kit_tl {K : PySem.W.Frag} {a : String} {r s : Bool} (h1 : kitB a "list" = some r) (h2 : kitB a "tuple" = some s) : PySem.W.kitAny K (.type a) [.type "tuple", .type "list"] = some (r || s) := by
  refine kitAny_cons (kit_ty h2) (fun e => kitAny_cons (kit_ty h1) (fun e2 => ?_) fun e2 => ?_) fun e => ?_
  · rw [kitAny_nil, e, e2]; rfl
  · rw [e2, Bool.true_or]
  · rw [e, Bool.or_true]
theorem kit_sd {K : PySem.W.Frag} {a : String} {r s : Bool} (h1 : kitB a "str" = some r) (h2 : kitB a "dict" = some s) : PySem.W.kitAny K (.type a) [.type "str", .type "dict"] = some (r || s) := by
  refine kitAny_cons (kit_ty h1) (fun e => kitAny_cons (kit_ty h2) (fun e2 => ?_) fun e2 => ?_) fun e => ?_
  · rw [kitAny_nil, e, e2]; rfl
  · rw [e2, Bool.or_true]
  · rw [e, Bool.true_or]
theorem ok_same (F : Fun K "_law_same" "_law_same" s__law_same f fd) (b : Binds K fd ["_law_found", "_law_due"] []) (g : mg "_law_same" = some (.ref f)) (M : Mgs mg) : ∀ n : Nat, FnOk P w K mg base CX0 n f fd ["_law_found", "_law_due"] (spSame K n)
  | 0 => by
    have no : ∀ vs H Q E, ¬ spSame K 0 vs H Q E := fun vs H Q E h => by
      obtain ⟨v, t, d, _, _, _, h1, _, _⟩ := h
      omega
    exact ⟨fun vs H Q E h => absurd h (no vs H Q E), fun A outer s H args us vs Q E _ _ _ _ h => absurd h (no vs H Q E)⟩
  | n + 1 => by
    have Dself : Df P w K mg base n "_law_same" ["_law_found", "_law_due"] (spSame K n) := ⟨f, fd, ok_same F b g M n, b, F.kp, g⟩
    refine F.ok sc__law_same (fun vs H Q E h => ?_) (fun cdv A outer s H vs Q E hr h => ?_)
    · obtain ⟨v, t, d, rfl, _⟩ := h
      rfl
    obtain ⟨v, v', d, rfl, hv, hv', hd, hna, q⟩ := h
    refine ⟨_, (pss_cons (ps_if (pt_val (pe_callB call_isiT rfl M.isinstance (by decide +kernel) (pa_cons (pv 1) (pa_cons (pe_tup (pa_cons (pe_bltn (v := .ty "list") rfl M.list (by decide +kernel) rfl) (pa_cons (pe_bltn (v := .ty "tuple") rfl M.tuple (by decide +kernel) rfl) pa_nil))) pa_nil))))
      (pss_cons (ps_if (PW.pt (pw_or (pt_cmpR op_ne (pe_callB call_isi rfl M.isinstance (by decide +kernel) (pa_cons (pv 0) (pa_cons (pe_bltn (v := .ty "tuple") rfl M.tuple (by decide +kernel) rfl) pa_nil))) (pe_callB call_isi rfl M.isinstance (by decide +kernel) (pa_cons (pv 1) (pa_cons (pe_bltn (v := .ty "tuple") rfl M.tuple (by decide +kernel) rfl) pa_nil))) (nomark _)) (pw_or1 (pt_not (pt_val (pe_callB call_isiT rfl M.isinstance (by decide +kernel) (pa_cons (pv 0) (pa_cons (pe_tup (pa_cons (pe_bltn (v := .ty "tuple") rfl M.tuple (by decide +kernel) rfl) (pa_cons (pe_bltn (v := .ty "list") rfl M.list (by decide +kernel) rfl) pa_nil))) pa_nil))))))))
      (pss_one (ps_ret pe_bl)) pss_nil)
    (pss_cons (ps_if (pt_cmpR op_ne (pe_callB call_len_seq rfl M.len PySem.boot_len (pa_cons (pv 0) pa_nil)) (pe_callB call_len_seq rfl M.len PySem.boot_len (pa_cons (pv 1) pa_nil)) (nomark _))
      (pss_one (ps_ret pe_bl)) pss_nil)
    (pss_one (ps_ret (pe_cmpR (op_eqD hr.units) (pe_lc (own := [("_law_k", 2)]) (g := gName 2) rfl sc__law_same.nd (pi_range1 rfl M.range (pa_cons (pe_callB call_len_seq rfl M.len PySem.boot_len (pa_cons (pv 1) pa_nil)) pa_nil)) (blkOk_by (N := ["_law_found", "_law_due", "_law_k"]) (sc := defScope s__law_same) (by decide +kernel)) (fun _ _ _ _ _ => (pg_name (i := 2) sc__law_same.nd rfl (.inl rfl))) (fun _ _ _ _ _ => pts_one (pt_not (pt_val (pe_call Dself.ok (hr.mono (by omega)) rfl Dself.g Dself.kp Dself.b .nil pass0 (pa_cons (pe_ix (show IxR _ (rIx K) from ix_seq) (pv 0) (pv 2) (fun _ _ => rfl)) (pa_cons (pe_ix (show IxR _ (rIx K) from ix_seq) (pv 1) (pv 2) (fun _ _ => rfl)) pa_nil)))))) (fun _ _ _ _ _ => (pv 2))) (pe_lst pa_nil) (nomark _)))))) pss_nil)
    (pss_cons (ps_if (pt_cmpR op_isN (pv 1) pe_non (nomark _))
      (pss_one (ps_ret (pe_cmpR op_isN (pv 0) pe_non (nomark _)))) pss_nil)
    (pss_cons (ps_if (pt_val (pe_callB call_isiT rfl M.isinstance (by decide +kernel) (pa_cons (pv 1) (pa_cons (pe_tup (pa_cons (pe_bltn (v := .ty "str") rfl M.str (by decide +kernel) rfl) (pa_cons (pe_bltn (v := .ty "dict") rfl M.dict (by decide +kernel) rfl) pa_nil))) pa_nil))))
      (pss_one (ps_ret (pe_and (pe_cmpR op_eq (pe_callB call_isi rfl M.isinstance (by decide +kernel) (pa_cons (pv 0) (pa_cons (pe_bltn (v := .ty "str") rfl M.str (by decide +kernel) rfl) pa_nil))) (pe_callB call_isi rfl M.isinstance (by decide +kernel) (pa_cons (pv 1) (pa_cons (pe_bltn (v := .ty "str") rfl M.str (by decide +kernel) rfl) pa_nil))) (nomark _)) (pe_one (pe_cmpR op_eq (pv 0) (pv 1) (nomark _)))))) pss_nil)
    (pss_one (ps_ret (pe_and (pe_callB call_isi rfl M.isinstance (by decide +kernel) (pa_cons (pv 0) (pa_cons (pe_bltn (v := .ty "int") rfl M.int (by decide +kernel) rfl) pa_nil))) (pe_and (pe_cmpR op_eq (pe_callB call_isi rfl M.isinstance (by decide +kernel) (pa_cons (pv 0) (pa_cons (pe_bltn (v := .ty "bool") rfl M.bool (by decide +kernel) rfl) pa_nil))) (pe_callB call_isi rfl M.isinstance (by decide +kernel) (pa_cons (pv 1) (pa_cons (pe_bltn (v := .ty "bool") rfl M.bool (by decide +kernel) rfl) pa_nil))) (nomark _)) (pe_one (pe_cmpR op_eq (pv 0) (pv 1) (nomark _)))))))))), ?_⟩
    refine ⟨v', rfl, (by show 2 ≤ sizeLine; decide), fun tp np => ?_⟩
    have s1 := same_new np (.tup [.ty "list", .ty "tuple"])
    have hw := dp_same s1 hv
    have hw' := dp_same s1 hv'
    have pr : Paired ClsV [V.ty "list", V.ty "tuple"] [Value.type "list", Value.type "tuple"] := .cons (.ty _) (.cons (.ty _) .nil)
    have pr2 : Paired ClsV [V.ty "tuple", V.ty "list"] [Value.type "tuple", Value.type "list"] := .cons (.ty _) (.cons (.ty _) .nil)
    have pr3 : Paired ClsV [V.ty "str", V.ty "dict"] [Value.type "str", Value.type "dict"] := .cons (.ty _) (.cons (.ty _) .nil)
    rcases dp_two hw hw' hd hna with ⟨p, p', xs, xs', ds, bl, ty, rfl, rfl, hq, hq', ha, ha', ht, ht', k1, k2, hdd, hwl, hwn, hty⟩ | ⟨rfl, hk⟩
    · have ka : PySem.W.kitAny K (.type ty) [.type "list", .type "tuple"] = some true := by
        rw [kit_lt k1 k2]
        cases bl <;> rfl
      have ka2 : PySem.W.kitAny K (.type ty) [.type "tuple", .type "list"] = some true := by
        rw [kit_tl k1 k2]
        cases bl <;> rfl
      have hl := dpAll_len ha
      have hl' := dpAll_len ha'
      refine ⟨_, tp, _, _, _, true, rfl, upd_same, pr, ht', ka, _, rfl, iteT ?_⟩
      refine ⟨_, rfl, _, _, _, _, !bl, rfl, .ty _, ht, kit_ty k2, _, rfl, _, _, _, _, !bl, rfl, .ty _, ht', kit_ty k2, by cases bl <;> rfl, _, rfl, iteNS rfl ?_⟩
      have etp := upd_same (H := H) (a := tp) (o := .tup [.ty "list", .ty "tuple"])
      generalize upd H tp (.tup [.ty "list", .ty "tuple"]) = H1 at s1 hw hw' hq hq' ha ha' ht ht' etp ⊢
      refine ⟨_, rfl, (by show 2 ≤ sizeLine; decide), fun tp2 np2 => ?_⟩
      have s2 := same_new np2 (.tup [.ty "tuple", .ty "list"])
      have ht2 := dp_ty (dp_same s2 hw)
      rw [hty] at ht2
      refine ⟨_, tp2, _, _, _, true, rfl, upd_same, pr2, ht2, ka2, _, rfl, iteF ?_⟩
      have s12 := s1.trans s2
      have hq2 := seq_same s2 hq
      have hq2' := seq_same s2 hq'
      have ha2 := dpAll_same s2 ha
      have ha2' := dpAll_same s2 ha'
      generalize upd H1 tp2 (.tup [.ty "tuple", .ty "list"]) = H2 at s12 hq2 hq2' ha2 ha2' ⊢
      refine ⟨_, rfl, p, xs, rfl, hq2, _, rfl, p', xs', rfl, hq2', rfl, _, rfl, iteNS (by rw [hl, hl']) ?_⟩
      refine ⟨_, rfl, p', xs', rfl, hq2', _, rfl, ?_, ?_, fun D nD => ?_⟩
      · omega
      · omega
      have s3 := same_new nD (.lst [])
      rw [Int.toNat_natCast]
      refine lc_range (lo := 0) (n := xs'.length) (fun i H' => Same H2 H' ∧ H' D = some (.lst [])) ⟨s3, upd_same⟩ (fun i H' hi hp => ?_) (fun H' hp => ?_)
      · obtain ⟨sm, eD⟩ := hp
        obtain ⟨di, edi⟩ : ∃ di, ds[i]? = some di := ⟨_, List.getElem?_eq_getElem (by omega)⟩
        obtain ⟨x, ex, hx⟩ := dpAll_get ha2 edi
        obtain ⟨x', ex', hx'⟩ := dpAll_get ha2' edi
        have hdi := depth_get edi
        have e0 : (0 : Int) + (i : Int) = ((i : Nat) : Int) := by omega
        rw [e0]
        refine ⟨rfl, ?_⟩
        refine ⟨_, rfl, _, rfl, seq_ix (seq_same sm hq2) (atI_nat ex) ⟨_, rfl, _, rfl, seq_ix (seq_same sm hq2') (atI_nat ex') ⟨x, x', di, rfl, dp_same sm hx, dp_same sm hx', by omega, nar_get edi hwn, fun H'' s'' => ?_⟩⟩⟩
        exact ⟨_, rfl, iteF ⟨sm.trans s'', s'' _ _ eD⟩⟩
      · obtain ⟨sm, eD⟩ := hp
        refine ⟨(by show 0 ≤ sizeLine; decide), fun e ne => ?_⟩
        refine ⟨.list [], .list [], .lst (SqL.of ((same_new ne _) _ _ eD)) .nil, .lst (SqL.of upd_same) .nil, rfl, rfl, ?_⟩
        exact q _ (s12.trans (sm.trans (same_new ne _)))
    · rcases hk with rfl | ⟨c, rfl⟩ | ⟨c, rfl⟩ | ⟨c, rfl⟩
      · refine ⟨_, tp, _, _, _, false, rfl, upd_same, pr, .base .non, kit_lt (r := false) (s := false) (by decide +kernel) (by decide +kernel), _, rfl, iteF ?_⟩
        refine ⟨_, rfl, rfl, _, rfl, iteT ?_⟩
        exact ⟨_, rfl, rfl, q _ s1⟩
      · refine ⟨_, tp, _, _, _, false, rfl, upd_same, pr, .base (.bl c), kit_lt (r := false) (s := false) (by decide +kernel) (by decide +kernel), _, rfl, iteF ?_⟩
        refine ⟨_, rfl, rfl, _, rfl, iteF ?_⟩
        refine ⟨_, rfl, (by show 2 ≤ sizeLine; decide), fun tp3 np3 => ?_⟩
        have s3 := s1.trans (same_new np3 (.tup [.ty "str", .ty "dict"]))
        refine ⟨_, tp3, _, _, _, false, rfl, upd_same, pr3, .base (.bl c), kit_sd (r := false) (s := false) (by decide +kernel) (by decide +kernel), _, rfl, iteF ?_⟩
        refine ⟨_, rfl, _, _, _, _, true, rfl, .ty _, .base (.bl c), kit_ty (by decide +kernel), _, rfl, iteT ?_⟩
        refine ⟨_, rfl, _, _, _, _, true, rfl, .ty _, .base (.bl c), kit_ty (by decide +kernel), _, rfl, _, _, _, _, true, rfl, .ty _, .base (.bl c), kit_ty (by decide +kernel), rfl, _, rfl, iteT ?_⟩
        refine ⟨_, rfl, _, rfl, by cases c <;> rfl, ?_⟩
        rw [decide_eq_true rfl]
        exact q _ s3
      · refine ⟨_, tp, _, _, _, false, rfl, upd_same, pr, .base (.int c), kit_lt (r := false) (s := false) (by decide +kernel) (by decide +kernel), _, rfl, iteF ?_⟩
        refine ⟨_, rfl, rfl, _, rfl, iteF ?_⟩
        refine ⟨_, rfl, (by show 2 ≤ sizeLine; decide), fun tp3 np3 => ?_⟩
        have s3 := s1.trans (same_new np3 (.tup [.ty "str", .ty "dict"]))
        refine ⟨_, tp3, _, _, _, false, rfl, upd_same, pr3, .base (.int c), kit_sd (r := false) (s := false) (by decide +kernel) (by decide +kernel), _, rfl, iteF ?_⟩
        refine ⟨_, rfl, _, _, _, _, true, rfl, .ty _, .base (.int c), kit_ty (by decide +kernel), _, rfl, iteT ?_⟩
        refine ⟨_, rfl, _, _, _, _, false, rfl, .ty _, .base (.int c), kit_ty (by decide +kernel), _, rfl, _, _, _, _, false, rfl, .ty _, .base (.int c), kit_ty (by decide +kernel), rfl, _, rfl, iteT ?_⟩
        refine ⟨_, rfl, _, rfl, rfl, ?_⟩
        rw [decide_eq_true rfl]
        exact q _ s3
      · refine ⟨_, tp, _, _, _, false, rfl, upd_same, pr, .base (.str c), kit_lt (r := false) (s := false) (by decide +kernel) (by decide +kernel), _, rfl, iteF ?_⟩
        refine ⟨_, rfl, rfl, _, rfl, iteF ?_⟩
        refine ⟨_, rfl, (by show 2 ≤ sizeLine; decide), fun tp3 np3 => ?_⟩
        have s3 := s1.trans (same_new np3 (.tup [.ty "str", .ty "dict"]))
        refine ⟨_, tp3, _, _, _, true, rfl, upd_same, pr3, .base (.str c), kit_sd (r := true) (s := false) (by decide +kernel) (by decide +kernel), _, rfl, iteT ?_⟩
        refine ⟨_, rfl, _, _, _, _, true, rfl, .ty _, .base (.str c), kit_ty (by decide +kernel), _, rfl, _, _, _, _, true, rfl, .ty _, .base (.str c), kit_ty (by decide +kernel), rfl, _, rfl, iteT ?_⟩
        refine ⟨_, rfl, _, rfl, rfl, ?_⟩
        rw [decide_eq_true rfl]
        exact q _ s3
end
/-! ### _law_same of letters and of tuples of letters; _law_is_tree; _law_sided -/
def spSameC : Sp := fun vs H Q _ => ∃ a b : Nat, vs = [vc a, vc b] ∧ ∀ H', Same H H' → Q (.bl (decide (a = b))) H'
def spSameW : Sp := fun vs H Q _ => ∃ (t u : Addr) (cs ds : List Nat), vs = [.ref t, .ref u] ∧ H t = some (.tup (cs.map vc)) ∧ H u = some (.tup (ds.map vc)) ∧ cs.length = ds.length ∧ cs.length ≤ 4 ∧ ∀ H', Same H H' → Q (.bl (decide (cs = ds))) H'
def spSameU (K : PySem.W.Frag) (n : Nat) : Sp := fun vs H Q E => spSame K n vs H Q E ∨ spSameW vs H Q E
theorem vc_dec (a b : Nat) : decide (V.str (ch a) = V.str (ch b)) = decide (a = b) := by
  by_cases h : a = b
  · subst h; rw [decide_eq_true rfl, decide_eq_true rfl]
  · rw [decide_eq_false h, decide_eq_false (fun z => h (ch_inj (V.str.inj z)))]
theorem take_eq_next {cs ds : List Nat} {i a b : Nat} (h1 : cs[i]? = some a) (h2 : ds[i]? = some b) : (cs.take (i + 1) = ds.take (i + 1)) ↔ (cs.take i = ds.take i ∧ a = b) := by
  have l1 := (List.getElem?_eq_some_iff.mp h1).1
  have l2 := (List.getElem?_eq_some_iff.mp h2).1
  rw [take_nextG h1, take_nextG h2]
  constructor
  · intro h
    have := List.append_inj h (by rw [List.length_take, List.length_take]; omega)
    exact ⟨this.1, by simpa using this.2⟩
  · rintro ⟨h, rfl⟩
    rw [h]
section
variable {P : Program} {w : World} {K : PySem.W.Frag} {mg : Str → Option Value} {base : Heap} {f : Addr} {fd : FuncData}
theorem ok_sameC (F : Fun K "_law_same" "_law_same" s__law_same f fd) (b : Binds K fd ["_law_found", "_law_due"] []) (g : mg "_law_same" = some (.ref f)) (M : Mgs mg) : FnOk P w K mg base CX0 1 f fd ["_law_found", "_law_due"] spSameC := by
  have Dself : Df P w K mg base 0 "_law_same" ["_law_found", "_law_due"] (spSame K 0) := ⟨f, fd, ok_same F b g M 0, b, F.kp, g⟩
  refine F.ok (k := 0) sc__law_same (fun vs H Q E h => ?_) (fun cdv A outer s H vs Q E hr h => ?_)
  · obtain ⟨a, b, rfl, _⟩ := h
    rfl
  obtain ⟨x, y, rfl, q⟩ := h
  refine ⟨_, (pss_cons (ps_if (pt_val (pe_callB call_isiT rfl M.isinstance (by decide +kernel) (pa_cons (pv 1) (pa_cons (pe_tup (pa_cons (pe_bltn (v := .ty "list") rfl M.list (by decide +kernel) rfl) (pa_cons (pe_bltn (v := .ty "tuple") rfl M.tuple (by decide +kernel) rfl) pa_nil))) pa_nil))))
      (pss_cons (ps_if (PW.pt (pw_or (pt_cmpR op_ne (pe_callB call_isi rfl M.isinstance (by decide +kernel) (pa_cons (pv 0) (pa_cons (pe_bltn (v := .ty "tuple") rfl M.tuple (by decide +kernel) rfl) pa_nil))) (pe_callB call_isi rfl M.isinstance (by decide +kernel) (pa_cons (pv 1) (pa_cons (pe_bltn (v := .ty "tuple") rfl M.tuple (by decide +kernel) rfl) pa_nil))) (nomark _)) (pw_or1 (pt_not (pt_val (pe_callB call_isiT rfl M.isinstance (by decide +kernel) (pa_cons (pv 0) (pa_cons (pe_tup (pa_cons (pe_bltn (v := .ty "tuple") rfl M.tuple (by decide +kernel) rfl) (pa_cons (pe_bltn (v := .ty "list") rfl M.list (by decide +kernel) rfl) pa_nil))) pa_nil))))))))
      (pss_one (ps_ret pe_bl)) pss_nil)
    (pss_cons (ps_if (pt_cmpR op_ne (pe_callB call_len_seq rfl M.len PySem.boot_len (pa_cons (pv 0) pa_nil)) (pe_callB call_len_seq rfl M.len PySem.boot_len (pa_cons (pv 1) pa_nil)) (nomark _))
      (pss_one (ps_ret pe_bl)) pss_nil)
    (pss_one (ps_ret (pe_cmpR (op_eqD hr.units) (pe_lc (own := [("_law_k", 2)]) (g := gName 2) rfl sc__law_same.nd (pi_range1 rfl M.range (pa_cons (pe_callB call_len_seq rfl M.len PySem.boot_len (pa_cons (pv 1) pa_nil)) pa_nil)) (blkOk_by (N := ["_law_found", "_law_due", "_law_k"]) (sc := defScope s__law_same) (by decide +kernel)) (fun _ _ _ _ _ => (pg_name (i := 2) sc__law_same.nd rfl (.inl rfl))) (fun _ _ _ _ _ => pts_one (pt_not (pt_val (pe_call Dself.ok (hr.mono (by omega)) rfl Dself.g Dself.kp Dself.b .nil pass0 (pa_cons (pe_ix (show IxR _ (rIx K) from ix_seq) (pv 0) (pv 2) (fun _ _ => rfl)) (pa_cons (pe_ix (show IxR _ (rIx K) from ix_seq) (pv 1) (pv 2) (fun _ _ => rfl)) pa_nil)))))) (fun _ _ _ _ _ => (pv 2))) (pe_lst pa_nil) (nomark _)))))) pss_nil)
    (pss_cons (ps_if (pt_cmpR op_isN (pv 1) pe_non (nomark _))
      (pss_one (ps_ret (pe_cmpR op_isN (pv 0) pe_non (nomark _)))) pss_nil)
    (pss_cons (ps_if (pt_val (pe_callB call_isiT rfl M.isinstance (by decide +kernel) (pa_cons (pv 1) (pa_cons (pe_tup (pa_cons (pe_bltn (v := .ty "str") rfl M.str (by decide +kernel) rfl) (pa_cons (pe_bltn (v := .ty "dict") rfl M.dict (by decide +kernel) rfl) pa_nil))) pa_nil))))
      (pss_one (ps_ret (pe_and (pe_cmpR op_eq (pe_callB call_isi rfl M.isinstance (by decide +kernel) (pa_cons (pv 0) (pa_cons (pe_bltn (v := .ty "str") rfl M.str (by decide +kernel) rfl) pa_nil))) (pe_callB call_isi rfl M.isinstance (by decide +kernel) (pa_cons (pv 1) (pa_cons (pe_bltn (v := .ty "str") rfl M.str (by decide +kernel) rfl) pa_nil))) (nomark _)) (pe_one (pe_cmpR op_eq (pv 0) (pv 1) (nomark _)))))) pss_nil)
    (pss_one (ps_ret (pe_and (pe_callB call_isi rfl M.isinstance (by decide +kernel) (pa_cons (pv 0) (pa_cons (pe_bltn (v := .ty "int") rfl M.int (by decide +kernel) rfl) pa_nil))) (pe_and (pe_cmpR op_eq (pe_callB call_isi rfl M.isinstance (by decide +kernel) (pa_cons (pv 0) (pa_cons (pe_bltn (v := .ty "bool") rfl M.bool (by decide +kernel) rfl) pa_nil))) (pe_callB call_isi rfl M.isinstance (by decide +kernel) (pa_cons (pv 1) (pa_cons (pe_bltn (v := .ty "bool") rfl M.bool (by decide +kernel) rfl) pa_nil))) (nomark _)) (pe_one (pe_cmpR op_eq (pv 0) (pv 1) (nomark _)))))))))), ?_⟩
  refine ⟨_, rfl, (by show 2 ≤ sizeLine; decide), fun tp np => ?_⟩
  have s1 := same_new np (.tup [.ty "list", .ty "tuple"])
  have pr : Paired ClsV [V.ty "list", V.ty "tuple"] [Value.type "list", Value.type "tuple"] := .cons (.ty _) (.cons (.ty _) .nil)
  have pr3 : Paired ClsV [V.ty "str", V.ty "dict"] [Value.type "str", Value.type "dict"] := .cons (.ty _) (.cons (.ty _) .nil)
  refine ⟨_, tp, _, _, _, false, rfl, upd_same, pr, .base (.str (ch y)), kit_lt (r := false) (s := false) (by decide +kernel) (by decide +kernel), _, rfl, iteF ?_⟩
  refine ⟨_, rfl, rfl, _, rfl, iteF ?_⟩
  refine ⟨_, rfl, (by show 2 ≤ sizeLine; decide), fun tp3 np3 => ?_⟩
  have s3 := s1.trans (same_new np3 (.tup [.ty "str", .ty "dict"]))
  refine ⟨_, tp3, _, _, _, true, rfl, upd_same, pr3, .base (.str (ch y)), kit_sd (r := true) (s := false) (by decide +kernel) (by decide +kernel), _, rfl, iteT ?_⟩
  refine ⟨_, rfl, _, _, _, _, true, rfl, .ty _, .base (.str (ch x)), kit_ty (by decide +kernel), _, rfl, _, _, _, _, true, rfl, .ty _, .base (.str (ch y)), kit_ty (by decide +kernel), rfl, _, rfl, iteT ?_⟩
  refine ⟨_, rfl, _, rfl, rfl, ?_⟩
  rw [vc_dec]
  exact q _ s3
theorem ok_sameW (F : Fun K "_law_same" "_law_same" s__law_same f fd) (b : Binds K fd ["_law_found", "_law_due"] []) (g : mg "_law_same" = some (.ref f)) (M : Mgs mg) : FnOk P w K mg base CX0 2 f fd ["_law_found", "_law_due"] spSameW := by
  have Dself : Df P w K mg base 1 "_law_same" ["_law_found", "_law_due"] spSameC := ⟨f, fd, ok_sameC F b g M, b, F.kp, g⟩
  refine F.ok (k := 1) sc__law_same (fun vs H Q E h => ?_) (fun cdv A outer s H vs Q E hr h => ?_)
  · obtain ⟨a, b, cs, ds, rfl, _⟩ := h
    rfl
  obtain ⟨p, p', cs, ds, rfl, hq, hq', hl, h4, q⟩ := h
  refine ⟨_, (pss_cons (ps_if (pt_val (pe_callB call_isiT rfl M.isinstance (by decide +kernel) (pa_cons (pv 1) (pa_cons (pe_tup (pa_cons (pe_bltn (v := .ty "list") rfl M.list (by decide +kernel) rfl) (pa_cons (pe_bltn (v := .ty "tuple") rfl M.tuple (by decide +kernel) rfl) pa_nil))) pa_nil))))
      (pss_cons (ps_if (PW.pt (pw_or (pt_cmpR op_ne (pe_callB call_isi rfl M.isinstance (by decide +kernel) (pa_cons (pv 0) (pa_cons (pe_bltn (v := .ty "tuple") rfl M.tuple (by decide +kernel) rfl) pa_nil))) (pe_callB call_isi rfl M.isinstance (by decide +kernel) (pa_cons (pv 1) (pa_cons (pe_bltn (v := .ty "tuple") rfl M.tuple (by decide +kernel) rfl) pa_nil))) (nomark _)) (pw_or1 (pt_not (pt_val (pe_callB call_isiT rfl M.isinstance (by decide +kernel) (pa_cons (pv 0) (pa_cons (pe_tup (pa_cons (pe_bltn (v := .ty "tuple") rfl M.tuple (by decide +kernel) rfl) (pa_cons (pe_bltn (v := .ty "list") rfl M.list (by decide +kernel) rfl) pa_nil))) pa_nil))))))))
      (pss_one (ps_ret pe_bl)) pss_nil)
    (pss_cons (ps_if (pt_cmpR op_ne (pe_callB call_len_seq rfl M.len PySem.boot_len (pa_cons (pv 0) pa_nil)) (pe_callB call_len_seq rfl M.len PySem.boot_len (pa_cons (pv 1) pa_nil)) (nomark _))
      (pss_one (ps_ret pe_bl)) pss_nil)
    (pss_one (ps_ret (pe_cmpR (show OpR _ (compareOp .Eq) (rEqNil K) from op_eqL hr.units0) (pe_lc (own := [("_law_k", 2)]) (g := gName 2) rfl sc__law_same.nd (pi_range1 rfl M.range (pa_cons (pe_callB call_len_seq rfl M.len PySem.boot_len (pa_cons (pv 1) pa_nil)) pa_nil)) (blkOk_by (N := ["_law_found", "_law_due", "_law_k"]) (sc := defScope s__law_same) (by decide +kernel)) (fun _ _ _ _ _ => (pg_name (i := 2) sc__law_same.nd rfl (.inl rfl))) (fun _ _ _ _ _ => pts_one (pt_not (pt_val (pe_call Dself.ok (hr.mono (by omega)) rfl Dself.g Dself.kp Dself.b .nil pass0 (pa_cons (pe_ix (show IxR _ (rIx K) from ix_seq) (pv 0) (pv 2) (fun _ _ => rfl)) (pa_cons (pe_ix (show IxR _ (rIx K) from ix_seq) (pv 1) (pv 2) (fun _ _ => rfl)) pa_nil)))))) (fun _ _ _ _ _ => (pv 2))) (pe_lst pa_nil) (nomark _)))))) pss_nil)
    (pss_cons (ps_if (pt_cmpR op_isN (pv 1) pe_non (nomark _))
      (pss_one (ps_ret (pe_cmpR op_isN (pv 0) pe_non (nomark _)))) pss_nil)
    (pss_cons (ps_if (pt_val (pe_callB call_isiT rfl M.isinstance (by decide +kernel) (pa_cons (pv 1) (pa_cons (pe_tup (pa_cons (pe_bltn (v := .ty "str") rfl M.str (by decide +kernel) rfl) (pa_cons (pe_bltn (v := .ty "dict") rfl M.dict (by decide +kernel) rfl) pa_nil))) pa_nil))))
      (pss_one (ps_ret (pe_and (pe_cmpR op_eq (pe_callB call_isi rfl M.isinstance (by decide +kernel) (pa_cons (pv 0) (pa_cons (pe_bltn (v := .ty "str") rfl M.str (by decide +kernel) rfl) pa_nil))) (pe_callB call_isi rfl M.isinstance (by decide +kernel) (pa_cons (pv 1) (pa_cons (pe_bltn (v := .ty "str") rfl M.str (by decide +kernel) rfl) pa_nil))) (nomark _)) (pe_one (pe_cmpR op_eq (pv 0) (pv 1) (nomark _)))))) pss_nil)
    (pss_one (ps_ret (pe_and (pe_callB call_isi rfl M.isinstance (by decide +kernel) (pa_cons (pv 0) (pa_cons (pe_bltn (v := .ty "int") rfl M.int (by decide +kernel) rfl) pa_nil))) (pe_and (pe_cmpR op_eq (pe_callB call_isi rfl M.isinstance (by decide +kernel) (pa_cons (pv 0) (pa_cons (pe_bltn (v := .ty "bool") rfl M.bool (by decide +kernel) rfl) pa_nil))) (pe_callB call_isi rfl M.isinstance (by decide +kernel) (pa_cons (pv 1) (pa_cons (pe_bltn (v := .ty "bool") rfl M.bool (by decide +kernel) rfl) pa_nil))) (nomark _)) (pe_one (pe_cmpR op_eq (pv 0) (pv 1) (nomark _)))))))))), ?_⟩
  refine ⟨_, rfl, (by show 2 ≤ sizeLine; decide), fun tp np => ?_⟩
  have s1 := same_new np (.tup [.ty "list", .ty "tuple"])
  have pr : Paired ClsV [V.ty "list", V.ty "tuple"] [Value.type "list", Value.type "tuple"] := .cons (.ty _) (.cons (.ty _) .nil)
  have pr2 : Paired ClsV [V.ty "tuple", V.ty "list"] [Value.type "tuple", Value.type "list"] := .cons (.ty _) (.cons (.ty _) .nil)
  have k1 : kitB "tuple" "list" = some false := by decide +kernel
  have k2 : kitB "tuple" "tuple" = some true := by decide +kernel
  have etp := upd_same (H := H) (a := tp) (o := .tup [.ty "list", .ty "tuple"])
  have e1 := s1 _ _ hq
  have e1' := s1 _ _ hq'
  generalize upd H tp (.tup [.ty "list", .ty "tuple"]) = H1 at s1 etp e1 e1' ⊢
  refine ⟨_, tp, _, _, _, true, rfl, etp, pr, .base (.tup e1'), kit_lt k1 k2, _, rfl, iteT ?_⟩
  refine ⟨_, rfl, _, _, _, _, true, rfl, .ty _, .base (.tup e1), kit_ty k2, _, rfl, _, _, _, _, true, rfl, .ty _, .base (.tup e1'), kit_ty k2, rfl, _, rfl, iteNS rfl ?_⟩
  refine ⟨_, rfl, (by show 2 ≤ sizeLine; decide), fun tp2 np2 => ?_⟩
  have s2 := same_new np2 (.tup [.ty "tuple", .ty "list"])
  have etp2 := upd_same (H := H1) (a := tp2) (o := .tup [.ty "tuple", .ty "list"])
  have s12 := s1.trans s2
  have e2 := s2 _ _ e1
  have e2' := s2 _ _ e1'
  generalize upd H1 tp2 (.tup [.ty "tuple", .ty "list"]) = H2 at s12 etp2 e2 e2' ⊢
  refine ⟨_, tp2, _, _, _, true, rfl, etp2, pr2, .base (.tup e2), kit_tl k1 k2, _, rfl, iteF ?_⟩
  refine ⟨_, rfl, p, _, rfl, .inr (SqT.of e2), _, rfl, p', _, rfl, .inr (SqT.of e2'), rfl, _, rfl, iteNS (by rw [List.length_map, List.length_map, hl]) ?_⟩
  refine ⟨_, rfl, p', _, rfl, .inr (SqT.of e2'), _, rfl, ?_, ?_, fun D nD => ?_⟩
  · rw [List.length_map]; omega
  · rw [List.length_map]; omega
  have s3 := same_new nD (.lst [])
  rw [List.length_map, Int.toNat_natCast]
  refine lc_range (lo := 0) (n := ds.length) (fun i H' => Same H2 H' ∧ ∃ us : List V, H' D = some (.lst us) ∧ us.length ≤ i ∧ (us = [] ↔ cs.take i = ds.take i)) ⟨s3, [], upd_same, Nat.le_refl _, by simp⟩ (fun i H' hi hp => ?_) (fun H' hp => ?_)
  · obtain ⟨sm, us, eD, ul, hu⟩ := hp
    obtain ⟨a, ha⟩ : ∃ a, cs[i]? = some a := ⟨_, List.getElem?_eq_getElem (by omega)⟩
    obtain ⟨b', hb⟩ : ∃ b, ds[i]? = some b := ⟨_, List.getElem?_eq_getElem hi⟩
    have ga : (cs.map vc)[i]? = some (vc a) := by rw [List.getElem?_map, ha]; rfl
    have gb : (ds.map vc)[i]? = some (vc b') := by rw [List.getElem?_map, hb]; rfl
    have tn := take_eq_next ha hb
    have e0 : (0 : Int) + (i : Int) = ((i : Nat) : Int) := by omega
    rw [e0]
    refine ⟨rfl, ?_⟩
    refine ⟨_, rfl, _, rfl, seq_ix (.inr (SqT.of (sm _ _ e2))) (atI_nat ga) ⟨_, rfl, _, rfl, seq_ix (.inr (SqT.of (sm _ _ e2'))) (atI_nat gb) ⟨a, b', rfl, fun H'' s'' => ?_⟩⟩⟩
    refine ⟨_, rfl, ?_⟩
    have eD2 := s'' _ _ eD
    by_cases hab : a = b'
    · rw [decide_eq_true hab]
      exact iteF ⟨sm.trans s'', us, eD2, by omega, by rw [tn, hu]; exact ⟨fun z => ⟨z, hab⟩, fun z => z.1⟩⟩
    · rw [decide_eq_false hab]
      refine iteT ⟨_, rfl, _, eD2, small1000 (by omega), fun c o e => ?_, us ++ [.int (i : Int)], upd_same, by rw [List.length_append]; show _ + 1 ≤ _; omega, ?_⟩
      · rw [upd_ne (ne_of_none e nD)]; exact s'' _ _ (sm _ _ e)
      · rw [tn]
        exact ⟨fun z => absurd z (by simp), fun z => absurd z.2 hab⟩
  · obtain ⟨sm, us, eD, ul, hu⟩ := hp
    refine ⟨(by show 0 ≤ sizeLine; decide), fun e ne => ?_⟩
    refine ⟨D, e, us, rfl, rfl, SqL.of ((same_new ne _) _ _ eD), SqL.of upd_same, ?_⟩
    have t1 : cs.take ds.length = cs := List.take_of_length_le (by omega)
    rw [t1, List.take_length] at hu
    have eb : us.isEmpty = decide (cs = ds) := by
      by_cases h : cs = ds
      · rw [decide_eq_true h, hu.mpr h]; rfl
      · rw [decide_eq_false h]
        cases us with
        | nil => exact absurd (hu.mp rfl) h
        | cons _ _ => rfl
    rw [eb]
    exact q _ (s12.trans (sm.trans (same_new ne _)))
theorem ok_sameU (F : Fun K "_law_same" "_law_same" s__law_same f fd) (b : Binds K fd ["_law_found", "_law_due"] []) (g : mg "_law_same" = some (.ref f)) (M : Mgs mg) (n : Nat) (hn : 2 ≤ n) : FnOk P w K mg base CX0 n f fd ["_law_found", "_law_due"] (spSameU K n) := by
  have h1 := ok_same (P := P) (w := w) (base := base) F b g M n
  have h2 := (ok_sameW (P := P) (w := w) (base := base) F b g M).mono hn
  exact ⟨fun vs H Q E h => h.elim (h1.len vs H Q E) (h2.len vs H Q E), fun A outer s H args us vs Q E a b' c d h => h.elim (h1.run A outer s H args us vs Q E a b' c d) (h2.run A outer s H args us vs Q E a b' c d)⟩
end
/-! ### _law_is_tree, _law_sided, _law_certificate_right -/
def Sd : B → Prop
  | .nil => True
  | .node l _ r => (l = .nil → r = .nil) ∧ Sd l ∧ Sd r
theorem sd_mk2 {L : List B} {x : Nat} (h : ∀ t ∈ L, t ≠ .nil ∧ Sd t) : Sd (B.mk2 L x) := by
  match L, h with
  | [], _ => exact ⟨fun _ => rfl, trivial, trivial⟩
  | [a], h =>
    have ha := h a List.mem_cons_self
    exact ⟨fun z => absurd z ha.1, ha.2, trivial⟩
  | a :: b :: _, h =>
    have ha := h a List.mem_cons_self
    have hb := h b (List.mem_cons_of_mem _ List.mem_cons_self)
    exact ⟨fun z => absurd z ha.1, ha.2, hb.2⟩
theorem sd_bs : ∀ t : B, ∀ u ∈ t.bs, u ≠ .nil ∧ Sd u
  | .nil, u, h => by cases h
  | .node l x r, u, h => by
    rcases List.mem_cons.mp h with rfl | h
    · exact ⟨mk2_ne _ _, sd_mk2 (sd_bs l)⟩
    · exact sd_bs r u h
def spLTree (N : Nat) : Sp := fun vs H Q _ => ∃ (v : V) (t : B), vs = [v] ∧ BAt H v t ∧ t ≠ .nil ∧ ltB t ∧ t.size < N ∧ ∀ H', Same H H' → Q (.bl true) H'
def spSided (N : Nat) : Sp := fun vs H Q _ => ∃ (v : V) (t : B) (Ls : List Nat), vs = [v, .str (tx Ls)] ∧ BAt H v t ∧ Sd t ∧ (∀ c ∈ t.pre, c ∈ Ls) ∧ t.size < N ∧ ∀ (v' : V) (H' : Hp), Same H H' → BAt H' v' t → Q v' H'
theorem alph : Str.ofString "abcdefghijklmnopqrstuvwxyz" = tx (List.range' 97 26) := by decide +kernel
theorem BAt.isNil' {H : Hp} {v : V} {t : B} (h : BAt H v t) : decide (v = .non) = decide (t = .nil) := by
  cases h with
  | nil => rfl
  | node _ _ _ => rfl
section
variable {P : Program} {w : World} {K : PySem.W.Frag} {mg : Str → Option Value} {base : Heap} {f : Addr} {fd : FuncData}
theorem ok_ltree (F : Fun K "_law_is_tree" "_law_is_tree" s__law_is_tree f fd) (M : Mgs mg) (b : Binds K fd ["_law_value"] []) (g : mg "_law_is_tree" = some (.ref f)) : ∀ n : Nat, FnOk P w K mg base CX0 n f fd ["_law_value"] (spLTree n)
  | 0 => by
    have no : ∀ vs H Q E, ¬ spLTree 0 vs H Q E := fun vs H Q E h => by
      obtain ⟨v, t, _, _, _, _, h1, _⟩ := h
      exact absurd h1 (Nat.not_lt_zero _)
    exact ⟨fun vs H Q E h => absurd h (no vs H Q E), fun A outer s H args us vs Q E _ _ _ _ h => absurd h (no vs H Q E)⟩
  | n + 1 => by
    have Dself : Df P w K mg base n "_law_is_tree" ["_law_value"] (spLTree n) := ⟨f, fd, ok_ltree F M b g n, b, F.kp, g⟩
    refine F.ok sc__law_is_tree (fun vs H Q E h => ?_) (fun cdv A outer s H vs Q E hr h => ?_)
    · obtain ⟨v, t, rfl, _⟩ := h
      rfl
    obtain ⟨v, t, rfl, hv, hn, lt, hz, q⟩ := h
    refine ⟨_, (pss_cons (ps_if (PW.pt (pw_or (pt_not (pt_val (pe_callB call_isi rfl M.isinstance (by decide +kernel) (pa_cons (pv 0) (pa_cons (pe_bltn (v := .ty "tuple") rfl M.tuple (by decide +kernel) rfl) pa_nil))))) (pw_or (pt_cmpR op_ne (pe_callB call_len_seq rfl M.len PySem.boot_len (pa_cons (pv 0) pa_nil)) pe_int (nomark _)) (pw_or1 (pt_not (pt_val (pe_callB call_isi rfl M.isinstance (by decide +kernel) (pa_cons (pe_ix ix_tup (pv 0) pe_int (fun _ _ => rfl)) (pa_cons (pe_bltn (v := .ty "str") rfl M.str (by decide +kernel) rfl) pa_nil)))))))))
      (pss_one (ps_ret pe_bl)) pss_nil)
    (pss_cons (ps_if (PW.pt (pw_or (pt_cmpR op_ne (pe_callB call_len_str rfl M.len PySem.boot_len (pa_cons (pe_ix ix_tup (pv 0) pe_int (fun _ _ => rfl)) pa_nil)) pe_int (nomark _)) (pw_or1 (pt_cmpR op_notIn_str (pe_ix ix_tup (pv 0) pe_int (fun _ _ => rfl)) pe_str (by rfl)))))
      (pss_one (ps_ret pe_bl)) pss_nil)
    (pss_one (ps_ret (pe_cmpR (op_eqD hr.units) (pe_lc (own := [("_law_part", 1)]) (g := gName 1) rfl sc__law_is_tree.nd (pi_tup (pe_odd (pv 0))) (blkOk_by (N := ["_law_value", "_law_part"]) (sc := defScope s__law_is_tree) (by decide +kernel)) (fun _ _ _ _ _ => (pg_name (i := 1) sc__law_is_tree.nd rfl (.inl rfl))) (fun _ _ _ _ _ => pts_one (PW.pt (pw_and (pt_cmpR op_notN (pv 1) pe_non (nomark _)) (pw_and1 (pt_not (pt_val (pe_call Dself.ok (hr.mono (by omega)) rfl Dself.g Dself.kp Dself.b .nil pass0 (pa_cons (pv 1) pa_nil)))))))) (fun _ _ _ _ _ => (pv 1))) (pe_lst pa_nil) (nomark _)))))), ?_⟩
    rcases hv.inv with ⟨_, z⟩ | ⟨a, l, r, x, tl, tr, rfl, rfl, ea, hl, hr'⟩
    · exact absurd z hn
    have sz : tl.size + 1 + tr.size < n + 1 := hz
    refine ⟨_, rfl, _, _, _, _, true, rfl, .ty _, .base (.tup ea), kit_ty (by decide +kernel), _, rfl, iteF ?_⟩
    refine ⟨_, rfl, a, _, rfl, .inr (SqT.of ea), rfl, _, rfl, iteNS rfl ?_⟩
    refine ⟨_, rfl, a, _, _, _, rfl, rfl, SqT.of ea, atI_nat (j := 1) rfl, _, _, _, _, true, rfl, .ty _, .base (.str _), kit_ty (by decide +kernel), _, rfl, iteF ?_⟩
    refine ⟨_, rfl, a, _, _, _, rfl, rfl, SqT.of ea, atI_nat (j := 1) rfl, ch x, rfl, (by show 1 ≤ sizeLine; decide), rfl, _, rfl, iteNS rfl ?_⟩
    refine ⟨_, rfl, a, _, _, _, rfl, rfl, SqT.of ea, atI_nat (j := 1) rfl, _, _, rfl, rfl, _, rfl, ?_⟩
    have hx := lt.x
    obtain ⟨rest, ho⟩ := (occ_pos (L := List.range' 97 26) (c := x) (by rw [List.mem_range']; exact ⟨x - 97, by omega, by omega⟩)).1
    rw [alph, ho]
    refine iteF ?_
    refine ⟨_, rfl, a, _, _, _, rfl, SqT.of ea, fun p np => ?_⟩
    have k1 := same_new np (.tup [l, r])
    have ep := upd_same (H := H) (a := p) (o := .tup [l, r])
    generalize upd H p (.tup [l, r]) = H1 at k1 ep ⊢
    refine ⟨p, rfl, ⟨_, SqT.of ep⟩, fun D nD => ?_⟩
    have k2 := same_new nD (.lst [])
    refine lc_tup (K := K) (a := p) (xs := [l, r]) (fun i H' => Same H1 H' ∧ H' D = some (.lst [])) ⟨k2, upd_same⟩ (fun i H' _ hq => SqT.of (hq.1 _ _ ep)) (fun i v H2 hv hq => ?_) (fun H2 hq => ?_)
    · obtain ⟨s2, e2⟩ := hq
      obtain ⟨t, ht, htn, hts⟩ : ∃ t, BAt H v t ∧ ltB t ∧ t.size < n := by
        match i, hv with
        | 0, h => cases h; exact ⟨tl, hl, lt.l, by omega⟩
        | 1, h => cases h; exact ⟨tr, hr', lt.r, by omega⟩
      refine ⟨rfl, ?_⟩
      refine ⟨_, rfl, rfl, _, rfl, ?_⟩
      rcases ht.inv with ⟨rfl, _⟩ | ⟨a', _, _, _, _, _, rfl, e', _, _, _⟩
      · exact iteF ⟨s2, e2⟩
      · refine iteT ?_
        refine ⟨_, rfl, _, t, rfl, (ht.same k1).same s2, (by rw [e']; exact (fun z => nomatch z)), htn, hts, fun H3 s3 => ?_⟩
        exact ⟨_, rfl, iteF ⟨s2.trans s3, s3 _ _ e2⟩⟩
    · obtain ⟨s2, e2⟩ := hq
      refine ⟨(by show 0 ≤ sizeLine; decide), fun e ne => ?_⟩
      refine ⟨.list [], .list [], .lst (SqL.of ((same_new ne _) _ _ e2)) .nil, .lst (SqL.of upd_same) .nil, rfl, rfl, ?_⟩
      exact q _ (k1.trans (s2.trans (same_new ne _)))
theorem ok_sided (F : Fun K "_law_sided" "_law_sided" s__law_sided f fd) (b : Binds K fd ["_law_tree", "_law_lefts"] []) (g : mg "_law_sided" = some (.ref f)) : ∀ n : Nat, FnOk P w K mg base CX0 n f fd ["_law_tree", "_law_lefts"] (spSided n)
  | 0 => by
    have no : ∀ vs H Q E, ¬ spSided 0 vs H Q E := fun vs H Q E h => by
      obtain ⟨v, t, Ls, _, _, _, _, h1, _⟩ := h
      exact absurd h1 (Nat.not_lt_zero _)
    exact ⟨fun vs H Q E h => absurd h (no vs H Q E), fun A outer s H args us vs Q E _ _ _ _ h => absurd h (no vs H Q E)⟩
  | n + 1 => by
    have Dself : Df P w K mg base n "_law_sided" ["_law_tree", "_law_lefts"] (spSided n) := ⟨f, fd, ok_sided F b g n, b, F.kp, g⟩
    refine F.ok sc__law_sided (fun vs H Q E h => ?_) (fun cdv A outer s H vs Q E hr h => ?_)
    · obtain ⟨v, t, Ls, rfl, _⟩ := h
      rfl
    obtain ⟨v, t, Ls, rfl, hv, sd, hL, hz, q⟩ := h
    refine ⟨_, (pss_cons (ps_if (pt_cmpR op_isN (pv 0) pe_non (nomark _))
      (pss_one (ps_ret pe_non)) pss_nil)
    (pss_cons (ps_par (i := 2) (j := 3) (by rfl) sc__law_sided.nd rfl rfl (by decide) rfl rfl (pa_cons (pe_call Dself.ok (hr.mono (by omega)) rfl Dself.g Dself.kp Dself.b .nil pass0 (pa_cons (pe_ix ix_tup (pv 0) pe_int (fun _ _ => rfl)) (pa_cons (pv 1) pa_nil))) (pa_cons (pe_call Dself.ok (hr.mono (by omega)) rfl Dself.g Dself.kp Dself.b .nil pass0 (pa_cons (pe_ix ix_tup (pv 0) pe_int (fun _ _ => rfl)) (pa_cons (pv 1) pa_nil))) pa_nil)) (by rfl))
    (pss_cons (ps_if (pt_cmpR op_ne (pe_cmpR op_isN (pv 2) pe_non (nomark _)) (pe_cmpR op_isN (pv 3) pe_non (nomark _)) (nomark _))
      (pss_cons (ps_set (i := 4) sc__law_sided.nd rfl (.inl rfl) (pe_ifExp (pt_cmpR op_isN (pv 3) pe_non (nomark _)) (pv 2) (pv 3)))
    (pss_one (ps_asg (pe_ifExp (pt_cmpR op_in_sign (pe_ix ix_tup (pv 0) pe_int (fun _ _ => rfl)) (pv 1) (by rfl)) (pe_tup (pa_cons (pv 4) (pa_cons pe_non pa_nil))) (pe_tup (pa_cons pe_non (pa_cons (pv 4) pa_nil)))) (pg_tup rfl (pgs_cons (pg_name (i := 2) sc__law_sided.nd rfl (.inl rfl)) (pgs_cons (pg_name (i := 3) sc__law_sided.nd rfl (.inl rfl)) pgs_nil)))))) pss_nil)
    (pss_one (ps_ret (pe_tup (pa_cons (pv 2) (pa_cons (pe_ix ix_tup (pv 0) pe_int (fun _ _ => rfl)) (pa_cons (pv 3) pa_nil))))))))), ?_⟩
    rcases hv.inv with ⟨rfl, rfl⟩ | ⟨a, l, r, x, tl, tr, rfl, rfl, ea, hl, hr'⟩
    · refine ⟨_, rfl, rfl, _, rfl, iteT ?_⟩
      exact q _ H (Same.refl _) .nil
    have sz : tl.size + 1 + tr.size < n + 1 := hz
    obtain ⟨sd0, sdl, sdr⟩ := sd
    refine ⟨_, rfl, rfl, _, rfl, iteF ?_⟩
    refine ⟨_, rfl, a, _, _, _, rfl, rfl, SqT.of ea, atI_nat (j := 0) rfl, _, rfl, l, tl, Ls, rfl, hl, sdl, fun c hc => hL c (List.mem_cons_of_mem _ (List.mem_append_left _ hc)), by omega, fun v1 H1 s1 h1 => ?_⟩
    refine ⟨_, rfl, a, _, _, _, rfl, rfl, SqT.of (s1 _ _ ea), atI_nat (j := 2) rfl, _, rfl, r, tr, Ls, rfl, hr'.same s1, sdr, fun c hc => hL c (List.mem_cons_of_mem _ (List.mem_append_right _ hc)), by omega, fun v2 H2 s2 h2 => ?_⟩
    refine ⟨_, _, rfl, ?_⟩
    have s12 := s1.trans s2
    have ea2 := s12 _ _ ea
    have h12 := h1.same s2
    have fin : ∀ {Hx : Hp}, Same H2 Hx → ∀ {t : Addr}, Hx t = none → Q (.ref t) (upd Hx t (.tup [v1, .str (ch x), v2])) := fun {Hx} sx {t} nt => by
      have k := sx.trans (same_new nt (.tup [v1, .str (ch x), v2]))
      exact q _ _ (s12.trans k) (.node upd_same (h12.same k) (h2.same k))
    refine ⟨_, rfl, rfl, _, rfl, rfl, rfl, _, rfl, ?_⟩
    rw [h12.isNil', h2.isNil']
    by_cases nl : tl = .nil
    · have nr := sd0 nl
      subst nl nr
      refine iteF ?_
      exact ⟨_, rfl, _, rfl, a, _, _, _, rfl, rfl, SqT.of ea2, atI_nat (j := 1) rfl, _, rfl, (by show 3 ≤ sizeLine; decide), fun t nt => fin (Same.refl _) nt⟩
    · by_cases nr : tr = .nil
      · have e2 : v2 = .non := by
          have := h2.isNil'
          rw [decide_eq_true nr] at this
          exact of_decide_eq_true this
        rw [decide_eq_false nl, decide_eq_true nr]
        refine iteT ?_
        subst e2
        refine ⟨_, rfl, rfl, _, rfl, iteT ?_⟩
        refine ⟨_, rfl, ?_⟩
        refine ⟨_, rfl, a, _, _, _, rfl, rfl, SqT.of ea2, atI_nat (j := 1) rfl, _, rfl, x, tx Ls, rfl, rfl, _, rfl, ?_⟩
        rw [show decide (x ∈ (tx Ls).cps.toList) = true from decide_eq_true (hL x List.mem_cons_self)]
        refine iteT ?_
        refine ⟨_, rfl, (by show 2 ≤ sizeLine; decide), fun p np => ?_⟩
        have k3 := same_new np (.tup [v1, .non])
        refine ⟨p, _, rfl, SqT.of upd_same, rfl, _, _, rfl, _, _, rfl, rfl, ?_⟩
        exact ⟨_, rfl, _, rfl, a, _, _, _, rfl, rfl, SqT.of (k3 _ _ ea2), atI_nat (j := 1) rfl, _, rfl, (by show 3 ≤ sizeLine; decide), fun t nt => fin k3 nt⟩
      · rw [decide_eq_false nl, decide_eq_false nr]
        refine iteF ?_
        exact ⟨_, rfl, _, rfl, a, _, _, _, rfl, rfl, SqT.of ea2, atI_nat (j := 1) rfl, _, rfl, (by show 3 ≤ sizeLine; decide), fun t nt => fin (Same.refl _) nt⟩
end
/-! ### _law_certificate_right -/
theorem iteNR {x y : Str} {A B : Prop} (h : x ≠ y) (a : A) : if (!decide (V.str x = V.str y)) = true then A else B := by
  rw [decide_eq_false (fun z => h (V.str.inj z))]
  exact a
theorem data_depth : ∀ t : B, t.data.depth ≤ t.size
  | .nil => Nat.le_refl _
  | .node l x r => by
    have h1 := data_depth l
    have h2 := data_depth r
    show (PyData.tuple [l.data, .str (ch x), r.data]).depth ≤ l.size + 1 + r.size
    simp only [PyData.depth, PyData.depthAll]
    omega
theorem data_nar : ∀ t : B, nar t.data = true
  | .nil => rfl
  | .node l x r => by
    show nar (PyData.tuple [l.data, .str (ch x), r.data]) = true
    simp only [nar, narAll, data_nar l, data_nar r, Bool.and_self, List.length_cons, List.length_nil]
    rfl
theorem CertAt.word {H : Hp} {fr bk : List Nat} {v : V} (nd : fr.Nodup) (h : CertAt H fr bk v) : ∃ r W u, v = .ref r ∧ H r = some (.tup [.str W, u]) ∧ wordOf fr bk = W ∧
    ((W = "root" ∧ ∃ c, fr[0]? = some c ∧ u = vc c) ∨ (W = "triple" ∧ ∃ t cs, u = .ref t ∧ Ct fr bk cs ∧ cs.length = 3 ∧ H t = some (.tup (cs.map vc))) ∨ (W = "crowd" ∧ ∃ t cs, u = .ref t ∧ Cc fr bk cs ∧ cs.length = 4 ∧ H t = some (.tup (cs.map vc))) ∨
      (W = "tree" ∧ ∃ T : B, BAt H u T ∧ T ≠ .nil ∧ T.pre = fr ∧ T.post = bk ∧ Sd T)) := by
  cases h with
  | @reason r hb hr =>
    cases hr with
    | root hw h0 er => exact ⟨_, _, _, rfl, er, by unfold wordOf; rw [hw]; rfl, .inl ⟨rfl, _, h0, rfl⟩⟩
    | @triple _ t x y z hw ht hmn er et => exact ⟨_, _, _, rfl, er, by unfold wordOf; rw [hw, ht.triB]; rfl, .inr (.inl ⟨rfl, t, [x, y, z], rfl, ⟨x, y, z, rfl, ht⟩, rfl, et.at'⟩)⟩
    | @crowd _ t c hw htb hc h2 hfst er et =>
      obtain ⟨x, y, z, ek, hcr⟩ := crowd_of nd hc h2
      have cb : crowdB fr bk = true := List.any_eq_true.mpr ⟨c, hc, decide_eq_true h2⟩
      exact ⟨_, _, _, rfl, er, by unfold wordOf; rw [hw, htb, cb]; rfl, .inr (.inr (.inl ⟨rfl, t, c :: (kids fr bk c).take 3, rfl, ⟨c, hc, h2, rfl⟩, by rw [ek]; rfl, et⟩))⟩
  | @tree r u l x hb hpk e1 e2 hn er hu =>
    obtain ⟨m1, m2⟩ := mk2_walks hn
    have hb' := hb
    unfold badB at hb'
    rw [Bool.or_eq_false_iff, Bool.or_eq_false_iff] at hb'
    exact ⟨_, _, _, rfl, er, by unfold wordOf; rw [hb'.1, hb'.2.1, hb'.2.2]; rfl, .inr (.inr (.inr ⟨rfl, _, hu, mk2_ne _ _, by rw [m1, e1], by rw [m2, e2], sd_mk2 (sd_bs l)⟩))⟩
/-- a pair has one certificate -/
theorem CertAt.one {K : PySem.W.Frag} {fr bk : List Nat} (nd : fr.Nodup) (h12 : fr.length ≤ 12) : (badB fr bk = badB fr bk) → ∃ d : PyData, d.depth ≤ 16 ∧ nar d = true ∧ ∀ (H : Hp) (v : V), CertAt H fr bk v → Dp K H v d := by
  intro _
  by_cases hex : ∃ H v, CertAt H fr bk v
  · obtain ⟨H0, v0, h0⟩ := hex
    cases h0 with
    | @tree r u l x hb hpk e1 e2 hn er hu =>
      refine ⟨.tuple [.str "tree", (B.mk2 l.bs x).data], ?_, ?_, fun H v h => ?_⟩
      · have h1 := data_depth (B.mk2 l.bs x)
        have h2 : (B.mk2 l.bs x).size ≤ 12 := by rw [← B.pre_len, (mk2_walks hn).1, ← e1]; exact h12
        simp only [PyData.depth, PyData.depthAll]
        omega
      · simp only [nar, narAll, data_nar, Bool.and_self, List.length_cons, List.length_nil]
        rfl
      · cases h with
        | reason hb' _ => rw [hb] at hb'; cases hb'
        | @tree r' u' l' x' _ hpk' _ _ _ er' hu' =>
          have : (l', x') = (l, x) := by rw [hpk', hpk]
          cases this
          exact .tup (SqT.of er') (.cons (.str _) (.cons hu'.dp .nil))
    | @reason r hb hr =>
      have nt : ∀ {H : Hp} {v : V}, CertAt H fr bk v → ∃ r, v = .ref r ∧ ReasonAt H fr bk (.ref r) := fun {H v} h => by
        cases h with
        | reason _ h => exact ⟨_, rfl, h⟩
        | tree hb' _ _ _ _ _ _ => rw [hb] at hb'; cases hb'
      cases hr with
      | @root _ c hw h0 er =>
        refine ⟨.tuple [.str "root", .str (ch c)], by simp only [PyData.depth, PyData.depthAll]; decide, rfl, fun H v h => ?_⟩
        obtain ⟨r', rfl, hh⟩ := nt h
        clear h
        cases hh with
        | root _ h0' er' =>
          rw [h0] at h0'
          cases h0'
          exact .tup (SqT.of er') (.cons (.str _) (.cons (.str _) .nil))
        | triple hw' _ _ _ _ => rw [hw] at hw'; cases hw'
        | crowd hw' _ _ _ _ _ _ => rw [hw] at hw'; cases hw'
      | @triple _ t x y z hw ht hmn er et =>
        refine ⟨.tuple [.str "triple", .tuple [.str (ch x), .str (ch y), .str (ch z)]], by simp only [PyData.depth, PyData.depthAll]; decide, rfl, fun H v h => ?_⟩
        obtain ⟨r', rfl, hh⟩ := nt h
        clear h
        cases hh with
        | root hw' _ _ => rw [hw] at hw'; cases hw'
        | @triple _ t' x' y' z' _ ht' hmn' er' et' =>
          have a1 := hmn _ ht'
          have a2 := hmn' _ ht
          unfold leT at a1 a2
          simp only at a1 a2
          have ez : z' = z := pos_inj ht'.2.2.1 ht.2.2.1 (by omega)
          have ey : y' = y := pos_inj ht'.2.1 ht.2.1 (by omega)
          have ex : x' = x := pos_inj ht'.1 ht.1 (by omega)
          subst ez ey ex
          exact .tup (SqT.of er') (.cons (.str _) (.cons (.tup (SqT.of et'.at') (.cons (.str _) (.cons (.str _) (.cons (.str _) .nil)))) .nil))
        | crowd _ htb _ _ _ _ _ => rw [ht.triB] at htb; cases htb
      | @crowd _ t c hw htb hc h2 hf er et =>
        obtain ⟨x, y, z, ek, _⟩ := crowd_of nd hc h2
        refine ⟨.tuple [.str "crowd", .tuple [.str (ch c), .str (ch x), .str (ch y), .str (ch z)]], by simp only [PyData.depth, PyData.depthAll]; decide, rfl, fun H v h => ?_⟩
        obtain ⟨r', rfl, hh⟩ := nt h
        clear h
        cases hh with
        | root hw' _ _ => rw [hw] at hw'; cases hw'
        | triple _ ht _ _ _ => rw [ht.triB] at htb; cases htb
        | @crowd _ t' c' _ _ hc' h2' hf' er' et' =>
          have ec : c' = c := pos_inj hc' hc (by
            rcases Nat.lt_trichotomy (pos fr c') (pos fr c) with z | z | z
            · exact absurd h2' (hf _ hc' z)
            · exact z
            · exact absurd h2 (hf' _ hc z))
          subst ec
          rw [ek] at et'
          exact .tup (SqT.of er') (.cons (.str _) (.cons (.tup (SqT.of et') (.cons (.str _) (.cons (.str _) (.cons (.str _) (.cons (.str _) .nil))))) .nil))
  · exact ⟨.none, by decide, rfl, fun H v h => absurd ⟨H, v, h⟩ hex⟩
def spRight : Sp := fun vs H Q _ => ∃ (p : Addr) (fr bk : List Nat) (v : V), vs = [.ref p, v] ∧ PairAt H p fr bk ∧ fr.length ≤ 12 ∧ CertAt H fr bk v ∧ ∀ H', Same H H' → Q (.bl true) H'
section
variable {P : Program} {w : World} {K : PySem.W.Frag} {mg : Str → Option Value} {base : Heap} {f : Addr} {fd : FuncData}
theorem ok_right (F : Fun K "_law_certificate_right" "_law_certificate_right" s__law_certificate_right f fd) (M : Mgs mg) (D_law_same : Df P w K mg base 20 "_law_same" ["_law_found", "_law_due"] (spSameU K 20)) (D_law_word : Df P w K mg base 4 "_law_word" ["_law_pair_here"] spWord)
    (D_law_triples : Df P w K mg base 3 "_law_triples" ["_law_pair_here"] (spWs 3 triB Ct)) (D_law_crowds : Df P w K mg base 3 "_law_crowds" ["_law_pair_here"] (spWs 4 crowdB Cc)) (D_law_is_tree : Df P w K mg base 20 "_law_is_tree" ["_law_value"] (spLTree 20))
    (D_law_front : Df P w K mg base 20 "_law_front" ["_law_tree"] (spFront 20)) (D_law_back : Df P w K mg base 20 "_law_back" ["_law_tree"] (spBack 20)) (D_law_sided : Df P w K mg base 20 "_law_sided" ["_law_tree", "_law_lefts"] (spSided 20)) :
    FnOk P w K mg base CX0 21 f fd ["_law_pair_here", "_law_told"] spRight := by
  refine F.ok (k := 20) sc__law_certificate_right (fun vs H Q E h => ?_) (fun cdv A outer s H vs Q E hr h => ?_)
  · obtain ⟨p, fr, bk, v, rfl, _⟩ := h
    rfl
  obtain ⟨p, fr, bk, v, rfl, hp, h12, hc, q⟩ := h
  obtain ⟨r, W, u, rfl, er, hW, hu⟩ := hc.word hp.lt.1
  have lz : (tx fr).length ≤ sizeLine := small (by rw [tx_len]; omega)
  refine ⟨_, (pss_cons (ps_if (PW.pt (pw_or (pt_not (pt_val (pe_callB call_isi rfl M.isinstance (by decide +kernel) (pa_cons (pv 1) (pa_cons (pe_bltn (v := .ty "tuple") rfl M.tuple (by decide +kernel) rfl) pa_nil))))) (pw_or (pt_cmpR op_ne (pe_callB call_len_seq rfl M.len PySem.boot_len (pa_cons (pv 1) pa_nil)) pe_int (nomark _)) (pw_or1 (pt_not (pt_val (pe_call D_law_same.ok (hr.mono (by omega)) rfl D_law_same.g D_law_same.kp D_law_same.b .nil pass0 (pa_cons (pe_ix ix_tup (pv 1) pe_int (fun _ _ => rfl)) (pa_cons (pe_call D_law_word.ok (hr.mono (by omega)) rfl D_law_word.g D_law_word.kp D_law_word.b .nil pass0 (pa_cons (pv 0) pa_nil)) pa_nil)))))))))
      (pss_one (ps_ret pe_bl)) pss_nil)
    (pss_cons (ps_asg (pv 1) (pg_tup rfl (pgs_cons (pg_name (i := 2) sc__law_certificate_right.nd rfl (.inl rfl)) (pgs_cons (pg_name (i := 3) sc__law_certificate_right.nd rfl (.inr rfl)) pgs_nil))))
    (pss_cons (ps_if (pt_cmpR op_eq (pv 2) pe_str (nomark _))
      (pss_one (ps_ret (pe_call D_law_same.ok (hr.mono (by omega)) rfl D_law_same.g D_law_same.kp D_law_same.b .nil pass0 (pa_cons (pv 3) (pa_cons (pe_ix ix_str (pe_ix ix_tup (pv 0) pe_int (fun _ _ => rfl)) pe_int (fun _ _ => rfl)) pa_nil))))) pss_nil)
    (pss_cons (ps_if (pt_cmpR op_ne (pv 2) pe_str (nomark _))
      (pss_cons (ps_set (i := 4) sc__law_certificate_right.nd rfl (.inl rfl) (pe_ifExp (pt_cmpR op_eq (pv 2) pe_str (nomark _)) (pe_call D_law_triples.ok (hr.mono (by omega)) rfl D_law_triples.g D_law_triples.kp D_law_triples.b .nil pass0 (pa_cons (pv 0) pa_nil)) (pe_call D_law_crowds.ok (hr.mono (by omega)) rfl D_law_crowds.g D_law_crowds.kp D_law_crowds.b .nil pass0 (pa_cons (pv 0) pa_nil))))
    (pss_one (ps_ret (pe_cmpR (op_neL hr.units0) (pe_lc (own := [("_law_one", 5)]) (g := gName 5) rfl sc__law_certificate_right.nd (pi_list (pv 4)) (blkOk_by (N := ["_law_pair_here", "_law_told", "_law_word_here", "_law_thing", "_law_some", "_law_one"]) (sc := defScope s__law_certificate_right) (by decide +kernel)) (fun _ _ _ _ _ => (pg_name (i := 5) sc__law_certificate_right.nd rfl (.inl rfl))) (fun _ _ _ _ _ => pts_one (pt_val (pe_call D_law_same.ok (hr.mono (by omega)) rfl D_law_same.g D_law_same.kp D_law_same.b .nil pass0 (pa_cons (pv 3) (pa_cons (pv 5) pa_nil))))) (fun _ _ _ _ _ => (pv 5))) (pe_lst pa_nil) (nomark _))))) pss_nil)
    (pss_cons (ps_if (PW.pt (pw_or (pt_not (pt_val (pe_call D_law_is_tree.ok (hr.mono (by omega)) rfl D_law_is_tree.g D_law_is_tree.kp D_law_is_tree.b .nil pass0 (pa_cons (pv 3) pa_nil)))) (pw_or1 (pt_not (pt_val (pe_call D_law_same.ok (hr.mono (by omega)) rfl D_law_same.g D_law_same.kp D_law_same.b .nil pass0 (pa_cons (pe_tup (pa_cons (pe_call D_law_front.ok (hr.mono (by omega)) rfl D_law_front.g D_law_front.kp D_law_front.b .nil pass0 (pa_cons (pv 3) pa_nil)) (pa_cons (pe_call D_law_back.ok (hr.mono (by omega)) rfl D_law_back.g D_law_back.kp D_law_back.b .nil pass0 (pa_cons (pv 3) pa_nil)) pa_nil))) (pa_cons (pv 0) pa_nil))))))))
      (pss_one (ps_ret pe_bl)) pss_nil)
    (pss_one (ps_ret (pe_call D_law_same.ok (hr.mono (by omega)) rfl D_law_same.g D_law_same.kp D_law_same.b .nil pass0 (pa_cons (pe_call D_law_sided.ok (hr.mono (by omega)) rfl D_law_sided.g D_law_sided.kp D_law_sided.b .nil pass0 (pa_cons (pv 3) (pa_cons (pe_ix ix_tup (pv 0) pe_int (fun _ _ => rfl)) pa_nil))) (pa_cons (pv 3) pa_nil)))))))))), ?_⟩
  refine ⟨_, rfl, _, _, _, _, true, rfl, .ty _, .base (.tup er), kit_ty (by decide +kernel), _, rfl, iteF ?_⟩
  refine ⟨_, rfl, r, _, rfl, .inr (SqT.of er), rfl, _, rfl, iteNS rfl ?_⟩
  refine ⟨_, rfl, r, _, _, _, rfl, rfl, SqT.of er, atI_nat (j := 0) rfl, _, rfl, p, fr, bk, rfl, hp, fun H1 s1 => ?_⟩
  refine .inl ⟨_, _, .str W, rfl, .str _, by rw [hW]; exact .str _, by simp only [PyData.depth]; decide, rfl, fun H2 s2 => ⟨_, rfl, iteF ?_⟩⟩
  have s12 := s1.trans s2
  have hp2 := hp.same s12
  refine ⟨_, rfl, r, _, rfl, SqT.of (s12 _ _ er), rfl, _, _, rfl, _, _, rfl, rfl, ?_⟩
  rcases hu with ⟨rfl, c, h0, rfl⟩ | ⟨rfl, t, cs, rfl, hcs, hl, et⟩ | ⟨rfl, t, cs, rfl, hcs, hl, et⟩ | ⟨rfl, T, hT, Tn, Tp, Tq, sd⟩
  · refine ⟨_, rfl, rfl, _, rfl, iteS rfl ?_⟩
    refine ⟨_, rfl, _, rfl, p, _, _, _, rfl, rfl, SqT.of hp2.at', atI_nat (j := 0) rfl, _, _, _, rfl, rfl, lz, atI_nat (j := 0) h0, ?_⟩
    exact .inl ⟨_, _, .str (ch c), rfl, .str _, .str _, by simp only [PyData.depth]; decide, rfl, fun H3 s3 => q _ (s12.trans s3)⟩
  · refine ⟨_, rfl, rfl, _, rfl, iteR (by decide +kernel) ?_⟩
    refine ⟨_, rfl, rfl, _, rfl, iteNR (by decide +kernel) ?_⟩
    refine ⟨_, rfl, rfl, _, rfl, iteS rfl ?_⟩
    have et2 := s12 _ _ et
    refine ⟨_, rfl, p, fr, bk, rfl, hp2, fun D us css H3 s3 e3 w3 l3 c3 m3 em => ?_⟩
    have mc := m3 cs hcs
    have et3 := s3 _ _ et2
    refine ⟨_, rfl, D, rfl, ⟨_, SqL.of e3⟩, fun G nG => ?_⟩
    refine lc_list (K := K) (a := D) (xs := us) (fun i H' => Same H3 H' ∧ ∃ ws : List V, H' G = some (.lst ws) ∧ ws.length ≤ i ∧ (cs ∈ css.take i → ws ≠ [])) ⟨same_new nG _, [], upd_same, Nat.le_refl _, fun z => by simp at z⟩ (fun i H' _ hq => SqL.of (hq.1 _ _ e3)) (fun i v H4 hv hq => ?_) (fun H4 hq => ?_)
    · obtain ⟨s4, ws, e4, wl, hw⟩ := hq
      obtain ⟨t', ds, rfl, hds, et'⟩ := w3.get hv
      have hi := (List.getElem?_eq_some_iff.mp hv).1
      have ld := c3 ds (List.mem_of_getElem? hds)
      refine ⟨rfl, ?_⟩
      refine ⟨_, rfl, _, rfl, .inr ⟨t, t', cs, ds, rfl, s4 _ _ et3, s4 _ _ et', by rw [hl, ld], by rw [hl]; decide, fun H5 s5 => ⟨_, rfl, ?_⟩⟩⟩
      have e5 := s5 _ _ e4
      by_cases h : cs = ds
      · rw [decide_eq_true h]
        refine iteT ⟨_, rfl, _, e5, Nat.lt_of_lt_of_le (by omega : ws.length < 1000001) (by show 1000001 ≤ 16777216; decide), fun b o e => ?_, ws ++ [.ref t'], upd_same, by rw [List.length_append]; show _ + 1 ≤ _; omega, fun _ => by simp⟩
        rw [upd_ne (ne_of_none e nG)]; exact s5 _ _ (s4 _ _ e)
      · rw [decide_eq_false h]
        refine iteF ⟨s4.trans s5, ws, e5, by omega, fun z => ?_⟩
        rw [take_nextG hds] at z
        rcases List.mem_append.mp z with z | z
        · exact hw z
        · exact absurd (List.mem_singleton.mp z) h
    · obtain ⟨s4, ws, e4, wl, hw⟩ := hq
      rw [w3.len, List.take_length] at hw
      refine ⟨(by show 0 ≤ sizeLine; decide), fun z nz => ?_⟩
      have k5 := same_new nz (.lst [])
      refine ⟨G, z, ws, rfl, rfl, SqL.of (k5 _ _ e4), SqL.of upd_same, ?_⟩
      have : (!ws.isEmpty) = true := by
        cases ws with
        | nil => exact absurd rfl (hw mc)
        | cons _ _ => rfl
      rw [this]
      exact q _ (s12.trans (s3.trans (s4.trans k5)))
  · refine ⟨_, rfl, rfl, _, rfl, iteR (by decide +kernel) ?_⟩
    refine ⟨_, rfl, rfl, _, rfl, iteNR (by decide +kernel) ?_⟩
    refine ⟨_, rfl, rfl, _, rfl, iteR (by decide +kernel) ?_⟩
    have et2 := s12 _ _ et
    refine ⟨_, rfl, p, fr, bk, rfl, hp2, fun D us css H3 s3 e3 w3 l3 c3 m3 em => ?_⟩
    have mc := m3 cs hcs
    have et3 := s3 _ _ et2
    refine ⟨_, rfl, D, rfl, ⟨_, SqL.of e3⟩, fun G nG => ?_⟩
    refine lc_list (K := K) (a := D) (xs := us) (fun i H' => Same H3 H' ∧ ∃ ws : List V, H' G = some (.lst ws) ∧ ws.length ≤ i ∧ (cs ∈ css.take i → ws ≠ [])) ⟨same_new nG _, [], upd_same, Nat.le_refl _, fun z => by simp at z⟩ (fun i H' _ hq => SqL.of (hq.1 _ _ e3)) (fun i v H4 hv hq => ?_) (fun H4 hq => ?_)
    · obtain ⟨s4, ws, e4, wl, hw⟩ := hq
      obtain ⟨t', ds, rfl, hds, et'⟩ := w3.get hv
      have hi := (List.getElem?_eq_some_iff.mp hv).1
      have ld := c3 ds (List.mem_of_getElem? hds)
      refine ⟨rfl, ?_⟩
      refine ⟨_, rfl, _, rfl, .inr ⟨t, t', cs, ds, rfl, s4 _ _ et3, s4 _ _ et', by rw [hl, ld], by rw [hl]; decide, fun H5 s5 => ⟨_, rfl, ?_⟩⟩⟩
      have e5 := s5 _ _ e4
      by_cases h : cs = ds
      · rw [decide_eq_true h]
        refine iteT ⟨_, rfl, _, e5, Nat.lt_of_lt_of_le (by omega : ws.length < 1000001) (by show 1000001 ≤ 16777216; decide), fun b o e => ?_, ws ++ [.ref t'], upd_same, by rw [List.length_append]; show _ + 1 ≤ _; omega, fun _ => by simp⟩
        rw [upd_ne (ne_of_none e nG)]; exact s5 _ _ (s4 _ _ e)
      · rw [decide_eq_false h]
        refine iteF ⟨s4.trans s5, ws, e5, by omega, fun z => ?_⟩
        rw [take_nextG hds] at z
        rcases List.mem_append.mp z with z | z
        · exact hw z
        · exact absurd (List.mem_singleton.mp z) h
    · obtain ⟨s4, ws, e4, wl, hw⟩ := hq
      rw [w3.len, List.take_length] at hw
      refine ⟨(by show 0 ≤ sizeLine; decide), fun z nz => ?_⟩
      have k5 := same_new nz (.lst [])
      refine ⟨G, z, ws, rfl, rfl, SqL.of (k5 _ _ e4), SqL.of upd_same, ?_⟩
      have : (!ws.isEmpty) = true := by
        cases ws with
        | nil => exact absurd rfl (hw mc)
        | cons _ _ => rfl
      rw [this]
      exact q _ (s12.trans (s3.trans (s4.trans k5)))
  · refine ⟨_, rfl, rfl, _, rfl, iteR (by decide +kernel) ?_⟩
    refine ⟨_, rfl, rfl, _, rfl, iteNS rfl ?_⟩
    have sz : T.size ≤ 12 := by rw [← B.pre_len, Tp]; exact h12
    have hT2 := hT.same s12
    refine ⟨_, rfl, u, T, rfl, hT2, Tn, fun c hc => hp.lt.2 c (by rw [← Tp]; exact hc), by omega, fun H3 s3 => ⟨_, rfl, iteF ?_⟩⟩
    have hT3 := hT2.same s3
    refine ⟨_, rfl, u, T, rfl, hT3, by omega, by omega, _, rfl, u, T, rfl, hT3, by omega, by omega, (by show 2 ≤ sizeLine; decide), fun q1 nq1 => ?_⟩
    have k4 := same_new nq1 (.tup [.str (tx T.pre), .str (tx T.post)])
    have s24 := s12.trans (s3.trans k4)
    refine ⟨_, rfl, .inl ⟨_, _, .tuple [.str (tx fr), .str (tx bk)], rfl, .tup (SqT.of (by rw [← Tp, ← Tq]; exact upd_same)) (.cons (.str _) (.cons (.str _) .nil)), .tup (SqT.of (hp.same s24).at') (.cons (.str _) (.cons (.str _) .nil)), by simp only [PyData.depth, PyData.depthAll]; decide, rfl, fun H5 s5 => ⟨_, rfl, iteF ?_⟩⟩⟩
    have s25 := s24.trans s5
    have hT5 := (hT3.same k4).same s5
    refine ⟨_, rfl, _, rfl, p, _, _, _, rfl, rfl, SqT.of (hp.same s25).at', atI_nat (j := 0) rfl, u, T, fr, rfl, hT5, sd, fun c hc => by rw [← Tp]; exact hc, by omega, fun v' H6 s6 hv' => ?_⟩
    have dd := data_depth T
    exact ⟨_, rfl, .inl ⟨_, _, T.data, rfl, hv'.dp, (hT5.same s6).dp, by omega, data_nar T, fun H7 s7 => q _ (s25.trans (s6.trans s7))⟩⟩
end
/-! ### a def entered at one caller -/
theorem enter_def {P : Program} {w : World} {K : PySem.W.Frag} {mg : Str → Option Value} {base : Heap} {f : Addr} {fd : FuncData} {N ps : List Str} {k : Nat} {x qual : Str} {st : Stmt} (F : Fun K x qual st f fd) (S : FnScope N ps (defScope st))
    {A : Around} {outer : List Env} {s : Shared} {H : Hp} {args : Args} {us : List Value} {vs : List V} {Q : VK} {E : XK}
    (room : Room (k + 1) A) (en : Env0 P w K mg base A outer s H) (bd : BindsTo s fd args (ps.zip us)) (rel : Vals vs us) (hln : vs.length = ps.length)
    (body : ∀ cdv : Value, Room k (A.deeper (envOfC qual (defScope st) s.heap.objs.size f cdv)) →
      ∃ t, PSs (cxOf CX0 P w K mg base N qual (defScope st) f cdv A outer s H E).nox (defBody st) t ∧ t { nx := fun _ H' => Q .non H', rt := Q } (start N vs) H) :
    codeAny (model P w) A (.call (.ref f) args) (CR CX0 outer P w H s Q E) s := by
  obtain ⟨oc, od, kV, doc, pm, an, cdv, ct, osl, rfl, look, code⟩ := F.ex
  have still : ∀ b o, base.get? b = some o → s.heap.get? b = some o := fun b o e => (en.bs b o e).1
  have inK : K.In s.heap := en.mod.kin.keeps still
  have noL : s.heap.NoLimit := en.mod.nolimit.keeps still
  have kinds : ∀ y ∈ ps.zip us, (defScope st).names.lookup y.1 = some .local ∨
      ((defScope st).names.lookup y.1 = some .cell ∧ ((cellsFrom (s.heap.objs.size + 1) (defScope st).names []).lookup y.1).isSome = true) := by
    rintro ⟨nm, u⟩ hy
    cases S.par nm (List.of_mem_zip hy).1 with
    | inl z => exact .inl z
    | inr z => exact .inr ⟨z, PySem.W.cellsFrom_some _ _ _ (.inl z)⟩
  have step := codeAny_call_function (prog := P) (w := w) (A := A) (s := s) room.depth (inK _ _ look) rfl S.co S.gen rfl (PySem.W.codeRec_of inK code)
    (R := CR CX0 outer P w H s Q E) (args := args)
  refine step (bd _ _ _ _ ?_)
  refine wpAny_newFunctionEnv_cells S.kind kinds ?_
  intro env isEnv s1 inC
  subst isEnv
  refine ⟨noL.keeps inC.toInCall.keep, codeAny_func ?_⟩
  obtain ⟨t, ht, hq⟩ := body cdv (room.deeper _)
  have J : Inv (cxOf CX0 P w K mg base N qual (defScope st) f cdv A outer s H E) [] (start N vs) H s1 := inv_start S room.hd en hln rel inC
  refine wpAny_mono (ht.nox.run [] s1 (start N vs) H _ J hq) ?_ ?_
  · intro fl s' done
    cases fl with
    | ret u =>
      obtain ⟨v, σ', H', I', rv, qv⟩ := done
      exact ⟨v, H', I'.os, I'.bare, I'.base, I'.hok, rv, qv⟩
    | next =>
      obtain ⟨σ', H', I', qv⟩ := done
      exact ⟨V.non, H', I'.os, I'.bare, I'.base, I'.hok, rfl, qv⟩
    | brk => exact done.elim fun _ z => z.elim fun _ z => z.2.elim
    | cont => exact done.elim fun _ z => z.elim fun _ z => z.2.elim
  · intro e s' z
    exact z
/-! ### the law's own call -/
theorem law_at {P : Program} {w : World} {K : PySem.W.Frag} {mg mb : Str → Option Value} {fa a : Addr} {s₁ : Shared} {vs : List Value} {ns : List Int}
    (inK : K.In s₁.heap) (gl : s₁.heap.Ns mainGlobals mg) (bl : s₁.heap.Ns builtinsNs mb) (isB : ∀ x : Str, x ≠ "__name__" → mb x = bootBuiltins x) (lim : s₁.heap.NoLimit) (gens : s₁.gens = #[])
    (obj : s₁.heap.get? a = some { cls := .type "list", data := .seq vs.toArray }) (hints : IntsAre vs ns) (few : ns.length ≤ sizeLine)
    (run : ∀ (base : Heap) (H : Hp), K.In base → base.Ns mainGlobals mg → Env0 P w K mg base callerA [] s₁ H → SqL K H a (ns.map V.int) →
      codeAny (model P w) callerA (.call (.ref fa) ⟨[.ref a], []⟩) (CR CX0 [] P w H s₁ (fun v _ => v = .bl true) fun _ _ _ => False) s₁) :
    codeAny (model P w) callerA (.call (.ref fa) ⟨[.ref a], []⟩) (fun r s' => r = .ok (.ret (.bool true)) ∧ OldK s₁.heap s'.heap ∧ s'.os = s₁.os ∧ AllBare s'.gens) s₁ := by
  have rel := vals_ints hints
  have lens := hints.length
  have found : ∃ H : Hp, Only H ∧ SqL K H a (ns.map V.int) ∧ HOk P w H s₁.heap ∧ (∀ b u, H b = some u → b = a ∧ K.lookup a = none) := by
    cases inText : K.lookup a with
    | some o =>
      have same := inK a o inText
      rw [obj] at same
      cases same
      have never : ∀ (u : HO), (none : Option HO) ≠ some u := fun u z => by cases z
      refine ⟨fun _ => none, fun _ => .inl rfl, ?_, (fun b u z => (never u z).elim), (fun b u z => (never u z).elim)⟩
      refine .inr ⟨_, vs.toArray, _, inText, rfl, rfl, rfl, ?_, ?_⟩
      · rw [List.size_toArray, lens]
        exact few
      · rw [List.toList_toArray]
        exact rel
    | none =>
      let here : HO := .frz { cls := .type "list", data := .seq vs.toArray } (.lst (ns.map V.int))
      have only : ∀ b u, (if b = a then some here else none) = some u → b = a ∧ u = here := fun b u z => by
        by_cases hb : b = a
        · rw [if_pos hb] at z
          exact ⟨hb, (Option.some.inj z).symm⟩
        · rw [if_neg hb] at z
          cases z
      refine ⟨fun b => if b = a then some here else none, fun b => ?_, .inl (.inr ⟨{ cls := .type "list", data := .seq vs.toArray }, if_pos rfl⟩), fun b u z => ?_, fun b u z => ⟨(only b u z).1, rfl⟩⟩
      · by_cases hb : b = a
        · exact .inr ⟨_, _, if_pos hb⟩
        · exact .inl (if_neg hb)
      · obtain ⟨rfl, rfl⟩ := only b u z
        exact ⟨obj, by rw [List.length_map]; exact few, vs, _, rel, obj⟩
  obtain ⟨H, hO, hS, hok, hA⟩ := found
  have under : ∀ {b : Addr} {o : Obj}, s₁.heap.get? b = some o → H b = none → (hidT s₁.heap H).get? b = some o := fun e z => hidT_get e z
  have notDict : ∀ {b : Addr} {o : Obj} {es : Array DictEntry} {ep : Nat}, s₁.heap.get? b = some o → o.data = .dict es ep → H b = none := by
    intro b o es ep e isD
    cases z : H b with
    | none => rfl
    | some u =>
      obtain ⟨rfl, _⟩ := hA b u z
      rw [obj] at e
      cases e
      cases isD
  have ns' : ∀ {b : Addr} {m : Str → Option Value}, s₁.heap.Ns b m → (hidT s₁.heap H).Ns b m := by
    rintro b m ⟨o, es, ep, e, isD, r⟩
    exact ⟨o, es, ep, under e (notDict e isD), isD, r⟩
  have inK' : K.In (hidT s₁.heap H) := by
    intro b o e
    refine under (inK b o e) ?_
    cases z : H b with
    | none => rfl
    | some u =>
      obtain ⟨rfl, no⟩ := hA b u z
      rw [no] at e
      cases e
  obtain ⟨mc, l1, l2⟩ := lim
  have env : Env0 P w K mg (hidT s₁.heap H) callerA [] s₁ H :=
    ⟨rfl, ⟨inK', ns' gl, ⟨mb, ns' bl, isB⟩, ⟨mc, ns' l1, l2⟩⟩, fun _ _ e => of_hidT e, Nat.le_of_eq (hidT_size _ _), trivial, (fun _ hb => nomatch hb), hok, .of_eq gens⟩
  refine codeAny_mono (run _ H inK' (ns' gl) env hS) ?_
  intro r s' h
  cases r with
  | error e => exact h.elim
  | ok fl =>
    cases fl with
    | next => exact h.elim
    | brk => exact h.elim
    | cont => exact h.elim
    | ret u =>
      obtain ⟨v, H', os, bare, un, hok', rv, isT⟩ := h
      subst isT
      cases rv
      refine ⟨rfl, OldK.of_keep ?_, os, bare⟩
      intro b o e
      cases z : H b with
      | none => exact un.keep b o e z (fun y => nomatch y) (fun y => nomatch y)
      | some u =>
        rcases hO b with y | ⟨ob, xs, y⟩
        · rw [z] at y
          cases y
        · have y2 := un.frzs b ob _ y
          obtain ⟨e1, _⟩ := hok b _ y
          obtain ⟨e2, _⟩ := hok' b _ y2
          rw [e] at e1
          cases e1
          exact e2
/-! ### defs that ask for repr: the guards are carried -/
structure FnOkG (P : Program) (w : World) (K : PySem.W.Frag) (mg : Str → Option Value) (base : Heap) (k : Nat) (f : Addr) (fd : FuncData) (ps : List Str) (sp : Sp) : Prop where
  len : ∀ vs H Q E, sp vs H Q E → vs.length = ps.length
  run : ∀ (A : Around) (outer : List Env) (s : Shared) (H : Hp) (args : Args) (us : List Value) (vs : List V) (Q : VK) (E : XK), A.guards = some [] → Room k A → Env0 P w K mg base A outer s H →
    BindsTo s fd args (ps.zip us) → Vals vs us → sp vs H Q E → codeAny (model P w) A (.call (.ref f) args) (CR CX0 outer P w H s Q E) s
theorem fnG {P : Program} {w : World} {K : PySem.W.Frag} {mg : Str → Option Value} {base : Heap} {f : Addr} {fd : FuncData} {N ps : List Str} {k : Nat} {x qual : Str} {st : Stmt} {sp : Sp} (F : Fun K x qual st f fd) (S : FnScope N ps (defScope st))
    (len : ∀ vs H Q E, sp vs H Q E → vs.length = ps.length)
    (body : ∀ (cdv : Value) (A : Around) (outer : List Env) (s : Shared) (H : Hp) (vs : List V) (Q : VK) (E : XK), A.guards = some [] → Room k (A.deeper (envOfC qual (defScope st) s.heap.objs.size f cdv)) → sp vs H Q E →
      ∃ t, PSs (cxOf CX0 P w K mg base N qual (defScope st) f cdv A outer s H E).nox (defBody st) t ∧ t { nx := fun _ H' => Q .non H', rt := Q } (start N vs) H) :
    FnOkG P w K mg base (k + 1) f fd ps sp := by
  refine ⟨len, ?_⟩
  intro A outer s H args us vs Q E gs room en bd rel hsp
  exact enter_def F S room en bd rel (len _ _ _ _ hsp) fun cdv hr => body cdv A outer s H vs Q E gs hr hsp
theorem pe_callG {X : Cx} {k : Nat} {f : Addr} {fd : FuncData} {ps : List Str} {sp : Sp} {x : Str} {p pos : Pos} {e : Expr} {es : List Expr} {t : TA}
    (G : FnOkG X.prog X.w X.K X.mg X.base k f fd ps sp) (gs : X.A.guards = some []) (room : Room k X.A) (isG : Gl X x) (at0 : X.mg x = some (.ref f)) (kp : PySem.W.keepIn X.K (.ref f) = true) (bd : Binds X.K fd ps []) (args : PA X (e :: es) t)
    (nd : (x == ("__debug__" : Str)) = false := by decide) (he : starEach (e :: es) X.env = (false, eval e X.env) :: starEach es X.env := by rfl) (hp : (backTo pos (starEach es X.env)).any (·.1) = false := by rfl) :
    PE X (.Call (.Name x p) (e :: es) [] pos) (tCall sp [] E0 t) := by
  constructor
  intro pins s σ H Q I h
  refine wpAny_Call_Name_kw (ld_glob I isG at0 ?_ nd)
  refine PySem.W.callWith_K (h₀ := X.base) I.ok.mod.kin kp (thn (args.run pos pins s σ H _ I h) ?_) he hp
  rintro us s1 ⟨vs, H1, I1, rel, q⟩
  refine ⟨I1.kIn, ?_⟩
  have q' : sp vs H1 Q E0 := by
    rw [List.append_nil] at q
    exact q
  have hl : (us ++ []).length = ps.length := by
    rw [List.append_nil, ← rel.length]
    exact G.len _ _ _ _ q'
  have bd' := bd s1 us I1.kIn hl
  rw [List.append_nil] at bd'
  refine wpAny_call (codeAny_mono (G.run X.A X.stack s1 H1 ⟨us, []⟩ us vs Q E0 gs room I1.env0 bd' rel q') ?_)
  intro r s' done
  cases r with
  | error e => exact done.elim
  | ok fl =>
    cases fl with
    | ret u => exact I1.after done
    | next => exact done.elim
    | brk => exact done.elim
    | cont => exact done.elim
/-- a def that asks for repr, with its promise -/
structure DfG (P : Program) (w : World) (K : PySem.W.Frag) (mg : Str → Option Value) (base : Heap) (k : Nat) (nm : Str) (ps : List Str) (sp : Sp) where
  f : Addr
  fd : FuncData
  ok : FnOkG P w K mg base k f fd ps sp
  b : Binds K fd ps []
  kp : PySem.W.keepIn K (.ref f) = true
  g : mg nm = some (.ref f)
/-! ### repr of data without dicts -/
mutual
def okR : PyData → Bool
  | .none => true
  | .bool _ => true
  | .int i => decide (0 ≤ i) && decide (i < 64)
  | .str x => decide (x.length ≤ 64) && x.cps.toList.all (· < 128)
  | .list xs => okRs xs
  | .tuple xs => okRs xs
  | .dict _ => false
def okRs : List PyData → Bool
  | [] => true
  | x :: xs => okR x && okRs xs
end
mutual
def wtR : PyData → Nat
  | .none => 4
  | .bool _ => 5
  | .int _ => 31
  | .str x => 10 * x.length + 2
  | .list xs => 3 + wtRs xs
  | .tuple xs => 3 + wtRs xs
  | .dict _ => 0
def wtRs : List PyData → Nat
  | [] => 0
  | x :: xs => wtR x + 2 + wtRs xs
end
theorem small_shown : ∀ n : Nat, n < 64 → (Str.ofString (toString (n : Int))).length ≤ 31 ∧ (n : Int).natAbs.log2 < 1920 := by decide +kernel
theorem listText_leR (ts : List Str) : (listText ts).length ≤ piled ts + 3 := by
  have h := textFrom_len_le ts 0 "["
  have e : (listText ts).length = (textFrom 0 "[" ts).length + 1 := by
    show (textFrom 0 "[" ts ++ "]").length = _
    rw [strLen_append]
    rfl
  have z : ∀ l : List Str, (l.map (·.length)).sum + 2 * l.length = piled l := by
    intro l
    induction l with
    | nil => rfl
    | cons t l ih =>
      rw [piled_cons, List.map_cons, List.sum_cons, List.length_cons]
      omega
  have z2 := z ts
  have z3 : (("[" : String) : Str).length = 1 := rfl
  omega
mutual
theorem shownR : ∀ d : PyData, okR d = true → d.shown.length ≤ wtR d ∧ d.showable = true ∧ d.hasDict = false
  | .none, _ => by
    simp only [PyData.shown, wtR, PyData.showable, PyData.hasDict, and_true]
    decide +kernel
  | .bool b, _ => by
    simp only [PyData.shown, wtR, PyData.showable, PyData.hasDict, and_true]
    cases b <;> decide +kernel
  | .int i, h => by
    simp only [okR, Bool.and_eq_true, decide_eq_true_eq] at h
    obtain ⟨h1, h2⟩ := small_shown i.toNat (by omega)
    rw [show ((i.toNat : Nat) : Int) = i by omega] at h1 h2
    simp only [PyData.shown, wtR, PyData.showable, PyData.hasDict, decide_eq_true_eq, and_true]
    exact ⟨h1, h2⟩
  | .str x, h => by
    simp only [okR, Bool.and_eq_true, decide_eq_true_eq, List.all_eq_true] at h
    have h1 := StrLaws.reprText_len x (fun c hc => Nat.lt_of_lt_of_le (h.2 c hc) (by decide))
    simp only [PyData.shown, wtR, PyData.showable, PyData.hasDict, and_true]
    omega
  | .list xs, h => by
    simp only [okR] at h
    obtain ⟨h1, h2, h3⟩ := shownRs xs h
    simp only [PyData.shown, wtR, PyData.showable, PyData.hasDict]
    exact ⟨Nat.le_trans (listText_leR _) (by omega), h2, h3⟩
  | .tuple xs, h => by
    simp only [okR] at h
    obtain ⟨h1, h2, h3⟩ := shownRs xs h
    simp only [PyData.shown, wtR, PyData.showable, PyData.hasDict]
    exact ⟨Nat.le_trans (fmt_text _) (by omega), h2, h3⟩
  | .dict _, h => by
    simp only [okR] at h
    exact absurd h Bool.false_ne_true
theorem shownRs : ∀ ds : List PyData, okRs ds = true → piled (PyData.shownAll ds) ≤ wtRs ds ∧ PyData.showableAll ds = true ∧ PyData.hasDictAll ds = false
  | [], _ => by
    simp only [PyData.shownAll, wtRs, PyData.showableAll, PyData.hasDictAll, and_true]
    exact Nat.le_refl _
  | d :: ds, h => by
    simp only [okRs, Bool.and_eq_true] at h
    obtain ⟨h1, h2, h5⟩ := shownR d h.1
    obtain ⟨h3, h4, h6⟩ := shownRs ds h.2
    simp only [PyData.shownAll, wtRs, PyData.showableAll, PyData.hasDictAll, h2, h4, h5, h6, Bool.and_self, Bool.or_self, and_true]
    rw [piled_cons]
    omega
end
def rReprR (K : PySem.W.Frag) : List V → Hp → VK → Prop := fun xs H Q => ∃ (a : Addr) (d : PyData), xs = [.ref a] ∧ Dp K H (.ref a) d ∧ okR d = true ∧ wtR d ≤ 1000000 ∧ d.depth ≤ 60 ∧ Q (.str d.shown) H
theorem call_reprR {X : Cx} (hg : X.A.guards = some []) (hu : X.A.units + 64 < cLine) : CallR X (.builtin "repr") (rReprR X.K) := by
  intro pins s σ H xs us Q I r h
  obtain ⟨a, d, rfl, hd, hs, hw, hz, q⟩ := h
  obtain ⟨u, rfl, rx⟩ := vals1 r
  cases rx
  obtain ⟨h1, h2, h3⟩ := shownR d hs
  obtain ⟨as, rd⟩ := Dp.reads I d _ _ hd rfl
  exact repr_of_reads' rd h2 (PyData.noDict_hsm h3) hg (by omega) (fun _ _ e => e) (fun h' u tk hk => ⟨.str d.shown, H, I.kept (t' := tk) hk, ⟨u, rfl⟩, q⟩) (by show _ ≤ 16777216; omega)
/-! ### law -/
theorem Lts.ascii {l : List Nat} (h : Lts l) : (tx l).cps.toList.all (· < 128) = true := by
  rw [tx_cps, List.all_eq_true]
  intro c hc
  have := h.2 c hc
  exact decide_eq_true (by omega)
theorem nine {l : List Nat} (h : l.length = 9) : ∃ a b c d e f g h i, l = [a, b, c, d, e, f, g, h, i] := by
  match l, h with
  | [a, b, c, d, e, f, g, h, i], _ => exact ⟨a, b, c, d, e, f, g, h, i, rfl⟩
theorem Lts.perm {l m : List Nat} (h : Lts l) (p : m.Perm l) : Lts m := ⟨p.nodup_iff.mpr h.1, fun c hc => h.2 c (p.mem_iff.mp hc)⟩
theorem Lts.sub {l m : List Nat} (h : Lts l) (p : m.Sublist l) : Lts m := ⟨h.1.sublist p, fun c hc => h.2 c (p.subset hc)⟩
theorem back_perm (a b c d e f g h : Nat) : [b, c, d, e, a, h, f, g].Perm [a, b, c, d, e, f, g, h] := by
  refine (List.perm_middle (l₁ := [b, c, d, e]) (a := a) (l₂ := [h, f, g])).trans (.cons a ?_)
  exact List.Perm.append_left [b, c, d, e] (List.perm_append_comm (l₁ := [h]) (l₂ := [f, g]))
/-- pairs of texts of at most twelve letters -/
def PsAt (H : Hp) (us : List V) : Prop := ∀ (j : Nat) (u : V), us[j]? = some u → ∃ p fr bk, u = .ref p ∧ PairAt H p fr bk ∧ fr.length ≤ 12
theorem PairAt.keep {H H' : Hp} {p : Addr} {fr bk : List Nat} (h : PairAt H p fr bk) (k : KeepT H H') : PairAt H' p fr bk := ⟨k _ _ h.at', h.lt, h.pm, h.n0, h.n1⟩
theorem PsAt.keep {H H' : Hp} {us : List V} (h : PsAt H us) (k : KeepT H H') : PsAt H' us := fun j u e => by
  obtain ⟨p, fr, bk, e1, h1, h2⟩ := h j u e
  exact ⟨p, fr, bk, e1, h1.keep k, h2⟩
theorem PsAt.app {H : Hp} {us vs : List V} (h : PsAt H us) (g : PsAt H vs) : PsAt H (us ++ vs) := fun j u e => by
  by_cases hj : j < us.length
  · rw [List.getElem?_append_left hj] at e
    exact h j u e
  · rw [List.getElem?_append_right (by omega)] at e
    exact g _ u e
theorem PsAt.one {H : Hp} {p : Addr} {fr bk : List Nat} (h : PairAt H p fr bk) (l : fr.length ≤ 12) : PsAt H [.ref p] := fun j u e => by
  match j, e with
  | 0, e => cases e; exact ⟨p, fr, bk, rfl, h, l⟩
section
variable {P : Program} {w : World} {K : PySem.W.Frag} {mg : Str → Option Value} {base : Heap} {f : Addr} {fd : FuncData}
theorem run_law {s : Shared} {H : Hp} {a : Addr} {ns : List Int} (F : Fun K "law" "law" s_law f fd) (bd : BindsTo s fd ⟨[.ref a], []⟩ [("_law_script", .ref a)]) (en : Env0 P w K mg base callerA [] s H) (hS : SqL K H a (ns.map V.int))
    (M : Mgs mg) (D_law_spring : Df P w K mg base 1 "_law_spring" ["_law_script"] (spSpring K)) (D_law_letters : Df P w K mg base 19 "_law_letters" ["_law_spring_here", "_law_many"] spLetters) (D_law_pair : Df P w K mg base 21 "_law_pair" ["_law_spring_here", "_law_bound"] spPair)
    (Dpair_certificate : Df P w K mg base 15 "pair_certificate" ["pair"] spCert) (Dpair_holds : Df P w K mg base 65 "pair_holds" ["pair", "value"] spHoldsP) (D_law_certificate_right : Df P w K mg base 21 "_law_certificate_right" ["_law_pair_here", "_law_told"] spRight)
    (D_law_same : Df P w K mg base 20 "_law_same" ["_law_found", "_law_due"] (spSameU K 20)) :
    codeAny (model P w) callerA (.call (.ref f) ⟨[.ref a], []⟩) (CR CX0 [] P w H s (fun v _ => v = .bl true) fun _ _ _ => False) s := by
  refine enter_def (k := 66) (vs := [.ref a]) (us := [.ref a]) F sc_law ⟨rfl, by decide, by decide⟩ en bd (.cons rfl .nil) rfl fun cdv hr => ?_
  refine ⟨_, (pss_cons (ps_set (i := 1) sc_law.nd rfl (.inr rfl) (pe_call D_law_spring.ok (hr.mono (by omega)) rfl D_law_spring.g D_law_spring.kp D_law_spring.b .nil pass0 (pa_cons (pv 0) pa_nil)))
    (pss_cons (ps_set (i := 2) sc_law.nd rfl (.inl rfl) (pe_call D_law_letters.ok (hr.mono (by omega)) rfl D_law_letters.g D_law_letters.kp D_law_letters.b .nil pass0 (pa_cons (pv 1) (pa_cons pe_int pa_nil))))
    (pss_cons (ps_par (i := 3) (j := 4) (by rfl) sc_law.nd rfl rfl (by decide) rfl rfl (pa_cons (pe_slice sl_str (pv 2) po_none (po_some pe_int)) (pa_cons (pe_op op_add_str (pe_slice sl_str (pv 2) (po_some pe_int) (po_some pe_int)) (pe_ix ix_str (pv 2) pe_int (fun _ _ => rfl))) pa_nil)) (by rfl))
    (pss_cons (ps_set (i := 5) sc_law.nd rfl (.inl rfl) (pe_op op_add_str (pe_op op_add_str (pv 4) (pe_ix ix_str (pv 2) pe_int (fun _ _ => rfl))) (pe_slice sl_str (pv 2) (po_some pe_int) (po_some pe_int))))
    (pss_cons (ps_set (i := 6) sc_law.nd rfl (.inl rfl) (pe_lst (pa_cons (pe_tup (pa_cons (pv 3) (pa_cons (pv 5) pa_nil))) (pa_cons (pe_tup (pa_cons (pe_op op_add_str (pe_ix ix_str (pv 2) pe_int (fun _ _ => rfl)) (pv 3)) (pa_cons (pe_op op_add_str (pv 5) (pe_ix ix_str (pv 2) pe_int (fun _ _ => rfl))) pa_nil))) (pa_cons (pe_tup (pa_cons (pe_slice sl_str (pv 3) po_none (po_some pe_int)) (pa_cons (pv 4) pa_nil))) pa_nil)))))
    (pss_cons (ps_for PassesOwn.never rfl (pi_list (pe_op op_cat (pv 6) (pe_lc (own := [("_law_turn", 8)]) (g := gName 8) (tt := tYes) rfl sc_law.nd (pi_range1 rfl M.range (pa_cons pe_int pa_nil)) (blkOk_by (N := ["_law_script", "_law_spring_here", "_law_letters_here", "_law_front_here", "_law_crowd", "_law_back_here", "_law_pairs", "_law_pair_here", "_law_turn", "_law_kept", "_law_told"]) (sc := defScope s_law) (by decide +kernel)) (fun _ _ _ _ _ => (pg_name (i := 8) sc_law.nd rfl (.inl rfl))) (fun _ _ _ _ _ => pts_nil) (fun _ _ _ _ _ => (pe_call D_law_pair.ok (hr.mono (by omega)) rfl D_law_pair.g D_law_pair.kp D_law_pair.b .nil pass0 (pa_cons (pv 1) (pa_cons pe_int pa_nil))))))) (pg_name (i := 7) sc_law.nd rfl (.inl rfl))
      (pss_cons (ps_par (i := 9) (j := 10) (by rfl) sc_law.nd rfl rfl (by decide) rfl rfl (pa_cons (pe_callB (call_reprR rfl hr.units) rfl M.repr (by decide +kernel) (pa_cons (pv 7) pa_nil)) (pa_cons (pe_call Dpair_certificate.ok (hr.mono (by omega)) rfl Dpair_certificate.g Dpair_certificate.kp Dpair_certificate.b .nil pass0 (pa_cons (pv 7) pa_nil)) pa_nil)) (by rfl))
    (pss_cons (ps_if (PW.pt (pw_or (pt_not (pt_val (pe_call D_law_certificate_right.ok (hr.mono (by omega)) rfl D_law_certificate_right.g D_law_certificate_right.kp D_law_certificate_right.b .nil pass0 (pa_cons (pv 7) (pa_cons (pv 10) pa_nil))))) (pw_or1 (pt_cmpR op_notBl (pe_call Dpair_holds.ok (hr.mono (by omega)) rfl Dpair_holds.g Dpair_holds.kp Dpair_holds.b .nil pass0 (pa_cons (pv 7) (pa_cons (pv 10) pa_nil))) pe_bl (nomark _)))))
      (pss_one (ps_ret pe_bl)) pss_nil)
    (pss_one (ps_if (PW.pt (pw_or (pt_not (pt_val (pe_call D_law_same.ok (hr.mono (by omega)) rfl D_law_same.g D_law_same.kp D_law_same.b .nil pass0 (pa_cons (pe_call Dpair_certificate.ok (hr.mono (by omega)) rfl Dpair_certificate.g Dpair_certificate.kp Dpair_certificate.b .nil pass0 (pa_cons (pv 7) pa_nil)) (pa_cons (pv 10) pa_nil))))) (pw_or1 (pt_cmpR op_ne (pe_callB (call_reprR rfl hr.units) rfl M.repr (by decide +kernel) (pa_cons (pv 7) pa_nil)) (pv 9) (nomark _)))))
      (pss_one (ps_ret pe_bl)) pss_nil)))))
    (pss_one (ps_ret pe_bl)))))))), ?_⟩
  refine ⟨_, rfl, a, ns, rfl, hS, fun D H1 d1 s1 => ?_⟩
  refine ⟨_, rfl, D, _, 9, rfl, d1, by decide, by decide, fun zs H2 d2 s2 lts hl => ?_⟩
  obtain ⟨c1, c2, c3, c4, c5, c6, c7, c8, c9, rfl⟩ := nine hl
  have lz : (tx [c1, c2, c3, c4, c5, c6, c7, c8, c9]).length ≤ sizeLine := small (by rw [tx_len]; show 9 ≤ 1000; decide)
  have t1 : cutS (tx [c1, c2, c3, c4, c5, c6, c7, c8, c9]) none (some 8) = tx [c1, c2, c3, c4, c5, c6, c7, c8] := tx_to _ 8
  have t2 : cutS (tx [c1, c2, c3, c4, c5, c6, c7, c8, c9]) (some 1) (some 5) = tx [c2, c3, c4, c5] := tx_mid (l := [c1, c2, c3, c4, c5, c6, c7, c8, c9]) (i := 1) (j := 5) (by show 1 ≤ 9; decide) (by show 5 ≤ 9; decide)
  have t3 : cutS (tx [c1, c2, c3, c4, c5, c6, c7, c8, c9]) (some 5) (some 7) = tx [c6, c7] := tx_mid (l := [c1, c2, c3, c4, c5, c6, c7, c8, c9]) (i := 5) (j := 7) (by show 5 ≤ 9; decide) (by show 7 ≤ 9; decide)
  have t4 : cutS (tx [c1, c2, c3, c4, c5, c6, c7, c8]) none (some 5) = tx [c1, c2, c3, c4, c5] := tx_to _ 5
  have ta : ∀ (l m : List Nat), l.length + m.length ≤ 1000 → (tx l).length + (tx m).length ≤ sizeLine := fun l m h => by rw [tx_len, tx_len]; exact small h
  refine ⟨_, rfl, 8, rfl, _, rfl, lz, ?_⟩
  rw [t1]
  refine ⟨_, rfl, 1, rfl, 5, rfl, _, rfl, lz, ?_⟩
  rw [t2]
  refine ⟨_, rfl, _, 0, c1, rfl, rfl, lz, atI_nat (j := 0) rfl, _, _, rfl, rfl, small (by show 4 + 1 ≤ 1000; decide), ?_⟩
  rw [show (⟨#[c1]⟩ : Str) = tx [c1] from rfl, tx_app]
  refine ⟨_, _, rfl, ?_⟩
  -- the back
  refine ⟨_, rfl, _, rfl, _, 7, c8, rfl, rfl, lz, atI_nat (j := 7) rfl, _, _, rfl, rfl, small (by show 5 + 1 ≤ 1000; decide), ?_⟩
  rw [show (⟨#[c8]⟩ : Str) = tx [c8] from rfl, tx_app]
  refine ⟨_, rfl, 5, rfl, 7, rfl, _, rfl, lz, ?_⟩
  rw [t3]
  refine ⟨_, _, rfl, rfl, small (by show 6 + 2 ≤ 1000; decide), ?_⟩
  rw [tx_app]
  have k9 : (⟨#[c9]⟩ : Str) = tx [c9] := rfl
  have z8 : (tx [c1, c2, c3, c4, c5, c6, c7, c8]).length ≤ sizeLine := small (by rw [tx_len]; show 8 ≤ 1000; decide)
  -- the three pairs
  refine ⟨_, rfl, _, rfl, (by show 2 ≤ sizeLine; decide), fun p1 n1 => ?_⟩
  have q1 := same_new n1 (.tup [.str (tx [c1, c2, c3, c4, c5, c6, c7, c8]), .str (tx ([c2, c3, c4, c5] ++ [c1] ++ [c8] ++ [c6, c7]))])
  have e1 := upd_same (H := H2) (a := p1) (o := .tup [.str (tx [c1, c2, c3, c4, c5, c6, c7, c8]), .str (tx ([c2, c3, c4, c5] ++ [c1] ++ [c8] ++ [c6, c7]))])
  generalize upd H2 p1 (.tup [.str (tx [c1, c2, c3, c4, c5, c6, c7, c8]), .str (tx ([c2, c3, c4, c5] ++ [c1] ++ [c8] ++ [c6, c7]))]) = H3 at q1 e1 ⊢
  refine ⟨_, rfl, _, 8, c9, rfl, rfl, lz, atI_nat (j := 8) rfl, _, rfl, _, _, rfl, rfl, small (by show 1 + 8 ≤ 1000; decide), ?_⟩
  rw [k9, tx_app]
  refine ⟨_, rfl, _, rfl, _, 8, c9, rfl, rfl, lz, atI_nat (j := 8) rfl, _, _, rfl, rfl, small (by show 8 + 1 ≤ 1000; decide), ?_⟩
  rw [k9, tx_app]
  refine ⟨(by show 2 ≤ sizeLine; decide), fun p2 n2 => ?_⟩
  have q2 := same_new n2 (.tup [.str (tx ([c9] ++ [c1, c2, c3, c4, c5, c6, c7, c8])), .str (tx ([c2, c3, c4, c5] ++ [c1] ++ [c8] ++ [c6, c7] ++ [c9]))])
  have e2 := upd_same (H := H3) (a := p2) (o := .tup [.str (tx ([c9] ++ [c1, c2, c3, c4, c5, c6, c7, c8])), .str (tx ([c2, c3, c4, c5] ++ [c1] ++ [c8] ++ [c6, c7] ++ [c9]))])
  generalize upd H3 p2 (.tup [.str (tx ([c9] ++ [c1, c2, c3, c4, c5, c6, c7, c8])), .str (tx ([c2, c3, c4, c5] ++ [c1] ++ [c8] ++ [c6, c7] ++ [c9]))]) = H4 at q2 e2 ⊢
  refine ⟨_, rfl, 5, rfl, _, rfl, z8, ?_⟩
  rw [t4]
  refine ⟨_, rfl, (by show 2 ≤ sizeLine; decide), fun p3 n3 => ?_⟩
  have q3 := same_new n3 (.tup [.str (tx [c1, c2, c3, c4, c5]), .str (tx ([c2, c3, c4, c5] ++ [c1]))])
  have e3 := upd_same (H := H4) (a := p3) (o := .tup [.str (tx [c1, c2, c3, c4, c5]), .str (tx ([c2, c3, c4, c5] ++ [c1]))])
  generalize upd H4 p3 (.tup [.str (tx [c1, c2, c3, c4, c5]), .str (tx ([c2, c3, c4, c5] ++ [c1]))]) = H5 at q3 e3 ⊢
  refine ⟨(by show 3 ≤ sizeLine; decide), fun L nL => ?_⟩
  have q4 := same_new nL (.lst [.ref p1, .ref p2, .ref p3])
  have eL := upd_same (H := H5) (a := L) (o := .lst [.ref p1, .ref p2, .ref p3])
  generalize upd H5 L (.lst [.ref p1, .ref p2, .ref p3]) = H6 at q4 eL ⊢
  have oL : Off D L := (((d2.same q1).same q2).same q3).new nL
  have bp := back_perm c1 c2 c3 c4 c5 c6 c7 c8
  have ip : (c9 :: [c1, c2, c3, c4, c5, c6, c7, c8]).Perm [c1, c2, c3, c4, c5, c6, c7, c8, c9] := (List.perm_append_singleton c9 [c1, c2, c3, c4, c5, c6, c7, c8]).symm
  have A1 : PairAt H6 p1 [c1, c2, c3, c4, c5, c6, c7, c8] ([c2, c3, c4, c5] ++ [c1] ++ [c8] ++ [c6, c7]) := ⟨q4 _ _ (q3 _ _ (q2 _ _ e1)), lts.sub (List.sublist_append_left [c1, c2, c3, c4, c5, c6, c7, c8] [c9]), bp, by show 0 < 8; decide, by show 8 ≤ 26; decide⟩
  have A2 : PairAt H6 p2 ([c9] ++ [c1, c2, c3, c4, c5, c6, c7, c8]) ([c2, c3, c4, c5] ++ [c1] ++ [c8] ++ [c6, c7] ++ [c9]) := ⟨q4 _ _ (q3 _ _ e2), lts.perm ip, (List.perm_append_singleton c9 _).trans (.cons c9 bp), by show 0 < 9; decide, by show 9 ≤ 26; decide⟩
  have A3 : PairAt H6 p3 [c1, c2, c3, c4, c5] ([c2, c3, c4, c5] ++ [c1]) := ⟨q4 _ _ e3, lts.sub (List.sublist_append_left [c1, c2, c3, c4, c5] [c6, c7, c8, c9]), List.perm_append_singleton c1 _, by show 0 < 5; decide, by show 5 ≤ 26; decide⟩
  have P0 : PsAt H6 [.ref p1, .ref p2, .ref p3] := ((PsAt.one A1 (by show 8 ≤ 12; decide)).app (PsAt.one A2 (by show 9 ≤ 12; decide))).app (PsAt.one A3 (by show 5 ≤ 12; decide))
  have d6 : DeckOk H6 D 9 := ((((d2.same q1).same q2).same q3).same q4)
  clear q1 q2 q3 q4 e1 e2 e3 A1 A2 A3 bp ip d2 d1 s1 s2 n1 n2 n3 nL
  -- twelve pairs more
  refine ⟨_, rfl, 12, rfl, by decide, by decide, fun G nG => ?_⟩
  have fG := d6.new nG
  have sG := same_new nG (.lst [])
  refine lc_range (lo := 0) (n := 12) (fun i H' => ∃ n us, n ≤ 9 + 200 * i ∧ us.length = i ∧ DeckOk H' D n ∧ SameD D H6 H' ∧ H' G = some (.lst us) ∧ PsAt H' us) ⟨9, [], by decide, rfl, d6.same sG, SameD.of sG, upd_same, fun j u e => by simp at e⟩ (fun i H' hi hp => ?_) (fun H' hp => ?_)
  · obtain ⟨n, us, hn, ul, d7, s7, e7, ps⟩ := hp
    refine ⟨rfl, kept ?_⟩
    refine ⟨_, rfl, D, n, rfl, d7, by omega, fun p fr bk H8 n8 l8 d8 s8 ep lt pm f0 f12 => ?_⟩
    have e8 := s8.at fG e7
    have kp : KeepT H8 (upd H8 G (.lst (us ++ [.ref p]))) := fun b xs e => by rw [upd_ne (ne_of e e8 (by intro z; cases z))]; exact e
    exact ⟨us, e8, small1000 (by omega), n8, us ++ [.ref p], by omega, by rw [List.length_append, ul]; rfl, d8.put fG _, (s7.trans s8).put nG _, upd_same, ((ps.keep (s8.keepT d7)).app (PsAt.one ⟨ep, lt, pm, f0, by omega⟩ f12)).keep kp⟩
  obtain ⟨n, us, hn, ul, d7, s7, e7, ps⟩ := hp
  have fL : H' L = some (.lst [.ref p1, .ref p2, .ref p3]) := s7.at oL eL
  have P1 : PsAt H' ([.ref p1, .ref p2, .ref p3] ++ us) := (P0.keep (s7.keepT d6)).app ps
  refine ⟨L, G, _, _, rfl, rfl, fL, e7, (by rw [ul]; show 3 + 12 ≤ 16777216; decide), fun g ng => ?_⟩
  have kg := same_new ng (.lst ([.ref p1, .ref p2, .ref p3] ++ us))
  have eg := upd_same (H := H') (a := g) (o := .lst ([.ref p1, .ref p2, .ref p3] ++ us))
  have P2 := P1.keep (Tw.Same.keepT kg)
  generalize upd H' g (.lst ([.ref p1, .ref p2, .ref p3] ++ us)) = H9 at eg P2 ⊢
  generalize [.ref p1, .ref p2, .ref p3] ++ us = ps9 at eg P2 ⊢
  clear P1 P0 ps e7 s7 d7 kg ng fL eL fG sG nG d6 oL
  refine ⟨g, rfl, ⟨_, SqL.of eg⟩, ?_⟩
  refine for_list (K := K) (a := g) (xs := ps9) (fun j σ Hx => ∃ o3 o4 o5 o6 o7 o9 o10, σ = [some (.ref a), some (.ref D.dk), o3, o4, o5, o6, some (.ref L), o7, none, o9, o10] ∧ Same H9 Hx) ⟨_, _, _, _, _, _, _, rfl, Same.refl _⟩ (fun j σ Hx _ hp => by obtain ⟨_, _, _, _, _, _, _, _, sm⟩ := hp; exact SqL.of (sm _ _ eg)) (fun j x σ Hx hx hp => ?_) (fun σ Hx hp => ?_)
  · obtain ⟨o3, o4, o5, o6, o7, o9, o10, rfl, sm⟩ := hp
    obtain ⟨p, fr, bk, rfl, hp9, h12⟩ := P2 j x hx
    have hp := hp9.same sm
    have ltf := hp.lt
    have bkl : Lts bk := ltf.perm hp.pm
    have bl := hp.pm.length_eq
    have dpP : ∀ {Hy : Hp}, PairAt Hy p fr bk → Dp K Hy (.ref p) (.tuple [.str (tx fr), .str (tx bk)]) := fun h => .tup (SqT.of h.at') (.cons (.str _) (.cons (.str _) .nil))
    have okP : okR (.tuple [.str (tx fr), .str (tx bk)]) = true := by
      simp only [okR, okRs, ltf.ascii, bkl.ascii, tx_len, Bool.and_true]
      exact (Bool.and_eq_true _ _).mpr ⟨decide_eq_true (by omega), decide_eq_true (by omega)⟩
    have wtP : wtR (.tuple [.str (tx fr), .str (tx bk)]) ≤ 1000000 := by
      simp only [wtR, wtRs, tx_len]
      omega
    have dpt : (PyData.tuple [.str (tx fr), .str (tx bk)]).depth ≤ 60 := by
      simp only [PyData.depth, PyData.depthAll]
      decide
    obtain ⟨d, dd, dn, one⟩ := CertAt.one (K := K) (bk := bk) ltf.1 h12 rfl
    refine ⟨_, rfl, p, _, rfl, dpP hp, okP, wtP, dpt, _, rfl, p, fr, bk, rfl, hp, h12, fun v Ha sa hv => ?_⟩
    refine ⟨_, _, rfl, ?_⟩
    have hpa := hp.same sa
    refine ⟨_, rfl, _, rfl, p, fr, bk, v, rfl, hpa, h12, hv, fun Hb sb => ⟨_, rfl, iteF ?_⟩⟩
    have hvb := hv.same sb
    have hpb := hpa.same sb
    refine ⟨_, rfl, _, rfl, p, fr, bk, v, rfl, hpb, h12, hvb, fun Hc sc => ?_⟩
    refine ⟨_, _, rfl, rfl, _, rfl, iteF ?_⟩
    have hvc := hvb.same sc
    have hpc := hpb.same sc
    refine ⟨_, rfl, p, fr, bk, rfl, hpc, h12, fun v2 Hd sd hv2 => ?_⟩
    refine ⟨_, rfl, .inl ⟨v2, v, d, rfl, one _ _ hv2, one _ _ (hvc.same sd), by omega, dn, fun He se => ⟨_, rfl, iteF ?_⟩⟩⟩
    have hpe := (hpc.same sd).same se
    refine ⟨_, rfl, p, _, rfl, dpP hpe, okP, wtP, dpt, _, rfl, rfl, _, rfl, iteNS rfl ?_⟩
    exact ⟨_, _, _, _, _, _, _, rfl, sm.trans (sa.trans (sb.trans (sc.trans (sd.trans se))))⟩
  · obtain ⟨o3, o4, o5, o6, o7, o9, o10, rfl, sm⟩ := hp
    rfl
end
/-! ### what the top has left -/
theorem all_mk {l : PySem.W.OpenLaw} {w : World} {K : PySem.W.Frag} {h : Heap} {mg : Str → Option Value} {fa f1 f2 f3 f4 f5 f6 f7 f8 f9 f10 f11 f12 f13 f14 f15 f16 f17 f18 f19 f20 f21 f22 f23 f24 f25 f26 f27 f28 f29 f30 f31 f32 f33 f34 f35 f36 f37 f38 f39 f40 f41 f42 f43  : Addr} (X : K.In h) (G : h.Ns mainGlobals mg) (hfa : mg "law" = some (.ref fa))
    {od1 an1 od2 an2 od3 an3 od4 an4 od5 an5 od6 an6 od7 an7 od8 an8 od9 an9 od10 an10 od11 an11 od12 an12 od13 an13 od14 an14 od15 an15 od16 an16 od17 an17 od18 an18 od19 an19 od20 an20 od21 an21 od22 an22 od23 an23 od24 an24 od25 an25 od26 an26 od27 an27 od28 an28 od29 an29 od30 an30 od31 an31 od32 an32 od33 an33 od34 an34 od35 an35 od36 an36 od37 an37 od38 an38 od39 an39 od40 an40 od41 an41 od42 an42 od43 an43 : Option Addr} {sl1 sl2 sl3 sl4 sl5 sl6 sl7 sl8 sl9 sl10 sl11 sl12 sl13 sl14 sl15 sl16 sl17 sl18 sl19 sl20 sl21 sl22 sl23 sl24 sl25 sl26 sl27 sl28 sl29 sl30 sl31 sl32 sl33 sl34 sl35 sl36 sl37 sl38 sl39 sl40 sl41 sl42 sl43 : Array (Option Value)}
    {oc1 kV1 dc1 pm1 cd1 ct1 oc2 kV2 dc2 pm2 cd2 ct2 oc3 kV3 dc3 pm3 cd3 ct3 oc4 kV4 dc4 pm4 cd4 ct4 oc5 kV5 dc5 pm5 cd5 ct5 oc6 kV6 dc6 pm6 cd6 ct6 oc7 kV7 dc7 pm7 cd7 ct7 oc8 kV8 dc8 pm8 cd8 ct8 oc9 kV9 dc9 pm9 cd9 ct9 oc10 kV10 dc10 pm10 cd10 ct10 oc11 kV11 dc11 pm11 cd11 ct11 oc12 kV12 dc12 pm12 cd12 ct12 oc13 kV13 dc13 pm13 cd13 ct13 oc14 kV14 dc14 pm14 cd14 ct14 oc15 kV15 dc15 pm15 cd15 ct15 oc16 kV16 dc16 pm16 cd16 ct16 oc17 kV17 dc17 pm17 cd17 ct17 oc18 kV18 dc18 pm18 cd18 ct18 oc19 kV19 dc19 pm19 cd19 ct19 oc20 kV20 dc20 pm20 cd20 ct20 oc21 kV21 dc21 pm21 cd21 ct21 oc22 kV22 dc22 pm22 cd22 ct22 oc23 kV23 dc23 pm23 cd23 ct23 oc24 kV24 dc24 pm24 cd24 ct24 oc25 kV25 dc25 pm25 cd25 ct25 oc26 kV26 dc26 pm26 cd26 ct26 oc27 kV27 dc27 pm27 cd27 ct27 oc28 kV28 dc28 pm28 cd28 ct28 oc29 kV29 dc29 pm29 cd29 ct29 oc30 kV30 dc30 pm30 cd30 ct30 oc31 kV31 dc31 pm31 cd31 ct31 oc32 kV32 dc32 pm32 cd32 ct32 oc33 kV33 dc33 pm33 cd33 ct33 oc34 kV34 dc34 pm34 cd34 ct34 oc35 kV35 dc35 pm35 cd35 ct35 oc36 kV36 dc36 pm36 cd36 ct36 oc37 kV37 dc37 pm37 cd37 ct37 oc38 kV38 dc38 pm38 cd38 ct38 oc39 kV39 dc39 pm39 cd39 ct39 oc40 kV40 dc40 pm40 cd40 ct40 oc41 kV41 dc41 pm41 cd41 ct41 oc42 kV42 dc42 pm42 cd42 ct42 oc43 kV43 dc43 pm43 cd43 ct43 : Value} {t1 : Tok}
    {aK : Addr} {oK : Option Addr} {tK1 tK2 tK3 tK4 : Tok} {nK : Nat} {sK : Array (Option Value)}
    (aKn : PySem.W.nsIn K mainGlobals "KINDS" = some (some (.ref aK)))
    (aKl : K.lookup aK = some ⟨.type "tuple", oK, .seq #[.str "first" tK1, .str "between" tK2, .str "last" tK3, .str "level" tK4] nK, sK⟩)
    (a1 : PySem.W.nsIn K mainGlobals "is_letter" = some (some (.ref f1)))
    (l1 : K.lookup f1 = some ⟨oc1, od1, .func (PySem.W.fnOf "is_letter" "is_letter" (defArgs s_is_letter) (defBody s_is_letter) (defScope s_is_letter) .none kV1 dc1 pm1 an1 cd1 ct1), sl1⟩)
    (c1 : PySem.W.codeIn K cd1 "is_letter" = true)
    (k1 : PySem.W.keepIn K (.ref f1) = true)
    (a2 : PySem.W.nsIn K mainGlobals "is_ascending" = some (some (.ref f2)))
    (l2 : K.lookup f2 = some ⟨oc2, od2, .func (PySem.W.fnOf "is_ascending" "is_ascending" (defArgs s_is_ascending) (defBody s_is_ascending) (defScope s_is_ascending) .none kV2 dc2 pm2 an2 cd2 ct2), sl2⟩)
    (c2 : PySem.W.codeIn K cd2 "is_ascending" = true)
    (k2 : PySem.W.keepIn K (.ref f2) = true)
    (a3 : PySem.W.nsIn K mainGlobals "in_order" = some (some (.ref f3)))
    (l3 : K.lookup f3 = some ⟨oc3, od3, .func (PySem.W.fnOf "in_order" "in_order" (defArgs s_in_order) (defBody s_in_order) (defScope s_in_order) .none kV3 dc3 pm3 an3 cd3 ct3), sl3⟩)
    (c3 : PySem.W.codeIn K cd3 "in_order" = true)
    (k3 : PySem.W.keepIn K (.ref f3) = true)
    (a4 : PySem.W.nsIn K mainGlobals "is_below" = some (some (.ref f4)))
    (l4 : K.lookup f4 = some ⟨oc4, od4, .func (PySem.W.fnOf "is_below" "is_below" (defArgs s_is_below) (defBody s_is_below) (defScope s_is_below) .none kV4 dc4 pm4 an4 cd4 ct4), sl4⟩)
    (c4 : PySem.W.codeIn K cd4 "is_below" = true)
    (k4 : PySem.W.keepIn K (.ref f4) = true)
    (a5 : PySem.W.nsIn K mainGlobals "children_of" = some (some (.ref f5)))
    (l5 : K.lookup f5 = some ⟨oc5, od5, .func (PySem.W.fnOf "children_of" "children_of" (defArgs s_children_of) (defBody s_children_of) (defScope s_children_of) .none kV5 dc5 pm5 an5 cd5 ct5), sl5⟩)
    (c5 : PySem.W.codeIn K cd5 "children_of" = true)
    (k5 : PySem.W.keepIn K (.ref f5) = true)
    (a6 : PySem.W.nsIn K mainGlobals "families_of" = some (some (.ref f6)))
    (l6 : K.lookup f6 = some ⟨oc6, od6, .func (PySem.W.fnOf "families_of" "families_of" (defArgs s_families_of) (defBody s_families_of) (defScope s_families_of) .none kV6 dc6 pm6 an6 cd6 ct6), sl6⟩)
    (c6 : PySem.W.codeIn K cd6 "families_of" = true)
    (k6 : PySem.W.keepIn K (.ref f6) = true)
    (a7 : PySem.W.nsIn K mainGlobals "letters_of" = some (some (.ref f7)))
    (l7 : K.lookup f7 = some ⟨oc7, od7, .func (PySem.W.fnOf "letters_of" "letters_of" (defArgs s_letters_of) (defBody s_letters_of) (defScope s_letters_of) .none kV7 dc7 pm7 an7 cd7 ct7), sl7⟩)
    (c7 : PySem.W.codeIn K cd7 "letters_of" = true)
    (k7 : PySem.W.keepIn K (.ref f7) = true)
    (a8 : PySem.W.nsIn K mainGlobals "is_triple" = some (some (.ref f8)))
    (l8 : K.lookup f8 = some ⟨oc8, od8, .func (PySem.W.fnOf "is_triple" "is_triple" (defArgs s_is_triple) (defBody s_is_triple) (defScope s_is_triple) .none kV8 dc8 pm8 an8 cd8 ct8), sl8⟩)
    (c8 : PySem.W.codeIn K cd8 "is_triple" = true)
    (k8 : PySem.W.keepIn K (.ref f8) = true)
    (a9 : PySem.W.nsIn K mainGlobals "is_crowd" = some (some (.ref f9)))
    (l9 : K.lookup f9 = some ⟨oc9, od9, .func (PySem.W.fnOf "is_crowd" "is_crowd" (defArgs s_is_crowd) (defBody s_is_crowd) (defScope s_is_crowd) .none kV9 dc9 pm9 an9 cd9 ct9), sl9⟩)
    (c9 : PySem.W.codeIn K cd9 "is_crowd" = true)
    (k9 : PySem.W.keepIn K (.ref f9) = true)
    (a10 : PySem.W.nsIn K mainGlobals "has_wrong_root" = some (some (.ref f10)))
    (l10 : K.lookup f10 = some ⟨oc10, od10, .func (PySem.W.fnOf "has_wrong_root" "has_wrong_root" (defArgs s_has_wrong_root) (defBody s_has_wrong_root) (defScope s_has_wrong_root) .none kV10 dc10 pm10 an10 cd10 ct10), sl10⟩)
    (c10 : PySem.W.codeIn K cd10 "has_wrong_root" = true)
    (k10 : PySem.W.keepIn K (.ref f10) = true)
    (a11 : PySem.W.nsIn K mainGlobals "triples_of" = some (some (.ref f11)))
    (l11 : K.lookup f11 = some ⟨oc11, od11, .func (PySem.W.fnOf "triples_of" "triples_of" (defArgs s_triples_of) (defBody s_triples_of) (defScope s_triples_of) .none kV11 dc11 pm11 an11 cd11 ct11), sl11⟩)
    (c11 : PySem.W.codeIn K cd11 "triples_of" = true)
    (k11 : PySem.W.keepIn K (.ref f11) = true)
    (a12 : PySem.W.nsIn K mainGlobals "reason_against" = some (some (.ref f12)))
    (l12 : K.lookup f12 = some ⟨oc12, od12, .func (PySem.W.fnOf "reason_against" "reason_against" (defArgs s_reason_against) (defBody s_reason_against) (defScope s_reason_against) .none kV12 dc12 pm12 an12 cd12 ct12), sl12⟩)
    (c12 : PySem.W.codeIn K cd12 "reason_against" = true)
    (k12 : PySem.W.keepIn K (.ref f12) = true)
    (a13 : PySem.W.nsIn K mainGlobals "grown" = some (some (.ref f13)))
    (l13 : K.lookup f13 = some ⟨oc13, od13, .func (PySem.W.fnOf "grown" "grown" (defArgs s_grown) (defBody s_grown) (defScope s_grown) .none kV13 dc13 pm13 an13 cd13 ct13), sl13⟩)
    (c13 : PySem.W.codeIn K cd13 "grown" = true)
    (k13 : PySem.W.keepIn K (.ref f13) = true)
    (a14 : PySem.W.nsIn K mainGlobals "pair_certificate" = some (some (.ref f14)))
    (l14 : K.lookup f14 = some ⟨oc14, od14, .func (PySem.W.fnOf "pair_certificate" "pair_certificate" (defArgs s_pair_certificate) (defBody s_pair_certificate) (defScope s_pair_certificate) .none kV14 dc14 pm14 an14 cd14 ct14), sl14⟩)
    (c14 : PySem.W.codeIn K cd14 "pair_certificate" = true)
    (k14 : PySem.W.keepIn K (.ref f14) = true)
    (a15 : PySem.W.nsIn K mainGlobals "pair_holds" = some (some (.ref f15)))
    (l15 : K.lookup f15 = some ⟨oc15, od15, .func (PySem.W.fnOf "pair_holds" "pair_holds" (defArgs s_pair_holds) (defBody s_pair_holds) (defScope s_pair_holds) .none kV15 dc15 pm15 an15 cd15 ct15), sl15⟩)
    (c15 : PySem.W.codeIn K cd15 "pair_holds" = true)
    (k15 : PySem.W.keepIn K (.ref f15) = true)
    (a16 : PySem.W.nsIn K mainGlobals "is_tagged" = some (some (.ref f16)))
    (l16 : K.lookup f16 = some ⟨oc16, od16, .func (PySem.W.fnOf "is_tagged" "is_tagged" (defArgs s_is_tagged) (defBody s_is_tagged) (defScope s_is_tagged) .none kV16 dc16 pm16 an16 cd16 ct16), sl16⟩)
    (c16 : PySem.W.codeIn K cd16 "is_tagged" = true)
    (k16 : PySem.W.keepIn K (.ref f16) = true)
    (a17 : PySem.W.nsIn K mainGlobals "is_node" = some (some (.ref f17)))
    (l17 : K.lookup f17 = some ⟨oc17, od17, .func (PySem.W.fnOf "is_node" "is_node" (defArgs s_is_node) (defBody s_is_node) (defScope s_is_node) .none kV17 dc17 pm17 an17 cd17 ct17), sl17⟩)
    (c17 : PySem.W.codeIn K cd17 "is_node" = true)
    (k17 : PySem.W.keepIn K (.ref f17) = true)
    (a18 : PySem.W.nsIn K mainGlobals "is_tree" = some (some (.ref f18)))
    (l18 : K.lookup f18 = some ⟨oc18, od18, .func (PySem.W.fnOf "is_tree" "is_tree" (defArgs s_is_tree) (defBody s_is_tree) (defScope s_is_tree) .none kV18 dc18 pm18 an18 cd18 ct18), sl18⟩)
    (c18 : PySem.W.codeIn K cd18 "is_tree" = true)
    (k18 : PySem.W.keepIn K (.ref f18) = true)
    (a19 : PySem.W.nsIn K mainGlobals "is_kind" = some (some (.ref f19)))
    (l19 : K.lookup f19 = some ⟨oc19, od19, .func (PySem.W.fnOf "is_kind" "is_kind" (defArgs s_is_kind) (defBody s_is_kind) (defScope s_is_kind) .none kV19 dc19 pm19 an19 cd19 ct19), sl19⟩)
    (c19 : PySem.W.codeIn K cd19 "is_kind" = true)
    (k19 : PySem.W.keepIn K (.ref f19) = true)
    (a20 : PySem.W.nsIn K mainGlobals "deep_steps" = some (some (.ref f20)))
    (l20 : K.lookup f20 = some ⟨oc20, od20, .func (PySem.W.fnOf "deep_steps" "deep_steps" (defArgs s_deep_steps) (defBody s_deep_steps) (defScope s_deep_steps) .none kV20 dc20 pm20 an20 cd20 ct20), sl20⟩)
    (c20 : PySem.W.codeIn K cd20 "deep_steps" = true)
    (k20 : PySem.W.keepIn K (.ref f20) = true)
    (a21 : PySem.W.nsIn K mainGlobals "ordered_steps" = some (some (.ref f21)))
    (l21 : K.lookup f21 = some ⟨oc21, od21, .func (PySem.W.fnOf "ordered_steps" "ordered_steps" (defArgs s_ordered_steps) (defBody s_ordered_steps) (defScope s_ordered_steps) .none kV21 dc21 pm21 an21 cd21 ct21), sl21⟩)
    (c21 : PySem.W.codeIn K cd21 "ordered_steps" = true)
    (k21 : PySem.W.keepIn K (.ref f21) = true)
    (a22 : PySem.W.nsIn K mainGlobals "walk" = some (some (.ref f22)))
    (l22 : K.lookup f22 = some ⟨oc22, od22, .func (PySem.W.fnOf "walk" "walk" (defArgs s_walk) (defBody s_walk) (defScope s_walk) .none kV22 dc22 pm22 an22 cd22 ct22), sl22⟩)
    (c22 : PySem.W.codeIn K cd22 "walk" = true)
    (k22 : PySem.W.keepIn K (.ref f22) = true)
    (a23 : PySem.W.nsIn K mainGlobals "walks" = some (some (.ref f23)))
    (l23 : K.lookup f23 = some ⟨oc23, od23, .func (PySem.W.fnOf "walks" "walks" (defArgs s_walks) (defBody s_walks) (defScope s_walks) .none kV23 dc23 pm23 an23 cd23 ct23), sl23⟩)
    (c23 : PySem.W.codeIn K cd23 "walks" = true)
    (k23 : PySem.W.keepIn K (.ref f23) = true)
    (a24 : PySem.W.nsIn K mainGlobals "pair_of" = some (some (.ref f24)))
    (l24 : K.lookup f24 = some ⟨oc24, od24, .func (PySem.W.fnOf "pair_of" "pair_of" (defArgs s_pair_of) (defBody s_pair_of) (defScope s_pair_of) .none kV24 dc24 pm24 an24 cd24 ct24), sl24⟩)
    (c24 : PySem.W.codeIn K cd24 "pair_of" = true)
    (k24 : PySem.W.keepIn K (.ref f24) = true)
    (a25 : PySem.W.nsIn K mainGlobals "_law_spring" = some (some (.ref f25)))
    (l25 : K.lookup f25 = some ⟨oc25, od25, .func (PySem.W.fnOf "_law_spring" "_law_spring" (defArgs s__law_spring) (defBody s__law_spring) (defScope s__law_spring) .none kV25 dc25 pm25 an25 cd25 ct25), sl25⟩)
    (c25 : PySem.W.codeIn K cd25 "_law_spring" = true)
    (k25 : PySem.W.keepIn K (.ref f25) = true)
    (a26 : PySem.W.nsIn K mainGlobals "_law_draw" = some (some (.ref f26)))
    (l26 : K.lookup f26 = some ⟨oc26, od26, .func (PySem.W.fnOf "_law_draw" "_law_draw" (defArgs s__law_draw) (defBody s__law_draw) (defScope s__law_draw) .none kV26 dc26 pm26 an26 cd26 ct26), sl26⟩)
    (c26 : PySem.W.codeIn K cd26 "_law_draw" = true)
    (k26 : PySem.W.keepIn K (.ref f26) = true)
    (a27 : PySem.W.nsIn K mainGlobals "_law_same" = some (some (.ref f27)))
    (l27 : K.lookup f27 = some ⟨oc27, od27, .func (PySem.W.fnOf "_law_same" "_law_same" (defArgs s__law_same) (defBody s__law_same) (defScope s__law_same) .none kV27 dc27 pm27 an27 cd27 ct27), sl27⟩)
    (c27 : PySem.W.codeIn K cd27 "_law_same" = true)
    (k27 : PySem.W.keepIn K (.ref f27) = true)
    (a28 : PySem.W.nsIn K mainGlobals "_law_letters" = some (some (.ref f28)))
    (l28 : K.lookup f28 = some ⟨oc28, od28, .func (PySem.W.fnOf "_law_letters" "_law_letters" (defArgs s__law_letters) (defBody s__law_letters) (defScope s__law_letters) .none kV28 dc28 pm28 an28 cd28 ct28), sl28⟩)
    (c28 : PySem.W.codeIn K cd28 "_law_letters" = true)
    (k28 : PySem.W.keepIn K (.ref f28) = true)
    (a29 : PySem.W.nsIn K mainGlobals "_law_grown" = some (some (.ref f29)))
    (l29 : K.lookup f29 = some ⟨oc29, od29, .func (PySem.W.fnOf "_law_grown" "_law_grown" (defArgs s__law_grown) (defBody s__law_grown) (defScope s__law_grown) .none kV29 dc29 pm29 an29 cd29 ct29), sl29⟩)
    (c29 : PySem.W.codeIn K cd29 "_law_grown" = true)
    (k29 : PySem.W.keepIn K (.ref f29) = true)
    (a30 : PySem.W.nsIn K mainGlobals "_law_drawn_tree" = some (some (.ref f30)))
    (l30 : K.lookup f30 = some ⟨oc30, od30, .func (PySem.W.fnOf "_law_drawn_tree" "_law_drawn_tree" (defArgs s__law_drawn_tree) (defBody s__law_drawn_tree) (defScope s__law_drawn_tree) .none kV30 dc30 pm30 an30 cd30 ct30), sl30⟩)
    (c30 : PySem.W.codeIn K cd30 "_law_drawn_tree" = true)
    (k30 : PySem.W.keepIn K (.ref f30) = true)
    (a31 : PySem.W.nsIn K mainGlobals "_law_front" = some (some (.ref f31)))
    (l31 : K.lookup f31 = some ⟨oc31, od31, .func (PySem.W.fnOf "_law_front" "_law_front" (defArgs s__law_front) (defBody s__law_front) (defScope s__law_front) .none kV31 dc31 pm31 an31 cd31 ct31), sl31⟩)
    (c31 : PySem.W.codeIn K cd31 "_law_front" = true)
    (k31 : PySem.W.keepIn K (.ref f31) = true)
    (a32 : PySem.W.nsIn K mainGlobals "_law_back" = some (some (.ref f32)))
    (l32 : K.lookup f32 = some ⟨oc32, od32, .func (PySem.W.fnOf "_law_back" "_law_back" (defArgs s__law_back) (defBody s__law_back) (defScope s__law_back) .none kV32 dc32 pm32 an32 cd32 ct32), sl32⟩)
    (c32 : PySem.W.codeIn K cd32 "_law_back" = true)
    (k32 : PySem.W.keepIn K (.ref f32) = true)
    (a33 : PySem.W.nsIn K mainGlobals "_law_closed" = some (some (.ref f33)))
    (l33 : K.lookup f33 = some ⟨oc33, od33, .func (PySem.W.fnOf "_law_closed" "_law_closed" (defArgs s__law_closed) (defBody s__law_closed) (defScope s__law_closed) .none kV33 dc33 pm33 an33 cd33 ct33), sl33⟩)
    (c33 : PySem.W.codeIn K cd33 "_law_closed" = true)
    (k33 : PySem.W.keepIn K (.ref f33) = true)
    (a34 : PySem.W.nsIn K mainGlobals "_law_pair" = some (some (.ref f34)))
    (l34 : K.lookup f34 = some ⟨oc34, od34, .func (PySem.W.fnOf "_law_pair" "_law_pair" (defArgs s__law_pair) (defBody s__law_pair) (defScope s__law_pair) .none kV34 dc34 pm34 an34 cd34 ct34), sl34⟩)
    (c34 : PySem.W.codeIn K cd34 "_law_pair" = true)
    (k34 : PySem.W.keepIn K (.ref f34) = true)
    (a35 : PySem.W.nsIn K mainGlobals "_law_is_below" = some (some (.ref f35)))
    (l35 : K.lookup f35 = some ⟨oc35, od35, .func (PySem.W.fnOf "_law_is_below" "_law_is_below" (defArgs s__law_is_below) (defBody s__law_is_below) (defScope s__law_is_below) .none kV35 dc35 pm35 an35 cd35 ct35), sl35⟩)
    (c35 : PySem.W.codeIn K cd35 "_law_is_below" = true)
    (k35 : PySem.W.keepIn K (.ref f35) = true)
    (a36 : PySem.W.nsIn K mainGlobals "_law_children" = some (some (.ref f36)))
    (l36 : K.lookup f36 = some ⟨oc36, od36, .func (PySem.W.fnOf "_law_children" "_law_children" (defArgs s__law_children) (defBody s__law_children) (defScope s__law_children) .none kV36 dc36 pm36 an36 cd36 ct36), sl36⟩)
    (c36 : PySem.W.codeIn K cd36 "_law_children" = true)
    (k36 : PySem.W.keepIn K (.ref f36) = true)
    (a37 : PySem.W.nsIn K mainGlobals "_law_triples" = some (some (.ref f37)))
    (l37 : K.lookup f37 = some ⟨oc37, od37, .func (PySem.W.fnOf "_law_triples" "_law_triples" (defArgs s__law_triples) (defBody s__law_triples) (defScope s__law_triples) .none kV37 dc37 pm37 an37 cd37 ct37), sl37⟩)
    (c37 : PySem.W.codeIn K cd37 "_law_triples" = true)
    (k37 : PySem.W.keepIn K (.ref f37) = true)
    (a38 : PySem.W.nsIn K mainGlobals "_law_crowds" = some (some (.ref f38)))
    (l38 : K.lookup f38 = some ⟨oc38, od38, .func (PySem.W.fnOf "_law_crowds" "_law_crowds" (defArgs s__law_crowds) (defBody s__law_crowds) (defScope s__law_crowds) .none kV38 dc38 pm38 an38 cd38 ct38), sl38⟩)
    (c38 : PySem.W.codeIn K cd38 "_law_crowds" = true)
    (k38 : PySem.W.keepIn K (.ref f38) = true)
    (a39 : PySem.W.nsIn K mainGlobals "_law_word" = some (some (.ref f39)))
    (l39 : K.lookup f39 = some ⟨oc39, od39, .func (PySem.W.fnOf "_law_word" "_law_word" (defArgs s__law_word) (defBody s__law_word) (defScope s__law_word) .none kV39 dc39 pm39 an39 cd39 ct39), sl39⟩)
    (c39 : PySem.W.codeIn K cd39 "_law_word" = true)
    (k39 : PySem.W.keepIn K (.ref f39) = true)
    (a40 : PySem.W.nsIn K mainGlobals "_law_is_tree" = some (some (.ref f40)))
    (l40 : K.lookup f40 = some ⟨oc40, od40, .func (PySem.W.fnOf "_law_is_tree" "_law_is_tree" (defArgs s__law_is_tree) (defBody s__law_is_tree) (defScope s__law_is_tree) .none kV40 dc40 pm40 an40 cd40 ct40), sl40⟩)
    (c40 : PySem.W.codeIn K cd40 "_law_is_tree" = true)
    (k40 : PySem.W.keepIn K (.ref f40) = true)
    (a41 : PySem.W.nsIn K mainGlobals "_law_sided" = some (some (.ref f41)))
    (l41 : K.lookup f41 = some ⟨oc41, od41, .func (PySem.W.fnOf "_law_sided" "_law_sided" (defArgs s__law_sided) (defBody s__law_sided) (defScope s__law_sided) .none kV41 dc41 pm41 an41 cd41 ct41), sl41⟩)
    (c41 : PySem.W.codeIn K cd41 "_law_sided" = true)
    (k41 : PySem.W.keepIn K (.ref f41) = true)
    (a42 : PySem.W.nsIn K mainGlobals "_law_certificate_right" = some (some (.ref f42)))
    (l42 : K.lookup f42 = some ⟨oc42, od42, .func (PySem.W.fnOf "_law_certificate_right" "_law_certificate_right" (defArgs s__law_certificate_right) (defBody s__law_certificate_right) (defScope s__law_certificate_right) .none kV42 dc42 pm42 an42 cd42 ct42), sl42⟩)
    (c42 : PySem.W.codeIn K cd42 "_law_certificate_right" = true)
    (k42 : PySem.W.keepIn K (.ref f42) = true)
    (a43 : PySem.W.nsIn K mainGlobals "law" = some (some (.ref f43)))
    (l43 : K.lookup f43 = some ⟨oc43, od43, .func (PySem.W.fnOf "law" "law" (defArgs s_law) (defBody s_law) (defScope s_law) .none kV43 dc43 pm43 an43 cd43 ct43), sl43⟩)
    (c43 : PySem.W.codeIn K cd43 "law" = true)
    (k43 : PySem.W.keepIn K (.ref f43) = true)
    (z1 : PySem.W.nsIn K mainGlobals "zip" = some none)
    (z2 : PySem.W.nsIn K mainGlobals "all" = some none)
    (z3 : PySem.W.nsIn K mainGlobals "repr" = some none)
    (z4 : PySem.W.nsIn K mainGlobals "len" = some none)
    (z5 : PySem.W.nsIn K mainGlobals "isinstance" = some none)
    (z6 : PySem.W.nsIn K mainGlobals "list" = some none)
    (z7 : PySem.W.nsIn K mainGlobals "tuple" = some none)
    (z8 : PySem.W.nsIn K mainGlobals "str" = some none)
    (z9 : PySem.W.nsIn K mainGlobals "int" = some none)
    (z10 : PySem.W.nsIn K mainGlobals "bool" = some none)
    (z11 : PySem.W.nsIn K mainGlobals "dict" = some none)
    (z12 : PySem.W.nsIn K mainGlobals "range" = some none)
    (z13 : PySem.W.nsIn K mainGlobals "enumerate" = some none)
    (z14 : PySem.W.nsIn K mainGlobals "sum" = some none)
    (z15 : PySem.W.nsIn K mainGlobals "sorted" = some none)
    (z16 : PySem.W.nsIn K mainGlobals "abs" = some none)
    (z17 : PySem.W.nsIn K mainGlobals "min" = some none)
    (z18 : PySem.W.nsIn K mainGlobals "max" = some none)
    (z19 : PySem.W.nsIn K mainGlobals "any" = some none)
    (v1 : PySem.W.nsIn K mainGlobals "MAX_NODES" = some (some (.int 12 t1)))
    : ∀ (base : Heap) (H : Hp) (s : Shared) (a : Addr) (ns : List Int), K.In base → base.Ns mainGlobals mg → Env0 l.prog w K mg base callerA [] s H → SqL K H a (ns.map V.int) → ns.length ≤ 63 →
      codeAny (model l.prog w) callerA (.call (.ref fa) ⟨[.ref a], []⟩) (CR CX0 [] l.prog w H s (fun v _ => v = .bl true) fun _ _ _ => False) s := by
  intro base H s a ns _ _ en hS hn
  have e := hfa.symm.trans (PySem.W.mg_of X G a43)
  cases e
  have F1 := fun_mk (st := s_is_letter) l1 c1 k1
  have g1 := PySem.W.mg_of X G a1
  have F2 := fun_mk (st := s_is_ascending) l2 c2 k2
  have g2 := PySem.W.mg_of X G a2
  have F3 := fun_mk (st := s_in_order) l3 c3 k3
  have g3 := PySem.W.mg_of X G a3
  have F4 := fun_mk (st := s_is_below) l4 c4 k4
  have g4 := PySem.W.mg_of X G a4
  have F5 := fun_mk (st := s_children_of) l5 c5 k5
  have g5 := PySem.W.mg_of X G a5
  have F6 := fun_mk (st := s_families_of) l6 c6 k6
  have g6 := PySem.W.mg_of X G a6
  have F7 := fun_mk (st := s_letters_of) l7 c7 k7
  have g7 := PySem.W.mg_of X G a7
  have F8 := fun_mk (st := s_is_triple) l8 c8 k8
  have g8 := PySem.W.mg_of X G a8
  have F9 := fun_mk (st := s_is_crowd) l9 c9 k9
  have g9 := PySem.W.mg_of X G a9
  have F10 := fun_mk (st := s_has_wrong_root) l10 c10 k10
  have g10 := PySem.W.mg_of X G a10
  have F11 := fun_mk (st := s_triples_of) l11 c11 k11
  have g11 := PySem.W.mg_of X G a11
  have F12 := fun_mk (st := s_reason_against) l12 c12 k12
  have g12 := PySem.W.mg_of X G a12
  have F13 := fun_mk (st := s_grown) l13 c13 k13
  have g13 := PySem.W.mg_of X G a13
  have F14 := fun_mk (st := s_pair_certificate) l14 c14 k14
  have g14 := PySem.W.mg_of X G a14
  have F15 := fun_mk (st := s_pair_holds) l15 c15 k15
  have g15 := PySem.W.mg_of X G a15
  have F16 := fun_mk (st := s_is_tagged) l16 c16 k16
  have g16 := PySem.W.mg_of X G a16
  have F17 := fun_mk (st := s_is_node) l17 c17 k17
  have g17 := PySem.W.mg_of X G a17
  have F18 := fun_mk (st := s_is_tree) l18 c18 k18
  have g18 := PySem.W.mg_of X G a18
  have F19 := fun_mk (st := s_is_kind) l19 c19 k19
  have g19 := PySem.W.mg_of X G a19
  have F20 := fun_mk (st := s_deep_steps) l20 c20 k20
  have g20 := PySem.W.mg_of X G a20
  have F21 := fun_mk (st := s_ordered_steps) l21 c21 k21
  have g21 := PySem.W.mg_of X G a21
  have F22 := fun_mk (st := s_walk) l22 c22 k22
  have g22 := PySem.W.mg_of X G a22
  have F23 := fun_mk (st := s_walks) l23 c23 k23
  have g23 := PySem.W.mg_of X G a23
  have F24 := fun_mk (st := s_pair_of) l24 c24 k24
  have g24 := PySem.W.mg_of X G a24
  have F25 := fun_mk (st := s__law_spring) l25 c25 k25
  have g25 := PySem.W.mg_of X G a25
  have F26 := fun_mk (st := s__law_draw) l26 c26 k26
  have g26 := PySem.W.mg_of X G a26
  have F27 := fun_mk (st := s__law_same) l27 c27 k27
  have g27 := PySem.W.mg_of X G a27
  have F28 := fun_mk (st := s__law_letters) l28 c28 k28
  have g28 := PySem.W.mg_of X G a28
  have F29 := fun_mk (st := s__law_grown) l29 c29 k29
  have g29 := PySem.W.mg_of X G a29
  have F30 := fun_mk (st := s__law_drawn_tree) l30 c30 k30
  have g30 := PySem.W.mg_of X G a30
  have F31 := fun_mk (st := s__law_front) l31 c31 k31
  have g31 := PySem.W.mg_of X G a31
  have F32 := fun_mk (st := s__law_back) l32 c32 k32
  have g32 := PySem.W.mg_of X G a32
  have F33 := fun_mk (st := s__law_closed) l33 c33 k33
  have g33 := PySem.W.mg_of X G a33
  have F34 := fun_mk (st := s__law_pair) l34 c34 k34
  have g34 := PySem.W.mg_of X G a34
  have F35 := fun_mk (st := s__law_is_below) l35 c35 k35
  have g35 := PySem.W.mg_of X G a35
  have F36 := fun_mk (st := s__law_children) l36 c36 k36
  have g36 := PySem.W.mg_of X G a36
  have F37 := fun_mk (st := s__law_triples) l37 c37 k37
  have g37 := PySem.W.mg_of X G a37
  have F38 := fun_mk (st := s__law_crowds) l38 c38 k38
  have g38 := PySem.W.mg_of X G a38
  have F39 := fun_mk (st := s__law_word) l39 c39 k39
  have g39 := PySem.W.mg_of X G a39
  have F40 := fun_mk (st := s__law_is_tree) l40 c40 k40
  have g40 := PySem.W.mg_of X G a40
  have F41 := fun_mk (st := s__law_sided) l41 c41 k41
  have g41 := PySem.W.mg_of X G a41
  have F42 := fun_mk (st := s__law_certificate_right) l42 c42 k42
  have g42 := PySem.W.mg_of X G a42
  have F43 := fun_mk (st := s_law) l43 c43 k43
  have m_zip := PySem.W.mg_none_of X G z1
  have m_all := PySem.W.mg_none_of X G z2
  have m_repr := PySem.W.mg_none_of X G z3
  have m_len := PySem.W.mg_none_of X G z4
  have m_isinstance := PySem.W.mg_none_of X G z5
  have m_list := PySem.W.mg_none_of X G z6
  have m_tuple := PySem.W.mg_none_of X G z7
  have m_str := PySem.W.mg_none_of X G z8
  have m_int := PySem.W.mg_none_of X G z9
  have m_bool := PySem.W.mg_none_of X G z10
  have m_dict := PySem.W.mg_none_of X G z11
  have m_range := PySem.W.mg_none_of X G z12
  have m_enumerate := PySem.W.mg_none_of X G z13
  have m_sum := PySem.W.mg_none_of X G z14
  have m_sorted := PySem.W.mg_none_of X G z15
  have m_abs := PySem.W.mg_none_of X G z16
  have m_min := PySem.W.mg_none_of X G z17
  have m_max := PySem.W.mg_none_of X G z18
  have m_any := PySem.W.mg_none_of X G z19
  have m1 := PySem.W.mg_of X G v1
  have b1 := F1.binds (ps := ["value"]) fun _ _ _ _ _ _ us hl => match us, hl with | [_], _ => rfl
  have b2 := F2.binds (ps := ["items"]) fun _ _ _ _ _ _ us hl => match us, hl with | [_], _ => rfl
  have b3 := F3.binds (ps := ["text", "letters"]) fun _ _ _ _ _ _ us hl => match us, hl with | [_, _], _ => rfl
  have b4 := F4.binds (ps := ["pair", "letter", "other"]) fun _ _ _ _ _ _ us hl => match us, hl with | [_, _, _], _ => rfl
  have b5 := F5.binds (ps := ["pair", "letter"]) fun _ _ _ _ _ _ us hl => match us, hl with | [_, _], _ => rfl
  have b6 := F6.binds (ps := ["pair"]) fun _ _ _ _ _ _ us hl => match us, hl with | [_], _ => rfl
  have b7 := F7.binds (ps := ["pair", "value", "many"]) fun _ _ _ _ _ _ us hl => match us, hl with | [_, _, _], _ => rfl
  have b8 := F8.binds (ps := ["pair", "value"]) fun _ _ _ _ _ _ us hl => match us, hl with | [_, _], _ => rfl
  have b9 := F9.binds (ps := ["pair", "value"]) fun _ _ _ _ _ _ us hl => match us, hl with | [_, _], _ => rfl
  have b10 := F10.binds (ps := ["pair"]) fun _ _ _ _ _ _ us hl => match us, hl with | [_], _ => rfl
  have b11 := F11.binds (ps := ["pair"]) fun _ _ _ _ _ _ us hl => match us, hl with | [_], _ => rfl
  have b12 := F12.binds (ps := ["pair"]) fun _ _ _ _ _ _ us hl => match us, hl with | [_], _ => rfl
  have b13 := F13.binds (ps := ["families", "letter", "lefts"]) fun _ _ _ _ _ _ us hl => match us, hl with | [_, _, _], _ => rfl
  have b14 := F14.binds (ps := ["pair"]) fun _ _ _ _ _ _ us hl => match us, hl with | [_], _ => rfl
  have b15 := F15.binds (ps := ["pair", "value"]) fun _ _ _ _ _ _ us hl => match us, hl with | [_, _], _ => rfl
  have b16 := F16.binds (ps := ["value"]) fun _ _ _ _ _ _ us hl => match us, hl with | [_], _ => rfl
  have b17 := F17.binds (ps := ["value"]) fun _ _ _ _ _ _ us hl => match us, hl with | [_], _ => rfl
  have b18 := F18.binds (ps := ["value"]) fun _ _ _ _ _ _ us hl => match us, hl with | [_], _ => rfl
  have b19 := F19.binds (ps := ["value"]) fun _ _ _ _ _ _ us hl => match us, hl with | [_], _ => rfl
  have b20 := F20.binds (ps := ["tree", "kind", "path"]) fun _ _ _ _ _ _ us hl => match us, hl with | [_, _, _], _ => rfl
  have b21 := F21.binds (ps := ["tree", "kind"]) fun _ _ _ _ _ _ us hl => match us, hl with | [_, _], _ => rfl
  have b22 := F22.binds (ps := ["tree", "kind"]) fun _ _ _ _ _ _ us hl => match us, hl with | [_, _], _ => rfl
  have b24 := F24.binds (ps := ["tree"]) fun _ _ _ _ _ _ us hl => match us, hl with | [_], _ => rfl
  have b25 := F25.binds (ps := ["_law_script"]) fun _ _ _ _ _ _ us hl => match us, hl with | [_], _ => rfl
  have b26 := F26.binds (ps := ["_law_spring_here", "_law_bound"]) fun _ _ _ _ _ _ us hl => match us, hl with | [_, _], _ => rfl
  have b27 := F27.binds (ps := ["_law_found", "_law_due"]) fun _ _ _ _ _ _ us hl => match us, hl with | [_, _], _ => rfl
  have b28 := F28.binds (ps := ["_law_spring_here", "_law_many"]) fun _ _ _ _ _ _ us hl => match us, hl with | [_, _], _ => rfl
  have b29 := F29.binds (ps := ["_law_spring_here", "_law_letters_here", "_law_way"]) fun _ _ _ _ _ _ us hl => match us, hl with | [_, _, _], _ => rfl
  have b30 := F30.binds (ps := ["_law_spring_here", "_law_bound"]) fun _ _ _ _ _ _ us hl => match us, hl with | [_, _], _ => rfl
  have b31 := F31.binds (ps := ["_law_tree"]) fun _ _ _ _ _ _ us hl => match us, hl with | [_], _ => rfl
  have b32 := F32.binds (ps := ["_law_tree"]) fun _ _ _ _ _ _ us hl => match us, hl with | [_], _ => rfl
  have b33 := F33.binds (ps := ["_law_spring_here", "_law_letters_here"]) fun _ _ _ _ _ _ us hl => match us, hl with | [_, _], _ => rfl
  have b34 := F34.binds (ps := ["_law_spring_here", "_law_bound"]) fun _ _ _ _ _ _ us hl => match us, hl with | [_, _], _ => rfl
  have b35 := F35.binds (ps := ["_law_pair_here", "_law_letter", "_law_other"]) fun _ _ _ _ _ _ us hl => match us, hl with | [_, _, _], _ => rfl
  have b36 := F36.binds (ps := ["_law_pair_here", "_law_letter"]) fun _ _ _ _ _ _ us hl => match us, hl with | [_, _], _ => rfl
  have b37 := F37.binds (ps := ["_law_pair_here"]) fun _ _ _ _ _ _ us hl => match us, hl with | [_], _ => rfl
  have b38 := F38.binds (ps := ["_law_pair_here"]) fun _ _ _ _ _ _ us hl => match us, hl with | [_], _ => rfl
  have b39 := F39.binds (ps := ["_law_pair_here"]) fun _ _ _ _ _ _ us hl => match us, hl with | [_], _ => rfl
  have b40 := F40.binds (ps := ["_law_value"]) fun _ _ _ _ _ _ us hl => match us, hl with | [_], _ => rfl
  have b41 := F41.binds (ps := ["_law_tree", "_law_lefts"]) fun _ _ _ _ _ _ us hl => match us, hl with | [_, _], _ => rfl
  have b42 := F42.binds (ps := ["_law_pair_here", "_law_told"]) fun _ _ _ _ _ _ us hl => match us, hl with | [_, _], _ => rfl
  have M : Mgs mg := ⟨m_zip, m_all, m_repr, m_len, m_isinstance, m_list, m_tuple, m_str, m_int, m_bool, m_dict, m_range, m_enumerate, m_sum, m_sorted, m_abs, m_min, m_max⟩
  have Kk : KindsT K mg aK := ⟨PySem.W.mg_of X G aKn, fun H => .inr ⟨_, _, _, aKl, rfl, rfl, (by show 4 ≤ sizeLine; decide), .cons ⟨_, rfl⟩ (.cons ⟨_, rfl⟩ (.cons ⟨_, rfl⟩ (.cons ⟨_, rfl⟩ .nil)))⟩⟩
  have Dd1 : Df l.prog w K mg base 1 "_law_draw" ["_law_spring_here", "_law_bound"] spDraw := ⟨f26, _, ok_draw (k := 0) F26 M, b26, k26, g26⟩
  have Dd18 : Df l.prog w K mg base 18 "_law_draw" ["_law_spring_here", "_law_bound"] spDraw := ⟨f26, _, ok_draw (k := 17) F26 M, b26, k26, g26⟩
  have Dd19 : Df l.prog w K mg base 19 "_law_draw" ["_law_spring_here", "_law_bound"] spDraw := ⟨f26, _, ok_draw (k := 18) F26 M, b26, k26, g26⟩
  have Dd20 : Df l.prog w K mg base 20 "_law_draw" ["_law_spring_here", "_law_bound"] spDraw := ⟨f26, _, ok_draw (k := 19) F26 M, b26, k26, g26⟩
  have D_law_spring : Df l.prog w K mg base 1 "_law_spring" ["_law_script"] (spSpring K) := ⟨f25, _, ok_spring (k := 0) F25 M, b25, k25, g25⟩
  have D_law_letters : Df l.prog w K mg base 19 "_law_letters" ["_law_spring_here", "_law_many"] spLetters := ⟨f28, _, ok_letters (k := 17) F28 M Dd18, b28, k28, g28⟩
  have D_law_grown : Df l.prog w K mg base 19 "_law_grown" ["_law_spring_here", "_law_letters_here", "_law_way"] (spGrown 18) := ⟨f29, _, ok_grown F29 M b29 g29 Dd1 18, b29, k29, g29⟩
  have D_law_drawn_tree : Df l.prog w K mg base 20 "_law_drawn_tree" ["_law_spring_here", "_law_bound"] (spDrawnTree 18) := ⟨f30, _, ok_drawn (N := 18) F30 M Dd19 D_law_letters D_law_grown, b30, k30, g30⟩
  have D_law_front : Df l.prog w K mg base 20 "_law_front" ["_law_tree"] (spFront 20) := ⟨f31, _, ok_front F31 b31 g31 20, b31, k31, g31⟩
  have D_law_back : Df l.prog w K mg base 20 "_law_back" ["_law_tree"] (spBack 20) := ⟨f32, _, ok_back F32 b32 g32 20, b32, k32, g32⟩
  have D_law_closed : Df l.prog w K mg base 20 "_law_closed" ["_law_spring_here", "_law_letters_here"] spClosed := ⟨f33, _, ok_closed (k := 18) F33 M Dd19, b33, k33, g33⟩
  have D_law_pair : Df l.prog w K mg base 21 "_law_pair" ["_law_spring_here", "_law_bound"] spPair := ⟨f34, _, ok_pair (N := 18) (by decide) F34 M Dd20 D_law_drawn_tree D_law_front D_law_back D_law_closed, b34, k34, g34⟩
  have Dis_letter : Df l.prog w K mg base 1 "is_letter" ["value"] spLetter := ⟨f1, _, ok_letter (k := 0) F1 M, b1, k1, g1⟩
  have Dletters_of : Df l.prog w K mg base 2 "letters_of" ["pair", "value", "many"] spLetters3 := ⟨f7, _, ok_letters3 (k := 0) F7 M Dis_letter, b7, k7, g7⟩
  have Dl4 : Df l.prog w K mg base 2 "letters_of" ["pair", "value", "many"] spLetters4 := ⟨f7, _, ok_letters4 (k := 0) F7 M Dis_letter, b7, k7, g7⟩
  have Dis_ascending : Df l.prog w K mg base 1 "is_ascending" ["items"] (spAsc3 K) := ⟨f2, _, ok_asc3 (k := 0) F2 M, b2, k2, g2⟩
  have Din_order : Df l.prog w K mg base 2 "in_order" ["text", "letters"] (spOrd3 K) := ⟨f3, _, ok_ord3 (k := 0) F3 Dis_ascending, b3, k3, g3⟩
  have Dis_triple : Df l.prog w K mg base 3 "is_triple" ["pair", "value"] spTriple := ⟨f8, _, ok_triple (k := 0) F8 Dletters_of Din_order, b8, k8, g8⟩
  have Dtriples_of : Df l.prog w K mg base 4 "triples_of" ["pair"] spTriples := ⟨f11, _, ok_triples (k := 0) F11 M Dis_triple, b11, k11, g11⟩
  have Dhas_wrong_root : Df l.prog w K mg base 4 "has_wrong_root" ["pair"] spWroot := ⟨f10, _, ok_wroot (k := 3) F10, b10, k10, g10⟩
  have Db1 : Df l.prog w K mg base 1 "is_below" ["pair", "letter", "other"] spBelow := ⟨f4, _, ok_below (k := 0) F4, b4, k4, g4⟩
  have Db2 : Df l.prog w K mg base 2 "is_below" ["pair", "letter", "other"] spBelow := ⟨f4, _, ok_below (k := 1) F4, b4, k4, g4⟩
  have Db3 : Df l.prog w K mg base 3 "is_below" ["pair", "letter", "other"] spBelow := ⟨f4, _, ok_below (k := 2) F4, b4, k4, g4⟩
  have Dk2 : Df l.prog w K mg base 2 "children_of" ["pair", "letter"] spKids := ⟨f5, _, ok_kids (k := 0) F5 m_any Db1, b5, k5, g5⟩
  have Dk3 : Df l.prog w K mg base 3 "children_of" ["pair", "letter"] spKids := ⟨f5, _, ok_kids (k := 1) F5 m_any Db2, b5, k5, g5⟩
  have Dk4 : Df l.prog w K mg base 4 "children_of" ["pair", "letter"] spKids := ⟨f5, _, ok_kids (k := 2) F5 m_any Db3, b5, k5, g5⟩
  have Df4 : Df l.prog w K mg base 4 "families_of" ["pair"] spFam := ⟨f6, _, ok_fam (k := 1) F6 Dk3, b6, k6, g6⟩
  have Df5 : Df l.prog w K mg base 5 "families_of" ["pair"] spFam := ⟨f6, _, ok_fam (k := 2) F6 Dk4, b6, k6, g6⟩
  have Dis_crowd : Df l.prog w K mg base 3 "is_crowd" ["pair", "value"] spCrowd := ⟨f9, _, ok_crowd (k := 0) F9 M Dl4 Dk2 Din_order, b9, k9, g9⟩
  have Dreason_against : Df l.prog w K mg base 5 "reason_against" ["pair"] spReason := ⟨f12, _, ok_reason (k := 0) F12 M Dhas_wrong_root Dtriples_of Df4, b12, k12, g12⟩
  have Dgrown : Df l.prog w K mg base 14 "grown" ["families", "letter", "lefts"] (spGrownF 14) := ⟨f13, _, ok_grownF F13 M b13 g13 14, b13, k13, g13⟩
  have Dpair_certificate : Df l.prog w K mg base 15 "pair_certificate" ["pair"] spCert := ⟨f14, _, ok_cert F14 Dreason_against Df5 Dgrown, b14, k14, g14⟩
  have Dis_node : Df l.prog w K mg base 2 "is_node" ["value"] spNode := ⟨f17, _, ok_node (k := 0) F17 M Dis_letter, b17, k17, g17⟩
  have Dis_tree : Df l.prog w K mg base 3 "is_tree" ["value"] spIsTree := ⟨f18, _, ok_isTree F18 m1 Dis_node, b18, k18, g18⟩
  have Dis_tagged : Df l.prog w K mg base 1 "is_tagged" ["value"] spTagged := ⟨f16, _, ok_tagged (k := 0) F16 M, b16, k16, g16⟩
  have Dis_kind : Df l.prog w K mg base 1 "is_kind" ["value"] spKind := ⟨f19, _, ok_kind (k := 0) F19 M Kk, b19, k19, g19⟩
  have Ddeep_steps : Df l.prog w K mg base 60 "deep_steps" ["tree", "kind", "path"] (spDeep 60) := ⟨f20, _, ok_deep F20 b20 g20 60, b20, k20, g20⟩
  have Dordered_steps : Df l.prog w K mg base 61 "ordered_steps" ["tree", "kind"] spSteps := ⟨f21, _, ok_steps F21 Dis_kind Ddeep_steps, b21, k21, g21⟩
  have Dwalk : Df l.prog w K mg base 62 "walk" ["tree", "kind"] spWalk := ⟨f22, _, ok_walk F22 Dordered_steps, b22, k22, g22⟩
  have Dwalks : DfR l.prog w K mg base 63 "walks" spWalks := ⟨f23, ok_walks F23 M Dwalk, k23, g23⟩
  have Dpair_of : Df l.prog w K mg base 64 "pair_of" ["tree"] spPairOf := ⟨f24, _, ok_pairOf F24 Dwalks, b24, k24, g24⟩
  have Dpair_holds : Df l.prog w K mg base 65 "pair_holds" ["pair", "value"] spHoldsP := ⟨f15, _, ok_holdsP F15 Dis_tagged Dis_tree Dpair_of Dhas_wrong_root Dis_triple Dis_crowd, b15, k15, g15⟩
  have D_law_is_below : Df l.prog w K mg base 1 "_law_is_below" ["_law_pair_here", "_law_letter", "_law_other"] spBelow := ⟨f35, _, ok_lawBelow (k := 0) F35, b35, k35, g35⟩
  have D_law_children : Df l.prog w K mg base 2 "_law_children" ["_law_pair_here", "_law_letter"] spLKids := ⟨f36, _, ok_lawKids (k := 0) F36 D_law_is_below, b36, k36, g36⟩
  have D_law_triples : Df l.prog w K mg base 3 "_law_triples" ["_law_pair_here"] (spWs 3 triB Ct) := ⟨f37, _, ok_lawTriples (k := 2) F37 M, b37, k37, g37⟩
  have D_law_crowds : Df l.prog w K mg base 3 "_law_crowds" ["_law_pair_here"] (spWs 4 crowdB Cc) := ⟨f38, _, ok_lawCrowds (k := 0) F38 M D_law_children, b38, k38, g38⟩
  have D_law_word : Df l.prog w K mg base 4 "_law_word" ["_law_pair_here"] spWord := ⟨f39, _, ok_word (k := 2) F39 D_law_triples D_law_crowds, b39, k39, g39⟩
  have D_law_same : Df l.prog w K mg base 20 "_law_same" ["_law_found", "_law_due"] (spSameU K 20) := ⟨f27, _, ok_sameU F27 b27 g27 M 20 (by decide), b27, k27, g27⟩
  have D_law_is_tree : Df l.prog w K mg base 20 "_law_is_tree" ["_law_value"] (spLTree 20) := ⟨f40, _, ok_ltree F40 M b40 g40 20, b40, k40, g40⟩
  have D_law_sided : Df l.prog w K mg base 20 "_law_sided" ["_law_tree", "_law_lefts"] (spSided 20) := ⟨f41, _, ok_sided F41 b41 g41 20, b41, k41, g41⟩
  have D_law_certificate_right : Df l.prog w K mg base 21 "_law_certificate_right" ["_law_pair_here", "_law_told"] spRight := ⟨f42, _, ok_right F42 M D_law_same D_law_word D_law_triples D_law_crowds D_law_is_tree D_law_front D_law_back D_law_sided, b42, k42, g42⟩
  exact run_law F43 (.of_eq rfl) en hS M D_law_spring D_law_letters D_law_pair Dpair_certificate Dpair_holds D_law_certificate_right D_law_same
theorem walk_at {l : PySem.W.OpenLaw} {q : Program} {loose : List Str} {XP : (Str → Option Value) → Heap → Prop} {YP : World → Heap → Prop} {d : DefRec} {K : Params → PySem.W.Frag} (most : l.most = some 63) (noDf : d.params.defaults = [])
    (inK : ∀ (w : World) (h : Heap), YP w h → (K w.params).In h)
    (F : ∀ (w : World) (mg : Str → Option Value) (fa : Addr) (h : Heap), (K w.params).In h → h.Ns mainGlobals mg → mg d.name = some (.ref fa) →
      ∀ (base : Heap) (H : Hp) (s : Shared) (a : Addr) (ns : List Int), (K w.params).In base → base.Ns mainGlobals mg → Env0 l.prog w (K w.params) mg base callerA [] s H → SqL (K w.params) H a (ns.map V.int) → ns.length ≤ 63 →
        codeAny (model l.prog w) callerA (.call (.ref fa) ⟨[.ref a], []⟩) (CR CX0 [] l.prog w H s (fun v _ => v = .bl true) fun _ _ _ => False) s) :
    PySem.W.WalkO q loose XP YP l.row.toRowW d [] (fun f vs => PySem.call f vs) := by
  refine Att.attach_call most noDf ?_
  intro w s₀ s₁ mg mb fa o pm cd doc a vs ns G Y ho hd hcd hmg hobj hints hlen hg
  exact law_at (inK w _ Y) G.T.g G.T.b G.T.builtins G.T.nolimit hg hobj hints (Nat.le_trans hlen (by decide)) fun base H h1 h2 en hS => F w mg fa _ (inK w _ Y) G.T.g hmg base H s₁ a ns h1 h2 en hS hlen
end Tw
open PySem PySem.W PyProof.Rows
set_option maxRecDepth 100000 in
set_option maxHeartbeats 0 in
theorem PySem.Challenge.cw_treewalks_k11_certificates_of_pairs_holds : PySem.Challenge.rw_treewalks_k11_certificates_of_pairs.Holds := by
  w_on; o_law; k_head; (case hw => w_witness2)
  k_fill
  refine Tw.walk_at (l := PySem.Challenge.rw_treewalks_k11_certificates_of_pairs) rfl rfl (fun w h Y => by first | exact PySem.W.kIn_of Y | exact PySem.W.km_in_of Y) ?F
  case F =>
    intro w mg fa h KX G hmg
    refine' Tw.all_mk KX G hmg ?aKn ?aKl ?a1 ?l1 ?c1 ?k1 ?a2 ?l2 ?c2 ?k2 ?a3 ?l3 ?c3 ?k3 ?a4 ?l4 ?c4 ?k4 ?a5 ?l5 ?c5 ?k5 ?a6 ?l6 ?c6 ?k6 ?a7 ?l7 ?c7 ?k7 ?a8 ?l8 ?c8 ?k8 ?a9 ?l9 ?c9 ?k9 ?a10 ?l10 ?c10 ?k10 ?a11 ?l11 ?c11 ?k11 ?a12 ?l12 ?c12 ?k12 ?a13 ?l13 ?c13 ?k13 ?a14 ?l14 ?c14 ?k14 ?a15 ?l15 ?c15 ?k15 ?a16 ?l16 ?c16 ?k16 ?a17 ?l17 ?c17 ?k17 ?a18 ?l18 ?c18 ?k18 ?a19 ?l19 ?c19 ?k19 ?a20 ?l20 ?c20 ?k20 ?a21 ?l21 ?c21 ?k21 ?a22 ?l22 ?c22 ?k22 ?a23 ?l23 ?c23 ?k23 ?a24 ?l24 ?c24 ?k24 ?a25 ?l25 ?c25 ?k25 ?a26 ?l26 ?c26 ?k26 ?a27 ?l27 ?c27 ?k27 ?a28 ?l28 ?c28 ?k28 ?a29 ?l29 ?c29 ?k29 ?a30 ?l30 ?c30 ?k30 ?a31 ?l31 ?c31 ?k31 ?a32 ?l32 ?c32 ?k32 ?a33 ?l33 ?c33 ?k33 ?a34 ?l34 ?c34 ?k34 ?a35 ?l35 ?c35 ?k35 ?a36 ?l36 ?c36 ?k36 ?a37 ?l37 ?c37 ?k37 ?a38 ?l38 ?c38 ?k38 ?a39 ?l39 ?c39 ?k39 ?a40 ?l40 ?c40 ?k40 ?a41 ?l41 ?c41 ?k41 ?a42 ?l42 ?c42 ?k42 ?a43 ?l43 ?c43 ?k43 ?z1 ?z2 ?z3 ?z4 ?z5 ?z6 ?z7 ?z8 ?z9 ?z10 ?z11 ?z12 ?z13 ?z14 ?z15 ?z16 ?z17 ?z18 ?z19 ?v1
    (case aKn => first | k_is | rfl | decide +kernel)
    (case aKl => first | k_is | rfl | decide +kernel)
    (case a1 => k_is)
    (case l1 => k_is)
    (case c1 => k_is)
    (case k1 => k_is)
    (case a2 => k_is)
    (case l2 => k_is)
    (case c2 => k_is)
    (case k2 => k_is)
    (case a3 => k_is)
    (case l3 => k_is)
    (case c3 => k_is)
    (case k3 => k_is)
    (case a4 => k_is)
    (case l4 => k_is)
    (case c4 => k_is)
    (case k4 => k_is)
    (case a5 => k_is)
    (case l5 => k_is)
    (case c5 => k_is)
    (case k5 => k_is)
    (case a6 => k_is)
    (case l6 => k_is)
    (case c6 => k_is)
    (case k6 => k_is)
    (case a7 => k_is)
    (case l7 => k_is)
    (case c7 => k_is)
    (case k7 => k_is)
    (case a8 => k_is)
    (case l8 => k_is)
    (case c8 => k_is)
    (case k8 => k_is)
    (case a9 => k_is)
    (case l9 => k_is)
    (case c9 => k_is)
    (case k9 => k_is)
    (case a10 => k_is)
    (case l10 => k_is)
    (case c10 => k_is)
    (case k10 => k_is)
    (case a11 => k_is)
    (case l11 => k_is)
    (case c11 => k_is)
    (case k11 => k_is)
    (case a12 => k_is)
    (case l12 => k_is)
    (case c12 => k_is)
    (case k12 => k_is)
    (case a13 => k_is)
    (case l13 => k_is)
    (case c13 => k_is)
    (case k13 => k_is)
    (case a14 => k_is)
    (case l14 => k_is)
    (case c14 => k_is)
    (case k14 => k_is)
    (case a15 => k_is)
    (case l15 => k_is)
    (case c15 => k_is)
    (case k15 => k_is)
    (case a16 => k_is)
    (case l16 => k_is)
    (case c16 => k_is)
    (case k16 => k_is)
    (case a17 => k_is)
    (case l17 => k_is)
    (case c17 => k_is)
    (case k17 => k_is)
    (case a18 => k_is)
    (case l18 => k_is)
    (case c18 => k_is)
    (case k18 => k_is)
    (case a19 => k_is)
    (case l19 => k_is)
    (case c19 => k_is)
    (case k19 => k_is)
    (case a20 => k_is)
    (case l20 => k_is)
    (case c20 => k_is)
    (case k20 => k_is)
    (case a21 => k_is)
    (case l21 => k_is)
    (case c21 => k_is)
    (case k21 => k_is)
    (case a22 => k_is)
    (case l22 => k_is)
    (case c22 => k_is)
    (case k22 => k_is)
    (case a23 => k_is)
    (case l23 => k_is)
    (case c23 => k_is)
    (case k23 => k_is)
    (case a24 => k_is)
    (case l24 => k_is)
    (case c24 => k_is)
    (case k24 => k_is)
    (case a25 => k_is)
    (case l25 => k_is)
    (case c25 => k_is)
    (case k25 => k_is)
    (case a26 => k_is)
    (case l26 => k_is)
    (case c26 => k_is)
    (case k26 => k_is)
    (case a27 => k_is)
    (case l27 => k_is)
    (case c27 => k_is)
    (case k27 => k_is)
    (case a28 => k_is)
    (case l28 => k_is)
    (case c28 => k_is)
    (case k28 => k_is)
    (case a29 => k_is)
    (case l29 => k_is)
    (case c29 => k_is)
    (case k29 => k_is)
    (case a30 => k_is)
    (case l30 => k_is)
    (case c30 => k_is)
    (case k30 => k_is)
    (case a31 => k_is)
    (case l31 => k_is)
    (case c31 => k_is)
    (case k31 => k_is)
    (case a32 => k_is)
    (case l32 => k_is)
    (case c32 => k_is)
    (case k32 => k_is)
    (case a33 => k_is)
    (case l33 => k_is)
    (case c33 => k_is)
    (case k33 => k_is)
    (case a34 => k_is)
    (case l34 => k_is)
    (case c34 => k_is)
    (case k34 => k_is)
    (case a35 => k_is)
    (case l35 => k_is)
    (case c35 => k_is)
    (case k35 => k_is)
    (case a36 => k_is)
    (case l36 => k_is)
    (case c36 => k_is)
    (case k36 => k_is)
    (case a37 => k_is)
    (case l37 => k_is)
    (case c37 => k_is)
    (case k37 => k_is)
    (case a38 => k_is)
    (case l38 => k_is)
    (case c38 => k_is)
    (case k38 => k_is)
    (case a39 => k_is)
    (case l39 => k_is)
    (case c39 => k_is)
    (case k39 => k_is)
    (case a40 => k_is)
    (case l40 => k_is)
    (case c40 => k_is)
    (case k40 => k_is)
    (case a41 => k_is)
    (case l41 => k_is)
    (case c41 => k_is)
    (case k41 => k_is)
    (case a42 => k_is)
    (case l42 => k_is)
    (case c42 => k_is)
    (case k42 => k_is)
    (case a43 => k_is)
    (case l43 => k_is)
    (case c43 => k_is)
    (case k43 => k_is)
    (case z1 => k_is)
    (case z2 => k_is)
    (case z3 => k_is)
    (case z4 => k_is)
    (case z5 => k_is)
    (case z6 => k_is)
    (case z7 => k_is)
    (case z8 => k_is)
    (case z9 => k_is)
    (case z10 => k_is)
    (case z11 => k_is)
    (case z12 => k_is)
    (case z13 => k_is)
    (case z14 => k_is)
    (case z15 => k_is)
    (case z16 => k_is)
    (case z17 => k_is)
    (case z18 => k_is)
    (case z19 => k_is)
    (case v1 => k_is)
