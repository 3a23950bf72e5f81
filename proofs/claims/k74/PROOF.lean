import PyProof.Rows.All
import Wide.All
import OpenK.AllK
import Wide.FinOn
import HandS.ForMost
import HandS.ForExc
import HandS.Wide
import HandS.IsInst
import HandS.Flow
import HandS.FStrTup
import HandS.FStr
import HandS.NoneIn
import HandS.TupAny
import HandS.Style
import HandS.TryMany
import HandS.ExcIs
import HandS.ExcField
import HandS.ExcOwn
import KE.KExcInit
import KE.KExcIs
import HandS.Walk
import HandS.Zip
import HandS.Star
import HandS.Style
import PyProof.Rows.SortShellAny
import KE.GoesZip
import KE.GoesEnum
import KE.GoesMore
import KE.SortKeyHeap
import HandS.Lambda
import HandS.EndTab
import PyProof.CollectStr
import PyProof.P3Eq
import HandS.Sort
import HandS.Set
import HandS.SetFor
import HandS.Strs
import HandS.SetTxt0
import HandS.TupSets
import HandS.DictComp
import KE.KSortTupG
import KE.KSortTupUse
import HandS.More
import HandS.Replace
import PySem.Challenge.RW_treewalks_k74_whole_parts_paths_and_text
import HandS.GenList
import PyProof.ToksMono
import HandS.Deep
set_option Elab.async false
set_option maxRecDepth 100000
set_option maxHeartbeats 4000000
namespace Tw
open PySem PySem.Spec PyProof.Rows L2
/-! ### trees as data -/
inductive T where
  | nil
  | node (l : T) (x : Str) (r : T)
def T.size : T → Nat
  | .nil => 0
  | .node l _ r => l.size + 1 + r.size
def T.deep : T → Nat
  | .nil => 0
  | .node l _ r => 1 + max l.deep r.deep
def T.mir : T → T
  | .nil => .nil
  | .node l x r => .node r.mir x l.mir
def T.data : T → PyData
  | .nil => .none
  | .node l x r => .tuple [l.data, .str x, r.data]
theorem T.deep_le : ∀ t : T, t.deep ≤ t.size
  | .nil => Nat.le_refl _
  | .node l _ r => by
    have h1 := l.deep_le
    have h2 := r.deep_le
    show 1 + max l.deep r.deep ≤ l.size + 1 + r.size
    omega
theorem T.mir_size : ∀ t : T, t.mir.size = t.size
  | .nil => rfl
  | .node l _ r => by
    have h1 := l.mir_size
    have h2 := r.mir_size
    show r.mir.size + 1 + l.mir.size = l.size + 1 + r.size
    omega
/-- the tree t lies at v -/
inductive TreeAt (H : Hp) : V → T → Prop
  | nil : TreeAt H .non .nil
  | node {a : Addr} {l r : V} {x : Str} {tl tr : T} : H a = some (.tup [l, .str x, r]) → TreeAt H l tl → TreeAt H r tr → TreeAt H (.ref a) (.node tl x tr)
/-- tuples stand still -/
def KeepT (H H' : Hp) : Prop := ∀ b xs, H b = some (.tup xs) → H' b = some (.tup xs)
theorem KeepT.refl (H : Hp) : KeepT H H := fun _ _ h => h
theorem KeepT.trans {H H1 H2 : Hp} (a : KeepT H H1) (b : KeepT H1 H2) : KeepT H H2 := fun c xs h => b c xs (a c xs h)
theorem Same.keepT {H H' : Hp} (h : Same H H') : KeepT H H' := fun b xs e => h b _ e
theorem TreeAt.keep {H H' : Hp} (k : KeepT H H') {v : V} {t : T} (h : TreeAt H v t) : TreeAt H' v t := by
  induction h with
  | nil => exact .nil
  | node e _ _ h1 h2 => exact .node (k _ _ e) h1 h2
theorem TreeAt.same {H H' : Hp} (k : Same H H') {v : V} {t : T} (h : TreeAt H v t) : TreeAt H' v t := h.keep (Tw.Same.keepT k)
theorem TreeAt.dp {K : PySem.W.Frag} {H : Hp} {v : V} {t : T} (h : TreeAt H v t) : Dp K H v t.data := by
  induction h with
  | nil => exact .non
  | node e _ _ h1 h2 => exact .tup (SqT.of e) (.cons h1 (.cons (.str _) (.cons h2 .nil)))
theorem TreeAt.inv {H : Hp} {v : V} {t : T} (h : TreeAt H v t) : (v = .non ∧ t = .nil) ∨ ∃ a l r x tl tr, v = .ref a ∧ t = .node tl x tr ∧ H a = some (.tup [l, .str x, r]) ∧ TreeAt H l tl ∧ TreeAt H r tr := by
  cases h with
  | nil => exact .inl ⟨rfl, rfl⟩
  | node e h1 h2 => exact .inr ⟨_, _, _, _, _, _, rfl, rfl, e, h1, h2⟩
theorem same_new {H : Hp} {p : Addr} (h : H p = none) (o : HO) : Same H (upd H p o) := fun b u q => by rw [upd_ne (ne_of_none q h)]; exact q
theorem small {n : Nat} (h : n ≤ 1000) : n ≤ sizeLine := Nat.le_of_lt (small1000 h)
/-- a def that stands at a name, with its promise -/
structure Df (P : Program) (w : World) (K : PySem.W.Frag) (mg : Str → Option Value) (base : Heap) (k : Nat) (nm : Str) (ps : List Str) (sp : Sp) where
  f : Addr
  fd : FuncData
  ok : FnOk P w K mg base CX0 k f fd ps sp
  b : Binds K fd ps []
  kp : PySem.W.keepIn K (.ref f) = true
  g : mg nm = some (.ref f)
/-! ### the text by places -/
def top (i : Nat) : Stmt := PySem.Challenge.pw_treewalks_k74_whole_parts_paths_and_text.main.body.getD i (.Pass ⟨0, 0, 0, 0⟩)
abbrev s_size_of : Stmt := top 7
abbrev s_depth_of : Stmt := top 8
abbrev s_part_at : Stmt := top 9
abbrev s_replaced : Stmt := top 10
abbrev s_with_part : Stmt := top 11
abbrev s_mirrored : Stmt := top 12
abbrev s_each_node : Stmt := top 13
abbrev s_joined : Stmt := top 14
abbrev s_tree_text : Stmt := top 16
abbrev s_side_text : Stmt := top 17
abbrev s__law_deck : Stmt := top 19
abbrev s__law_next : Stmt := top 20
abbrev s__law_same : Stmt := top 21
abbrev s__law_letters : Stmt := top 22
abbrev s__law_grown : Stmt := top 23
abbrev s__law_tree : Stmt := top 24
abbrev s__law_other_path : Stmt := top 25
abbrev s__law_part_right : Stmt := top 26
abbrev s__law_open_right : Stmt := top 27
abbrev s_law : Stmt := top 28
abbrev s_TooLarge___init__ : Stmt := inClass (top 3) 0
abbrev s_TooMany___init__ : Stmt := inClass (top 4) 0
abbrev s_NoPath___init__ : Stmt := inClass (top 5) 0
theorem sc_size_of : FnScope ["tree"] ["tree"] (defScope s_size_of) := ⟨rfl, rfl, rfl, by decide +kernel, rfl, by decide +kernel, by decide +kernel⟩
theorem sc_depth_of : FnScope ["tree"] ["tree"] (defScope s_depth_of) := ⟨rfl, rfl, rfl, by decide +kernel, rfl, by decide +kernel, by decide +kernel⟩
theorem sc_part_at : FnScope ["tree", "path", "part", "step"] ["tree", "path"] (defScope s_part_at) := ⟨rfl, rfl, rfl, by decide +kernel, rfl, by decide +kernel, by decide +kernel⟩
theorem sc_replaced : FnScope ["tree", "path", "part", "old"] ["tree", "path", "part"] (defScope s_replaced) := ⟨rfl, rfl, rfl, by decide +kernel, rfl, by decide +kernel, by decide +kernel⟩
theorem sc_with_part : FnScope ["tree", "path", "part", "left", "label", "right"] ["tree", "path", "part"] (defScope s_with_part) := ⟨rfl, rfl, rfl, by decide +kernel, rfl, by decide +kernel, by decide +kernel⟩
theorem sc_mirrored : FnScope ["tree", "left", "label", "right"] ["tree"] (defScope s_mirrored) := ⟨rfl, rfl, rfl, by decide +kernel, rfl, by decide +kernel, by decide +kernel⟩
theorem sc_tree_text : FnScope ["tree", "left", "label", "right"] ["tree"] (defScope s_tree_text) := ⟨rfl, rfl, rfl, by decide +kernel, rfl, by decide +kernel, by decide +kernel⟩
theorem sc_side_text : FnScope ["side"] ["side"] (defScope s_side_text) := ⟨rfl, rfl, rfl, by decide +kernel, rfl, by decide +kernel, by decide +kernel⟩
theorem sc__law_deck : FnScope ["_law_script", "_law_cell", "_law_cells"] ["_law_script"] (defScope s__law_deck) := ⟨rfl, rfl, rfl, by decide +kernel, rfl, by decide +kernel, by decide +kernel⟩
theorem sc__law_next : FnScope ["_law_deck_here", "_law_many", "_law_cells", "_law_rests", "_law_count", "_law_index", "_law_digit", "_law_mixed"] ["_law_deck_here", "_law_many"] (defScope s__law_next) := ⟨rfl, rfl, rfl, by decide +kernel, rfl, by decide +kernel, by decide +kernel⟩
theorem sc__law_same : FnScope ["_law_found", "_law_due", "_law_k"] ["_law_found", "_law_due"] (defScope s__law_same) := ⟨rfl, rfl, rfl, by decide +kernel, rfl, by decide +kernel, by decide +kernel⟩
theorem sc__law_letters : FnScope ["_law_deck_here", "_law_size", "_law_way", "_law_some", "_law_k", "_law_found"] ["_law_deck_here", "_law_size"] (defScope s__law_letters) := ⟨rfl, rfl, rfl, by decide +kernel, rfl, by decide +kernel, by decide +kernel⟩
theorem sc__law_grown : FnScope ["_law_deck_here", "_law_size", "_law_way", "_law_letters_here", "_law_many", "_law_left"] ["_law_deck_here", "_law_size", "_law_way", "_law_letters_here"] (defScope s__law_grown) := ⟨rfl, rfl, rfl, by decide +kernel, rfl, by decide +kernel, by decide +kernel⟩
theorem sc__law_tree : FnScope ["_law_deck_here", "_law_limit", "_law_size", "_law_way"] ["_law_deck_here", "_law_limit"] (defScope s__law_tree) := ⟨rfl, rfl, rfl, by decide +kernel, rfl, by decide +kernel, by decide +kernel⟩
theorem sc__law_other_path : FnScope ["_law_path", "_law_sign"] ["_law_path"] (defScope s__law_other_path) := ⟨rfl, rfl, rfl, by decide +kernel, rfl, by decide +kernel, by decide +kernel⟩
theorem sc__law_part_right : FnScope ["_law_tree_here", "_law_path", "_law_label", "_law_part", "_law_size", "_law_less", "_law_node", "_law_kept"] ["_law_tree_here", "_law_path", "_law_label"] (defScope s__law_part_right) := ⟨rfl, rfl, rfl, by decide +kernel, rfl, by decide +kernel, by decide +kernel⟩
theorem sc__law_open_right : FnScope ["_law_tree_here", "_law_path", "_law_more", "error", "_law_nodes", "_law_node"] ["_law_tree_here", "_law_path"] (defScope s__law_open_right) := ⟨rfl, rfl, rfl, by decide +kernel, rfl, by decide +kernel, by decide +kernel⟩
theorem sc_law : FnScope ["_law_script", "_law_deck_here", "_law_turn", "_law_tree_here", "_law_nodes", "_law_glass", "_law_path", "_law_label", "_law_paths", "_law_spots", "_law_spot"] ["_law_script"] (defScope s_law) := ⟨rfl, rfl, rfl, by decide +kernel, rfl, by decide +kernel, by decide +kernel⟩
theorem sc_TooLarge___init__ : FnScope ["self", "limit"] ["self", "limit"] (defScope s_TooLarge___init__) := ⟨rfl, rfl, rfl, by decide +kernel, rfl, by decide +kernel, by decide +kernel⟩
theorem sc_TooMany___init__ : FnScope ["self", "limit"] ["self", "limit"] (defScope s_TooMany___init__) := ⟨rfl, rfl, rfl, by decide +kernel, rfl, by decide +kernel, by decide +kernel⟩
theorem sc_NoPath___init__ : FnScope ["self", "value"] ["self", "value"] (defScope s_NoPath___init__) := ⟨rfl, rfl, rfl, by decide +kernel, rfl, by decide +kernel, by decide +kernel⟩
abbrev sDeck : Stmt := s__law_deck
abbrev sNext : Stmt := s__law_next
abbrev sSame : Stmt := s__law_same
abbrev sLett : Stmt := s__law_letters
abbrev sGrown : Stmt := s__law_grown
abbrev sTree : Stmt := s__law_tree
/-! ### the deck -/
structure Deck where
  dk : Addr
  ca : Addr
  ra : Addr
structure DeckOk (H : Hp) (D : Deck) (n : Nat) : Prop where
  ex : ∃ cells rests : List Int, H D.dk = some (.lst [.ref D.ca, .ref D.ra, .int (n : Int)]) ∧ H D.ca = some (.lst (cells.map V.int)) ∧ H D.ra = some (.lst (rests.map V.int)) ∧ 0 < cells.length ∧ rests.length = cells.length ∧ cells.length ≤ 61
  dc : D.dk ≠ D.ca
  dr : D.dk ≠ D.ra
  cr : D.ca ≠ D.ra
/-- all stands still but the deck's list and its rests -/
def SameD (D : Deck) (H H' : Hp) : Prop := ∀ b o, b ≠ D.dk → b ≠ D.ra → H b = some o → H' b = some o
theorem SameD.refl (D : Deck) (H : Hp) : SameD D H H := fun _ _ _ _ h => h
theorem SameD.trans {D : Deck} {H H1 H2 : Hp} (a : SameD D H H1) (b : SameD D H1 H2) : SameD D H H2 := fun c o h1 h2 h => b c o h1 h2 (a c o h1 h2 h)
theorem SameD.of {D : Deck} {H H' : Hp} (h : Same H H') : SameD D H H' := fun b o _ _ e => h b o e
theorem DeckOk.lists {H : Hp} {D : Deck} {n : Nat} (d : DeckOk H D n) : (∃ xs, H D.dk = some (.lst xs)) ∧ (∃ xs, H D.ra = some (.lst xs)) := by
  obtain ⟨c, r, h1, _, h3, _⟩ := d.ex
  exact ⟨⟨_, h1⟩, ⟨_, h3⟩⟩
theorem SameD.keepT {D : Deck} {H H' : Hp} {n : Nat} (h : SameD D H H') (d : DeckOk H D n) : KeepT H H' := fun b xs e => by
  obtain ⟨⟨x1, h1⟩, ⟨x2, h2⟩⟩ := d.lists
  exact h b _ (ne_of e h1 (by intro z; cases z)) (ne_of e h2 (by intro z; cases z)) e
theorem SameD.free {D : Deck} {H H' : Hp} {n : Nat} (h : SameD D H H') (d : DeckOk H' D n) {p : Addr} (e : H' p = none) : H p = none := by
  obtain ⟨⟨x1, h1⟩, ⟨x2, h2⟩⟩ := d.lists
  have n1 : p ≠ D.dk := fun z => by rw [z, h1] at e; cases e
  have n2 : p ≠ D.ra := fun z => by rw [z, h2] at e; cases e
  cases q : H p with
  | none => rfl
  | some o =>
    rw [h p o n1 n2 q] at e
    cases e
theorem DeckOk.same {H H' : Hp} {D : Deck} {n : Nat} (d : DeckOk H D n) (h : Same H H') : DeckOk H' D n := by
  obtain ⟨c, r, h1, h2, h3, h4⟩ := d.ex
  exact ⟨⟨c, r, h _ _ h1, h _ _ h2, h _ _ h3, h4⟩, d.dc, d.dr, d.cr⟩
structure Off (D : Deck) (p : Addr) : Prop where
  dk : p ≠ D.dk
  ca : p ≠ D.ca
  ra : p ≠ D.ra
theorem DeckOk.new {H : Hp} {D : Deck} {n : Nat} (d : DeckOk H D n) {p : Addr} (e : H p = none) : Off D p := by
  obtain ⟨c, r, h1, h2, h3, _⟩ := d.ex
  refine ⟨fun z => ?_, fun z => ?_, fun z => ?_⟩
  · rw [z, h1] at e
    cases e
  · rw [z, h2] at e
    cases e
  · rw [z, h3] at e
    cases e
theorem DeckOk.put {H : Hp} {D : Deck} {n : Nat} (d : DeckOk H D n) {p : Addr} (f : Off D p) (o : HO) : DeckOk (upd H p o) D n := by
  obtain ⟨c, r, h1, h2, h3, h4⟩ := d.ex
  exact ⟨⟨c, r, by rw [upd_ne f.dk.symm]; exact h1, by rw [upd_ne f.ca.symm]; exact h2, by rw [upd_ne f.ra.symm]; exact h3, h4⟩, d.dc, d.dr, d.cr⟩
theorem SameD.put {D : Deck} {H H' : Hp} {p : Addr} (s : SameD D H H') (e : H p = none) (o : HO) : SameD D H (upd H' p o) := fun b u h1 h2 h => by
  rw [upd_ne (ne_of_none h e)]
  exact s b u h1 h2 h
theorem SameD.at {D : Deck} {H H' : Hp} {p : Addr} {o : HO} (s : SameD D H H') (f : Off D p) (e : H p = some o) : H' p = some o := s p o f.dk f.ra e
theorem at_map {α : Type} {f : α → V} {ns : List α} {i : Int} {v : α} (h0 : 0 ≤ i) (h : ns[i.toNat]? = some v) : atI (ns.map f) i = some (f v) := by
  have e : i = ((i.toNat : Nat) : Int) := by omega
  rw [e]
  exact atI_nat (by rw [List.getElem?_map, h]; rfl)
theorem rep_flat {α : Type} (a : α) : ∀ m : Nat, (List.replicate m [a]).flatten = List.replicate m a
  | 0 => rfl
  | m + 1 => by
    rw [List.replicate_succ, List.replicate_succ, List.flatten_cons, rep_flat a m]
    rfl
theorem at_int {ns : List Int} {i : Int} {v : Int} (h0 : 0 ≤ i) (h : ns[i.toNat]? = some v) : atI (ns.map V.int) i = some (.int v) := by
  have e : i = ((i.toNat : Nat) : Int) := by omega
  rw [e]
  exact atI_nat (by rw [List.getElem?_map, h]; rfl)
theorem ixN_nat {n : Nat} {i : Int} (h0 : 0 ≤ i) (h : i < n) : ixN n i = some i.toNat := by
  unfold ixN
  first
    | rw [if_pos h0, if_pos h]
    | (rw [if_pos h0]; rw [if_pos (by omega)])
    | simp [h0, h]
theorem mod1 (z : Int) : -(2 ^ 64) < z % 2305843009213693951 ∧ z % 2305843009213693951 < 2 ^ 64 := by
  have a := Int.emod_nonneg z (show (2305843009213693951 : Int) ≠ 0 by decide)
  have b := Int.emod_lt_of_pos z (show (0 : Int) < 2305843009213693951 by decide)
  omega
theorem mod2 (z : Int) : -(2 ^ 64) < z % 2305843009213693921 ∧ z % 2305843009213693921 < 2 ^ 64 := by
  have a := Int.emod_nonneg z (show (2305843009213693921 : Int) ≠ 0 by decide)
  have b := Int.emod_lt_of_pos z (show (0 : Int) < 2305843009213693921 by decide)
  omega
def spNext : Sp := fun vs H Q _ => ∃ (D : Deck) (n : Nat) (m : Int), vs = [.ref D.dk, .int m] ∧ DeckOk H D n ∧ n ≤ 1000000 ∧ 0 < m ∧ m ≤ 1000 ∧ ∀ (i : Int) (H' : Hp), 0 ≤ i → i < m → DeckOk H' D (n + 1) → SameD D H H' → Q (.int i) H'
theorem scNext : FnScope ["_law_deck_here", "_law_many", "_law_cells", "_law_rests", "_law_count", "_law_index", "_law_digit", "_law_mixed"] ["_law_deck_here", "_law_many"] (defScope sNext) := ⟨rfl, rfl, rfl, by decide +kernel, rfl, by decide +kernel, by decide +kernel⟩
section
variable {P : Program} {w : World} {K : PySem.W.Frag} {mg : Str → Option Value} {base : Heap} {f : Addr} {fd : FuncData}
theorem ok_next {k : Nat} (F : Fun K "_law_next" "_law_next" sNext f fd) (ml : mg "len" = none) : FnOk P w K mg base CX0 (k + 1) f fd ["_law_deck_here", "_law_many"] spNext := by
  refine F.ok scNext (fun vs H Q E h => ?_) (fun cdv A outer s H vs Q E hr h => ?_)
  · obtain ⟨D, n, m, rfl, _⟩ := h
    rfl
  obtain ⟨D, n, m, rfl, d, hn, m0, m1, q⟩ := h
  obtain ⟨cells, rests, e1, e2, e3, c0, cr, c1⟩ := d.ex
  refine ⟨_, pss_cons (ps_asg (pv 0) (pg_unl rfl (pgs_cons (pg_name (i := 2) scNext.nd rfl (.inl rfl)) (pgs_cons (pg_name (i := 3) scNext.nd rfl (.inl rfl)) (pgs_cons (pg_name (i := 4) scNext.nd rfl (.inl rfl)) pgs_nil)))))
    (pss_cons (ps_asg (pe_op op_add (pv 4) pe_int) (pg_sub (pv 0) pe_int set_list))
    (pss_cons (ps_set (i := 5) scNext.nd rfl (.inl rfl) (pe_op op_mod (pv 4) (pe_callB call_len_seq rfl ml PySem.boot_len (pa_cons (pv 2) pa_nil))))
    (pss_cons (ps_if (pt_cmpR op_gt (pe_ix ix_list (pv 3) (pv 5) (fun _ _ => rfl)) pe_int (nomark _))
      (pss_cons (ps_set (i := 6) scNext.nd rfl (.inl rfl) (pe_op op_mod (pe_ix ix_list (pv 3) (pv 5) (fun _ _ => rfl)) (pv 1)))
      (pss_cons (ps_asg (pe_op op_fdiv (pe_ix ix_list (pv 3) (pv 5) (fun _ _ => rfl)) (pv 1)) (pg_sub (pv 3) (pv 5) set_list))
      (pss_one (ps_ret (pv 6))))) pss_nil)
    (pss_cons (ps_set (i := 7) scNext.nd rfl (.inl rfl) (pe_op op_mul (pe_op op_add (pe_op op_add (pe_ix ix_list (pv 2) (pv 5) (fun _ _ => rfl)) (pe_op op_mul pe_int (pv 4))) pe_int) (pe_op op_add pe_int (pe_op op_mul pe_int (pv 4)))))
    (pss_cons (ps_set (i := 7) scNext.nd rfl (.inl rfl) (pe_op op_mod (pe_op op_add (pv 7) (pe_op op_mul pe_int (pv 4))) pe_int))
    (pss_cons (ps_set (i := 7) scNext.nd rfl (.inl rfl) (pe_op op_mod (pe_op op_add (pe_op op_mul (pv 7) (pv 7)) pe_int) pe_int))
    (pss_cons (ps_set (i := 7) scNext.nd rfl (.inl rfl) (pe_op op_mod (pe_op op_mul (pv 7) (pv 7)) pe_int))
    (pss_one (ps_ret (pe_op op_mod (pe_op op_fdiv (pv 7) pe_int) (pv 1))))))))))), ?_⟩
  -- the three parts
  refine ⟨_, rfl, D.dk, _, rfl, SqL.of e1, rfl, _, _, rfl, _, _, rfl, _, _, rfl, rfl, ?_⟩
  -- deck[2] = count + 1
  refine ⟨_, rfl, _, _, rfl, rfl, _, rfl, D.dk, _, _, 2, rfl, rfl, e1, rfl, ?_⟩
  have x2 : (upd H D.dk (.lst [.ref D.ca, .ref D.ra, .int ((n : Int) + 1)])) D.ca = some (.lst (cells.map V.int)) := by rw [upd_ne d.dc.symm]; exact e2
  have x3 : (upd H D.dk (.lst [.ref D.ca, .ref D.ra, .int ((n : Int) + 1)])) D.ra = some (.lst (rests.map V.int)) := by rw [upd_ne d.dr.symm]; exact e3
  have x1 : (upd H D.dk (.lst [.ref D.ca, .ref D.ra, .int ((n : Int) + 1)])) D.dk = some (.lst [.ref D.ca, .ref D.ra, .int ((n + 1 : Nat) : Int)]) := upd_same
  have sd : SameD D H (upd H D.dk (.lst [.ref D.ca, .ref D.ra, .int ((n : Int) + 1)])) := fun b o h1 _ e => by rw [upd_ne h1]; exact e
  have cl : ((cells.map V.int).length : Int) = (cells.length : Int) := by rw [List.length_map]
  have rl : ((rests.map V.int).length : Int) = (cells.length : Int) := by rw [List.length_map, cr]
  -- index
  refine ⟨_, rfl, _, rfl, D.ca, _, rfl, .inl (SqL.of x2), _, _, rfl, rfl, (by show (0 : Int) < ((cells.map V.int).length : Int); rw [cl]; omega), ?_⟩
  have i0 : 0 ≤ (n : Int) % ((cells.map V.int).length : Int) := Int.emod_nonneg _ (by rw [cl]; omega)
  have i1 : (n : Int) % ((cells.map V.int).length : Int) < (cells.length : Int) := by
    rw [cl]
    exact Int.emod_lt_of_pos _ (by omega)
  have l1 : ((n : Int) % ((cells.map V.int).length : Int)).toNat < rests.length := by omega
  have l2 : ((n : Int) % ((cells.map V.int).length : Int)).toNat < cells.length := by omega
  have a1 := at_int i0 (List.getElem?_eq_getElem l1)
  have a2 := at_int i0 (List.getElem?_eq_getElem l2)
  refine ⟨_, rfl, _, rfl, D.ra, _, _, _, rfl, rfl, SqL.of x3, a1, _, _, rfl, rfl, _, rfl, ite2 (fun _ => ?_) (fun _ => ?_)⟩
  · refine ⟨_, rfl, _, rfl, D.ra, _, _, _, rfl, rfl, SqL.of x3, a1, _, rfl, _, _, rfl, rfl, m0, ?_⟩
    refine ⟨_, rfl, _, rfl, D.ra, _, _, _, rfl, rfl, SqL.of x3, a1, _, rfl, _, _, rfl, rfl, ⟨m0, by omega⟩, ?_⟩
    refine ⟨_, rfl, _, rfl, D.ra, _, _, _, rfl, rfl, x3, ixN_nat i0 (by rw [rl]; exact i1), ?_⟩
    refine ⟨_, rfl, ?_⟩
    refine q _ _ (Int.emod_nonneg _ (by omega)) (Int.emod_lt_of_pos _ m0) ⟨⟨cells, rests.set ((n : Int) % ((cells.map V.int).length : Int)).toNat (rests[((n : Int) % ((cells.map V.int).length : Int)).toNat] / m), ?_, ?_, ?_, c0, ?_, c1⟩, d.dc, d.dr, d.cr⟩ ?_
    · rw [upd_ne d.dr]; exact x1
    · rw [upd_ne d.cr]; exact x2
    · rw [upd_same, List.map_set]
    · rw [List.length_set]; exact cr
    · exact sd.trans fun b o _ h2 e => by rw [upd_ne h2]; exact e
  · refine ⟨_, rfl, _, rfl, D.ca, _, _, _, rfl, rfl, SqL.of x2, a2, _, rfl, _, _, rfl, rfl, .inl ⟨by decide, by decide⟩, _, _, rfl, rfl, _, _, rfl, rfl, _, rfl, _, _, rfl, rfl, .inl ⟨by decide, by decide⟩, _, _, rfl, rfl, _, _, rfl, rfl, .inr ⟨by omega, by omega⟩, ?_⟩
    refine ⟨_, rfl, _, rfl, _, _, rfl, rfl, .inl ⟨by decide, by decide⟩, _, _, rfl, rfl, _, _, rfl, rfl, (show (0 : Int) < 2305843009213693951 by decide), ?_⟩
    refine ⟨_, rfl, _, rfl, _, _, rfl, rfl, .inl (mod1 _), _, _, rfl, rfl, _, _, rfl, rfl, (show (0 : Int) < 2305843009213693921 by decide), ?_⟩
    refine ⟨_, rfl, _, rfl, _, _, rfl, rfl, .inl (mod2 _), _, _, rfl, rfl, (show (0 : Int) < 2305843009213693951 by decide), ?_⟩
    refine ⟨_, rfl, _, _, rfl, rfl, ⟨by decide, by decide⟩, _, rfl, _, _, rfl, rfl, m0, ?_⟩
    exact q _ _ (Int.emod_nonneg _ (by omega)) (Int.emod_lt_of_pos _ m0) ⟨⟨cells, rests, x1, x2, x3, c0, cr, c1⟩, d.dc, d.dr, d.cr⟩ sd
end
/-! ### _law_deck -/
theorem cut_to (xs : List V) (k : Nat) : cutV xs none (some (k : Int)) = xs.take k := by
  unfold cutV
  rw [HT.sIx_nat, HT.sIx_none, List.drop_zero, Nat.sub_zero]
  rw [Nat.min_def]
  split
  · rfl
  · rw [List.take_of_length_le (Nat.le_refl _), List.take_of_length_le (by omega)]
theorem cut_from (xs : List V) (k : Nat) : cutV xs (some (k : Int)) none = xs.drop k := by
  unfold cutV
  rw [HT.sIx_nat, HT.sIx_none]
  by_cases h : k ≤ xs.length
  · rw [Nat.min_eq_left h, List.take_of_length_le (by rw [List.length_drop]; omega)]
  · rw [Nat.min_eq_right (by omega), List.drop_eq_nil_of_le (Nat.le_refl _), List.drop_eq_nil_of_le (by omega), List.take_nil]
theorem kept {σ : L2.St} {H : Hp} {A B : Hp → Prop} (h : A H) : tYes σ H (fun b H3 => if b = true then A H3 else B H3) := by
  show if true = true then A H else B H
  exact iteT h
theorem scDeck : FnScope ["_law_script", "_law_cells", "_law_cell"] ["_law_script"] (defScope sDeck) := ⟨rfl, rfl, rfl, by decide +kernel, rfl, by decide +kernel, by decide +kernel⟩
def spDeck (K : PySem.W.Frag) : Sp := fun vs H Q _ => ∃ (a : Addr) (ns : List Int), vs = [.ref a] ∧ SqL K H a (ns.map V.int) ∧ ∀ (D : Deck) (H' : Hp), DeckOk H' D 0 → Same H H' → Q (.ref D.dk) H'
section
variable {P : Program} {w : World} {K : PySem.W.Frag} {mg : Str → Option Value} {base : Heap} {f : Addr} {fd : FuncData}
theorem ok_deck {k : Nat} (F : Fun K "_law_deck" "_law_deck" sDeck f fd) (ml : mg "len" = none) (ma : mg "abs" = none) (mi : mg "int" = none) : FnOk P w K mg base CX0 (k + 1) f fd ["_law_script"] (spDeck K) := by
  refine F.ok scDeck (fun vs H Q E h => ?_) (fun cdv A outer s H vs Q E hr h => ?_)
  · obtain ⟨a, ns, rfl, _⟩ := h
    rfl
  obtain ⟨a, ns, rfl, hS, q⟩ := h
  refine ⟨_, pss_cons (ps_set (i := 1) scDeck.nd rfl (.inl rfl) (pe_op op_cat
      (pe_lc (own := [("_law_cell", 2)]) (g := gName 2) (tt := tYes) rfl scDeck.nd (pi_list (pe_slice sl_list (pv 0) po_none (po_some pe_int))) (blkOk_by (N := ["_law_script", "_law_cells", "_law_cell"]) (sc := defScope sDeck) (by decide +kernel))
        (fun _ _ _ _ _ => pg_name (i := 2) scDeck.nd rfl (Or.inl rfl)) (fun _ _ _ _ _ => pts_nil) (fun _ _ _ _ _ => pe_callB call_abs rfl ma (by decide +kernel) (pa_cons (pv 2) pa_nil)))
      (pe_op op_rep (pe_lst (pa_cons pe_int pa_nil)) (pe_callTy call_int1 rfl mi (by decide +kernel) (pa_cons (pe_cmpR op_eq (pe_callB call_len_seq rfl ml PySem.boot_len (pa_cons (pv 0) pa_nil)) pe_int (nomark _)) pa_nil)))))
    (pss_one (ps_ret (pe_lst (pa_cons (pv 1) (pa_cons
      (pe_lc (own := [("_law_cell", 2)]) (g := gName 2) (tt := tYes) rfl scDeck.nd (pi_list (pv 1)) (blkOk_by (N := ["_law_script", "_law_cells", "_law_cell"]) (sc := defScope sDeck) (by decide +kernel))
        (fun _ _ _ _ _ => pg_name (i := 2) scDeck.nd rfl (Or.inl rfl)) (fun _ _ _ _ _ => pts_nil)
        (fun _ _ _ _ _ => pe_op op_mul (pv 2) (pe_callTy call_int1 rfl mi (by decide +kernel) (pa_cons (pe_cmpR op_ge (pv 2) (pe_op op_pow pe_int pe_int) (nomark _)) pa_nil))))
      (pa_cons pe_int pa_nil)))))), ?_⟩
  refine ⟨.ref a, rfl, 61, rfl, a, ns.map V.int, rfl, hS, fun c nc => ?_⟩
  rw [show (61 : Int) = ((61 : Nat) : Int) from rfl, cut_to, ← List.map_take]
  have s1 := same_new nc (.lst ((ns.take 61).map V.int))
  refine ⟨c, rfl, ⟨_, SqL.of upd_same⟩, fun d1 n1 => ?_⟩
  have s2 := same_new n1 (.lst [])
  refine lc_list (K := K) (a := c) (xs := (ns.take 61).map V.int) (fun i H' => Same (upd H c (.lst ((ns.take 61).map V.int))) H' ∧ ∃ zs : List Int, zs.length = i ∧ H' d1 = some (.lst (zs.map V.int))) ⟨s2, [], rfl, upd_same⟩ (fun i H' _ hp => SqL.of (hp.1 _ _ upd_same)) (fun i x H' hx hp => ?_) (fun H1 hp => ?_)
  · obtain ⟨sm, zs, hz, hd⟩ := hp
    rw [List.getElem?_map] at hx
    obtain ⟨y, hy, rfl⟩ := Option.map_eq_some_iff.mp hx
    have hi : i < 61 := by
      have := (List.getElem?_eq_some_iff.mp hy).1
      rw [List.length_take] at this
      omega
    refine ⟨rfl, kept ?_⟩
    refine ⟨_, rfl, _, rfl, _, hd, by rw [List.length_map]; exact small1000 (by omega), fun b o e => ?_, zs ++ [if y < 0 then -y else y], by rw [List.length_append, hz]; rfl, ?_⟩
    · rw [upd_ne (ne_of_none e n1)]
      exact sm _ _ e
    · rw [upd_same, List.map_append]
      rfl
  obtain ⟨sm, zs, hz, hd⟩ := hp
  rw [List.length_map, List.length_take] at hz
  refine ⟨(by show 1 ≤ sizeLine; decide), fun z nz => ?_⟩
  have s3 := same_new nz (.lst [.int 0])
  have sH : Same H H1 := s1.trans sm
  refine ⟨.ref a, rfl, a, _, rfl, .inl ((sH.trans s3).seq hS), rfl, .inr ⟨_, rfl, z, _, _, rfl, rfl, upd_same, ?_, ?_, ?_, fun y ny => ?_⟩⟩
  · split <;> decide
  · split <;> decide
  · split <;> decide
  have s4 := same_new ny (.lst (List.replicate (Int.toNat (if decide (V.int ((ns.map V.int).length : Int) = V.int 0) = true then 1 else 0)) [V.int 0]).flatten)
  obtain ⟨ex, hex, hexl⟩ : ∃ ex : List Int, (List.replicate (Int.toNat (if decide (V.int ((ns.map V.int).length : Int) = V.int 0) = true then 1 else 0)) [V.int 0]).flatten = ex.map V.int ∧ 0 < zs.length + ex.length ∧ zs.length + ex.length ≤ 61 := by
    by_cases h0 : ns.length = 0
    · refine ⟨[0], ?_, ?_, ?_⟩
      · rw [show (decide (V.int ((ns.map V.int).length : Int) = V.int 0)) = true by rw [List.length_map, h0]; rfl]
        rfl
      · exact Nat.succ_pos _
      · rw [hz, h0]
        decide
    · refine ⟨[], ?_, ?_, ?_⟩
      · rw [show (decide (V.int ((ns.map V.int).length : Int) = V.int 0)) = false by
          apply decide_eq_false
          intro z
          have z' := V.int.inj z
          rw [List.length_map] at z'
          omega]
        rfl
      · rw [List.length_nil]; omega
      · rw [List.length_nil]; omega
  refine ⟨d1, y, _, _, rfl, rfl, (s3.trans s4) _ _ hd, upd_same, ?_, fun p np => ?_⟩
  · rw [hex, List.length_map, List.length_map]
    exact small (by omega)
  have s5 := same_new np (.lst (zs.map V.int ++ (List.replicate (Int.toNat (if decide (V.int ((ns.map V.int).length : Int) = V.int 0) = true then 1 else 0)) [V.int 0]).flatten))
  have s6 := sH.trans (s3.trans (s4.trans s5))
  -- the second list
  refine ⟨.ref p, rfl, .ref p, rfl, p, rfl, ⟨_, SqL.of upd_same⟩, fun r nr => ?_⟩
  rw [hex, ← List.map_append] at s5 s6 nr ⊢
  generalize hH2 : upd (upd (upd H1 z (.lst [.int 0])) y (.lst (ex.map V.int))) p (.lst ((zs ++ ex).map V.int)) = H2 at s5 s6 nr ⊢
  have ep : H2 p = some (.lst ((zs ++ ex).map V.int)) := by rw [← hH2]; exact upd_same
  have hpr : p ≠ r := ne_of_none ep nr
  refine lc_list (K := K) (a := p) (xs := (zs ++ ex).map V.int) (fun i H' => Same H2 H' ∧ ∃ ys : List Int, ys.length = i ∧ H' r = some (.lst (ys.map V.int))) ⟨same_new nr _, [], rfl, upd_same⟩ (fun i H' _ hp => SqL.of (hp.1 _ _ ep)) (fun i x H' hx hp => ?_) (fun H3 hp => ?_)
  · obtain ⟨sm, ys, hy, hd⟩ := hp
    rw [List.getElem?_map] at hx
    obtain ⟨v, hv, rfl⟩ := Option.map_eq_some_iff.mp hx
    have hi : i < 61 := by
      have := (List.getElem?_eq_some_iff.mp hv).1
      rw [List.length_append] at this
      omega
    refine ⟨rfl, kept ?_⟩
    refine ⟨_, rfl, _, rfl, _, _, rfl, rfl, ⟨by decide, by decide, by decide⟩, _, _, rfl, rfl, .inr ⟨_, rfl, _, _, rfl, rfl, .inr ?_, _, hd, by rw [List.length_map]; exact small1000 (by omega), fun b o e => ?_, ys ++ [v * (if decide (v ≥ (10 : Int) ^ Int.toNat 18) = true then 1 else 0)], by rw [List.length_append, hy]; rfl, ?_⟩⟩
    · split <;> decide
    · rw [upd_ne (ne_of_none e nr)]
      exact sm _ _ e
    · rw [upd_same, List.map_append]
      rfl
  · obtain ⟨sm, ys, hy, hd⟩ := hp
    refine ⟨(by show 3 ≤ sizeLine; decide), fun t nt => ?_⟩
    have s9 := same_new nt (.lst [.ref p, .ref r, .int 0])
    have ep3 := sm _ _ ep
    refine q ⟨t, p, r⟩ _ ⟨⟨zs ++ ex, ys, upd_same, s9 _ _ ep3, s9 _ _ hd, ?_, ?_, ?_⟩, (ne_of_none ep3 nt).symm, (ne_of_none hd nt).symm, hpr⟩ (s6.trans (sm.trans s9))
    · rw [List.length_append]; omega
    · rw [hy, List.length_map]
    · rw [List.length_append]; omega
end
/-! ### _law_same, of equal data -/
theorem sqT_same {K : PySem.W.Frag} {H H' : Hp} {a : Addr} {xs : List V} (e : Same H H') (h : SqT K H a xs) : SqT K H' a xs := by
  rcases h with (h | ⟨o, h⟩) | h
  · exact .inl (.inl (e _ _ h))
  · exact .inl (.inr ⟨o, e _ _ h⟩)
  · exact .inr h
mutual
theorem dp_same {K : PySem.W.Frag} {H H' : Hp} (e : Same H H') : ∀ {v : V} {d : PyData}, Dp K H v d → Dp K H' v d
  | _, _, .non => .non
  | _, _, .bl b => .bl b
  | _, _, .int i => .int i
  | _, _, .str x => .str x
  | _, _, .lst h a => .lst (e.seq h) (dpAll_same e a)
  | _, _, .tup h a => .tup (sqT_same e h) (dpAll_same e a)
theorem dpAll_same {K : PySem.W.Frag} {H H' : Hp} (e : Same H H') : ∀ {vs : List V} {ds : List PyData}, DpAll K H vs ds → DpAll K H' vs ds
  | _, _, .nil => .nil
  | _, _, .cons h a => .cons (dp_same e h) (dpAll_same e a)
end
theorem dpAll_len {K : PySem.W.Frag} {H : Hp} : ∀ {vs : List V} {ds : List PyData}, DpAll K H vs ds → vs.length = ds.length
  | _, _, .nil => rfl
  | _, _, .cons _ a => congrArg (· + 1) (dpAll_len a)
theorem dpAll_get {K : PySem.W.Frag} {H : Hp} : ∀ {vs : List V} {ds : List PyData} {i : Nat} {d : PyData}, DpAll K H vs ds → ds[i]? = some d → ∃ v, vs[i]? = some v ∧ Dp K H v d
  | _, _, _, _, .nil, h => by simp at h
  | _, _, 0, _, .cons h _, e => by
    cases e
    exact ⟨_, rfl, h⟩
  | _, _, i + 1, _, .cons _ a, e => dpAll_get (i := i) a e
def tyD : PyData → String
  | .none => "NoneType"
  | .bool _ => "bool"
  | .int _ => "int"
  | .str _ => "str"
  | .list _ => "list"
  | .tuple _ => "tuple"
  | .dict _ => "dict"
theorem dp_ty {K : PySem.W.Frag} {H : Hp} {v : V} {d : PyData} (h : Dp K H v d) : TyX K H v (.type (tyD d)) := by
  cases h with
  | non => exact .base .non
  | bl b => exact .base (.bl b)
  | int i => exact .base (.int i)
  | str x => exact .base (.str x)
  | lst h _ =>
    rcases h with (h | ⟨o, h⟩) | ⟨o, its, n, h, hc, _⟩
    · exact .base (.lst h)
    · exact .base (.frz h)
    · exact .kList h hc
  | tup h _ =>
    rcases h with (h | ⟨o, h⟩) | ⟨o, its, n, h, hc, _⟩
    · exact .base (.tup h)
    · exact .fTuple h
    · exact .kTuple h hc
theorem kit_lt {K : PySem.W.Frag} {a : String} {r s : Bool} (h1 : kitB a "list" = some r) (h2 : kitB a "tuple" = some s) : PySem.W.kitAny K (.type a) [.type "list", .type "tuple"] = some (r || s) := by
  refine kitAny_cons (kit_ty h1) (fun e => kitAny_cons (kit_ty h2) (fun e2 => ?_) fun e2 => ?_) fun e => ?_
  · rw [kitAny_nil, e, e2]; rfl
  · rw [e2, Bool.or_true]
  · rw [e, Bool.true_or]
theorem depth_get : ∀ {ds : List PyData} {i : Nat} {d : PyData}, ds[i]? = some d → d.depth ≤ PyData.depthAll ds
  | [], _, _, h => by simp at h
  | x :: xs, 0, _, h => by
    cases h
    simp only [PyData.depthAll]
    omega
  | x :: xs, i + 1, d, h => by
    have := depth_get (ds := xs) (i := i) h
    simp only [PyData.depthAll]
    omega
mutual
def nar : PyData → Bool
  | .list xs => decide (xs.length ≤ 1000000) && narAll xs
  | .tuple xs => decide (xs.length ≤ 1000000) && narAll xs
  | .dict _ => false
  | .none => true
  | .bool _ => true
  | .int _ => true
  | .str _ => true
def narAll : List PyData → Bool
  | [] => true
  | x :: xs => nar x && narAll xs
end
theorem nar_get : ∀ {ds : List PyData} {i : Nat} {d : PyData}, ds[i]? = some d → narAll ds = true → nar d = true
  | [], _, _, h, _ => by simp at h
  | x :: xs, 0, _, h, k => by
    cases h
    simp only [narAll, Bool.and_eq_true] at k
    exact k.1
  | x :: xs, i + 1, d, h, k => by
    simp only [narAll, Bool.and_eq_true] at k
    exact nar_get (ds := xs) (i := i) h k.2
theorem scSame : FnScope ["_law_found", "_law_due", "_law_k"] ["_law_found", "_law_due"] (defScope sSame) := ⟨rfl, rfl, rfl, by decide +kernel, rfl, by decide +kernel, by decide +kernel⟩
def spSame (K : PySem.W.Frag) (n : Nat) : Sp := fun vs H Q _ => ∃ (v v' : V) (d : PyData), vs = [v, v'] ∧ Dp K H v d ∧ Dp K H v' d ∧ d.depth < n ∧ nar d = true ∧ ∀ H', Same H H' → Q (.bl true) H'
structure Mgs (mg : Str → Option Value) : Prop where
  len : mg "len" = none
  isi : mg "isinstance" = none
  list : mg "list" = none
  tuple : mg "tuple" = none
  str : mg "str" = none
  int : mg "int" = none
  bool : mg "bool" = none
  range : mg "range" = none
theorem dp_two {K : PySem.W.Frag} {H : Hp} {v v' : V} {d : PyData} {n : Nat} (h : Dp K H v d) (h' : Dp K H v' d) (hd : d.depth < n + 1) (hn : nar d = true) :
    (∃ (p p' : Addr) (xs xs' : List V) (ds : List PyData) (bl : Bool) (ty : String), v = .ref p ∧ v' = .ref p' ∧ (SqL K H p xs ∨ SqT K H p xs) ∧ (SqL K H p' xs' ∨ SqT K H p' xs') ∧ DpAll K H xs ds ∧ DpAll K H xs' ds ∧
      TyX K H v (.type ty) ∧ TyX K H v' (.type ty) ∧ kitB ty "list" = some bl ∧ kitB ty "tuple" = some (!bl) ∧ PyData.depthAll ds < n ∧ ds.length ≤ 1000000 ∧ narAll ds = true) ∨ (v = v' ∧ (v = .non ∨ (∃ b, v = .bl b) ∨ (∃ i, v = .int i) ∨ ∃ x, v = .str x)) := by
  have t1 := dp_ty h
  have t2 := dp_ty h'
  cases h with
  | non =>
    cases h'
    exact .inr ⟨rfl, .inl rfl⟩
  | bl b =>
    cases h'
    exact .inr ⟨rfl, .inr (.inl ⟨b, rfl⟩)⟩
  | int b =>
    cases h'
    exact .inr ⟨rfl, .inr (.inr (.inl ⟨b, rfl⟩))⟩
  | str b =>
    cases h'
    exact .inr ⟨rfl, .inr (.inr (.inr ⟨b, rfl⟩))⟩
  | lst h a =>
    cases h' with
    | lst h' a' =>
      simp only [PyData.depth] at hd
      simp only [nar, Bool.and_eq_true, decide_eq_true_eq] at hn
      exact .inl ⟨_, _, _, _, _, true, "list", rfl, rfl, .inl h, .inl h', a, a', t1, t2, by decide +kernel, by decide +kernel, by omega, hn.1, hn.2⟩
  | tup h a =>
    cases h' with
    | tup h' a' =>
      simp only [PyData.depth] at hd
      simp only [nar, Bool.and_eq_true, decide_eq_true_eq] at hn
      exact .inl ⟨_, _, _, _, _, false, "tuple", rfl, rfl, .inr h, .inr h', a, a', t1, t2, by decide +kernel, by decide +kernel, by omega, hn.1, hn.2⟩
theorem seq_same {K : PySem.W.Frag} {H H' : Hp} {p : Addr} {xs : List V} (e : Same H H') (h : SqL K H p xs ∨ SqT K H p xs) : SqL K H' p xs ∨ SqT K H' p xs := h.elim (fun h => .inl (e.seq h)) fun h => .inr (sqT_same e h)
theorem seq_ix {K : PySem.W.Frag} {H : Hp} {p : Addr} {xs : List V} {i : Int} {v : V} {Q : VK} (h : SqL K H p xs ∨ SqT K H p xs) (a : atI xs i = some v) (q : Q v H) : rIx K (.ref p) (.int i) H Q :=
  h.elim (fun h => .inl ⟨p, xs, i, v, rfl, rfl, h, a, q⟩) fun h => .inr (.inl ⟨p, xs, i, v, rfl, rfl, h, a, q⟩)
theorem tyX_same {K : PySem.W.Frag} {H H' : Hp} {v : V} {d : PyData} (e : Same H H') (h : Dp K H v d) : TyX K H' v (.type (tyD d)) := dp_ty (dp_same e h)
section
variable {P : Program} {w : World} {K : PySem.W.Frag} {mg : Str → Option Value} {base : Heap} {f : Addr} {fd : FuncData}
theorem ok_same (F : Fun K "_law_same" "_law_same" sSame f fd) (b : Binds K fd ["_law_found", "_law_due"] []) (g : mg "_law_same" = some (.ref f)) (M : Mgs mg) : ∀ n : Nat, FnOk P w K mg base CX0 n f fd ["_law_found", "_law_due"] (spSame K n)
  | 0 => by
    have no : ∀ vs H Q E, ¬ spSame K 0 vs H Q E := fun vs H Q E h => by
      obtain ⟨v, t, d, _, _, _, h1, _, _⟩ := h
      omega
    exact ⟨fun vs H Q E h => absurd h (no vs H Q E), fun A outer s H args us vs Q E _ _ _ _ h => absurd h (no vs H Q E)⟩
  | n + 1 => by
    have G := ok_same F b g M n
    refine F.ok scSame (fun vs H Q E h => ?_) (fun cdv A outer s H vs Q E hr h => ?_)
    · obtain ⟨v, t, d, rfl, _⟩ := h
      rfl
    obtain ⟨v, v', d, rfl, hv, hv', hd, hna, q⟩ := h
    have bi : bootBuiltins "isinstance" = some (.builtin "isinstance") := by decide +kernel
    refine ⟨_, pss_cons (ps_if (pt_val (pe_callB call_isiT rfl M.isi bi (pa_cons (pv 1) (pa_cons (pe_tup (pa_cons (pe_bltn (v := .ty "list") rfl M.list (by decide +kernel) rfl) (pa_cons (pe_bltn (v := .ty "tuple") rfl M.tuple (by decide +kernel) rfl) pa_nil))) pa_nil))))
        (pss_cons (ps_if (PW.pt (pw_or (pt_cmpR op_ne (pe_callB call_isi rfl M.isi bi (pa_cons (pv 0) (pa_cons (pe_bltn (v := .ty "list") rfl M.list (by decide +kernel) rfl) pa_nil))) (pe_callB call_isi rfl M.isi bi (pa_cons (pv 1) (pa_cons (pe_bltn (v := .ty "list") rfl M.list (by decide +kernel) rfl) pa_nil))) (nomark _))
            (pw_or1 (pt_cmpR op_ne (pe_callB call_isi rfl M.isi bi (pa_cons (pv 0) (pa_cons (pe_bltn (v := .ty "tuple") rfl M.tuple (by decide +kernel) rfl) pa_nil))) (pe_callB call_isi rfl M.isi bi (pa_cons (pv 1) (pa_cons (pe_bltn (v := .ty "tuple") rfl M.tuple (by decide +kernel) rfl) pa_nil))) (nomark _))))) (pss_one (ps_ret pe_bl)) pss_nil)
        (pss_cons (ps_if (pt_cmpR op_ne (pe_callB call_len_seq rfl M.len PySem.boot_len (pa_cons (pv 0) pa_nil)) (pe_callB call_len_seq rfl M.len PySem.boot_len (pa_cons (pv 1) pa_nil)) (nomark _)) (pss_one (ps_ret pe_bl)) pss_nil)
        (pss_one (ps_ret (pe_cmpR (op_eqD hr.units) (pe_lc (own := [("_law_k", 2)]) (g := gName 2) rfl scSame.nd (pi_range1 rfl M.range (pa_cons (pe_callB call_len_seq rfl M.len PySem.boot_len (pa_cons (pv 1) pa_nil)) pa_nil)) (blkOk_by (N := ["_law_found", "_law_due", "_law_k"]) (sc := defScope sSame) (by decide +kernel))
            (fun _ _ _ _ _ => pg_name (i := 2) scSame.nd rfl (Or.inl rfl)) (fun _ _ _ _ _ => pts_one (pt_not (pt_val (pe_call G hr rfl g F.kp b .nil pass0 (pa_cons (pe_ix (show IxR _ (rIx K) from ix_seq) (pv 0) (pv 2) (fun _ _ => rfl)) (pa_cons (pe_ix (show IxR _ (rIx K) from ix_seq) (pv 1) (pv 2) (fun _ _ => rfl)) pa_nil)))))) (fun _ _ _ _ _ => pv 2))
          (pe_lst pa_nil) (nomark _)))))) pss_nil)
      (pss_cons (ps_if (pt_cmpR op_isN (pv 1) pe_non (nomark _)) (pss_one (ps_ret (pe_cmpR op_isN (pv 0) pe_non (nomark _)))) pss_nil)
      (pss_cons (ps_if (pt_val (pe_callB call_isi rfl M.isi bi (pa_cons (pv 1) (pa_cons (pe_bltn (v := .ty "str") rfl M.str (by decide +kernel) rfl) pa_nil)))) (pss_one (ps_ret (pe_and (pe_callB call_isi rfl M.isi bi (pa_cons (pv 0) (pa_cons (pe_bltn (v := .ty "str") rfl M.str (by decide +kernel) rfl) pa_nil))) (pe_one (pe_cmpR op_eq (pv 0) (pv 1) (nomark _)))))) pss_nil)
      (pss_one (ps_ret (pe_and (pe_callB call_isi rfl M.isi bi (pa_cons (pv 0) (pa_cons (pe_bltn (v := .ty "int") rfl M.int (by decide +kernel) rfl) pa_nil)))
        (pe_and (pe_cmpR op_eq (pe_callB call_isi rfl M.isi bi (pa_cons (pv 0) (pa_cons (pe_bltn (v := .ty "bool") rfl M.bool (by decide +kernel) rfl) pa_nil))) (pe_callB call_isi rfl M.isi bi (pa_cons (pv 1) (pa_cons (pe_bltn (v := .ty "bool") rfl M.bool (by decide +kernel) rfl) pa_nil))) (nomark _)) (pe_one (pe_cmpR op_eq (pv 0) (pv 1) (nomark _))))))))), ?_⟩
    refine ⟨v', rfl, (by show 2 ≤ sizeLine; decide), fun tp np => ?_⟩
    have s1 := same_new np (.tup [.ty "list", .ty "tuple"])
    have hw := dp_same s1 hv
    have hw' := dp_same s1 hv'
    have pr : Paired ClsV [V.ty "list", V.ty "tuple"] [Value.type "list", Value.type "tuple"] := .cons (.ty _) (.cons (.ty _) .nil)
    rcases dp_two hw hw' hd hna with ⟨p, p', xs, xs', ds, bl, ty, rfl, rfl, hq, hq', ha, ha', ht, ht', k1, k2, hdd, hwl, hwn⟩ | ⟨rfl, hk⟩
    · have ka : PySem.W.kitAny K (.type ty) [.type "list", .type "tuple"] = some true := by
        rw [kit_lt k1 k2]
        cases bl <;> rfl
      have hl := dpAll_len ha
      have hl' := dpAll_len ha'
      refine ⟨_, tp, _, _, _, true, rfl, upd_same, pr, ht', ka, _, rfl, iteT ?_⟩
      refine ⟨_, rfl, _, _, _, _, bl, rfl, .ty _, ht, kit_ty k1, _, rfl, _, _, _, _, bl, rfl, .ty _, ht', kit_ty k1, by cases bl <;> rfl, _, rfl, iteNS rfl ?_⟩
      refine ⟨_, rfl, _, _, _, _, !bl, rfl, .ty _, ht, kit_ty k2, _, rfl, _, _, _, _, !bl, rfl, .ty _, ht', kit_ty k2, by cases bl <;> rfl, _, rfl, iteNS rfl ?_⟩
      refine ⟨_, rfl, p, xs, rfl, hq, _, rfl, p', xs', rfl, hq', rfl, _, rfl, iteNS (by rw [hl, hl']) ?_⟩
      refine ⟨_, rfl, p', xs', rfl, hq', _, rfl, ?_, ?_, fun D nD => ?_⟩
      · omega
      · omega
      have s2 := same_new nD (.lst [])
      rw [Int.toNat_natCast]
      refine lc_range (lo := 0) (n := xs'.length) (fun i H' => Same (upd H tp (.tup [.ty "list", .ty "tuple"])) H' ∧ H' D = some (.lst [])) ⟨s2, upd_same⟩ (fun i H' hi hp => ?_) (fun H' hp => ?_)
      · obtain ⟨sm, eD⟩ := hp
        obtain ⟨di, edi⟩ : ∃ di, ds[i]? = some di := ⟨_, List.getElem?_eq_getElem (by omega)⟩
        obtain ⟨x, ex, hx⟩ := dpAll_get ha edi
        obtain ⟨x', ex', hx'⟩ := dpAll_get ha' edi
        have hdi := depth_get edi
        have e0 : (0 : Int) + (i : Int) = ((i : Nat) : Int) := by omega
        rw [e0]
        refine ⟨rfl, ?_⟩
        refine ⟨_, rfl, _, rfl, seq_ix (seq_same sm hq) (atI_nat ex) ⟨_, rfl, _, rfl, seq_ix (seq_same sm hq') (atI_nat ex') ⟨x, x', di, rfl, dp_same sm hx, dp_same sm hx', by omega, nar_get edi hwn, fun H'' s'' => ?_⟩⟩⟩
        exact ⟨_, rfl, iteF ⟨sm.trans s'', s'' _ _ eD⟩⟩
      · obtain ⟨sm, eD⟩ := hp
        refine ⟨(by show 0 ≤ sizeLine; decide), fun e ne => ?_⟩
        refine ⟨.list [], .list [], .lst (SqL.of ((same_new ne _) _ _ eD)) .nil, .lst (SqL.of upd_same) .nil, rfl, rfl, ?_⟩
        exact q _ (s1.trans (sm.trans (same_new ne _)))
    · have fin := q _ s1
      rcases hk with rfl | ⟨c, rfl⟩ | ⟨c, rfl⟩ | ⟨c, rfl⟩
      · refine ⟨_, tp, _, _, _, false, rfl, upd_same, pr, .base .non, kit_lt (r := false) (s := false) (by decide +kernel) (by decide +kernel), _, rfl, iteF ?_⟩
        refine ⟨_, rfl, rfl, _, rfl, iteT ?_⟩
        exact ⟨_, rfl, rfl, fin⟩
      · refine ⟨_, tp, _, _, _, false, rfl, upd_same, pr, .base (.bl c), kit_lt (r := false) (s := false) (by decide +kernel) (by decide +kernel), _, rfl, iteF ?_⟩
        refine ⟨_, rfl, rfl, _, rfl, iteF ?_⟩
        refine ⟨_, rfl, _, _, _, _, false, rfl, .ty _, .base (.bl c), kit_ty (by decide +kernel), _, rfl, iteF ?_⟩
        refine ⟨_, rfl, _, _, _, _, true, rfl, .ty _, .base (.bl c), kit_ty (by decide +kernel), _, rfl, iteT ?_⟩
        refine ⟨_, rfl, _, _, _, _, true, rfl, .ty _, .base (.bl c), kit_ty (by decide +kernel), _, rfl, _, _, _, _, true, rfl, .ty _, .base (.bl c), kit_ty (by decide +kernel), rfl, _, rfl, iteT ?_⟩
        refine ⟨_, rfl, _, rfl, by cases c <;> rfl, ?_⟩
        rw [decide_eq_true rfl]
        exact fin
      · refine ⟨_, tp, _, _, _, false, rfl, upd_same, pr, .base (.int c), kit_lt (r := false) (s := false) (by decide +kernel) (by decide +kernel), _, rfl, iteF ?_⟩
        refine ⟨_, rfl, rfl, _, rfl, iteF ?_⟩
        refine ⟨_, rfl, _, _, _, _, false, rfl, .ty _, .base (.int c), kit_ty (by decide +kernel), _, rfl, iteF ?_⟩
        refine ⟨_, rfl, _, _, _, _, true, rfl, .ty _, .base (.int c), kit_ty (by decide +kernel), _, rfl, iteT ?_⟩
        refine ⟨_, rfl, _, _, _, _, false, rfl, .ty _, .base (.int c), kit_ty (by decide +kernel), _, rfl, _, _, _, _, false, rfl, .ty _, .base (.int c), kit_ty (by decide +kernel), rfl, _, rfl, iteT ?_⟩
        refine ⟨_, rfl, _, rfl, rfl, ?_⟩
        rw [decide_eq_true rfl]
        exact fin
      · refine ⟨_, tp, _, _, _, false, rfl, upd_same, pr, .base (.str c), kit_lt (r := false) (s := false) (by decide +kernel) (by decide +kernel), _, rfl, iteF ?_⟩
        refine ⟨_, rfl, rfl, _, rfl, iteF ?_⟩
        refine ⟨_, rfl, _, _, _, _, true, rfl, .ty _, .base (.str c), kit_ty (by decide +kernel), _, rfl, iteT ?_⟩
        refine ⟨_, rfl, _, _, _, _, true, rfl, .ty _, .base (.str c), kit_ty (by decide +kernel), _, rfl, iteT ?_⟩
        refine ⟨_, rfl, _, rfl, rfl, ?_⟩
        rw [decide_eq_true rfl]
        exact fin
end
/-! ### list(text) -/
theorem vals_signs : ∀ (l : List Nat) (vs : List Value), vs.length = l.length → (∀ (j : Nat) (v : Value), vs[j]? = some v → ∃ c u, l[j]? = some c ∧ v = .str ⟨#[c]⟩ u) → Vals (l.map fun c => V.str ⟨#[c]⟩) vs
  | [], [], _, _ => .nil
  | [], _ :: _, h, _ => by simp at h
  | _ :: _, [], h, _ => by simp at h
  | c :: l, v :: vs, h, k => by
    obtain ⟨c', u, e, rfl⟩ := k 0 v rfl
    cases e
    exact .cons ⟨u, rfl⟩ (vals_signs l vs (by simpa using h) fun j v e => k (j + 1) v e)
theorem call_signs {X : Cx} (hc : X.calm = true) : CallR X (.type "list") (fun xs H Q => ∃ x : Str, xs = [.str x] ∧ x.cps.size ≤ 1000 ∧ ∀ p, H p = none → Q (.ref p) (upd H p (.lst (x.cps.toList.map fun c => V.str ⟨#[c]⟩)))) := by
  intro pins s σ H xs us Q I r h
  obtain ⟨x, rfl, hz, q⟩ := h
  obtain ⟨u, rfl, t, rfl⟩ := vals1 r
  have hz' : x.cps.size ≤ sizeLine := small hz
  refine call_list_str (I.ok.hd hc) x t (fun h' tk acc' c' hk hS hacc => ?_) hz'
  have hv : Vals (x.cps.toList.map fun c => V.str ⟨#[c]⟩) acc'.toList := vals_signs _ _ (by rw [Array.length_toList, Array.length_toList]; exact hacc.1) fun j v e => by
    obtain ⟨c, u, h1, h2⟩ := hacc.2 j v (by rw [← Array.getElem?_toList]; exact e)
    exact ⟨c, u, by rw [Array.getElem?_toList]; exact h1, h2⟩
  exact ⟨.ref s.heap.objs.size, _, I.laid (t' := tk) hk (Nat.le_refl _) (show ObjOk X.prog X.w _ h' _ (.lst _) from ⟨by rw [List.length_map, Array.length_toList]; exact hz', acc'.toList, c', hv, by rw [Array.toArray_toList]; exact hS⟩), rfl, q _ (I.hok.fresh (Nat.le_refl _))⟩
/-! ### _law_letters -/
theorem erase_map {α β : Type} (f : α → β) : ∀ (l : List α) (i : Nat), (l.map f).eraseIdx i = (l.eraseIdx i).map f
  | [], _ => rfl
  | _ :: _, 0 => rfl
  | x :: l, i + 1 => congrArg (f x :: ·) (erase_map f l i)
def Ltr (x : Str) : Prop := ∃ c : Nat, 97 ≤ c ∧ c ≤ 122 ∧ x = ⟨#[c]⟩
def abc : List Str := (List.range 26).map fun c => ⟨#[c + 97]⟩
theorem abc_ltr : ∀ x ∈ abc, Ltr x := fun x h => by
  unfold abc at h
  obtain ⟨c, hc, rfl⟩ := List.mem_map.mp h
  have := List.mem_range.mp hc
  exact ⟨c + 97, by omega, by omega, rfl⟩
theorem abc_is : ((Str.ofString "abcdefghijklmnopqrstuvwxyz").cps.toList.map fun c => V.str ⟨#[c]⟩) = abc.map V.str := by decide +kernel
theorem abc_len : abc.length = 26 := by decide +kernel
theorem scLett : FnScope ["_law_deck_here", "_law_size", "_law_way", "_law_some", "_law_found", "_law_k"] ["_law_deck_here", "_law_size"] (defScope sLett) := ⟨rfl, rfl, rfl, by decide +kernel, rfl, by decide +kernel, by decide +kernel⟩
def spLett : Sp := fun vs H Q _ => ∃ (D : Deck) (n m : Nat), vs = [.ref D.dk, .int (m : Int)] ∧ DeckOk H D n ∧ n + m + 1 ≤ 1000000 ∧ 1 ≤ m ∧ m ≤ 26 ∧ ∀ (p : Addr) (xs : List Str) (n' : Nat) (H' : Hp), DeckOk H' D n' → n' ≤ n + m + 1 → SameD D H H' →
  H' p = some (.lst (xs.map V.str)) → xs.length = m → (∀ x ∈ xs, Ltr x) → Off D p → Q (.ref p) H'
section
variable {P : Program} {w : World} {K : PySem.W.Frag} {mg : Str → Option Value} {base : Heap} {f fN : Addr} {fd fdN : FuncData}
theorem ok_lett {k : Nat} (F : Fun K "_law_letters" "_law_letters" sLett f fd) (G : FnOk P w K mg base CX0 k fN fdN ["_law_deck_here", "_law_many"] spNext) (bN : Binds K fdN ["_law_deck_here", "_law_many"] []) (kN : PySem.W.keepIn K (.ref fN) = true) (gN : mg "_law_next" = some (.ref fN)) (M : Mgs mg) (ms : mg "sorted" = none) :
    FnOk P w K mg base CX0 (k + 1) f fd ["_law_deck_here", "_law_size"] spLett := by
  refine F.ok scLett (fun vs H Q E h => ?_) (fun cdv A outer s H vs Q E hr h => ?_)
  · obtain ⟨D, n, m, rfl, _⟩ := h
    rfl
  obtain ⟨D, n, m, rfl, d, hn, m0, m1, q⟩ := h
  refine ⟨_, pss_cons (ps_asg (pe_tup (pa_cons (pe_call G hr rfl gN kN bN .nil pass0 (pa_cons (pv 0) (pa_cons pe_int pa_nil))) (pa_cons (pe_callTy (call_signs rfl) rfl M.list (by decide +kernel) (pa_cons pe_str pa_nil)) pa_nil))) (pg_tup rfl (pgs_cons (pg_name (i := 2) scLett.nd rfl (.inl rfl)) (pgs_cons (pg_name (i := 3) scLett.nd rfl (.inr rfl)) pgs_nil))))
    (pss_cons (ps_if (pt_cmpR op_eq (pv 2) pe_int (nomark _)) (pss_one (ps_ret (pe_op op_rep (pe_lst (pa_cons (pe_ix ix_list (pv 3) (pe_call G hr rfl gN kN bN .nil pass0 (pa_cons (pv 0) (pa_cons pe_int pa_nil))) (fun _ _ => rfl)) pa_nil)) (pv 1)))) pss_nil)
    (pss_cons (ps_if (pt_cmpR op_eq (pv 2) pe_int (nomark _)) (pss_one (ps_ret (pe_lc (own := [("_law_k", 5)]) (g := gName 5) (tt := tYes) rfl scLett.nd (pi_range1 rfl M.range (pa_cons (pv 1) pa_nil)) (blkOk_by (N := ["_law_deck_here", "_law_size", "_law_way", "_law_some", "_law_found", "_law_k"]) (sc := defScope sLett) (by decide +kernel))
        (fun _ _ _ _ _ => pg_name (i := 5) scLett.nd rfl (Or.inl rfl)) (fun _ _ _ _ _ => pts_nil) (fun _ _ _ _ _ => pe_ix (show IxR _ (rIxL K) from ix_list) (pv 3) (pe_call G hr rfl gN kN bN .nil pass0 (pa_cons (pv 0) (pa_cons pe_int pa_nil))) (fun _ _ => rfl))))) pss_nil)
    (pss_cons (ps_set (i := 4) scLett.nd rfl (.inl rfl) (pe_lst pa_nil))
    (pss_cons (ps_while PassesOwn.never (pt_cmpR op_lt (pe_callB call_len_seq rfl M.len PySem.boot_len (pa_cons (pv 4) pa_nil)) (pv 1) (nomark _))
      (pss_one (ps_expr (pe_bm PySem.F.plainAttrs_list PySem.F.slot_list_append PySem.F.type_list_append mt_append (pv 4) (pa_cons
        (pe_bm PySem.F.plainAttrs_list PySem.F.slot_list_pop PySem.F.type_list_pop mt_popAt (pv 3) (pa_cons (pe_call G hr rfl gN kN bN .nil pass0 (pa_cons (pv 0) (pa_cons (pe_callB call_len_seq rfl M.len PySem.boot_len (pa_cons (pv 3) pa_nil)) pa_nil))) pa_nil)) pa_nil)))))
    (pss_one (ps_ret (pe_ifExp (pt_cmpR op_eq (pv 2) pe_int (nomark _)) (pv 4) (pe_callB cr_sortedS rfl ms (by decide +kernel) (pa_cons (pv 4) pa_nil))))))))), ?_⟩
  refine ⟨_, rfl, D, n, 4, rfl, d, by omega, by decide, by decide, fun wy H1 w0 w1 d1 s1 => ?_⟩
  refine ⟨_, rfl, by decide +kernel, fun sa nsa => ⟨(by show 2 ≤ sizeLine; decide), fun tp ntp => ?_⟩⟩
  rw [abc_is] at ntp ⊢
  refine ⟨tp, _, rfl, SqT.of upd_same, rfl, _, _, rfl, _, _, rfl, rfl, ?_⟩
  have q1 := same_new nsa (.lst (abc.map V.str))
  have q2 := same_new ntp (.tup [.int wy, .ref sa])
  have d2 := (d1.same q1).same q2
  have sd : SameD D H (upd (upd H1 sa (.lst (abc.map V.str))) tp (.tup [.int wy, .ref sa])) := s1.trans (.of (q1.trans q2))
  have esa : (upd (upd H1 sa (.lst (abc.map V.str))) tp (.tup [.int wy, .ref sa])) sa = some (.lst (abc.map V.str)) := q2 _ _ upd_same
  have nsaH : H sa = none := s1.free d1 nsa
  have na := d1.new nsa
  generalize upd (upd H1 sa (.lst (abc.map V.str))) tp (.tup [.int wy, .ref sa]) = H2 at d2 sd esa
  have al := abc_len
  have abcI : ∀ i : Int, 0 ≤ i → i < 26 → ∃ x, atI (abc.map V.str) i = some (.str x) ∧ Ltr x := fun i h0 h1 => by
    have hl : i.toNat < abc.length := by omega
    exact ⟨abc[i.toNat], at_map h0 (List.getElem?_eq_getElem hl), abc_ltr _ (List.getElem_mem hl)⟩
  -- way == 2
  refine ⟨_, rfl, rfl, _, rfl, ite2 (fun _ => ?_) (fun _ => ?_)⟩
  · refine ⟨_, rfl, _, rfl, D, n + 1, 26, rfl, d2, by omega, by decide, by decide, fun i H3 i0 i1 d3 s3 => ?_⟩
    obtain ⟨x, hx, lx⟩ := abcI i i0 i1
    refine ⟨sa, _, _, _, rfl, rfl, SqL.of (s3.at na esa), hx, (by show 1 ≤ sizeLine; decide), fun l nl => ?_⟩
    refine ⟨_, rfl, l, _, _, rfl, rfl, upd_same, by omega, by omega, ?_, fun p np => ?_⟩
    · rw [Int.toNat_natCast]
      exact small (by show 1 * m ≤ 1000; omega)
    rw [Int.toNat_natCast]
    rw [rep_flat, ← List.map_replicate]
    have q3 := same_new nl (.lst [.str x])
    have q4 := same_new np (.lst ((List.replicate m x).map V.str))
    have d5 := (d3.same q3).same q4
    have nd := (d3.same q3).new np
    refine q p (List.replicate m x) (n + 1 + 1) _ d5 (by omega) (sd.trans (s3.trans (.of (q3.trans q4)))) upd_same (List.length_replicate) (fun y hy => ?_) nd
    rw [List.eq_of_mem_replicate hy]
    exact lx
  -- way == 3
  refine ⟨_, rfl, rfl, _, rfl, ite2 (fun _ => ?_) (fun _ => ?_)⟩
  · refine ⟨_, rfl, _, rfl, by omega, by omega, fun L nL => ?_⟩
    have nd := d2.new nL
    rw [Int.toNat_natCast]
    refine lc_range (lo := 0) (n := m) (fun i H' => ∃ n', DeckOk H' D n' ∧ n' ≤ n + 1 + i ∧ SameD D H2 H' ∧ ∃ xs : List Str, xs.length = i ∧ (∀ x ∈ xs, Ltr x) ∧ H' L = some (.lst (xs.map V.str))) ⟨n + 1, d2.same (same_new nL _), by omega, .of (same_new nL _), [], rfl, (fun _ h => nomatch h), upd_same⟩ (fun i H' hi hp => ?_) (fun H' hp => ?_)
    · obtain ⟨n', d', hn', s', xs, hxl, hxs, eL⟩ := hp
      refine ⟨rfl, kept ?_⟩
      refine ⟨_, rfl, _, rfl, D, n', 2, rfl, d', by omega, by decide, by decide, fun j H4 j0 j1 d4 s4 => ?_⟩
      obtain ⟨x, hx, lx⟩ := abcI j j0 (by omega)
      have e4 := s4.at nd eL
      refine ⟨sa, _, _, _, rfl, rfl, SqL.of (s4.at na (s'.at na esa)), hx, _, e4, by rw [List.length_map]; exact small1000 (by omega), n' + 1, d4.put nd _, by omega, (s'.trans s4).put nL _, xs ++ [x], by rw [List.length_append, hxl]; rfl, fun y hy => ?_, ?_⟩
      · rcases List.mem_append.mp hy with h | h
        · exact hxs y h
        · rw [List.mem_singleton.mp h]
          exact lx
      · rw [upd_same, List.map_append]
        rfl
    · obtain ⟨n', d', hn', s', xs, hxl, hxs, eL⟩ := hp
      exact q L xs n' H' d' (by omega) (sd.trans s') eL hxl hxs nd
  refine ⟨(by show 0 ≤ sizeLine; decide), fun fa nfa => ?_⟩
  have nf := d2.new nfa
  have nsf : sa ≠ fa := ne_of_none esa nfa
  have nfH : H fa = none := sd.free d2 nfa
  refine while_by (fun σ H' => σ = [some (.ref D.dk), some (.int (m : Int)), some (.int wy), some (.ref sa), some (.ref fa), none] ∧ ∃ (n' : Nat) (xs rest : List Str), DeckOk H' D n' ∧ n' ≤ n + 1 + xs.length ∧ SameD D H H' ∧ xs.length ≤ m ∧ xs.length + rest.length = 26 ∧ (∀ x ∈ xs, Ltr x) ∧ (∀ x ∈ rest, Ltr x) ∧ H' fa = some (.lst (xs.map V.str)) ∧ H' sa = some (.lst (rest.map V.str)))
    (fun σ H' => match H' fa with | some (.lst xs) => m - xs.length | _ => 0) ⟨rfl, n + 1, [], abc, d2.put nf _, by omega, sd.put nfH _, Nat.zero_le _, by rw [al]; rfl, (fun _ h => nomatch h), abc_ltr, upd_same, by rw [upd_ne nsf]; exact esa⟩ (fun σ H' hp => ?_) ?_
  · obtain ⟨rfl, n', xs, rest, d', hn', s', hm, h26, hxs, hrs, ef, es⟩ := hp
    refine ⟨_, rfl, fa, _, rfl, .inl (SqL.of ef), _, rfl, _, _, rfl, rfl, _, rfl, ite2 (fun c => ?_) (fun c => ?_)⟩
    · have c' : ((xs.map V.str).length : Int) < (m : Int) := of_decide_eq_true c
      rw [List.length_map] at c'
      refine ⟨.ref fa, rfl, .inl ⟨rfl, _, SqL.of ef⟩, .ref sa, rfl, .inl ⟨rfl, _, SqL.of es⟩, _, rfl, _, rfl, sa, _, rfl, .inl (SqL.of es), D, n', _, rfl, d', by omega, ?_, ?_, fun j H4 j0 j1 d4 s4 => ?_⟩
      · rw [List.length_map]; omega
      · rw [List.length_map]; omega
      rw [List.length_map] at j1
      have hj : j.toNat < rest.length := by omega
      have es4 := s4.at na es
      have ef4 := s4.at nf ef
      refine ⟨sa, _, j, j.toNat, .str rest[j.toNat], rfl, rfl, es4, by omega, by omega, ?_, ?_, ?_⟩
      · exact (ixN_seq (ixN_nat j0 (by rw [List.length_map]; omega))).1
      · rw [List.getElem?_map, List.getElem?_eq_getElem hj]; rfl
      have ef5 : (upd H4 sa (.lst ((rest.map V.str).eraseIdx j.toNat))) fa = some (.lst (xs.map V.str)) := by rw [upd_ne nsf.symm]; exact ef4
      refine ⟨fa, _, _, rfl, rfl, ef5, by rw [List.length_map]; exact small1000 (by omega), ?_⟩
      refine ⟨⟨rfl, n' + 1, xs ++ [rest[j.toNat]], rest.eraseIdx j.toNat, (d4.put na _).put nf _, ?_, ((s'.trans s4).put nsaH _).put nfH _, ?_, ?_, fun y hy => ?_, fun y hy => hrs y (List.mem_of_mem_eraseIdx hy), ?_, ?_⟩, ?_⟩
      · rw [List.length_append]
        show n' + 1 ≤ n + 1 + (xs.length + 1)
        omega
      · rw [List.length_append]
        show xs.length + 1 ≤ m
        omega
      · rw [List.length_append, List.length_eraseIdx_of_lt hj]
        show xs.length + 1 + (rest.length - 1) = 26
        omega
      · rcases List.mem_append.mp hy with h | h
        · exact hxs y h
        · rw [List.mem_singleton.mp h]
          exact hrs _ (List.getElem_mem hj)
      · rw [upd_same, List.map_append]
        rfl
      · rw [upd_ne nsf, upd_same, erase_map]
      · show (match (upd (upd H4 sa _) fa (.lst (xs.map V.str ++ [V.str rest[j.toNat]]))) fa with | some (.lst xs) => m - xs.length | _ => 0) < (match H' fa with | some (.lst xs) => m - xs.length | _ => 0)
        rw [upd_same, ef]
        show m - (xs.map V.str ++ [V.str rest[j.toNat]]).length < m - (xs.map V.str).length
        rw [List.length_append, List.length_map]
        show m - (xs.length + 1) < m - xs.length
        omega
    · have c' : ¬ ((xs.map V.str).length : Int) < (m : Int) := of_decide_eq_false (Bool.eq_false_iff.mpr c)
      rw [List.length_map] at c'
      have hlen : xs.length = m := by omega
      refine ⟨_, rfl, rfl, _, rfl, ite2 (fun _ => ?_) (fun _ => ?_)⟩
      · exact ⟨_, rfl, q fa xs n' H' d' (by omega) s' ef hlen hxs nf⟩
      · refine ⟨_, rfl, fa, xs, rfl, SqL.of ef, by omega, fun ys p pm _ np => ?_⟩
        exact q p ys n' _ (d'.same (same_new np _)) (by omega) (s'.trans (.of (same_new np _))) upd_same (by rw [pm.length_eq]; exact hlen) (fun x hx => hxs x (pm.mem_iff.mp hx)) (d'.new np)
  · intro σ H' Q1 Q2 hQ h
    obtain ⟨v, e, p, ys, e2, e3, v2, e4, i, j, e5, e6, k, e7, q7⟩ := h
    exact ⟨v, e, p, ys, e2, e3, v2, e4, i, j, e5, e6, k, e7, hQ _ _ q7⟩
end
/-! ### _law_grown -/
def T.btw : T → List Str
  | .nil => []
  | .node l x r => l.btw ++ x :: r.btw
theorem T.btw_len : ∀ t : T, t.btw.length = t.size
  | .nil => rfl
  | .node l x r => by
    have h1 := l.btw_len
    have h2 := r.btw_len
    show (l.btw ++ x :: r.btw).length = l.size + 1 + r.size
    rw [List.length_append, List.length_cons]
    omega
theorem scGrown : FnScope ["_law_deck_here", "_law_size", "_law_way", "_law_letters_here", "_law_many", "_law_left"] ["_law_deck_here", "_law_size", "_law_way", "_law_letters_here"] (defScope sGrown) := ⟨rfl, rfl, rfl, by decide +kernel, rfl, by decide +kernel, by decide +kernel⟩
def spGrown (n : Nat) : Sp := fun vs H Q _ => ∃ (D : Deck) (c : Nat) (way : Int) (p : Addr) (xs : List Str), vs = [.ref D.dk, .int (xs.length : Int), .int way, .ref p] ∧ DeckOk H D c ∧ c + xs.length ≤ 1000000 ∧ xs.length < n ∧ xs.length ≤ 1000 ∧ 0 ≤ way ∧ way ≤ 4 ∧
  H p = some (.lst (xs.map V.str)) ∧ Off D p ∧ ∀ (v : V) (t : T) (c' : Nat) (H' : Hp), DeckOk H' D c' → c' ≤ c + xs.length → SameD D H H' → TreeAt H' v t → t.btw = xs → Q v H'
theorem pick_many {z : Int} {i way : Int} (z1 : 1 ≤ z) (i0 : 0 ≤ i) (i1 : i < z) (w0 : 0 ≤ way) (w1 : way ≤ 4) : ∃ m : Nat, atI [V.int i, V.int (z - 1), V.int 0, V.int ((z - 1) * (z % 2)), V.int ((z - 1) / 2)] way = some (.int (m : Int)) ∧ (m : Int) < z := by
  have h : way = ((0 : Nat) : Int) ∨ way = ((1 : Nat) : Int) ∨ way = ((2 : Nat) : Int) ∨ way = ((3 : Nat) : Int) ∨ way = ((4 : Nat) : Int) := by omega
  rcases h with rfl | rfl | rfl | rfl | rfl
  · exact ⟨i.toNat, by rw [Int.toNat_of_nonneg i0]; exact atI_nat rfl, by omega⟩
  · exact ⟨(z - 1).toNat, by rw [Int.toNat_of_nonneg (by omega)]; exact atI_nat rfl, by omega⟩
  · exact ⟨0, atI_nat rfl, by omega⟩
  · have h2 : z % 2 = 0 ∨ z % 2 = 1 := by omega
    rcases h2 with e | e
    · exact ⟨0, by rw [e, Int.mul_zero]; exact atI_nat rfl, by omega⟩
    · exact ⟨(z - 1).toNat, by rw [e, Int.mul_one, Int.toNat_of_nonneg (by omega)]; exact atI_nat rfl, by omega⟩
  · exact ⟨((z - 1) / 2).toNat, by rw [Int.toNat_of_nonneg (by omega)]; exact atI_nat rfl, by omega⟩
section
variable {P : Program} {w : World} {K : PySem.W.Frag} {mg : Str → Option Value} {base : Heap} {f fN : Addr} {fd fdN : FuncData}
theorem ok_grown (F : Fun K "_law_grown" "_law_grown" sGrown f fd) (b : Binds K fd ["_law_deck_here", "_law_size", "_law_way", "_law_letters_here"] []) (g : mg "_law_grown" = some (.ref f))
    (GN : FnOk P w K mg base CX0 1 fN fdN ["_law_deck_here", "_law_many"] spNext) (bN : Binds K fdN ["_law_deck_here", "_law_many"] []) (kN : PySem.W.keepIn K (.ref fN) = true) (gN : mg "_law_next" = some (.ref fN)) :
    ∀ n : Nat, FnOk P w K mg base CX0 (n + 1) f fd ["_law_deck_here", "_law_size", "_law_way", "_law_letters_here"] (spGrown n)
  | 0 => by
    have no : ∀ vs H Q E, ¬ spGrown 0 vs H Q E := fun vs H Q E h => by
      obtain ⟨D, c, way, p, xs, _, _, _, h1, _⟩ := h
      omega
    exact ⟨fun vs H Q E h => absurd h (no vs H Q E), fun A outer s H args us vs Q E _ _ _ _ h => absurd h (no vs H Q E)⟩
  | n + 1 => by
    have G := ok_grown F b g GN bN kN gN n
    refine F.ok scGrown (fun vs H Q E h => ?_) (fun cdv A outer s H vs Q E hr h => ?_)
    · obtain ⟨D, c, way, p, xs, rfl, _⟩ := h
      rfl
    obtain ⟨D, c, way, p, xs, rfl, d, hc, hn, hx, w0, w1, ep, op, q⟩ := h
    have hr1 : Room 1 (A.deeper (envOfC "_law_grown" (defScope sGrown) s.heap.objs.size f cdv)) := hr.mono (by omega)
    refine ⟨_, pss_cons (ps_if (pt_cmpR op_eq (pv 1) pe_int (nomark _)) (pss_one (ps_ret pe_non)) pss_nil)
      (pss_cons (ps_set (i := 4) scGrown.nd rfl (.inl rfl) (pe_ix ix_list (pe_lst (pa_cons (pe_call GN hr1 rfl gN kN bN .nil pass0 (pa_cons (pv 0) (pa_cons (pv 1) pa_nil))) (pa_cons (pe_op op_sub (pv 1) pe_int) (pa_cons pe_int
          (pa_cons (pe_op op_mul (pe_op op_sub (pv 1) pe_int) (pe_op op_mod (pv 1) pe_int)) (pa_cons (pe_op op_fdiv (pe_op op_sub (pv 1) pe_int) pe_int) pa_nil)))))) (pv 2) (fun _ _ => rfl)))
      (pss_cons (ps_set (i := 5) scGrown.nd rfl (.inl rfl) (pe_call G hr rfl g F.kp b .nil pass0 (pa_cons (pv 0) (pa_cons (pv 4) (pa_cons (pv 2) (pa_cons (pe_slice sl_list (pv 3) po_none (po_some (pv 4))) pa_nil))))))
      (pss_one (ps_ret (pe_tup (pa_cons (pv 5) (pa_cons (pe_ix ix_list (pv 3) (pv 4) (fun _ _ => rfl)) (pa_cons
        (pe_call G hr rfl g F.kp b .nil pass0 (pa_cons (pv 0) (pa_cons (pe_op op_sub (pe_op op_sub (pv 1) pe_int) (pv 4)) (pa_cons (pv 2) (pa_cons (pe_slice sl_list (pv 3) (po_some (pe_op op_add (pv 4) pe_int)) po_none) pa_nil))))) pa_nil)))))))), ?_⟩
    refine ⟨_, rfl, rfl, _, rfl, ite2 (fun e => ?_) (fun e => ?_)⟩
    · have e0 : (xs.length : Int) = 0 := V.int.inj (of_decide_eq_true e)
      have ex : xs = [] := List.eq_nil_of_length_eq_zero (by omega)
      exact q .non .nil c H d (by omega) (SameD.refl D H) .nil (by rw [ex]; rfl)
    · have e0 : ¬ (xs.length : Int) = 0 := fun z => e (decide_eq_true (congrArg V.int z))
      have x1 : (1 : Int) ≤ (xs.length : Int) := by omega
      refine ⟨_, rfl, _, rfl, D, c, _, rfl, d, by omega, by omega, by omega, fun i H1 i0 i1 d1 s1 => ?_⟩
      refine ⟨_, rfl, _, _, rfl, rfl, _, rfl, _, _, rfl, rfl, _, rfl, _, _, rfl, rfl, (show (0 : Int) < 2 by decide), _, _, rfl, rfl, .inl ⟨by omega, by omega⟩, ?_⟩
      refine ⟨_, rfl, _, _, rfl, rfl, _, _, rfl, rfl, ⟨by decide, by decide⟩, (by show 5 ≤ sizeLine; decide), fun l nl => ?_⟩
      obtain ⟨m, hm, ml⟩ := pick_many x1 i0 i1 w0 w1
      refine ⟨_, rfl, l, _, _, _, rfl, rfl, SqL.of upd_same, hm, ?_⟩
      have q1 := same_new nl (.lst [V.int i, V.int ((xs.length : Int) - 1), V.int 0, V.int (((xs.length : Int) - 1) * ((xs.length : Int) % 2)), V.int (((xs.length : Int) - 1) / 2)])
      have d2 := d1.same q1
      have s2 := s1.trans (SameD.of q1)
      have ep2 := s2.at op ep
      -- left
      refine ⟨_, rfl, _, rfl, _, rfl, _, rfl, _, rfl, _, rfl, p, _, rfl, SqL.of ep2, fun p1 np1 => ?_⟩
      rw [cut_to, ← List.map_take] at *
      have lt : (xs.take m).length = m := by rw [List.length_take]; omega
      have q2 := same_new np1 (.lst ((xs.take m).map V.str))
      have d3 := d2.same q2
      have s3 := s2.trans (SameD.of q2)
      refine ⟨D, c + 1, way, p1, xs.take m, by rw [lt]; rfl, d3, by omega, by omega, by omega, w0, w1, upd_same, d2.new np1, fun v1 t1 c1 H3 d4 hc1 s4 at1 bt1 => ?_⟩
      have ep4 := (s3.trans s4).at op ep
      have hm' : m < xs.length := by omega
      have am : atI (xs.map V.str) ((m : Nat) : Int) = some (.str xs[m]) := at_map (by omega) (by rw [Int.toNat_natCast]; exact List.getElem?_eq_getElem hm')
      refine ⟨_, rfl, _, rfl, _, rfl, p, _, _, _, rfl, rfl, SqL.of ep4, am, ?_⟩
      refine ⟨_, rfl, _, rfl, _, _, rfl, rfl, _, rfl, _, _, rfl, rfl, _, rfl, _, rfl, _, rfl, _, _, rfl, rfl, _, rfl, p, _, rfl, SqL.of ep4, fun p2 np2 => ?_⟩
      have em : ((m : Nat) : Int) + 1 = ((m + 1 : Nat) : Int) := by omega
      rw [show cutV (xs.map V.str) (some (((m : Nat) : Int) + 1)) none = (xs.drop (m + 1)).map V.str by rw [em, cut_from, List.map_drop]]
      have ld : (xs.drop (m + 1)).length = xs.length - 1 - m := by rw [List.length_drop]; omega
      have ldi : (((xs.drop (m + 1)).length : Nat) : Int) = (xs.length : Int) - 1 - (m : Int) := by rw [ld]; omega
      have q3 := same_new np2 (.lst ((xs.drop (m + 1)).map V.str))
      have d5 := d4.same q3
      refine ⟨D, c1, way, p2, xs.drop (m + 1), by rw [ldi]; rfl, d5, by omega, by omega, by omega, w0, w1, upd_same, d4.new np2, fun v2 t2 c2 H4 d6 hc2 s5 at2 bt2 => ?_⟩
      refine ⟨(by show 3 ≤ sizeLine; decide), fun r nr => ?_⟩
      have q4 := same_new nr (.tup [v1, .str xs[m], v2])
      refine q (.ref r) (.node t1 xs[m] t2) c2 _ (d6.same q4) (by omega) (s3.trans (s4.trans ((SameD.of q3).trans (s5.trans (SameD.of q4))))) (.node upd_same ?_ (at2.same q4)) ?_
      · exact ((at1.same q3).keep (s5.keepT d5)).same q4
      · show t1.btw ++ xs[m] :: t2.btw = xs
        rw [bt1, bt2]
        rw [← List.drop_eq_getElem_cons hm', List.take_append_drop]
end
/-! ### _law_tree -/
theorem scTree : FnScope ["_law_deck_here", "_law_limit", "_law_size", "_law_way"] ["_law_deck_here", "_law_limit"] (defScope sTree) := ⟨rfl, rfl, rfl, by decide +kernel, rfl, by decide +kernel, by decide +kernel⟩
def spTree : Sp := fun vs H Q _ => ∃ (D : Deck) (n lim : Nat), vs = [.ref D.dk, .int (lim : Int)] ∧ DeckOk H D n ∧ n + 2 * lim + 10 ≤ 1000000 ∧ 1 ≤ lim ∧ lim ≤ 26 ∧
  ∀ (v : V) (t : T) (n' : Nat) (H' : Hp), DeckOk H' D n' → n' ≤ n + 2 * lim + 3 → SameD D H H' → TreeAt H' v t → 1 ≤ t.size → t.size ≤ lim → (∀ x ∈ t.btw, Ltr x) → Q v H'
theorem pick_way {i : Int} (i0 : 0 ≤ i) (i1 : i < 7) : ∃ z : Int, atI [V.int 0, V.int 0, V.int 0, V.int 1, V.int 2, V.int 3, V.int 4] i = some (.int z) ∧ 0 ≤ z ∧ z ≤ 4 := by
  have h : i = ((0 : Nat) : Int) ∨ i = ((1 : Nat) : Int) ∨ i = ((2 : Nat) : Int) ∨ i = ((3 : Nat) : Int) ∨ i = ((4 : Nat) : Int) ∨ i = ((5 : Nat) : Int) ∨ i = ((6 : Nat) : Int) := by omega
  rcases h with rfl | rfl | rfl | rfl | rfl | rfl | rfl
  · exact ⟨0, atI_nat rfl, by decide, by decide⟩
  · exact ⟨0, atI_nat rfl, by decide, by decide⟩
  · exact ⟨0, atI_nat rfl, by decide, by decide⟩
  · exact ⟨1, atI_nat rfl, by decide, by decide⟩
  · exact ⟨2, atI_nat rfl, by decide, by decide⟩
  · exact ⟨3, atI_nat rfl, by decide, by decide⟩
  · exact ⟨4, atI_nat rfl, by decide, by decide⟩
section
variable {P : Program} {w : World} {K : PySem.W.Frag} {mg : Str → Option Value} {base : Heap} {f fN fL fG : Addr} {fd fdN fdL fdG : FuncData}
theorem ok_tree (F : Fun K "_law_tree" "_law_tree" sTree f fd)
    (GN : FnOk P w K mg base CX0 1 fN fdN ["_law_deck_here", "_law_many"] spNext) (bN : Binds K fdN ["_law_deck_here", "_law_many"] []) (kN : PySem.W.keepIn K (.ref fN) = true) (gN : mg "_law_next" = some (.ref fN))
    (GL : FnOk P w K mg base CX0 2 fL fdL ["_law_deck_here", "_law_size"] spLett) (bL : Binds K fdL ["_law_deck_here", "_law_size"] []) (kL : PySem.W.keepIn K (.ref fL) = true) (gL : mg "_law_letters" = some (.ref fL))
    (GG : FnOk P w K mg base CX0 28 fG fdG ["_law_deck_here", "_law_size", "_law_way", "_law_letters_here"] (spGrown 27)) (bG : Binds K fdG ["_law_deck_here", "_law_size", "_law_way", "_law_letters_here"] []) (kG : PySem.W.keepIn K (.ref fG) = true) (gG : mg "_law_grown" = some (.ref fG)) :
    FnOk P w K mg base CX0 29 f fd ["_law_deck_here", "_law_limit"] spTree := by
  refine F.ok scTree (fun vs H Q E h => ?_) (fun cdv A outer s H vs Q E hr h => ?_)
  · obtain ⟨D, n, m, rfl, _⟩ := h
    rfl
  obtain ⟨D, n, lim, rfl, d, hn, l0, l1, q⟩ := h
  have hr1 : Room 1 (A.deeper (envOfC "_law_tree" (defScope sTree) s.heap.objs.size f cdv)) := hr.mono (by omega)
  have hr2 : Room 2 (A.deeper (envOfC "_law_tree" (defScope sTree) s.heap.objs.size f cdv)) := hr.mono (by omega)
  refine ⟨_, pss_cons (ps_par (i := 2) (j := 3) (by rfl) scTree.nd rfl rfl (by decide) rfl rfl (pa_cons (pe_op op_add pe_int (pe_call GN hr1 rfl gN kN bN .nil pass0 (pa_cons (pv 0) (pa_cons (pv 1) pa_nil))))
      (pa_cons (pe_ix ix_list (pe_lst (pa_cons pe_int (pa_cons pe_int (pa_cons pe_int (pa_cons pe_int (pa_cons pe_int (pa_cons pe_int (pa_cons pe_int pa_nil)))))))) (pe_call GN hr1 rfl gN kN bN .nil pass0 (pa_cons (pv 0) (pa_cons pe_int pa_nil))) (fun _ _ => rfl)) pa_nil)) (by rfl))
    (pss_one (ps_ret (pe_call GG hr rfl gG kG bG .nil pass0 (pa_cons (pv 0) (pa_cons (pv 2) (pa_cons (pv 3) (pa_cons (pe_call GL hr2 rfl gL kL bL .nil pass0 (pa_cons (pv 0) (pa_cons (pv 2) pa_nil))) pa_nil))))))), ?_⟩
  refine ⟨_, rfl, _, rfl, D, n, _, rfl, d, by omega, by omega, by omega, fun i H1 i0 i1 d1 s1 => ?_⟩
  refine ⟨_, _, rfl, rfl, (by show 7 ≤ sizeLine; decide), fun l nl => ?_⟩
  have q1 := same_new nl (.lst [V.int 0, V.int 0, V.int 0, V.int 1, V.int 2, V.int 3, V.int 4])
  refine ⟨_, rfl, D, n + 1, 7, rfl, d1.same q1, by omega, by decide, by decide, fun j H2 j0 j1 d2 s2 => ?_⟩
  obtain ⟨z, hz, z0, z4⟩ := pick_way j0 j1
  refine ⟨l, _, _, _, rfl, rfl, SqL.of (s2.at (d1.new nl) upd_same), hz, ?_⟩
  refine ⟨_, _, rfl, ?_⟩
  have ei : (1 : Int) + i = (((1 + i).toNat : Nat) : Int) := by omega
  have s3 := s1.trans ((SameD.of q1).trans s2)
  refine ⟨_, rfl, _, rfl, _, rfl, _, rfl, _, rfl, D, n + 2, (1 + i).toNat, by rw [← ei]; rfl, d2, by omega, by omega, by omega, fun p xs n3 H3 d3 hn3 s4 ep hxl hxs op => ?_⟩
  refine ⟨D, n3, z, p, xs, by rw [hxl, ← ei]; rfl, d3, by omega, by omega, by omega, z0, z4, ep, op, fun v t c' H4 d4 hc' s5 at4 bt => ?_⟩
  have hs := t.btw_len
  rw [bt] at hs
  exact q v t c' H4 d4 (by omega) (s3.trans (s4.trans s5)) at4 (by omega) (by omega) (by rw [bt]; exact hxs)
end
/-! ### a def entered at one caller -/
theorem enter_def {P : Program} {w : World} {K : PySem.W.Frag} {mg : Str → Option Value} {base : Heap} {f : Addr} {fd : FuncData} {N ps : List Str} {k : Nat} {x qual : Str} {st : Stmt} (F : Fun K x qual st f fd) (S : FnScope N ps (defScope st))
    {A : Around} {outer : List Env} {s : Shared} {H : Hp} {args : Args} {us : List Value} {vs : List V} {Q : VK} {E : XK}
    (room : Room (k + 1) A) (en : Env0 P w K mg base A outer s H) (bd : BindsTo s fd args (ps.zip us)) (rel : Vals vs us) (hln : vs.length = ps.length)
    (body : ∀ cdv : Value, Room k (A.deeper (envOfC qual (defScope st) s.heap.objs.size f cdv)) →
      ∃ t, PSs (cxOf CX0 P w K mg base N qual (defScope st) f cdv A outer s H E).nox (defBody st) t ∧ t { nx := fun _ H' => Q .non H', rt := Q } (start N vs) H) :
    codeAny (model P w) A (.call (.ref f) args) (CR CX0 outer P w H s Q E) s := by
  obtain ⟨oc, od, kV, doc, pm, an, cdv, ct, osl, rfl, look, code⟩ := F.ex
  have still : ∀ b o, base.get? b = some o → s.heap.get? b = some o := fun b o e => (en.bs b o e).1
  have inK : K.In s.heap := en.mod.kin.keeps still
  have noL : s.heap.NoLimit := en.mod.nolimit.keeps still
  have kinds : ∀ y ∈ ps.zip us, (defScope st).names.lookup y.1 = some .local ∨
      ((defScope st).names.lookup y.1 = some .cell ∧ ((cellsFrom (s.heap.objs.size + 1) (defScope st).names []).lookup y.1).isSome = true) := by
    rintro ⟨nm, u⟩ hy
    cases S.par nm (List.of_mem_zip hy).1 with
    | inl z => exact .inl z
    | inr z => exact .inr ⟨z, PySem.W.cellsFrom_some _ _ _ (.inl z)⟩
  have step := codeAny_call_function (prog := P) (w := w) (A := A) (s := s) room.depth (inK _ _ look) rfl S.co S.gen rfl (PySem.W.codeRec_of inK code)
    (R := CR CX0 outer P w H s Q E) (args := args)
  refine step (bd _ _ _ _ ?_)
  refine wpAny_newFunctionEnv_cells S.kind kinds ?_
  intro env isEnv s1 inC
  subst isEnv
  refine ⟨noL.keeps inC.toInCall.keep, codeAny_func ?_⟩
  obtain ⟨t, ht, hq⟩ := body cdv (room.deeper _)
  have J : Inv (cxOf CX0 P w K mg base N qual (defScope st) f cdv A outer s H E) [] (start N vs) H s1 := inv_start S room.hd en hln rel inC
  refine wpAny_mono (ht.nox.run [] s1 (start N vs) H _ J hq) ?_ ?_
  · intro fl s' done
    cases fl with
    | ret u =>
      obtain ⟨v, σ', H', I', rv, qv⟩ := done
      exact ⟨v, H', I'.os, I'.bare, I'.base, I'.hok, rv, qv⟩
    | next =>
      obtain ⟨σ', H', I', qv⟩ := done
      exact ⟨V.non, H', I'.os, I'.bare, I'.base, I'.hok, rfl, qv⟩
    | brk => exact done.elim fun _ z => z.elim fun _ z => z.2.elim
    | cont => exact done.elim fun _ z => z.elim fun _ z => z.2.elim
  · intro e s' z
    exact z
/-! ### the law's own call -/
theorem law_at {P : Program} {w : World} {K : PySem.W.Frag} {mg mb : Str → Option Value} {fa a : Addr} {s₁ : Shared} {vs : List Value} {ns : List Int}
    (inK : K.In s₁.heap) (gl : s₁.heap.Ns mainGlobals mg) (bl : s₁.heap.Ns builtinsNs mb) (isB : ∀ x : Str, x ≠ "__name__" → mb x = bootBuiltins x) (lim : s₁.heap.NoLimit) (gens : s₁.gens = #[])
    (obj : s₁.heap.get? a = some { cls := .type "list", data := .seq vs.toArray }) (hints : IntsAre vs ns) (few : ns.length ≤ sizeLine)
    (run : ∀ (base : Heap) (H : Hp), K.In base → base.Ns mainGlobals mg → Env0 P w K mg base callerA [] s₁ H → SqL K H a (ns.map V.int) →
      codeAny (model P w) callerA (.call (.ref fa) ⟨[.ref a], []⟩) (CR CX0 [] P w H s₁ (fun v _ => v = .bl true) fun _ _ _ => False) s₁) :
    codeAny (model P w) callerA (.call (.ref fa) ⟨[.ref a], []⟩) (fun r s' => r = .ok (.ret (.bool true)) ∧ OldK s₁.heap s'.heap ∧ s'.os = s₁.os ∧ AllBare s'.gens) s₁ := by
  have rel := vals_ints hints
  have lens := hints.length
  have found : ∃ H : Hp, Only H ∧ SqL K H a (ns.map V.int) ∧ HOk P w H s₁.heap ∧ (∀ b u, H b = some u → b = a ∧ K.lookup a = none) := by
    cases inText : K.lookup a with
    | some o =>
      have same := inK a o inText
      rw [obj] at same
      cases same
      have never : ∀ (u : HO), (none : Option HO) ≠ some u := fun u z => by cases z
      refine ⟨fun _ => none, fun _ => .inl rfl, ?_, (fun b u z => (never u z).elim), (fun b u z => (never u z).elim)⟩
      refine .inr ⟨_, vs.toArray, _, inText, rfl, rfl, rfl, ?_, ?_⟩
      · rw [List.size_toArray, lens]
        exact few
      · rw [List.toList_toArray]
        exact rel
    | none =>
      let here : HO := .frz { cls := .type "list", data := .seq vs.toArray } (.lst (ns.map V.int))
      have only : ∀ b u, (if b = a then some here else none) = some u → b = a ∧ u = here := fun b u z => by
        by_cases hb : b = a
        · rw [if_pos hb] at z
          exact ⟨hb, (Option.some.inj z).symm⟩
        · rw [if_neg hb] at z
          cases z
      refine ⟨fun b => if b = a then some here else none, fun b => ?_, .inl (.inr ⟨{ cls := .type "list", data := .seq vs.toArray }, if_pos rfl⟩), fun b u z => ?_, fun b u z => ⟨(only b u z).1, rfl⟩⟩
      · by_cases hb : b = a
        · exact .inr ⟨_, _, if_pos hb⟩
        · exact .inl (if_neg hb)
      · obtain ⟨rfl, rfl⟩ := only b u z
        exact ⟨obj, by rw [List.length_map]; exact few, vs, _, rel, obj⟩
  obtain ⟨H, hO, hS, hok, hA⟩ := found
  have under : ∀ {b : Addr} {o : Obj}, s₁.heap.get? b = some o → H b = none → (hidT s₁.heap H).get? b = some o := fun e z => hidT_get e z
  have notDict : ∀ {b : Addr} {o : Obj} {es : Array DictEntry} {ep : Nat}, s₁.heap.get? b = some o → o.data = .dict es ep → H b = none := by
    intro b o es ep e isD
    cases z : H b with
    | none => rfl
    | some u =>
      obtain ⟨rfl, _⟩ := hA b u z
      rw [obj] at e
      cases e
      cases isD
  have ns' : ∀ {b : Addr} {m : Str → Option Value}, s₁.heap.Ns b m → (hidT s₁.heap H).Ns b m := by
    rintro b m ⟨o, es, ep, e, isD, r⟩
    exact ⟨o, es, ep, under e (notDict e isD), isD, r⟩
  have inK' : K.In (hidT s₁.heap H) := by
    intro b o e
    refine under (inK b o e) ?_
    cases z : H b with
    | none => rfl
    | some u =>
      obtain ⟨rfl, no⟩ := hA b u z
      rw [no] at e
      cases e
  obtain ⟨mc, l1, l2⟩ := lim
  have env : Env0 P w K mg (hidT s₁.heap H) callerA [] s₁ H :=
    ⟨rfl, ⟨inK', ns' gl, ⟨mb, ns' bl, isB⟩, ⟨mc, ns' l1, l2⟩⟩, fun _ _ e => of_hidT e, Nat.le_of_eq (hidT_size _ _), trivial, (fun _ hb => nomatch hb), hok, .of_eq gens⟩
  refine codeAny_mono (run _ H inK' (ns' gl) env hS) ?_
  intro r s' h
  cases r with
  | error e => exact h.elim
  | ok fl =>
    cases fl with
    | next => exact h.elim
    | brk => exact h.elim
    | cont => exact h.elim
    | ret u =>
      obtain ⟨v, H', os, bare, un, hok', rv, isT⟩ := h
      subst isT
      cases rv
      refine ⟨rfl, OldK.of_keep ?_, os, bare⟩
      intro b o e
      cases z : H b with
      | none => exact un.keep b o e z (fun y => nomatch y) (fun y => nomatch y)
      | some u =>
        rcases hO b with y | ⟨ob, xs, y⟩
        · rw [z] at y
          cases y
        · have y2 := un.frzs b ob _ y
          obtain ⟨e1, _⟩ := hok b _ y
          obtain ⟨e2, _⟩ := hok' b _ y2
          rw [e] at e1
          cases e1
          exact e2
theorem T.data_deep : ∀ t : T, t.data.depth = t.deep
  | .nil => by simp only [T.data, PyData.depth, T.deep]
  | .node l x r => by
    have h1 := l.data_deep
    have h2 := r.data_deep
    simp only [T.data, PyData.depth, PyData.depthAll, T.deep, h1, h2]
    omega
def T.lt (t : T) : Prop := ∀ x ∈ t.btw, Ltr x
theorem strOk_ltr {x : Str} (h : Ltr x) : PyData.strOk x = true := by
  obtain ⟨c, h1, h2, rfl⟩ := h
  show (#[c] : Array Nat).all (· < 0x110000) = true
  rw [← Array.all_toList]
  show (decide (c < 0x110000) && true) = true
  rw [Bool.and_true, decide_eq_true_eq]
  omega
theorem T.lt_node {l r : T} {x : Str} (h : (T.node l x r).lt) : l.lt ∧ Ltr x ∧ r.lt :=
  ⟨fun y hy => h y (List.mem_append_left _ hy), h x (List.mem_append_right _ (List.mem_cons_self ..)), fun y hy => h y (List.mem_append_right _ (List.mem_cons_of_mem _ hy))⟩
theorem T.can : ∀ t : T, t.lt → t.data.canLay0 = true
  | .nil, _ => by simp only [T.data, PyData.canLay0]
  | .node l x r, h => by
    obtain ⟨h1, h2, h3⟩ := T.lt_node h
    simp only [T.data, PyData.canLay0, PyData.canLayAll0, l.can h1, r.can h3, strOk_ltr h2, Bool.and_self]
/-! ### repr of data -/
theorem call_reprD {X : Cx} (hg : X.A.guards = some []) (hu : X.A.units + 64 < cLine) : CallR X (.builtin "repr") (fun xs H Q => ∃ (a : Addr) (d : PyData), xs = [.ref a] ∧ Dp X.K H (.ref a) d ∧ d.showable = true ∧ d.hasDict = false ∧ d.depth ≤ 60 ∧ d.shown.length ≤ sizeLine ∧ Q (.str d.shown) H) := by
  intro pins s σ H xs us Q I r h
  obtain ⟨a, d, rfl, hd, hs, hn, hz, hl, q⟩ := h
  obtain ⟨u, rfl, rx⟩ := vals1 r
  cases rx
  obtain ⟨as, rd⟩ := Dp.reads I d _ _ hd rfl
  exact repr_of_reads' rd hs (PyData.noDict_hsm hn) hg (by omega) (fun _ _ e => e) (fun h' u tk hk => ⟨.str d.shown, H, I.kept (t' := tk) hk, ⟨u, rfl⟩, q⟩) hl
theorem T.showable : ∀ t : T, t.data.showable = true
  | .nil => by simp only [T.data, PyData.showable]
  | .node l x r => by simp only [T.data, PyData.showable, PyData.showableAll, l.showable, r.showable, Bool.and_self]
theorem T.noDict : ∀ t : T, t.data.hasDict = false
  | .nil => by simp only [T.data, PyData.hasDict]
  | .node l x r => by simp only [T.data, PyData.hasDict, PyData.hasDictAll, l.noDict, r.noDict, Bool.or_self]
theorem ltr_repr {x : Str} (h : Ltr x) : (reprText x).length ≤ 12 := by
  obtain ⟨c, h1, h2, rfl⟩ := h
  have := StrLaws.reprText_len ⟨#[c]⟩ (fun z hz => by
    have : z = c := by simpa using hz
    rw [this]
    exact Nat.lt_of_le_of_lt h2 (by decide))
  exact this
theorem T.shown_len : ∀ t : T, t.lt → t.data.shown.length ≤ 24 * t.size + 4
  | .nil, _ => by
    simp only [T.data, PyData.shown, T.size]
    decide +kernel
  | .node l x r, h => by
    obtain ⟨h1, h2, h3⟩ := T.lt_node h
    have a1 := l.shown_len h1
    have a2 := ltr_repr h2
    have a3 := r.shown_len h3
    simp only [T.data, PyData.shown, PyData.shownAll, T.size]
    refine Nat.le_trans (fmt_text _) ?_
    rw [piled_cons, piled_cons, piled_cons]
    have z : piled [] = 0 := rfl
    omega
theorem T.nar_data : ∀ t : T, nar t.data = true
  | .nil => by simp only [T.data, nar]
  | .node l x r => by
    simp only [T.data, nar, narAll, l.nar_data, r.nar_data, Bool.and_self, Bool.and_true, List.length_cons, List.length_nil]
    exact decide_eq_true (by omega)
theorem T.mir_deep : ∀ t : T, t.mir.deep = t.deep
  | .nil => rfl
  | .node l _ r => by
    have h1 := l.mir_deep
    have h2 := r.mir_deep
    show 1 + max r.mir.deep l.mir.deep = 1 + max l.deep r.deep
    omega
/-! ### texts of trees -/
def T.isNil : T → Bool
  | .nil => true
  | .node _ _ _ => false
def T.cs : T → List Nat
  | .nil => [45]
  | .node l x r => if (l.isNil && r.isNil) = true then x.cps.toList else x.cps.toList ++ 40 :: (l.cs ++ 44 :: (r.cs ++ [41]))
def tx (l : List Nat) : Str := ⟨l.toArray⟩
theorem tx_len (l : List Nat) : (tx l).length = l.length := rfl
theorem tx_app (a b : List Nat) : tx a ++ tx b = tx (a ++ b) := by
  show (⟨(tx a).cps ++ (tx b).cps⟩ : Str) = _
  simp [tx]
theorem tx_of (x : Str) : tx x.cps.toList = x := rfl
theorem tx_inj {a b : List Nat} (h : tx a = tx b) : a = b := congrArg (fun z : Str => z.cps.toList) h
def T.text (t : T) : Str := tx t.cs
theorem isNil_eq {t : T} : t.isNil = true ↔ t = .nil := by
  cases t with
  | nil => exact ⟨fun _ => rfl, fun _ => rfl⟩
  | node l x r => exact ⟨(fun h => nomatch h), (fun h => nomatch h)⟩
theorem cs_leaf (x : Str) : (T.node .nil x .nil).cs = x.cps.toList := rfl
theorem cs_node {l r : T} (x : Str) (h : ¬ (l = .nil ∧ r = .nil)) : (T.node l x r).cs = x.cps.toList ++ 40 :: (l.cs ++ 44 :: (r.cs ++ [41])) := by
  show (if (l.isNil && r.isNil) = true then _ else _) = _
  rw [if_neg]
  intro z
  rw [Bool.and_eq_true, isNil_eq, isNil_eq] at z
  exact h z
theorem ltr_len {x : Str} (h : Ltr x) : x.cps.toList.length = 1 := by
  obtain ⟨c, _, _, rfl⟩ := h
  rfl
theorem cs_len : ∀ t : T, t.lt → t.cs.length ≤ 6 * t.size + 1
  | .nil, _ => Nat.le_refl _
  | .node l x r, h => by
    obtain ⟨h1, h2, h3⟩ := T.lt_node h
    have a1 := cs_len l h1
    have a2 := cs_len r h3
    have a3 := ltr_len h2
    by_cases z : l = .nil ∧ r = .nil
    · obtain ⟨rfl, rfl⟩ := z
      rw [cs_leaf, a3]
      exact Nat.le_add_left ..
    · rw [cs_node x z]
      show _ ≤ 6 * (l.size + 1 + r.size) + 1
      simp only [List.length_append, List.length_cons, List.length_nil]
      omega
/-- the text is read in one way -/
theorem cs_inj : ∀ (t : T), t.lt → ∀ (u : T), u.lt → ∀ R S : List Nat, R.head? ≠ some 40 → S.head? ≠ some 40 → t.cs ++ R = u.cs ++ S → t = u ∧ R = S
  | .nil, _, .nil, _, R, S, _, _, e => ⟨rfl, by injection e⟩
  | .nil, _, .node l x r, h, R, S, _, _, e => by
    obtain ⟨_, ⟨c, c1, c2, rfl⟩, _⟩ := T.lt_node h
    exfalso
    by_cases z : l = .nil ∧ r = .nil
    · obtain ⟨rfl, rfl⟩ := z
      injection e with e1 _
      omega
    · rw [cs_node _ z] at e
      injection e with e1 _
      omega
  | .node l x r, h, .nil, _, R, S, _, _, e => by
    obtain ⟨_, ⟨c, c1, c2, rfl⟩, _⟩ := T.lt_node h
    exfalso
    by_cases z : l = .nil ∧ r = .nil
    · obtain ⟨rfl, rfl⟩ := z
      injection e with e1 _
      omega
    · rw [cs_node _ z] at e
      injection e with e1 _
      omega
  | .node l x r, h, .node l' x' r', h', R, S, hR, hS, e => by
    obtain ⟨h1, ⟨c, c1, c2, rfl⟩, h3⟩ := T.lt_node h
    obtain ⟨h1', ⟨c', c1', c2', rfl⟩, h3'⟩ := T.lt_node h'
    by_cases z : l = .nil ∧ r = .nil
    · obtain ⟨rfl, rfl⟩ := z
      by_cases z' : l' = .nil ∧ r' = .nil
      · obtain ⟨rfl, rfl⟩ := z'
        injection e with e1 e2
        exact ⟨by rw [e1], e2⟩
      · rw [cs_node _ z'] at e
        injection e with e1 e2
        exact absurd (by rw [show R = _ from e2]; rfl) hR
    · by_cases z' : l' = .nil ∧ r' = .nil
      · obtain ⟨rfl, rfl⟩ := z'
        rw [cs_node _ z] at e
        injection e with e1 e2
        exact absurd (by rw [show S = _ from e2.symm]; rfl) hS
      · rw [cs_node _ z, cs_node _ z'] at e
        have e' : c :: 40 :: (l.cs ++ (44 :: (r.cs ++ (41 :: R)))) = c' :: 40 :: (l'.cs ++ (44 :: (r'.cs ++ (41 :: S)))) := by
          simpa using e
        injection e' with e1 e2
        injection e2 with _ e3
        obtain ⟨rfl, e4⟩ := cs_inj l h1 l' h1' _ _ (by simp) (by simp) e3
        injection e4 with _ e5
        obtain ⟨rfl, e6⟩ := cs_inj r h3 r' h3' _ _ (by simp) (by simp) e5
        injection e6 with _ e7
        exact ⟨by rw [e1], e7⟩
theorem text_inj {t u : T} (ht : t.lt) (hu : u.lt) (h : t.text = u.text) : t = u :=
  (cs_inj t ht u hu [] [] (by simp) (by simp) (by rw [List.append_nil, List.append_nil]; exact tx_inj h)).1
theorem eqv_data : ∀ t u : T, PyData.eqv t.data u.data = true ↔ t = u
  | .nil, .nil => by simp [T.data, PyData.eqv]
  | .nil, .node l x r => by simp [T.data, PyData.eqv]
  | .node l x r, .nil => by simp [T.data, PyData.eqv]
  | .node l x r, .node l' x' r' => by
    have h1 := eqv_data l l'
    have h2 := eqv_data r r'
    simp only [T.data, PyData.eqv, PyData.eqvAll, Bool.and_eq_true, h1, h2, T.node.injEq]
    simp
theorem eqv_text {t u : T} (ht : t.lt) (hu : u.lt) : PyData.eqv t.data u.data = decide (V.str t.text = V.str u.text) := by
  by_cases h : t = u
  · subst h
    rw [(eqv_data t t).mpr rfl, decide_eq_true rfl]
  · have a : PyData.eqv t.data u.data = false := by
      cases e : PyData.eqv t.data u.data with
      | false => rfl
      | true => exact absurd ((eqv_data t u).mp e) h
    rw [a, decide_eq_false fun z => h (text_inj ht hu (V.str.inj z))]
section
variable {P : Program} {w : World} {K : PySem.W.Frag} {mg : Str → Option Value} {base : Heap} {f : Addr} {fd : FuncData}
/-! ### mirrored -/
def spMir (n : Nat) : Sp := fun vs H Q _ => ∃ (v : V) (t : T), vs = [v] ∧ TreeAt H v t ∧ t.deep < n ∧ ∀ H' v', Same H H' → TreeAt H' v' t.mir → Q v' H'
theorem ok_mir (F : Fun K "mirrored" "mirrored" s_mirrored f fd) (b : Binds K fd ["tree"] []) (g : mg "mirrored" = some (.ref f)) : ∀ n : Nat, FnOk P w K mg base CX0 n f fd ["tree"] (spMir n)
  | 0 => by
    have no : ∀ vs H Q E, ¬ spMir 0 vs H Q E := fun vs H Q E h => by
      obtain ⟨v, t, _, _, h1, _⟩ := h
      omega
    exact ⟨fun vs H Q E h => absurd h (no vs H Q E), fun A outer s H args us vs Q E _ _ _ _ h => absurd h (no vs H Q E)⟩
  | n + 1 => by
    have G := ok_mir F b g n
    refine F.ok sc_mirrored (fun vs H Q E h => ?_) (fun cdv A outer s H vs Q E hr h => ?_)
    · obtain ⟨v, t, rfl, _⟩ := h
      rfl
    obtain ⟨v, t, rfl, ht, hd, q⟩ := h
    refine ⟨_, pss_cons (ps_if (pt_cmpR op_isN (pv 0) pe_non (nomark _)) (pss_one (ps_ret pe_non)) pss_nil)
      (pss_cons (ps_asg (pv 0) (pg_tup rfl (pgs_cons (pg_name (i := 1) sc_mirrored.nd rfl (.inl rfl)) (pgs_cons (pg_name (i := 2) sc_mirrored.nd rfl (.inl rfl)) (pgs_cons (pg_name (i := 3) sc_mirrored.nd rfl (.inl rfl)) pgs_nil)))))
      (pss_one (ps_ret (pe_tup (pa_cons (pe_call G hr rfl g F.kp b .nil pass0 (pa_cons (pv 3) pa_nil)) (pa_cons (pv 2) (pa_cons (pe_call G hr rfl g F.kp b .nil pass0 (pa_cons (pv 1) pa_nil)) pa_nil))))))), ?_⟩
    rcases ht.inv with ⟨rfl, rfl⟩ | ⟨a, l, r, x, tl, tr, rfl, rfl, e, hl, hr'⟩
    · exact ⟨_, rfl, rfl, _, rfl, iteT (q H _ (Same.refl H) .nil)⟩
    · have hd' : 1 + max tl.deep tr.deep < n + 1 := hd
      refine ⟨_, rfl, rfl, _, rfl, iteF ?_⟩
      refine ⟨_, rfl, a, _, rfl, SqT.of e, rfl, l, _, rfl, .str x, _, rfl, r, _, rfl, rfl, ?_⟩
      refine ⟨r, rfl, r, tr, rfl, hr', by omega, fun H1 v1 s1 t1 => ?_⟩
      refine ⟨.str x, rfl, l, rfl, l, tl, rfl, hl.same s1, by omega, fun H2 v2 s2 t2 => ?_⟩
      refine ⟨(by show 3 ≤ sizeLine; decide), fun p hp => ?_⟩
      have s3 := same_new hp (.tup [v1, .str x, v2])
      exact q _ _ (s1.trans (s2.trans s3)) (.node upd_same (t1.same (s2.trans s3)) (t2.same s3))
end
/-! ### tree_text, side_text -/
theorem str_par1 : Str.ofString "(" = tx [40] := by decide +kernel
theorem str_par2 : Str.ofString ")" = tx [41] := by decide +kernel
theorem str_com : Str.ofString "," = tx [44] := by decide +kernel
def spText (n : Nat) : Sp := fun vs H Q _ => ∃ (v : V) (t : T), vs = [v] ∧ TreeAt H v t ∧ t ≠ .nil ∧ t.lt ∧ t.size ≤ 60 ∧ t.deep ≤ n ∧ Q (.str t.text) H
def spSide (n : Nat) : Sp := fun vs H Q _ => ∃ (v : V) (t : T), vs = [v] ∧ TreeAt H v t ∧ t.lt ∧ t.size ≤ 60 ∧ t.deep ≤ n ∧ Q (.str t.text) H
section
variable {P : Program} {w : World} {K : PySem.W.Frag} {mg : Str → Option Value} {base : Heap} {f : Addr} {fd : FuncData}
theorem ok_side (F : Fun K "side_text" "side_text" s_side_text f fd) {n k : Nat} (Dtree_text : Df P w K mg base k "tree_text" ["tree"] (spText n)) : FnOk P w K mg base CX0 (k + 1) f fd ["side"] (spSide n) := by
  refine F.ok sc_side_text (fun vs H Q E h => ?_) (fun cdv A outer s H vs Q E hr h => ?_)
  · obtain ⟨v, t, rfl, _⟩ := h
    rfl
  obtain ⟨v, t, rfl, hv, lt, ts, hn, q⟩ := h
  refine ⟨_, (pss_one (ps_ret (pe_ifExp (pt_cmpR op_isN (pv 0) pe_non (nomark _)) pe_str (pe_call Dtree_text.ok (hr.mono (by omega)) rfl Dtree_text.g Dtree_text.kp Dtree_text.b .nil pass0 (pa_cons (pv 0) pa_nil))))), ?_⟩
  rcases hv.inv with ⟨rfl, rfl⟩ | ⟨a, l, r, x, tl, tr, rfl, rfl, ea, hl, hr'⟩
  · refine ⟨_, rfl, rfl, _, rfl, iteT ?_⟩
    exact q
  · refine ⟨_, rfl, rfl, _, rfl, iteF ?_⟩
    exact ⟨_, rfl, _, _, rfl, hv, (fun z => nomatch z), lt, ts, hn, q⟩
theorem ok_text0 (F : Fun K "tree_text" "tree_text" s_tree_text f fd) {n k : Nat} (Dside_text : Df P w K mg base k "side_text" ["side"] (spSide n)) : FnOk P w K mg base CX0 (k + 1) f fd ["tree"] (spText (n + 1)) := by
  refine F.ok sc_tree_text (fun vs H Q E h => ?_) (fun cdv A outer s H vs Q E hr h => ?_)
  · obtain ⟨v, t, rfl, _⟩ := h
    rfl
  obtain ⟨v, t, rfl, hv, tn, lt, ts, hn, q⟩ := h
  refine ⟨_, (pss_cons (ps_asg (pv 0) (pg_tup rfl (pgs_cons (pg_name (i := 1) sc_tree_text.nd rfl (.inl rfl)) (pgs_cons (pg_name (i := 2) sc_tree_text.nd rfl (.inl rfl)) (pgs_cons (pg_name (i := 3) sc_tree_text.nd rfl (.inl rfl)) pgs_nil)))))
    (pss_cons (ps_if (PW.pt (pw_and (pt_cmpR op_isN (pv 1) pe_non (nomark _)) (pw_and1 (pt_cmpR op_isN (pv 3) pe_non (nomark _)))))
      (pss_one (ps_ret (pv 2))) pss_nil)
    (pss_one (ps_ret (pe_joined (PJ.cons (pe_fmt (pv 2)) (PJ.cons pe_str (PJ.cons (pe_fmt (pe_call Dside_text.ok (hr.mono (by omega)) rfl Dside_text.g Dside_text.kp Dside_text.b .nil pass0 (pa_cons (pv 1) pa_nil))) (PJ.cons pe_str (PJ.cons (pe_fmt (pe_call Dside_text.ok (hr.mono (by omega)) rfl Dside_text.g Dside_text.kp Dside_text.b .nil pass0 (pa_cons (pv 3) pa_nil))) (PJ.cons pe_str PJ.nil))))))))))), ?_⟩
  rcases hv.inv with ⟨rfl, rfl⟩ | ⟨a, l, r, x, tl, tr, rfl, rfl, ea, hl, hr'⟩
  · exact absurd rfl tn
  · refine ⟨_, rfl, a, _, rfl, SqT.of ea, rfl, l, _, rfl, .str x, _, rfl, r, _, rfl, rfl, ?_⟩
    obtain ⟨lt1, lt2, lt3⟩ := T.lt_node lt
    have hd : 1 + max tl.deep tr.deep ≤ n + 1 := hn
    have hz : tl.size + 1 + tr.size ≤ 60 := ts
    have c1 := cs_len tl lt1
    have c2 := cs_len tr lt3
    have c3 := ltr_len lt2
    have fin : ∀ (hnn : ¬ (tl = .nil ∧ tr = .nil)), Q (.str (((((Str.empty ++ x) ++ Str.ofString "(") ++ tl.text) ++ Str.ofString ",") ++ tr.text ++ Str.ofString ")")) H := fun hnn => by
      have e : ((((Str.empty ++ x) ++ Str.ofString "(") ++ tl.text) ++ Str.ofString ",") ++ tr.text ++ Str.ofString ")" = (T.node tl x tr).text := by
        unfold T.text
        rw [cs_node x hnn, show Str.empty = tx [] from rfl, str_par1, str_com, str_par2, ← tx_of x, tx_app, tx_app, tx_app, tx_app, tx_app, tx_app]
        simp [tx]
      rw [e]
      exact q
    have ln : ∀ l : List Nat, l.length ≤ 1000 → (tx l).length ≤ sizeLine := fun l h => small h
    have fmt : ∀ (hnn : ¬ (tl = .nil ∧ tr = .nil)), tRet (fun σ H Q => tJs [tFmt (tVar 2), tC (.str (Str.ofString "(")), tFmt (tCall (spSide n) [] E0 (tCons (tVar 1) tNil)), tC (.str (Str.ofString ",")), tFmt (tCall (spSide n) [] E0 (tCons (tVar 3) tNil)), tC (.str (Str.ofString ")"))] Str.empty σ H fun out H1 => Q (.str out) H1) { nx := fun x H' => Q V.non H', rt := Q } [some (.ref a), some l, some (.str x), some r] H := fun hnn => by
      have f := fin hnn
      rw [show Str.empty = tx [] from rfl, str_par1, str_com, str_par2] at f ⊢
      rw [← tx_of x] at f ⊢
      unfold T.text at f
      refine ⟨_, rfl, .inl ⟨_, rfl, ln _ (by omega), _, rfl, by rw [tx_app]; exact ln _ (by rw [List.nil_append]; omega), ?_⟩⟩
      refine ⟨_, rfl, by rw [tx_app, tx_app]; exact ln _ (by simp only [List.length_append, List.length_cons, List.length_nil]; omega), ?_⟩
      refine ⟨_, rfl, l, tl, rfl, hl, lt1, by omega, by omega, .inl ⟨_, rfl, ln _ (by omega), _, rfl, by unfold T.text; rw [tx_app, tx_app, tx_app]; exact ln _ (by simp only [List.length_append, List.length_cons, List.length_nil]; omega), ?_⟩⟩
      refine ⟨_, rfl, by unfold T.text; rw [tx_app, tx_app, tx_app, tx_app]; exact ln _ (by simp only [List.length_append, List.length_cons, List.length_nil]; omega), ?_⟩
      refine ⟨_, rfl, r, tr, rfl, hr', lt3, by omega, by omega, .inl ⟨_, rfl, ln _ (by omega), _, rfl, by unfold T.text; rw [tx_app, tx_app, tx_app, tx_app, tx_app]; exact ln _ (by simp only [List.length_append, List.length_cons, List.length_nil]; omega), ?_⟩⟩
      refine ⟨_, rfl, by unfold T.text; rw [tx_app, tx_app, tx_app, tx_app, tx_app, tx_app]; exact ln _ (by simp only [List.length_append, List.length_cons, List.length_nil]; omega), ?_⟩
      exact f
    rcases hl.inv with ⟨rfl, rfl⟩ | ⟨a1, l1, r1, x1, tl1, tr1, rfl, rfl, ea1, hl1, hr1⟩
    · refine ⟨_, rfl, rfl, _, rfl, iteT ?_⟩
      rcases hr'.inv with ⟨rfl, rfl⟩ | ⟨a2, l2, r2, x2, tl2, tr2, rfl, rfl, ea2, hl2, hr2⟩
      · refine ⟨_, rfl, rfl, _, rfl, iteT ?_⟩
        exact ⟨_, rfl, q⟩
      · refine ⟨_, rfl, rfl, _, rfl, iteF ?_⟩
        exact fmt (fun z => nomatch z.2)
    · refine ⟨_, rfl, rfl, _, rfl, iteF ?_⟩
      exact fmt (fun z => nomatch z.1)
theorem ok_texts {f1 f2 : Addr} {fd1 fd2 : FuncData} (F1 : Fun K "tree_text" "tree_text" s_tree_text f1 fd1) (b1 : Binds K fd1 ["tree"] []) (g1 : mg "tree_text" = some (.ref f1)) (F2 : Fun K "side_text" "side_text" s_side_text f2 fd2) (b2 : Binds K fd2 ["side"] []) (g2 : mg "side_text" = some (.ref f2)) :
    ∀ n : Nat, FnOk P w K mg base CX0 (2 * n) f1 fd1 ["tree"] (spText n)
  | 0 => by
    have no : ∀ vs H Q E, ¬ spText 0 vs H Q E := fun vs H Q E h => by
      obtain ⟨v, t, _, _, tn, _, _, h1, _⟩ := h
      cases t with
      | nil => exact tn rfl
      | node l x r =>
        have h2 : 1 + max l.deep r.deep ≤ 0 := h1
        omega
    exact ⟨fun vs H Q E h => absurd h (no vs H Q E), fun A outer s H args us vs Q E _ _ _ _ h => absurd h (no vs H Q E)⟩
  | n + 1 => ok_text0 F1 (n := n) (k := 2 * n + 1) ⟨f2, fd2, ok_side F2 ⟨f1, fd1, ok_texts F1 b1 g1 F2 b2 g2 n, b1, F1.kp, g1⟩, b2, F2.kp, g2⟩
end
/-! ### the table of generators: what sleeps is not touched -/
def gFroz : GenState → GenState
  | .suspended _ l c p fs cl => .suspended (fun _ => .unsupported "asleep") l c p fs cl
  | x => x
def gSlp : GenState → Bool
  | .suspended .. => true
  | _ => false
def NoZ (Z : Nat → Prop) (fs : List Frame) : Prop := ∀ g k l c p, Frame.gen g k l c p ∈ fs → ¬ Z g
def OkSt (Z : Nat → Prop) (x : GenState) : Prop := ∀ k l c p fs cl, x = .suspended k l c p fs cl → NoZ Z fs
/-- g₀: the table where the sleepers (Z) are cut off; G: they themselves -/
structure Asleep (Z : Nat → Prop) (G : Nat → GenState) (g₀ g : Array GenState) : Prop where
  size : g₀.size = g.size
  out : ∀ i, ¬ Z i → g₀[i]? = g[i]?
  sl : ∀ i, Z i → g[i]? = some (G i) ∧ g₀[i]? = some (gFroz (G i)) ∧ gSlp (G i) = true
  ok : ∀ i x, ¬ Z i → g[i]? = some x → OkSt Z x
theorem no_unsup {M : Model} {Γ : PySem.Ctx} {p : Pos} {what : String} {fs : List Frame} {s s' : Shared} {e : End} (h : Runs M Γ p (.unsupported what) fs s e s') : False := by
  cases h with
  | segRet h _ => cases h
  | segGen h _ => cases h
  | segSuspOut _ h => cases h
  | segSuspGen _ h _ _ => cases h
theorem seen_froz (x : GenState) : (gFroz x).seen = x.seen := by cases x <;> rfl
section
variable {Z : Nat → Prop} {G : Nat → GenState} {g₀ g : Array GenState}
theorem Asleep.seen (a : Asleep Z G g₀ g) {i : Nat} {x : GenState} (h : g₀[i]? = some x) : ∃ y, g[i]? = some y ∧ y.seen = x.seen := by
  by_cases z : Z i
  · obtain ⟨h1, h2, _⟩ := a.sl i z
    rw [h2] at h
    cases h
    exact ⟨_, h1, (seen_froz _).symm⟩
  · exact ⟨x, by rw [← a.out i z]; exact h, rfl⟩
theorem Asleep.awake (a : Asleep Z G g₀ g) {i : Nat} {x : GenState} (h : g₀[i]? = some x) (n : gSlp x = false) : ¬ Z i ∧ g[i]? = some x := by
  have z : ¬ Z i := fun z => by
    obtain ⟨_, h2, h3⟩ := a.sl i z
    rw [h2] at h
    cases h
    revert n h3
    cases G i <;> simp [gFroz, gSlp]
  exact ⟨z, by rw [← a.out i z]; exact h⟩
theorem Asleep.put (a : Asleep Z G g₀ g) {i : Nat} (z : ¬ Z i) {x : GenState} (ok : OkSt Z x) : Asleep Z G (g₀.setIfInBounds i x) (g.setIfInBounds i x) := by
  refine ⟨by simp [a.size], fun j hj => ?_, fun j hj => ?_, fun j y hj h => ?_⟩
  · by_cases e : j = i
    · subst e
      rw [Array.getElem?_setIfInBounds_self, Array.getElem?_setIfInBounds_self, a.size]
    · rw [Array.getElem?_setIfInBounds_ne (Ne.symm e), Array.getElem?_setIfInBounds_ne (Ne.symm e)]
      exact a.out j hj
  · have e : j ≠ i := fun e => z (e ▸ hj)
    rw [Array.getElem?_setIfInBounds_ne (Ne.symm e), Array.getElem?_setIfInBounds_ne (Ne.symm e)]
    exact a.sl j hj
  · by_cases e : j = i
    · subst e
      rw [Array.getElem?_setIfInBounds_self] at h
      split at h
      · cases h; exact ok
      · cases h
    · rw [Array.getElem?_setIfInBounds_ne (Ne.symm e)] at h
      exact a.ok j y hj h
theorem Asleep.push (a : Asleep Z G g₀ g) (c : Code) : Asleep Z G (g₀.push (.fresh c)) (g.push (.fresh c)) := by
  refine ⟨by simp [a.size], fun j hj => ?_, fun j hj => ?_, fun j y hj h => ?_⟩
  · rw [Array.getElem?_push, Array.getElem?_push, a.size, a.out j hj]
  · obtain ⟨h1, h2, h3⟩ := a.sl j hj
    refine ⟨?_, ?_, h3⟩
    · rw [Array.getElem?_push, if_neg (by have := (Array.getElem?_eq_some_iff.mp h1).1; omega)]
      exact h1
    · rw [Array.getElem?_push, if_neg (by have := (Array.getElem?_eq_some_iff.mp h2).1; omega)]
      exact h2
  · rw [Array.getElem?_push] at h
    split at h
    · cases h
      intro k l c p fs cl e
      cases e
    · exact a.ok j y hj h
end
theorem okSt_fin {Z : Nat → Prop} : OkSt Z .finished := fun _ _ _ _ _ _ e => by cases e
theorem okSt_run {Z : Nat → Prop} : OkSt Z .running := fun _ _ _ _ _ _ e => by cases e
def NoZE (Z : Nat → Prop) : End → Prop
  | .ret _ => True
  | .susp _ _ _ _ _ _ fs => NoZ Z fs
theorem okSt_end {Z : Nat → Prop} {e : End} (h : NoZE Z e) : OkSt Z e.genState := by
  cases e with
  | ret _ => exact okSt_fin
  | susp v g l k c p fs =>
    intro k' l' c' p' fs' cl' e
    cases e
    exact h
theorem noZ_nil {Z : Nat → Prop} : NoZ Z [] := fun _ _ _ _ _ h => by cases h
theorem NoZ.tail {Z : Nat → Prop} {F : Frame} {fs : List Frame} (h : NoZ Z (F :: fs)) : NoZ Z fs := fun g k l c p m => h g k l c p (List.mem_cons_of_mem _ m)
theorem NoZ.app {Z : Nat → Prop} {a b : List Frame} (h : NoZ Z a) (k : NoZ Z b) : NoZ Z (a ++ b) := fun g k' l c p m => by
  rcases List.mem_append.mp m with m | m
  · exact h g k' l c p m
  · exact k g k' l c p m
theorem noZ_split {Z : Nat → Prop} : ∀ {fs pre rest : List Frame} {g : Nat} {k : GenResult → Sem PySem.Fin} {c : Code} {p : Pos}, splitAtGen fs = some (pre, (g, k, c, p), rest) → NoZ Z fs → NoZ Z pre ∧ ¬ Z g ∧ NoZ Z rest
  | [], _, _, _, _, _, _, h, _ => by cases h
  | .gen g' k' l' c' p' :: fs, pre, rest, g, k, c, p, h, n => by
    cases h
    exact ⟨noZ_nil, n _ _ _ _ _ List.mem_cons_self, n.tail⟩
  | .ret k' h' g' l' c' p' kp' :: fs, pre, rest, g, k, c, p, h, n => by
    rw [splitAtGen_ret] at h
    cases hs : splitAtGen fs with
    | none => rw [hs] at h; cases h
    | some x =>
      obtain ⟨pre', b, rest'⟩ := x
      rw [hs] at h
      cases h
      obtain ⟨h1, h2, h3⟩ := noZ_split hs n.tail
      refine ⟨fun g k l c p m => ?_, h2, h3⟩
      rcases List.mem_cons.mp m with m | m
      · cases m
      · exact h1 g k l c p m
def wg (s : Shared) (g : Array GenState) : Shared := { s with gens := g }
/-- a run over the cut table is a run over the real one -/
theorem runs_awake {M : Model} {Z : Nat → Prop} {G : Nat → GenState} {Γ : PySem.Ctx} {p : Pos} {t : Sem PySem.Fin} {fs : List Frame} {s s' : Shared} {e : End} (h : Runs M Γ p t fs s e s') :
    ∀ g, Asleep Z G s.gens g → NoZ Z fs → ∃ g', Asleep Z G s'.gens g' ∧ NoZE Z e ∧ Runs M Γ p t fs (wg s g) e (wg s' g') := by
  induction h with
  | done => exact fun g a _ => ⟨g, a, trivial, .done⟩
  | raise => exact fun g a _ => ⟨g, a, trivial, .raise⟩
  | again hq _ ih => exact fun g a n => let ⟨g', a', z, r⟩ := ih g a n; ⟨g', a', z, .again hq r⟩
  | rule _ ih => exact fun g a n => let ⟨g', a', z, r⟩ := ih g a n; ⟨g', a', z, .rule r⟩
  | «at» _ ih => exact fun g a n => let ⟨g', a', z, r⟩ := ih g a n; ⟨g', a', z, .at r⟩
  | load ho _ ih => exact fun g a n => let ⟨g', a', z, r⟩ := ih g a n; ⟨g', a', z, .load ho r⟩
  | update ho _ ih => exact fun g a n => let ⟨g', a', z, r⟩ := ih g a n; ⟨g', a', z, .update ho r⟩
  | loadIfAlive _ ih => exact fun g a n => let ⟨g', a', z, r⟩ := ih g a n; ⟨g', a', z, .loadIfAlive r⟩
  | point _ ih => exact fun g a n => let ⟨g', a', z, r⟩ := ih g a n; ⟨g', a', z, .point r⟩
  | alloc _ ih => exact fun g a n => let ⟨g', a', z, r⟩ := ih g a n; ⟨g', a', z, .alloc r⟩
  | fresh _ ih => exact fun g a n => let ⟨g', a', z, r⟩ := ih g a n; ⟨g', a', z, .fresh r⟩
  | ask _ ih => exact fun g a n => let ⟨g', a', z, r⟩ := ih g a n; ⟨g', a', z, .ask r⟩
  | choose hn _ ih => exact fun g a n => let ⟨g', a', z, r⟩ := ih g a n; ⟨g', a', z, .choose hn r⟩
  | os _ ih => exact fun g a n => let ⟨g', a', z, r⟩ := ih g a n; ⟨g', a', z, .os r⟩
  | handled _ ih => exact fun g a n => let ⟨g', a', z, r⟩ := ih g a n; ⟨g', a', z, .handled r⟩
  | genState hg _ ih =>
    intro g a n
    obtain ⟨y, h1, h2⟩ := a.seen hg
    obtain ⟨g', a', z, r⟩ := ih g a n
    exact ⟨g', a', z, .genState (st := y) h1 (by rw [h2]; exact r)⟩
  | stack _ ih => exact fun g a n => let ⟨g', a', z, r⟩ := ih g a n; ⟨g', a', z, .stack r⟩
  | thread _ ih => exact fun g a n => let ⟨g', a', z, r⟩ := ih g a n; ⟨g', a', z, .thread r⟩
  | newGen _ ih =>
    intro g a n
    obtain ⟨g', a', z, r⟩ := ih _ (a.push _) n
    exact ⟨g', a', z, .newGen (by rw [show (wg _ g).gens.size = _ from a.size.symm]; exact r)⟩
  | call _ _ ih1 ih2 =>
    intro g a n
    obtain ⟨g1, a1, _, r1⟩ := ih1 g a noZ_nil
    obtain ⟨g2, a2, z, r2⟩ := ih2 g1 a1 n
    exact ⟨g2, a2, z, .call r1 r2⟩
  | callSusp _ ih =>
    intro g a n
    obtain ⟨g1, a1, z, r1⟩ := ih g a noZ_nil
    exact ⟨g1, a1, NoZ.app z (fun _ _ _ _ _ m => by cases List.mem_singleton.mp m), .callSusp r1⟩
  | yield => exact fun g a _ => ⟨g, a, noZ_nil, .yield⟩
  | resumeFresh hg _ hq _ ih1 ih2 =>
    intro g a n
    obtain ⟨z, hg'⟩ := a.awake hg rfl
    obtain ⟨g1, a1, z1, r1⟩ := ih1 _ (a.put z okSt_run) noZ_nil
    obtain ⟨g2, a2, z2, r2⟩ := ih2 _ (a1.put z (okSt_end z1)) n
    exact ⟨g2, a2, z2, .resumeFresh hg' r1 hq r2⟩
  | @resumeSuspended Γ p gi r l k s k₀ l₀ c₀ p₀ fs cl e₁ s₁ e s' hg hr hq _ ih1 ih2 =>
    intro g a n
    by_cases z : Z gi
    · exfalso
      obtain ⟨_, h2, h3⟩ := a.sl gi z
      rw [h2] at hg
      revert hg h3
      cases hG : G gi with
      | suspended k l c p fs cl =>
        intro hg _
        cases hg
        exact no_unsup hr
      | fresh _ => intro hg _; cases hg
      | running => intro hg _; cases hg
      | finished => intro hg _; cases hg
    · have hg' : g[gi]? = some (.suspended k₀ l₀ c₀ p₀ fs cl) := by rw [← a.out gi z]; exact hg
      obtain ⟨g1, a1, z1, r1⟩ := ih1 _ (a.put z okSt_run) (a.ok gi _ z hg' _ _ _ _ _ _ rfl)
      obtain ⟨g2, a2, z2, r2⟩ := ih2 _ (a1.put z (okSt_end z1)) n
      exact ⟨g2, a2, z2, .resumeSuspended hg' r1 hq r2⟩
  | resumeJustStarted hg hv _ ih =>
    intro g a n
    obtain ⟨_, hg'⟩ := a.awake hg rfl
    obtain ⟨g', a', z, r⟩ := ih g a n
    exact ⟨g', a', z, .resumeJustStarted hg' hv r⟩
  | resumeThrowFresh hg _ ih =>
    intro g a n
    obtain ⟨z, hg'⟩ := a.awake hg rfl
    obtain ⟨g', a', z', r⟩ := ih _ (a.put z okSt_fin) n
    exact ⟨g', a', z', .resumeThrowFresh hg' r⟩
  | resumeRunning hg _ ih =>
    intro g a n
    obtain ⟨_, hg'⟩ := a.awake hg rfl
    obtain ⟨g', a', z, r⟩ := ih g a n
    exact ⟨g', a', z, .resumeRunning hg' r⟩
  | resumeFinished hg _ ih =>
    intro g a n
    obtain ⟨_, hg'⟩ := a.awake hg rfl
    obtain ⟨g', a', z, r⟩ := ih g a n
    exact ⟨g', a', z, .resumeFinished hg' r⟩
  | segRet _ _ ih1 ih2 =>
    intro g a n
    obtain ⟨g1, a1, _, r1⟩ := ih1 g a noZ_nil
    obtain ⟨g2, a2, z, r2⟩ := ih2 g1 a1 n.tail
    exact ⟨g2, a2, z, .segRet r1 r2⟩
  | segGen _ _ ih1 ih2 =>
    intro g a n
    obtain ⟨g1, a1, _, r1⟩ := ih1 g a noZ_nil
    obtain ⟨g2, a2, z, r2⟩ := ih2 _ (a1.put (n _ _ _ _ _ List.mem_cons_self) okSt_fin) n.tail
    exact ⟨g2, a2, z, .segGen r1 r2⟩
  | segSuspOut hs _ ih =>
    intro g a n
    obtain ⟨g1, a1, z, r1⟩ := ih g a noZ_nil
    exact ⟨g1, a1, NoZ.app z n, .segSuspOut hs r1⟩
  | segSuspGen hs _ hq _ ih1 ih2 =>
    intro g a n
    obtain ⟨n1, n2, n3⟩ := noZ_split hs n
    obtain ⟨g1, a1, z1, r1⟩ := ih1 g a noZ_nil
    obtain ⟨g2, a2, z, r2⟩ := ih2 _ (a1.put n2 (okSt_end (e := .susp _ _ _ _ _ _ _) (NoZ.app z1 n1))) n3
    exact ⟨g2, a2, z, .segSuspGen hs r1 hq r2⟩
theorem wakes_awake {M : Model} {Z : Nat → Prop} {G : Nat → GenState} {Γ : PySem.Ctx} {p : Pos} {gi : Nat} {r : Resume} {s s' : Shared} {res : GenResult} (h : Wakes M Γ p gi r s res s') (g : Array GenState) (a : Asleep Z G s.gens g) :
    ∃ g', Asleep Z G s'.gens g' ∧ Wakes M Γ p gi r (wg s g) res (wg s' g') := by
  unfold Wakes at h ⊢
  cases hg : s.gens[gi]? with
  | none => rw [hg] at h; exact h.elim
  | some st =>
    rw [hg] at h
    cases st with
    | running =>
      obtain ⟨_, hg'⟩ := a.awake hg rfl
      obtain ⟨rfl, rfl⟩ := h
      refine ⟨g, a, ?_⟩
      rw [show (wg s' g).gens[gi]? = some .running from hg']
      exact ⟨rfl, rfl⟩
    | finished =>
      obtain ⟨_, hg'⟩ := a.awake hg rfl
      obtain ⟨rfl, rfl⟩ := h
      refine ⟨g, a, ?_⟩
      rw [show (wg s' g).gens[gi]? = some .finished from hg']
      exact ⟨rfl, rfl⟩
    | fresh c =>
      obtain ⟨z, hg'⟩ := a.awake hg rfl
      cases r with
      | throw x =>
        obtain ⟨rfl, rfl⟩ := h
        refine ⟨_, a.put z okSt_fin, ?_⟩
        rw [show (wg s g).gens[gi]? = some (.fresh c) from hg']
        exact ⟨rfl, rfl⟩
      | send v =>
        by_cases hv : v = .none
        · subst hv
          obtain ⟨e₁, s₁, hr, hq, rfl, rfl⟩ := h
          obtain ⟨g1, a1, z1, r1⟩ := runs_awake hr _ (a.put z okSt_run) noZ_nil
          refine ⟨_, a1.put z (okSt_end z1), ?_⟩
          rw [show (wg s g).gens[gi]? = some (.fresh c) from hg']
          exact ⟨e₁, _, r1, hq, rfl, rfl⟩
        · have h' : res = .justStarted ∧ s' = s := by
            revert h
            cases v <;> first | exact absurd rfl hv | exact fun h => h
          obtain ⟨rfl, rfl⟩ := h'
          refine ⟨g, a, ?_⟩
          rw [show (wg s' g).gens[gi]? = some (.fresh c) from hg']
          revert hv
          cases v <;> intro hv <;> first | exact absurd rfl hv | exact ⟨rfl, rfl⟩
    | suspended k₀ l₀ c₀ p₀ fs cl =>
      obtain ⟨e₁, s₁, hr, hq, rfl, rfl⟩ := h
      by_cases z : Z gi
      · exfalso
        obtain ⟨_, h2, h3⟩ := a.sl gi z
        rw [h2] at hg
        revert hg h3
        cases hG : G gi with
        | suspended k l c p fs cl =>
          intro hg _
          cases hg
          exact no_unsup hr
        | fresh _ => intro hg _; cases hg
        | running => intro hg _; cases hg
        | finished => intro hg _; cases hg
      · have hg' : g[gi]? = some (.suspended k₀ l₀ c₀ p₀ fs cl) := by rw [← a.out gi z]; exact hg
        obtain ⟨g1, a1, z1, r1⟩ := runs_awake hr _ (a.put z okSt_run) (a.ok gi _ z hg' _ _ _ _ _ _ rfl)
        refine ⟨_, a1.put z (okSt_end z1), ?_⟩
        rw [show (wg s g).gens[gi]? = some (.suspended k₀ l₀ c₀ p₀ fs cl) from hg']
        exact ⟨e₁, _, r1, hq, rfl, rfl⟩
/-! the same of wp -/
theorem wp_awake {α : Type} {M : Model} {Z : Nat → Prop} {G : Nat → GenState} {Γ : PySem.Ctx} (t : Sem α) : ∀ (Q : α → Pos → Shared → Prop) (E : Value → Pos → Shared → Prop) (p : Pos) (s : Shared) (g : Array GenState), Asleep Z G s.gens g → Sem.wp M Γ t Q E p s →
    Sem.wp M Γ t (fun x p' s' => ∃ g₀, Asleep Z G g₀ s'.gens ∧ Q x p' (wg s' g₀)) (fun x p' s' => ∃ g₀, Asleep Z G g₀ s'.gens ∧ E x p' (wg s' g₀)) p (wg s g) := by
  induction t with
  | pure a => intro Q E p s g a h; exact ⟨s.gens, a, h⟩
  | raise e => intro Q E p s g a h; exact ⟨s.gens, a, h⟩
  | unsupported _ => intro Q E p s g _ h; exact h
  | finish _ => intro Q E p s g _ h; exact h
  | register _ _ => intro Q E p s g _ h; exact h
  | yield _ _ _ _ => intro Q E p s g _ h; exact h
  | fork _ _ => intro Q E p s g _ h; exact h
  | await _ _ _ _ _ => intro Q E p s g _ h; exact h
  | rule _ k ih => intro Q E p s g a h; exact ih () Q E p s g a h
  | «at» p' k ih => intro Q E p s g a h; exact ih () Q E p' s g a h
  | load _ _ k ih => intro Q E p s g a h; obtain ⟨o, ho, h⟩ := h; exact ⟨o, ho, ih o Q E p s g a h⟩
  | update ad _ f k ih => intro Q E p s g a h; exact ⟨h.1, ih () Q E p { s with heap := s.heap.update ad f } g a h.2⟩
  | loadIfAlive _ k ih => intro Q E p s g a h; exact ih _ Q E p s g a h
  | point _ k ih => intro Q E p s g a h; exact ih () Q E p s g a h
  | alloc o k ih => intro Q E p s g a h; exact ih _ Q E p { s with heap := s.heap.push o } g a h
  | fresh k ih => intro Q E p s g a h; exact ih _ Q E p { s with toks := s.toks + 1 } g a h
  | ask k ih => intro Q E p s g a h; exact ih _ Q E p s g a h
  | choose src m k ih => intro Q E p s g a h; exact ⟨h.1, ih _ Q E p { s with drawn := s.drawn.bump src } g a h.2⟩
  | os q _ k ih => intro Q E p s g a h; exact ih _ Q E p { s with os := (Os.step s.os q).1 } g a h
  | call c hd _ _ k ih =>
    intro Q E p s g a h
    obtain ⟨r, s', hr, h⟩ := h
    obtain ⟨g1, a1, _, r1⟩ := runs_awake hr g a noZ_nil
    exact ⟨r, _, r1, ih r Q E p s' g1 a1 h⟩
  | handled own k ih => intro Q E p s g a h; exact ih _ Q E p s g a h
  | genState gi k ih =>
    intro Q E p s g a h
    obtain ⟨st, hs, h⟩ := h
    obtain ⟨y, h1, h2⟩ := a.seen hs
    exact ⟨y, h1, by rw [h2]; exact ih _ Q E p s g a h⟩
  | newGen c k ih =>
    intro Q E p s g a h
    have := ih _ Q E p _ _ (a.push c) h
    show Sem.wp M Γ (k g.size) _ _ p _
    rw [← a.size]
    exact this
  | resume gi r _ k ih =>
    intro Q E p s g a h
    obtain ⟨res, s', hw, h⟩ := h
    obtain ⟨g1, a1, w1⟩ := wakes_awake hw g a
    exact ⟨res, _, w1, ih res Q E p s' g1 a1 h⟩
  | stack k ih => intro Q E p s g a h; exact ih _ Q E p s g a h
  | thread k ih => intro Q E p s g a h; exact ih _ Q E p s g a h
/-- all that sleeps cut off -/
def cutG (g : Array GenState) : Array GenState := g.map gFroz
theorem asleep_cut (g : Array GenState) : Asleep (fun i => ∃ x, g[i]? = some x ∧ gSlp x = true) (fun i => (g[i]?).getD .running) (cutG g) g := by
  refine ⟨by simp [cutG], fun i hi => ?_, fun i hi => ?_, fun i x hi h => ?_⟩
  · unfold cutG
    rw [Array.getElem?_map]
    cases h : g[i]? with
    | none => rfl
    | some x =>
      have : gSlp x ≠ true := fun z => hi ⟨x, h, z⟩
      revert this
      cases x <;> simp [gSlp, gFroz]
  · obtain ⟨x, h, z⟩ := hi
    refine ⟨by rw [h]; rfl, ?_, by rw [h]; exact z⟩
    unfold cutG
    rw [Array.getElem?_map, h]
    rfl
  · intro k l c p fs cl e
    subst e
    exact absurd ⟨_, h, rfl⟩ hi
theorem cut_bare {g : Array GenState} (h : AllBare g) : AllBare (cutG g) := fun y hy => by
  obtain ⟨x, hx, rfl⟩ := Array.mem_map.mp hy
  have := h x hx
  revert this
  cases x <;> simp [gFroz, GenState.bare]
/-- what slept sleeps on -/
def Slept2 (g g' : Array GenState) : Prop := ∀ (i : Nat) (x : GenState), g[i]? = some x → gSlp x = true → g'[i]? = some x
theorem awake_bare {g g₀ g' : Array GenState} (a : Asleep (fun i => ∃ x, g[i]? = some x ∧ gSlp x = true) (fun i => (g[i]?).getD .running) g₀ g') (b : AllBare g) (b₀ : AllBare g₀) : AllBare g' ∧ Slept2 g g' := by
  refine ⟨fun y hy => ?_, fun i x h z => ?_⟩
  · obtain ⟨i, hi, e⟩ := Array.mem_iff_getElem.mp hy
    have hg : g'[i]? = some y := by rw [Array.getElem?_eq_getElem hi, e]
    by_cases z : ∃ x, g[i]? = some x ∧ gSlp x = true
    · obtain ⟨h1, _, _⟩ := a.sl i z
      obtain ⟨x, hx, _⟩ := z
      have h1 : g'[i]? = some ((g[i]?).getD .running) := h1
      rw [hx] at h1
      rw [hg] at h1
      cases h1
      exact b _ (Array.mem_of_getElem? hx)
    · have := a.out i z
      rw [hg] at this
      exact b₀ y (Array.mem_of_getElem? this)
  · obtain ⟨h1, _, _⟩ := a.sl i ⟨x, h, z⟩
    have h1 : g'[i]? = some ((g[i]?).getD .running) := h1
    rw [h] at h1
    exact h1
theorem wpAny_awake {α : Type} {M : Model} {A : Around} {t : Sem α} {Q : α → Shared → Prop} {E : Value → Shared → Prop} {s : Shared}
    (h : wpAny M A t Q E (wg s (cutG s.gens))) :
    wpAny M A t (fun x s' => ∃ g₀, Asleep (fun i => ∃ x, s.gens[i]? = some x ∧ gSlp x = true) (fun i => (s.gens[i]?).getD .running) g₀ s'.gens ∧ Q x (wg s' g₀))
      (fun x s' => ∃ g₀, Asleep (fun i => ∃ x, s.gens[i]? = some x ∧ gSlp x = true) (fun i => (s.gens[i]?).getD .running) g₀ s'.gens ∧ E x (wg s' g₀)) s := fun Γ p hΓ =>
  wp_awake t _ _ p (wg s (cutG s.gens)) s.gens (asleep_cut s.gens) (h Γ p hΓ)
/-! of statements: what sleeps ahead sleeps behind -/
section
variable {X : Cx} {pins : List (Addr × Obj)} {σ : L2.St} {H : Hp} {s : Shared}
theorem inv_wg {g : Array GenState} (I : Inv X pins σ H s) (b : AllBare g) : Inv X pins σ H (wg s g) := ⟨I.ok, I.os, b, I.base, I.loc, I.cell, I.free, I.freeC, I.pin, I.hok, I.len⟩
theorem sp_wg {D : Ends} {f : Flow} {g : Array GenState} (b : AllBare g) (h : SP X pins D f s) : SP X pins D f (wg s g) := by
  cases f with
  | next => obtain ⟨σ, H, I, q⟩ := h; exact ⟨σ, H, inv_wg I b, q⟩
  | brk => obtain ⟨σ, H, I, q⟩ := h; exact ⟨σ, H, inv_wg I b, q⟩
  | cont => obtain ⟨σ, H, I, q⟩ := h; exact ⟨σ, H, inv_wg I b, q⟩
  | ret u => obtain ⟨v, σ, H, I, r, q⟩ := h; exact ⟨v, σ, H, inv_wg I b, r, q⟩
theorem sp_bare {D : Ends} {f : Flow} (h : SP X pins D f s) : AllBare s.gens := by
  cases f with
  | next => obtain ⟨σ, H, I, q⟩ := h; exact I.bare
  | brk => obtain ⟨σ, H, I, q⟩ := h; exact I.bare
  | cont => obtain ⟨σ, H, I, q⟩ := h; exact I.bare
  | ret u => obtain ⟨v, σ, H, I, r, q⟩ := h; exact I.bare
/-- what is wanted of an exception doesn't ask what sleeps -/
def XeOk (X : Cx) : Prop := ∀ (Z : Nat → Prop) (G : Nat → GenState) (e : Value) (s : Shared) (g₀ : Array GenState), Asleep Z G g₀ s.gens → X.xe e (wg s g₀) → X.xe e s
theorem xeOk_never {X : Cx} (h : ∀ e s, ¬ X.xe e s) : XeOk X := fun _ _ e s g₀ _ x => absurd x (h e (wg s g₀))
/-- an exception that nobody wants may not leave the def -/
theorem xeOk_leaving {X : Cx} {M : Model} {A : Around} {env : Env} (h : ∀ e s, X.xe e s ↔ wpAny M A (leaving env e) (fun _ _ => False) (fun _ _ => False) s) : XeOk X := fun Z G e s g₀ a x => by
  rw [h] at x ⊢
  intro Γ p hΓ
  have := wp_awake (Z := Z) (G := G) (leaving env e) _ _ p (wg s g₀) s.gens a (x Γ p hΓ)
  exact Sem.wp_mono M Γ _ (fun _ _ _ q => let ⟨_, _, q⟩ := q; q) (fun _ _ _ q => let ⟨_, _, q⟩ := q; q) _ _ this
theorem pss_sleep {body : List Stmt} {t : TS} {D : Ends} (hx : XeOk X) (hb : PSs X body t) (I : Inv X pins σ H s) (h : t D σ H) :
    wpAny (model X.prog X.w) X.A (execs body X.env) (fun f s' => SP X pins D f s' ∧ Slept2 s.gens s'.gens) X.xe s := by
  refine wpAny_mono (wpAny_awake (hb.run pins _ σ H D (inv_wg I (cut_bare I.bare)) h)) (fun f s' q => ?_) fun e s' q => ?_
  · obtain ⟨g₀, a, q⟩ := q
    obtain ⟨b1, b2⟩ := awake_bare a I.bare (sp_bare q)
    exact ⟨sp_wg (s := wg s' g₀) b1 q, b2⟩
  · obtain ⟨g₀, a, q⟩ := q
    exact hx _ _ e s' g₀ a q
theorem pg_sleep {target : Expr} {t : TG} {v : V} {u : Value} {Q : L2.St → Hp → Prop} (hx : XeOk X) (hg : PG X target t) (I : Inv X pins σ H s) (r : RelV v u) (h : t v σ H Q) :
    wpAny (model X.prog X.w) X.A (assign target X.env u) (fun _ s' => ∃ σ' H', Inv X pins σ' H' s' ∧ Q σ' H' ∧ Slept2 s.gens s'.gens) X.xe s := by
  refine wpAny_mono (wpAny_awake (hg.run pins _ σ H v u Q (inv_wg I (cut_bare I.bare)) r h)) (fun f s' q => ?_) fun e s' q => ?_
  · obtain ⟨g₀, a, σ', H', I', q⟩ := q
    obtain ⟨b1, b2⟩ := awake_bare a I.bare I'.bare
    exact ⟨σ', H', inv_wg (s := wg s' g₀) I' b1, q, b2⟩
  · obtain ⟨g₀, a, q⟩ := q
    exact hx _ _ e s' g₀ a q
end
/-! ### one run of a generator's code, up to where it hands out or ends -/
def Go (M : Model) (A : Around) (F : End → Shared → Prop) (c : Code) (t : Sem PySem.Fin) (fs : List Frame) (s : Shared) : Prop :=
  ∀ (Γ : PySem.Ctx) (p : Pos), Γ.code = c → Γ.Woken A → ∃ e s', Runs M Γ p t fs s e s' ∧ F e s'
section
variable {M : Model} {A : Around} {F : End → Shared → Prop} {c : Code} {fs : List Frame} {s : Shared}
theorem go_wrap {α : Type} {m : Sem α} {K : α → Sem PySem.Fin} {J : Value → Sem PySem.Fin} {gd : Bool → Bool} {lv : List Value → List Value}
    (h : wpAny M (A.over c fs) m (fun a s' => Go M A F c (K a) fs s') (fun x s' => Go M A F c (J x) fs s') s) : Go M A F c (m.wrap K J gd lv) fs s := by
  rintro Γ p rfl w
  exact runs_wrap_of_wp K J gd lv m (h (Γ.over fs) p (w.over fs)) (fun a p' s' k => k Γ p' rfl w) fun x p' s' k => k Γ p' rfl w
theorem go_bind {α : Type} {m : Sem α} {K : α → Sem PySem.Fin} (h : wpAny M (A.over c fs) m (fun a s' => Go M A F c (K a) fs s') (fun x s' => Go M A F c (.raise x) fs s') s) : Go M A F c (m >>= K) fs s := by
  rw [Sem.bind_eq_wrap' m K]
  exact go_wrap h
theorem go_at {p' : Pos} {k : Unit → Sem PySem.Fin} (h : Go M A F c (k ()) fs s) : Go M A F c (.at p' k) fs s :=
  go_wrap (m := standAt p') (K := k) (J := Sem.raise) (gd := id) (lv := id) (wpAny_standAt h)
theorem go_point {l : List Value} {k : Unit → Sem PySem.Fin} (h : Go M A F c (k ()) fs s) : Go M A F c (.point l k) fs s :=
  go_wrap (m := point) (K := k) (J := Sem.raise) (gd := id) (lv := fun _ => l) (wpAny_point h)
theorem go_call {c' : Code} {hd : Option Value} {g : Bool} {l : List Value} {k : Result → Sem PySem.Fin} (h : ∀ p, Go M A F c' (M.den c') (.ret k hd g l c p [] :: fs) s) : Go M A F c (.call c' hd g l k) fs s := by
  rintro Γ p rfl w
  obtain ⟨e, s', r, q⟩ := h p (Γ.goto c') p rfl (w.goto c')
  exact ⟨e, s', runs_call_seg r, q⟩
theorem go_leaf {k : Result → Sem PySem.Fin} {hd : Option Value} {g : Bool} {l kp : List Value} {c₁ : Code} {p₁ : Pos} (r : Result) (h : Go M A F c₁ (k r) fs s) : Go M A F c (leafOf r) (.ret k hd g l c₁ p₁ kp :: fs) s := by
  rintro Γ p rfl w
  obtain ⟨e, s', r', q⟩ := h (Γ.goto c₁) p₁ rfl (w.goto c₁)
  exact ⟨e, s', Runs.pop r r', q⟩
theorem go_again {c' : Code} (hq : c'.quiet = true) (h : Go M A F c' (M.den c') fs s) : Go M A F c (.pure (.again c')) fs s := by
  rintro Γ p rfl w
  obtain ⟨e, s', r, q⟩ := h (Γ.goto c') p rfl (w.goto c')
  exact ⟨e, s', Runs.head (c₁ := c') (fun _ _ x => .again hq x) r, q⟩
theorem go_end (r : Result) (h : F (.ret r) s) : Go M A F c (leafOf r) [] s := by
  rintro Γ p rfl _
  exact ⟨.ret r, s, Runs.leaf r, h⟩
theorem go_yield {v : Value} {g : Bool} {l : List Value} {k : Resume → Sem PySem.Fin} (hf : splitAtGen fs = none) (h : ∀ p, F (.susp v g l k c p fs) s) : Go M A F c (.yield v g l k) fs s := by
  rintro Γ p rfl _
  exact ⟨_, s, Runs.yield' fs hf, h p⟩
end
/-! ### the generator's frame, seen anew at each waking -/
structure Gp where
  P : Program
  w : World
  K : PySem.W.Frag
  mg : Str → Option Value
  base : Heap
  N : List Str
  env : Env
  A : Around
  outer : List Env
/-- what a waking finds: the heap as far as it is older than the generator, what is tracked, what must not be touched -/
structure Ix where
  s0 : Shared
  H0 : Hp
  pn : List (Addr × Obj)
def Gp.X (G : Gp) (x : Ix) : Cx where
  prog := G.P
  w := G.w
  K := G.K
  mg := G.mg
  base := G.base
  A := G.A.deeper G.env
  N := G.N
  s_0 := x.s0
  H_0 := x.H0
  env := G.env
  outer := G.outer
  stack := G.env :: G.outer
  ex := []
  fn := fun _ => true
  calm := true
  pn := x.pn
  xe := fun _ _ => False
/-- what a sleeping generator still knows when it wakes -/
def plainK : HO → Bool
  | .lst _ => true
  | .tup _ => true
  | .dK _ => true
  | _ => false
def KeepP (H H' : Hp) : Prop := ∀ b u, plainK u = true → H b = some u → H' b = some u
theorem KeepP.refl (H : Hp) : KeepP H H := fun _ _ _ e => e
theorem KeepP.of {H H' : Hp} (s : Same H H') : KeepP H H' := fun b u _ e => s b u e
/-- what comes of a run: It: what is true when x is handed out behind ys; Fn: at the end -/
def Fi (G : Gp) (It : List V → V → Hp → Prop) (Fn : List V → Hp → Prop) : Nat → Ix → End → Shared → Prop
  | 0 => fun ix e s => match e with
    | .ret r => (r = .ok (.ret .none) ∨ r = .ok .next) ∧ ∃ ys ip σ H, 0 + ys.length = sizeLine ∧ Inv (G.X ix) ip σ H s ∧ Fn ys H
    | .susp .. => False
  | m + 1 => fun ix e s => match e with
    | .ret r => (r = .ok (.ret .none) ∨ r = .ok .next) ∧ ∃ ys ip σ H, m + 1 + ys.length = sizeLine ∧ Inv (G.X ix) ip σ H s ∧ Fn ys H
    | .susp v g l k c p fs => (End.susp v g l k c p fs).quiet = true ∧ ∃ ys x ip σ H, m + 1 + ys.length = sizeLine ∧ RelV x v ∧ Inv (G.X ix) ip σ H s ∧ (∀ p ∈ ip, G.env.locals ≤ p.1) ∧ It ys x H ∧
      ∀ ix' H' s', KeepP H H' → Inv (G.X ix') ip σ H' s' → Go (model G.P G.w) G.A (Fi G It Fn m ix') c (k (.send .none)) fs s'
theorem fi_end {G : Gp} {It : List V → V → Hp → Prop} {Fn : List V → Hp → Prop} {n : Nat} {ix : Ix} {r : Result} {s : Shared} {ys : List V} {ip : List (Addr × Obj)} {σ : L2.St} {H : Hp} (hr : r = .ok (.ret .none) ∨ r = .ok .next) (hn : n + ys.length = sizeLine)
    (I : Inv (G.X ix) ip σ H s) (q : Fn ys H) : Fi G It Fn n ix (.ret r) s := by
  cases n with
  | zero => exact ⟨hr, ys, ip, σ, H, hn, I, q⟩
  | succ m => exact ⟨hr, ys, ip, σ, H, hn, I, q⟩
structure G3C (G : Gp) (ip : List (Addr × Obj)) (c : Code) (fs : List Frame) (gd : Bool → Bool) : Prop where
  ips : ∀ p ∈ ip, G.env.locals ≤ p.1
  over : G.A.over c fs = G.A.deeper G.env
  split : splitAtGen fs = none
  guard : fs.any Frame.guarded = false
  gd : gd false = false
def G3P (G : Gp) (ix : Ix) (ip : List (Addr × Obj)) (D : GEnds) (ys : List V) (f : Flow) (s : Shared) : Prop :=
  match f with
  | .next => ∃ σ H, Inv (G.X ix) ip σ H s ∧ D.nx ys σ H
  | .brk => ∃ σ H, Inv (G.X ix) ip σ H s ∧ D.bk ys σ H
  | .cont => ∃ σ H, Inv (G.X ix) ip σ H s ∧ D.ct ys σ H
  | .ret u => ∃ v σ H, Inv (G.X ix) ip σ H s ∧ RelV v u ∧ D.rt ys v H
def G3K (G : Gp) (It : List V → V → Hp → Prop) (Fn : List V → Hp → Prop) (ip : List (Addr × Obj)) (c : Code) (fs : List Frame) (K : Flow → Sem PySem.Fin) (D : GEnds) : Prop :=
  ∀ (n : Nat) (ys : List V) (ix : Ix) (s : Shared) (f : Flow), n + ys.length = sizeLine → G3P G ix ip D ys f s → Go (model G.P G.w) G.A (Fi G It Fn n ix) c (K f) fs s
structure GS3 (G : Gp) (It : List V → V → Hp → Prop) (st : Stmt) (t : TGn) : Prop where
  run : ∀ (Fn : List V → Hp → Prop) (n : Nat) (ys : List V) (ix : Ix) (ip : List (Addr × Obj)) (c : Code) (fs : List Frame) (K : Flow → Sem PySem.Fin) (J : Value → Sem PySem.Fin) (gd : Bool → Bool) (lv : List Value → List Value) (s : Shared) (σ : L2.St) (H : Hp) (D : GEnds),
    G3C G ip c fs gd → n + ys.length = sizeLine → G3K G It Fn ip c fs K D → Inv (G.X ix) ip σ H s → t D ys σ H → Go (model G.P G.w) G.A (Fi G It Fn n ix) c ((exec st G.env).wrap K J gd lv) fs s
structure GSs3 (G : Gp) (It : List V → V → Hp → Prop) (st : List Stmt) (t : TGn) : Prop where
  run : ∀ (Fn : List V → Hp → Prop) (n : Nat) (ys : List V) (ix : Ix) (ip : List (Addr × Obj)) (c : Code) (fs : List Frame) (K : Flow → Sem PySem.Fin) (J : Value → Sem PySem.Fin) (gd : Bool → Bool) (lv : List Value → List Value) (s : Shared) (σ : L2.St) (H : Hp) (D : GEnds),
    G3C G ip c fs gd → n + ys.length = sizeLine → G3K G It Fn ip c fs K D → Inv (G.X ix) ip σ H s → t D ys σ H → Go (model G.P G.w) G.A (Fi G It Fn n ix) c ((execs st G.env).wrap K J gd lv) fs s
section
variable {G : Gp} {It : List V → V → Hp → Prop} {st : Stmt} {rest : List Stmt}
theorem sp_g3 {ix : Ix} {ip : List (Addr × Obj)} {s : Shared} {D : GEnds} {ys : List V} {f : Flow} (h : SP (G.X ix) ip (D.at ys) f s) : G3P G ix ip D ys f s := by
  cases f <;> exact h
theorem g3_plain {t : TS} (h : ∀ ix, PS (G.X ix) st t) : GS3 G It st (tPlain t) := by
  refine ⟨fun Fn n ys ix ip c fs K J gd lv s σ H D g hn k I ht => go_wrap ?_⟩
  rw [g.over]
  exact wpAny_mono ((h ix).run ip s σ H (D.at ys) I ht) (fun f s' q => k n ys ix s' f hn (sp_g3 q)) fun _ _ x => x.elim
theorem g3s_plain {t : TS} (h : ∀ ix, PSs (G.X ix) rest t) : GSs3 G It rest (tPlain t) := by
  refine ⟨fun Fn n ys ix ip c fs K J gd lv s σ H D g hn k I ht => go_wrap ?_⟩
  rw [g.over]
  exact wpAny_mono ((h ix).run ip s σ H (D.at ys) I ht) (fun f s' q => k n ys ix s' f hn (sp_g3 q)) fun _ _ x => x.elim
theorem g3s_nil : GSs3 G It [] tG0 := ⟨fun Fn n ys ix ip c fs K J gd lv s σ H D g hn k I ht => k n ys ix s .next hn ⟨σ, H, I, ht⟩⟩
theorem g3s_cons {t u : TGn} (a : GS3 G It st t) (b : GSs3 G It rest u) : GSs3 G It (st :: rest) (tGThen t u) := by
  refine ⟨fun Fn n ys ix ip c fs K J gd lv s σ H D g hn k I ht => ?_⟩
  rw [execs_cons_wrap]
  refine a.run Fn n ys ix ip c fs _ J gd lv s σ H { D with nx := fun ys' σ' H' => u D ys' σ' H' } g hn (fun n' ys' ix' s' f hn' q => ?_) I ht
  cases f with
  | next =>
    obtain ⟨σ', H', I', q⟩ := q
    exact b.run Fn n' ys' ix' ip c fs K J gd lv s' σ' H' D g hn' k I' q
  | brk => exact k n' ys' ix' s' .brk hn' q
  | cont => exact k n' ys' ix' s' .cont hn' q
  | ret u => exact k n' ys' ix' s' (.ret u) hn' q
def tGIf (c : TT) (t u : TGn) : TGn := fun D ys σ H => c σ H fun b H1 => if b = true then t D ys σ H1 else u D ys σ H1
theorem g3_if {test : Expr} {body orelse : List Stmt} {pos : Pos} {tc : TT} {t u : TGn} (hc : ∀ ix, PT (G.X ix) test tc) (ha : GSs3 G It body t) (hb : GSs3 G It orelse u) : GS3 G It (.If test body orelse pos) (tGIf tc t u) := by
  refine ⟨fun Fn n ys ix ip c fs K J gd lv s σ H D g hn k I ht => ?_⟩
  rw [exec_If]
  refine go_at ?_
  show Go _ _ _ _ (((isTrue test G.env (eval test G.env)) >>= fun b => if b = true then execs body G.env else execs orelse G.env).wrap K J gd lv) fs s
  rw [Sem.bind_eq_wrap', Sem.wrap_wrap]
  refine go_wrap ?_
  rw [g.over]
  refine wpAny_mono ((hc ix).run ip s σ H _ I ht) (fun b s1 q => ?_) fun _ _ x => x.elim
  obtain ⟨H1, I1, q⟩ := q
  cases b with
  | true => exact ha.run Fn n ys ix ip c fs K J gd lv s1 σ H1 D g hn k I1 q
  | false => exact hb.run Fn n ys ix ip c fs K J gd lv s1 σ H1 D g hn k I1 q
/-! yield -/
def tGY3 (It : List V → V → Hp → Prop) (te : TE) : TGn := fun D ys σ H => ys.length < sizeLine ∧ te σ H fun x H1 => It ys x H1 ∧ ∀ H2, KeepP H1 H2 → D.nx (ys ++ [x]) σ H2
theorem g3_yield {e : Expr} {yp pos : Pos} {te : TE} (he : ∀ ix, PE (G.X ix) e te) (hco : G.env.scope.isCoroutine = false) (hi : interactive G.env = false) : GS3 G It (.Expr (.Yield (some e) yp) pos) (tGY3 It te) := by
  refine ⟨fun Fn n ys ix ip c fs K J gd lv s σ H D g hn k I ht => ?_⟩
  obtain ⟨hlt, ht⟩ := ht
  obtain ⟨n, rfl⟩ : ∃ m, n = m + 1 := ⟨n - 1, by omega⟩
  rw [exec_Expr G.env _ pos hi rfl]
  show Go _ _ _ c (.at pos fun _ => ((eval e G.env >>= fun v => (standAt yp >>= fun _ => yieldOut G.env v)) >>= fun x => dropValue (.Yield (some e) yp) pos x).wrap K J gd lv) fs s
  have hy : ∀ v, yieldOut G.env v = yieldValue v := fun v => by simp only [yieldOut, hco, Bool.false_eq_true, if_false]
  simp only [hy]
  refine go_at ?_
  rw [Sem.bind_eq_wrap', Sem.bind_eq_wrap', Sem.wrap_wrap, Sem.wrap_wrap]
  refine go_wrap ?_
  rw [g.over]
  refine wpAny_mono ((he ix).run ip s σ H _ I ht) (fun v s1 q => ?_) fun _ _ x => x.elim
  obtain ⟨x, H1, I1, rv, q1, q2⟩ := q
  refine go_at (go_yield g.split fun p => ?_)
  refine ⟨?_, ys, x, ip, σ, H1, hn, rv, I1, g.ips, q1, fun ix' H' s' hk I' => ?_⟩
  · simp [End.quiet, g.gd, g.guard]
  · exact k n (ys ++ [x]) ix' s' .next (by rw [List.length_append]; show n + (ys.length + 1) = _; omega) ⟨σ, H', I', q2 H' hk⟩
end
/-! ### while, in a generator -/
section
variable {G : Gp} {It : List V → V → Hp → Prop}
theorem turn_eq {prog : Program} {w : World} {env : Env} {test : Expr} {body : List Stmt} : (model prog w).den (.whileLoop test body [] env) =
    (isTrue test env (eval test env)).wrap (fun b => if b = true then (execs body env).wrap (fun f => match f with
          | .next => .pure (.again (.whileLoop test body [] env))
          | .cont => .pure (.again (.whileLoop test body [] env))
          | .brk => .pure (.done .next)
          | .ret v => .pure (.done (.ret v))) (fun e => (do noteFrame e env; theTreesLotGoes e : Sem Unit).bind fun _ => .raise e) id id
        else .pure (.done .next)) (fun e => (do noteFrame e env; theTreesLotGoes e : Sem Unit).bind fun _ => .raise e) id id := by
  show (whileTurn test body [] env).onRaise (fun x => do noteFrame x env; theTreesLotGoes x) = _
  unfold whileTurn
  rw [Sem.onRaise_eq_wrap]
  rw [Sem.bind_eq_wrap']
  rw [Sem.wrap_wrap]
  refine Sem.wrap_congr _ _ _ (fun b => ?_) fun e => rfl
  cases b with
  | true =>
    show Sem.wrap _ _ _ _ (if true = true then _ else _) = _
    rw [if_pos rfl, if_pos rfl]
    rw [Sem.bind_eq_wrap']
    rw [Sem.wrap_wrap]
    exact Sem.wrap_congr _ _ _ (fun f => by cases f <;> rfl) fun e => rfl
  | false =>
    show Sem.wrap _ _ _ _ (if false = true then _ else _) = _
    rw [if_neg Bool.false_ne_true, if_neg Bool.false_ne_true]
    rfl
theorem g3c_loop {c c' : Code} {fs : List Frame} {gd : Bool → Bool} {k : Result → Sem PySem.Fin} {l kp : List Value} {p : Pos} {ip : List (Addr × Obj)} (g : G3C G ip c fs gd) (hw : c'.weight = 0) (hu : c'.cUnits = 0)   : G3C G ip c' (.ret k none (gd false) l c p kp :: fs) id := by
  refine ⟨g.ips, (GenW.over_loop hw hu).trans g.over, ?_, ?_, rfl⟩
  · rw [splitAtGen_ret, g.split]; rfl
  · show (gd false || fs.any Frame.guarded) = false
    rw [g.gd, g.guard]; rfl
theorem g3_while {test : Expr} {body : List Stmt} {pos : Pos} {tc : TT} {tb : TGn} (hc : ∀ ix, PT (G.X ix) test tc) (hb : GSs3 G It body tb) : GS3 G It (.While test body [] pos) (tGWhile tc tb) := by
  refine ⟨fun Fn n ys ix ip c fs K J gd lv s σ H D g hn k I ht => ?_⟩
  obtain ⟨W, ⟨m0, w0⟩, turn⟩ := ht
  refine go_at (go_call fun p => ?_)
  have gl := fun (kk : Result → Sem PySem.Fin) => g3c_loop (k := kk) (c' := .whileLoop test body [] G.env) (l := lv []) (kp := []) (p := p) g rfl rfl
  have loop : ∀ (m n : Nat) (ys : List V) (ix : Ix) (s : Shared) (σ : L2.St) (H : Hp), n + ys.length = sizeLine → W m ys σ H → Inv (G.X ix) ip σ H s →
      Go (model G.P G.w) G.A (Fi G It Fn n ix) (.whileLoop test body [] G.env) ((model G.P G.w).den (.whileLoop test body [] G.env))
        (.ret (fun r => ((match r with | .ok f => (.pure f : Sem Flow) | .error e => .raise e).onRaise fun (x : Value) => do
          if (← field x 1) == Value.none then unsupported "frame.own-activation:exception-without-traceback"
          setFlight x G.env.frame).wrap K J gd lv) none (gd false) (lv []) c p [] :: fs) s := by
    intro m
    induction m using Nat.strongRecOn with
    | ind m ih =>
      intro n ys ix s σ H hn w I
      rw [turn_eq]
      refine go_wrap ?_
      rw [(gl _).over]
      refine wpAny_mono ((hc ix).run ip s σ H _ I (turn m ys σ H w)) (fun b s1 q => ?_) fun _ _ x => x.elim
      obtain ⟨H2, I2, q2⟩ := q
      cases b with
      | true =>
        obtain ⟨N, hN, q2⟩ := q2
        rw [if_pos rfl]
        refine hb.run Fn n ys ix ip _ _ _ _ id id s1 σ H2 { D with nx := N, ct := N, bk := D.nx } (gl _) hn (fun n' ys' ix' s3 f hn' q3 => ?_) I2 q2
        cases f with
        | next =>
          obtain ⟨σ3, H3, I3, n3⟩ := q3
          obtain ⟨m', hm, w3⟩ := hN ys' σ3 H3 n3
          exact go_again rfl (ih m' hm n' ys' ix' s3 σ3 H3 hn' w3 I3)
        | cont =>
          obtain ⟨σ3, H3, I3, n3⟩ := q3
          obtain ⟨m', hm, w3⟩ := hN ys' σ3 H3 n3
          exact go_again rfl (ih m' hm n' ys' ix' s3 σ3 H3 hn' w3 I3)
        | brk => exact go_leaf (.ok .next) (k n' ys' ix' s3 .next hn' q3)
        | ret v => exact go_leaf (.ok (.ret v)) (k n' ys' ix' s3 (.ret v) hn' q3)
      | false =>
        rw [if_neg Bool.false_ne_true]
        exact go_leaf (.ok .next) (k n ys ix s1 .next hn ⟨σ, H2, I2, q2⟩)
  exact loop m0 n ys ix s σ H hn w0 I
end
/-! ### the older part of a heap -/
def cutH (h : Heap) (n : Nat) : Heap := { h with objs := h.objs.extract 0 n }
theorem cut_size {h : Heap} {n : Nat} (hn : n ≤ h.objs.size) : (cutH h n).objs.size = n := by
  show (h.objs.extract 0 n).size = n
  rw [Array.size_extract]
  omega
theorem cut_get {h : Heap} {n : Nat} {b : Addr} (hb : b < n) : (cutH h n).get? b = h.get? b := by
  have e : (h.objs.extract 0 n)[b]? = h.objs[b]? := by
    rw [Array.getElem?_extract]
    by_cases hs : b < h.objs.size
    · rw [if_pos (by rw [Nat.sub_zero]; exact Nat.lt_min.mpr ⟨hb, hs⟩), Nat.zero_add]
    · rw [if_neg (fun z => hs (Nat.lt_of_lt_of_le (by rw [Nat.sub_zero] at z; exact z) (Nat.min_le_right _ _)))]
      exact (Array.getElem?_eq_none_iff.mpr (Nat.not_lt.mp hs)).symm
  unfold Heap.get?
  show (match (h.objs.extract 0 n)[b]? with | some ⟨_, _, .freed, _⟩ => none | o => o) = _
  rw [e]
  rfl
theorem cut_of {h : Heap} {n : Nat} (hn : n ≤ h.objs.size) {b : Addr} {o : Obj} (e : (cutH h n).get? b = some o) : b < n ∧ h.get? b = some o := by
  have hb := Heap.lt_size e
  rw [cut_size hn] at hb
  exact ⟨hb, by rw [← cut_get hb]; exact e⟩
theorem cut_frames {h base : Heap} {n : Nat} : ∀ {l : List Env}, h.FunFrames base l → (∀ b ∈ frs l, b < n) → (cutH h n).FunFrames base l
  | [], _, _ => trivial
  | env :: rest, ⟨hk, ⟨L, o, hf, hn, ho, hd⟩, hr⟩, hl => by
    have hL : L < n := hl L (by unfold frs; rw [List.filterMap_cons, hf]; exact List.mem_cons_self)
    refine ⟨hk, ⟨L, o, hf, hn, by rw [cut_get hL]; exact ho, hd⟩, cut_frames hr fun b hb => hl b ?_⟩
    unfold frs
    rw [List.filterMap_cons, hf]
    exact List.mem_cons_of_mem _ hb
/-! ### what the generator knows at a waking -/
def KeepU (H H' : Hp) : Prop := ∀ b xs, H b = some (.tup xs) → H' b = some (.tup xs)
def frzO (o : Obj) : HO := .frz o (.ext fun _ => True)
def mkH (n0 : Nat) (own : List Addr) (Hg : Hp) (h : Heap) : Hp := fun b =>
  if b < n0 then Hg b else if b ∈ own then (match Hg b with | some u => if plainK u = true then some u else none | none => none) else (match h.get? b with | some o => some (frzO o) | none => none)
def cellB (o : Obj) : Bool := match o.data with | .cell _ => true | _ => false
theorem cellB_no {o : Obj} (h : cellB o = false) : ∀ v, o.data ≠ .cell v := fun v e => by
  unfold cellB at h
  rw [e] at h
  cases h
theorem cellB_yes {o : Obj} (h : ∀ v, o.data ≠ .cell v) : cellB o = false := by
  unfold cellB
  cases hd : o.data with
  | cell v => exact absurd hd (h v)
  | _ => rfl
def cut0 (s : Shared) (n0 : Nat) : Shared := { s with heap := cutH s.heap n0 }
def ixOf (n0 : Nat) (own : List Addr) (Hg : Hp) (s : Shared) : Ix := ⟨cut0 s n0, mkH n0 own Hg s.heap, []⟩
section
variable {n0 : Nat} {own : List Addr} {Hg : Hp} {h : Heap} {b : Addr}
theorem mkH_old (hb : b < n0) : mkH n0 own Hg h b = Hg b := if_pos hb
theorem mkH_own (hb : n0 ≤ b) (m : b ∈ own) : mkH n0 own Hg h b = (match Hg b with | some u => if plainK u = true then some u else none | none => none) := by
  unfold mkH
  rw [if_neg (Nat.not_lt.mpr hb), if_pos m]
theorem mkH_for (hb : n0 ≤ b) (m : b ∉ own) {o : Obj} (e : h.get? b = some o) : mkH n0 own Hg h b = some (frzO o) := by
  unfold mkH
  rw [if_neg (Nat.not_lt.mpr hb), if_neg m, e]
theorem mkH_none (hb : n0 ≤ b) (m : b ∉ own) (e : h.get? b = none) : mkH n0 own Hg h b = none := by
  unfold mkH
  rw [if_neg (Nat.not_lt.mpr hb), if_neg m, e]
theorem mkH_ownS (hb : n0 ≤ b) (m : b ∈ own) {u : HO} (e : Hg b = some u) (p : plainK u = true) : mkH n0 own Hg h b = some u := by
  rw [mkH_own hb m, e]
  exact if_pos p
theorem mkH_ownN (hb : n0 ≤ b) (m : b ∈ own) (e : Hg b = none) : mkH n0 own Hg h b = none := by
  rw [mkH_own hb m, e]
end
/-- a plain object is no cell -/
theorem plain_cell {P : Program} {w : World} {H : Hp} {h : Heap} {b : Addr} {u : HO} (p : plainK u = true) (x : ObjOk P w H h b u) : ∃ o, h.get? b = some o ∧ cellB o = false := by
  cases u with
  | lst xs => obtain ⟨_, its, n, _, e⟩ := x; exact ⟨_, e, rfl⟩
  | tup xs => obtain ⟨_, its, _, o, e, _, n, d⟩ := x; exact ⟨o, e, cellB_yes fun v z => by rw [d] at z; cases z⟩
  | dK kvs => obtain ⟨_, _, vs, _, o, es, ep, e, ex, d, _⟩ := x; exact ⟨o, e, cellB_yes fun v z => by rw [d] at z; cases z⟩
  | _ => cases p
/-- a plain object's description leans on nothing else -/
theorem plain_stay {P : Program} {w : World} {H H' : Hp} {h h' : Heap} {b : Addr} {u : HO} (p : plainK u = true) (x : ObjOk P w H h b u) (k : ∀ o, h.get? b = some o → h'.get? b = some o) : ObjOk P w H' h' b u := by
  cases u with
  | lst xs => obtain ⟨z, its, n, r, e⟩ := x; exact ⟨z, its, n, r, k _ e⟩
  | tup xs => obtain ⟨z, its, r, o, e, c⟩ := x; exact ⟨z, its, r, o, k _ e, c⟩
  | dK kvs => obtain ⟨z, y, vs, r, o, es, ep, e, c⟩ := x; exact ⟨z, y, vs, r, o, es, ep, k _ e, c⟩
  | _ => cases p
/-- it sleeps: H, h are what the other side knows and holds -/
structure Slp (G : Gp) (n0 : Nat) (own : List Addr) (ip : List (Addr × Obj)) (σg : L2.St) (Hg H : Hp) (h : Heap) : Prop where
  inv : ∃ ix sy, ix.s0.heap.objs.size = n0 ∧ Inv (G.X ix) ip σg Hg sy ∧ ∀ b ∈ own, H b = none → sy.heap.get? b = h.get? b
  old : ∀ b, b < n0 → ∀ u, Hg b = some u → ∃ xs, u = .tup xs ∧ H b = some u
  ow : ∀ b ∈ own, n0 ≤ b ∧ (∃ o, h.get? b = some o ∧ cellB o = false) ∧ (H b = none ∨ ∃ xs, H b = some (.tup xs) ∧ Hg b = some (.tup xs))
  pl : ∀ b u, n0 ≤ b → plainK u = true → Hg b = some u → b ∈ own
  tup : ∀ b xs, n0 ≤ b → Hg b = some (.tup xs) → H b = some (.tup xs)
  loc : G.env.locals ∈ own
  ips : ∀ p ∈ ip, p.1 ∈ own
  cells : G.env.cells = []
/-- it may be woken -/
structure Rdy (G : Gp) (n0 : Nat) (own : List Addr) (ip : List (Addr × Obj)) (σg : L2.St) (Hg H : Hp) (s : Shared) : Prop where
  inv : Inv (G.X (ixOf n0 own Hg s)) ip σg (mkH n0 own Hg s.heap) s
  sz : n0 ≤ s.heap.objs.size
  keep : KeepP Hg (mkH n0 own Hg s.heap)
  old : ∀ b, b < n0 → ∀ u, Hg b = some u → ∃ xs, u = .tup xs ∧ H b = some u
  ow : ∀ b ∈ own, n0 ≤ b ∧ (∃ o, s.heap.get? b = some o ∧ cellB o = false) ∧ (H b = none ∨ ∃ xs, H b = some (.tup xs) ∧ Hg b = some (.tup xs))
  loc : G.env.locals ∈ own
  cells : G.env.cells = []
def plst (own : List Addr) (H : Hp) (h : Heap) : List (Addr × Obj) := own.filterMap fun b => if (H b).isNone = true then (h.get? b).map fun o => (b, o) else none
theorem mem_plst {own : List Addr} {H : Hp} {h : Heap} {b : Addr} {o : Obj} (m : b ∈ own) (n : H b = none) (e : h.get? b = some o) : (b, o) ∈ plst own H h :=
  List.mem_filterMap.mpr ⟨b, m, by rw [n, e]; rfl⟩
theorem of_plst {own : List Addr} {H : Hp} {h : Heap} {p : Addr × Obj} (m : p ∈ plst own H h) : p.1 ∈ own ∧ H p.1 = none ∧ h.get? p.1 = some p.2 := by
  obtain ⟨b, hb, e⟩ := List.mem_filterMap.mp m
  by_cases n : (H b).isNone = true
  · rw [if_pos n] at e
    cases q : h.get? b with
    | none => rw [q] at e; cases e
    | some o =>
      rw [q] at e
      cases e
      exact ⟨hb, Option.isNone_iff_eq_none.mp n, q⟩
  · rw [if_neg n] at e; cases e
/-- the consumer and the generator speak of the same program; the generator was made within the consumer's frame -/
structure Fit0 (X : Cx) (G : Gp) (n0 : Nat) : Prop where
  P : G.P = X.prog
  w : G.w = X.w
  base : G.base = X.base
  outer : G.outer = X.stack
  frs : ∀ b ∈ frs X.stack, b < n0
structure Fit (X : Cx) (G : Gp) (n0 : Nat) (pins : List (Addr × Obj)) : Prop extends Fit0 X G n0 where
  s0 : X.s_0.heap.objs.size ≤ n0
  loc : X.env.locals < n0
  cell : ∀ x c, X.env.cells.lookup x = some c → c < n0
  pin : ∀ p ∈ X.pn ++ pins, p.1 < n0
/-- what may change, by the consumer's own things -/
def ChOk (X : Cx) (pins : List (Addr × Obj)) (b : Addr) : Prop := (b ∈ X.ex ∨ X.s_0.heap.objs.size ≤ b) ∧ b ≠ X.env.locals ∧ (∀ x c, X.env.cells.lookup x = some c → c ≠ b) ∧ ∀ p ∈ X.pn ++ pins, p.1 ≠ b
theorem Fit.ch {X : Cx} {G : Gp} {n0 : Nat} {pins : List (Addr × Obj)} (F : Fit X G n0 pins) {b : Addr} (h1 : n0 ≤ b) : ChOk X pins b :=
  ⟨.inr (Nat.le_trans F.s0 h1), fun z => absurd (Nat.lt_of_lt_of_le (z ▸ F.loc) h1) (Nat.lt_irrefl _), fun x c e z => absurd (Nat.lt_of_lt_of_le (F.cell x c e) (z ▸ h1)) (Nat.lt_irrefl _), fun p hp z => absurd (Nat.lt_of_lt_of_le (F.pin p hp) (z ▸ h1)) (Nat.lt_irrefl _)⟩
theorem Slp.wake0 {X : Cx} {G : Gp} {n0 : Nat} {own : List Addr} {ip pins : List (Addr × Obj)} {σg σ' : L2.St} {Hg H H' : Hp} {h : Heap} {s : Shared} (Z : Slp G n0 own ip σg Hg H h) (F : Fit0 X G n0) (I : Inv X (pins ++ plst own H h) σ' H' s) (kt : KeepU H H') :
    Rdy G n0 own ip σg Hg H' s := by
  obtain ⟨ix, sy, hix, J, same⟩ := Z.inv
  have sz : n0 ≤ s.heap.objs.size := by
    obtain ⟨o1, ⟨oL, hoL, _⟩, _⟩ := (Z.ow _ Z.loc)
    have h3 : n0 ≤ G.env.locals := o1
    have h4 : G.env.locals < s.heap.objs.size := by
      rcases (Z.ow _ Z.loc).2.2 with n | ⟨xs, e, e2⟩
      · have := (I.pin (G.env.locals, oL) (List.mem_append_right _ (List.mem_append_right _ (mem_plst Z.loc n hoL)))).1
        exact Heap.lt_size this
      · have z : Hg G.env.locals = none := J.free
        rw [z] at e2; cases e2
    exact Nat.le_of_lt (Nat.lt_of_le_of_lt h3 h4)
  have pinned : ∀ b ∈ own, H b = none → ∀ o, h.get? b = some o → s.heap.get? b = some o ∧ H' b = none := fun b m n o e => by
    have := I.pin (b, o) (List.mem_append_right _ (List.mem_append_right _ (mem_plst m n e)))
    exact ⟨this.1, this.2.1⟩
  have own' : ∀ b ∈ own, n0 ≤ b ∧ (∃ o, s.heap.get? b = some o ∧ cellB o = false) ∧ (H' b = none ∨ ∃ xs, H' b = some (.tup xs) ∧ Hg b = some (.tup xs)) := fun b m => by
    obtain ⟨o1, ⟨o, ho, hc⟩, o3⟩ := Z.ow b m
    rcases o3 with n | ⟨xs, e, e2⟩
    · obtain ⟨p1, p2⟩ := pinned b m n o ho
      exact ⟨o1, ⟨o, p1, hc⟩, .inl p2⟩
    · have := kt b xs e
      exact ⟨o1, plain_cell (u := .tup xs) rfl (I.hok b _ this), .inr ⟨xs, this, e2⟩⟩
  have old' : ∀ b, b < n0 → ∀ u, Hg b = some u → ∃ xs, u = .tup xs ∧ H' b = some u := fun b hb u e => by
    obtain ⟨xs, rfl, e2⟩ := Z.old b hb u e
    exact ⟨xs, rfl, kt b xs e2⟩
  have phys : ∀ b ∈ own, (∀ xs, Hg b ≠ some (.tup xs)) → ∀ o, sy.heap.get? b = some o → s.heap.get? b = some o := fun b m nt o e => by
    rcases (Z.ow b m).2.2 with n | ⟨xs, _, e2⟩
    · rw [same b m n] at e
      exact (pinned b m n o e).1
    · exact absurd e2 (nt xs)
  have csz : (cutH s.heap n0).objs.size = n0 := cut_size sz
  have locN : Hg G.env.locals = none := J.free
  refine ⟨?_, sz, fun b u p e => ?_, old', own', Z.loc, Z.cells⟩
  · refine ⟨⟨J.ok.mod, J.ok.kind, J.ok.glob, J.ok.blt, ?_, J.ok.inj, J.ok.has, fun x c _ e => ?_, J.ok.hd, J.ok.frames, J.ok.stk, fun b hb => ?_, fun b o e => ?_, ?_, fun b o _ hb => ?_, fun b hb => ?_, ?_, fun b hb => ?_⟩, rfl, I.bare, ?_, ?_, fun x c e => ?_, ?_, fun x c e => ?_, fun p hp => ?_, fun b u e => ?_, J.len⟩
    · show (cutH s.heap n0).objs.size ≤ G.env.locals
      rw [csz]
      exact (Z.ow _ Z.loc).1
    · have e : G.env.cells.lookup x = some c := e
      rw [Z.cells] at e; cases e
    · exact absurd (show b ∈ ([] : List Addr) from hb) (by simp)
    · have hb : b < n0 := Nat.lt_of_lt_of_le (Heap.lt_size e) (by rw [← hix]; exact J.ok.bsz)
      have e' : X.base.get? b = some o := by rw [← F.base]; exact e
      refine ⟨by show (cutH s.heap n0).get? b = some o; rw [cut_get hb]; exact I.bk b o e', ?_⟩
      show mkH n0 own Hg s.heap b = none
      rw [mkH_old hb]
      exact (J.bs b o e).2
    · show G.base.objs.size ≤ (cutH s.heap n0).objs.size
      rw [csz, ← hix]
      exact J.ok.bsz
    · exact absurd (show b ∈ ([] : List Addr) from hb) (by simp)
    · exact absurd (show b ∈ ([] : List Addr) from hb) (by simp)
    · show (cutH s.heap n0).FunFrames G.base G.outer
      rw [F.base, F.outer]
      exact cut_frames I.stack F.frs
    · have hb' : b ∈ L2.frs X.stack := by rw [← F.outer]; exact hb
      show mkH n0 own Hg s.heap b = none
      rw [mkH_old (F.frs b hb')]
      have hb2 : b ∈ L2.frs (G.X ix).stack := by
        show b ∈ L2.frs (G.env :: G.outer)
        unfold L2.frs
        rw [List.filterMap_cons]
        cases G.env.frame with
        | none => exact hb
        | some _ => exact List.mem_cons_of_mem _ hb
      exact J.stkFree b hb2
    · exact Un.kept fun b u e => (cut_of sz e).2
    · obtain ⟨m, hn, hl⟩ := J.loc
      refine ⟨m, ?_, fun i x v a b c => ?_⟩
      · obtain ⟨o, es, ep, ho, r⟩ := hn
        exact ⟨o, es, ep, phys _ Z.loc (fun xs z => by rw [locN] at z; cases z) o ho, r⟩
      · obtain ⟨u, ru, lk⟩ := hl i x v a b c
        refine ⟨u, ru, ?_⟩
        rcases lk with lk | ⟨_, c', lk, _⟩
        · exact .inl lk
        · have lk : G.env.cells.lookup x = some c' := lk
          rw [Z.cells] at lk; cases lk
    · have e : G.env.cells.lookup x = some c := e
      rw [Z.cells] at e; cases e
    · exact mkH_ownN (Z.ow _ Z.loc).1 Z.loc locN
    · have e : G.env.cells.lookup x = some c := e
      rw [Z.cells] at e; cases e
    · have hp : p ∈ ([] : List (Addr × Obj)) ++ ip := hp
      rw [List.nil_append] at hp
      obtain ⟨p1, p2, p3, p4, p5⟩ := J.pin p (List.mem_append_right _ hp)
      have m := Z.ips p hp
      exact ⟨phys _ m (fun xs z => by rw [p2] at z; cases z) _ p1, mkH_ownN (Z.ow _ m).1 m p2, p3, p4, p5⟩
    · by_cases hb : b < n0
      · rw [mkH_old hb] at e
        obtain ⟨xs, rfl, e2⟩ := old' b hb u e
        have := I.hok b _ e2
        show ObjOk G.P G.w _ _ _ _
        rw [F.P, F.w]
        exact plain_stay rfl this fun _ z => z
      · by_cases m : b ∈ own
        · rw [mkH_own (Nat.not_lt.mp hb) m] at e
          cases hg : Hg b with
          | none => rw [hg] at e; cases e
          | some u' =>
            rw [hg] at e
            by_cases p : plainK u' = true
            · have e : (if plainK u' = true then some u' else none) = some u := e
              rw [if_pos p] at e
              have e := Option.some.inj e
              subst e
              by_cases ht : ∃ xs, u' = .tup xs
              · obtain ⟨xs, rfl⟩ := ht
                rcases (own' b m).2.2 with n | ⟨ys, e1, e2⟩
                · exfalso
                  have h2 := kt b xs (Z.tup b xs (Nat.not_lt.mp hb) hg)
                  rw [n] at h2; cases h2
                · have := I.hok b _ e1
                  rw [hg] at e2
                  cases e2
                  show ObjOk G.P G.w _ _ _ _
                  rw [F.P, F.w]
                  exact plain_stay rfl this fun _ z => z
              · exact plain_stay p (J.hok b _ hg) fun o z => phys b m (fun xs z => ht ⟨xs, by rw [hg] at z; exact Option.some.inj z⟩) o z
            · have e : (if plainK u' = true then some u' else none) = some u := e
              rw [if_neg p] at e; cases e
        · cases hg : s.heap.get? b with
          | none => rw [mkH_none (Nat.not_lt.mp hb) m hg] at e; cases e
          | some o =>
            rw [mkH_for (Nat.not_lt.mp hb) m hg] at e
            cases e
            exact ⟨hg, trivial, ⟨o, hg⟩, fun _ _ _ _ => trivial⟩
  · by_cases hb : b < n0
    · rw [mkH_old hb]; exact e
    · exact mkH_ownS (Nat.not_lt.mp hb) (Z.pl b u (Nat.not_lt.mp hb) p e) e p
theorem Slp.wake {X : Cx} {G : Gp} {n0 : Nat} {own : List Addr} {ip pins : List (Addr × Obj)} {σg σ' : L2.St} {Hg H H' : Hp} {h : Heap} {s : Shared} (Z : Slp G n0 own ip σg Hg H h) (F : Fit X G n0 pins) (I : Inv X (pins ++ plst own H h) σ' H' s) (kt : KeepU H H') : Rdy G n0 own ip σg Hg H' s := Z.wake0 F.toFit0 I kt
/-! ### what is freed stays freed -/
structure NoRes (h h' : Heap) : Prop where
  sz : h.objs.size ≤ h'.objs.size
  no : ∀ b, b < h.objs.size → h.get? b = none → h'.get? b = none
theorem NoRes.refl (h : Heap) : NoRes h h := ⟨Nat.le_refl _, fun _ _ e => e⟩
theorem NoRes.trans {h h1 h2 : Heap} (a : NoRes h h1) (b : NoRes h1 h2) : NoRes h h2 := ⟨Nat.le_trans a.sz b.sz, fun c hc e => b.no c (Nat.lt_of_lt_of_le hc a.sz) (a.no c hc e)⟩
theorem noRes_push (h : Heap) (o : Obj) : NoRes h (h.push o) := by
  refine ⟨by rw [Heap.size_push]; exact Nat.le_succ _, fun b hb e => ?_⟩
  have q : (h.objs.push o)[b]? = h.objs[b]? := by
    rw [Array.getElem?_push]
    rw [if_neg (Nat.ne_of_lt hb)]
  unfold Heap.get? at e ⊢
  show (match (h.objs.push o)[b]? with | some ⟨_, _, .freed, _⟩ => none | o => o) = none
  rw [q]
  exact e
theorem noRes_update (h : Heap) (a : Addr) (f : Obj → Obj) (ha : (h.get? a).isSome = true) : NoRes h (h.update a f) := by
  refine ⟨?_, fun b hb e => ?_⟩
  · show h.objs.size ≤ (h.objs.modify a f).size
    rw [Array.size_modify]
    exact Nat.le_refl _
  · by_cases hba : b = a
    · subst hba
      rw [e] at ha
      cases ha
    · rw [Heap.get?_update_other _ _ (fun z => hba z.symm)]
      exact e
theorem runs_noRes {M : Model} {Γ : PySem.Ctx} {p : Pos} {t : Sem PySem.Fin} {fs : List Frame} {s s' : Shared} {e : End} (h : Runs M Γ p t fs s e s') : NoRes s.heap s'.heap := by
  induction h with
  | done => exact .refl _
  | raise => exact .refl _
  | yield => exact .refl _
  | update ha _ ih => exact (noRes_update _ _ _ ha).trans ih
  | alloc _ ih => exact (noRes_push _ _).trans ih
  | call _ _ a b => exact a.trans b
  | resumeFresh _ _ _ _ a b => exact a.trans b
  | resumeSuspended _ _ _ _ a b => exact a.trans b
  | segRet _ _ a b => exact a.trans b
  | segGen _ _ a b => exact a.trans b
  | segSuspGen _ _ _ _ a b => exact a.trans b
  | _ => assumption
/-! ### behind a run -/
def ownOf (n0 : Nat) (own : List Addr) (h h2 : Heap) : List Addr :=
  (List.range h2.objs.size).filter fun b => decide (n0 ≤ b) && ((decide (b ∈ own) || decide (h.objs.size ≤ b)) && (match h2.get? b with | some o => !cellB o | none => false))
theorem mem_ownOf {n0 : Nat} {own : List Addr} {h h2 : Heap} {b : Addr} : b ∈ ownOf n0 own h h2 ↔ n0 ≤ b ∧ (b ∈ own ∨ h.objs.size ≤ b) ∧ ∃ o, h2.get? b = some o ∧ cellB o = false := by
  unfold ownOf
  rw [List.mem_filter, Bool.and_eq_true, Bool.and_eq_true, Bool.or_eq_true, decide_eq_true_eq, decide_eq_true_eq, decide_eq_true_eq, List.mem_range]
  constructor
  · rintro ⟨_, h1, h2', h3⟩
    refine ⟨h1, h2', ?_⟩
    cases q : h2.get? b with
    | none => rw [q] at h3; cases h3
    | some o =>
      rw [q] at h3
      exact ⟨o, rfl, by simpa using h3⟩
  · rintro ⟨h1, h2', o, q, c⟩
    exact ⟨Heap.lt_size q, h1, h2', by rw [q]; show (!cellB o) = true; rw [c]; rfl⟩
def chOf (n0 : Nat) (own : List Addr) (h h2 : Heap) : List Addr := (List.range (max h.objs.size h2.objs.size)).filter fun b => decide (n0 ≤ b) && (decide (b ∈ own) || decide (h.objs.size ≤ b))
theorem mem_chOf {n0 : Nat} {own : List Addr} {h h2 : Heap} {b : Addr} : b ∈ chOf n0 own h h2 ↔ b < max h.objs.size h2.objs.size ∧ n0 ≤ b ∧ (b ∈ own ∨ h.objs.size ≤ b) := by
  unfold chOf
  rw [List.mem_filter, Bool.and_eq_true, Bool.or_eq_true, decide_eq_true_eq, decide_eq_true_eq, decide_eq_true_eq, List.mem_range]
def mrg (n0 : Nat) (H Hg : Hp) : Hp := fun b => match H b with
  | some u => some u
  | none => if b < n0 then none else (match Hg b with | some (.tup xs) => some (.tup xs) | _ => none)
theorem mrg_some {n0 : Nat} {H Hg : Hp} {b : Addr} {u : HO} (e : H b = some u) : mrg n0 H Hg b = some u := by
  unfold mrg
  rw [e]
theorem mrg_tup {n0 : Nat} {H Hg : Hp} {b : Addr} {xs : List V} (e : H b = none) (hb : n0 ≤ b) (t : Hg b = some (.tup xs)) : mrg n0 H Hg b = some (.tup xs) := by
  unfold mrg
  rw [e]
  show (if b < n0 then none else _) = _
  rw [if_neg (Nat.not_lt.mpr hb), t]
theorem mrg_no {n0 : Nat} {H Hg : Hp} {b : Addr} (e : H b = none) (h : b < n0 ∨ ∀ xs, Hg b ≠ some (.tup xs)) : mrg n0 H Hg b = none := by
  unfold mrg
  rw [e]
  show (if b < n0 then none else _) = _
  by_cases hb : b < n0
  · rw [if_pos hb]
  · rw [if_neg hb]
    rcases h with h | h
    · exact absurd h hb
    · cases q : Hg b with
      | none => rfl
      | some u =>
        cases u with
        | tup xs => exact absurd q (h xs)
        | _ => rfl
theorem mrg_of {n0 : Nat} {H Hg : Hp} {b : Addr} {u : HO} (e : H b = none) (m : mrg n0 H Hg b = some u) : n0 ≤ b ∧ ∃ xs, u = .tup xs ∧ Hg b = some (.tup xs) := by
  by_cases hb : b < n0
  · rw [mrg_no e (.inl hb)] at m; cases m
  · by_cases ht : ∃ xs, Hg b = some (.tup xs)
    · obtain ⟨xs, ht⟩ := ht
      rw [mrg_tup e (Nat.not_lt.mp hb) ht] at m
      cases m
      exact ⟨Nat.not_lt.mp hb, xs, rfl, ht⟩
    · rw [mrg_no e (.inr fun xs z => ht ⟨xs, z⟩)] at m; cases m
theorem Rdy.slept0 {X : Cx} {G : Gp} {n0 : Nat} {own : List Addr} {ip ip' pins : List (Addr × Obj)} {σ σg σg' : L2.St} {Hg Hg' H : Hp} {s s2 : Shared} (R : Rdy G n0 own ip σg Hg H s) (F : Fit0 X G n0) (hch : ∀ b, n0 ≤ b → (b ∈ own ∨ s.heap.objs.size ≤ b) → ChOk X pins b) (I : Inv X pins σ H s)
    (J : Inv (G.X (ixOf n0 own Hg s)) ip' σg' Hg' s2) (hip : ∀ p ∈ ip', n0 ≤ p.1) (nr : NoRes s.heap s2.heap) :
    Inv X pins σ (mrg n0 H Hg') s2 ∧ Slp G n0 (ownOf n0 own s.heap s2.heap) ip' σg' Hg' (mrg n0 H Hg') s2.heap ∧ KeepU Hg' (mrg n0 H Hg') ∧ (∀ b, n0 ≤ b → b ∉ own → ∀ o, s.heap.get? b = some o → s2.heap.get? b = some o) := by
  have U := J.base
  have sz := R.sz
  have exi : ∀ {b : Addr} {u : HO}, Hg' b = some u → ∃ o, s2.heap.get? b = some o := fun {b u} e => by
    cases q : s2.heap.get? b with
    | some o => exact ⟨o, rfl⟩
    | none =>
      have := J.hok b u e
      have no : False := by
        cases u with
        | lst xs => obtain ⟨_, _, _, _, z⟩ := this; rw [q] at z; cases z
        | tup xs => obtain ⟨_, _, _, _, z, _⟩ := this; rw [q] at z; cases z
        | dK kvs => obtain ⟨_, _, _, _, _, _, _, z, _⟩ := this; rw [q] at z; cases z
        | dT kvs => obtain ⟨_, _, _, _, _, _, _, z, _⟩ := this; rw [q] at z; cases z
        | set S n => obtain ⟨_, _, _, _, z, _⟩ := this; rw [q] at z; cases z
        | ins C dx fs => obtain ⟨_, _, _, z, _⟩ := this; rw [q] at z; cases z
        | own y => obtain ⟨_, z⟩ := this; rw [q] at z; cases z
        | xd fs => obtain ⟨_, ⟨_, _, _, z, _⟩, _⟩ := this; rw [q] at z; cases z
        | rng lo hi => obtain ⟨_, _, _, z⟩ := this; rw [q] at z; cases z
        | frz ob v => obtain ⟨z, _⟩ := this; rw [q] at z; cases z
        | tbl ps =>
          have z : s2.heap.get? b = some _ := this
          rw [q] at z; cases z
        | met f y =>
          have z : s2.heap.get? b = some _ := this
          rw [q] at z; cases z
        | ext φ => obtain ⟨_, ⟨_, z⟩, _⟩ := this; rw [q] at z; cases z
      exact no.elim
  have gone : ∀ {b : Addr}, b < s.heap.objs.size → s.heap.get? b = none → Hg' b = none := fun {b} hb e => by
    cases q : Hg' b with
    | none => rfl
    | some u =>
      obtain ⟨o, ho⟩ := exi q
      rw [nr.no b hb e] at ho; cases ho
  have old : ∀ b, b < n0 → Hg' b = Hg b := fun b hb => by
    cases q : Hg b with
    | some u =>
      obtain ⟨xs, rfl, _⟩ := R.old b hb u q
      exact U.tups b xs (by show mkH n0 own Hg s.heap b = _; rw [mkH_old hb]; exact q)
    | none =>
      cases e : s.heap.get? b with
      | none => exact gone (Nat.lt_of_lt_of_le hb sz) e
      | some o => exact U.free b o (by show (cutH s.heap n0).get? b = some o; rw [cut_get hb]; exact e) (by show mkH n0 own Hg s.heap b = none; rw [mkH_old hb]; exact q) (by show b ∉ ([] : List Addr); simp)
  have frn : ∀ b, n0 ≤ b → b ∉ own → ∀ o, s.heap.get? b = some o → Hg' b = some (frzO o) ∧ s2.heap.get? b = some o := fun b hb m o e => by
    have z := U.frzs b o _ (show mkH n0 own Hg s.heap b = some (.frz o (.ext fun _ => True)) from mkH_for hb m e)
    exact ⟨z, (J.hok b _ z).1⟩
  have low : ∀ b, b < n0 → Hg b = none → b ∉ L2.frs X.stack → ∀ o, s.heap.get? b = some o → s2.heap.get? b = some o := fun b hb n hf o e =>
    U.keep b o (by show (cutH s.heap n0).get? b = some o; rw [cut_get hb]; exact e) (by show mkH n0 own Hg s.heap b = none; rw [mkH_old hb]; exact n) (by show b ∉ L2.frs G.outer; rw [F.outer]; exact hf) (by show b ∉ ([] : List Addr); simp)
  have trk : ∀ c u, H c = some u → (∀ xs, u ≠ .tup xs) → ∀ v, s.heap.get? c = some v → s2.heap.get? c = some v := fun c u e nt v ev => by
    by_cases hc : c < n0
    · refine low c hc ?_ (fun m => by rw [I.stkFree c m] at e; cases e) v ev
      cases q : Hg c with
      | none => rfl
      | some u' =>
        obtain ⟨xs, rfl, e2⟩ := R.old c hc u' q
        rw [e] at e2
        exact absurd (Option.some.inj e2) (nt xs)
    · refine (frn c (Nat.not_lt.mp hc) (fun m => ?_) v ev).2
      rcases (R.ow c m).2.2 with n | ⟨xs, e2, _⟩
      · rw [e] at n; cases n
      · rw [e] at e2
        exact absurd (Option.some.inj e2) (nt xs)
  have ownT : ∀ b xs, b ∈ own → Hg b = some (.tup xs) → Hg' b = some (.tup xs) := fun b xs m e => U.tups b xs (mkH_ownS (R.ow b m).1 m e rfl)
  have notF : ∀ b, n0 ≤ b → ∀ u, Hg' b = some u → plainK u = true → b ∈ own ∨ s.heap.objs.size ≤ b := fun b hb u e p => by
    by_cases m : b ∈ own
    · exact .inl m
    · by_cases hs : b < s.heap.objs.size
      · exfalso
        cases q : s.heap.get? b with
        | none => rw [gone hs q] at e; cases e
        | some o =>
          rw [(frn b hb m o q).1] at e
          cases e
          cases p
      · exact .inr (Nat.not_lt.mp hs)
  have tupM : ∀ b xs, n0 ≤ b → Hg' b = some (.tup xs) → mrg n0 H Hg' b = some (.tup xs) := fun b xs hb e => by
    cases q : H b with
    | none => exact mrg_tup q hb e
    | some u =>
      rcases notF b hb _ e rfl with m | hs
      · rcases (R.ow b m).2.2 with n | ⟨ys, e1, e2⟩
        · rw [q] at n; cases n
        · rw [ownT b ys m e2] at e
          cases e
          exact mrg_some e1
      · rw [I.hok.fresh hs] at q; cases q
  have loc := R.loc
  refine ⟨?_, ?_, ?_, fun b hb m o e => (frn b hb m o e).2⟩
  · refine I.call' (ch := chOf n0 own s.heap s2.heap) J.os ⟨fun b o e n hf hc => ?_, fun b o e n hf hc => ?_, fun b o e n hc => ?_, fun b o e hc => ?_, fun b xs e => mrg_some e, fun b o u e => mrg_some e, fun b ps e => ⟨#[], by rw [mrg_some e]; first | rfl | simp⟩⟩ (fun b u e => ?_) J.bare fun b hb => ?_
    · by_cases hb : b < n0
      · refine low b hb ?_ hf o e
        cases q : Hg b with
        | none => rfl
        | some u =>
          obtain ⟨xs, rfl, e2⟩ := R.old b hb u q
          rw [n] at e2; cases e2
      · have hs := Heap.lt_size e
        exact (frn b (Nat.not_lt.mp hb) (fun m => hc (mem_chOf.mpr ⟨Nat.lt_of_lt_of_le hs (Nat.le_max_left _ _), Nat.not_lt.mp hb, .inl m⟩)) o e).2
    · have hb := F.frs b hf
      refine U.slot b o (by show (cutH s.heap n0).get? b = some o; rw [cut_get hb]; exact e) ?_ (by show b ∈ L2.frs G.outer; rw [F.outer]; exact hf) (by show b ∉ ([] : List Addr); simp)
      show mkH n0 own Hg s.heap b = none
      rw [mkH_old hb]
      cases q : Hg b with
      | none => rfl
      | some u =>
        obtain ⟨xs, rfl, e2⟩ := R.old b hb u q
        rw [n] at e2; cases e2
    · by_cases hb : b < n0
      · exact mrg_no n (.inl hb)
      · have hs := Heap.lt_size e
        have := (frn b (Nat.not_lt.mp hb) (fun m => hc (mem_chOf.mpr ⟨Nat.lt_of_lt_of_le hs (Nat.le_max_left _ _), Nat.not_lt.mp hb, .inl m⟩)) o e).1
        exact mrg_no n (.inr fun xs z => by rw [this] at z; cases z)
    · by_cases hb : b < n0
      · exact U.there b o (by show (cutH s.heap n0).get? b = some o; rw [cut_get hb]; exact e) (by show b ∉ ([] : List Addr); simp)
      · have hs := Heap.lt_size e
        exact ⟨o, (frn b (Nat.not_lt.mp hb) (fun m => hc (mem_chOf.mpr ⟨Nat.lt_of_lt_of_le hs (Nat.le_max_left _ _), Nat.not_lt.mp hb, .inl m⟩)) o e).2⟩
    · have gen : ∀ xs, Hg' b = some (.tup xs) → ObjOk X.prog X.w (mrg n0 H Hg') s2.heap b (.tup xs) := fun xs z => by
        have := J.hok b _ z
        have this : ObjOk G.P G.w Hg' s2.heap b (.tup xs) := this
        rw [F.P, F.w] at this
        exact plain_stay rfl this fun _ z => z
      cases q : H b with
      | none =>
        obtain ⟨_, xs, rfl, z⟩ := mrg_of q e
        exact gen xs z
      | some u' =>
        rw [mrg_some q] at e
        have e := Option.some.inj e
        subst e
        have hx := I.hok b u' q
        by_cases ht : ∃ xs, u' = .tup xs
        · obtain ⟨xs, rfl⟩ := ht
          by_cases hb : b < n0
          · cases g : Hg b with
            | none => exact plain_stay rfl hx fun o z => low b hb g (fun m => by rw [I.stkFree b m] at q; cases q) o z
            | some u =>
              obtain ⟨ys, rfl, e2⟩ := R.old b hb u g
              rw [q] at e2
              cases e2
              exact gen xs (by rw [old b hb]; exact g)
          · by_cases m : b ∈ own
            · rcases (R.ow b m).2.2 with n | ⟨ys, e1, e2⟩
              · rw [q] at n; cases n
              · rw [q] at e1
                cases e1
                exact gen xs (ownT b xs m e2)
            · exact plain_stay rfl hx fun o z => (frn b (Nat.not_lt.mp hb) m o z).2
        · refine hx.stay (fun c v hc z => ?_) (fun c z => mrg_some z) fun c xs z => mrg_some z
          rcases hc with rfl | hc
          · exact trk c u' q (fun xs z => ht ⟨xs, z⟩) v z
          · exact trk c _ hc (fun xs z => by cases z) v z
    · obtain ⟨_, h1, h2⟩ := mem_chOf.mp hb
      exact hch b h1 h2
  · refine ⟨⟨_, s2, cut_size sz, J, fun _ _ _ => rfl⟩, fun b hb u e => ?_, fun b hb => ?_, fun b u hb p e => ?_, tupM, ?_, fun p hp => ?_, R.cells⟩
    · rw [old b hb] at e
      obtain ⟨xs, rfl, e2⟩ := R.old b hb u e
      exact ⟨xs, rfl, mrg_some e2⟩
    · obtain ⟨h1, h2, h3⟩ := mem_ownOf.mp hb
      refine ⟨h1, h3, ?_⟩
      by_cases ht : ∃ xs, Hg' b = some (.tup xs)
      · obtain ⟨xs, ht⟩ := ht
        exact .inr ⟨xs, tupM b xs h1 ht, ht⟩
      · refine .inl (mrg_no ?_ (.inr fun xs z => ht ⟨xs, z⟩))
        rcases h2 with m | hs
        · rcases (R.ow b m).2.2 with n | ⟨xs, _, e2⟩
          · exact n
          · exact absurd ⟨xs, ownT b xs m e2⟩ ht
        · exact I.hok.fresh hs
    · exact mem_ownOf.mpr ⟨hb, notF b hb u e p, plain_cell p (J.hok b u e)⟩
    · obtain ⟨m, ⟨o, es, ep, ho, hd, _⟩, _⟩ := J.loc
      exact mem_ownOf.mpr ⟨(R.ow _ R.loc).1, .inl R.loc, o, ho, cellB_yes fun v z => by rw [hd] at z; cases z⟩
    · obtain ⟨p1, p2, _, _, p5⟩ := J.pin p (List.mem_append_right _ hp)
      refine mem_ownOf.mpr ⟨hip p hp, ?_, _, p1, cellB_yes p5⟩
      by_cases m : p.1 ∈ own
      · exact .inl m
      · by_cases hs : p.1 < s.heap.objs.size
        · exfalso
          cases q : s.heap.get? p.1 with
          | none => rw [nr.no _ hs q] at p1; cases p1
          | some o => rw [(frn _ (hip p hp) m o q).1] at p2; cases p2
        · exact .inr (Nat.not_lt.mp hs)
  · intro b xs e
    by_cases hb : b < n0
    · rw [old b hb] at e
      obtain ⟨_, _, e2⟩ := R.old b hb _ e
      exact mrg_some e2
    · exact tupM b xs (Nat.not_lt.mp hb) e
theorem Rdy.slept {X : Cx} {G : Gp} {n0 : Nat} {own : List Addr} {ip ip' pins : List (Addr × Obj)} {σ σg σg' : L2.St} {Hg Hg' H : Hp} {s s2 : Shared} (R : Rdy G n0 own ip σg Hg H s) (F : Fit X G n0 pins) (I : Inv X pins σ H s)
    (J : Inv (G.X (ixOf n0 own Hg s)) ip' σg' Hg' s2) (hip : ∀ p ∈ ip', n0 ≤ p.1) (nr : NoRes s.heap s2.heap) :
    Inv X pins σ (mrg n0 H Hg') s2 ∧ Slp G n0 (ownOf n0 own s.heap s2.heap) ip' σg' Hg' (mrg n0 H Hg') s2.heap ∧ KeepU Hg' (mrg n0 H Hg') ∧ (∀ b, n0 ≤ b → b ∉ own → ∀ o, s.heap.get? b = some o → s2.heap.get? b = some o) :=
  R.slept0 F.toFit0 (fun _ h _ => F.ch h) I J hip nr
/-! ### it is woken -/
def Goes3 (G : Gp) (It : List V → V → Hp → Prop) (Fn : List V → Hp → Prop) (n : Nat) (ip : List (Addr × Obj)) (σg : L2.St) (Hg : Hp) : GenState → Prop
  | .fresh c => ∀ ix' H' s', KeepP Hg H' → Inv (G.X ix') ip σg H' s' → Go (model G.P G.w) G.A (Fi G It Fn n ix') c ((model G.P G.w).den c) [] s'
  | .suspended k _ c _ fs _ => ∀ ix' H' s', KeepP Hg H' → Inv (G.X ix') ip σg H' s' → Go (model G.P G.w) G.A (Fi G It Fn n ix') c (k (.send .none)) fs s'
  | _ => False
/-- it ended -/
def FEnd (G : Gp) (Fn : List V → Hp → Prop) (n : Nat) (ix : Ix) (h : Heap) (s₁ : Shared) : Prop := ∃ ys ip σ H, n + ys.length = sizeLine ∧ Inv (G.X ix) ip σ H s₁ ∧ Fn ys H ∧ NoRes h s₁.heap
/-- it handed v out -/
def FOut (G : Gp) (It : List V → V → Hp → Prop) (Fn : List V → Hp → Prop) (n : Nat) (ix : Ix) (s : Shared) (v : Value) (s₁ : Shared) (gs : GenState) : Prop :=
  gs.bare = true ∧ gSlp gs = true ∧ s.gens.size ≤ s₁.gens.size ∧ ∃ m ys x ip σ H, n = m + 1 ∧ n + ys.length = sizeLine ∧ RelV x v ∧ Inv (G.X ix) ip σ H s₁ ∧ (∀ p ∈ ip, G.env.locals ≤ p.1) ∧ It ys x H ∧ NoRes s.heap s₁.heap ∧ Goes3 G It Fn m ip σ H gs
theorem resume3 {G : Gp} {It : List V → V → Hp → Prop} {Fn : List V → Hp → Prop} {n : Nat} {ip : List (Addr × Obj)} {σg : L2.St} {Hg H' : Hp} {ix : Ix} {E : Value → Shared → Prop} {s : Shared} {gi : Nat} {gs : GenState} {l : List Value} {α : Type} {k : GenResult → Sem α} {Q : α → Shared → Prop}
    (hg : s.gens[gi]? = some gs) (hgo : Goes3 G It Fn n ip σg Hg gs) (kp : KeepP Hg H') (I : Inv (G.X ix) ip σg H' (s.setGen gi .running))
    (hR : ∀ s₁, FEnd G Fn n ix s.heap s₁ → wpAny (model G.P G.w) G.A (k (.returned .none)) Q E (s₁.setGen gi .finished))
    (hY : ∀ v s₁ gs', FOut G It Fn n ix s v s₁ gs' → wpAny (model G.P G.w) G.A (k (.yielded v)) Q E (s₁.setGen gi gs')) :
    wpAny (model G.P G.w) G.A (.resume gi (.send .none) l k) Q E s := by
  intro Γ p hΓ
  rw [Sem.wp_resume]
  have hB : ∀ c, (Γ.wake c p).Woken G.A := fun c => hΓ.wake c p
  have fin : ∀ (e₁ : End) (s₁ : Shared), NoRes s.heap s₁.heap → s.gens.size ≤ s₁.gens.size → Fi G It Fn n ix e₁ s₁ → e₁.quiet = true ∧ Sem.wp (model G.P G.w) Γ (k e₁.result) (fun a _ s' => Q a s') (fun e _ s' => E e s') p (s₁.setGen gi e₁.genState) := by
    intro e₁ s₁ nr gz he
    cases e₁ with
    | ret x =>
      refine ⟨rfl, ?_⟩
      have he' : (x = .ok (.ret .none) ∨ x = .ok .next) ∧ ∃ ys ip σ H, n + ys.length = sizeLine ∧ Inv (G.X ix) ip σ H s₁ ∧ Fn ys H := by
        cases n with
        | zero => exact he
        | succ m => exact he
      obtain ⟨hx, ys, ip', σ', H2, h1, h2, h3⟩ := he'
      have e : (End.ret x).result = .returned .none := by rcases hx with rfl | rfl <;> rfl
      rw [e]
      exact hR s₁ ⟨ys, ip', σ', H2, h1, h2, h3, nr⟩ Γ p hΓ
    | susp v g l k' c' p' fs' =>
      cases n with
      | zero => exact he.elim
      | succ m =>
        obtain ⟨q, ys, x, ip', σ', H2, h1, h2, h3, h4, h5, h6⟩ := he
        exact ⟨q, hY v s₁ _ ⟨End.bare_of_quiet q, rfl, gz, m, ys, x, ip', σ', H2, rfl, h1, h2, h3, h4, h5, nr, h6⟩ Γ p hΓ⟩
  cases gs with
  | fresh c =>
    obtain ⟨e₁, s₁, hr, he⟩ := hgo ix H' (s.setGen gi .running) kp I (Γ.wake c p) p rfl (hB c)
    obtain ⟨q1, q2⟩ := fin e₁ s₁ (show NoRes s.heap s₁.heap from runs_noRes (s := s.setGen gi .running) hr) (by have := GenW.runs_gsz hr; rw [GenW.setGen_size] at this; exact this) he
    exact ⟨_, _, by unfold Wakes; rw [hg]; exact ⟨e₁, s₁, hr, q1, rfl, rfl⟩, q2⟩
  | suspended k₀ l₀ c₀ p₀ fs₀ cl =>
    obtain ⟨e₁, s₁, hr, he⟩ := hgo ix H' (s.setGen gi .running) kp I (Γ.wake c₀ p) p₀ rfl (hB c₀)
    obtain ⟨q1, q2⟩ := fin e₁ s₁ (show NoRes s.heap s₁.heap from runs_noRes (s := s.setGen gi .running) hr) (by have := GenW.runs_gsz hr; rw [GenW.setGen_size] at this; exact this) he
    exact ⟨_, _, by unfold Wakes; rw [hg]; exact ⟨e₁, s₁, hr, q1, rfl, rfl⟩, q2⟩
  | running => exact hgo.elim
  | finished => exact hgo.elim
theorem next3 {G : Gp} {A : Around} {It : List V → V → Hp → Prop} {Fn : List V → Hp → Prop} {n : Nat} {ip : List (Addr × Obj)} {σg : L2.St} {Hg H' : Hp} {ix : Ix} {E : Value → Shared → Prop} {s : Shared} {a : Addr} {gi : Nat} {gs : GenState} {Q : Option Value → Shared → Prop}
    (hA : G.A = A.in1) (hh : A.handled = none) (hl : s.heap.NoLimit) (hroom : A.depth < recursionLimit) (ha : s.heap.IsGen a gi) (hg : s.gens[gi]? = some gs) (hgo : Goes3 G It Fn n ip σg Hg gs) (kp : KeepP Hg H') (I : Inv (G.X ix) ip σg H' (s.setGen gi .running))
    (hR : ∀ s₁, FEnd G Fn n ix s.heap s₁ → ∀ h', (∀ b o, s₁.heap.get? b = some o → h'.get? b = some o) → Q none { s₁.setGen gi .finished with heap := h' })
    (hY : ∀ v s₁ gs', FOut G It Fn n ix s v s₁ gs' → Q (some v) (s₁.setGen gi gs')) :
    wpAny (model G.P G.w) A (pyNext (.ref a)) Q E s := by
  unfold pyNext
  refine wpAny_bind (wpAny_attempt ?_)
  refine wpAny_callSpecial?_slot (name := Str.ofString "__next__") ha.typeIs slot_gen_next ?_
  refine wpAny_call_entry slot_gen_next ha.typeIs entry_gen_next ?_ (args_gen_next _)
  show wpAny _ A.in1 (Builtin.Generator.genWake (.ref a) (.send .none)) _ _ s
  unfold Builtin.Generator.genWake
  refine wpAny_bind (wpAny_holding (wpAny_genNumber ha (wpAny_bind (wpAny_genState hg ?_))))
  cases gs with
  | running => exact hgo.elim
  | finished => exact hgo.elim
  | _ =>
    refine wpAny_bind (wpAny_roomToWake hl hroom ?_)
    show wpAny _ A.in1 (.resume gi (.send .none) [] _) _ _ s
    rw [← hA]
    refine resume3 hg hgo kp I (fun s₁ hx => ?_) fun v s₁ gs' hv => ?_
    · show wpAny _ G.A (newExc (.type "StopIteration") [] >>= _) _ _ _
      refine wpAny_bind ?_
      simp only [newExc, newTuple]
      refine wpAny_bind (wpAny_newObj_type ?_ (by size_fits))
      refine wpAny_bind (m := firstArgMember _ _) (wpAny_of_eq (a := Value.none) (by first | rfl | (simp only [firstArgMember]; rfl)) ?_)
      refine wpAny_newObj_type ?_ (by size_fits)
      simp only [raiseNew]
      refine wpAny_bind (wpAny_bind (wpAny_handled ?_))
      rw [hA, show A.in1.handled = none from hh]
      refine wpAny_throw ?_
      refine wpAny_bind (wpAny_isInstance (T := "StopIteration") (b := true) ⟨_, Heap.get?_push_size _ rfl, rfl⟩ isSubtype_stop ?_)
      exact wpAny_pure (hR s₁ hx _ fun b o hb => Heap.get?_push_of_some _ (Heap.get?_push_of_some _ hb))
    · exact wpAny_pure ⟨v, rfl, wpAny_pure (hY v s₁ gs' hv)⟩
/-! ### a generator def, by its body -/
def shr (H : Hp) : Hp := fun b => match H b with
  | some (.tup xs) => some (.tup xs)
  | _ => none
theorem shr_tup {H : Hp} {b : Addr} {xs : List V} (e : H b = some (.tup xs)) : shr H b = some (.tup xs) := by
  unfold shr
  rw [e]
theorem shr_none {H : Hp} {b : Addr} (e : H b = none) : shr H b = none := by
  unfold shr
  rw [e]
theorem shr_of {H : Hp} {b : Addr} {u : HO} (e : shr H b = some u) : ∃ xs, u = .tup xs ∧ H b = some (.tup xs) := by
  unfold shr at e
  cases q : H b with
  | none => rw [q] at e; cases e
  | some v =>
    rw [q] at e
    cases v with
    | tup xs => cases e; exact ⟨xs, rfl, rfl⟩
    | _ => cases e
theorem go_func {M : Program × World} {A : Around} {F : End → Shared → Prop} {fs : List Frame} {s : Shared} {env : Env} {body : List Stmt}
    (h : Go (model M.1 M.2) A F (.func body env) ((execs body env).wrap (fun f => .pure (.done (.ret (match f with | .ret v => v | _ => .none)))) (fun e => (leaving env e).wrap (fun _ => .raise e) .raise id id) id id) fs s) :
    Go (model M.1 M.2) A F (.func body env) ((model M.1 M.2).den (.func body env)) fs s := by
  show Go _ A F _ (.point [] fun _ => ((execs body env).onRaise (leaving env)) >>= _) fs s
  refine go_point ?_
  rw [Sem.onRaise_eq_wrap]
  rw [Sem.bind_eq_wrap']
  rw [Sem.wrap_wrap]
  rw [Sem.wrap_congr (execs body env) _ _ (K' := fun f => .pure (.done (.ret (match f with | .ret v => v | _ => .none)))) (H' := fun e => (leaving env e).wrap (fun _ => .raise e) .raise id id)
    (fun f => by cases f <;> rfl) fun e => by rw [Sem.bind_eq_wrap, Sem.wrap_wrap]; rfl]
  exact h
abbrev SpG3 := List V → Hp → (List V → V → Hp → Prop) → (List V → Hp → Prop) → Prop
/-- what a call of a generator def gives -/
def Made3 (P : Program) (w : World) (K : PySem.W.Frag) (mg : Str → Option Value) (base : Heap) (k : Nat) (outer : List Env) (H : Hp) (s : Shared) (It : List V → V → Hp → Prop) (Fn : List V → Hp → Prop) (u : Value) (s' : Shared) : Prop :=
  ∃ (a : Addr) (g : Nat) (c : Code) (go : Obj) (N : List Str) (env : Env) (σg : L2.St), u = .ref a ∧ s'.heap.get? a = some go ∧ (∀ h : Heap, h.get? a = some go → h.IsGen a g) ∧ cellB go = false ∧ s'.gens[g]? = some (.fresh c) ∧ s'.os = s.os ∧ AllBare s'.gens ∧
    (∀ b o, s.heap.get? b = some o → s'.heap.get? b = some o) ∧ env.locals = s.heap.objs.size ∧ env.cells = [] ∧ env.locals < a ∧
    ∀ Aw : Around, Room k Aw → Aw.frames = some outer → (∃ ix : Ix, ix.s0.heap.objs.size = s.heap.objs.size ∧ Inv (Gp.X ⟨P, w, K, mg, base, N, env, Aw, outer⟩ ix) [] σg (shr H) s') ∧
      Goes3 ⟨P, w, K, mg, base, N, env, Aw, outer⟩ It Fn sizeLine [] σg (shr H) (.fresh c)
structure GFn3 (P : Program) (w : World) (K : PySem.W.Frag) (mg : Str → Option Value) (base : Heap) (k : Nat) (f : Addr) (fd : FuncData) (ps : List Str) (sp : SpG3) : Prop where
  len : ∀ vs H It Fn, sp vs H It Fn → vs.length = ps.length
  run : ∀ (A : Around) (outer : List Env) (s : Shared) (H : Hp) (args : Args) (us : List Value) (vs : List V) (It : List V → V → Hp → Prop) (Fn : List V → Hp → Prop), Room k A → Env0 P w K mg base A outer s H → BindsTo s fd args (ps.zip us) → Vals vs us → sp vs (shr H) It Fn →
    codeAny (model P w) A (.call (.ref f) args) (fun r s' => match r with | .ok (.ret u) => Made3 P w K mg base k outer H s It Fn u s' | _ => False) s
theorem gfn3_of {P : Program} {w : World} {K : PySem.W.Frag} {mg : Str → Option Value} {base : Heap} {k : Nat} {f : Addr} {name qual : Str} {params : Arguments} {body : List Stmt} {scope : Scope} {dV kV doc pm cdv ct oc : Value} {an od : Option Addr}
    {osl : Array (Option Value)} {N ps : List Str} {sp : SpG3} (lk : K.lookup f = some ⟨oc, od, .func (PySem.W.fnOf name qual params body scope dV kV doc pm an cdv ct), osl⟩) (hcd : PySem.W.codeIn K cdv qual = true) (S : GScope N ps scope) (nc : ∀ n, cellsFrom n scope.names [] = [])
    (len : ∀ vs H It Fn, sp vs H It Fn → vs.length = ps.length)
    (hbody : ∀ (Aw : Around) (outer : List Env) (L : Addr) (vs : List V) (Hs : Hp) (It : List V → V → Hp → Prop) (Fn : List V → Hp → Prop), Room k (Aw.deeper (envOfC qual scope L f cdv)) → sp vs Hs It Fn →
      ∃ t, GSs3 ⟨P, w, K, mg, base, N, envOfC qual scope L f cdv, Aw, outer⟩ It body t ∧ ∀ H', KeepP Hs H' → t { nx := fun ys _ H' => Fn ys H', rt := fun ys v H' => v = .non ∧ Fn ys H' } [] (start N vs) H') :
    GFn3 P w K mg base (k + 1) f (PySem.W.fnOf name qual params body scope dV kV doc pm an cdv ct) ps sp := by
  refine ⟨len, fun A outer s H args us vs It Fn hr e0 hb r hsp => ?_⟩
  have hl := len _ _ _ _ hsp
  have KX : K.In s.heap := e0.mod.kin.keeps fun b o e => (e0.bs b o e).1
  have lim : s.heap.NoLimit := e0.mod.nolimit.keeps fun b o e => (e0.bs b o e).1
  have hkind : ∀ y ∈ ps.zip us, scope.names.lookup y.1 = some .local ∨ (scope.names.lookup y.1 = some .cell ∧ ((cellsFrom (s.heap.objs.size + 1) scope.names []).lookup y.1).isSome = true) := fun y hy => by
    obtain ⟨n, v⟩ := y
    rcases S.par n (List.of_mem_zip hy).1 with q | q
    · exact .inl q
    · exact .inr ⟨q, PySem.W.cellsFrom_some _ _ _ (.inl q)⟩
  refine codeAny_call_generator hr.depth (KX _ _ lk) rfl S.co S.gen rfl (PySem.W.codeRec_of KX hcd) (hb _ _ _ _ ?_)
  refine wpAny_newFunctionEnv_cells S.kind hkind fun env he s1 x => ?_
  subst he
  refine ⟨lim.keeps x.toInCall.keep, ?_⟩
  obtain ⟨h1, tk, es1, hk1⟩ := x.done
  have gen1 : s1.gens = s.gens := by rw [es1]
  have lt1 : s.heap.objs.size < s1.heap.objs.size := x.toInCall.ns.lt
  have main : ∀ (go : Obj) (nm qn : Value) (tk2 : Nat), go.cls = .type "generator" → go.data = .fields #[.int s1.gens.size 0, nm, qn] → go.slots = #[] → (∀ h : Heap, (h.push go).get? h.objs.size = some go) →
      Made3 P w K mg base (k + 1) outer H s It Fn (.ref s1.heap.objs.size) { s1 with gens := s1.gens.push (.fresh (.func body (envOfC qual scope s.heap.objs.size f cdv))), toks := tk2, heap := s1.heap.push go } := by
    intro go nm qn tk2 g1 g2 g3 g4
    have kp : ∀ b o, s1.heap.get? b = some o → (s1.heap.push go).get? b = some o := fun b o e => Heap.get?_push_of_some _ e
    refine ⟨s1.heap.objs.size, s1.gens.size, _, go, N, envOfC qual scope s.heap.objs.size f cdv, start N vs, rfl, g4 _, fun h e => ⟨go, nm, qn, e, g1, g2, g3⟩, ?_, Array.getElem?_push_size .., by rw [es1], ?_, fun b o e => kp b o (x.toInCall.keep b o e), rfl, nc _, lt1, fun Aw hrw hfr => ?_⟩
    · exact cellB_yes fun v z => by rw [g2] at z; cases z
    · exact AllBare.push (by rw [gen1]; exact e0.bare) rfl
    have e0w : Env0 P w K mg base Aw outer s H := ⟨hfr, e0.mod, e0.bs, e0.bsz, e0.funs, e0.frf, e0.hok, e0.bare⟩
    have I1 : Inv (gcxOf P w K mg base N qual scope f cdv Aw outer s H (fun _ _ _ => False) []) [] (start N vs) H s1 := inv_startG S hrw.hd e0w hl r x
    refine ⟨⟨⟨s, shr H, []⟩, rfl, ?_⟩, fun ix' H' s' kP I => ?_⟩
    · have cl : (envOfC qual scope s.heap.objs.size f cdv).cells = [] := nc _
      refine ⟨⟨I1.ok.mod, I1.ok.kind, I1.ok.glob, I1.ok.blt, I1.ok.above, I1.ok.inj, I1.ok.has, fun y c _ h => I1.ok.cab y c rfl h, I1.ok.hd, I1.ok.frames, I1.ok.stk, I1.ok.exf, fun b o e => ?_, I1.ok.bsz, I1.ok.noex, I1.ok.exfs, I1.ok.funs, fun b hb => shr_none (I1.ok.frf b hb)⟩,
        (by show s1.os = s.os; rw [es1]), AllBare.push (by rw [gen1]; exact e0.bare) rfl, Un.kept fun b u e => kp b u (x.toInCall.keep b u e), ?_, fun y c e => ?_, shr_none I1.free, fun y c e => ?_, fun p hp => ?_, fun b u e => ?_, I1.len⟩
      · obtain ⟨q1, q2⟩ := I1.ok.bs b o e
        exact ⟨q1, shr_none q2⟩
      · obtain ⟨m, ⟨o, es, ep, ho, rr⟩, hl'⟩ := I1.loc
        refine ⟨m, ⟨o, es, ep, kp _ _ ho, rr⟩, fun i y v a b c => ?_⟩
        obtain ⟨u, ru, lk'⟩ := hl' i y v a b c
        refine ⟨u, ru, ?_⟩
        rcases lk' with q | ⟨_, c', q, _⟩
        · exact .inl q
        · have q : (envOfC qual scope s.heap.objs.size f cdv).cells.lookup y = some c' := q
          rw [cl] at q; cases q
      · have e : (envOfC qual scope s.heap.objs.size f cdv).cells.lookup y = some c := e
        rw [cl] at e; cases e
      · have e : (envOfC qual scope s.heap.objs.size f cdv).cells.lookup y = some c := e
        rw [cl] at e; cases e
      · exact absurd (show p ∈ ([] : List (Addr × Obj)) from hp) (by simp)
      · obtain ⟨xs, rfl, e2⟩ := shr_of e
        exact plain_stay (u := .tup xs) rfl (I1.hok b _ e2) fun o z => kp b o z
    · obtain ⟨t, ht, hq⟩ := hbody Aw outer s.heap.objs.size vs (shr H) It Fn (hrw.deeper _) hsp
      refine go_func (M := (P, w)) ?_
      refine ht.run Fn sizeLine [] ix' [] _ [] _ _ id id s' (start N vs) H' _ ⟨fun p hp => by simp at hp, GenW.over_func, rfl, rfl, rfl⟩ (Nat.add_zero _) (fun n ys ix2 s2 fl hn q => ?_) I (hq H' kP)
      cases fl with
      | next =>
        obtain ⟨σ2, H2, I2, q2⟩ := q
        exact go_end (.ok (.ret .none)) (fi_end (.inl rfl) hn I2 q2)
      | brk => obtain ⟨_, _, _, q2⟩ := q; exact q2.elim
      | cont => obtain ⟨_, _, _, q2⟩ := q; exact q2.elim
      | ret u =>
        obtain ⟨v, σ2, H2, I2, rv, ev, q2⟩ := q
        subst ev
        have eu : u = Value.none := rv
        subst eu
        exact go_end (.ok (.ret .none)) (fi_end (.inl rfl) hn I2 q2)
  exact main _ _ _ _ rfl rfl rfl fun h => Heap.get?_push_size _ rfl
/-! ### who walks a generator -/
def gpOf (X : Cx) (Aw : Around) (N : List Str) (env : Env) : Gp := ⟨X.prog, X.w, X.K, X.mg, X.base, N, env, Aw, X.stack⟩
/-- the generator at a sleeps; n more may come -/
structure Snz (X : Cx) (Aw : Around) (N : List Str) (env : Env) (It : List V → V → Hp → Prop) (Fn : List V → Hp → Prop) (a : Addr) (gi : Nat) (go : Obj) (n : Nat) (own : List Addr) (ip : List (Addr × Obj)) (σg : L2.St) (Hg H : Hp) (gs : GenState) (h : Heap) : Prop where
  slp : Slp (gpOf X Aw N env) env.locals own ip σg Hg H h
  goes : Goes3 (gpOf X Aw N env) It Fn n ip σg Hg gs
  at_ : h.get? a = some go
  no : a ∉ own
/-- what stays through a walk -/
structure Gst (X : Cx) (pins : List (Addr × Obj)) (N : List Str) (env : Env) (a : Addr) (gi : Nat) (go : Obj) : Prop where
  fit : ∀ Aw, Fit X (gpOf X Aw N env) env.locals pins
  gen : ∀ h : Heap, h.get? a = some go → h.IsGen a gi
  cell : cellB go = false
  up : env.locals < a
abbrev TGen3 := L2.St → Hp → ((List V → V → Hp → Prop) → (List V → Hp → Prop) → Hp → Prop) → Prop
/-- behind the making of a generator -/
def PMade (X : Cx) (k : Nat) (pins : List (Addr × Obj)) (σ : L2.St) (cont : (List V → V → Hp → Prop) → (List V → Hp → Prop) → Hp → Prop) (u : Value) (s' : Shared) : Prop :=
  ∃ (It : List V → V → Hp → Prop) (Fn : List V → Hp → Prop) (N : List Str) (env : Env) (a : Addr) (gi : Nat) (go : Obj) (own : List Addr) (ip : List (Addr × Obj)) (σg : L2.St) (Hg H1 : Hp) (gs : GenState),
    u = .ref a ∧ Inv X pins σ H1 s' ∧ Gst X pins N env a gi go ∧ (∀ Aw, Room k Aw → Aw.frames = some X.stack → Snz X Aw N env It Fn a gi go sizeLine own ip σg Hg H1 gs s'.heap) ∧ s'.heap.get? a = some go ∧ H1 a = none ∧ s'.gens[gi]? = some gs ∧ cont It Fn H1
/-- the same, nothing made by it but its frame -/
def PMadeC (X : Cx) (k : Nat) (pins : List (Addr × Obj)) (σ : L2.St) (cont : (List V → V → Hp → Prop) → (List V → Hp → Prop) → Hp → Prop) (u : Value) (s' : Shared) : Prop :=
  ∃ (It : List V → V → Hp → Prop) (Fn : List V → Hp → Prop) (N : List Str) (env : Env) (a : Addr) (gi : Nat) (go : Obj) (ip : List (Addr × Obj)) (σg : L2.St) (Hg H1 : Hp) (gs : GenState),
    u = .ref a ∧ Inv X pins σ H1 s' ∧ Gst X pins N env a gi go ∧ (∀ Aw, Room k Aw → Aw.frames = some X.stack → Snz X Aw N env It Fn a gi go sizeLine [env.locals] ip σg Hg H1 gs s'.heap) ∧ s'.heap.get? a = some go ∧ H1 a = none ∧ s'.gens[gi]? = some gs ∧ cont It Fn H1
theorem PMadeC.weak {X : Cx} {k : Nat} {pins : List (Addr × Obj)} {σ : L2.St} {cont : (List V → V → Hp → Prop) → (List V → Hp → Prop) → Hp → Prop} {u : Value} {s' : Shared} (h : PMadeC X k pins σ cont u s') : PMade X k pins σ cont u s' := by
  obtain ⟨It, Fn, N, env, a, gi, go, ip, σg, Hg, H1, gs, q⟩ := h
  exact ⟨It, Fn, N, env, a, gi, go, _, ip, σg, Hg, H1, gs, q⟩
structure PGenC (X : Cx) (k : Nat) (e : Expr) (tg : TGen3) : Prop where
  run : ∀ (pins : List (Addr × Obj)) (s : Shared) (σ : L2.St) (H : Hp) (cont : (List V → V → Hp → Prop) → (List V → Hp → Prop) → Hp → Prop), Inv X pins σ H s → tg σ H cont → wpAny (model X.prog X.w) X.A (eval e X.env) (PMadeC X k pins σ cont) X.xe s
structure PGen3 (X : Cx) (k : Nat) (e : Expr) (tg : TGen3) : Prop where
  run : ∀ (pins : List (Addr × Obj)) (s : Shared) (σ : L2.St) (H : Hp) (cont : (List V → V → Hp → Prop) → (List V → Hp → Prop) → Hp → Prop), Inv X pins σ H s → tg σ H cont → wpAny (model X.prog X.w) X.A (eval e X.env) (PMade X k pins σ cont) X.xe s
def spins (a : Addr) (go : Obj) (own : List Addr) (H : Hp) (h : Heap) : List (Addr × Obj) := plst own H h ++ [(a, go)]
section
variable {X : Cx} {pins : List (Addr × Obj)} {σ : L2.St} {H : Hp} {s : Shared}
/-- the sleeper's things are pinned -/
theorem Inv.spin {Aw : Around} {N : List Str} {env : Env} {It : List V → V → Hp → Prop} {Fn : List V → Hp → Prop} {a : Addr} {gi n : Nat} {go : Obj} {own : List Addr} {ip : List (Addr × Obj)} {σg : L2.St} {Hg : Hp} {gs : GenState} (I : Inv X pins σ H s) (T : Gst X pins N env a gi go)
    (Z : Snz X Aw N env It Fn a gi go n own ip σg Hg H gs s.heap) (ha : H a = none) : Inv X (pins ++ spins a go own H s.heap) σ H s := by
  have up : ∀ b, env.locals ≤ b → b ≠ X.env.locals ∧ b ∉ X.fs := fun b hb => by
    refine ⟨fun z => absurd (Nat.lt_of_lt_of_le (z ▸ (T.fit Aw).loc) hb) (Nat.lt_irrefl _), fun m => ?_⟩
    have : b ∈ L2.frs X.stack := by
      rcases I.ok.stk with e | ⟨e, hf⟩
      · rw [e]; exact m
      · rw [e]
        unfold L2.frs
        rw [List.filterMap_cons, hf]
        exact List.mem_cons_of_mem _ m
    exact absurd (Nat.lt_of_lt_of_le ((T.fit Aw).frs b this) hb) (Nat.lt_irrefl _)
  refine I.pins_of fun p hp => ?_
  rcases List.mem_append.mp hp with hp | hp
  · exact I.pin p (List.mem_append_right _ hp)
  · rcases List.mem_append.mp hp with hp | hp
    · obtain ⟨m, n1, e⟩ := of_plst hp
      obtain ⟨h1, ⟨o, ho, hc⟩, _⟩ := Z.slp.ow p.1 m
      rw [e] at ho
      cases ho
      exact ⟨e, n1, (up _ h1).1, (up _ h1).2, cellB_no hc⟩
    · rw [List.mem_singleton.mp hp]
      exact ⟨Z.at_, ha, (up _ (Nat.le_of_lt T.up)).1, (up _ (Nat.le_of_lt T.up)).2, cellB_no T.cell⟩
/-- f(..) of a generator def -/
theorem made_pmC {k : Nat} {It : List V → V → Hp → Prop} {Fn : List V → Hp → Prop} {u : Value} {s' : Shared} {cont : (List V → V → Hp → Prop) → (List V → Hp → Prop) → Hp → Prop} (I : Inv X pins σ H s) (h : Made3 X.prog X.w X.K X.mg X.base k X.stack H s It Fn u s') (hc : cont It Fn H) : PMadeC X k pins σ cont u s' := by
  obtain ⟨a, gi, c, go, N, env, σg, rfl, ha, hgen, hcell, hg, hos, hba, kp, hL, hcl, hLa, h⟩ := h
  have I' : Inv X pins σ H s' := I.call' (ch := []) hos (Un.kept kp) (I.hok.kept kp) hba fun b z => by simp at z
  have lt : ∀ b o, s.heap.get? b = some o → b < env.locals := fun b o e => by rw [hL]; exact Heap.lt_size e
  have fr : ∀ b, env.locals ≤ b → H b = none := fun b hb => I.hok.fresh (by rw [← hL]; exact hb)
  have F : ∀ Aw, Fit X (gpOf X Aw N env) env.locals pins := fun Aw => by
    refine ⟨⟨rfl, rfl, rfl, rfl, fun b hb => ?_⟩, by rw [hL]; exact I.sz, by rw [hL]; exact I.lt, fun x c e => ?_, fun p hp => lt _ _ (I.pin p hp).1⟩
    · obtain ⟨_, o, ho, _⟩ := I.stack.mem hb
      exact lt _ _ ho
    · obtain ⟨v, o, ho, _⟩ := I.cell x c e
      exact lt _ _ ho
  refine ⟨It, Fn, N, env, a, gi, go, [], σg, shr H, H, _, rfl, I', ⟨F, hgen, hcell, hLa⟩, fun Aw hr hf => ?_, ha, fr a (Nat.le_of_lt hLa), hg, hc⟩
  obtain ⟨⟨ix, hix, J⟩, goes⟩ := h Aw hr hf
  obtain ⟨m, ⟨oL, es, ep, hoL, hdL, _⟩, _⟩ := id J.loc
  have hoL : s'.heap.get? env.locals = some oL := hoL
  refine ⟨⟨⟨ix, s', by rw [hL]; exact hix, J, fun _ _ _ => rfl⟩, fun b hb u e => ?_, fun b hb => ?_, fun b u hb p e => ?_, fun b xs hb e => ?_, List.mem_singleton.mpr rfl, fun p hp => by simp at hp, hcl⟩, goes, ha, fun z => ?_⟩
  · obtain ⟨xs, rfl, e2⟩ := shr_of e
    exact ⟨xs, rfl, e2⟩
  · rw [List.mem_singleton.mp hb]
    exact ⟨Nat.le_refl _, ⟨oL, hoL, cellB_yes fun v z => by rw [hdL] at z; cases z⟩, .inl (fr _ (Nat.le_refl _))⟩
  · obtain ⟨xs, rfl, e2⟩ := shr_of e
    rw [fr b hb] at e2; cases e2
  · obtain ⟨ys, e1, e2⟩ := shr_of e
    rw [fr b hb] at e2; cases e2
  · rw [List.mem_singleton.mp z] at hLa
    exact absurd hLa (Nat.lt_irrefl _)
theorem pgenC {k : Nat} {sp : SpG3} {f : Addr} {fd : FuncData} {ps : List Str} {ds : List Value} {dvs : List V} {x : Str} {p pos' : Pos} {e : Expr} {es : List Expr} {t : TA} (F : GFn3 X.prog X.w X.K X.mg X.base k f fd ps sp) (hr : Room k X.A) (hg : Gl X x) (hm : X.mg x = some (.ref f))
    (hk : PySem.W.keepIn X.K (.ref f) = true) (hb : Binds X.K fd ps ds) (hd : Vals dvs ds) (ha : PA X (e :: es) t) (hdb : (x == ("__debug__" : Str)) = false := by decide) (he : starEach (e :: es) X.env = (false, eval e X.env) :: starEach es X.env := by rfl) (hpl : (backTo pos' (starEach es X.env)).any (·.1) = false := by rfl) :
    PGenC X k (.Call (.Name x p) (e :: es) [] pos') (fun σ H cont => t σ H fun vs H1 => ∃ It Fn, sp (vs ++ dvs) (shr H1) It Fn ∧ cont It Fn H1) := by
  refine ⟨fun pins s σ H cont I h => ?_⟩
  refine wpAny_Call_Name_kw (ld_glob I hg hm ?_ hdb)
  refine PySem.W.callWith_K (h₀ := X.base) I.ok.mod.kin hk (thn (ha.run pos' pins s σ H _ I h) fun us s1 ⟨vs, H1, I1, r, q⟩ => ⟨I1.kIn, ?_⟩) he hpl
  obtain ⟨It, Fn, q1, q2⟩ := q
  have r2 : Vals (vs ++ dvs) (us ++ ds) := r.append hd
  have hl2 : (us ++ ds).length = ps.length := by rw [← r2.length]; exact F.len _ _ _ _ q1
  refine wpAny_call (codeAny_mono (F.run X.A X.stack s1 H1 ⟨us, []⟩ (us ++ ds) (vs ++ dvs) It Fn hr I1.env0 (hb s1 us I1.kIn hl2) r2 q1) fun r s' hq => ?_)
  cases r with
  | error e => exact False.elim hq
  | ok fl =>
    cases fl with
    | ret u => exact made_pmC I1 hq q2
    | next => exact False.elim hq
    | brk => exact False.elim hq
    | cont => exact False.elim hq
theorem pgen3 {k : Nat} {sp : SpG3} {f : Addr} {fd : FuncData} {ps : List Str} {ds : List Value} {dvs : List V} {x : Str} {p pos' : Pos} {e : Expr} {es : List Expr} {t : TA} (F : GFn3 X.prog X.w X.K X.mg X.base k f fd ps sp) (hr : Room k X.A) (hg : Gl X x) (hm : X.mg x = some (.ref f))
    (hk : PySem.W.keepIn X.K (.ref f) = true) (hb : Binds X.K fd ps ds) (hd : Vals dvs ds) (ha : PA X (e :: es) t) (hdb : (x == ("__debug__" : Str)) = false := by decide) (he : starEach (e :: es) X.env = (false, eval e X.env) :: starEach es X.env := by rfl) (hpl : (backTo pos' (starEach es X.env)).any (·.1) = false := by rfl) :
    PGen3 X k (.Call (.Name x p) (e :: es) [] pos') (fun σ H cont => t σ H fun vs H1 => ∃ It Fn, sp (vs ++ dvs) (shr H1) It Fn ∧ cont It Fn H1) := ⟨fun pins s σ H cont I h => thn ((pgenC F hr hg hm hk hb hd ha hdb he hpl).run pins s σ H cont I h) fun _ _ q => q.weak⟩
/-! for x in generator -/
def tFor3 (tg : TGen3) (g : TG) (tb : TS) : TS := fun D σ H => tg σ H fun It Fn H1 => ∃ W : Nat → L2.St → Hp → Prop, W 0 σ H1 ∧ ∀ j σ H2, W j σ H2 →
  (∀ ys Hg H3, ys.length = j → Fn ys Hg → KeepU Hg H3 → Same H2 H3 → D.nx σ H3) ∧
  ∀ ys x Hg H3, ys.length = j → j < sizeLine → It ys x Hg → KeepU Hg H3 → Same H2 H3 → g x σ H3 fun σ4 H4 => tb { D with nx := fun σ' H' => KeepU H3 H' ∧ W (j + 1) σ' H', ct := fun σ' H' => KeepU H3 H' ∧ W (j + 1) σ' H', bk := D.nx } σ4 H4
theorem mrg_same (n0 : Nat) (H Hg : Hp) : Same H (mrg n0 H Hg) := fun _ _ e => mrg_some e
theorem setGen_eq (s : Shared) (g : Nat) (x : GenState) : s.setGen g x = wg s (s.gens.setIfInBounds g x) := rfl
theorem ps_for3 {tg iter : Expr} {body : List Stmt} {wi : TGen3} {g : TG} {tb : TS} {pos : Pos} {k : Nat} (hp : PassesOwn (model X.prog X.w) X.A X.env X.xe) (hx : XeOk X) (hr : Room (k + 1) X.A) (hi : PGen3 X k iter wi) (hg : PG X tg g) (hb : PSs X body tb)
    (hs : ∀ x, foldedSetIterable iter X.env x = pure x := by intro _; rfl) : PS X (.For tg iter body [] pos) (tFor3 wi g tb) := by
  refine ⟨fun pins s σ H D I h => ?_⟩
  refine wpAny_For (thn (hi.run pins s σ H _ I h) fun v s1 h1 => ?_) hs
  obtain ⟨It, Fn, N, env, a, gi, go, own, ip, σg, Hg, H1, gs, rfl, I1, T, Z0, hat, ha, hgi, W, w0, turn⟩ := h1
  have Z := Z0 X.A.in1 hr.in1 (by show X.A.frames = _; exact I1.ok.frames)
  refine wpAny_pyIter_gen (T.gen _ Z.at_) ?_
  refine codeAny_forLoop_any (fun n s' => ∃ (j : Nat) (σ' : L2.St) (H' : Hp) (own : List Addr) (ip : List (Addr × Obj)) (σg : L2.St) (Hg Hs : Hp) (hs : Heap) (gs : GenState), n + j = sizeLine ∧ Snz X X.A.in1 N env It Fn a gi go n own ip σg Hg Hs gs hs ∧ Inv X (pins ++ spins a go own Hs hs) σ' H' s' ∧ KeepU Hs H' ∧
      s'.gens[gi]? = some gs ∧ W j σ' H') ?_ sizeLine ⟨0, σ, H1, own, ip, σg, Hg, H1, s1.heap, gs, rfl, Z, Inv.spin I1 T Z ha, fun _ _ e => e, hgi, w0⟩
  rintro n s3 ⟨j, σ3, H3, own, ip, σg, Hg, Hs, hs', gs, hn, Z, I3, kt, hg3, w3⟩
  have I3' : Inv X (pins ++ plst own Hs hs') σ3 H3 s3 := I3.pins_of fun p hp => I3.pin p (List.mem_append_right _ (by
    rcases List.mem_append.mp hp with hp | hp
    · exact List.mem_append_left _ hp
    · exact List.mem_append_right _ (List.mem_append_left _ hp)))
  have Ip : Inv X pins σ3 H3 s3 := I3.unpinned
  have hgo3 := I3.pin (a, go) (List.mem_append_right _ (List.mem_append_right _ (List.mem_append_right _ (List.mem_singleton.mpr rfl))))
  have R := Z.slp.wake (T.fit X.A.in1) I3' kt
  have bare3 := Ip.bare
  obtain ⟨t1, t2⟩ := turn j σ3 H3 w3
  refine next3 (G := gpOf X X.A.in1 N env) (ix := ixOf env.locals own Hg s3) rfl hr.hd Ip.nolimit (by have := hr.dp; omega) (T.gen _ hgo3.1) hg3 Z.goes R.keep (inv_wg R.inv (allBare_setGen bare3 rfl)) (fun s₁ hx1 h' hk => ?_) fun v s₁ gs' hv => ?_
  · obtain ⟨ys, ip', σ', H', hl, J, q, nr⟩ := hx1
    have J0 : Inv ((gpOf X X.A.in1 N env).X (ixOf env.locals own Hg s3)) [] σ' H' s₁ := J.pins_of fun p hp => by simp at hp
    obtain ⟨K1, _, K3, _⟩ := R.slept (T.fit X.A.in1) Ip J0 (fun p hp => by simp at hp) nr
    have K2 : Inv X pins σ3 (mrg env.locals H3 H') { s₁.setGen gi .finished with heap := h' } := (inv_wg K1 (allBare_setGen K1.bare rfl)).kept (t' := s₁.toks) hk
    exact wpAny_execs_nil ⟨σ3, _, K2, t1 ys H' _ (by omega) q K3 (mrg_same _ _ _)⟩
  · obtain ⟨hb1, hsl, gz, m, ys, x, ip', σ', H', rfl, hl, rv, J, hip, q, nr, goes⟩ := hv
    obtain ⟨K1, Z', K3, K4⟩ := R.slept (T.fit X.A.in1) Ip J hip nr
    have hgo4 : s₁.heap.get? a = some go := K4 a (Nat.le_of_lt T.up) Z.no go hgo3.1
    have hno : a ∉ ownOf env.locals own s3.heap s₁.heap := fun mm => by
      obtain ⟨_, h2, _⟩ := mem_ownOf.mp mm
      rcases h2 with h2 | h2
      · exact Z.no h2
      · exact absurd (Nat.lt_of_lt_of_le (Heap.lt_size hgo3.1) h2) (Nat.lt_irrefl _)
    have ha4 : mrg env.locals H3 H' a = none := by
      refine mrg_no hgo3.2.1 (.inr fun xs z => hno ?_)
      obtain ⟨o, ho, hc⟩ := plain_cell (u := .tup xs) rfl (J.hok a _ z)
      exact Z'.pl a _ (Nat.le_of_lt T.up) rfl z
    have Zn : Snz X X.A.in1 N env It Fn a gi go m (ownOf env.locals own s3.heap s₁.heap) ip' σ' H' (mrg env.locals H3 H') gs' s₁.heap := ⟨Z', goes, hgo4, hno⟩
    have bare4 : AllBare (s₁.setGen gi gs').gens := allBare_setGen K1.bare hb1
    have K5 : Inv X (pins ++ spins a go (ownOf env.locals own s3.heap s₁.heap) (mrg env.locals H3 H') s₁.heap) σ3 (mrg env.locals H3 H') (s₁.setGen gi gs') := inv_wg (Inv.spin K1 T Zn ha4) bare4
    obtain ⟨og, nm, qn, hog, hcl, hdt, _⟩ := T.gen _ hgo4
    rw [hgo4] at hog
    cases hog
    have hgg : (s₁.setGen gi gs').gens[gi]? = some gs' := setGen_at (Nat.lt_of_lt_of_le (Array.getElem?_eq_some_iff.mp hg3).1 gz)
    refine go_of (s := s₁.setGen gi gs') (n := "generator") hgo4 hcl hdt (by decide) ?_
    refine wpAny_passesOwn hp (thn (pg_sleep hx hg K5 rv (t2 ys x H' _ (by omega) (by omega) q K3 (mrg_same _ _ _))) fun _ s6 q6 => ?_)
    obtain ⟨σ6, H6, I6, q6, sl6⟩ := q6
    refine wpAny_passesOwn hp (thn (pss_sleep hx hb I6 q6) fun f s7 q7 => ?_)
    obtain ⟨q7, sl7⟩ := q7
    have asleep := sl7 gi gs' (sl6 gi gs' hgg hsl) hsl
    cases f with
    | next =>
      obtain ⟨σ7, H7, I7, n1, n2⟩ := q7
      exact ⟨m, Nat.lt_succ_self _, j + 1, σ7, H7, _, ip', σ', H', _, s₁.heap, gs', by omega, Zn, I7, n1, asleep, n2⟩
    | cont =>
      obtain ⟨σ7, H7, I7, n1, n2⟩ := q7
      exact ⟨m, Nat.lt_succ_self _, j + 1, σ7, H7, _, ip', σ', H', _, s₁.heap, gs', by omega, Zn, I7, n1, asleep, n2⟩
    | brk => obtain ⟨σ7, H7, I7, q8⟩ := q7; exact ⟨σ7, H7, I7.unpinned, q8⟩
    | ret v => obtain ⟨x7, σ7, H7, I7, r7, q8⟩ := q7; exact ⟨x7, σ7, H7, I7.unpinned, r7, q8⟩
end
/-! ### list(generator) -/
def Got (It : List V → V → Hp → Prop) (H : Hp) (xs : List V) : Prop := ∀ j x, xs[j]? = some x → ∃ ys Hj, ys.length = j ∧ It ys x Hj ∧ KeepU Hj H
theorem Got.keep {It : List V → V → Hp → Prop} {H H' : Hp} {xs : List V} (g : Got It H xs) (k : KeepU H H') : Got It H' xs := fun j x e => by
  obtain ⟨ys, Hj, h1, h2, h3⟩ := g j x e
  exact ⟨ys, Hj, h1, h2, fun b zs q => k b zs (h3 b zs q)⟩
section
variable {X : Cx} {pins : List (Addr × Obj)} {σ : L2.St}
theorem keepU_of {H H' : Hp} (s : Same H H') : KeepU H H' := fun b xs e => s b _ e
/-- the list under way, tracked at its end -/
theorem Inv.closed {H : Hp} {s : Shared} {S : Addr} {acc : Array Value} {c : Nat} {out : List V} (I : Inv X pins σ H s) (hS : X.s_0.heap.objs.size ≤ S) (hL : S ≠ X.env.locals) (hc : ∀ x c, X.env.cells.lookup x = some c → c ≠ S) (hp : ∀ p ∈ X.pn ++ pins, p.1 ≠ S) (n : H S = none) (e : s.heap.get? S = some (lstObj acc c))
    (r : Vals out acc.toList) (len : out.length ≤ sizeLine) : Inv X pins σ (upd H S (.lst out)) s := by
  have lt : ∀ b o, X.s_0.heap.get? b = some o → b ≠ S := fun b o q => Nat.ne_of_lt (Nat.lt_of_lt_of_le (Heap.lt_size q) hS)
  refine ⟨I.ok, I.os, I.bare, ⟨I.base.keep, I.base.slot, fun b o q m x => ?_, I.base.there, fun b xs q => ?_, fun b o u q => ?_, fun b ps q => ?_⟩, I.loc, I.cell, ?_, fun x c q => ?_, fun p q => ?_, fun b u q => ?_, I.len⟩
  · rw [upd_ne (lt b o q)]; exact I.base.free b o q m x
  · have := I.base.tups b xs q
    rw [upd_ne (ne_of_none this n)]; exact this
  · have := I.base.frzs b o u q
    rw [upd_ne (ne_of_none this n)]; exact this
  · obtain ⟨more, this⟩ := I.base.tbls b ps q
    exact ⟨more, by rw [upd_ne (ne_of_none this n)]; exact this⟩
  · rw [upd_ne (Ne.symm hL)]; exact I.free
  · rw [upd_ne (hc x c q)]; exact I.freeC x c q
  · obtain ⟨h1, h2, h3⟩ := I.pin p q
    exact ⟨h1, by rw [upd_ne (hp p q)]; exact h2, h3⟩
  · by_cases hb : b = S
    · subst hb
      rw [upd_same] at q
      cases q
      exact ⟨len, acc.toList, c, r, by rw [e]⟩
    · rw [upd_ne hb] at q
      exact (I.hok b u q).stay (fun _ _ _ z => z) (fun d z => by rw [upd_ne (ne_of_none z n)]; exact z) fun d xs z => by rw [upd_ne (ne_of_none z n)]; exact z
theorem fill3 {k : Nat} {A : Around} {N : List Str} {env : Env} {It : List V → V → Hp → Prop} {Fn : List V → Hp → Prop} {a S : Addr} {gi : Nat} {go : Obj} {R : Result → Shared → Prop} {H0 : Hp} (hr : Room (k + 2) A) (T : Gst X pins N env a gi go) (hSL : env.locals ≤ S) (hSa : S ≠ a)
    (hend : ∀ s' H' acc c xs, Inv X pins σ H' s' → Same H0 H' → s'.heap.get? S = some (lstObj acc c) → Vals xs acc.toList → xs.length ≤ sizeLine → Got It H' xs → (∃ ys Hg, ys.length = xs.length ∧ Fn ys Hg ∧ KeepU Hg H') → H' S = none → R (.ok (.ret .none)) s') :
    ∀ (n : Nat) (s : Shared) (H : Hp) (own : List Addr) (ip : List (Addr × Obj)) (σg : L2.St) (Hg : Hp) (hs : Heap) (gs : GenState) (acc : Array Value) (c : Nat) (xs : List V), n + xs.length = sizeLine → Snz X A.in1.in1 N env It Fn a gi go n own ip σg Hg H gs hs → Inv X (pins ++ spins a go own H hs) σ H s →
      Same H0 H → s.gens[gi]? = some gs → s.heap.get? S = some (lstObj acc c) → Vals xs acc.toList → H S = none → S ∉ own → Got It H xs →
      codeAny (model X.prog X.w) A (.builtin "list.extend.loop" ⟨[.ref S, .ref a, .none], []⟩) R s := by
  intro n
  induction n using Nat.strongRecOn with
  | ind n ih =>
  intro s H own ip σg Hg hs gs acc c xs hn Z I sm hgi hS hv hSn hSo got
  have hl := hv.length
  have hl2 : acc.toList.length = acc.size := by simp
  have Ip : Inv X pins σ H s := I.unpinned
  have I3 : Inv X (pins ++ plst own H hs) σ H s := I.pins_of fun p hp => I.pin p (List.mem_append_right _ (by
    rcases List.mem_append.mp hp with hp | hp
    · exact List.mem_append_left _ hp
    · exact List.mem_append_right _ (List.mem_append_left _ hp)))
  have hgo3 := I.pin (a, go) (List.mem_append_right _ (List.mem_append_right _ (List.mem_append_right _ (List.mem_singleton.mpr rfl))))
  have R0 := Z.slp.wake (T.fit A.in1.in1) I3 fun _ _ e => e
  have r0 := hr.hd
  have r1 := hr.dp
  refine codeAny_builtin F.entry_extend_loop ?_
  rw [Around.under_plainId F.plain_extend_loop _]
  show wpAny _ A.in1 (pyNext (.ref a) >>= _) _ _ s
  refine wpAny_bind (next3 (G := gpOf X A.in1.in1 N env) (A := A.in1) (ix := ixOf env.locals own Hg s) rfl r0 Ip.nolimit (by show A.depth < _; omega) (T.gen _ hgo3.1) hgi Z.goes R0.keep (inv_wg R0.inv (allBare_setGen Ip.bare rfl)) (fun s₁ hx1 h' hk => ?_) fun v s₁ gs' hvv => ?_)
  · obtain ⟨ys, ip', σ', H', hll, J, q, nr⟩ := hx1
    have J0 : Inv ((gpOf X A.in1.in1 N env).X (ixOf env.locals own Hg s)) [] σ' H' s₁ := J.pins_of fun p hp => by simp at hp
    obtain ⟨K1, K2, K3, K4⟩ := R0.slept (T.fit A.in1.in1) Ip J0 (fun p hp => by simp at hp) nr
    have K5 : Inv X pins σ (mrg env.locals H H') { s₁.setGen gi .finished with heap := h' } := (inv_wg K1 (allBare_setGen K1.bare rfl)).kept (t' := s₁.toks) hk
    have hS2 := hk _ _ (K4 S hSL hSo _ hS)
    refine wpAny_pure (hend _ _ acc c xs K5 (fun b u e => mrg_same _ _ _ b u (sm b u e)) hS2 hv (by omega) (got.keep (keepU_of (mrg_same _ _ _))) ⟨ys, H', by omega, q, K3⟩ ?_)
    refine mrg_no hSn (.inr fun zs z => ?_)
    obtain ⟨_, h2, _⟩ := mem_ownOf.mp (K2.pl S _ hSL rfl z)
    rcases h2 with h2 | h2
    · exact hSo h2
    · exact absurd (Nat.lt_of_lt_of_le (Heap.lt_size hS) h2) (Nat.lt_irrefl _)
  · obtain ⟨hb1, hsl, gz, m, ys, x, ip', σ', H', rfl, hll, rv, J, hip, q, nr, goes⟩ := hvv
    obtain ⟨K1, Z', K3, K4⟩ := R0.slept (T.fit A.in1.in1) Ip J hip nr
    have hgo4 : s₁.heap.get? a = some go := K4 a (Nat.le_of_lt T.up) Z.no go hgo3.1
    have hS4 : s₁.heap.get? S = some (lstObj acc c) := K4 S hSL hSo _ hS
    have notOwn : ∀ b, b ∉ own → b < s.heap.objs.size → b ∉ ownOf env.locals own s.heap s₁.heap := fun b h1 h2 mm => by
      obtain ⟨_, h3, _⟩ := mem_ownOf.mp mm
      rcases h3 with h3 | h3
      · exact h1 h3
      · exact absurd (Nat.lt_of_lt_of_le h2 h3) (Nat.lt_irrefl _)
    have hno := notOwn a Z.no (Heap.lt_size hgo3.1)
    have hSo4 := notOwn S hSo (Heap.lt_size hS)
    have ha4 : mrg env.locals H H' a = none := mrg_no hgo3.2.1 (.inr fun zs z => hno (Z'.pl a _ (Nat.le_of_lt T.up) rfl z))
    have hSn4 : mrg env.locals H H' S = none := mrg_no hSn (.inr fun zs z => hSo4 (Z'.pl S _ hSL rfl z))
    have Zn : Snz X A.in1.in1 N env It Fn a gi go m (ownOf env.locals own s.heap s₁.heap) ip' σ' H' (mrg env.locals H H') gs' s₁.heap := ⟨Z', goes, hgo4, hno⟩
    have K5 : Inv X (pins ++ spins a go (ownOf env.locals own s.heap s₁.heap) (mrg env.locals H H') s₁.heap) σ (mrg env.locals H H') (s₁.setGen gi gs') := inv_wg (Inv.spin K1 T Zn ha4) (allBare_setGen K1.bare hb1)
    have hgg : (s₁.setGen gi gs').gens[gi]? = some gs' := setGen_at (Nat.lt_of_lt_of_le (Array.getElem?_eq_some_iff.mp hgi).1 gz)
    have hsz : acc.size < sizeLine := by omega
    show wpAny _ A.in1 (updateSeq S (·.push v) >>= _) _ _ _
    refine wpAny_bind ?_
    refine wpAny_updateSeq (s := s₁.setGen gi gs') hS4 rfl (wpAny_pure ⟨plainId_quiet F.plain_extend_loop _, ?_⟩) (Nat.le_of_lt hsz) (by
      show (acc.push v).size ≤ sizeLine + 1
      rw [Array.size_push]
      omega)
    have other : ∀ b o, b ≠ S → s₁.heap.get? b = some o → (s₁.heap.update S (Obj.mapSeq (·.push v))).get? b = some o := fun b o hb e => by
      rw [Heap.get?_update_other _ _ (Ne.symm hb)]
      exact e
    have hS5 : ∃ c', (s₁.heap.update S (Obj.mapSeq (·.push v))).get? S = some (lstObj (acc.push v) c') := ⟨_, Heap.get?_update_self (Obj.mapSeq (·.push v)) hS4 rfl⟩
    obtain ⟨c', hS5⟩ := hS5
    have F := T.fit A.in1.in1
    have neS : ∀ b u, mrg env.locals H H' b = some u → b ≠ S := fun b u e z => by rw [z, hSn4] at e; cases e
    have K6 : Inv X (pins ++ spins a go (ownOf env.locals own s.heap s₁.heap) (mrg env.locals H H') s₁.heap) σ (mrg env.locals H H') { s₁.setGen gi gs' with heap := s₁.heap.update S (Obj.mapSeq (·.push v)) } := by
      refine K5.call' (ch := [S]) rfl ⟨fun b o e _ _ hc => other b o (fun z => hc (List.mem_singleton.mpr z)) e, fun b o e _ _ hc => ⟨o.slots, other b o (fun z => hc (List.mem_singleton.mpr z)) e⟩, fun _ _ _ n _ => n, fun b o e hc => ⟨o, other b o (fun z => hc (List.mem_singleton.mpr z)) e⟩, fun _ _ e => e, fun _ _ _ e => e, fun b ps e => ⟨#[], by rw [e]; first | rfl | simp⟩⟩ (fun b u e => ?_) K5.bare fun b hb => ?_
      · refine (K5.hok b u e).stay (fun d o hd z => other d o ?_ z) (fun _ z => z) fun _ _ z => z
        rcases hd with rfl | hd
        · exact neS _ _ e
        · exact neS _ _ hd
      · rw [List.mem_singleton.mp hb]
        refine ⟨.inr (Nat.le_trans F.s0 hSL), fun z => absurd (Nat.lt_of_lt_of_le (z ▸ F.loc) hSL) (Nat.lt_irrefl _), fun y d e z => absurd (Nat.lt_of_lt_of_le (F.cell y d e) (z ▸ hSL)) (Nat.lt_irrefl _), fun p hp z => ?_⟩
        rcases List.mem_append.mp hp with hp | hp
        · exact absurd (Nat.lt_of_lt_of_le (F.pin p (List.mem_append_left _ hp)) (z ▸ hSL)) (Nat.lt_irrefl _)
        · rcases List.mem_append.mp hp with hp | hp
          · exact absurd (Nat.lt_of_lt_of_le (F.pin p (List.mem_append_right _ hp)) (z ▸ hSL)) (Nat.lt_irrefl _)
          · rcases List.mem_append.mp hp with hp | hp
            · exact hSo4 (z ▸ (of_plst hp).1)
            · rw [List.mem_singleton.mp hp] at z
              exact hSa z.symm
    refine ih m (Nat.lt_succ_self m) _ (mrg env.locals H H') _ ip' σ' H' s₁.heap gs' (acc.push v) c' (xs ++ [x]) ?_ Zn K6 (fun b u e => mrg_same _ _ _ b u (sm b u e)) hgg hS5 ?_ hSn4 hSo4 (fun j y hy => ?_)
    · rw [List.length_append]
      show m + (xs.length + 1) = _
      omega
    · rw [Array.toList_push]
      exact hv.append (.cons rv .nil)
    · by_cases hj : j < xs.length
      · rw [List.getElem?_append_left hj] at hy
        exact got.keep (keepU_of (mrg_same _ _ _)) j y hy
      · have e : j = xs.length := by
          have := (List.getElem?_eq_some_iff.mp hy).1
          rw [List.length_append] at this
          have : j < xs.length + 1 := this
          omega
        subst e
        rw [List.getElem?_append_right (Nat.le_refl _), Nat.sub_self] at hy
        cases hy
        exact ⟨ys, H', by omega, q, K3⟩
end
/-! ### the expression list(generator) -/
def tList3 (tg : TGen3) : TE := fun σ H Q => tg σ H fun It Fn H1 => ∀ (p : Addr) (H2 : Hp) (xs : List V), Same H1 H2 → H2 p = none → xs.length ≤ sizeLine → Got It H2 xs → (∃ ys Hg, ys.length = xs.length ∧ Fn ys Hg ∧ KeepU Hg H2) → Q (.ref p) (upd H2 p (.lst xs))
section
variable {X : Cx} {pins : List (Addr × Obj)} {σ : L2.St}
theorem call_list3 {k : Nat} {s : Shared} {u : Value} {cont : (List V → V → Hp → Prop) → (List V → Hp → Prop) → Hp → Prop} {Q : VK} {E : Value → Shared → Prop} (hr : Room (k + 4) X.A) (h : PMade X k pins σ cont u s)
    (hc : ∀ It Fn H1, cont It Fn H1 → ∀ (p : Addr) (H2 : Hp) (xs : List V), Same H1 H2 → H2 p = none → xs.length ≤ sizeLine → Got It H2 xs → (∃ ys Hg, ys.length = xs.length ∧ Fn ys Hg ∧ KeepU Hg H2) → Q (.ref p) (upd H2 p (.lst xs))) :
    wpAny (model X.prog X.w) X.A (call (.type "list") [u]) (fun v s' => ∃ x H', Inv X pins σ H' s' ∧ RelV x v ∧ Q x H') E s := by
  obtain ⟨It, Fn, N, env, a, gi, go, own, ip, σg, Hg, H1, gs, rfl, I1, T, Z0, hat, ha, hgi, hcont⟩ := h
  have aLt : a < s.heap.objs.size := Heap.lt_size hat
  have nLt : env.locals < s.heap.objs.size := Nat.lt_trans T.up aLt
  have neA : s.heap.objs.size ≠ a := Nat.ne_of_gt aLt
  have Z := Z0 X.A.in1.in1.in1 (by exact (((hr.mono (show k + 3 ≤ k + 4 by omega)).in1 (k := k + 2)).in1 (k := k + 1)).in1 (k := k)) (by show X.A.frames = _; exact I1.ok.frames)
  have Is := Inv.spin I1 T Z ha
  have gen := T.gen _ hat
  refine callType_codes (Q₁ := fun obj s₁ => obj = .ref s.heap.objs.size ∧ s₁ = { s with heap := s.heap.push { cls := .type "list", data := .seq #[] } }) F.called_list (F.typeCall_list_1 _) F.entry_list_init (code_list_new _ ⟨rfl, rfl⟩) fun obj s₁ h₁ => ?_
  obtain ⟨rfl, rfl⟩ := h₁
  have q1 : (s.heap.push { cls := .type "list", data := .seq #[] }).get? s.heap.objs.size = some { cls := .type "list", data := .seq #[] } := Heap.get?_push_size _ rfl
  refine ⟨⟨_, q1, rfl⟩, F.args_list_init_2 _ _, ?_⟩
  show wpAny _ X.A.in1.in1 (Builtin.List.listItems (.ref s.heap.objs.size) >>= fun old => Builtin.List.listUpdate (.ref s.heap.objs.size) (fun _ => #[]) >>= fun _ => letGo old.toList.reverse >>= fun _ =>
    Builtin.List.listExtendWith (.ref s.heap.objs.size) (.ref a) .none) _ _ _
  refine wpAny_bind ?_
  unfold Builtin.List.listItems
  refine wpAny_bind (wpAny_seqItems q1 rfl (wpAny_pure ?_))
  show wpAny _ X.A.in1.in1 (updateSeq s.heap.objs.size (fun _ => #[]) >>= fun _ => letGo (#[] : Array Value).toList.reverse >>= fun _ =>
    Builtin.List.listExtendWith (.ref s.heap.objs.size) (.ref a) .none) _ _ _
  refine wpAny_bind (wpAny_updateSeq q1 rfl ?_)
  have q2 := Heap.get?_update_self (Obj.mapSeq (fun _ => (#[] : Array Value))) q1 rfl
  refine wpAny_bind (wpAny_letGo ?_)
  unfold Builtin.List.listExtendWith
  have up : ∀ (h : Heap) (f : Obj → Obj), (∀ b o, s.heap.get? b = some o → h.get? b = some o) → ∀ b o, s.heap.get? b = some o → (h.update s.heap.objs.size f).get? b = some o := fun h f q b o e => by
    have ne : s.heap.objs.size ≠ b := fun z => by
      have := Heap.lt_size e
      rw [← z] at this
      exact absurd this (Nat.lt_irrefl _)
    rw [Heap.get?_update_other _ _ ne]
    exact q b o e
  have k1 : ∀ b o, s.heap.get? b = some o → (s.heap.push { cls := .type "list", data := .seq #[] }).get? b = some o := fun b o e => Heap.get?_push_of_some _ e
  have k2 := up _ (Obj.mapSeq (fun _ => (#[] : Array Value))) k1
  have gk : ∀ {h : Heap}, (∀ b o, s.heap.get? b = some o → h.get? b = some o) → h.IsGen a gi := fun {h} q => T.gen _ (q a go hat)
  refine wpAny_bind (wpAny_typeOf (Heap.IsGen.typeIs (s := { s with heap := _ }) (gk k2)) ?_)
  have c1 : Builtin.List.listSameRef (.ref s.heap.objs.size) (.ref a) = false := by simp [Builtin.List.listSameRef, neA]
  have c2 : (Value.type "generator" == Value.type "list") = false := by decide
  have c3 : (Value.type "generator" == Value.type "tuple") = false := by decide
  simp only [c1, c2, c3, Bool.or_false, Bool.false_eq_true, if_false]
  refine wpAny_bind (wpAny_pyIter_gen (s := { s with heap := _ }) (gk k2) ?_)
  refine wpAny_bind (wpAny_holding ?_)
  unfold Builtin.List.listLengthHint
  refine wpAny_bind (wpAny_specialOf (Heap.IsGen.typeIs (s := { s with heap := _ }) (gk k2)) F.gen_no_len ?_)
  show wpAny _ X.A.in1.in1 (specialOf (Value.ref a) (Str.ofString "__length_hint__") >>= _) _ _ _
  refine wpAny_bind (wpAny_specialOf (Heap.IsGen.typeIs (s := { s with heap := _ }) (gk k2)) F.gen_no_hint ?_)
  refine wpAny_pure ?_
  show wpAny _ X.A.in1.in1 (rule "list.extend.makes-room" >>= fun _ => Builtin.List.listTouch (.ref s.heap.objs.size) >>= fun _ =>
    again (.builtin "list.extend.loop" ⟨[.ref s.heap.objs.size, .ref a, .none], []⟩)) _ _ _
  refine wpAny_bind (wpAny_rule ?_)
  refine wpAny_bind ?_
  show wpAny _ X.A.in1.in1 (updateSeq s.heap.objs.size (·.push .none) >>= fun _ => updateSeq s.heap.objs.size (·.pop)) _ _ _
  refine wpAny_bind (wpAny_updateSeq q2 rfl ?_)
  have q3 := Heap.get?_update_self (Obj.mapSeq (·.push Value.none)) q2 rfl
  refine wpAny_updateSeq (hz := by seq_fits) q3 rfl ?_
  have q4 := Heap.get?_update_self (Obj.mapSeq (·.pop)) q3 rfl
  have k4 := up _ (Obj.mapSeq (·.pop)) (up _ (Obj.mapSeq (·.push Value.none)) k2)
  refine wpAny_pure ⟨plainId_quiet F.plain_extend_loop _, ?_⟩
  have I4 := Is.kept (t' := s.toks) k4
  have Fa := T.fit X.A.in1
  refine fill3 (k := k + 1) (A := X.A.in1) (H0 := H1) (N := N) (env := env) (It := It) (Fn := Fn) (a := a) (gi := gi) (go := go) (pins := pins) (σ := σ) (hr.mono (show k + 4 ≤ k + 4 by omega)).in1 T (Nat.le_of_lt nLt) neA (fun s' H' acc c xs I' sm hS hv hlen got hfin hSn => ?_) sizeLine _ H1 own ip σg Hg s.heap gs #[] _ [] rfl Z I4 (Same.refl _) hgi q4 .nil (I1.hok.fresh (Nat.le_refl _)) (fun m => ?_) (fun j x e => by simp at e)
  · refine ⟨rfl, .ref s.heap.objs.size, _, Inv.closed I' (Nat.le_trans Fa.s0 (Nat.le_of_lt nLt)) (fun z => ?_) (fun y d e z => ?_) (fun p hp z => ?_) hSn hS hv hlen, rfl, hc It Fn H1 hcont _ H' xs sm hSn hlen got hfin⟩
    · exact absurd (Nat.lt_trans Fa.loc nLt) (z ▸ Nat.lt_irrefl _)
    · exact absurd (Nat.lt_trans (Fa.cell y d e) nLt) (z ▸ Nat.lt_irrefl _)
    · exact absurd (Nat.lt_trans (Fa.pin p hp) nLt) (z ▸ Nat.lt_irrefl _)
  · obtain ⟨_, ⟨o, ho, _⟩, _⟩ := Z.slp.ow _ m
    exact absurd (Heap.lt_size ho) (Nat.lt_irrefl _)
theorem pe_list3 {k : Nat} {e : Expr} {tg : TGen3} {nm : Str} {p pos : Pos} (h : PGen3 X k e tg) (hr : Room (k + 4) X.A) (hg : Gl X nm) (hmg : X.mg nm = none) (hv : bootBuiltins nm = some (.type "list")) (hnm : nm ≠ "__name__" := by decide) (hdb : (nm == ("__debug__" : Str)) = false := by decide)
    (he : starEach [e] X.env = (false, eval e X.env) :: starEach [] X.env := by rfl) : PE X (.Call (.Name nm p) [e] [] pos) (tList3 tg) := by
  refine ⟨fun pins s σ H Q I hq => ?_⟩
  refine wpAny_Call_Name_kw (ld_blt I hg hmg hv ?_ hnm hdb)
  refine PyProof.Rows.callWith_type1 ?_ he rfl
  rw [he]
  show wpAny _ _ (spliced ((false, eval e X.env) :: backTo pos (starEach [] X.env))) _ _ s
  refine Calls.spliced_cons (thn (h.run pins s σ H _ I hq) fun u s1 hm => ?_)
  refine Calls.spliced_nil ?_
  exact call_list3 hr hm fun It Fn H1 c => c
end
/-! ### the readings may speak of the waking's context -/
def ix0 : Ix := ⟨{}, fun _ => none, []⟩
section
variable {G : Gp} {It : List V → V → Hp → Prop} {st : Stmt} {rest : List Stmt}
theorem h3_plain {t : Ix → TS} (h : ∀ ix, PS (G.X ix) st (t ix)) (e : ∀ ix, t ix = t ix0 := by intro _; rfl) : GS3 G It st (tPlain (t ix0)) := g3_plain fun ix => by rw [← e ix]; exact h ix
theorem h3_if {test : Expr} {body orelse : List Stmt} {pos : Pos} {tc : Ix → TT} {t u : TGn} (hc : ∀ ix, PT (G.X ix) test (tc ix)) (ha : GSs3 G It body t) (hb : GSs3 G It orelse u) (e : ∀ ix, tc ix = tc ix0 := by intro _; rfl) : GS3 G It (.If test body orelse pos) (tGIf (tc ix0) t u) :=
  g3_if (fun ix => by rw [← e ix]; exact hc ix) ha hb
theorem h3_while {test : Expr} {body : List Stmt} {pos : Pos} {tc : Ix → TT} {tb : TGn} (hc : ∀ ix, PT (G.X ix) test (tc ix)) (hb : GSs3 G It body tb) (e : ∀ ix, tc ix = tc ix0 := by intro _; rfl) : GS3 G It (.While test body [] pos) (tGWhile (tc ix0) tb) :=
  g3_while (fun ix => by rw [← e ix]; exact hc ix) hb
theorem h3_yield {x : Expr} {yp pos : Pos} {te : Ix → TE} (he : ∀ ix, PE (G.X ix) x (te ix)) (hco : G.env.scope.isCoroutine = false) (hi : interactive G.env = false) (e : ∀ ix, te ix = te ix0 := by intro _; rfl) : GS3 G It (.Expr (.Yield (some x) yp) pos) (tGY3 It (te ix0)) :=
  g3_yield (fun ix => by rw [← e ix]; exact he ix) hco hi
end
/-! ### a list comprehension over a generator -/
def tLc3 (tg : TGen3) (g : TG) (tt : TT) (te : TE) (vs : List Nat) : TE := fun σ H Q => tg σ H fun It Fn H1 => ∀ D, H1 D = none → ∃ W : Nat → Hp → Prop, W 0 (upd H1 D (.lst [])) ∧ ∀ j H2, W j H2 →
  (∀ (ys : List V) (Hg H3 : Hp), ys.length = j → Fn ys Hg → KeepU Hg H3 → Same H2 H3 → Q (.ref D) H3) ∧
  ∀ (ys : List V) (x : V) (Hg H3 : Hp), ys.length = j → j < sizeLine → It ys x Hg → KeepU Hg H3 → Same H2 H3 → g x (wipe σ vs) H3 fun σ2 H4 => wipe σ2 vs = wipe σ vs ∧ tt σ2 H4 fun b H5 =>
    if b = true then te σ2 H5 fun y H6 => ∃ acc, H6 D = some (.lst acc) ∧ acc.length < sizeLine ∧ KeepU H3 (upd H6 D (.lst (acc ++ [y]))) ∧ W (j + 1) (upd H6 D (.lst (acc ++ [y]))) else KeepU H3 H5 ∧ W (j + 1) H5
section
variable {X : Cx} {pins : List (Addr × Obj)} {σ : L2.St} {H : Hp} {s : Shared}
/-- what sleeps ahead sleeps behind, of anything that speaks of the heap -/
theorem inv_sleep {α : Type} {t : Sem α} {A : Around} {P : α → L2.St → Hp → Prop} (h : ∀ s, Inv X pins σ H s → wpAny (model X.prog X.w) A t (fun x s' => ∃ σ' H', Inv X pins σ' H' s' ∧ P x σ' H') (fun _ _ => False) s) (I : Inv X pins σ H s) :
    wpAny (model X.prog X.w) A t (fun x s' => ∃ σ' H', Inv X pins σ' H' s' ∧ P x σ' H' ∧ Slept2 s.gens s'.gens) (fun _ _ => False) s := by
  refine wpAny_mono (wpAny_awake (h _ (inv_wg I (cut_bare I.bare)))) (fun f s' q => ?_) fun e s' q => ?_
  · obtain ⟨g₀, a, σ', H', I', q⟩ := q
    obtain ⟨b1, b2⟩ := awake_bare a I.bare I'.bare
    exact ⟨σ', H', inv_wg (s := wg s' g₀) I' b1, q, b2⟩
  · obtain ⟨g₀, a, q⟩ := q
    exact q.elim
/-- what a comprehension's block asks of its parts -/
structure BlkP (X : Cx) (scope : Scope) (tg : Expr) (ifs : List Expr) (elt : Expr) (g : TG) (tt : TT) (te : TE) : Prop where
  tgt : ∀ (t : Shared) (h : Hp) (C : Addr) (cl : List (Str × Addr)) (fp : List Addr), PG (X.blk t h scope (compEnvC scope cl C X.env) fp) tg g
  tst : ∀ (t : Shared) (h : Hp) (C : Addr) (cl : List (Str × Addr)) (fp : List Addr), PTs (X.blk t h scope (compEnvC scope cl C X.env) fp) ifs tt
  elt : ∀ (t : Shared) (h : Hp) (C : Addr) (cl : List (Str × Addr)) (fp : List Addr), PE (X.blk t h scope (compEnvC scope cl C X.env) fp) elt te
theorem lc3_core {k : Nat} {Q : VK} {elt tg iter : Expr} {ifs : List Expr} {bsc : Scope} {own0 : List (Str × Nat)} {pos posA : Pos} {wi : TGen3} {g : TG} {tt : TT} {te : TE} {use : Option (Value → Sem Unit)} {Qf : Value → Shared → Prop}
    (hN : X.N.Nodup) (hr : Room (k + 1) X.A) (I : Inv X pins σ H s) (hi : PGenC X k iter wi) (ok : BlkOk X.N X.env.scope bsc own0)
    (B : BlkP X bsc tg ifs elt g tt te) (hs : ∀ x, foldedSetIterable iter X.env x = pure x)
    (h : tLc3 wi g tt te (own0.map (·.2)) σ H Q)
    (fin0 : ∀ dl C s' m H', Inv X pins σ H' s' → Q (.ref dl) H' → s'.heap.Ns C m → FpOk X pins H' C → compPost (model X.prog X.w) X.A X.xe use Qf (.ref dl) C (.ok .next) s') :
    wpAny (model X.prog X.w) X.A (comprehension (.ListComp elt [⟨tg, iter, ifs, 0⟩] bsc pos) bsc X.env posA (newList []) false (eval iter X.env) use) Qf X.xe s := by
  have frees : ∀ y ∈ bsc.names, y.2 = .free → ∃ c, X.env.cells.lookup y.1 = some c := fun y hy e => by
    exact (ok.free y hy e).elim (fun k => I.ok.has _ (.inl k)) fun k => I.ok.has _ (.inr k)
  refine wpAny_comprehension_free (use := use) rfl hs (closure_ok frees) ok.kind (fun y hy e => by rw [ok.uniq y hy, e])
    (thn (hi.run pins s σ H _ I h) fun xv t0 h2 => ?_)
  obtain ⟨It, Fn, N, env, a, gi, go, ip0, σg0, Hg0, h0, gs0, rfl, J0, T, Z00, hat, ha, hgi, q⟩ := h2
  have Z0 := Z00 X.A.in1 hr.in1 (by show X.A.frames = _; exact J0.ok.frames)
  refine wpAny_pyIter_gen (T.gen _ Z0.at_) ?_
  refine wpAny_newObj_type (newEnv_comp ?_) (by show 0 ≤ sizeLine; decide)
  have Is := Inv.spin J0 T Z0 ha
  have F := T.fit X.A.in1
  generalize eD : t0.heap.objs.size = dl
  have nD : h0 dl = none := J0.hok.fresh (Nat.le_of_eq eD)
  obtain ⟨Wt, w0, turn⟩ := q dl nD
  -- the frame and the generator
  obtain ⟨oL, hoL, hcL⟩ := (Z0.slp.ow _ Z0.slp.loc).2.1
  have nL : h0 env.locals = none := by
    rcases (Z0.slp.ow _ Z0.slp.loc).2.2 with n | ⟨xs, _, e2⟩
    · exact n
    · obtain ⟨ix, sy, _, J, _⟩ := Z0.slp.inv
      have z : Hg0 env.locals = none := J.free
      have e2 : Hg0 env.locals = some (.tup xs) := e2
      rw [z] at e2; cases e2
  have fB : ∀ b ∈ [env.locals, a], FpOk X pins h0 b ∧ ∃ o, t0.heap.get? b = some o ∧ ∀ v, o.data ≠ .cell v := fun b hb => by
    simp only [List.mem_cons, List.mem_nil_iff, or_false] at hb
    rcases hb with rfl | rfl
    · obtain ⟨p1, p2, p3, p4, p5⟩ := Is.pin (env.locals, oL) (List.mem_append_right _ (List.mem_append_right _ (List.mem_append_left _ (mem_plst Z0.slp.loc nL hoL))))
      obtain ⟨c1, c2, c3, c4⟩ := F.ch (Nat.le_refl env.locals)
      exact ⟨⟨p2, p3, p4, c1, c3, c4⟩, oL, p1, p5⟩
    · obtain ⟨p1, p2, p3, p4, p5⟩ := Is.pin (b, go) (List.mem_append_right _ (List.mem_append_right _ (List.mem_append_right _ (List.mem_singleton.mpr rfl))))
      obtain ⟨c1, c2, c3, c4⟩ := F.ch (Nat.le_of_lt T.up)
      exact ⟨⟨p2, p3, p4, c1, c3, c4⟩, go, p1, p5⟩
  generalize hfp : [env.locals, a] = fp at fB
  -- the new list
  generalize etA : ({ t0 with heap := t0.heap.push { cls := .type "list", data := .seq ([] : List Value).toArray } } : Shared) = tA
  have JA : Inv X pins σ (upd h0 dl (.lst [])) tA := by
    rw [← etA]
    refine J0.laid (t' := t0.toks) (fun b o e => Heap.get?_push_of_some _ e) (Nat.le_of_eq eD) ⟨Nat.zero_le _, [], 0, .nil, ?_⟩
    rw [← eD]
    exact Heap.get?_push_size _ rfl
  have eA : tA.heap = t0.heap.push { cls := .type "list", data := .seq ([] : List Value).toArray } := by rw [← etA]
  have g3 : tA.gens = t0.gens := by rw [← etA]
  have k3 : ∀ b o, t0.heap.get? b = some o → tA.heap.get? b = some o := fun b o e => by rw [eA]; exact Heap.get?_push_of_some _ e
  have fA : ∀ b ∈ fp, FpOk X pins (upd h0 dl (.lst [])) b ∧ b < tA.heap.objs.size := fun b hb => by
    obtain ⟨f, o, ho, _⟩ := fB b hb
    have blt := Heap.lt_size ho
    refine ⟨⟨?_, f.2⟩, by rw [eA, Heap.size_push]; exact Nat.lt_succ_of_lt blt⟩
    rw [upd_ne (by rw [← eD]; exact Nat.ne_of_lt blt)]
    exact f.1
  have JB := block_start JA ok hN fA
  have pg := B.tgt tA (upd h0 dl (.lst [])) tA.heap.objs.size (cellsFrom (tA.heap.objs.size + 1) bsc.names (cloFrom X.env.cells bsc.names [])) fp
  have pt := B.tst tA (upd h0 dl (.lst [])) tA.heap.objs.size (cellsFrom (tA.heap.objs.size + 1) bsc.names (cloFrom X.env.cells bsc.names [])) fp
  have pe := B.elt tA (upd h0 dl (.lst [])) tA.heap.objs.size (cellsFrom (tA.heap.objs.size + 1) bsc.names (cloFrom X.env.cells bsc.names [])) fp
  show codeAny _ _ (.compStart (.ListComp elt [⟨tg, iter, ifs, 0⟩] bsc pos) 0 (.ref a) (.ref dl) (compEnvC bsc (cellsFrom (tA.heap.objs.size + 1) bsc.names (cloFrom X.env.cells bsc.names [])) tA.heap.objs.size X.env)) (compPost (model X.prog X.w) X.A X.xe use Qf (.ref dl) tA.heap.objs.size) { tA with heap := pushCells (tA.heap.push { cls := .type "dict", data := .dict #[] }) bsc.names }
  have nones : ∀ b ∈ fp, (upd h0 dl (.lst [])) b = none := fun b hb => (fA b hb).1.1
  generalize ece : compEnvC bsc (cellsFrom (tA.heap.objs.size + 1) bsc.names (cloFrom X.env.cells bsc.names [])) tA.heap.objs.size X.env = ce at JB pg pt pe ⊢
  have lce : ce.locals = tA.heap.objs.size := by subst ece; rfl
  have ku0 : KeepU h0 (upd h0 dl (.lst [])) := fun b xs e => by rw [upd_ne (ne_of_none e nD)]; exact e
  generalize ehA : upd h0 dl (.lst []) = hA at JA JB pg pt pe w0 nones fA ku0
  have kp4 : ∀ b o, t0.heap.get? b = some o → (pushCells (tA.heap.push { cls := .type "dict", data := .dict #[] }) bsc.names).get? b = some o := fun b o e => pushCells_keeps _ _ _ _ (Heap.get?_push_of_some _ (k3 b o e))
  generalize etB : ({ tA with heap := pushCells (tA.heap.push { cls := .type "dict", data := .dict #[] }) bsc.names } : Shared) = tB at JB ⊢
  have k4 : ∀ b o, t0.heap.get? b = some o → tB.heap.get? b = some o := by rw [← etB]; exact kp4
  have g4 : tB.gens = t0.gens := by rw [← etB]; exact g3
  have still : ∀ {σ' : L2.St} {H' : Hp} {s' : Shared}, Inv (X.blk tA hA bsc ce fp) [] σ' H' s' → (∀ b ∈ fp, H' b = none) → ∀ b ∈ fp, FpOk (X.blk tA hA bsc ce fp) [] H' b := fun {σ' H' s'} I' hn b hb =>
    have e := I'.ok.exf b hb
    ⟨hn b hb, e.1, I'.ok.exfs b hb, .inl hb, e.2, fun p hp => absurd (show p ∈ ([] : List (Addr × Obj)) ++ [] from hp) (by simp)⟩
  have st4 := still JB nones
  have ch4 : ∀ b ∈ [env.locals], ChOk (X.blk tA hA bsc ce fp) [] b := fun b hb => by
    obtain ⟨_, c2, _, c4, c5, c6⟩ := st4 b (by rw [← hfp, List.mem_singleton.mp hb]; exact List.mem_cons_self)
    exact ⟨c4, c2, c5, c6⟩
  have I5 : Inv (X.blk tA hA bsc ce fp) ([] ++ spins a go [env.locals] h0 t0.heap) (wipe σ (own0.map (·.2))) hA tB := JB.pins_of fun p hp => by
    have hp' : p.1 ∈ fp ∧ t0.heap.get? p.1 = some p.2 := by
      rw [List.nil_append] at hp
      rcases List.mem_append.mp hp with hp | hp
      · obtain ⟨m, _, e⟩ := of_plst hp
        exact ⟨by rw [← hfp, List.mem_singleton.mp m]; exact List.mem_cons_self, e⟩
      · rw [List.mem_singleton.mp hp]
        exact ⟨by rw [← hfp]; exact List.mem_cons_of_mem _ List.mem_cons_self, hat⟩
    obtain ⟨c1, c2, c3, _⟩ := st4 p.1 hp'.1
    obtain ⟨_, o, ho, hc⟩ := fB p.1 hp'.1
    rw [hp'.2] at ho
    cases ho
    exact ⟨k4 _ _ hp'.2, c1, c2, c3, hc⟩
  have F0 : Fit0 (X.blk tA hA bsc ce fp) (gpOf X X.A.in1 N env) env.locals := ⟨rfl, rfl, rfl, rfl, F.frs⟩
  have loop : codeAny (model X.prog X.w) X.A (.compLoop (.ListComp elt [⟨tg, iter, ifs, 0⟩] bsc pos) 0 (.ref a) (.ref dl) ce) (compPost (model X.prog X.w) X.A X.xe use Qf (.ref dl) tA.heap.objs.size) tB := by
    refine compLoop_any (fun n s' => ∃ (j : Nat) (H' : Hp) (own : List Addr) (ip : List (Addr × Obj)) (σg : L2.St) (Hg Hs : Hp) (hs : Heap) (gs : GenState), n + j = sizeLine ∧ Snz X X.A.in1 N env It Fn a gi go n own ip σg Hg Hs gs hs ∧ Inv (X.blk tA hA bsc ce fp) ([] ++ spins a go own Hs hs) (wipe σ (own0.map (·.2))) H' s' ∧ KeepU Hs H' ∧
      s'.gens[gi]? = some gs ∧ Wt j H' ∧ ∀ b ∈ own, ChOk (X.blk tA hA bsc ce fp) [] b) ?_ sizeLine ⟨0, hA, [env.locals], ip0, σg0, Hg0, h0, t0.heap, gs0, rfl, Z0, I5, ku0, by rw [g4]; exact hgi, w0, ch4⟩
    clear Z00 Z0 I5 ch4 st4 Is JB hgi w0
    rintro n s5 ⟨j, H5, own, ip, σg, Hg, Hs, hs', gs, hn, Z, I5, kt, hg5, w5, hch⟩
    have I5' : Inv (X.blk tA hA bsc ce fp) ([] ++ plst own Hs hs') (wipe σ (own0.map (·.2))) H5 s5 := I5.pins_of fun p hp => I5.pin p (List.mem_append_right _ (List.mem_append_right _ (List.mem_append_left _ (by rw [List.nil_append] at hp; exact hp))))
    have Ip : Inv (X.blk tA hA bsc ce fp) [] (wipe σ (own0.map (·.2))) H5 s5 := I5.unpinned
    have hgo5 := I5.pin (a, go) (List.mem_append_right _ (List.mem_append_right _ (List.mem_append_right _ (List.mem_singleton.mpr rfl))))
    have R := Z.slp.wake0 F0 I5' kt
    have bare5 := Ip.bare
    have chn : ∀ b, env.locals ≤ b → (b ∈ own ∨ s5.heap.objs.size ≤ b) → ChOk (X.blk tA hA bsc ce fp) [] b := fun b _ h => by
      rcases h with m | hb
      · exact hch b m
      · obtain ⟨_, c2, _, c4, c5, c6⟩ := Ip.fpOk (H' := fun _ => none) hb rfl
        exact ⟨c4, c2, c5, c6⟩
    obtain ⟨t1, t2⟩ := turn j H5 w5
    refine next3 (G := gpOf X X.A.in1 N env) (ix := ixOf env.locals own Hg s5) rfl hr.hd Ip.nolimit (by have := hr.dp; omega) (T.gen _ hgo5.1) hg5 Z.goes R.keep (inv_wg R.inv (allBare_setGen bare5 rfl)) (fun s₁ hx1 h' hk => ?_) fun v s₁ gs' hv => ?_
    · obtain ⟨ys, ip', σ', H', hl, J, q, nr⟩ := hx1
      have J0 : Inv ((gpOf X X.A.in1 N env).X (ixOf env.locals own Hg s5)) [] σ' H' s₁ := J.pins_of fun p hp => by simp at hp
      obtain ⟨K1, _, K3, _⟩ := R.slept0 F0 chn Ip J0 (fun p hp => by simp at hp) nr
      have K2 : Inv (X.blk tA hA bsc ce fp) [] (wipe σ (own0.map (·.2))) (mrg env.locals H5 H') { s₁.setGen gi .finished with heap := h' } := (inv_wg K1 (allBare_setGen K1.bare rfl)).kept (t' := s₁.toks) hk
      have qq := t1 ys H' _ (by omega) q K3 (mrg_same _ _ _)
      have I7 : Inv X pins σ (mrg env.locals H5 H') { s₁.setGen gi .finished with heap := h' } := JA.call' (ch := fp) K2.os K2.base K2.hok K2.bare fun b hb => ⟨(fA b hb).1.2.2.2.1, (fA b hb).1.2.1, (fA b hb).1.2.2.2.2.1, (fA b hb).1.2.2.2.2.2⟩
      have nC : (mrg env.locals H5 H') tA.heap.objs.size = none := by
        have z : (mrg env.locals H5 H') ce.locals = none := K2.free
        rw [lce] at z
        exact z
      obtain ⟨m, hn', _⟩ := K2.loc
      have hn' : ({ s₁.setGen gi .finished with heap := h' } : Shared).heap.Ns ce.locals m := hn'
      rw [lce] at hn'
      exact fin0 dl tA.heap.objs.size _ m _ I7 qq hn' (JA.fpOk (Nat.le_refl _) nC)
    · obtain ⟨hb1, hsl, gz, m, ys, x, ip', σ', H', rfl, hl, rv, J, hip, q, nr, goes⟩ := hv
      obtain ⟨K1, Z', K3, K4⟩ := R.slept0 F0 chn Ip J hip nr
      have hgo4 : s₁.heap.get? a = some go := K4 a (Nat.le_of_lt T.up) Z.no go hgo5.1
      have hno : a ∉ ownOf env.locals own s5.heap s₁.heap := fun mm => by
        obtain ⟨_, h2, _⟩ := mem_ownOf.mp mm
        rcases h2 with h2 | h2
        · exact Z.no h2
        · exact absurd (Nat.lt_of_lt_of_le (Heap.lt_size hgo5.1) h2) (Nat.lt_irrefl _)
      have ha4 : mrg env.locals H5 H' a = none := by
        refine mrg_no hgo5.2.1 (.inr fun xs z => hno ?_)
        obtain ⟨o, ho, hc⟩ := plain_cell (u := .tup xs) rfl (J.hok a _ z)
        exact Z'.pl a _ (Nat.le_of_lt T.up) rfl z
      have Zn : Snz X X.A.in1 N env It Fn a gi go m (ownOf env.locals own s5.heap s₁.heap) ip' σ' H' (mrg env.locals H5 H') gs' s₁.heap := ⟨Z', goes, hgo4, hno⟩
      have hch' : ∀ b ∈ ownOf env.locals own s5.heap s₁.heap, ChOk (X.blk tA hA bsc ce fp) [] b := fun b hb => by
        obtain ⟨h1, h2, _⟩ := mem_ownOf.mp hb
        exact chn b h1 h2
      have bare4 : AllBare (s₁.setGen gi gs').gens := allBare_setGen K1.bare hb1
      have K5 : Inv (X.blk tA hA bsc ce fp) ([] ++ spins a go (ownOf env.locals own s5.heap s₁.heap) (mrg env.locals H5 H') s₁.heap) (wipe σ (own0.map (·.2))) (mrg env.locals H5 H') (s₁.setGen gi gs') := by
        refine inv_wg (K1.pins_of fun p hp => ?_) bare4
        rw [List.nil_append] at hp
        rcases List.mem_append.mp hp with hp | hp
        · obtain ⟨mm, n1, e⟩ := of_plst hp
          obtain ⟨h1, ⟨o, ho, hc⟩, _⟩ := Z'.ow p.1 mm
          rw [e] at ho
          cases ho
          exact ⟨e, n1, (hch' _ mm).2.1, fun z => absurd (Nat.lt_of_lt_of_le (F.frs _ z) h1) (Nat.lt_irrefl _), cellB_no hc⟩
        · rw [List.mem_singleton.mp hp]
          exact ⟨hgo4, ha4, hgo5.2.2.1, hgo5.2.2.2.1, hgo5.2.2.2.2⟩
      have hgg : (s₁.setGen gi gs').gens[gi]? = some gs' := setGen_at (Nat.lt_of_lt_of_le (Array.getElem?_eq_some_iff.mp hg5).1 gz)
      obtain ⟨og, nm, qn, hog, hcl, hdt, _⟩ := T.gen _ hgo4
      rw [hgo4] at hog
      cases hog
      refine go_of (s := s₁.setGen gi gs') (n := "generator") hgo4 hcl hdt (by decide) ?_
      refine thnF (pg_sleep (xeOk_never fun _ _ x => x) pg K5 rv (t2 ys x H' _ (by omega) (by omega) q K3 (mrg_same _ _ _))) fun _ s6 ⟨σ6, H6, I6, ⟨hw6, q6⟩, sl6⟩ => ?_
      have fin : ∀ {s' : Shared} {Hx : Hp} {σ7 : L2.St}, wipe σ7 (own0.map (·.2)) = wipe σ (own0.map (·.2)) → Inv (X.blk tA hA bsc ce fp) ([] ++ spins a go (ownOf env.locals own s5.heap s₁.heap) (mrg env.locals H5 H') s₁.heap) σ7 Hx s' → KeepU (mrg env.locals H5 H') Hx → Wt (j + 1) Hx → Slept2 (s₁.setGen gi gs').gens s'.gens →
          ∃ m', m' < m + 1 ∧ ∃ (j : Nat) (H' : Hp) (own : List Addr) (ip : List (Addr × Obj)) (σg : L2.St) (Hg Hs : Hp) (hs : Heap) (gs : GenState), m' + j = sizeLine ∧ Snz X X.A.in1 N env It Fn a gi go m' own ip σg Hg Hs gs hs ∧ Inv (X.blk tA hA bsc ce fp) ([] ++ spins a go own Hs hs) (wipe σ (own0.map (·.2))) H' s' ∧ KeepU Hs H' ∧
      s'.gens[gi]? = some gs ∧ Wt j H' ∧ ∀ b ∈ own, ChOk (X.blk tA hA bsc ce fp) [] b := fun {s' Hx σ7} hw I' ku w' sl => by
        have hl' : (wipe σ (own0.map (·.2))).length = σ7.length := by rw [← hw, wipe_length]
        exact ⟨m, Nat.lt_succ_self _, j + 1, Hx, _, ip', σ', H', _, s₁.heap, gs', by omega, Zn, I'.weak hl' (fun i v e => by rw [← hw] at e; exact (wipe_some e).1), ku, sl gi gs' hgg hsl, w', hch'⟩
      have pt6 := inv_sleep (A := X.A) (t := forIn ifs true fun c r => if r = true then do let ok ← isTrue c ce (eval c ce); pure (ForInStep.yield ok) else pure (ForInStep.yield r)) (P := fun b σ' Hx => σ' = σ6 ∧ (if b = true then te σ6 Hx fun y Hy => ∃ acc, Hy dl = some (.lst acc) ∧ acc.length < sizeLine ∧ KeepU (mrg env.locals H5 H') (upd Hy dl (.lst (acc ++ [y]))) ∧ Wt (j + 1) (upd Hy dl (.lst (acc ++ [y]))) else KeepU (mrg env.locals H5 H') Hx ∧ Wt (j + 1) Hx)) (fun s I => wpAny_mono (pt.run _ s σ6 H6 _ I q6) (fun b s' ⟨H', I', q'⟩ => ⟨σ6, H', I', rfl, q'⟩) fun _ _ z => z) I6
      refine thnF pt6 fun b s7 ⟨σ7, H7, I7, ⟨e7, q7⟩, sl7⟩ => ?_
      subst e7
      have sl67 : Slept2 (s₁.setGen gi gs').gens s7.gens := fun i x h1 h2 => sl7 i x (sl6 i x h1 h2) h2
      cases b with
      | false =>
        simp only [Bool.false_eq_true, if_false] at q7 ⊢
        exact fin hw6 I7 q7.1 q7.2 sl67
      | true =>
        simp only [if_true] at q7 ⊢
        have pe7 := inv_sleep (A := X.A) (t := eval elt ce) (P := fun z σ' Hx => σ' = σ7 ∧ ∃ yv, RelV yv z ∧ ∃ acc, Hx dl = some (.lst acc) ∧ acc.length < sizeLine ∧ KeepU (mrg env.locals H5 H') (upd Hx dl (.lst (acc ++ [yv]))) ∧ Wt (j + 1) (upd Hx dl (.lst (acc ++ [yv])))) (fun s I => wpAny_mono (pe.run _ s σ7 H7 _ I q7) (fun b s' ⟨yv, H', I', r', q'⟩ => ⟨σ7, H', I', rfl, yv, r', q'⟩) fun _ _ z => z) I7
        refine thnF pe7 fun z s8 ⟨σ8, H8, I8, ⟨e8, yv, r8, acc, hD8, hz8, ku8, w8⟩, sl8⟩ => ?_
        subst e8
        have ap := inv_sleep (A := X.A) (t := call (.builtin "list.append") [.ref dl, z]) (P := fun _ σ' Hx => σ' = σ8 ∧ Hx = upd H8 dl (.lst (acc ++ [yv]))) (fun s I => app_ok (X := X.blk tA hA bsc ce fp) I hD8 hz8 r8 fun s' I' => ⟨σ8, _, I', rfl, rfl⟩) I8
        refine thnF ap fun _ s9 ⟨σ9, H9, I9, ⟨e9, e9'⟩, sl9⟩ => ?_
        subst e9
        subst e9'
        exact fin hw6 I9 ku8 w8 fun i x h1 h2 => sl9 i x (sl8 i x (sl67 i x h1 h2) h2) h2
  exact codeAny_compStart_list loop (wpAny_pyIter_gen (T.gen _ (k4 _ _ hat)) loop)
/-- as a value -/
theorem pe_lc3 {k : Nat} {elt tg iter : Expr} {ifs : List Expr} {bsc : Scope} {own0 : List (Str × Nat)} {pos : Pos} {wi : TGen3} {g : TG} {tt : TT} {te : TE} (hN : X.N.Nodup) (hr : Room (k + 1) X.A) (hi : PGenC X k iter wi) (ok : BlkOk X.N X.env.scope bsc own0) (B : BlkP X bsc tg ifs elt g tt te) (hs : ∀ x, foldedSetIterable iter X.env x = pure x := by intro _; rfl) :
    PE X (.ListComp elt [⟨tg, iter, ifs, 0⟩] bsc pos) (tLc3 wi g tt te (own0.map (·.2))) := by
  constructor
  intro pins s σ H Q I h
  rw [eval_ListComp]
  refine lc3_core hN hr I hi ok B hs h fun dl C s' m H' J q hn f => ?_
  refine ⟨m, hn, fun h2 sb => ⟨.ref dl, H', ?_, rfl, q⟩⟩
  exact J.turned (t' := s'.toks) (fun b o hb e => (sb.2 b hb).trans e) f.1 f.2.1 f.2.2.2.1 f.2.2.2.2.1 f.2.2.2.2.2
/-- name = [..] over a generator -/
theorem ps_setLc3 {k i : Nat} {y : Str} {py : Pos} {elt tg iter : Expr} {ifs : List Expr} {bsc : Scope} {own0 : List (Str × Nat)} {pos spos : Pos} {wi : TGen3} {g : TG} {tt : TT} {te : TE} (hN : X.N.Nodup) (hr : Room (k + 1) X.A) (hy : X.N[i]? = some y) (hyl : X.env.scope.names.lookup y = some .local)
    (hsw : swapsWith (.ListComp elt [⟨tg, iter, ifs, 0⟩] bsc pos) (some (.Name y py)) spos.line X.env = pure true) (hi : PGenC X k iter wi) (ok : BlkOk X.N X.env.scope bsc own0) (B : BlkP X bsc tg ifs elt g tt te) (hs : ∀ x, foldedSetIterable iter X.env x = pure x := by intro _; rfl) :
    PS X (.Assign [.Name y py] (.ListComp elt [⟨tg, iter, ifs, 0⟩] bsc pos) spos) (tAsg (tLc3 wi g tt te (own0.map (·.2))) (gName i)) := by
  constructor
  intro pins s σ H D I h
  rw [exec_Assign_Name_used _ _ _ _ hsw]
  have h : tLc3 wi g tt te (own0.map (·.2)) σ H (fun x H1 => gName i x σ H1 D.nx) := h
  refine wpAny_bind (wpAny_standAt (wpAny_bind (wpAny_bind (thn (lc3_core (Qf := fun _ s' => SP X pins D .next s') hN hr I hi ok B hs h fun dl C s' m H' J q hn f => ?_) fun _ s' hq => wpAny_pure (wpAny_pure hq)))))
  show wpAny _ _ (assign (.Name y py) X.env (.ref dl)) _ _ _
  refine wpAny_assign_Name (store_ok2 (v := V.ref dl) J hN hy (.inl hyl) rfl (fun s2 J2 ⟨a, sb, ha⟩ => ?_) (.inr hyl))
  have hC : C ≠ a := ha.elim (fun z => by rw [z]; exact f.2.1) fun z e => f.2.2.2.2.1 y a z e.symm
  exact ⟨m, hn.sameBut sb hC, fun h3 sb3 => ⟨_, H', J2.turned (t' := s2.toks) (fun b o hb e => (sb3.2 b hb).trans e) f.1 f.2.1 f.2.2.2.1 f.2.2.2.2.1 f.2.2.2.2.2, q⟩⟩
end
/-! ### each_node -/
def T.nd : T → List Nat → List (List Nat × Str)
  | .nil, _ => []
  | .node l x r, q => (q, x) :: (l.nd (q ++ [108]) ++ r.nd (q ++ [114]))
theorem T.nd_len : ∀ (t : T) (q : List Nat), (t.nd q).length = t.size
  | .nil, _ => rfl
  | .node l x r, q => by
    show (l.nd _ ++ r.nd _).length + 1 = l.size + 1 + r.size
    rw [List.length_append, l.nd_len, r.nd_len]
    omega
theorem T.nd_path : ∀ (t : T) (q : List Nat), ∀ e ∈ t.nd q, e.1.length ≤ q.length + t.size
  | .nil, _, e, h => by cases h
  | .node l x r, q, e, h => by
    show e.1.length ≤ q.length + (l.size + 1 + r.size)
    rcases List.mem_cons.mp h with rfl | h
    · show q.length ≤ _
      omega
    · rcases List.mem_append.mp h with h | h
      · have := l.nd_path _ e h
        rw [List.length_append] at this
        have : e.1.length ≤ q.length + 1 + l.size := this
        omega
      · have := r.nd_path _ e h
        rw [List.length_append] at this
        have : e.1.length ≤ q.length + 1 + r.size := this
        omega
/-- what waits: paths and parts -/
inductive Stk (H : Hp) : List V → List (List Nat × T) → Prop
  | nil : Stk H [] []
  | snoc {vs : List V} {st : List (List Nat × T)} {a : Addr} {v : V} {q : List Nat} {t : T} : Stk H vs st → H a = some (.tup [.str (tx q), v]) → TreeAt H v t → Stk H (vs ++ [.ref a]) (st ++ [(q, t)])
theorem Stk.keep {H H' : Hp} (k : KeepT H H') {vs : List V} {st : List (List Nat × T)} (h : Stk H vs st) : Stk H' vs st := by
  induction h with
  | nil => exact .nil
  | snoc _ e b ih => exact .snoc ih (k _ _ e) (b.keep k)
theorem Stk.len {H : Hp} {vs : List V} {st : List (List Nat × T)} (h : Stk H vs st) : vs.length = st.length := by
  induction h with
  | nil => rfl
  | snoc _ _ _ ih => rw [List.length_append, List.length_append, ih]; rfl
def rem (st : List (List Nat × T)) : List (List Nat × Str) := st.reverse.flatMap fun p => p.2.nd p.1
theorem rem_snoc (st : List (List Nat × T)) (q : List Nat) (t : T) : rem (st ++ [(q, t)]) = t.nd q ++ rem st := by
  unfold rem
  rw [List.reverse_append, List.reverse_singleton]
  rfl
def mea (st : List (List Nat × T)) : Nat := (st.map fun p => 2 * p.2.size + 1).sum
theorem mea_snoc (st : List (List Nat × T)) (q : List Nat) (t : T) : mea (st ++ [(q, t)]) = mea st + (2 * t.size + 1) := by
  unfold mea
  rw [List.map_append, List.sum_append]
  show _ + (2 * t.size + 1 + 0) = _
  omega
theorem mea_len (st : List (List Nat × T)) : st.length ≤ mea st := by
  induction st with
  | nil => exact Nat.le_refl _
  | cons p st ih =>
    unfold mea at ih ⊢
    rw [List.map_cons, List.sum_cons, List.length_cons]
    omega
/-- the nodes, one by one -/
def itN (t : T) : List V → V → Hp → Prop := fun ys x H => ∃ (q : Addr) (w : List Nat × Str), x = .ref q ∧ (t.nd [])[ys.length]? = some w ∧ H q = some (.tup [.str (tx w.1), .str w.2])
def fnN (t : T) : List V → Hp → Prop := fun ys _ => ys.length = t.size
def spEach : SpG3 := fun vs H It Fn => ∃ (v : V) (t : T), vs = [v] ∧ TreeAt H v t ∧ t.size ≤ 60 ∧ It = itN t ∧ Fn = fnN t
theorem sc_each_node : GScope ["tree", "waiting", "path", "part", "left", "label", "right"] ["tree"] (defScope s_each_node) := ⟨rfl, rfl, rfl, by decide +kernel, rfl, by decide +kernel, by decide +kernel⟩
theorem keepP_T {H H' : Hp} (k : KeepP H H') : KeepT H H' := fun b xs e => k b _ rfl e
section
variable {P : Program} {w : World} {K : PySem.W.Frag} {mg : Str → Option Value} {base : Heap} {f : Addr} {fd : FuncData}
theorem ok_each (F : Fun K "each_node" "each_node" s_each_node f fd) : GFn3 P w K mg base 2 f fd ["tree"] spEach := by
  obtain ⟨oc, od, kV, doc, pm, an, cdv, ct, osl, rfl, lk, hcd⟩ := F.ex
  refine gfn3_of (k := 1) lk hcd sc_each_node (fun _ => rfl) (fun vs H It Fn h => ?_) fun Aw outer L vs Hs It Fn hr h => ?_
  · obtain ⟨v, t, rfl, _⟩ := h
    rfl
  obtain ⟨v, t, rfl, bt, hz, rfl, rfl⟩ := h
  refine ⟨_, (g3s_cons (h3_plain fun ix => (ps_set (i := 1) sc_each_node.nd rfl (.inl rfl) (pe_lst (pa_cons (pe_tup (pa_cons pe_str (pa_cons (pv 0) pa_nil))) pa_nil))))
    (g3s_cons (h3_while (fun ix => (pt_truth (pv 1) (by intro _; rfl)))
      (g3s_cons (h3_plain fun ix => (ps_asg (pe_bm0 PySem.F.plainAttrs_list PySem.F.slot_list_pop PySem.F.type_list_pop mt_pop (pv 1)) (pg_tup rfl (pgs_cons (pg_name (i := 2) sc_each_node.nd rfl (.inl rfl)) (pgs_cons (pg_name (i := 3) sc_each_node.nd rfl (.inl rfl)) pgs_nil)))))
    (g3s_cons (h3_if (fun ix => (pt_cmpR op_notN (pv 3) pe_non (nomark _)))
      (g3s_cons (h3_plain fun ix => (ps_asg (pv 3) (pg_tup rfl (pgs_cons (pg_name (i := 4) sc_each_node.nd rfl (.inl rfl)) (pgs_cons (pg_name (i := 5) sc_each_node.nd rfl (.inl rfl)) (pgs_cons (pg_name (i := 6) sc_each_node.nd rfl (.inl rfl)) pgs_nil))))))
    (g3s_cons (h3_yield (fun ix => (pe_tup (pa_cons (pv 2) (pa_cons (pv 5) pa_nil)))) rfl rfl)
    (g3s_cons (h3_plain fun ix => (ps_expr (pe_bm PySem.F.plainAttrs_list PySem.F.slot_list_append PySem.F.type_list_append mt_append (pv 1) (pa_cons (pe_tup (pa_cons (pe_op op_add_str (pv 2) pe_str) (pa_cons (pv 6) pa_nil))) pa_nil))))
    (g3s_cons (h3_plain fun ix => (ps_expr (pe_bm PySem.F.plainAttrs_list PySem.F.slot_list_append PySem.F.type_list_append mt_append (pv 1) (pa_cons (pe_tup (pa_cons (pe_op op_add_str (pv 2) pe_str) (pa_cons (pv 4) pa_nil))) pa_nil)))) g3s_nil)))) g3s_nil) g3s_nil))) g3s_nil)), fun H' kp => ?_⟩
  refine ⟨_, rfl, (by show 2 ≤ sizeLine; decide), fun b nb => ⟨(by show 1 ≤ sizeLine; decide), fun Wd nW => ?_⟩⟩
  have k1 := same_new nb (.tup [.str "", v])
  have k2 := same_new nW (.lst [.ref b])
  have bt' := (bt.keep (keepP_T kp)).same (k1.trans k2)
  have eb := k2 _ _ (upd_same (H := H') (a := b) (o := .tup [.str "", v]))
  have eW := upd_same (H := upd H' b (.tup [.str "", v])) (a := Wd) (o := .lst [.ref b])
  generalize upd (upd H' b (.tup [.str "", v])) Wd (.lst [.ref b]) = H0 at bt' eb eW ⊢
  have WI : ∃ W : Nat → List V → L2.St → Hp → Prop, W = fun m ys σ H2 => ∃ (items : List V) (st : List (List Nat × T)) (o2 o3 o4 o5 o6 : Option V), σ = [some v, some (.ref Wd), o2, o3, o4, o5, o6] ∧ H2 Wd = some (.lst items) ∧ Stk H2 items st ∧ (t.nd []).drop ys.length = rem st ∧ ys.length ≤ t.size ∧ m = mea st ∧ mea st ≤ 121 ∧ ∀ p ∈ st, p.1.length + p.2.size ≤ 60 := ⟨_, rfl⟩
  obtain ⟨W, hW⟩ := WI
  refine ⟨W, ⟨mea [([], t)], ?_⟩, fun m ys σ H2 hp => ?_⟩
  · rw [hW]
    refine ⟨[.ref b], [([], t)], none, none, none, none, none, rfl, eW, .snoc (vs := []) (st := []) .nil eb bt', ?_, Nat.zero_le _, rfl, ?_, fun p hp => ?_⟩
    · show (t.nd []).drop 0 = rem ([] ++ [([], t)])
      rw [rem_snoc]
      show t.nd [] = t.nd [] ++ []
      rw [List.append_nil]
    · show 2 * t.size + 1 + 0 ≤ 121
      omega
    · rw [List.mem_singleton.mp hp]
      show 0 + t.size ≤ 60
      omega
  · rw [hW] at hp
    obtain ⟨items, st, o2, o3, o4, o5, o6, rfl, eW2, sk, hd, hy, rfl, hm, hq⟩ := hp
    clear eW eb bt' nb nW k1 k2
    refine ⟨_, rfl, !items.isEmpty, .inl ⟨items, SqL.of eW2, rfl⟩, ?_⟩
    cases sk with
    | nil =>
      refine iteF ?_
      have hd : (t.nd []).drop ys.length = [] := hd
      have := List.drop_eq_nil_iff.mp hd
      rw [t.nd_len] at this
      show ys.length = t.size
      omega
    | @snoc vs st' a pv q t' sk' ea bp =>
      have ne : (!(vs ++ [V.ref a]).isEmpty) = true := by cases vs <;> rfl
      rw [ne]
      refine iteT ⟨fun ys' σ' H' => ∃ m', m' < mea (st' ++ [(q, t')]) ∧ W m' ys' σ' H', fun ys' σ' H' h => h, ?_⟩
      have sl := sk'.len
      have ml := mea_len st'
      rw [mea_snoc] at hm ⊢
      have hq' : ∀ p ∈ st', p.1.length + p.2.size ≤ 60 := fun p hp => hq p (List.mem_append_left _ hp)
      have hq2 : q.length + t'.size ≤ 60 := hq (q, t') (List.mem_append_right _ (List.mem_singleton.mpr rfl))
      rw [rem_snoc] at hd
      refine ⟨.ref Wd, rfl, .inl ⟨rfl, _, SqL.of eW2⟩, Wd, _, .ref a, rfl, rfl, eW2, by rw [List.length_append]; simp, ?_⟩
      have ka : KeepT H2 (upd H2 Wd (.lst (vs ++ [V.ref a]).dropLast)) := fun b xs e => by rw [upd_ne (ne_of e eW2 (by intro z; cases z))]; exact e
      have eW3 : (upd H2 Wd (.lst (vs ++ [V.ref a]).dropLast)) Wd = some (.lst vs) := by rw [upd_same, List.dropLast_concat]
      have sk3 := sk'.keep ka
      have ea3 := ka _ _ ea
      have bp3 := bp.keep ka
      generalize upd H2 Wd (.lst (vs ++ [V.ref a]).dropLast) = H3 at eW3 sk3 ea3 bp3 ⊢
      refine ⟨a, _, rfl, SqT.of ea3, rfl, _, _, rfl, _, _, rfl, rfl, ?_⟩
      clear eW2 ka ne sk' ea bp
      rcases bp3.inv with ⟨rfl, rfl⟩ | ⟨c, lv, rv, x, tl, tr, rfl, rfl, ec, bl, br⟩
      · refine ⟨_, rfl, rfl, _, rfl, ?_⟩
        rw [show (!decide ((V.non : V) = V.non)) = false from rfl]
        refine iteF ⟨mea st', ?_, ?_⟩
        · show mea st' < mea st' + (2 * 0 + 1)
          omega
        · rw [hW]
          exact ⟨vs, st', _, _, _, _, _, rfl, eW3, sk3, hd, hy, rfl, by omega, hq'⟩
      · refine ⟨_, rfl, rfl, _, rfl, ?_⟩
        rw [show (!decide (V.ref c = V.non)) = true from rfl]
        refine iteT ⟨_, rfl, c, _, rfl, SqT.of ec, rfl, _, _, rfl, _, _, rfl, _, _, rfl, rfl, ?_⟩
        have sz : (T.node tl x tr).size = tl.size + 1 + tr.size := rfl
        have nl := congrArg List.length hd
        rw [List.length_drop, t.nd_len, List.length_append, T.nd_len] at nl
        have hy2 : ys.length < t.size := by omega
        have hix : (t.nd [])[ys.length]? = some (q, x) := by
          have : ((t.nd []).drop ys.length)[0]? = some (q, x) := by rw [hd]; rfl
          rw [List.getElem?_drop] at this
          exact this
        refine ⟨Nat.lt_of_lt_of_le hy2 (Nat.le_trans hz (small (by omega))), _, rfl, _, rfl, (by show 2 ≤ sizeLine; decide), fun y ny => ⟨⟨y, (q, x), rfl, hix, upd_same⟩, fun H5 k5 => ?_⟩⟩
        have k4 := same_new ny (.tup [.str (tx q), .str x])
        have kt := KeepT.trans (Tw.Same.keepT k4) (keepP_T k5)
        have eW5 := k5 Wd _ rfl (k4 _ _ eW3)
        have sk5 := sk3.keep kt
        have bl5 := bl.keep kt
        have br5 := br.keep kt
        clear eW3 sk3 ea3 bp3 ec bl br k4 k5 kt ny
        have ql : (tx q).length = q.length := rfl
        have le1 : vs.length ≤ 200 := by omega
        have er : (tx q ++ "r" : Str) = tx (q ++ [114]) := by rw [show ("r" : Str) = tx [114] by decide +kernel, tx_app]
        have el : (tx q ++ "l" : Str) = tx (q ++ [108]) := by rw [show ("l" : Str) = tx [108] by decide +kernel, tx_app]
        refine ⟨.ref Wd, rfl, .inl ⟨rfl, _, SqL.of eW5⟩, _, rfl, _, _, rfl, rfl, small (by rw [ql]; show q.length + 1 ≤ 1000; omega), _, rfl, (by show 2 ≤ sizeLine; decide), fun r1 n1 => ?_⟩
        rw [er]
        have k6 := same_new n1 (.tup [.str (tx (q ++ [114])), rv])
        have e6 := upd_same (H := H5) (a := r1) (o := .tup [.str (tx (q ++ [114])), rv])
        refine ⟨Wd, vs, _, rfl, rfl, k6 _ _ eW5, Nat.lt_of_le_of_lt le1 (by decide), ?_⟩
        have sk6 := (sk5.keep (Tw.Same.keepT k6))
        have bl6 := bl5.same k6
        have br6 := br5.same k6
        have eW6 := k6 _ _ eW5
        generalize upd H5 r1 (.tup [.str (tx (q ++ [114])), rv]) = H6 at k6 e6 sk6 bl6 br6 eW6 ⊢
        have k7 : KeepT H6 (upd H6 Wd (.lst (vs ++ [.ref r1]))) := fun b xs e => by rw [upd_ne (ne_of e eW6 (by intro z; cases z))]; exact e
        have sk7 : Stk (upd H6 Wd (.lst (vs ++ [.ref r1]))) (vs ++ [.ref r1]) (st' ++ [(q ++ [114], tr)]) := .snoc (sk6.keep k7) (k7 _ _ e6) (br6.keep k7)
        have bl7 := bl6.keep k7
        have eW7 := upd_same (H := H6) (a := Wd) (o := .lst (vs ++ [.ref r1]))
        generalize upd H6 Wd (.lst (vs ++ [.ref r1])) = H7 at sk7 bl7 eW7 ⊢
        clear k6 e6 sk6 bl6 br6 eW6 k7 sk5 bl5 br5 eW5 n1
        refine ⟨.ref Wd, rfl, .inl ⟨rfl, _, SqL.of eW7⟩, _, rfl, _, _, rfl, rfl, small (by rw [ql]; show q.length + 1 ≤ 1000; omega), _, rfl, (by show 2 ≤ sizeLine; decide), fun r2 n2 => ?_⟩
        rw [el]
        have k8 := same_new n2 (.tup [.str (tx (q ++ [108])), lv])
        have e8 := upd_same (H := H7) (a := r2) (o := .tup [.str (tx (q ++ [108])), lv])
        refine ⟨Wd, vs ++ [.ref r1], _, rfl, rfl, k8 _ _ eW7, Nat.lt_of_le_of_lt (show (vs ++ [V.ref r1]).length ≤ 201 by rw [List.length_append]; show vs.length + 1 ≤ 201; omega) (by decide), ?_⟩
        have sk8 := (sk7.keep (Tw.Same.keepT k8))
        have bl8 := bl7.same k8
        have eW8 := k8 _ _ eW7
        generalize upd H7 r2 (.tup [.str (tx (q ++ [108])), lv]) = H8 at k8 e8 sk8 bl8 eW8 ⊢
        have k9 : KeepT H8 (upd H8 Wd (.lst (vs ++ [.ref r1] ++ [.ref r2]))) := fun b xs e => by rw [upd_ne (ne_of e eW8 (by intro z; cases z))]; exact e
        have mm : mea (st' ++ [(q ++ [114], tr)] ++ [(q ++ [108], tl)]) = mea st' + (2 * tr.size + 1) + (2 * tl.size + 1) := by rw [mea_snoc, mea_snoc]
        refine ⟨mea (st' ++ [(q ++ [114], tr)] ++ [(q ++ [108], tl)]), ?_, ?_⟩
        · rw [mm]
          show _ < mea st' + (2 * (tl.size + 1 + tr.size) + 1)
          omega
        · rw [hW]
          refine ⟨_, _, _, _, _, _, _, rfl, upd_same, .snoc (sk8.keep k9) (k9 _ _ e8) (bl8.keep k9), ?_, ?_, rfl, by omega, fun p hp => ?_⟩
          · rw [rem_snoc, rem_snoc, List.length_append, ← List.drop_drop, hd]
            show (List.drop 1 ((q, x) :: (tl.nd (q ++ [108]) ++ tr.nd (q ++ [114])) ++ rem st')) = _
            show (tl.nd (q ++ [108]) ++ tr.nd (q ++ [114])) ++ rem st' = _
            rw [List.append_assoc]
          · rw [List.length_append]
            exact hy2
          · rcases List.mem_append.mp hp with hp | hp
            · rcases List.mem_append.mp hp with hp | hp
              · exact hq' p hp
              · rw [List.mem_singleton.mp hp]
                show (q ++ [114]).length + tr.size ≤ 60
                rw [List.length_append]
                show q.length + 1 + _ ≤ 60
                omega
            · rw [List.mem_singleton.mp hp]
              show (q ++ [108]).length + tl.size ≤ 60
              rw [List.length_append]
              show q.length + 1 + _ ≤ 60
              omega
end
/-! ### signs -/
abbrev ch (c : Nat) : Str := ⟨#[c]⟩
theorem tx_from (l : List Nat) (k : Nat) : cutS (tx l) (some (k : Int)) none = tx (l.drop k) := by
  unfold cutS tx
  show (⟨_⟩ : Str) = ⟨_⟩
  rw [HT.sIx_nat, HT.sIx_none]
  show (⟨((l.drop (min k l.length)).take (l.length - min k l.length)).toArray⟩ : Str) = ⟨(l.drop k).toArray⟩
  by_cases h : k ≤ l.length
  · rw [Nat.min_eq_left h, List.take_of_length_le (by rw [List.length_drop]; omega)]
  · rw [Nat.min_eq_right (by omega), List.drop_eq_nil_of_le (Nat.le_refl _), List.drop_eq_nil_of_le (by omega), List.take_nil]
theorem for_text {x : Str} {g : TG} {tb : TS} {D : Ends} {σ : L2.St} {H : Hp} (Pv : Nat → L2.St → Hp → Prop) (h0 : Pv 0 σ H)
    (hs : ∀ i c σ H, x.cps.toList[i]? = some c → Pv i σ H → g (.str ⟨#[c]⟩) σ H fun σ2 H2 => tb { D with nx := Pv (i + 1), ct := Pv (i + 1), bk := D.nx } σ2 H2)
    (hd : ∀ σ H, Pv x.cps.toList.length σ H → D.nx σ H) :
    ∃ W : Nat → Nat → L2.St → Hp → Prop, (∃ m, W 0 m σ H) ∧ ∀ i m σ H, W i m σ H →
      ((Its x).stop i H ∧ D.nx σ H) ∨ ((Its x).go i H ∧ ∃ N : L2.St → Hp → Prop, (∀ σ' H', N σ' H' → ∃ m', m' < m ∧ W (i + 1) m' σ' H') ∧ ∀ v H', (Its x).yld i H v H' → g v σ H' fun σ2 H2 => tb { D with nx := N, ct := N, bk := D.nx } σ2 H2) := by
  refine for_it walk_str Pv h0 (fun _ _ _ _ _ => trivial) (fun i v σ H H' hi hp hy => ?_) (fun σ H hp => hd σ H (by rw [Array.length_toList]; exact hp))
  obtain ⟨rfl, c, hc, rfl⟩ := hy
  exact hs i c σ H' (by rw [Array.getElem?_toList]; exact hc) hp
theorem lc_text {x : Str} {g : TG} {tt : TT} {te : TE} {vs : List Nat} {σ : L2.St} {H1 : Hp} {D : Addr} {Qd : Hp → Prop} (Pv : Nat → Hp → Prop) (h0 : Pv 0 (upd H1 D (.lst [])))
    (hs : ∀ i c H, x.cps.toList[i]? = some c → Pv i H → g (.str ⟨#[c]⟩) (wipe σ vs) H fun σ2 H2 => wipe σ2 vs = wipe σ vs ∧ tt σ2 H2 fun b H3 =>
      if b = true then te σ2 H3 fun y H4 => ∃ acc, H4 D = some (.lst acc) ∧ acc.length < sizeLine ∧ Pv (i + 1) (upd H4 D (.lst (acc ++ [y]))) else Pv (i + 1) H3) (hd : ∀ H, Pv x.cps.toList.length H → Qd H) :
    ∃ W : Nat → Nat → Hp → Prop, (∃ m, W 0 m (upd H1 D (.lst []))) ∧ ∀ i m H, W i m H →
      ((Its x).stop i H ∧ Qd H) ∨ ((Its x).go i H ∧ ∃ Nx : Hp → Prop, (∀ H', Nx H' → ∃ m', m' < m ∧ W (i + 1) m' H') ∧ ∀ v H', (Its x).yld i H v H' → g v (wipe σ vs) H' fun σ2 H2 => wipe σ2 vs = wipe σ vs ∧ tt σ2 H2 fun b H3 =>
        if b = true then te σ2 H3 fun y H4 => ∃ acc, H4 D = some (.lst acc) ∧ acc.length < sizeLine ∧ Nx (upd H4 D (.lst (acc ++ [y]))) else Nx H3) := by
  refine lc_it walk_str Pv h0 (fun _ _ _ _ => trivial) (fun i v H H' hi hp hy => ?_) (fun H hp => hd H (by rw [Array.length_toList]; exact hp))
  obtain ⟨rfl, c, hc, rfl⟩ := hy
  exact hs i c H' (by rw [Array.getElem?_toList]; exact hc) hp

theorem str_l : Str.ofString "l" = tx [108] := by decide +kernel
theorem str_r : Str.ofString "r" = tx [114] := by decide +kernel
theorem str_0 : Str.ofString "" = tx [] := by decide +kernel
theorem iteS {x y : Str} {A B : Prop} (h : x = y) (a : A) : if decide (V.str x = V.str y) = true then A else B := by
  rw [if_pos (decide_eq_true (congrArg V.str h))]; exact a
theorem iteR {x y : Str} {A B : Prop} (h : x ≠ y) (b : B) : if decide (V.str x = V.str y) = true then A else B := by
  rw [if_neg (fun z => h (V.str.inj (of_decide_eq_true z)))]; exact b
/-! ### paths and parts -/
def dir : Bool → Nat
  | false => 108
  | true => 114
def px (p : List Bool) : Str := tx (p.map dir)
theorem dir_inj {a b : Bool} (h : dir a = dir b) : a = b := by cases a <;> cases b <;> first | rfl | cases h
theorem dirs_inj {p q : List Bool} (h : p.map dir = q.map dir) : p = q := by
  induction p generalizing q with
  | nil => cases q with
    | nil => rfl
    | cons b q => cases h
  | cons a p ih => cases q with
    | nil => cases h
    | cons b q =>
      rw [List.map_cons, List.map_cons] at h
      injection h with h1 h2
      rw [dir_inj h1, ih h2]
theorem px_inj {p q : List Bool} (h : px p = px q) : p = q := dirs_inj (tx_inj h)
theorem px_nil : px [] = Str.ofString "" := str_0.symm
theorem px_len (p : List Bool) : (px p).length = p.length := by
  show (p.map dir).length = _
  rw [List.length_map]
theorem px_drop (p : List Bool) : cutS (px p) (some 1) none = px (p.drop 1) := by
  have h := tx_from (p.map dir) 1
  rw [← List.map_drop] at h
  exact h
def T.at : T → List Bool → Option T
  | t, [] => some t
  | .nil, _ :: _ => none
  | .node l _ _, false :: p => l.at p
  | .node _ _ r, true :: p => r.at p
def T.put : T → List Bool → T → T
  | _, [], u => u
  | .nil, _ :: _, _ => .nil
  | .node l x r, false :: p, u => .node (l.put p u) x r
  | .node l x r, true :: p, u => .node l x (r.put p u)
theorem T.at_size : ∀ (t : T) (p : List Bool) {o : T}, t.at p = some o → o.size + p.length ≤ t.size
  | t, [], o, h => by cases t <;> (cases h; exact Nat.le_refl _)
  | .nil, _ :: _, _, h => by cases h
  | .node l x r, false :: p, o, h => by
    have := l.at_size p (show l.at p = some o from h)
    show o.size + (p.length + 1) ≤ l.size + 1 + r.size
    omega
  | .node l x r, true :: p, o, h => by
    have := r.at_size p (show r.at p = some o from h)
    show o.size + (p.length + 1) ≤ l.size + 1 + r.size
    omega
theorem T.put_size : ∀ (t : T) (p : List Bool) (u : T) {o : T}, t.at p = some o → (t.put p u).size + o.size = t.size + u.size
  | t, [], u, o, h => by cases t <;> (cases h; exact Nat.add_comm _ _)
  | .nil, _ :: _, _, _, h => by cases h
  | .node l x r, false :: p, u, o, h => by
    have := l.put_size p u (show l.at p = some o from h)
    show (l.put p u).size + 1 + r.size + o.size = l.size + 1 + r.size + u.size
    omega
  | .node l x r, true :: p, u, o, h => by
    have := r.put_size p u (show r.at p = some o from h)
    show l.size + 1 + (r.put p u).size + o.size = l.size + 1 + r.size + u.size
    omega
def spPart : Sp := fun vs H Q _ => ∃ (v : V) (t u : T) (p : List Bool), vs = [v, .str (px p)] ∧ TreeAt H v t ∧ t.at p = some u ∧ p.length ≤ 100 ∧ ∀ (v' : V) (H' : Hp), Same H H' → TreeAt H' v' u → Q v' H'
def spWith (n : Nat) : Sp := fun vs H Q _ => ∃ (v vp : V) (t u : T) (p : List Bool), vs = [v, .str (px p), vp] ∧ TreeAt H v t ∧ TreeAt H vp u ∧ p.length < n ∧ p.length ≤ 100 ∧ (t.at p).isSome = true ∧ ∀ (v' : V) (H' : Hp), Same H H' → TreeAt H' v' (t.put p u) → Q v' H'
def spRepl : Sp := fun vs H Q _ => ∃ (v vp : V) (t u o : T) (p : List Bool), vs = [v, .str (px p), vp] ∧ TreeAt H v t ∧ TreeAt H vp u ∧ t.at p = some o ∧ t.size ≤ 12 ∧ (t.put p u).size ≤ 12 ∧ ∀ (v' : V) (H' : Hp), Same H H' → TreeAt H' v' (t.put p u) → Q v' H'
theorem dir_str (b : Bool) : decide (V.str (ch (dir b)) = V.str (Str.ofString "l")) = !b := by
  rw [str_l]
  cases b
  · exact decide_eq_true rfl
  · exact decide_eq_false fun z => absurd (tx_inj (V.str.inj z)) (by simp [dir])
theorem dir_in (b : Bool) : inV (.str (ch (dir b))) [.str (Str.ofString "l"), .str (Str.ofString "r")] = true := by
  rw [str_l, str_r]
  cases b <;> rfl
def spSz (n : Nat) : Sp := fun vs H Q _ => ∃ (v : V) (t : T), vs = [v] ∧ TreeAt H v t ∧ t.size < n ∧ Q (.int (t.size : Int)) H
section
variable {P : Program} {w : World} {K : PySem.W.Frag} {mg : Str → Option Value} {base : Heap} {f : Addr} {fd : FuncData}
theorem ok_size (F : Fun K "size_of" "size_of" s_size_of f fd) (b : Binds K fd ["tree"] []) (g : mg "size_of" = some (.ref f)) : ∀ n : Nat, FnOk P w K mg base CX0 n f fd ["tree"] (spSz n)
  | 0 => by
    have no : ∀ vs H Q E, ¬ spSz 0 vs H Q E := fun vs H Q E h => by
      obtain ⟨v, t, _, _, h1, _⟩ := h
      omega
    exact ⟨fun vs H Q E h => absurd h (no vs H Q E), fun A outer s H args us vs Q E _ _ _ _ h => absurd h (no vs H Q E)⟩
  | n + 1 => by
    have Dself : Df P w K mg base n "size_of" ["tree"] (spSz n) := ⟨f, fd, ok_size F b g n, b, F.kp, g⟩
    refine F.ok sc_size_of (fun vs H Q E h => ?_) (fun cdv A outer s H vs Q E hr h => ?_)
    · obtain ⟨v, t, rfl, _⟩ := h
      rfl
    obtain ⟨v, t, rfl, hv, hn, q⟩ := h
    refine ⟨_, (pss_cons (ps_if (pt_cmpR op_isN (pv 0) pe_non (nomark _))
      (pss_one (ps_ret pe_int)) pss_nil)
    (pss_one (ps_ret (pe_op op_add (pe_op op_add (pe_call Dself.ok (hr.mono (by omega)) rfl Dself.g Dself.kp Dself.b .nil pass0 (pa_cons (pe_ix ix_tup (pv 0) pe_int (fun _ _ => rfl)) pa_nil)) pe_int) (pe_call Dself.ok (hr.mono (by omega)) rfl Dself.g Dself.kp Dself.b .nil pass0 (pa_cons (pe_ix ix_tup (pv 0) pe_int (fun _ _ => rfl)) pa_nil)))))), ?_⟩
    rcases hv.inv with ⟨rfl, rfl⟩ | ⟨a, l, r, x, tl, tr, rfl, rfl, ea, hl, hr'⟩
    · exact ⟨_, rfl, rfl, _, rfl, iteT q⟩
    · refine ⟨_, rfl, rfl, _, rfl, iteF ?_⟩
      have hz : tl.size + 1 + tr.size < n + 1 := hn
      refine ⟨_, rfl, a, _, 0, l, rfl, rfl, SqT.of ea, atI_nat (j := 0) rfl, l, tl, rfl, hl, by omega, _, _, rfl, rfl, _, rfl, a, _, 2, r, rfl, rfl, SqT.of ea, atI_nat (j := 2) rfl, r, tr, rfl, hr', by omega, _, _, rfl, rfl, ?_⟩
      have e : (tl.size : Int) + 1 + (tr.size : Int) = ((tl.size + 1 + tr.size : Nat) : Int) := by omega
      show Q (.int ((tl.size : Int) + 1 + (tr.size : Int))) H
      rw [e]
      exact q
/-! ### read_tree and its helpers -/
theorem ok_part {k : Nat} (F : Fun K "part_at" "part_at" s_part_at f fd) (M : Mgs mg) : FnOk P w K mg base CX0 (k + 1) f fd ["tree", "path"] spPart := by
  refine F.ok sc_part_at (fun vs H Q E h => ?_) (fun cdv A outer s H vs Q E hr h => ?_)
  · obtain ⟨v, t, u, p, rfl, _⟩ := h
    rfl
  obtain ⟨v, t, u, p, rfl, ht, hu, hp, q⟩ := h
  refine ⟨_, (pss_cons (ps_if (pt_not (pt_val (pe_callB call_isi rfl M.isi (by decide +kernel) (pa_cons (pv 1) (pa_cons (pe_bltn (v := .ty "str") rfl M.str (by decide +kernel) rfl) pa_nil)))))
      (pss_one ps_never) pss_nil)
    (pss_cons (ps_set (i := 2) sc_part_at.nd rfl (.inl rfl) (pv 0))
    (pss_cons (ps_for PassesOwn.never rfl (pi_str (pv 1)) (pg_name (i := 3) sc_part_at.nd rfl (.inl rfl))
      (pss_cons (ps_if (PW.pt (pw_or (pt_cmpR op_isN (pv 2) pe_non (nomark _)) (pw_or1 (pt_cmpR op_notIn_seq (pv 3) (pe_tup (pa_cons pe_str (pa_cons pe_str pa_nil))) (by rfl)))))
      (pss_one ps_never) pss_nil)
    (pss_one (ps_set (i := 2) sc_part_at.nd rfl (.inl rfl) (pe_ifExp (pt_cmpR op_eq (pv 3) pe_str (nomark _)) (pe_ix ix_tup (pv 2) pe_int (fun _ _ => rfl)) (pe_ix ix_tup (pv 2) pe_int (fun _ _ => rfl)))))))
    (pss_one (ps_ret (pv 2)))))), ?_⟩
  refine ⟨_, rfl, _, _, _, _, true, rfl, .ty _, .base (.str (px p)), kit_ty (by decide +kernel), _, rfl, iteF ?_⟩
  refine ⟨_, rfl, ?_⟩
  refine ⟨_, rfl, px p, rfl, ?_⟩
  refine for_text (x := px p) (fun i σ H' => ∃ (vi : V) (ti : T) (y3 : Option V), σ = [some v, some (.str (px p)), some vi, y3] ∧ Same H H' ∧ TreeAt H' vi ti ∧ ti.at (p.drop i) = some u) ⟨v, t, none, rfl, Same.refl _, ht, hu⟩ (fun i c σ H1 hc hq => ?_) (fun σ H1 hq => ?_)
  · obtain ⟨vi, ti, y3, rfl, s1, hi, ei⟩ := hq
    have hc' : (p.map dir)[i]? = some c := hc
    obtain ⟨b, hb, rfl⟩ : ∃ b, p[i]? = some b ∧ dir b = c := by
      rw [List.getElem?_map] at hc'
      cases e : p[i]? with
      | none => rw [e] at hc'; cases hc'
      | some b => rw [e] at hc'; exact ⟨b, rfl, Option.some.inj hc'⟩
    have hdr : p.drop i = b :: p.drop (i + 1) := by
      obtain ⟨h1, h2⟩ := List.getElem?_eq_some_iff.mp hb
      rw [List.drop_eq_getElem_cons h1, h2]
    rw [hdr] at ei
    rcases hi.inv with ⟨rfl, rfl⟩ | ⟨a, vl, vr, x, tl, tr, rfl, rfl, ea, hl, hr'⟩
    · cases ei
    refine ⟨_, rfl, rfl, _, rfl, iteF ?_⟩
    refine ⟨_, rfl, (by show 2 ≤ sizeLine; decide), fun tp ntp => ?_⟩
    have k2 := same_new ntp (.tup [.str "l", .str "r"])
    refine ⟨tp, _, rfl, .inr (SqT.of upd_same), rfl, (by decide +kernel), _, rfl, ?_⟩
    have hin : (!inV (V.str (ch (dir b))) [V.str "l", V.str "r"]) = false := by rw [dir_in]; rfl
    rw [hin]
    refine iteF ?_
    have s12 := s1.trans k2
    refine ⟨_, rfl, rfl, _, rfl, ?_⟩
    rw [dir_str]
    cases b with
    | false =>
      refine iteT ⟨_, rfl, a, _, 0, vl, rfl, rfl, SqT.of (k2 _ _ ea), atI_nat (j := 0) rfl, ?_⟩
      exact ⟨vl, tl, _, rfl, s12, hl.same k2, ei⟩
    | true =>
      refine iteF ⟨_, rfl, a, _, 2, vr, rfl, rfl, SqT.of (k2 _ _ ea), atI_nat (j := 2) rfl, ?_⟩
      exact ⟨vr, tr, _, rfl, s12, hr'.same k2, ei⟩
  · obtain ⟨vi, ti, y3, rfl, s1, hi, ei⟩ := hq
    rw [List.drop_eq_nil_of_le (by rw [show (px p).cps.toList = p.map dir from rfl, List.length_map]; exact Nat.le_refl _)] at ei
    have : ti = u := by cases ti <;> (cases ei; rfl)
    subst this
    exact ⟨_, rfl, q vi H1 s1 hi⟩
theorem ok_with (F : Fun K "with_part" "with_part" s_with_part f fd) (b : Binds K fd ["tree", "path", "part"] []) (g : mg "with_part" = some (.ref f)) : ∀ n : Nat, FnOk P w K mg base CX0 n f fd ["tree", "path", "part"] (spWith n)
  | 0 => by
    have no : ∀ vs H Q E, ¬ spWith 0 vs H Q E := fun vs H Q E h => by
      obtain ⟨v, vp, t, u, p, _, _, _, h1, _⟩ := h
      exact absurd h1 (Nat.not_lt_zero _)
    exact ⟨fun vs H Q E h => absurd h (no vs H Q E), fun A outer s H args us vs Q E _ _ _ _ h => absurd h (no vs H Q E)⟩
  | n + 1 => by
    have Dself : Df P w K mg base n "with_part" ["tree", "path", "part"] (spWith n) := ⟨f, fd, ok_with F b g n, b, F.kp, g⟩
    refine F.ok sc_with_part (fun vs H Q E h => ?_) (fun cdv A outer s H vs Q E hr h => ?_)
    · obtain ⟨v, vp, t, u, p, rfl, _⟩ := h
      rfl
    obtain ⟨v, vp, t, u, p, rfl, ht, hu, hn, hp, hs, q⟩ := h
    refine ⟨_, (pss_cons (ps_if (pt_cmpR op_eq (pv 1) pe_str (nomark _))
      (pss_one (ps_ret (pv 2))) pss_nil)
    (pss_cons (ps_asg (pv 0) (pg_tup rfl (pgs_cons (pg_name (i := 3) sc_with_part.nd rfl (.inl rfl)) (pgs_cons (pg_name (i := 4) sc_with_part.nd rfl (.inl rfl)) (pgs_cons (pg_name (i := 5) sc_with_part.nd rfl (.inl rfl)) pgs_nil)))))
    (pss_cons (ps_if (pt_cmpR op_eq (pe_ix ix_str (pv 1) pe_int (fun _ _ => rfl)) pe_str (nomark _))
      (pss_one (ps_ret (pe_tup (pa_cons (pe_call Dself.ok (hr.mono (by omega)) rfl Dself.g Dself.kp Dself.b .nil pass0 (pa_cons (pv 3) (pa_cons (pe_slice sl_str (pv 1) (po_some pe_int) po_none) (pa_cons (pv 2) pa_nil)))) (pa_cons (pv 4) (pa_cons (pv 5) pa_nil)))))) pss_nil)
    (pss_one (ps_ret (pe_tup (pa_cons (pv 3) (pa_cons (pv 4) (pa_cons (pe_call Dself.ok (hr.mono (by omega)) rfl Dself.g Dself.kp Dself.b .nil pass0 (pa_cons (pv 5) (pa_cons (pe_slice sl_str (pv 1) (po_some pe_int) po_none) (pa_cons (pv 2) pa_nil)))) pa_nil))))))))), ?_⟩
    have lp : (px p).length ≤ sizeLine := small (by rw [px_len]; omega)
    refine ⟨_, rfl, rfl, _, rfl, ?_⟩
    cases p with
    | nil =>
      refine iteS px_nil ⟨_, rfl, ?_⟩
      have e : t.put [] u = u := by cases t <;> rfl
      rw [e] at q
      exact q vp H (Same.refl H) hu
    | cons d p =>
      refine iteR (fun z => by rw [← px_nil] at z; cases px_inj z) ?_
      rcases ht.inv with ⟨rfl, rfl⟩ | ⟨a, vl, vr, x, tl, tr, rfl, rfl, ea, hl, hr'⟩
      · cases hs
      refine ⟨_, rfl, a, _, rfl, SqT.of ea, rfl, vl, _, rfl, .str x, _, rfl, vr, _, rfl, rfl, ?_⟩
      have hp' : p.length + 1 < n + 1 := hn
      have hp2 : p.length + 1 ≤ 100 := hp
      refine ⟨_, rfl, _, _, _, rfl, rfl, lp, atI_nat (j := 0) rfl, rfl, _, rfl, ?_⟩
      have e0 : decide (V.str (ch (dir d)) = V.str (Str.ofString "l")) = !d := dir_str d
      have ed : cutS (px (d :: p)) (some 1) none = px p := px_drop _
      cases d with
      | false =>
        refine iteS str_l.symm ⟨_, rfl, _, rfl, _, rfl, _, rfl, lp, _, rfl, vl, vp, tl, u, p, by rw [ed]; rfl, hl, hu, by omega, by omega, hs, fun v' H1 s1 h1 => ?_⟩
        refine ⟨_, rfl, _, rfl, (by show 3 ≤ sizeLine; decide), fun r nr => ?_⟩
        have k2 := same_new nr (.tup [v', .str x, vr])
        exact q _ _ (s1.trans k2) (.node upd_same (h1.same k2) (hr'.same (s1.trans k2)))
      | true =>
        refine iteR (fun z => by rw [str_l] at z; have := tx_inj z; cases this) ⟨_, rfl, _, rfl, _, rfl, _, rfl, _, rfl, _, rfl, lp, _, rfl, vr, vp, tr, u, p, by rw [ed]; rfl, hr', hu, by omega, by omega, hs, fun v' H1 s1 h1 => ?_⟩
        refine ⟨(by show 3 ≤ sizeLine; decide), fun r nr => ?_⟩
        have k2 := same_new nr (.tup [vl, .str x, v'])
        exact q _ _ (s1.trans k2) (.node upd_same (hl.same (s1.trans k2)) (h1.same k2))
theorem ok_repl {tM : Tok} (F : Fun K "replaced" "replaced" s_replaced f fd) (mMAX : mg "MAX_NODES" = some (.int 12 tM)) (Dpart_at : Df P w K mg base 1 "part_at" ["tree", "path"] spPart) (Dsize_of : Df P w K mg base 20 "size_of" ["tree"] (spSz 20)) (Dwith_part : Df P w K mg base 20 "with_part" ["tree", "path", "part"] (spWith 20)) :
    FnOk P w K mg base CX0 21 f fd ["tree", "path", "part"] spRepl := by
  refine F.ok sc_replaced (fun vs H Q E h => ?_) (fun cdv A outer s H vs Q E hr h => ?_)
  · obtain ⟨v, vp, t, u, o, p, rfl, _⟩ := h
    rfl
  obtain ⟨v, vp, t, u, o, p, rfl, ht, hu, ho, h12, h12', q⟩ := h
  refine ⟨_, (pss_cons (ps_set (i := 3) sc_replaced.nd rfl (.inl rfl) (pe_call Dpart_at.ok (hr.mono (by omega)) rfl Dpart_at.g Dpart_at.kp Dpart_at.b .nil pass0 (pa_cons (pv 0) (pa_cons (pv 1) pa_nil))))
    (pss_cons (ps_if (pt_cmpR op_gt (pe_op op_add (pe_op op_sub (pe_call Dsize_of.ok (hr.mono (by omega)) rfl Dsize_of.g Dsize_of.kp Dsize_of.b .nil pass0 (pa_cons (pv 0) pa_nil)) (pe_call Dsize_of.ok (hr.mono (by omega)) rfl Dsize_of.g Dsize_of.kp Dsize_of.b .nil pass0 (pa_cons (pv 3) pa_nil))) (pe_call Dsize_of.ok (hr.mono (by omega)) rfl Dsize_of.g Dsize_of.kp Dsize_of.b .nil pass0 (pa_cons (pv 2) pa_nil))) (pe_glob (v := .int _) rfl mMAX ⟨_, rfl⟩) (nomark _))
      (pss_one ps_never) pss_nil)
    (pss_one (ps_ret (pe_call Dwith_part.ok (hr.mono (by omega)) rfl Dwith_part.g Dwith_part.kp Dwith_part.b .nil pass0 (pa_cons (pv 0) (pa_cons (pv 1) (pa_cons (pv 2) pa_nil)))))))), ?_⟩
  have z1 := t.at_size p ho
  have z2 := t.put_size p u ho
  refine ⟨_, rfl, _, rfl, v, t, o, p, rfl, ht, ho, by omega, fun vo H1 s1 ho1 => ?_⟩
  have ht1 := ht.same s1
  have hu1 := hu.same s1
  refine ⟨_, rfl, v, t, rfl, ht1, by omega, _, rfl, vo, o, rfl, ho1, by omega, _, _, rfl, rfl, _, rfl, vp, u, rfl, hu1, by omega, _, _, rfl, rfl, _, _, rfl, rfl, _, rfl, ?_⟩
  rw [decide_eq_false (show ¬ ((t.size : Int) - (o.size : Int) + (u.size : Int) > 12) by omega)]
  refine iteF ?_
  refine ⟨_, rfl, _, rfl, _, rfl, v, vp, t, u, p, rfl, ht1, hu1, by omega, by omega, by rw [ho]; rfl, fun v' H2 s2 h2 => q v' H2 (s1.trans s2) h2⟩
end
/-! ### joined -/
theorem sc_joined : FnScope ["label", "trees", "sides", "tree"] ["label", "trees"] (defScope s_joined) := ⟨rfl, rfl, rfl, by decide +kernel, rfl, by decide +kernel, by decide +kernel⟩
def spJoinedT : Sp := fun vs H Q _ => ∃ (y : Str) (p : Addr) (v1 v2 : V) (t1 t2 : T), vs = [.str y, .ref p] ∧ H p = some (.tup [v1, v2]) ∧ TreeAt H v1 t1 ∧ TreeAt H v2 t2 ∧ t1.size + t2.size ≤ 11 ∧ ∀ (r : V) (H' : Hp), Same H H' → TreeAt H' r (.node t1 y t2) → Q r H'
def spJoined : Sp := fun vs H Q E => ∃ ws rest, vs = ws ++ rest ∧ ws.length = ["label"].length ∧ rest.length ≤ sizeLine ∧ ∀ p, H p = Option.none → spJoinedT (ws ++ [V.ref p]) (upd H p (.tup rest)) Q E
structure DfR (P : Program) (w : World) (K : PySem.W.Frag) (mg : Str → Option Value) (base : Heap) (k : Nat) (nm : Str) (sp : Sp) where
  f : Addr
  ok : FnR P w K mg base CX0 k f sp
  kp : PySem.W.keepIn K (.ref f) = true
  g : mg nm = some (.ref f)
section
variable {P : Program} {w : World} {K : PySem.W.Frag} {mg : Str → Option Value} {base : Heap} {f : Addr} {fd : FuncData}
theorem ok_joined {tM : Tok} (F : Fun K "joined" "joined" s_joined f fd) (M : Mgs mg) (mMAX : mg "MAX_NODES" = some (.int 12 tM)) (Dsize_of : Df P w K mg base 20 "size_of" ["tree"] (spSz 20)) : FnR P w K mg base CX0 21 f spJoined := by
  obtain ⟨oc, od, kV, doc, pm, an, cdv, ct, osl, rfl, lk, hcd⟩ := F.ex
  refine StX.fn_star (k := 20) (ps := ["label"]) (pv := "trees") (sp := spJoinedT) lk hcd sc_joined StX.cxUp_none (fun us rest hl => by match us, hl with | [_], _ => cases rest <;> rfl) fun A outer s H vs Q E hr h => ?_
  obtain ⟨y, p, v1, v2, t1, t2, rfl, ep, h1, h2, hz, q⟩ := h
  refine ⟨_, ((pss_cons (ps_if (pt_cmpR op_gt (pe_callB call_len_seq rfl M.len PySem.boot_len (pa_cons (pv 1) pa_nil)) pe_int (nomark _))
      (pss_one ps_never) pss_nil)
    (pss_cons (ps_set (i := 2) sc_joined.nd rfl (.inl rfl) (pe_lst (StX.pa_star (pv 1) (pa_cons pe_non (pa_cons pe_non pa_nil)))))
    (pss_cons (ps_set (i := 3) sc_joined.nd rfl (.inl rfl) (pe_tup (pa_cons (pe_ix ix_list (pv 2) pe_int (fun _ _ => rfl)) (pa_cons (pv 0) (pa_cons (pe_ix ix_list (pv 2) pe_int (fun _ _ => rfl)) pa_nil)))))
    (pss_cons (ps_if (pt_cmpR op_gt (pe_call Dsize_of.ok (hr.mono (by omega)) rfl Dsize_of.g Dsize_of.kp Dsize_of.b .nil pass0 (pa_cons (pv 3) pa_nil)) (pe_glob (v := .int _) rfl mMAX ⟨_, rfl⟩) (nomark _))
      (pss_one ps_never) pss_nil)
    (pss_one (ps_ret (pv 3))))))) : PSs (cxOf CX0 P w K mg base ["label", "trees", "sides", "tree"] "joined" (defScope s_joined) f cdv A outer s H E).nox (defBody s_joined) _).nox, ?_⟩
  refine ⟨_, rfl, p, _, rfl, .inr (SqT.of ep), _, _, rfl, rfl, _, rfl, iteF ?_⟩
  refine ⟨_, rfl, p, _, rfl, .inl (SqT.of ep), (by show 4 ≤ sizeLine; decide), fun L nL => ?_⟩
  have k1 := same_new nL (.lst ([v1, v2] ++ [.non, .non]))
  refine ⟨_, rfl, L, _, 0, v1, rfl, rfl, SqL.of upd_same, atI_nat (j := 0) rfl, _, rfl, _, rfl, L, _, 1, v2, rfl, rfl, SqL.of upd_same, atI_nat (j := 1) rfl, (by show 3 ≤ sizeLine; decide), fun r nr => ?_⟩
  have k2 := same_new nr (.tup [v1, .str y, v2])
  have tr : TreeAt (upd (upd H L (.lst ([v1, v2] ++ [.non, .non]))) r (.tup [v1, .str y, v2])) (.ref r) (.node t1 y t2) := .node upd_same (h1.same (k1.trans k2)) (h2.same (k1.trans k2))
  have hs : (T.node t1 y t2).size = t1.size + 1 + t2.size := rfl
  refine ⟨_, rfl, _, _, rfl, tr, by omega, _, _, rfl, rfl, _, rfl, ?_⟩
  rw [decide_eq_false (show ¬ (((T.node t1 y t2).size : Int) > 12) by omega)]
  exact iteF ⟨_, rfl, q _ _ (k1.trans k2) tr⟩
end
/-! ### places, parts and texts: mathematics -/
theorem T.at_nil (t : T) : t.at [] = some t := by cases t <;> rfl
theorem T.put_nil (t u : T) : t.put [] u = u := by cases t <;> rfl
theorem T.at_lt : ∀ (t : T) (p : List Bool) {o : T}, t.at p = some o → t.lt → o.lt
  | t, [], o, h, k => by rw [t.at_nil] at h; cases h; exact k
  | .nil, _ :: _, _, h, _ => by cases h
  | .node l x r, false :: p, o, h, k => l.at_lt p (show l.at p = some o from h) (T.lt_node k).1
  | .node l x r, true :: p, o, h, k => r.at_lt p (show r.at p = some o from h) (T.lt_node k).2.2
theorem lt_mk {l r : T} {x : Str} (h1 : l.lt) (h2 : Ltr x) (h3 : r.lt) : (T.node l x r).lt := fun y hy => by
  have hy : y ∈ l.btw ++ x :: r.btw := hy
  rw [List.mem_append, List.mem_cons] at hy
  exact hy.elim (h1 y) fun z => z.elim (fun e => e ▸ h2) (h3 y)
theorem T.put_lt : ∀ (t : T) (p : List Bool) {u : T}, t.lt → u.lt → (t.put p u).lt
  | t, [], u, _, k => by rw [t.put_nil]; exact k
  | .nil, _ :: _, _, h, _ => h
  | .node l x r, false :: p, u, h, k => lt_mk (l.put_lt p (T.lt_node h).1 k) (T.lt_node h).2.1 (T.lt_node h).2.2
  | .node l x r, true :: p, u, h, k => lt_mk (T.lt_node h).1 (T.lt_node h).2.1 (r.put_lt p (T.lt_node h).2.2 k)
theorem T.put_at : ∀ (t : T) (p : List Bool) {o : T}, t.at p = some o → t.put p o = t
  | t, [], o, h => by rw [t.at_nil] at h; cases h; exact t.put_nil t
  | .nil, _ :: _, _, h => by cases h
  | .node l x r, false :: p, o, h => by show T.node (l.put p o) x r = _; rw [l.put_at p h]
  | .node l x r, true :: p, o, h => by show T.node l x (r.put p o) = _; rw [r.put_at p h]
theorem T.at_put : ∀ (t : T) (p : List Bool) {o : T} (u : T), t.at p = some o → (t.put p u).at p = some u
  | t, [], o, u, _ => by rw [t.put_nil, u.at_nil]
  | .nil, _ :: _, _, _, h => by cases h
  | .node l x r, false :: p, o, u, h => l.at_put p u (show l.at p = some o from h)
  | .node l x r, true :: p, o, u, h => r.at_put p u (show r.at p = some o from h)
theorem T.put_put : ∀ (t : T) (p : List Bool) {o : T} (u v : T), t.at p = some o → (t.put p u).put p v = t.put p v
  | t, [], o, u, v, _ => by rw [t.put_nil, u.put_nil, t.put_nil]
  | .nil, _ :: _, _, _, _, h => by cases h
  | .node l x r, false :: p, o, u, v, h => by show T.node ((l.put p u).put p v) x r = T.node (l.put p v) x r; rw [l.put_put p u v h]
  | .node l x r, true :: p, o, u, v, h => by show T.node l x ((r.put p u).put p v) = T.node l x (r.put p v); rw [r.put_put p u v h]
theorem T.mir_at : ∀ (t : T) (p : List Bool) {o : T}, t.at p = some o → t.mir.at (p.map not) = some o.mir
  | t, [], o, h => by rw [t.at_nil] at h; cases h; exact T.at_nil _
  | .nil, _ :: _, _, h => by cases h
  | .node l x r, false :: p, o, h => l.mir_at p (show l.at p = some o from h)
  | .node l x r, true :: p, o, h => r.mir_at p (show r.at p = some o from h)
theorem T.mir_mir : ∀ t : T, t.mir.mir = t
  | .nil => rfl
  | .node l x r => by show T.node l.mir.mir x r.mir.mir = _; rw [l.mir_mir, r.mir_mir]
theorem T.mir_lt : ∀ t : T, t.lt → t.mir.lt
  | .nil, h => h
  | .node l x r, h => lt_mk (r.mir_lt (T.lt_node h).2.2) (T.lt_node h).2.1 (l.mir_lt (T.lt_node h).1)
/-- a part's text stands in the tree's text -/
theorem T.cs_in : ∀ (t : T) (p : List Bool) {o : T}, t.at p = some o → o ≠ .nil → ∃ a b, t.cs = a ++ o.cs ++ b
  | t, [], o, h, _ => by rw [t.at_nil] at h; cases h; exact ⟨[], [], by simp⟩
  | .nil, _ :: _, _, h, _ => by cases h
  | .node l x r, false :: p, o, h, n => by
    have h : l.at p = some o := h
    obtain ⟨a, b, e⟩ := l.cs_in p h n
    have z : ¬ (l = .nil ∧ r = .nil) := fun z => by
      rw [z.1] at h
      cases p with
      | nil => cases h; exact n rfl
      | cons _ _ => cases h
    refine ⟨x.cps.toList ++ 40 :: a, b ++ 44 :: (r.cs ++ [41]), ?_⟩
    rw [cs_node x z, e]
    simp
  | .node l x r, true :: p, o, h, n => by
    have h : r.at p = some o := h
    obtain ⟨a, b, e⟩ := r.cs_in p h n
    have z : ¬ (l = .nil ∧ r = .nil) := fun z => by
      rw [z.2] at h
      cases p with
      | nil => cases h; exact n rfl
      | cons _ _ => cases h
    refine ⟨x.cps.toList ++ 40 :: (l.cs ++ 44 :: a), b ++ [41], ?_⟩
    rw [cs_node x z, e]
    simp
/-- where nodes are -/
theorem T.nd_pre : ∀ (t : T) (q : List Nat) (e : List Nat × Str), e ∈ t.nd q → ∃ p : List Bool, e.1 = q ++ p.map dir ∧ ∃ l r, t.at p = some (.node l e.2 r)
  | .nil, _, _, h => by cases h
  | .node l x r, q, e, h => by
    have h : e ∈ (q, x) :: (l.nd (q ++ [108]) ++ r.nd (q ++ [114])) := h
    rcases List.mem_cons.mp h with rfl | h
    · exact ⟨[], by simp, l, r, rfl⟩
    rcases List.mem_append.mp h with h | h
    · obtain ⟨p, e1, l', r', e2⟩ := l.nd_pre _ e h
      exact ⟨false :: p, by rw [e1, List.append_assoc]; rfl, l', r', e2⟩
    · obtain ⟨p, e1, l', r', e2⟩ := r.nd_pre _ e h
      exact ⟨true :: p, by rw [e1, List.append_assoc]; rfl, l', r', e2⟩
theorem T.nd_at : ∀ (t : T) (q : List Nat) (p : List Bool) {l r : T} {x : Str}, t.at p = some (.node l x r) → (q ++ p.map dir, x) ∈ t.nd q
  | t, q, [], l, r, x, h => by
    rw [t.at_nil] at h
    cases h
    show (q ++ [], x) ∈ (q, x) :: _
    rw [List.append_nil]
    exact List.mem_cons_self
  | .nil, _, _ :: _, _, _, _, h => by cases h
  | .node l' y r', q, false :: p, l, r, x, h => by
    have := l'.nd_at (q ++ [108]) p (show l'.at p = some _ from h)
    rw [List.append_assoc] at this
    exact List.mem_cons_of_mem _ (List.mem_append_left _ this)
  | .node l' y r', q, true :: p, l, r, x, h => by
    have := r'.nd_at (q ++ [114]) p (show r'.at p = some _ from h)
    rw [List.append_assoc] at this
    exact List.mem_cons_of_mem _ (List.mem_append_right _ this)
theorem pre_ne {q : List Nat} {a b : Nat} {s u : List Nat} (h : a ≠ b) : q ++ [a] ++ s ≠ q ++ b :: u := fun z => by
  rw [List.append_assoc] at z
  have z := List.append_cancel_left z
  injection z with z _
  exact h z
theorem filter_all {α : Type} {f : α → Bool} {l : List α} (h : ∀ x ∈ l, f x = true) : l.filter f = l := List.filter_eq_self.mpr h
theorem filter_none {α : Type} {f : α → Bool} {l : List α} (h : ∀ x ∈ l, f x = false) : l.filter f = [] := List.filter_eq_nil_iff.mpr fun x hx z => by rw [h x hx] at z; cases z
theorem take_pre (q : List Nat) (a : Nat) (s : List Nat) : (q ++ [a] ++ s).take (q.length + 1) = q ++ [a] := by
  have e : q.length + 1 = (q ++ [a]).length := by rw [List.length_append]; rfl
  rw [e, List.take_left]
theorem out_ne {q s k : List Nat} {a b : Nat} (h : a ≠ b) : (q ++ [a] ++ s).take (q ++ b :: k).length ≠ q ++ b :: k := fun z => by
  have z2 := congrArg (List.take (q.length + 1)) z
  rw [List.take_take, Nat.min_eq_left (by rw [List.length_append, List.length_cons]; omega), take_pre, show q ++ b :: k = q ++ [b] ++ k by simp, take_pre] at z2
  have z2 := List.append_cancel_left z2
  injection z2 with z2 _
  exact h z2
/-- the nodes outside of a part -/
def outOf (k : List Nat) (e : List Nat × Str) : Bool := decide (e.1.take k.length ≠ k)
theorem T.nd_out : ∀ (t : T) (q : List Nat) (p : List Bool) {o : T}, t.at p = some o → (t.put p .nil).nd q = (t.nd q).filter (outOf (q ++ p.map dir))
  | t, q, [], o, _ => by
    rw [t.put_nil, filter_none fun e he => ?_]
    · rfl
    obtain ⟨p, e1, _⟩ := t.nd_pre q e he
    unfold outOf
    rw [List.map_nil, List.append_nil, e1, List.take_left]
    exact decide_eq_false fun z => z rfl
  | .nil, _, _ :: _, _, h => by cases h
  | .node l x r, q, false :: p, o, h => by
    have ih := l.nd_out (q ++ [108]) p (show l.at p = some o from h)
    have e : q ++ [108] ++ p.map dir = q ++ (false :: p).map dir := by rw [List.append_assoc]; rfl
    rw [e] at ih
    show (q, x) :: ((l.put p .nil).nd (q ++ [108]) ++ r.nd (q ++ [114])) = ((q, x) :: (l.nd (q ++ [108]) ++ r.nd (q ++ [114]))).filter _
    rw [List.filter_cons, if_pos, List.filter_append, ← ih, filter_all (l := r.nd _) fun e he => ?_]
    · obtain ⟨s, e1, _⟩ := r.nd_pre _ e he
      unfold outOf
      rw [e1]
      exact decide_eq_true (out_ne (by decide))
    · unfold outOf
      refine decide_eq_true fun z => ?_
      have := congrArg List.length z
      rw [List.length_take, List.length_append, List.map_cons, List.length_cons] at this
      have : min (q.length + ((p.map dir).length + 1)) q.length = q.length + ((p.map dir).length + 1) := this
      omega
  | .node l x r, q, true :: p, o, h => by
    have ih := r.nd_out (q ++ [114]) p (show r.at p = some o from h)
    have e : q ++ [114] ++ p.map dir = q ++ (true :: p).map dir := by rw [List.append_assoc]; rfl
    rw [e] at ih
    show (q, x) :: (l.nd (q ++ [108]) ++ (r.put p .nil).nd (q ++ [114])) = ((q, x) :: (l.nd (q ++ [108]) ++ r.nd (q ++ [114]))).filter _
    rw [List.filter_cons, if_pos, List.filter_append, ← ih, filter_all (l := l.nd _) fun e he => ?_]
    · obtain ⟨s, e1, _⟩ := l.nd_pre _ e he
      unfold outOf
      rw [e1]
      exact decide_eq_true (out_ne (by decide))
    · unfold outOf
      refine decide_eq_true fun z => ?_
      have := congrArg List.length z
      rw [List.length_take, List.length_append, List.map_cons, List.length_cons] at this
      have : min (q.length + ((p.map dir).length + 1)) q.length = q.length + ((p.map dir).length + 1) := this
      omega
/-- the nodes without one that was added -/
theorem T.nd_add : ∀ (t : T) (q : List Nat) (p : List Bool) (y : Str), t.at p = some .nil → ((t.put p (.node .nil y .nil)).nd q).filter (fun e => decide (e.1 ≠ q ++ p.map dir)) = t.nd q
  | t, q, [], y, h => by
    rw [t.at_nil] at h
    cases h
    show ([(q, y)] : List (List Nat × Str)).filter _ = []
    refine filter_none fun e he => ?_
    rw [List.mem_singleton.mp he, List.map_nil, List.append_nil]
    exact decide_eq_false fun z => z rfl
  | .nil, _, _ :: _, _, h => by cases h
  | .node l x r, q, false :: p, y, h => by
    have ih := l.nd_add (q ++ [108]) p y (show l.at p = some .nil from h)
    have e : q ++ [108] ++ p.map dir = q ++ (false :: p).map dir := by rw [List.append_assoc]; rfl
    rw [e] at ih
    show ((q, x) :: ((l.put p _).nd (q ++ [108]) ++ r.nd (q ++ [114]))).filter _ = (q, x) :: (l.nd (q ++ [108]) ++ r.nd (q ++ [114]))
    rw [List.filter_cons, if_pos, List.filter_append, ih, filter_all (l := r.nd _) fun e he => ?_]
    · obtain ⟨s, e1, _⟩ := r.nd_pre _ e he
      exact decide_eq_true (by rw [e1]; exact pre_ne (by decide))
    · refine decide_eq_true fun z => ?_
      have := congrArg List.length z
      rw [List.length_append, List.map_cons, List.length_cons] at this
      have : q.length = q.length + ((p.map dir).length + 1) := this
      omega
  | .node l x r, q, true :: p, y, h => by
    have ih := r.nd_add (q ++ [114]) p y (show r.at p = some .nil from h)
    have e : q ++ [114] ++ p.map dir = q ++ (true :: p).map dir := by rw [List.append_assoc]; rfl
    rw [e] at ih
    show ((q, x) :: (l.nd (q ++ [108]) ++ (r.put p _).nd (q ++ [114]))).filter _ = (q, x) :: (l.nd (q ++ [108]) ++ r.nd (q ++ [114]))
    rw [List.filter_cons, if_pos, List.filter_append, ih, filter_all (l := l.nd _) fun e he => ?_]
    · obtain ⟨s, e1, _⟩ := l.nd_pre _ e he
      exact decide_eq_true (by rw [e1]; exact pre_ne (by decide))
    · refine decide_eq_true fun z => ?_
      have := congrArg List.length z
      rw [List.length_append, List.map_cons, List.length_cons] at this
      have : q.length = q.length + ((p.map dir).length + 1) := this
      omega
theorem occ_in (a b c : List Nat) : (Builtin.Str.occurrences (tx (a ++ b ++ c)) (tx b) 0 (tx (a ++ b ++ c)).length 1).isEmpty = false := by
  have sub : StrLaws.At (tx (a ++ b ++ c)) (tx b) (tx (a ++ b ++ c)).length a.length := by
    refine ⟨?_, ?_⟩
    · show a.length + b.length ≤ (a ++ b ++ c).length
      rw [List.length_append, List.length_append]
      omega
    · show ((a ++ b ++ c).toArray.extract a.length (a.length + b.length) == b.toArray) = true
      rw [beq_iff_eq, List.extract_toArray]
      congr 1
      rw [List.append_assoc]
      simp [List.extract]
  rcases PyProof.Rows.find_whole (tx (a ++ b ++ c)) (tx b) with ⟨_, h1⟩ | ⟨i, h1, _, _⟩
  · exact absurd sub (h1 _)
  · unfold Txt.find at h1
    split at h1
    · rename_i j rest hj
      rw [hj]
      rfl
    · omega
/-! ### own errors with one field, over ValueError or LookupError -/
section
open PySem.Builtin PySem.Builtin.ObjectAttr PySem.HandSPX
/-- own classes, then the mro of the built-in one -/
def refsT (tail : List Value) : List Value → Bool
  | .ref _ :: r => refsT tail r
  | l => l == tail
/-- a family of errors: what the library says of its built-in class -/
structure Fam (B newId initId : String) (tail : List Value) : Prop where
  facts : ExcBaseFacts B newId initId tail
  pass : ∀ self, refuseLoop self "__setattr__" tail = pure ()
  obj : tail.contains (.type "object") = true
theorem famV : Fam "ValueError" "ValueError.__new__" "ValueError.__init__" [.type "ValueError", .type "Exception", .type "BaseException", .type "object"] := ⟨F.excBase_ValueError, fun self => F.store_ValueError.passes self, by decide +kernel⟩
theorem famL : Fam "LookupError" "LookupError.__new__" "LookupError.__init__" [.type "LookupError", .type "Exception", .type "BaseException", .type "object"] := ⟨F.excBase_LookupError, fun self => F.store_LookupError.passes self, by decide +kernel⟩
theorem refsT_or {tail : List Value} (l : List Value) (h : refsT tail l = true) : (∃ c r, l = .ref c :: r ∧ refsT tail r = true) ∨ l = tail := by
  unfold refsT at h
  split at h
  · exact .inl ⟨_, _, rfl, h⟩
  · exact .inr (beq_iff_eq.mp h)
theorem refsT_all {tail : List Value} {Good : List Value → Prop} (h0 : Good tail) (hs : ∀ c r, Good r → Good (.ref c :: r)) : ∀ l : List Value, refsT tail l = true → Good l
  | [], h => by
    rcases refsT_or [] h with ⟨_, _, e, _⟩ | e
    · cases e
    · rw [e]; exact h0
  | a :: r, h => by
    rcases refsT_or (a :: r) h with ⟨c, r', e, h'⟩ | e
    · cases e
      exact hs c r (refsT_all h0 hs r h')
    · rw [e]; exact h0
variable {B newId initId : String} {tail : List Value}
theorem Fam.passes (fam : Fam B newId initId tail) (self : Value) (l : List Value) (h : refsT tail l = true) : refuseLoop self "__setattr__" l = pure () :=
  refsT_all (Good := fun l => refuseLoop self "__setattr__" l = pure ()) (fam.pass self) (fun c r e => by rw [refuseLoop_ref]; exact e) l h
theorem refsT_has (X : String) (l : List Value) (h : refsT tail l = true) : l.contains (.type X) = tail.contains (.type X) :=
  refsT_all (Good := fun l => l.contains (.type X) = tail.contains (.type X)) rfl (fun c r e => by rw [List.contains_cons, e]; rfl) l h
theorem Fam.some (fam : Fam B newId initId tail) (l : List Value) (h : refsT tail l = true) : l.isEmpty = false := by
  cases l with
  | nil =>
    have e := refsT_has "object" [] h
    rw [fam.obj] at e
    exact absurd e (by decide)
  | cons _ _ => rfl
/-- the first field of an error -/
theorem first_field {prog : Program} {w : World} {A : Around} {R : Result → Shared → Prop} {hp : Heap} {g : Array GenState} {d : Drawn} {t : Nat} {os : OsState} {K : PySem.W.Frag} {name : Str} {tk : Tok} {v : Value} {x C : Addr} {fv : Array Value} {cd : ClassData}
    (fam : Fam B newId initId tail) (inK : K.In hp) (isX : hp.get? x = some { cls := .ref C, data := .fields fv }) (isC : PySem.W.clsIn K C = some cd)
    (isM : refsT tail cd.mro = true) (dict : cd.hasDict = true) (free : PySem.W.findIn K (.ref C) name = some none)
    (done : ∀ h' tk' dx, (∀ b o, b ≠ x → hp.get? b = some o → h'.get? b = some o) → hp.objs.size ≤ dx → dx ≠ x →
      h'.get? x = some { cls := .ref C, dict := some dx, data := .fields fv } → h'.Ns1 dx (fun y => if y = name then some v else none) → R (.ok (.ret .none)) ⟨h', g, d, tk', os⟩) :
    codeAny (model prog w) A (.call (.builtin "object.__setattr__") ⟨[.ref x, .str name tk, v], []⟩) R ⟨hp, g, d, t, os⟩ := by
  have at0 : PySem.W.InstAt hp x { cls := .ref C, data := .fields fv } C none := ⟨isX, rfl, rfl, trivial⟩
  have store := PySem.F.store_object
  have hasObj : cd.mro.contains (.type "object") = true := (refsT_has "object" _ isM).trans fam.obj
  have notNew : x ≠ hp.objs.size := Nat.ne_of_lt (Heap.lt_size isX)
  have isSub : PySem.W.Looks (model prog w) hp (isInstance (.ref x) (.type "object")) true := by
    refine at0.type.andThen (PySem.W.looks_mroIn inK ?_)
    unfold PySem.W.mroIn
    rw [isC, Option.bind_some, if_neg (by rw [fam.some _ isM]; decide), hasObj]
  refine codeAny_call_builtin store.slot.plain store.entry ?_
  refine @PySem.W.check_slot (model prog w) _ _ ⟨hp, g, d, t, os⟩ "object.__setattr__" "object" "__setattr__" (.ref x) [.str name tk, v] [] _ store.kind store.split isSub
    (store.args (.ref x) (.str name tk) v) ?_
  have mroL : PySem.W.Looks (model prog w) hp (mroOf (.ref C)) cd.mro := (PySem.W.looks_clsIn inK isC).andThen .now
  have noTaker : PySem.W.Looks (model prog w) hp (storeTaker? none) none := .now
  have clsL : PySem.W.Looks (model prog w) hp (classData C) cd := PySem.W.looks_clsIn inK isC
  rw [PySem.W.osa_eq, refuse_eq]
  refine wpAny_bind (wpAny_bind (at0.type.at (wpAny_bind (mroL.at ?_))))
  rw [fam.passes _ _ isM]
  refine wpAny_pure (wpAny_bind (at0.type.at (wpAny_bind ((PySem.W.looks_findIn inK free).at ?_))))
  refine wpAny_bind (noTaker.at ?_)
  show wpAny _ _ (storeInOwnDict (.ref x) (.ref C) (.str name tk) name v false) _ _ _
  obtain ⟨nm, bs, mro, nsA, qn, hd, sn, sb, ab, col, del⟩ := cd
  dsimp only at dict
  subst dict
  unfold storeInOwnDict ownDictForStores
  repeat (first
    | with_reducible refine store_in_new ?_ ?_
    | with_reducible refine wpAny_loadPart_at isX ?_
    | with_reducible refine clsL.at ?_
    | wp_step)
  · refine ⟨_, #[], _, (Heap.get?_update_ne _ _ _ _ notNew.symm).trans (Heap.get?_push_at rfl rfl), rfl, ?_, fun _ => rfl⟩
    intro e he
    exact absurd he (by simp)
  · intro h' tk' ns1 same
    have isX1 : (hp.push { cls := .type "dict", data := .dict #[] }).get? x = some { cls := .ref C, data := .fields fv } := Heap.get?_push_of_some _ isX
    refine done h' tk' hp.objs.size ?_ (Nat.le_refl _) notNew.symm ?_ ns1
    · intro b o hb ho
      refine (same.2 b (Nat.ne_of_lt (Heap.lt_size ho))).trans ?_
      exact (Heap.get?_update_ne _ _ _ _ hb).trans (Heap.get?_push_of_some _ ho)
    · exact (same.2 x notNew).trans (Heap.get?_update_self _ isX1 rfl)
end
/-! ### errors with the field limit -/
def iA_limit (p1 p2 : Pos) : Arguments := { posonlyargs := [], args := [{ arg := "self", annotation := none, pos := p1 }, { arg := "limit", annotation := none, pos := p2 }], vararg := none, kwonlyargs := [], kw_defaults := [], kwarg := none, defaults := [] }
def iB_limit (q1 q2 q3 q4 : Pos) : List Stmt := [.Assign [.Attribute (.Name "self" q1) "limit" q2] (.Name "limit" q3) q4]
def iS_limit : Scope := { kind := .function, names := [(PySem.Str.ofString "self", .local), (PySem.Str.ofString "limit", .local)], isGenerator := false, isCoroutine := false, more := [] }
/-- what the written part says of the class cn, at C, and of its __init__, at fI -/
structure Err_limit (K : PySem.W.Frag) (mg : Str → Option Value) (newId : String) (tail : List Value) (cn qn : Str) (C fI : Addr) : Prop where
  gC : mg cn = some (.ref C)
  nd : (cn == ("__debug__" : Str)) = false
  cls : ∃ nm q N bs bm sn sub ab col dd k0 k1 k2 k3 k5, K.lookup C = some (excClassObj nm q C N bs bm true sn sub ab col dd k0 k1 k2 k3 k5 newId) ∧ refsT tail bm = true
  sa : PySem.W.findIn K (.ref C) "__setattr__" = some (some (.builtin "object.__setattr__"))
  ga : PySem.W.findIn K (.ref C) "__getattribute__" = some (some (.builtin "BaseException.__getattribute__"))
  gg : PySem.W.findIn K (.ref C) "__getattr__" = some none
  noN : PySem.W.findIn K (.ref C) "limit" = some none
  iC : PySem.W.findIn K (.ref C) "__init__" = some (some (.ref fI))
  tC : PySem.W.typeIn K (.ref fI) = some (.type "function")
  kC : PySem.W.keepIn K (.ref C) = true
  exC : PySem.W.subIn K (.ref C) (.type "BaseException") = some true
  tyC : PySem.W.typeIn K (.ref C) = some (.type "type")
  hdC : PySem.W.hasDictIn K C = true
  fn : ∃ (oc : Value) (od : Option Addr) (doc pm : Value) (an : Option Addr) (cdv ct : Value) (osl : Array (Option Value)) (p1 p2 q1 q2 q3 q4 : Pos),
    K.lookup fI = some ⟨oc, od, .func (PySem.W.fnOf "__init__" qn (iA_limit p1 p2) (iB_limit q1 q2 q3 q4) iS_limit .none .none doc pm an cdv ct), osl⟩ ∧ PySem.W.codeIn K cdv qn = true
section
open PySem.Builtin PySem.Builtin.ObjectAttr PySem.HandSPX
variable {prog : Program} {w : World} {A : Around} {E : Value → Shared → Prop} {R : Result → Shared → Prop} {s : Shared} {K : PySem.W.Frag} {mg : Str → Option Value} {C fI : Addr} {B newId initId : String} {tail : List Value} {cn qn : Str}
theorem init_limit (fam : Fam B newId initId tail) (T : Err_limit K mg newId tail cn qn C fI) {x t0 : Addr} {v : Value} (inK : K.In s.heap) (lim : s.heap.NoLimit) (isX : s.heap.get? x = some (excO C t0)) (offK : K.lookup x = none) (room : A.depth < recursionLimit)
    (done : ∀ h' tk dx, (∀ b o, b ≠ x → s.heap.get? b = some o → h'.get? b = some o) → h'.get? x = some { cls := .ref C, dict := some dx, data := .fields #[.ref t0, .none, .none, .none, .bool false, .none] } → s.heap.objs.size ≤ dx → dx ≠ x →
      h'.Ns1 dx (fun y => if y = "limit" then some v else none) → R (.ok (.ret .none)) { s with heap := h', toks := tk }) :
    codeAny (model prog w) A (.call (.ref fI) ⟨[.ref x, v], []⟩) R s := by
  obtain ⟨oc, od, doc, pm, an, cdv, ct, osl, p1, p2, q1, q2, q3, q4, isF, isCode⟩ := T.fn
  obtain ⟨nm, q, N, bs, bm, sn, sub, ab, col, dd, k0, k1, k2, k3, k5, isC, isM⟩ := T.cls
  have cls : PySem.W.clsIn K C = some { name := nm, bases := bs, mro := .ref C :: bm, ns := N, qualname := q, hasDict := true, slotNames := sn, subclasses := sub, abstract := ab, collection := col, hasDel := false } := by
    unfold PySem.W.clsIn
    rw [isC] <;> rfl
  refine Att.call_fn (binds := [("self", .ref x), ("limit", v)]) inK lim isF isCode room (BindsTo.of_eq (by first | rfl | with_unfolding_all rfl)) (by first | rfl | decide | with_unfolding_all rfl) (fun s₁ IC => ?_) rfl rfl rfl
  obtain ⟨h₁, tk₁, rfl⟩ := IC.toInCall.same
  have keep : ∀ b o, s.heap.get? b = some o → h₁.get? b = some o := IC.toInCall.keep
  have locals := IC.toInCall.ns
  have inK₁ : K.In h₁ := inK.keeps keep
  have isX₁ := keep _ _ isX
  show wpAny _ _ (execs _ _) _ _ _
  refine wpAny_execs_cons (plainObj_wpAny_Assign_Attribute ?_)
  refine wpAny_Name (wpAny_loadName_local (by rfl) (by rfl) locals (v := v) (by first | rfl | with_unfolding_all rfl | kernel_rfl) ?_) (by decide)
  refine wpAny_Name (wpAny_loadName_local (by rfl) (by rfl) locals (v := .ref x) (by first | rfl | with_unfolding_all rfl | kernel_rfl) ?_) (by decide)
  refine PySem.W.set_plain inK₁ (ox := excO C t0) (od := none) ⟨isX₁, rfl, rfl, trivial⟩ T.sa ?_
  refine first_field fam inK₁ isX₁ cls (show refsT tail (.ref C :: bm) = true from isM) rfl T.noN (fun h₃ tk₃ dx k₃ dn dne hx₃ hn₃ => ?_)
  show wpAny _ _ (execs _ _) _ _ _
  have z : s.heap.objs.size < h₁.objs.size := locals.lt
  exact wpAny_execs_nil (done h₃ tk₃ dx (fun b o hb e => k₃ b o hb (keep b o e)) hx₃ (Nat.le_of_lt (Nat.lt_of_lt_of_le z dn)) dne hn₃)
/-- a made error -/
structure Made_limit (h h' : Heap) (e C d : Addr) (v : Value) : Prop where
  keep : ∀ b o, h.get? b = some o → h'.get? b = some o
  new : h.objs.size ≤ e
  obj : ∃ oe vs, h'.get? e = some oe ∧ oe.cls = .ref C ∧ oe.dict = some d ∧ oe.data = .fields vs ∧ vs[1]? = some .none
  dbig : h.objs.size ≤ d
  dne : d ≠ e
  ns : h'.Ns1 d (fun y => if y = "limit" then some v else none)
theorem made_limit (fam : Fam B newId initId tail) (T : Err_limit K mg newId tail cn qn C fI) {v : Value} (inK : K.In s.heap) (lim : s.heap.NoLimit) (room : A.depth + 1 < recursionLimit)
    (done : ∀ h' tk e d, Made_limit s.heap h' e C d v → R (.ok (.ret (.ref e))) { s with heap := h', toks := tk }) :
    codeAny (model prog w) A (.call (.ref C) ⟨[v], []⟩) R s := by
  obtain ⟨nm, q, N, bs, bm, sn, sub, ab, col, dd, k0, k1, k2, k3, k5, isC, isM⟩ := T.cls
  obtain ⟨hp, g, dr, tk, os⟩ := s
  have keep : ∀ b o, hp.get? b = some o → ((hp.push (PySem.W.kdv_tup [v])).push (excO C hp.objs.size)).get? b = some o := fun b o e => Heap.get?_push_of_some _ (Heap.get?_push_of_some _ e)
  have isE : ((hp.push (PySem.W.kdv_tup [v])).push (excO C hp.objs.size)).get? (hp.objs.size + 1) = some (excO C hp.objs.size) := by heap_get
  have offK : K.lookup (hp.objs.size + 1) = none := by
    cases e : K.lookup (hp.objs.size + 1) with
    | none => rfl
    | some o => exact absurd (Nat.lt_of_succ_lt (Heap.lt_size (inK _ _ e))) (Nat.lt_irrefl _)
  refine call_own fam.facts (fun X => refsT_has X bm isM) (inK _ _ isC) (PySem.W.looks_findIn inK T.iC) (fun self => PySem.W.bind_fn inK self T.tC) (by show 1 ≤ sizeLine; decide) ?_
  refine init_limit (s := ⟨(hp.push (PySem.W.kdv_tup [v])).push (excO C hp.objs.size), g, dr, tk, os⟩) fam T (inK.keeps keep) (lim.keeps keep) isE offK ?_ fun h' tk' dx k' hx dn dne hns => ?_
  · show A.depth + 1 < recursionLimit
    exact room
  · have old : ∀ b o, hp.get? b = some o → h'.get? b = some o := fun b o e => k' b o (Nat.ne_of_lt (Nat.lt_succ_of_lt (Heap.lt_size e))) (keep b o e)
    have z : hp.objs.size + 1 + 1 ≤ dx := by
      have y := dn
      rw [Heap.size_push, Heap.size_push] at y
      exact y
    exact ⟨rfl, done h' tk' (hp.objs.size + 1) dx ⟨old, Nat.le_succ _, ⟨_, _, hx, rfl, rfl, rfl, rfl⟩, (show hp.objs.size ≤ dx by omega), dne, hns⟩⟩
end
theorem rel_limit {v : V} {u : Value} (r : RelV v u) (f : Str) : RelO (List.lookup f [(("limit" : Str), v)]) (if f = "limit" then some u else none) := by
  by_cases h : f = "limit"
  · subst h
    rw [if_pos rfl, show List.lookup ("limit" : Str) [(("limit" : Str), v)] = some v by simp [List.lookup]]
    exact r
  · have e : (f == ("limit" : Str)) = false := by simpa using h
    rw [if_neg h, show List.lookup f [(("limit" : Str), v)] = none by simp [List.lookup, e]]
    trivial
section
variable {X : Cx} {C fI : Addr} {B newId initId : String} {tail : List Value} {cn qn : Str}
/-- cn(e) -/
def tMk_limit (C : Addr) (ta : TA) : L2.St → Hp → XK → Prop := fun σ H Q => ta σ H fun vs H1 => ∃ v, vs = [v] ∧ ∀ d, H1 d = none → Q (.ref C) (some d) (upd H1 d (.xd [(("limit" : Str), v)]))
theorem pmk_limit {a : Expr} {ta : TA} {p pos : Pos} {k : Nat} (fam : Fam B newId initId tail) (T : Err_limit X.K X.mg newId tail cn qn C fI) (hr : Room k X.A) (ha : PA X [a] ta) (hg : Gl X cn)
    (he : starEach (a :: []) X.env = (false, eval a X.env) :: starEach [] X.env := by rfl) (hpl : (backTo pos (starEach [] X.env)).any (·.1) = false := by rfl) :
    PMk X (.Call (.Name cn p) [a] [] pos) (tMk_limit C ta) := by
  intro pins s σ H Q I h
  refine wpAny_Call_Name_kw (ld_glob I hg T.gC ?_ T.nd)
  refine PySem.W.callWith_K (h₀ := X.base) I.ok.mod.kin T.kC (thn (ha.run pos pins s σ H _ I h) ?_) he hpl
  rintro us s1 ⟨vs, H1, I1, r1, v, rfl, q1⟩
  refine ⟨I1.kIn, ?_⟩
  cases r1 with
  | @cons _ v' _ us' rv rn =>
    cases rn
    show wpAny _ _ (call (.ref C) [v']) _ _ _
    have lim := I1.nolimit
    obtain ⟨hp, g, dr, tk, os⟩ := s1
    refine wpAny_call (made_limit fam T I1.kIn lim (by have := hr.dp; omega) fun h' tk' e d M => ?_)
    show MkP X pins σ Q (.ref e) ⟨h', g, dr, tk', os⟩
    obtain ⟨oe, fv, hoe, hc, hd, hdat, h1⟩ := M.obj
    obtain ⟨G', g1, g2⟩ := restrict h' fun b => decide (b ≠ e)
    have gk : ∀ b, b ≠ e → G'.get? b = h'.get? b := fun b hb => g1 b (decide_eq_true hb)
    have ge : G'.get? e = none := g2 e (by simp)
    have old : ∀ b o, hp.get? b = some o → G'.get? b = some o := by
      intro b o z
      refine (gk b (Nat.ne_of_lt (Nat.lt_of_lt_of_le (Heap.lt_size z) M.new))).trans ?_
      exact M.keep b o z
    have ok : ObjOk X.prog X.w (upd H1 d (.xd [(("limit" : Str), v)])) G' d (.xd [(("limit" : Str), v)]) :=
      ⟨_, M.ns.at (fun o z => (gk d M.dne).trans z), fun f => rel_limit rv f⟩
    have J : Inv X pins σ (upd H1 d (.xd [(("limit" : Str), v)])) ⟨G', g, dr, tk', os⟩ := I1.laid (t' := tk') old M.dbig ok
    refine ⟨e, oe, fv, ⟨G', g, dr, tk', os⟩, _, .ref C, some d, rfl, J, ?_, ge, hoe, ⟨hc, hd⟩, hdat, h1, ?_, rfl, I1.bare, raises_own T.exC T.tyC, q1 d (I1.hok.fresh M.dbig)⟩
    · intro b o z
      by_cases hb : b = e
      · have z' : G'.get? b = some o := z
        rw [hb, ge] at z'
        cases z'
      · exact (gk b hb).symm.trans z
    · rw [upd_ne (Ne.symm M.dne)]
      exact I1.hok.fresh M.new
/-- raise cn(e) -/
def tRaise_limit (C : Addr) (W : WX) (ta : TA) : TS := fun _ σ H => tMk_limit C ta σ H fun cls d H' => W cls d σ H'
theorem ps_raise_limit {a : Expr} {ta : TA} {W : WX} {p pos pos2 : Pos} {k : Nat} (hc : X.calm = true) (fam : Fam B newId initId tail) (T : Err_limit X.K X.mg newId tail cn qn C fI) (hr : Room k X.A) (tk : Takes X W) (ha : PA X [a] ta) (hg : Gl X cn)
    (he : starEach (a :: []) X.env = (false, eval a X.env) :: starEach [] X.env := by rfl) (hpl : (backTo pos (starEach [] X.env)).any (·.1) = false := by rfl) :
    PS X (.Raise (some (.Call (.Name cn p) [a] [] pos)) none pos2) (tRaise_limit C W ta) := ps_raise hc tk (pmk_limit fam T hr ha hg he hpl)
/-- err.limit, err the error that the suite holds (at a; its class cls, its dict d) -/
def tFld_limit (C : Addr) (a : Addr) (cls : Value) (d : Option Addr) (te : TE) : TE := fun σ H Q => te σ H fun x H1 => x = .ref a ∧ cls = .ref C ∧ ∃ (dd : Addr) (v : V), d = some dd ∧ H1 dd = some (.xd [(("limit" : Str), v)]) ∧ Q v H1
theorem pe_fld_limit {a : Addr} {oe : Obj} {cls : Value} {d : Option Addr} {pn : List (Addr × Obj)} {e : Expr} {te : TE} {pos : Pos} (T : Err_limit X.K X.mg newId tail cn qn C fI) (hz : Zc cls d oe) (hf : ∃ vs, oe.data = .fields vs) (he : PE (X.suite a ((a, oe) :: pn)) e te)
    (hb : attributeBase e "limit" X.env (eval e X.env) = eval e X.env := by rfl) :
    PE (X.suite a ((a, oe) :: pn)) (.Attribute e "limit" pos) (tFld_limit C a cls d te) := by
  constructor
  intro pins s σ H Q I h
  refine attr_of hb (thn (he.run pins s σ H _ I h) ?_)
  rintro u s1 ⟨x, H1, I1, rx, rfl, rfl, dd, v, rfl, ea, q⟩
  cases rx
  obtain ⟨ha, _⟩ := I1.pin (a, oe) (List.mem_append_left _ List.mem_cons_self)
  obtain ⟨vs, hd⟩ := hf
  have ok : ObjOk X.prog X.w H1 s1.heap dd (.xd [(("limit" : Str), v)]) := I1.hok dd _ ea
  obtain ⟨mA, hns, hr⟩ := ok
  obtain ⟨od, ho, hl⟩ := lookIn_ns hns
  have look : List.lookup ("limit" : Str) [(("limit" : Str), v)] = some v := by simp [List.lookup]
  obtain ⟨u, hu, ru⟩ := RelO.some_of (v := v) (o := mA "limit") (by rw [← look]; exact hr "limit")
  have J : PySem.W.InstAt s1.heap a oe C (some od) := ⟨ha, hz.1, by unfold PySem.W.notCls; rw [hd] <;> rfl, by rw [hz.2]; exact ho⟩
  exact HandSPX.exc_get I1.kIn J T.ga T.gg T.exC (PySem.W.findObj_own T.hdC T.noN rfl (by rw [hl, hu])) (handed_of ru) ⟨v, H1, I1.tok _, ru, q⟩
end
section
/-! ### defs called while an error is handled -/
structure RoomM (k : Nat) (A : Around) : Prop where
  dp : A.depth + 3 * k + 5 < recursionLimit
  un : A.units + 16 * k + 200 < cLine
theorem RoomM.mono {j k : Nat} {A : Around} (r : RoomM k A) (h : j ≤ k) : RoomM j A := ⟨by have := r.dp; omega, by have := r.un; omega⟩
theorem RoomM.deeper {k : Nat} {A : Around} (r : RoomM (k + 1) A) (env : Env) : RoomM k (A.deeper env) :=
  ⟨by have := r.dp; show A.depth + 1 + 3 * k + 5 < _; omega, by have := r.un; show A.units + 3 + 16 * k + 200 < _; omega⟩
theorem roomM_mark {k : Nat} {A : Around} {x : Option Value} (r : Room k A) : RoomM k (A.mark x) := ⟨r.dp, r.un⟩
structure FnM (P : Program) (w : World) (K : PySem.W.Frag) (mg : Str → Option Value) (base : Heap) (k : Nat) (f : Addr) (fd : FuncData) (ps : List Str) (sp : Sp) : Prop where
  len : ∀ vs H Q E, sp vs H Q E → vs.length = ps.length
  run : ∀ (A : Around) (outer : List Env) (s : Shared) (H : Hp) (args : Args) (us : List Value) (vs : List V) (Q : VK) (E : XK), RoomM k A → Env0 P w K mg base A outer s H → BindsTo s fd args (ps.zip us) → Vals vs us → sp vs H Q E →
    codeAny (model P w) A (.call (.ref f) args) (CR CX0 outer P w H s Q E) s
structure DfM (P : Program) (w : World) (K : PySem.W.Frag) (mg : Str → Option Value) (base : Heap) (k : Nat) (nm : Str) (ps : List Str) (sp : Sp) where
  f : Addr
  fd : FuncData
  ok : FnM P w K mg base k f fd ps sp
  b : Binds K fd ps []
  kp : PySem.W.keepIn K (.ref f) = true
  g : mg nm = some (.ref f)
/-- the context of such a def's body -/
def cxM (P : Program) (w : World) (K : PySem.W.Frag) (mg : Str → Option Value) (base : Heap) (N : List Str) (qual : Str) (scope : Scope) (f : Addr) (cd : Value) (A : Around) (outer : List Env) (s : Shared) (H : Hp) (E : XK) : Cx :=
  { cxOf CX0 P w K mg base N qual scope f cd A outer s H E with calm := false }
theorem inv_M {P : Program} {w : World} {K : PySem.W.Frag} {mg : Str → Option Value} {base : Heap} {N ps : List Str} {qual : Str} {scope : Scope} {f : Addr} {cd : Value} {A : Around} {outer : List Env} {s s1 : Shared} {H : Hp} {E : XK} {us : List Value} {vs : List V}
    (S : FnScope N ps scope) (e0 : Env0 P w K mg base A outer s H) (hl : vs.length = ps.length) (r : Vals vs us)
    (x : InCallC s s.heap.objs.size (bindL (envOfC qual scope s.heap.objs.size f cd).kindOf (ps.zip us) fun _ => none) (cellsFrom (s.heap.objs.size + 1) scope.names []) (bindC (envOfC qual scope s.heap.objs.size f cd).kindOf (ps.zip us) fun _ => none) s1) :
    Inv (cxM P w K mg base N qual scope f cd A outer s H E) [] (start N vs) H s1 := by
  have e1 : Env0 P w K mg base { A with handled := none } outer s H := ⟨e0.frames, e0.mod, e0.bs, e0.bsz, e0.funs, e0.frf, e0.hok, e0.bare⟩
  have I := inv_start (CX := CX0) (E := E) (cd := cd) (A := { A with handled := none }) S rfl e1 hl r x
  have o := I.ok
  exact ⟨⟨o.mod, o.kind, o.glob, o.blt, o.above, o.inj, o.has, o.cab, (fun z => Bool.noConfusion (show false = true from z)), Around.frames_deeper e0.frames, o.stk, o.exf, o.bs, o.bsz, o.noex, o.exfs, o.funs, o.frf⟩, I.os, I.bare, I.base, I.loc, I.cell, I.free, I.freeC, I.pin, I.hok, I.len⟩
theorem fnM {P : Program} {w : World} {K : PySem.W.Frag} {mg : Str → Option Value} {base : Heap} {f : Addr} {fd : FuncData} {N ps : List Str} {k : Nat} {x qual : Str} {st : Stmt} {sp : Sp} (F : Fun K x qual st f fd) (S : FnScope N ps (defScope st))
    (len : ∀ vs H Q E, sp vs H Q E → vs.length = ps.length)
    (body : ∀ (cdv : Value) (A : Around) (outer : List Env) (s : Shared) (H : Hp) (vs : List V) (Q : VK) (E : XK), RoomM k (A.deeper (envOfC qual (defScope st) s.heap.objs.size f cdv)) → sp vs H Q E →
      ∃ t, PSs (cxM P w K mg base N qual (defScope st) f cdv A outer s H E).nox (defBody st) t ∧ t { nx := fun _ H' => Q .non H', rt := Q } (start N vs) H) :
    FnM P w K mg base (k + 1) f fd ps sp := by
  refine ⟨len, ?_⟩
  intro A outer s H args us vs Q E room en bd rel hsp
  have hln := len _ _ _ _ hsp
  obtain ⟨oc, od, kV, doc, pm, an, cdv, ct, osl, rfl, look, code⟩ := F.ex
  have still : ∀ b o, base.get? b = some o → s.heap.get? b = some o := fun b o e => (en.bs b o e).1
  have inK : K.In s.heap := en.mod.kin.keeps still
  have noL : s.heap.NoLimit := en.mod.nolimit.keeps still
  have kinds : ∀ y ∈ ps.zip us, (defScope st).names.lookup y.1 = some .local ∨
      ((defScope st).names.lookup y.1 = some .cell ∧ ((cellsFrom (s.heap.objs.size + 1) (defScope st).names []).lookup y.1).isSome = true) := by
    rintro ⟨nm, u⟩ hy
    cases S.par nm (List.of_mem_zip hy).1 with
    | inl z => exact .inl z
    | inr z => exact .inr ⟨z, PySem.W.cellsFrom_some _ _ _ (.inl z)⟩
  have dep : A.depth < recursionLimit := by have := room.dp; omega
  have step := codeAny_call_function (prog := P) (w := w) (A := A) (s := s) dep (inK _ _ look) rfl S.co S.gen rfl (PySem.W.codeRec_of inK code)
    (R := CR CX0 outer P w H s Q E) (args := args)
  refine step (bd _ _ _ _ ?_)
  refine wpAny_newFunctionEnv_cells S.kind kinds ?_
  intro env isEnv s1 inC
  subst isEnv
  refine ⟨noL.keeps inC.toInCall.keep, codeAny_func ?_⟩
  obtain ⟨t, ht, hq⟩ := body cdv A outer s H vs Q E (room.deeper _) hsp
  have J : Inv (cxM P w K mg base N qual (defScope st) f cdv A outer s H E) [] (start N vs) H s1 := inv_M S en hln rel inC
  refine wpAny_mono (ht.nox.run [] s1 (start N vs) H _ J hq) ?_ ?_
  · intro fl s' done
    cases fl with
    | ret u =>
      obtain ⟨v, σ', H', I', rv, qv⟩ := done
      exact ⟨v, H', I'.os, I'.bare, I'.base, I'.hok, rv, qv⟩
    | next =>
      obtain ⟨σ', H', I', qv⟩ := done
      exact ⟨V.non, H', I'.os, I'.bare, I'.base, I'.hok, rfl, qv⟩
    | brk => exact done.elim fun _ z => z.elim fun _ z => z.2.elim
    | cont => exact done.elim fun _ z => z.elim fun _ z => z.2.elim
  · intro e s' z
    exact z
theorem pe_callM {X : Cx} {k : Nat} {f : Addr} {fd : FuncData} {ps : List Str} {sp : Sp} {x : Str} {p pos : Pos} {e : Expr} {es : List Expr} {t : TA}
    (G : FnM X.prog X.w X.K X.mg X.base k f fd ps sp) (room : RoomM k X.A) (isG : Gl X x) (at0 : X.mg x = some (.ref f)) (kp : PySem.W.keepIn X.K (.ref f) = true) (bd : Binds X.K fd ps []) (args : PA X (e :: es) t)
    (nd : (x == ("__debug__" : Str)) = false := by decide) (he : starEach (e :: es) X.env = (false, eval e X.env) :: starEach es X.env := by rfl) (hp : (backTo pos (starEach es X.env)).any (·.1) = false := by rfl) :
    PE X (.Call (.Name x p) (e :: es) [] pos) (tCall sp [] E0 t) := by
  constructor
  intro pins s σ H Q I h
  refine wpAny_Call_Name_kw (ld_glob I isG at0 ?_ nd)
  refine PySem.W.callWith_K (h₀ := X.base) I.ok.mod.kin kp (thn (args.run pos pins s σ H _ I h) ?_) he hp
  rintro us s1 ⟨vs, H1, I1, rel, q⟩
  refine ⟨I1.kIn, ?_⟩
  have q' : sp vs H1 Q E0 := by
    rw [List.append_nil] at q
    exact q
  have hl : (us ++ []).length = ps.length := by
    rw [List.append_nil, ← rel.length]
    exact G.len _ _ _ _ q'
  have bd' := bd s1 us I1.kIn hl
  rw [List.append_nil] at bd'
  refine wpAny_call (codeAny_mono (G.run X.A X.stack s1 H1 ⟨us, []⟩ us vs Q E0 room I1.env0 bd' rel q') ?_)
  intro r s' done
  cases r with
  | error e => exact done.elim
  | ok fl =>
    cases fl with
    | ret u => exact I1.after done
    | next => exact done.elim
    | brk => exact done.elim
    | cont => exact done.elim
end
/-! ### isinstance of a caught error that has a dict; several clauses 'except x as n' -/
/-- isinstance(e, c), e the error of the suite: its class D, its dict d -/
def rIsD (K : PySem.W.Frag) (D a : Addr) (d : Option Addr) : List V → Hp → VK → Prop := fun xs H Q =>
  ∃ c u b dd fs, xs = [.ref a, c] ∧ ClsV c u ∧ d = some dd ∧ H dd = some (.xd fs) ∧ PySem.W.kitOne K (.ref D) u = some b ∧ Q (.bl b) H
def rIsDT (K : PySem.W.Frag) (D a : Addr) (d : Option Addr) : List V → Hp → VK → Prop := fun xs H Q =>
  ∃ tp cs us b dd fs, xs = [.ref a, .ref tp] ∧ H tp = some (.tup cs) ∧ Paired ClsV cs us ∧ d = some dd ∧ H dd = some (.xd fs) ∧ PySem.W.kitAny K (.ref D) us = some b ∧ Q (.bl b) H
section
variable {X : Cx} {a D : Addr} {d : Option Addr} {oe : Obj} {pn : List (Addr × Obj)}
theorem inst_of {pins : List (Addr × Obj)} {s : Shared} {σ : L2.St} {H : Hp} {dd : Addr} {fs : List (Str × V)} (hz : Zc (.ref D) (some dd) oe) (hf : ∃ vs, oe.data = .fields vs)
    (I : Inv (X.suite a ((a, oe) :: pn)) pins σ H s) (e : H dd = some (.xd fs)) : ∃ od, PySem.W.InstAt s.heap a oe D (some od) := by
  have here := (I.pin (a, oe) (List.mem_append_left _ List.mem_cons_self)).1
  have ok : ObjOk X.prog X.w H s.heap dd (.xd fs) := I.hok dd _ e
  obtain ⟨mA, ns, -⟩ := ok
  obtain ⟨od, ho, -⟩ := lookIn_ns ns
  refine ⟨od, here, hz.1, ?_, ?_⟩
  · obtain ⟨vs, hv⟩ := hf
    unfold PySem.W.notCls
    rw [hv] <;> rfl
  · rw [hz.2]; exact ho
theorem kit_exD {K : PySem.W.Frag} {od : Option Obj} (C : ExcC K D) : PySem.W.KitX K (.ref a) (.ref D) (fun h => PySem.W.InstAt h a oe D od) := by
  have known : (PySem.W.clsIn K D).isSome = true := by
    obtain ⟨cd, hc, _⟩ := PySem.W.any_some C.hd
    rw [hc] <;> rfl
  exact PySem.W.kitx_exc known C.hg C.hk C.hs C.ha C.hn C.ht C.hm
theorem call_isD (C : ExcC X.K D) (hz : Zc (.ref D) d oe) (hf : ∃ vs, oe.data = .fields vs) : CallR (X.suite a ((a, oe) :: pn)) (.builtin "isinstance") (rIsD X.K D a d) := by
  rintro pins s σ H _ us Q I r ⟨c, u, b, dd, fs, rfl, k, rfl, eH, e, q⟩
  obtain ⟨u1, u2, rfl, r1, r2⟩ := vals2 r
  cases k.eq r2
  cases (show u1 = Value.ref a from r1)
  obtain ⟨od, J⟩ := inst_of hz hf I eH
  refine PySem.W.kia_one (kit_exD C) I.kIn J e (by intro z; cases z) fun tk => ?_
  exact ⟨.bl b, H, I.tok tk, rfl, q⟩
theorem call_isDT (C : ExcC X.K D) (hz : Zc (.ref D) d oe) (hf : ∃ vs, oe.data = .fields vs) : CallR (X.suite a ((a, oe) :: pn)) (.builtin "isinstance") (rIsDT X.K D a d) := by
  rintro pins s σ H _ us Q I r ⟨tp, cs, ws, b, dd, fs, rfl, hT, k, rfl, eH, e, q⟩
  obtain ⟨u1, u2, rfl, r1, r2⟩ := vals2 r
  cases (show u2 = Value.ref tp from r2)
  cases (show u1 = Value.ref a from r1)
  obtain ⟨od, J⟩ := inst_of hz hf I eH
  have okT : ObjOk X.prog X.w H s.heap tp (.tup cs) := I.hok tp _ hT
  obtain ⟨-, its, rv, ⟨oc, od', dt, sl⟩, there, kind, n, data⟩ := okT
  dsimp only at kind data
  subst kind data
  cases ClsV.all k rv
  refine PySem.W.kia_tup (kit_exD C) I.kIn J there e (by intro z; cases z) fun tk => ?_
  exact ⟨.bl b, H, I.tok tk, rfl, q⟩
end
/-- an error of the body, landed in X: sI is the state without it, s the state with it -/
structure Down (X : Cx) (pins : List (Addr × Obj)) (σ : L2.St) (H : Hp) (cls : Value) (d : Option Addr) (a : Addr) (B : Heap) (sI s : Shared) : Prop where
  inv : Inv X pins σ H sI
  base : ∀ b o, sI.heap.get? b = some o → b ∉ frs X.stack → B.get? b = some o
  up : sI.heap.UpToSlots s.heap
  fly : HandSPX.FlyingZ B (X.env :: X.outer) a (Zc cls d) s.heap
  free : H a = none
  os : s.os = sI.os
  bare : AllBare s.gens
section
variable {X : Cx} {pins : List (Addr × Obj)} {σ : L2.St} {H : Hp} {cls : Value} {d : Option Addr} {a : Addr} {B : Heap} {sI s : Shared}
theorem Down.here (w : Down X pins σ H cls d a B sI s) : Inv X pins σ H s := w.inv.landed w.base w.fly.1 w.up w.os w.bare
theorem Down.moved (w : Down X pins σ H cls d a B sI s) {h' : Heap} (fl : HandSPX.FlyingZ B (X.env :: X.outer) a (Zc cls d) h') (up : s.heap.UpToSlots h') : Down X pins σ H cls d a B sI { s with heap := h' } :=
  { w with up := w.up.trans up, fly := fl }
theorem Down.apart (w : Down X pins σ H cls d a B sI s) : a ∉ (X.env :: X.outer).filterMap (·.frame) := by
  intro hm
  obtain ⟨oe, vs, he, -, hd⟩ := w.fly.there
  obtain ⟨-, o, e, no⟩ := w.fly.2.2.1.mem hm
  cases he.symm.trans e
  exact no vs hd
/-- the state, seen from the suite of a clause -/
theorem Down.suite (w : Down X pins σ H cls d a B sI s) (hf : X.env.frame = some X.env.locals) :
    ∃ oe, Zc cls d oe ∧ (∃ vs, oe.data = .fields vs) ∧ s.heap.get? a = some oe ∧ Inv (X.suite a ((a, oe) :: (X.pn ++ pins))) [] σ H s := by
  obtain ⟨oe, vs, he, hz, hd⟩ := w.fly.there
  have no := w.apart
  refine ⟨oe, hz, ⟨vs, hd⟩, he, w.here.suite he hd w.free ?_ ?_⟩
  · intro z
    subst z
    exact no (List.mem_filterMap.mpr ⟨X.env, .head _, hf⟩)
  · intro z
    obtain ⟨e, me, q⟩ := List.mem_filterMap.mp z
    exact no (List.mem_filterMap.mpr ⟨e, .tail _ me, q⟩)
/-- no clause is left: the error goes on -/
theorem Down.on {Wout : WX} {D : Ends} (w : Down X pins σ H cls d a B sI s) (hs : X.stack = X.env :: X.outer) (hf : X.env.frame = some X.env.locals) (tk : Takes X Wout) (q : Wout cls d σ H) :
    wpAny (model X.prog X.w) X.A (handleBy (.ref a) X.env []) (SP X pins D) X.xe s := by
  have go : wpAny (model X.prog X.w) X.A (setFlight (.ref a) X.env.frame) (fun _ s4 => wpAny (model X.prog X.w) X.A (throw (.ref a) : Sem Flow) (SP X pins D) X.xe s4) X.xe s := by
    rw [hf]
    refine HandSPX.setFlight_upZ w.fly fun h4 held up4 => wpAny_throw (tk _ _ ?_)
    refine ⟨a, B, sI, pins, σ, H, cls, d, rfl, w.inv, w.base, w.up.trans up4, .inr (.inr ?_), w.free, w.os, w.bare, q⟩
    rw [hs]
    exact held
  obtain ⟨-, -, -, oe, vs, T, -, -, he, -, hd, h1, -⟩ := id w.fly
  refine wpAny_handleBy_nil ?_
  unfold PySem.passOn
  refine wpAny_bind (wpAny_field he hd h1 ?_)
  have nn : ¬ (Value.ref T == Value.none) = true := by simp
  rw [if_neg nn]
  first
    | exact wpAny_bind go
    | exact wpAny_bind (wpAny_pure (wpAny_bind go))
/-- the first of the clauses: it is taken, or the next ones are asked -/
theorem Down.clause {D : Ends} {x n : Str} {c : Value} {i : Nat} {b₀ : Stmt} {body : List Stmt} {p p' : Pos} {rest : List ExceptHandler} {ts : Addr → Value → Option Addr → TS} {W : WX}
    (w : Down X pins σ H cls d a B sI s) (hf : X.env.frame = some X.env.locals) (hN : X.N.Nodup) (hi : X.N[i]? = some n) (hln : X.env.kindOf n = some .local) (hc : Names X x c)
    (hsu : ∀ (oe : Obj) (pn : List (Addr × Obj)), Zc cls d oe → (∃ vs, oe.data = .fields vs) → PSs (X.suite a ((a, oe) :: pn)) (b₀ :: body) (ts a cls d))
    (q : wAs X.K c i ts W D cls d σ H) (hr : W cls d σ H → wpAny (model X.prog X.w) X.A (handleBy (.ref a) X.env rest) (SP X pins D) X.xe s) :
    wpAny (model X.prog X.w) X.A (handleBy (.ref a) X.env (.ExceptHandler (some (.Name x p)) (some n) (b₀ :: body) p' :: rest)) (SP X pins D) X.xe s := by
  obtain ⟨b, is, yes, no⟩ := q
  obtain ⟨oe, hz, -, he, S⟩ := w.suite hf
  refine wpAny_handleBy_cons (codeAny_handlers_test ?_) (by intro z; cases z)
  have ty : PySem.W.Looks (model X.prog X.w) s.heap (typeOf (.ref a)) cls := by
    intro A Q E s' k q
    refine wpAny_typeOf_ref (k _ _ he) ?_
    rw [hz.1]
    exact q
  have match_ := PySem.W.exm_one (M := model X.prog X.w) w.here.kIn ty is
  have name_ : ∀ {Q E : Value → Shared → Prop}, Q c s → wpAny (model X.prog X.w) (X.A.mark (some (.ref a))) (eval (.Name x p) X.env) Q E s := by
    intro Q E q
    rcases hc with ⟨g, nd, m | ⟨m, v, nn⟩⟩
    · exact ld_glob (X := X.suite a _) S g m q nd
    · exact ld_blt (X := X.suite a _) S g m v q nn nd
  refine name_ (match_.here ?_)
  cases b with
  | false => exact hr (no rfl)
  | true =>
    refine codeAny_handlers_suite_as (HandSPX.lands_againZ w.fly fun h4 fl4 up4 => ?_)
    obtain ⟨oe4, hz4, hd4, -, S4⟩ := (w.moved fl4 up4).suite hf
    refine store_ok (X := X.suite a _) (v := .ref a) S4 hN hi (.inl hln) rfl (fun s5 S5 => ?_) (.inr hln)
    refine wpAny_mono ((hsu oe4 (X.pn ++ pins) hz4 hd4).run [] s5 _ H _ S5 (yes rfl a w.free)) (fun f s6 r => ?_) (by intro _ _ z; exact z.elim)
    have ok := w.inv.ok
    cases f with
    | ret u =>
      obtain ⟨v6, σ6, H6, S6, r6, q6⟩ := r
      exact gone_ok (S6.unsuite ok) hN hi hln fun s7 J7 => ⟨v6, _, _, J7, r6, q6⟩
    | next =>
      obtain ⟨σ6, H6, S6, q6⟩ := r
      exact gone_ok (S6.unsuite ok) hN hi hln fun s7 J7 => ⟨_, _, J7, q6⟩
    | brk =>
      obtain ⟨σ6, H6, S6, q6⟩ := r
      exact gone_ok (S6.unsuite ok) hN hi hln fun s7 J7 => ⟨_, _, J7, q6⟩
    | cont =>
      obtain ⟨σ6, H6, S6, q6⟩ := r
      exact gone_ok (S6.unsuite ok) hN hi hln fun s7 J7 => ⟨_, _, J7, q6⟩
end
/-- clauses 'except x as n', n in slot i, with what each does and what the one behind the last wishes -/
inductive Clauses (X : Cx) (n : Str) (i : Nat) (Wout : WX) : List ExceptHandler → (Ends → WX) → Prop
  | nil : Clauses X n i Wout [] (fun _ => Wout)
  | cons {x : Str} {c : Value} {ts : Addr → Value → Option Addr → TS} {b₀ : Stmt} {body : List Stmt} {p p' : Pos} {rest : List ExceptHandler} {W : Ends → WX} (hc : Names X x c)
      (hsu : ∀ (a : Addr) (oe : Obj) (cls : Value) (d : Option Addr) (pn : List (Addr × Obj)), Zc cls d oe → (∃ vs, oe.data = .fields vs) → PSs (X.suite a ((a, oe) :: pn)) (b₀ :: body) (ts a cls d))
      (r : Clauses X n i Wout rest W) : Clauses X n i Wout (.ExceptHandler (some (.Name x p)) (some n) (b₀ :: body) p' :: rest) (fun D => wAs X.K c i ts (W D) D)
section
variable {X : Cx} {n : Str} {i : Nat} {Wout : WX}
theorem Clauses.run {hds : List ExceptHandler} {W : Ends → WX} (k : Clauses X n i Wout hds W) (hs : X.stack = X.env :: X.outer) (hf : X.env.frame = some X.env.locals) (hN : X.N.Nodup) (hi : X.N[i]? = some n) (hln : X.env.kindOf n = some .local) (tk : Takes X Wout)
    {pins : List (Addr × Obj)} {σ : L2.St} {H : Hp} {cls : Value} {d : Option Addr} {a : Addr} {B : Heap} {sI s : Shared} {D : Ends} (w : Down X pins σ H cls d a B sI s) (q : W D cls d σ H) :
    wpAny (model X.prog X.w) X.A (handleBy (.ref a) X.env hds) (SP X pins D) X.xe s := by
  induction k with
  | nil => exact w.on hs hf tk q
  | cons hc hsu r ih => exact w.clause hf hN hi hln hc (fun oe pn => hsu a oe cls d pn) q ih
/-- try: body / except x1 as n: .. / except x2 as n: .. -/
theorem ps_tryA {body : List Stmt} {h₀ : ExceptHandler} {hds : List ExceptHandler} {pos : Pos} {tb : WX → TS} {W : Ends → WX} (hs : X.stack = X.env :: X.outer) (hf : X.env.frame = some X.env.locals) (hN : X.N.Nodup) (hi : X.N[i]? = some n) (hln : X.env.kindOf n = some .local)
    (tk : Takes X Wout) (hb : ∀ (W : WX) (pn : List (Addr × Obj)) (xe : Value → Shared → Prop), Takes (X.tr pn xe) W → PassesOwn (model X.prog X.w) X.A X.env xe → PSs (X.tr pn xe) body (tb W))
    (k : Clauses X n i Wout (h₀ :: hds) W) : PS X (.Try body (h₀ :: hds) [] [] pos) (fun D σ H => tb (W D) D σ H) := by
  constructor
  intro pins s σ H D I h
  have ok := I.ok
  let out : Value → Shared → Prop := fun e s₁ => wpAny (model X.prog X.w) X.A (noteFrame e X.env)
    (fun _ s₂ => wpAny (model X.prog X.w) X.A (setFlight e none) (fun _ s₃ => wpAny (model X.prog X.w) X.A (handleBy e X.env (h₀ :: hds)) (SP X pins D) X.xe s₃) X.xe s₂) X.xe s₁
  have tks : Takes (X.tr (X.pn ++ pins) out) (W D) := by
    rintro u s' ⟨a, B, sI, pins', σ', H', cls, d, rfl, J, nb, up, sky, na, os, ag, q⟩
    have fr : X.A.frames = some (X.env :: X.outer) := by rw [ok.frames, hs]
    have sky' := sky
    rw [show (X.tr (X.pn ++ pins) out).stack = X.env :: X.outer from hs] at sky'
    refine Sky.land (E₁ := X.xe) Zc.steady fr hf sky' fun h3 fl3 up3 => ?_
    exact k.run hs hf hN hi hln tk (sI := sI) (B := B) ⟨J.ofTry ok, nb, up.trans up3, fl3, na, os, ag⟩ q
  refine wpAny_Try_except (wpAny_mono ((hb (W D) (X.pn ++ pins) out tks PassesOwn.looking).run [] s σ H D (I.toTry _) h) ?_ fun _ _ he => he)
  · intro f s1 r
    cases f with
    | next =>
      obtain ⟨σ', H', J, q⟩ := r
      exact wpAny_execs_nil ⟨σ', H', J.ofTry ok, q⟩
    | ret u =>
      obtain ⟨v, σ', H', J, r', q⟩ := r
      exact ⟨v, σ', H', J.ofTry ok, r', q⟩
    | brk | cont =>
      obtain ⟨σ', H', J, q⟩ := r
      exact ⟨σ', H', J.ofTry ok, q⟩
end
section
variable {X : Cx} {a : Addr} {cls : Value} {d : Option Addr} {oe : Obj} {pn : List (Addr × Obj)}
/-- isinstance of the error of the suite, whatever its class is: an own one that says enough -/
def rIsX (K : PySem.W.Frag) (a : Addr) (cls : Value) (d : Option Addr) : List V → Hp → VK → Prop := fun xs H Q => ∃ D, cls = .ref D ∧ ExcC K D ∧ rIsD K D a d xs H Q
def rIsXT (K : PySem.W.Frag) (a : Addr) (cls : Value) (d : Option Addr) : List V → Hp → VK → Prop := fun xs H Q => ∃ D, cls = .ref D ∧ ExcC K D ∧ rIsDT K D a d xs H Q
theorem call_isX (hz : Zc cls d oe) (hf : ∃ vs, oe.data = .fields vs) : CallR (X.suite a ((a, oe) :: pn)) (.builtin "isinstance") (rIsX X.K a cls d) := by
  rintro pins s σ H xs us Q I r ⟨D, rfl, C, h⟩
  exact call_isD C hz hf pins s σ H xs us Q I r h
theorem call_isXT (hz : Zc cls d oe) (hf : ∃ vs, oe.data = .fields vs) : CallR (X.suite a ((a, oe) :: pn)) (.builtin "isinstance") (rIsXT X.K a cls d) := by
  rintro pins s σ H xs us Q I r ⟨D, rfl, C, h⟩
  exact call_isDT C hz hf pins s σ H xs us Q I r h
end
/-! ### depths, other paths, replaced with its error -/
theorem joinL_ones : ∀ l : List Nat, TL.joinL [] (l.map fun c => [c]) = l
  | [] => rfl
  | [c] => rfl
  | c :: d :: r => by
    have := joinL_ones (d :: r)
    show [c] ++ ([] ++ TL.joinL [] ((d :: r).map fun c => [c])) = _
    rw [this]; rfl
theorem tx_join (l : List Nat) : Txt.join (Str.ofString "") (l.map ch) = tx l := by
  rw [TL.join_eq]
  have e := TL.tl_join (Str.ofString "") (l.map ch)
  refine TL.ext_tl (e.trans ?_)
  rw [List.map_map]
  exact joinL_ones l
theorem tx_joinOk (l : List Nat) (h : l.length ≤ 1000) : ((l.map ch).map (·.length)).sum + (l.map ch).length * (Str.ofString "").length ≤ 16777216 := by
  have e0 : (Str.ofString "").length = 0 := by decide +kernel
  have e1 : ∀ l : List Nat, ((l.map ch).map (·.length)).sum = l.length := by
    intro l
    induction l with
    | nil => rfl
    | cons c r ih =>
      rw [List.map_cons, List.map_cons, List.sum_cons, ih, List.length_cons]
      show 1 + r.length = _
      omega
  rw [e0, e1]
  omega
inductive B where
  | nil
  | node (l : B) (x : Nat) (r : B)
  deriving DecidableEq
def B.size : B → Nat
  | .nil => 0
  | .node l _ r => l.size + 1 + r.size
def B.deep : B → Nat
  | .nil => 0
  | .node l _ r => 1 + max l.deep r.deep
def B.data : B → PyData
  | .nil => .none
  | .node l x r => .tuple [l.data, .str (ch x), r.data]
def B.pre : B → List Nat
  | .nil => []
  | .node l x r => x :: (l.pre ++ r.pre)
def B.mid : B → List Nat
  | .nil => []
  | .node l x r => l.mid ++ x :: r.mid
def LimE (H : Hp) (E : XK) (C : Addr) (n : Int) : Prop := ∀ (H' : Hp) (p : Addr), Same H H' → H' p = none → E (.ref C) (some p) (upd H' p (.xd [(("limit" : Str), .int n)]))
structure DfX (P : Program) (w : World) (K : PySem.W.Frag) (mg : Str → Option Value) (base : Heap) (k : Nat) (nm : Str) (ps : List Str) (sp : Sp) where
  f : Addr
  fd : FuncData
  ok : FnOk P w K mg base (L2.CX P w) k f fd ps sp
  b : Binds K fd ps []
  kp : PySem.W.keepIn K (.ref f) = true
  g : mg nm = some (.ref f)
abbrev veT : List Value := [.type "ValueError", .type "Exception", .type "BaseException", .type "object"]
def spDep (n : Nat) : Sp := fun vs H Q _ => ∃ (v : V) (t : T), vs = [v] ∧ TreeAt H v t ∧ t.deep < n ∧ Q (.int (t.deep : Int)) H
def spOther : Sp := fun vs H Q _ => ∃ (p : List Bool), vs = [.str (px p)] ∧ p.length ≤ 100 ∧ ∀ H', Same H H' → Q (.str (px (p.map not))) H'
def spReplX (C : Addr) : Sp := fun vs H Q E => ∃ (v vp : V) (t u o : T) (p : List Bool), vs = [v, .str (px p), vp] ∧ TreeAt H v t ∧ TreeAt H vp u ∧ t.at p = some o ∧ t.size ≤ 12 ∧ u.size ≤ 12 ∧ (12 < (t.put p u).size → LimE H E C 12) ∧ ((t.put p u).size ≤ 12 → ∀ (v' : V) (H' : Hp), Same H H' → TreeAt H' v' (t.put p u) → Q v' H')
section
variable {P : Program} {w : World} {K : PySem.W.Frag} {mg : Str → Option Value} {base : Heap} {f : Addr} {fd : FuncData} {C fI : Addr} {qn : Str}
theorem ok_depth (F : Fun K "depth_of" "depth_of" s_depth_of f fd) (M : Mgs mg) (mmax : mg "max" = none) (b : Binds K fd ["tree"] []) (g : mg "depth_of" = some (.ref f)) : ∀ n : Nat, FnOk P w K mg base CX0 n f fd ["tree"] (spDep n)
  | 0 => by
    have no : ∀ vs H Q E, ¬ spDep 0 vs H Q E := fun vs H Q E h => by
      obtain ⟨v, t, _, _, h1, _⟩ := h
      omega
    exact ⟨fun vs H Q E h => absurd h (no vs H Q E), fun A outer s H args us vs Q E _ _ _ _ h => absurd h (no vs H Q E)⟩
  | n + 1 => by
    have Dself : Df P w K mg base n "depth_of" ["tree"] (spDep n) := ⟨f, fd, ok_depth F M mmax b g n, b, F.kp, g⟩
    refine F.ok sc_depth_of (fun vs H Q E h => ?_) (fun cdv A outer s H vs Q E hr h => ?_)
    · obtain ⟨v, t, rfl, _⟩ := h
      rfl
    obtain ⟨v, t, rfl, hv, hn, q⟩ := h
    refine ⟨_, (pss_cons (ps_if (pt_cmpR op_isN (pv 0) pe_non (nomark _))
      (pss_one (ps_ret pe_int)) pss_nil)
    (pss_one (ps_ret (pe_op op_add pe_int (pe_callB (call_max2 rfl) rfl mmax (by decide +kernel) (pa_cons (pe_call Dself.ok (hr.mono (by omega)) rfl Dself.g Dself.kp Dself.b .nil pass0 (pa_cons (pe_ix ix_tup (pv 0) pe_int (fun _ _ => rfl)) pa_nil)) (pa_cons (pe_call Dself.ok (hr.mono (by omega)) rfl Dself.g Dself.kp Dself.b .nil pass0 (pa_cons (pe_ix ix_tup (pv 0) pe_int (fun _ _ => rfl)) pa_nil)) pa_nil))))))), ?_⟩
    rcases hv.inv with ⟨rfl, rfl⟩ | ⟨a, l, r, x, tl, tr, rfl, rfl, ea, hl, hr'⟩
    · exact ⟨_, rfl, rfl, _, rfl, iteT q⟩
    · have hz : 1 + max tl.deep tr.deep < n + 1 := hn
      refine ⟨_, rfl, rfl, _, rfl, iteF ?_⟩
      refine ⟨_, rfl, a, _, 0, l, rfl, rfl, SqT.of ea, atI_nat (j := 0) rfl, l, tl, rfl, hl, by omega, _, rfl, a, _, 2, r, rfl, rfl, SqT.of ea, atI_nat (j := 2) rfl, r, tr, rfl, hr', by omega, ?_⟩
      refine ⟨_, _, rfl, _, _, rfl, rfl, ?_⟩
      have e : (1 : Int) + (if (tr.deep : Int) > (tl.deep : Int) then (tr.deep : Int) else (tl.deep : Int)) = ((1 + max tl.deep tr.deep : Nat) : Int) := by
        split <;> omega
      show Q (.int ((1 : Int) + (if (tr.deep : Int) > (tl.deep : Int) then (tr.deep : Int) else (tl.deep : Int)))) H
      rw [e]
      exact q
theorem ok_other {k : Nat} (F : Fun K "_law_other_path" "_law_other_path" s__law_other_path f fd) (M : Mgs mg) : FnOk P w K mg base CX0 (k + 1) f fd ["_law_path"] spOther := by
  refine F.ok sc__law_other_path (fun vs H Q E h => ?_) (fun cdv A outer s H vs Q E hr h => ?_)
  · obtain ⟨p, rfl, _⟩ := h
    rfl
  obtain ⟨p, rfl, hp, q⟩ := h
  refine ⟨_, (pss_one (ps_ret (pe_bm PySem.F.plainAttrs_str PySem.F.slot_str_join PySem.F.type_str_join mt_join pe_str (pa_cons (pe_lc (own := [("_law_sign", 1)]) (g := gName 1) (tt := tYes) rfl sc__law_other_path.nd (pi_str (pv 0)) (blkOk_by (N := ["_law_path", "_law_sign"]) (sc := defScope s__law_other_path) (by decide +kernel)) (fun _ _ _ _ _ => (pg_name (i := 1) sc__law_other_path.nd rfl (.inl rfl))) (fun _ _ _ _ _ => pts_nil) (fun _ _ _ _ _ => (pe_ix (show IxR _ (rIxL K) from ix_list) (pe_lst (pa_cons pe_str (pa_cons pe_str pa_nil))) (pe_callTy call_int1 rfl M.int (by decide +kernel) (pa_cons (pe_cmpR op_eq (pv 1) pe_str (nomark _)) pa_nil)) (fun _ _ => rfl)))) pa_nil)))), ?_⟩
  refine ⟨rfl, _, rfl, px p, rfl, fun L nL => ?_⟩
  have k1 := same_new nL (.lst [])
  refine lc_text (x := px p) (fun j H' => Same H H' ∧ H' L = some (.lst (((p.take j).map fun b => ch (dir (!b))).map V.str))) ⟨k1, upd_same⟩ (fun j c H' hc hp' => ?_) (fun H' hp' => ?_)
  · obtain ⟨sm, eL⟩ := hp'
    have hc' : (p.map dir)[j]? = some c := hc
    obtain ⟨b, hb, rfl⟩ : ∃ b, p[j]? = some b ∧ dir b = c := by
      rw [List.getElem?_map] at hc'
      cases e : p[j]? with
      | none => rw [e] at hc'; cases hc'
      | some b => rw [e] at hc'; exact ⟨b, rfl, Option.some.inj hc'⟩
    refine ⟨rfl, kept ?_⟩
    refine ⟨(by show 2 ≤ sizeLine; decide), fun l nl => ?_⟩
    have k2 := same_new nl (.lst [.str "l", .str "r"])
    refine ⟨_, rfl, rfl, .inr ⟨_, rfl, ?_⟩⟩
    rw [dir_str]
    have at2 : atI [V.str (Str.ofString "l"), V.str (Str.ofString "r")] (if (!b) = true then 1 else 0) = some (.str (ch (dir (!b)))) := by
      cases b
      · show some (V.str (Str.ofString "r")) = _
        rw [str_r]
        rfl
      · show some (V.str (Str.ofString "l")) = _
        rw [str_l]
        rfl
    have nlL : L ≠ l := fun z => by rw [← z, eL] at nl; cases nl
    refine ⟨l, _, _, _, rfl, rfl, SqL.of upd_same, at2, _, by rw [upd_ne nlL]; exact eL, small1000 (by rw [List.length_map, List.length_map, List.length_take]; omega), fun c o e => ?_, ?_⟩
    · rw [upd_ne (ne_of_none e nL)]
      exact k2 _ _ (sm _ _ e)
    · rw [upd_same, List.take_add_one, hb, List.map_append, List.map_append]
      rfl
  · obtain ⟨sm, eL⟩ := hp'
    rw [List.take_of_length_le (by rw [show (px p).cps.toList = p.map dir from rfl, List.length_map]; exact Nat.le_refl _)] at eL
    have e : (p.map fun b => ch (dir (!b))) = ((p.map not).map dir).map ch := by rw [List.map_map, List.map_map]; rfl
    rw [e] at eL
    refine ⟨_, L, ((p.map not).map dir).map ch, rfl, rfl, .inl (SqL.of eL), tx_joinOk _ (by rw [List.length_map, List.length_map]; omega), ?_⟩
    rw [tx_join]
    exact q H' sm
theorem ok_replX {tM : Tok} (F : Fun K "replaced" "replaced" s_replaced f fd) (mMAX : mg "MAX_NODES" = some (.int 12 tM)) (hE : Err_limit K mg "ValueError.__new__" veT "TooLarge" qn C fI) (Dpart_at : Df P w K mg base 1 "part_at" ["tree", "path"] spPart) (Dsize_of : Df P w K mg base 20 "size_of" ["tree"] (spSz 20)) (Dwith_part : Df P w K mg base 20 "with_part" ["tree", "path", "part"] (spWith 20)) :
    FnOk P w K mg base (L2.CX P w) 21 f fd ["tree", "path", "part"] (spReplX C) := by
  refine F.okX sc_replaced (fun vs H Q E h => ?_) (fun cdv A outer s H vs Q E hr h => ?_)
  · obtain ⟨v, vp, t, u, o, p, rfl, _⟩ := h
    rfl
  obtain ⟨v, vp, t, u, o, p, rfl, ht, hu, ho, h12, hu12, jE, jQ⟩ := h
  refine ⟨_, (pss_cons (ps_set (i := 3) sc_replaced.nd rfl (.inl rfl) (pe_call Dpart_at.ok (hr.mono (by omega)) rfl Dpart_at.g Dpart_at.kp Dpart_at.b .nil pass0 (pa_cons (pv 0) (pa_cons (pv 1) pa_nil))))
    (pss_cons (ps_if (pt_cmpR op_gt (pe_op op_add (pe_op op_sub (pe_call Dsize_of.ok (hr.mono (by omega)) rfl Dsize_of.g Dsize_of.kp Dsize_of.b .nil pass0 (pa_cons (pv 0) pa_nil)) (pe_call Dsize_of.ok (hr.mono (by omega)) rfl Dsize_of.g Dsize_of.kp Dsize_of.b .nil pass0 (pa_cons (pv 3) pa_nil))) (pe_call Dsize_of.ok (hr.mono (by omega)) rfl Dsize_of.g Dsize_of.kp Dsize_of.b .nil pass0 (pa_cons (pv 2) pa_nil))) (pe_glob (v := .int _) rfl mMAX ⟨_, rfl⟩) (nomark _))
      (pss_one (ps_raise_limit rfl famV hE hr (takes_of rfl rfl rfl rfl) (pa_cons (pe_glob (v := .int 12) rfl mMAX ⟨_, rfl⟩) pa_nil) rfl)) pss_nil)
    (pss_one (ps_ret (pe_call Dwith_part.ok (hr.mono (by omega)) rfl Dwith_part.g Dwith_part.kp Dwith_part.b .nil pass0 (pa_cons (pv 0) (pa_cons (pv 1) (pa_cons (pv 2) pa_nil)))))))), ?_⟩
  have z1 := t.at_size p ho
  have z2 := t.put_size p u ho
  refine ⟨_, rfl, _, rfl, v, t, o, p, rfl, ht, ho, by omega, fun vo H1 s1 ho1 => ?_⟩
  have ht1 := ht.same s1
  have hu1 := hu.same s1
  refine ⟨_, rfl, v, t, rfl, ht1, by omega, _, rfl, vo, o, rfl, ho1, by omega, _, _, rfl, rfl, _, rfl, vp, u, rfl, hu1, by omega, _, _, rfl, rfl, _, _, rfl, rfl, _, rfl, ?_⟩
  by_cases h : 12 < (t.put p u).size
  · rw [decide_eq_true (show ((t.size : Int) - (o.size : Int) + (u.size : Int) > 12) by omega)]
    exact iteT ⟨_, rfl, fun a na => jE h H1 a s1 na⟩
  · rw [decide_eq_false (show ¬ ((t.size : Int) - (o.size : Int) + (u.size : Int) > 12) by omega)]
    refine iteF ?_
    refine ⟨_, rfl, _, rfl, _, rfl, v, vp, t, u, p, rfl, ht1, hu1, by omega, by omega, by rw [ho]; rfl, fun v' H2 s2 h2 => jQ (by omega) v' H2 (s1.trans s2) h2⟩
theorem ok_sizeM (F : Fun K "size_of" "size_of" s_size_of f fd) (b : Binds K fd ["tree"] []) (g : mg "size_of" = some (.ref f)) : ∀ n : Nat, FnM P w K mg base n f fd ["tree"] (spSz n)
  | 0 => by
    have no : ∀ vs H Q E, ¬ spSz 0 vs H Q E := fun vs H Q E h => by
      obtain ⟨v, t, _, _, h1, _⟩ := h
      omega
    exact ⟨fun vs H Q E h => absurd h (no vs H Q E), fun A outer s H args us vs Q E _ _ _ _ h => absurd h (no vs H Q E)⟩
  | n + 1 => by
    have Dself : DfM P w K mg base n "size_of" ["tree"] (spSz n) := ⟨f, fd, ok_sizeM F b g n, b, F.kp, g⟩
    refine fnM F sc_size_of (fun vs H Q E h => ?_) (fun cdv A outer s H vs Q E hr h => ?_)
    · obtain ⟨v, t, rfl, _⟩ := h
      rfl
    obtain ⟨v, t, rfl, hv, hn, q⟩ := h
    refine ⟨_, (pss_cons (ps_if (pt_cmpR op_isN (pv 0) pe_non (nomark _))
      (pss_one (ps_ret pe_int)) pss_nil)
    (pss_one (ps_ret (pe_op op_add (pe_op op_add (pe_callM Dself.ok (hr.mono (by omega)) rfl Dself.g Dself.kp Dself.b (pa_cons (pe_ix ix_tup (pv 0) pe_int (fun _ _ => rfl)) pa_nil)) pe_int) (pe_callM Dself.ok (hr.mono (by omega)) rfl Dself.g Dself.kp Dself.b (pa_cons (pe_ix ix_tup (pv 0) pe_int (fun _ _ => rfl)) pa_nil)))))), ?_⟩
    rcases hv.inv with ⟨rfl, rfl⟩ | ⟨a, l, r, x, tl, tr, rfl, rfl, ea, hl, hr'⟩
    · exact ⟨_, rfl, rfl, _, rfl, iteT q⟩
    · refine ⟨_, rfl, rfl, _, rfl, iteF ?_⟩
      have hz : tl.size + 1 + tr.size < n + 1 := hn
      refine ⟨_, rfl, a, _, 0, l, rfl, rfl, SqT.of ea, atI_nat (j := 0) rfl, l, tl, rfl, hl, by omega, _, _, rfl, rfl, _, rfl, a, _, 2, r, rfl, rfl, SqT.of ea, atI_nat (j := 2) rfl, r, tr, rfl, hr', by omega, _, _, rfl, rfl, ?_⟩
      have e : (tl.size : Int) + 1 + (tr.size : Int) = ((tl.size + 1 + tr.size : Nat) : Int) := by omega
      show Q (.int ((tl.size : Int) + 1 + (tr.size : Int))) H
      rw [e]
      exact q
end
/-! ### nodes in lists -/
/-- nodes told -/
def NdAt (H : Hp) (us : List V) (L : List (List Nat × Str)) : Prop := us.length = L.length ∧ ∀ (j : Nat) (u : V) (e : List Nat × Str), us[j]? = some u → L[j]? = some e → ∃ a, u = .ref a ∧ H a = some (.tup [.str (tx e.1), .str e.2])
theorem NdAt.keep {H H' : Hp} (k : KeepT H H') {us : List V} {L : List (List Nat × Str)} (h : NdAt H us L) : NdAt H' us L := ⟨h.1, fun j u e h1 h2 => by
  obtain ⟨a, h3, h4⟩ := h.2 j u e h1 h2
  exact ⟨a, h3, k _ _ h4⟩⟩
theorem NdAt.snoc {H : Hp} {us : List V} {L : List (List Nat × Str)} (h : NdAt H us L) {a : Addr} {e : List Nat × Str} (ea : H a = some (.tup [.str (tx e.1), .str e.2])) : NdAt H (us ++ [.ref a]) (L ++ [e]) := by
  refine ⟨by rw [List.length_append, List.length_append, h.1]; rfl, fun j u e' h1 h2 => ?_⟩
  by_cases hj : j < us.length
  · rw [List.getElem?_append_left hj] at h1
    rw [List.getElem?_append_left (by rw [← h.1]; exact hj)] at h2
    exact h.2 j u e' h1 h2
  · have e1 : j = us.length := by
      have := (List.getElem?_eq_some_iff.mp h1).1
      rw [List.length_append] at this
      have : j < us.length + 1 := this
      omega
    subst e1
    rw [List.getElem?_append_right (Nat.le_refl _), Nat.sub_self] at h1
    rw [h.1, List.getElem?_append_right (Nat.le_refl _), Nat.sub_self] at h2
    cases h1
    cases h2
    exact ⟨a, rfl, ea⟩
def ndD (e : List Nat × Str) : PyData := .tuple [.str (tx e.1), .str e.2]
def ndsD (L : List (List Nat × Str)) : PyData := .list (L.map ndD)
theorem NdAt.dpAll {K : PySem.W.Frag} {H : Hp} : ∀ {us : List V} {L : List (List Nat × Str)}, NdAt H us L → DpAll K H us (L.map ndD)
  | [], [], _ => .nil
  | u :: us, e :: L, h => by
    obtain ⟨a, rfl, ea⟩ := h.2 0 _ _ rfl rfl
    exact .cons (.tup (SqT.of ea) (.cons (.str _) (.cons (.str _) .nil))) (NdAt.dpAll ⟨Nat.succ.inj h.1, fun j u e h1 h2 => h.2 (j + 1) u e h1 h2⟩)
  | [], _ :: _, h => nomatch h.1
  | _ :: _, [], h => nomatch h.1
theorem NdAt.dp {K : PySem.W.Frag} {H : Hp} {p : Addr} {us : List V} {L : List (List Nat × Str)} (e : H p = some (.lst us)) (h : NdAt H us L) : Dp K H (.ref p) (ndsD L) := .lst (SqL.of e) h.dpAll
theorem NdAt.take {H : Hp} {us : List V} {L : List (List Nat × Str)} (h : NdAt H us L) (m : Nat) : NdAt H (us.take m) (L.take m) := ⟨by rw [List.length_take, List.length_take, h.1], fun j u e h1 h2 => by
  have hj : j < m := by
    have := (List.getElem?_eq_some_iff.mp h1).1
    rw [List.length_take] at this
    omega
  rw [List.getElem?_take_of_lt hj] at h1 h2
  exact h.2 j u e h1 h2⟩
theorem got_nd {t : T} {H : Hp} {xs : List V} (g : Got (itN t) H xs) (f : ∃ ys Hg, ys.length = xs.length ∧ fnN t ys Hg ∧ KeepU Hg H) : NdAt H xs (t.nd []) := by
  obtain ⟨ys, Hg, h1, h2, _⟩ := f
  have h2 : ys.length = t.size := h2
  refine ⟨by rw [T.nd_len, ← h1, h2], fun j u e h3 h4 => ?_⟩
  obtain ⟨zs, Hj, z1, ⟨q, w, rfl, z2, z3⟩, z4⟩ := g j u h3
  rw [z1, h4] at z2
  cases z2
  exact ⟨q, rfl, z4 _ _ z3⟩
theorem nds_dep (L : List (List Nat × Str)) : PyData.depthAll (L.map ndD) ≤ 1 := by
  induction L with
  | nil => simp only [List.map_nil, PyData.depthAll]; omega
  | cons e L ih => simp only [List.map_cons, ndD, PyData.depthAll, PyData.depth] at ih ⊢; omega
theorem nds_nar (L : List (List Nat × Str)) (h : L.length ≤ 60) : nar (ndsD L) = true := by
  have q : ∀ L : List (List Nat × Str), narAll (L.map ndD) = true := fun L => by
    induction L with
    | nil => simp only [List.map_nil, narAll]
    | cons e L ih => simp only [List.map_cons, ndD, narAll, nar, ih, Bool.and_true, Bool.and_self, List.length_cons, List.length_nil]; exact decide_eq_true (by omega)
  simp only [ndsD, nar, q, List.length_map, Bool.and_true]
  exact decide_eq_true (by omega)
def cmpD (L M : List (List Nat × Str)) : PyData := .list [ndsD L, ndsD M, ndsD M]
theorem cmp_ok (L M : List (List Nat × Str)) (h1 : L.length ≤ 60) (h2 : M.length ≤ 60) : (cmpD L M).depth < 20 ∧ nar (cmpD L M) = true := by
  have a := nds_dep L
  have b := nds_dep M
  refine ⟨?_, ?_⟩
  · simp only [cmpD, ndsD, PyData.depth, PyData.depthAll]; omega
  · simp only [cmpD, nar, narAll, nds_nar L h1, nds_nar M h2, Bool.and_self, Bool.and_true, List.length_cons, List.length_nil]
    exact decide_eq_true (by omega)
structure DfG (P : Program) (w : World) (K : PySem.W.Frag) (mg : Str → Option Value) (base : Heap) (k : Nat) (nm : Str) (ps : List Str) (sp : SpG3) where
  f : Addr
  fd : FuncData
  ok : GFn3 P w K mg base k f fd ps sp
  b : Binds K fd ps []
  kp : PySem.W.keepIn K (.ref f) = true
  g : mg nm = some (.ref f)
theorem pe_callP {X : Cx} {CX : CXT} {k : Nat} {f : Addr} {sp : Sp} {E : XK} {x : Str} {e : Expr} {es : List Expr} {t : TA} {p pos : Pos} (F : FnR X.prog X.w X.K X.mg X.base CX k f sp) (hr : Room k X.A) (hk : PySem.W.keepIn X.K (.ref f) = true) (hg : Gl X x) (hm : X.mg x = some (.ref f)) (hx : Passes CX X E)
    (ha : PA X (e :: es) t) (hd : (x == ("__debug__" : Str)) = false := by decide) (he : starEach (e :: es) X.env = (false, eval e X.env) :: starEach es X.env := by rfl) (hpl : (backTo pos (starEach es X.env)).any (·.1) = false := by rfl) :
    PE X (.Call (.Name x p) (e :: es) [] pos) (fun σ H Q => t σ H fun vs H1 => sp vs H1 Q E) :=
  ⟨fun pins s σ H Q I h => wpAny_Call_Name_kw (ld_glob I hg hm (PySem.W.callWith_K (h₀ := X.base) I.ok.mod.kin hk (thn (ha.run pos pins s σ H _ I h) fun us s1 ⟨vs, H1, I1, r, q⟩ => ⟨I1.kIn, wpAny_call (run_fnR F hr hx I1 r q)⟩) he hpl) hd)⟩
theorem tx_to (l : List Nat) (k : Nat) : cutS (tx l) none (some (k : Int)) = tx (l.take k) := by
  unfold cutS tx
  show (⟨_⟩ : Str) = ⟨_⟩
  rw [HT.sIx_nat, HT.sIx_none]
  show (⟨((l.drop 0).take (min k l.length - 0)).toArray⟩ : Str) = ⟨(l.take k).toArray⟩
  rw [List.drop_zero, Nat.sub_zero, Nat.min_def]
  split
  · rfl
  · rw [List.take_of_length_le (Nat.le_refl _), List.take_of_length_le (by omega)]
/-- what is told of a node has its shape -/
def NdOk (e : List Nat × Str) : Prop := (∀ c ∈ e.1, c < 200) ∧ Ltr e.2
theorem T.nd_ok : ∀ (t : T) (q : List Nat), t.lt → (∀ c ∈ q, c < 200) → ∀ e ∈ t.nd q, NdOk e
  | .nil, _, _, _, _, h => by cases h
  | .node l x r, q, h, hq, e, he => by
    obtain ⟨h1, h2, h3⟩ := T.lt_node h
    have up : ∀ d, d < 200 → ∀ c ∈ q ++ [d], c < 200 := fun d hd c hc => by
      rcases List.mem_append.mp hc with hc | hc
      · exact hq c hc
      · rw [List.mem_singleton.mp hc]; exact hd
    have he : e ∈ (q, x) :: (l.nd (q ++ [108]) ++ r.nd (q ++ [114])) := he
    rcases List.mem_cons.mp he with rfl | he
    · exact ⟨hq, h2⟩
    rcases List.mem_append.mp he with he | he
    · exact l.nd_ok _ h1 (up 108 (by decide)) e he
    · exact r.nd_ok _ h3 (up 114 (by decide)) e he
theorem nds_shaped {L : List (List Nat × Str)} (h : ∀ e ∈ L, NdOk e) : SeqAt.shaped (ndsD L) = true := by
  have c : ∀ L : List (List Nat × Str), (∀ e ∈ L, NdOk e) → PyData.canLayAll0 (L.map ndD) = true := fun L h => by
    induction L with
    | nil => simp only [List.map_nil, PyData.canLayAll0]
    | cons e L ih =>
      obtain ⟨h1, h2⟩ := h e (List.mem_cons_self ..)
      have a : PyData.strOk (tx e.1) = true := by
        show (e.1.toArray).all (· < 0x110000) = true
        rw [← Array.all_toList, List.all_eq_true]
        intro c hc
        exact decide_eq_true (Nat.lt_trans (h1 c hc) (by decide))
      simp only [List.map_cons, ndD, PyData.canLayAll0, PyData.canLay0, ih fun u hu => h u (List.mem_cons_of_mem _ hu), a, strOk_ltr h2, Bool.and_self]
  have d := nds_dep L
  unfold SeqAt.shaped
  simp only [ndsD, PyData.canLay0, c L h, PyData.depth, Bool.true_and, decide_eq_true_eq]
  omega
theorem nds_eqv (L : List (List Nat × Str)) : PyData.eqv (ndsD L) (ndsD L) = true := by
  have q : PyData.eqvAll (L.map ndD) (L.map ndD) = true := by
    induction L with
    | nil => simp only [List.map_nil, PyData.eqvAll]
    | cons e L ih => simp only [List.map_cons, ndD, PyData.eqvAll, PyData.eqv, ih, beq_self_eq_true, Bool.and_self]
  simp only [ndsD, PyData.eqv, q]
theorem out_dec (e : List Nat × Str) (k : List Nat) : decide (V.str (tx (e.1.take k.length)) = V.str (tx k)) = !outOf k e := by
  unfold outOf
  by_cases h : e.1.take k.length = k
  · rw [decide_eq_true (by rw [h]), decide_eq_false (fun z => z h)]; rfl
  · rw [decide_eq_false (fun z => h (tx_inj (V.str.inj z))), decide_eq_true h]; rfl
theorem filter_snoc {α : Type} (f : α → Bool) (l : List α) (x : α) : (l ++ [x]).filter f = if f x = true then l.filter f ++ [x] else l.filter f := by
  rw [List.filter_append]
  cases h : f x with
  | true => rw [List.filter_cons, if_pos h]; rfl
  | false => rw [List.filter_cons, h]; simp
/-! ### _law_part_right -/
def spPR : Sp := fun vs H Q _ => ∃ (v : V) (t l r : T) (p : List Bool) (x : Str), vs = [v, .str (px p), .str x] ∧ TreeAt H v t ∧ t.lt ∧ t.size ≤ 12 ∧ t.at p = some (.node l x r) ∧ ∀ H', Same H H' → Q (.bl true) H'
section
variable {P : Program} {w : World} {K : PySem.W.Frag} {mg : Str → Option Value} {base : Heap} {f : Addr} {fd : FuncData}
theorem ok_pr (F : Fun K "_law_part_right" "_law_part_right" s__law_part_right f fd) (M : Mgs mg) (Dpart_at : Df P w K mg base 1 "part_at" ["tree", "path"] spPart) (Dsize_of : Df P w K mg base 20 "size_of" ["tree"] (spSz 20)) (Dreplaced : Df P w K mg base 21 "replaced" ["tree", "path", "part"] spRepl)
    (D_law_same : Df P w K mg base 20 "_law_same" ["_law_found", "_law_due"] (spSame K 20)) (Djoined : DfR P w K mg base 21 "joined" spJoined) (Dtree_text : Df P w K mg base 40 "tree_text" ["tree"] (spText 20)) (Dmirrored : Df P w K mg base 20 "mirrored" ["tree"] (spMir 20))
    (D_law_other_path : Df P w K mg base 1 "_law_other_path" ["_law_path"] spOther) (Deach : DfG P w K mg base 2 "each_node" ["tree"] spEach) : FnOk P w K mg base CX0 42 f fd ["_law_tree_here", "_law_path", "_law_label"] spPR := by
  refine F.ok sc__law_part_right (fun vs H Q E h => ?_) (fun cdv A outer s H vs Q E hr h => ?_)
  · obtain ⟨v, t, l, r, p, x, rfl, _⟩ := h
    rfl
  obtain ⟨v, t, l, r, p, x, rfl, ht, tl, tz, ho, q⟩ := h
  have hz := t.at_size p ho
  have ol := t.at_lt p ho tl
  refine ⟨_, (pss_cons (ps_par (i := 3) (j := 4) (by rfl) sc__law_part_right.nd rfl rfl (by decide) rfl rfl (pa_cons (pe_call Dpart_at.ok (hr.mono (by omega)) rfl Dpart_at.g Dpart_at.kp Dpart_at.b .nil pass0 (pa_cons (pv 0) (pa_cons (pv 1) pa_nil))) (pa_cons (pe_call Dsize_of.ok (hr.mono (by omega)) rfl Dsize_of.g Dsize_of.kp Dsize_of.b .nil pass0 (pa_cons (pv 0) pa_nil)) pa_nil)) (by rfl))
    (pss_cons (ps_set (i := 5) sc__law_part_right.nd rfl (.inl rfl) (pe_call Dreplaced.ok (hr.mono (by omega)) rfl Dreplaced.g Dreplaced.kp Dreplaced.b .nil pass0 (pa_cons (pv 0) (pa_cons (pv 1) (pa_cons pe_non pa_nil)))))
    (pss_cons (ps_if (PW.pt (pw_or (pt_cmpR op_ne (pe_ix ix_tup (pv 3) pe_int (fun _ _ => rfl)) (pv 2) (nomark _)) (pw_or1 (pt_not (pt_val (pe_call D_law_same.ok (hr.mono (by omega)) rfl D_law_same.g D_law_same.kp D_law_same.b .nil pass0 (pa_cons (pe_call Dreplaced.ok (hr.mono (by omega)) rfl Dreplaced.g Dreplaced.kp Dreplaced.b .nil pass0 (pa_cons (pv 0) (pa_cons (pv 1) (pa_cons (pv 3) pa_nil)))) (pa_cons (pv 0) pa_nil))))))))
      (pss_one (ps_ret pe_bl)) pss_nil)
    (pss_cons (ps_if (PW.pt (pw_or (pt_not (pt_val (pe_call D_law_same.ok (hr.mono (by omega)) rfl D_law_same.g D_law_same.kp D_law_same.b .nil pass0 (pa_cons (pe_callP (E := E0) Djoined.ok (hr.mono (by omega)) Djoined.kp rfl Djoined.g pass0 (pa_cons (pv 2) (pa_cons (pe_ix ix_tup (pv 3) pe_int (fun _ _ => rfl)) (pa_cons (pe_ix ix_tup (pv 3) pe_int (fun _ _ => rfl)) pa_nil)))) (pa_cons (pv 3) pa_nil))))) (pw_or1 (pt_cmpR op_notIn_str (pe_call Dtree_text.ok (hr.mono (by omega)) rfl Dtree_text.g Dtree_text.kp Dtree_text.b .nil pass0 (pa_cons (pv 3) pa_nil)) (pe_call Dtree_text.ok (hr.mono (by omega)) rfl Dtree_text.g Dtree_text.kp Dtree_text.b .nil pass0 (pa_cons (pv 0) pa_nil)) (by rfl)))))
      (pss_one (ps_ret pe_bl)) pss_nil)
    (pss_cons (ps_if (pt_not (pt_val (pe_call D_law_same.ok (hr.mono (by omega)) rfl D_law_same.g D_law_same.kp D_law_same.b .nil pass0 (pa_cons (pe_call Dpart_at.ok (hr.mono (by omega)) rfl Dpart_at.g Dpart_at.kp Dpart_at.b .nil pass0 (pa_cons (pe_call Dmirrored.ok (hr.mono (by omega)) rfl Dmirrored.g Dmirrored.kp Dmirrored.b .nil pass0 (pa_cons (pv 0) pa_nil)) (pa_cons (pe_call D_law_other_path.ok (hr.mono (by omega)) rfl D_law_other_path.g D_law_other_path.kp D_law_other_path.b .nil pass0 (pa_cons (pv 1) pa_nil)) pa_nil))) (pa_cons (pe_call Dmirrored.ok (hr.mono (by omega)) rfl Dmirrored.g Dmirrored.kp Dmirrored.b .nil pass0 (pa_cons (pv 3) pa_nil)) pa_nil)))))
      (pss_one (ps_ret pe_bl)) pss_nil)
    (pss_cons (ps_if (pt_cmpR op_eq (pv 1) pe_str (nomark _))
      (pss_one (ps_ret (pe_cmpR op_isN (pv 5) pe_non (nomark _)))) pss_nil)
    (pss_cons (ps_if (PW.pt (pw_or (pt_cmpR op_ne (pe_call Dsize_of.ok (hr.mono (by omega)) rfl Dsize_of.g Dsize_of.kp Dsize_of.b .nil pass0 (pa_cons (pv 5) pa_nil)) (pe_op op_sub (pv 4) (pe_call Dsize_of.ok (hr.mono (by omega)) rfl Dsize_of.g Dsize_of.kp Dsize_of.b .nil pass0 (pa_cons (pv 3) pa_nil))) (nomark _)) (pw_or1 (pt_cmpR op_notN (pe_call Dpart_at.ok (hr.mono (by omega)) rfl Dpart_at.g Dpart_at.kp Dpart_at.b .nil pass0 (pa_cons (pv 5) (pa_cons (pv 1) pa_nil))) pe_non (nomark _)))))
      (pss_one (ps_ret pe_bl)) pss_nil)
    (pss_cons (ps_setLc3 (k := 2) (i := 7) (own0 := [("_law_node", 6)]) (g := gName 6) sc__law_part_right.nd (hr.mono (by omega)) rfl rfl (sw_true rfl rfl rfl (by decide +kernel)) (pgenC (k := 2) Deach.ok (hr.mono (by omega)) rfl Deach.g Deach.kp Deach.b .nil (pa_cons (pv 0) pa_nil)) (blkOk_by (N := ["_law_tree_here", "_law_path", "_law_label", "_law_part", "_law_size", "_law_less", "_law_node", "_law_kept"]) (sc := defScope s__law_part_right) (by decide +kernel)) ⟨fun _ _ _ _ _ => (pg_name (i := 6) sc__law_part_right.nd rfl (.inl rfl)), fun _ _ _ _ _ => pts_one (pt_cmpR op_ne (pe_slice sl_str (pe_ix (show IxR _ (rIxT K) from ix_tup) (pv 6) pe_int (fun _ _ => rfl)) po_none (po_some (pe_callB call_len_str rfl M.len PySem.boot_len (pa_cons (pv 1) pa_nil)))) (pv 1) (nomark _)), fun _ _ _ _ _ => (pv 6)⟩)
    (pss_one (ps_ret (pe_and (pe_cmpR (op_eqD hr.units) (pe_list3 (k := 2) (pgen3 (k := 2) Deach.ok (hr.mono (by omega)) rfl Deach.g Deach.kp Deach.b .nil (pa_cons (pv 5) pa_nil)) (hr.mono (by omega)) rfl M.list (by decide +kernel)) (pv 7) (nomark _)) (pe_one (pe_call D_law_same.ok (hr.mono (by omega)) rfl D_law_same.g D_law_same.kp D_law_same.b .nil pass0 (pa_cons (pe_call Dreplaced.ok (hr.mono (by omega)) rfl Dreplaced.g Dreplaced.kp Dreplaced.b .nil pass0 (pa_cons (pv 5) (pa_cons (pv 1) (pa_cons (pv 3) pa_nil)))) (pa_cons (pv 0) pa_nil))))))))))))))), ?_⟩
  refine ⟨_, rfl, _, rfl, v, t, _, p, rfl, ht, ho, by omega, fun vp H1 s1 hp1 => ?_⟩
  refine ⟨_, rfl, v, t, rfl, ht.same s1, by omega, _, _, rfl, ?_⟩
  have ht1 := ht.same s1
  have z0 := t.put_size p .nil ho
  have z00 : (T.nil).size = 0 := rfl
  have z1 : (T.node l x r).size = l.size + 1 + r.size := rfl
  refine ⟨_, rfl, _, rfl, v, .non, t, .nil, _, p, rfl, ht1, .nil, ho, tz, by omega, fun vl H2 s2 hl2 => ?_⟩
  have ht2 := ht1.same s2
  have hp2 := hp1.same s2
  obtain ⟨a, lv, rv, rfl, ea, hl, hr0⟩ : ∃ a lv rv, vp = .ref a ∧ H2 a = some (.tup [lv, .str x, rv]) ∧ TreeAt H2 lv l ∧ TreeAt H2 rv r := by
    rcases hp2.inv with ⟨_, e⟩ | ⟨a, lv, rv, x', l', r', rfl, e, ea, h1, h2⟩
    · cases e
    · cases e
      exact ⟨a, lv, rv, rfl, ea, h1, h2⟩
  refine ⟨_, rfl, a, _, 1, _, rfl, rfl, SqT.of ea, atI_nat (j := 1) rfl, _, rfl, rfl, _, rfl, ?_⟩
  rw [decide_eq_true rfl]
  refine iteF ?_
  refine ⟨_, rfl, _, rfl, _, rfl, v, .ref a, t, .node l x r, _, p, rfl, ht2, hp2, ho, tz, by rw [t.put_at p ho]; exact tz, fun v3 H3 s3 h3 => ?_⟩
  rw [t.put_at p ho] at h3
  have td := t.deep_le
  refine ⟨_, rfl, _, _, t.data, rfl, h3.dp, (ht2.same s3).dp, by rw [t.data_deep]; omega, t.nar_data, fun H4 s4 => ⟨_, rfl, iteF ?_⟩⟩
  have s24 := s3.trans s4
  have ea4 := s24 _ _ ea
  have hp4 := hp2.same s24
  have ht4 := ht2.same s24
  have hl4 := hl.same s24
  have hr4 := hr0.same s24
  have hl24 := hl2.same s24
  have s14 := s1.trans (s2.trans s24)
  refine ⟨_, rfl, _, rfl, a, _, 0, lv, rfl, rfl, SqT.of ea4, atI_nat (j := 0) rfl, _, rfl, a, _, 2, rv, rfl, rfl, SqT.of ea4, atI_nat (j := 2) rfl, ?_⟩
  refine ⟨[.str x], [lv, rv], rfl, rfl, (by show 2 ≤ sizeLine; decide), fun pt npt => ⟨x, pt, lv, rv, l, r, rfl, upd_same, hl4.same (same_new npt _), hr4.same (same_new npt _), by omega, fun vj H5 s5 hj => ?_⟩⟩
  have s45 := (same_new npt (.tup [lv, rv])).trans s5
  refine ⟨_, rfl, _, _, (T.node l x r).data, rfl, hj.dp, (hp4.same s45).dp, by have := (T.node l x r).deep_le; rw [T.data_deep]; omega, T.nar_data _, fun H6 s6 => ⟨_, rfl, iteF ?_⟩⟩
  have s46 := s45.trans s6
  have hp6 := hp4.same s46
  have ht6 := ht4.same s46
  have od := (T.node l x r).deep_le
  have on : T.node l x r ≠ .nil := fun z => nomatch z
  have tn : t ≠ .nil := fun z => by
    rw [z] at ho
    cases p with
    | nil => cases ho
    | cons _ _ => cases ho
  refine ⟨_, rfl, _, _, rfl, hp6, on, ol, by omega, by omega, _, rfl, _, _, rfl, ht6, tn, tl, by omega, by omega, _, _, rfl, rfl, ?_⟩
  obtain ⟨ca, cb, ecs⟩ := t.cs_in p ho on
  have occ : (Builtin.Str.occurrences t.text (T.node l x r).text 0 t.text.length 1).isEmpty = false := by
    show (Builtin.Str.occurrences (tx t.cs) (tx (T.node l x r).cs) 0 (tx t.cs).length 1).isEmpty = false
    rw [ecs]
    exact occ_in ca _ cb
  rw [occ]
  refine ⟨_, rfl, iteF ?_⟩
  refine ⟨_, rfl, v, t, rfl, ht6, by omega, fun H7 vm s7 hm => ?_⟩
  refine ⟨_, rfl, p, rfl, by omega, fun H8 s8 => ?_⟩
  refine ⟨vm, t.mir, (T.node l x r).mir, p.map not, rfl, hm.same s8, t.mir_at p ho, by rw [List.length_map]; omega, fun v9 H9 s9 h9 => ?_⟩
  have s69 := s7.trans (s8.trans s9)
  have hp9 := hp6.same s69
  refine ⟨_, rfl, .ref a, _, rfl, hp9, by omega, fun H10 vn s10 hn => ?_⟩
  refine ⟨_, _, (T.node l x r).mir.data, rfl, (h9.same s10).dp, hn.dp, by rw [T.data_deep, T.mir_deep]; omega, T.nar_data _, fun H11 s11 => ⟨_, rfl, iteF ?_⟩⟩
  have s4b := (s46.trans s69).trans (s10.trans s11)
  have htb := ht4.same s4b
  have hpb := hp4.same s4b
  have hlb := hl24.same s4b
  have sb := s14.trans s4b
  clear s46 s45 s69 s7 s8 s9 s10 s11 s6 s5 hj hm h9 hn hp9 hp6 ht6 hp4 ht4 hl4 hr4 hl24 s4b s14 ea4 s24 h3 s3 s4 ea hl hr0 hp2 ht2 hl2 s2 ht1 hp1 s1 ht occ ecs ca cb
  by_cases hp0 : p = []
  · subst hp0
    refine ⟨_, rfl, rfl, _, rfl, iteS px_nil ?_⟩
    rw [t.put_nil] at hlb
    have : vl = .non := by
      rcases hlb.inv with ⟨e, _⟩ | ⟨_, _, _, _, _, _, _, e, _⟩
      · exact e
      · cases e
    subst this
    exact ⟨_, rfl, rfl, q _ sb⟩
  refine ⟨_, rfl, rfl, _, rfl, iteR (fun z => hp0 (by rw [← px_nil] at z; exact px_inj z)) ?_⟩
  refine ⟨_, rfl, vl, _, rfl, hlb, by omega, _, rfl, _, rfl, .ref a, _, rfl, hpb, by omega, _, _, rfl, rfl, rfl, _, rfl, ?_⟩
  have es : V.int ((t.put p .nil).size : Int) = V.int ((t.size : Int) - ((T.node l x r).size : Int)) := congrArg V.int (by omega)
  rw [decide_eq_true es]
  refine iteF ?_
  refine ⟨_, rfl, _, rfl, vl, _, .nil, p, rfl, hlb, t.at_put p .nil ho, by omega, fun v12 H12 s12 h12 => ⟨rfl, _, rfl, ?_⟩⟩
  have : v12 = .non := by
    rcases h12.inv with ⟨e, _⟩ | ⟨_, _, _, _, _, _, _, e, _⟩
    · exact e
    · cases e
  subst this
  refine iteF ?_
  have htc := htb.same s12
  have hpc := hpb.same s12
  have hlc := hlb.same s12
  have sc := sb.trans s12
  clear htb hpb hlb sb s12 h12 es
  refine ⟨_, rfl, itN t, fnN t, ⟨v, t, rfl, htc.keep fun b xs e => shr_tup e, by omega, rfl, rfl⟩, fun D nD => ?_⟩
  have kD := same_new nD (.lst [])
  refine ⟨fun j H' => Same H12 H' ∧ ∃ us, H' D = some (.lst us) ∧ NdAt H' us (((t.nd []).take j).filter (outOf (p.map dir))), ⟨kD, [], upd_same, rfl, fun j u e h1 => by simp at h1⟩, fun j H13 hw => ⟨fun ys Hg H14 ly fy ku s14 => ?_, fun ys y Hg H14 ly jl iy ku s14 => ?_⟩⟩
  · obtain ⟨sw, us, eus, hus⟩ := hw
    have fy : ys.length = t.size := fy
    have st := sw.trans s14
    have hT := hus.keep (Tw.Same.keepT s14)
    have nde : ((t.nd []).take j).filter (outOf (p.map dir)) = (t.put p .nil).nd [] := by
      rw [List.take_of_length_le (by rw [T.nd_len]; omega), t.nd_out [] p ho]
      rfl
    rw [nde] at hT
    have el := s14 _ _ eus
    have htd := htc.same st
    have hpd := hpc.same st
    have hld := hlc.same st
    refine ⟨_, rfl, itN (t.put p .nil), fnN (t.put p .nil), ⟨vl, _, rfl, hld.keep fun b xs e => shr_tup e, by omega, rfl, rfl⟩, fun p1 H15 z1 s15 np1 lz1 g1 f1 => ?_⟩
    have nd1 := got_nd g1 f1
    have k1 := s15.trans (same_new np1 (.lst z1))
    have lo : ∀ e ∈ (t.put p .nil).nd [], NdOk e := T.nd_ok _ _ (t.put_lt p tl fun _ h => nomatch h) fun c h => nomatch h
    refine ⟨_, rfl, _, _, (nd1.keep (Tw.Same.keepT (same_new np1 _))).dp upd_same, (hT.keep (Tw.Same.keepT k1)).dp (k1 _ _ el), nds_shaped lo, nds_shaped lo, ?_⟩
    rw [nds_eqv]
    refine ⟨_, rfl, iteT ?_⟩
    have k15 := k1
    have hl15 := hld.same k15
    have hp15 := hpd.same k15
    have ht15 := htd.same k15
    have pp := t.put_put p .nil (.node l x r) ho
    rw [t.put_at p ho] at pp
    refine ⟨_, rfl, _, rfl, _, rfl, vl, .ref a, _, _, .nil, p, rfl, hl15, hp15, t.at_put p .nil ho, by omega, by rw [pp]; exact tz, fun v16 H16 s16 h16 => ?_⟩
    rw [pp] at h16
    exact ⟨_, rfl, _, _, t.data, rfl, h16.dp, (ht15.same s16).dp, by rw [T.data_deep]; omega, T.nar_data _, fun H17 s17 => q _ (sc.trans (st.trans (k15.trans (s16.trans s17))))⟩
  · obtain ⟨sw, us, eus, hus⟩ := hw
    obtain ⟨qa, e, rfl, i1, i2⟩ := iy
    rw [ly] at i1
    have eq4 := ku _ _ i2
    have e5 := s14 _ _ eus
    have h5 := hus.keep (Tw.Same.keepT s14)
    have lj : j < t.size := by
      have := (List.getElem?_eq_some_iff.mp i1).1
      rw [T.nd_len] at this
      exact this
    have le := t.nd_path [] e (List.mem_of_getElem? i1)
    have le : e.1.length ≤ 0 + t.size := le
    have uz : us.length ≤ j := by
      rw [hus.1]
      refine Nat.le_trans (List.length_filter_le _ _) ?_
      rw [List.length_take]
      omega
    refine ⟨rfl, ?_⟩
    refine ⟨_, rfl, qa, _, 0, _, rfl, rfl, SqT.of eq4, atI_nat (j := 0) rfl, _, rfl, _, rfl, small (by rw [px_len]; omega), _, rfl, tx e.1, rfl, small (by show e.1.length ≤ 1000; omega), _, rfl, rfl, _, rfl, ?_⟩
    rw [show (((px p).length : Nat) : Int) = (((p.map dir).length : Nat) : Int) from rfl, tx_to]
    have od := out_dec e (p.map dir)
    have od : decide (V.str (tx (e.1.take (p.map dir).length)) = V.str (px p)) = !outOf (p.map dir) e := od
    rw [od, Bool.not_not]
    have sn := filter_snoc (outOf (p.map dir)) ((t.nd []).take j) e
    have tk : (t.nd []).take (j + 1) = (t.nd []).take j ++ [e] := by rw [List.take_add_one, i1]; rfl
    cases ho1 : outOf (p.map dir) e with
    | true =>
      rw [ho1, if_pos rfl] at sn
      refine iteT ⟨_, rfl, us, e5, small1000 (by omega), ?_⟩
      have kt : KeepT H14 (upd H14 D (.lst (us ++ [.ref qa]))) := fun b zs z => by rw [upd_ne (ne_of z e5 (by intro z; cases z))]; exact z
      refine ⟨kt, fun b o z => by rw [upd_ne (ne_of_none z nD)]; exact s14 _ _ (sw _ _ z), us ++ [.ref qa], upd_same, ?_⟩
      rw [tk, sn]
      exact (h5.keep kt).snoc (kt _ _ eq4)
    | false =>
      rw [ho1, if_neg Bool.false_ne_true] at sn
      refine iteF ⟨fun _ _ z => z, fun b o z => s14 _ _ (sw _ _ z), us, e5, ?_⟩
      rw [tk, sn]
      exact h5
end
/-! ### _law_open_right -/
theorem room65 {k : Nat} {A : Around} (r : Room k A) : A.units + 65 < cLine := by have := r.un; omega
structure ErrT (K : PySem.W.Frag) (mg : Str → Option Value) (C : Addr) : Prop where
  g : mg "TooLarge" = some (.ref C)
  e : PySem.W.exmOne K (.ref C) (.ref C) = some true
def spOR : Sp := fun vs H Q _ => ∃ (v : V) (t : T) (p : List Bool), vs = [v, .str (px p)] ∧ TreeAt H v t ∧ t.lt ∧ t.size ≤ 12 ∧ p.length ≤ 20 ∧ t.at p = some .nil ∧ ∀ H', Same H H' → Q (.bl true) H'
abbrev leafN : T := .node .nil (Str.ofString "n") .nil
theorem ltr_n : Ltr (Str.ofString "n") := ⟨110, by decide, by decide, by decide +kernel⟩
theorem px_dec (e : List Nat × Str) (p : List Bool) : decide (V.str (tx e.1) = V.str (px p)) = !decide (e.1 ≠ p.map dir) := by
  by_cases h : e.1 = p.map dir
  · have e1 : V.str (tx e.1) = V.str (px p) := by rw [h]; rfl
    rw [decide_eq_true e1, decide_eq_false (fun z => z h)]; rfl
  · have e1 : ¬ V.str (tx e.1) = V.str (px p) := fun z => h (tx_inj (V.str.inj z))
    rw [decide_eq_false e1, decide_eq_true h]; rfl
section
variable {P : Program} {w : World} {K : PySem.W.Frag} {mg : Str → Option Value} {base : Heap} {f : Addr} {fd : FuncData} {C fI : Addr} {qn : Str}
theorem ok_or (F : Fun K "_law_open_right" "_law_open_right" s__law_open_right f fd) (M : Mgs mg) (hE : Err_limit K mg "ValueError.__new__" veT "TooLarge" qn C fI) (ET : ErrT K mg C) (Dpart_at : Df P w K mg base 1 "part_at" ["tree", "path"] spPart) (Dsize_of : Df P w K mg base 20 "size_of" ["tree"] (spSz 20))
    (DsizeM : DfM P w K mg base 20 "size_of" ["tree"] (spSz 20)) (DreplacedX : DfX P w K mg base 21 "replaced" ["tree", "path", "part"] (spReplX C)) (Deach : DfG P w K mg base 2 "each_node" ["tree"] spEach) : FnOk P w K mg base CX0 23 f fd ["_law_tree_here", "_law_path"] spOR := by
  have hT := ET.g
  refine F.ok sc__law_open_right (fun vs H Q E h => ?_) (fun cdv A outer s H vs Q E hr h => ?_)
  · obtain ⟨v, t, p, rfl, _⟩ := h
    rfl
  obtain ⟨v, t, p, rfl, ht, tl, tz, lp, ho, q⟩ := h
  have zp := t.put_size p leafN ho
  have z1 : (T.nil).size = 0 := rfl
  have z2 : leafN.size = 1 := rfl
  refine ⟨_, (pss_cons (ps_if (pt_cmpR op_notN (pe_call Dpart_at.ok (hr.mono (by omega)) rfl Dpart_at.g Dpart_at.kp Dpart_at.b .nil pass0 (pa_cons (pv 0) (pa_cons (pv 1) pa_nil))) pe_non (nomark _))
      (pss_one (ps_ret pe_bl)) pss_nil)
    (pss_cons (ps_tryA (i := 3) (n := "error") (Wout := fun _ _ _ _ => False) rfl rfl sc__law_open_right.nd rfl rfl takes_none5
      (fun W pn xe tk _ => pss_one (ps_set (i := 2) sc__law_open_right.nd rfl (.inl rfl) (pe_callS DreplacedX.ok (hr.mono (by omega)) rfl DreplacedX.g DreplacedX.kp DreplacedX.b (fun σ => passAt tk σ) (pa_cons (pv 0) (pa_cons (pv 1) (pa_cons (pe_tup (pa_cons pe_non (pa_cons pe_str (pa_cons pe_non pa_nil)))) pa_nil))))))
      (.cons ⟨rfl, by decide, .inl hT⟩ (fun a oe cls d pn hz hf => (pss_one (ps_ret (pe_and (pe_cmpR op_eq (pe_callM DsizeM.ok (roomM_mark (hr.mono (show 20 ≤ 22 by decide))) rfl DsizeM.g DsizeM.kp DsizeM.b (pa_cons (pv 0) pa_nil)) pe_int (nomark _)) (pe_one (pe_cmpR op_eq (pe_fld_limit hE hz hf (pv 3)) pe_int (nomark _))))))) .nil))
    (pss_cons (ps_set (i := 4) sc__law_open_right.nd rfl (.inl rfl) (pe_list3 (k := 2) (pgen3 (k := 2) Deach.ok (hr.mono (by omega)) rfl Deach.g Deach.kp Deach.b .nil (pa_cons (pv 2) pa_nil)) (hr.mono (by omega)) rfl M.list (by decide +kernel)))
    (pss_cons (ps_if (PW.pt (pw_or (pt_cmpR op_eq (pe_call Dsize_of.ok (hr.mono (by omega)) rfl Dsize_of.g Dsize_of.kp Dsize_of.b .nil pass0 (pa_cons (pv 0) pa_nil)) pe_int (nomark _)) (pw_or (pt_cmpR (op_notInD (room65 hr)) (pe_tup (pa_cons (pv 1) (pa_cons pe_str pa_nil))) (pv 4) (by rfl)) (pw_or1 (pt_cmpR op_ne (pe_callB call_len_seq rfl M.len PySem.boot_len (pa_cons (pv 4) pa_nil)) (pe_op op_add (pe_call Dsize_of.ok (hr.mono (by omega)) rfl Dsize_of.g Dsize_of.kp Dsize_of.b .nil pass0 (pa_cons (pv 0) pa_nil)) pe_int) (nomark _))))))
      (pss_one (ps_ret pe_bl)) pss_nil)
    (pss_one (ps_ret (pe_cmpR (op_eqD hr.units) (pe_lc (own := [("_law_node", 5)]) (g := gName 5) rfl sc__law_open_right.nd (pi_list (pv 4)) (blkOk_by (N := ["_law_tree_here", "_law_path", "_law_more", "error", "_law_nodes", "_law_node"]) (sc := defScope s__law_open_right) (by decide +kernel)) (fun _ _ _ _ _ => (pg_name (i := 5) sc__law_open_right.nd rfl (.inl rfl))) (fun _ _ _ _ _ => pts_one (pt_cmpR op_ne (pe_ix (show IxR _ (rIxT K) from ix_tup) (pv 5) pe_int (fun _ _ => rfl)) (pv 1) (nomark _))) (fun _ _ _ _ _ => (pv 5))) (pe_list3 (k := 2) (pgen3 (k := 2) Deach.ok (hr.mono (by omega)) rfl Deach.g Deach.kp Deach.b .nil (pa_cons (pv 0) pa_nil)) (hr.mono (by omega)) rfl M.list (by decide +kernel)) (nomark _)))))))), ?_⟩
  refine ⟨_, rfl, _, rfl, v, t, .nil, p, rfl, ht, ho, by omega, fun v1 H1 s1 h1 => ⟨rfl, _, rfl, ?_⟩⟩
  have : v1 = .non := by
    rcases h1.inv with ⟨e, _⟩ | ⟨_, _, _, _, _, _, _, e, _⟩
    · exact e
    · cases e
  subst this
  refine iteF ?_
  have ht1 := ht.same s1
  refine ⟨_, rfl, _, rfl, (by show 3 ≤ sizeLine; decide), fun a na => ?_⟩
  have k2 := same_new na (.tup [.non, .str "n", .non])
  have hn : TreeAt (upd H1 a (.tup [.non, .str "n", .non])) (.ref a) leafN := .node upd_same .nil .nil
  have s2 := s1.trans k2
  refine ⟨v, .ref a, t, leafN, .nil, p, rfl, ht1.same k2, hn, ho, tz, by omega, fun h12 H3 b s3 nb => ?_, fun h12 v3 H3 s3 h3 => ?_⟩
  · refine ⟨true, ET.e, fun _ a0 na0 => ?_, fun z => nomatch z⟩
    have s4 := same_new nb (.xd [(("limit" : Str), .int 12)])
    have e4 := upd_same (H := H3) (a := b) (o := .xd [(("limit" : Str), .int 12)])
    have ht4 := (((ht1.same k2).same s3).same s4)
    have s14 := s2.trans (s3.trans s4)
    generalize upd H3 b (.xd [(("limit" : Str), .int 12)]) = H4 at s4 e4 ht4 s14 na0 ⊢
    have z12 : t.size = 12 := by omega
    refine ⟨_, rfl, v, t, rfl, ht4, by omega, rfl, _, rfl, ?_⟩
    rw [decide_eq_true (show V.int ((t.size : Nat) : Int) = V.int 12 from congrArg V.int (by omega))]
    refine iteT ⟨_, rfl, rfl, rfl, b, _, rfl, e4, rfl, ?_⟩
    rw [decide_eq_true rfl]
    exact q _ s14
  · have s23 := s2.trans s3
    have ht3 := (ht1.same k2).same s3
    have up : (t.put p leafN).lt := t.put_lt p tl (lt_mk (fun _ h => nomatch h) ltr_n (fun _ h => nomatch h))
    have uok : ∀ e ∈ (t.put p leafN).nd [], NdOk e := T.nd_ok _ _ up fun c h => nomatch h
    have tok : ∀ e ∈ t.nd [], NdOk e := T.nd_ok _ _ tl fun c h => nomatch h
    refine ⟨_, rfl, itN (t.put p leafN), fnN (t.put p leafN), ⟨v3, _, rfl, h3.keep fun b xs e => shr_tup e, by omega, rfl, rfl⟩, fun p1 H4 u1 s4 np1 lz1 g1 f1 => ?_⟩
    have nd1 := got_nd g1 f1
    have k4 := same_new np1 (.lst u1)
    have nd1 := nd1.keep (Tw.Same.keepT k4)
    have e1 := upd_same (H := H4) (a := p1) (o := .lst u1)
    have s34 := s4.trans k4
    generalize upd H4 p1 (.lst u1) = H5 at k4 nd1 e1 s34 ⊢
    have ht5 := ht3.same s34
    have s05 := s23.trans s34
    have lu : u1.length = t.size + 1 := by rw [nd1.1, T.nd_len]; omega
    refine ⟨_, rfl, v, t, rfl, ht5, by omega, rfl, _, rfl, ?_⟩
    rw [decide_eq_false (show ¬ V.int ((t.size : Nat) : Int) = V.int 12 from fun z => by have := V.int.inj z; omega)]
    refine iteF ⟨_, rfl, (by show 2 ≤ sizeLine; decide), fun tp ntp => ?_⟩
    have k6 := same_new ntp (.tup [.str (px p), .str "n"])
    have hin : (p.map dir, (Str.ofString "n")) ∈ (t.put p leafN).nd [] := T.nd_at _ [] p (t.at_put p leafN ho)
    have any : (((t.put p leafN).nd []).map ndD).any (fun z => PyData.eqv z (ndD (p.map dir, Str.ofString "n"))) = true := by
      rw [List.any_map, List.any_eq_true]
      refine ⟨_, hin, ?_⟩
      show PyData.eqv (ndD _) (ndD _) = true
      simp only [ndD, PyData.eqv, PyData.eqvAll, beq_self_eq_true, Bool.and_self]
    have nok : SeqAt.shaped (ndD (p.map dir, Str.ofString "n")) = true := by
      have h := nds_shaped (L := [(p.map dir, Str.ofString "n")]) fun e he => by rw [List.mem_singleton.mp he]; exact uok _ hin
      unfold SeqAt.shaped at h ⊢
      simp only [ndsD, List.map_cons, List.map_nil, PyData.canLay0, PyData.canLayAll0, PyData.depth, PyData.depthAll, Bool.and_true, Bool.and_eq_true, decide_eq_true_eq] at h ⊢
      refine ⟨h.1, by omega⟩
    refine ⟨_, rfl, ndD (p.map dir, Str.ofString "n"), ((t.put p leafN).nd []).map ndD, .tup (SqT.of upd_same) (.cons (.str _) (.cons (.str _) .nil)), (nd1.keep (Tw.Same.keepT k6)).dp (k6 _ _ e1), nok, nds_shaped uok, _, rfl, ?_⟩
    rw [any]
    have ht6 := ht5.same k6
    have nd6 := nd1.keep (Tw.Same.keepT k6)
    have e6 := k6 _ _ e1
    have s06 := s05.trans k6
    generalize upd H5 tp (.tup [.str (px p), .str "n"]) = H6 at ht6 nd6 e6 s06 ⊢
    refine iteF ⟨_, rfl, p1, _, rfl, .inl (SqL.of e6), _, rfl, v, t, rfl, ht6, by omega, _, _, rfl, rfl, rfl, _, rfl, ?_⟩
    rw [decide_eq_true (show V.int ((u1.length : Nat) : Int) = V.int (((t.size : Nat) : Int) + 1) from congrArg V.int (by omega))]
    refine iteF ?_
    refine ⟨_, rfl, p1, rfl, ⟨_, SqL.of e6⟩, fun D nD => ?_⟩
    have kD := same_new nD (.lst [])
    refine lc_list (K := K) (a := p1) (xs := u1) (fun j H' => Same H6 H' ∧ ∃ us, H' D = some (.lst us) ∧ us.length ≤ j ∧ NdAt H' us ((((t.put p leafN).nd []).take j).filter (fun e => decide (e.1 ≠ p.map dir)))) ⟨kD, [], upd_same, Nat.zero_le _, rfl, fun j u e h1 => by simp at h1⟩ (fun j H' _ hp => SqL.of (hp.1 _ _ e6)) (fun j x H' hx hp => ?_) (fun H' hp => ?_)
    · obtain ⟨sw, us, eus, lus, hus⟩ := hp
      have hj : j < u1.length := (List.getElem?_eq_some_iff.mp hx).1
      have hj2 : j < ((t.put p leafN).nd []).length := by rw [← nd6.1]; exact hj
      have i1 : ((t.put p leafN).nd [])[j]? = some (((t.put p leafN).nd [])[j]) := List.getElem?_eq_getElem hj2
      generalize ((t.put p leafN).nd [])[j] = e at i1
      obtain ⟨qa, rfl, eqa⟩ := nd6.2 j x e hx i1
      have eqa := sw _ _ eqa
      refine ⟨rfl, ?_⟩
      refine ⟨_, rfl, qa, _, 0, _, rfl, rfl, SqT.of eqa, atI_nat (j := 0) rfl, _, rfl, rfl, _, rfl, ?_⟩
      rw [px_dec e p, Bool.not_not]
      have sn := filter_snoc (fun e : List Nat × Str => decide (e.1 ≠ p.map dir)) (((t.put p leafN).nd []).take j) e
      have tk : ((t.put p leafN).nd []).take (j + 1) = ((t.put p leafN).nd []).take j ++ [e] := by rw [List.take_add_one, i1]; rfl
      cases ho1 : decide (e.1 ≠ p.map dir) with
      | true =>
        rw [ho1, if_pos rfl] at sn
        refine iteT ⟨_, rfl, us, eus, small1000 (by omega), ?_⟩
        have kt : KeepT H' (upd H' D (.lst (us ++ [.ref qa]))) := fun b zs z => by rw [upd_ne (ne_of z eus (by intro z; cases z))]; exact z
        refine ⟨fun b o z => by rw [upd_ne (ne_of_none z nD)]; exact sw _ _ z, us ++ [.ref qa], upd_same, by rw [List.length_append]; show us.length + 1 ≤ j + 1; omega, ?_⟩
        rw [tk, sn]
        exact (hus.keep kt).snoc (kt _ _ eqa)
      | false =>
        rw [ho1, if_neg Bool.false_ne_true] at sn
        refine iteF ⟨sw, us, eus, by omega, ?_⟩
        rw [tk, sn]
        exact hus
    · obtain ⟨sw, us, eus, _, hus⟩ := hp
      rw [List.take_of_length_le (by rw [nd6.1]; exact Nat.le_refl _)] at hus
      have ad := t.nd_add [] p (Str.ofString "n") ho
      have ad : ((t.put p leafN).nd []).filter (fun e => decide (e.1 ≠ p.map dir)) = t.nd [] := ad
      rw [ad] at hus
      have ht7 := ht6.same sw
      refine ⟨_, rfl, itN t, fnN t, ⟨v, t, rfl, ht7.keep fun b xs e => shr_tup e, by omega, rfl, rfl⟩, fun p2 H8 u2 s8 np2 lz2 g2 f2 => ?_⟩
      have nd2 := got_nd g2 f2
      have k8 := same_new np2 (.lst u2)
      refine ⟨_, _, (hus.keep (Tw.Same.keepT (s8.trans k8))).dp ((s8.trans k8) _ _ eus), (nd2.keep (Tw.Same.keepT k8)).dp upd_same, nds_shaped tok, nds_shaped tok, ?_⟩
      rw [nds_eqv]
      exact q _ (s06.trans (sw.trans (s8.trans k8)))
end
/-! ### set of a list of texts, its length -/
section
open PySem.Froz
/-- the set of texts at a: its members are l; its table rises and can be walked -/
def SetX (P : Program) (w : World) (h : Heap) (a : Addr) (l : List Str) : Prop :=
  ∃ D : SD, h.get? a = some (sObj "set" D) ∧ TxOk P w D l ∧ Ris D.2.2.place.toList ∧ (w.params.followText "set-order" = true ∨ D.2.2.led = true)
theorem SetX.at {P : Program} {w : World} {h h' : Heap} {a : Addr} {l : List Str} (R : SetX P w h a l) (k : ∀ o, h.get? a = some o → h'.get? a = some o) : SetX P w h' a l := by
  obtain ⟨D, ho, r⟩ := R
  exact ⟨D, k _ ho, r⟩
theorem add_tab {w : World} {h : Int} {v : Value} {D : SD} (r : Ris D.2.2.place.toList) (l : w.params.followText "set-order" = true ∨ D.2.2.led = true) :
    Ris (addTx h v D).2.2.place.toList ∧ (w.params.followText "set-order" = true ∨ (addTx h v D).2.2.led = true) := by
  obtain ⟨es, ep, t⟩ := D
  have r1 := layNew_ris t es h v r
  have l1 := layNew_led t es h v
  unfold addTx
  dsimp only at l ⊢
  generalize layNew t es h v = L at r1 l1 ⊢
  obtain ⟨es1, t1, wd, gv⟩ := L
  dsimp only at r1 l1 ⊢
  generalize ht2 : (if t1.plain = true then ({ t1 with plain := false } : SetTable) else t1) = t2
  have r2 : Ris t2.place.toList ∧ t2.led = t1.led := by
    rw [← ht2]
    split
    · exact ⟨r1, rfl⟩
    · exact ⟨r1, rfl⟩
  unfold tailTx
  split
  · exact ⟨relayAll_ris t2 es1 _, l.imp id fun z => by show (relayAll t2 es1 _).2.1.led = true; rw [relayAll_led, r2.2, l1]; exact z⟩
  · exact ⟨r2.1, l.imp id fun z => by show t2.led = true; rw [r2.2, l1]; exact z⟩
section
variable {P : Program} {w : World} {A : Around} {E : Value → Shared → Prop} {s : Shared}
theorem setX_add {a : Addr} {l : List Str} {k : Str} {u : Tok} {Q : Bool → Shared → Prop} (R : SetX P w s.heap a l) (hb : l.length + 1 < scanBound)
    (h : ∀ (h' : Heap) (b : Bool), Heap.SameBut a s.heap h' → SetX P w h' a (if k ∈ l then l else k :: l) → Q b { s with heap := h' }) : wpAny (model P w) A (setAddHashed a (.str k u) (hashStr w k)) Q E s := by
  obtain ⟨D, ho, F, ris, led⟩ := R
  by_cases hk : k ∈ l
  · rw [if_pos hk] at h
    have h1 : ∀ b, Q b s := fun b => h s.heap b (Heap.SameBut.refl a s.heap) ⟨D, ho, F, ris, led⟩
    obtain ⟨es, ep, t⟩ := D
    have hd : (sObj "set" (es, ep, t)).data = .set es ep t := rfl
    have hf : t.fits es.size = true := F.fit
    have hel : ElemsOf (PySem.strKind P w) es.toList := F.el
    have hsz : es.size = l.length := F.sz
    obtain ⟨e, he, ke⟩ := (F.mem k).mp hk
    unfold setAddHashed setAddHashedIn
    refine wpAny_holding (wpAny_bind (wpAny_setState_of ho hd hf ?_))
    dsimp only
    rw [byScan_of (x := Value.str k u) rfl (by omega) hel]
    simp only [↓reduceIte]
    unfold setAddByScan
    refine wpAny_bind ?_
    refine wpAny_bind (wpAny_rule ?_)
    refine wpAny_bind (wpAny_setScan_of (knd := PySem.strKind P w) (k := k) (is_str k u) ho hd hf hel ?_)
    cases hfi : List.findIdx? (fun e => (PySem.strKind P w).is k e.2) es.toList with
    | none =>
      have c := List.findIdx?_eq_none_iff.mp hfi e he
      rw [ke] at c
      cases c
    | some j =>
      dsimp only
      exact wpAny_pure (wpAny_pure (h1 _))
  · rw [if_neg hk] at h
    obtain ⟨t1, t2⟩ := add_tab (w := w) (h := hashStr w k) (v := .str k u) ris led
    exact add_x ho F hk hb (h _ true (Heap.SameBut.update s.heap a _) ⟨_, get_upd _ ho rfl, add_ok u F, t1, t2⟩)
theorem setX_loop {I : Addr} {fp wr : List Addr} {G : Array GenState → Array GenState → Prop} {n : Nat} {Pv : Nat → Value → Prop} {St : Nat → Shared → Prop} {R : Result → Shared → Prop}
    (W : WalksS P w A.in1 I fp wr G n Pv St) (S : Addr) (hSf : S ∉ fp) (cs : List Str) (hn : n = cs.length) (hb : cs.length + 1 < scanBound) (hval : ∀ i v, Pv i v → ∃ c t, cs[i]? = some c ∧ v = .str c t) :
    ∀ (k i : Nat) (s : Shared), n - i = k → i ≤ n → St i s → (∃ l, SetX P w s.heap S l ∧ l.length ≤ i ∧ l.Nodup ∧ ∀ x, x ∈ l ↔ x ∈ cs.take i) →
      (∀ s' l, Moved (S :: wr) G s s' → SetX P w s'.heap S l → l.length ≤ n → l.Nodup → (∀ x, x ∈ l ↔ x ∈ cs) → R (.ok (.ret .none)) s') →
      codeAny (model P w) A (.builtin "set.update.loop" ⟨[.ref S, .ref I], []⟩) R s := by
  have hSw : S ∉ wr := fun h => hSf (W.sub _ h)
  have up : ∀ b ∈ wr, b ∈ S :: wr := fun b hb => List.mem_cons_of_mem _ hb
  intro k
  induction k with
  | zero =>
    intro i s hk' hi hst ⟨l, hS, hl, nd, mem⟩ hR
    have hin : i = n := by omega
    subst hin
    refine codeAny_builtin PyProof.Rows.F.entry_set_update_loop ?_
    rw [Around.under_plainId PyProof.Rows.F.plain_set_update_loop _]
    show wpAny _ A.in1 (pyNext (.ref I) >>= _) _ _ s
    refine wpAny_bind (W.done s _ _ hst fun s' hm => ?_)
    show wpAny _ A.in1 (ret Value.none) _ _ s'
    rw [List.take_of_length_le (by omega)] at mem
    exact wpAny_pure (hR s' l (hm.mono up) (hS.at fun o e => hm.heap S o hSw e) hl nd mem)
  | succ k ih =>
    intro i s hk' hi hst ⟨l, hS, hl, nd, mem⟩ hR
    have hlt : i < n := by omega
    refine codeAny_builtin PyProof.Rows.F.entry_set_update_loop ?_
    rw [Around.under_plainId PyProof.Rows.F.plain_set_update_loop _]
    show wpAny _ A.in1 (pyNext (.ref I) >>= _) _ _ s
    refine wpAny_bind (W.item i s _ _ hlt hst fun v s' hP hst' hm => ?_)
    obtain ⟨c, t, hc, rfl⟩ := hval i v hP
    have hS' : SetX P w s'.heap S l := hS.at fun o e => hm.heap S o hSw e
    show wpAny _ A.in1 (holding [Value.str c t] (setAdd S (.str c t)) >>= _) _ _ s'
    refine wpAny_bind (wpAny_holding ?_)
    unfold setAdd
    refine wpAny_holding ?_
    refine wpAny_bind ((PySem.strKind P w).pyHash (k := c) (is_str _ _) ?_)
    refine setX_add (s := { s' with toks := s'.toks + 1 }) hS' (by omega) fun h' b hsb hS2 => ?_
    have tk : cs.take (i + 1) = cs.take i ++ [c] := by
      rw [List.take_succ, hc]
      rfl
    refine wpAny_pure ⟨plainId_quiet PyProof.Rows.F.plain_set_update_loop _, ih (i + 1) _ (by omega) hlt (W.frame _ s' _ _ hst' (Nat.le_succ _) fun b hb o e => ?_) ⟨_, hS2, ?_, ?_, ?_⟩ fun s'' l2 hm'' hS'' hl'' nd'' mem'' => ?_⟩
    · rw [hsb.2 b (fun h : b = S => hSf (by rw [← h]; exact hb))]; exact e
    · split
      · omega
      · rw [List.length_cons]; omega
    · split
      · exact nd
      · exact List.nodup_cons.mpr ⟨by assumption, nd⟩
    · intro x
      rw [tk, List.mem_append, List.mem_singleton, ← mem x]
      split
      · rename_i hm
        constructor
        · exact .inl
        · rintro (h | rfl)
          · exact h
          · exact hm
      · rw [List.mem_cons]
        exact Or.comm
    · refine hR s'' l2 (Moved.trans W.gtrans ((hm.mono up).then_heap (Nat.le_succ _) fun b o hb e => ?_) hm'') hS'' hl'' nd'' mem''
      rw [hsb.2 b (fun h : b = S => hb (by rw [h]; exact List.mem_cons_self))]; exact e
end
end
section
open PySem.Froz
abbrev freshS (w : World) : Obj := { cls := .type "set", dict := none, data := .set #[] 0 (.fresh 0 0 (!w.params.followText "set-order")) }
theorem setX_fresh {P : Program} {w : World} {h : Heap} {a : Addr} (ho : h.get? a = some (freshS w)) : SetX P w h a [] := by
  refine ⟨(#[], 0, .fresh 0 0 (!w.params.followText "set-order")), ho, .nil (by rfl), List.Pairwise.nil, ?_⟩
  show _ ∨ (!w.params.followText "set-order") = true
  cases w.params.followText "set-order"
  · exact .inr rfl
  · exact .inl rfl
section
variable {P : Program} {w : World} {A : Around} {E : Value → Shared → Prop} {s : Shared}
set_option maxHeartbeats 4000000 in
theorem call_setL {l : Addr} {items : Array Value} {xs : List Str} {Q : Value → Shared → Prop} (hh : A.handled = none) (hl : s.heap.IsList l items) (hi : PyProof.Rows.StrsAre items.toList xs) (hb : xs.length + 1 < scanBound)
    (h : ∀ (h' : Heap) (tk : Nat) (m : List Str), SetX P w h' s.heap.objs.size m → m.length ≤ xs.length → m.Nodup → (∀ y, y ∈ m ↔ y ∈ xs) → (∀ b o, s.heap.get? b = some o → h'.get? b = some o) → Q (.ref s.heap.objs.size) { s with heap := h', toks := tk }) :
    wpAny (model P w) A (call (.type "set") [.ref l]) Q E s := by
  obtain ⟨c, tl, hmro⟩ := F.called_set.mro
  have made1 := F.called_set.made
  have sub1 := F.called_set.sub
  refine wpAny_call (codeAny_of_tree ?_)
  show wpAny _ _ (callAny (.type "set") _) _ _ _
  refine wpAny_pure ⟨Code.quiet_builtin _ (by decide +kernel), codeAny_builtin F.entry_type_call ?_⟩
  rw [Around.under_plain (weight_type_call_type "set" [.ref l] []) rfl]
  have not1 := F.called_set.notType
  have can1 := F.called_set.canCreate
  have tc1 := F.typeCall_set_1 (.ref l)
  repeat (any_goals (first | assumption | wp_step))
  refine codeAny_mono (code_set_led1 (.ref l) (E := E) (Q₁ := fun obj s₁ => obj = .ref s.heap.objs.size ∧ s₁ = { s with heap := s.heap.push (freshS w) }) ⟨rfl, rfl⟩) fun r s₁ hr => ?_
  match r, hr with
  | .error e, hr => exact hr
  | .ok .next, hr => exact hr.elim
  | .ok .brk, hr => exact hr.elim
  | .ok .cont, hr => exact hr.elim
  | .ok (.ret obj), hr =>
    obtain ⟨rfl, rfl⟩ := hr
    have hS : (s.heap.push (freshS w)).get? s.heap.objs.size = some (freshS w) := Heap.get?_push_size _ rfl
    have hT : Shared.TypeIs { s with heap := s.heap.push (freshS w) } (.ref s.heap.objs.size) "set" := ⟨_, hS, rfl⟩
    have init1 := F.called_set.init.lookup
    have init2 := F.called_set.init.bind (.ref s.heap.objs.size)
    repeat (any_goals (first | assumption | wp_step))
    refine codeAny_mono (codeAny_call_builtin (R := wants (fun r s₂ => r = .none ∧ ∃ h' tk m, s₂ = { s with heap := h', toks := tk } ∧ SetX P w h' s.heap.objs.size m ∧ m.length ≤ xs.length ∧ m.Nodup ∧ (∀ y, y ∈ m ↔ y ∈ xs) ∧
        (∀ b o, s.heap.get? b = some o → h'.get? b = some o)) E) F.called_set.init.plain F.entry_set_init (check_set_init_1 hT ?_)) fun r₂ s₂ hr₂ => ?_
    · obtain ⟨ol, hol, hcl, nl, hdl⟩ := hl
      obtain ⟨ocls, odict, odata, oslots⟩ := ol
      simp only at hcl hdl
      subst hcl; subst hdl
      have hol' : (s.heap.push (freshS w)).get? l = some { cls := .type "list", dict := odict, data := .seq items nl, slots := oslots } := Heap.get?_push_of_some _ hol
      have subS := PySem.F.sub_list_set
      have subF := PySem.F.sub_list_frozenset
      have nd1 : (Value.type "list" == Value.type "dict") = false := by decide
      have isL : (s.heap.push (freshS w)).IsList l items := ⟨_, hol', rfl, nl, rfl⟩
      unfold Builtin.«set.__init__» noKeywords Builtin.Frozenset.updateFrom
      generalize hPI : pyIter = PI
      wp_walk
      subst hPI
      refine wpAny_pyIter_list isL ?_
      refine wpAny_bind (wpAny_runValue ?_)
      have ltS : l < s.heap.objs.size := Heap.lt_size hol
      have hh3 : A.in1.in1.in1.handled = none := by simp [hh]
      have neI : l ≠ (s.heap.push (freshS w)).objs.size := by
        rw [Heap.size_push]; exact Nat.ne_of_lt (Nat.lt_succ_of_lt ltS)
      have noS : s.heap.objs.size ∉ [(s.heap.push (freshS w)).objs.size, l] := by
        rw [Heap.size_push]; simp only [List.mem_cons, List.not_mem_nil, or_false, not_or]
        exact ⟨Nat.ne_of_lt (Nat.lt_succ_self _), Nat.ne_of_gt ltS⟩
      have sz : xs.length = items.size := by rw [← StrsAre.len_eq hi, Array.length_toList]
      have val : ∀ (i : Nat) (v : Value), items[i]? = some v → ∃ c t, xs[i]? = some c ∧ v = .str c t := fun i v hv => by
        have lt : i < xs.length := by rw [sz]; exact (Array.getElem?_eq_some_iff.mp hv).1
        obtain ⟨t, e⟩ := SS.strs_at hi i v (by rw [Array.getElem?_toList]; exact hv)
        exact ⟨_, t, List.getElem?_eq_getElem lt, by rw [e, List.getD_eq_getElem?_getD, List.getElem?_eq_getElem lt]; rfl⟩
      refine setX_loop ((Walks.list hh3 _ l neI items).toS) s.heap.objs.size noS xs sz.symm hb val (items.size - 0) 0 _ (by omega) (Nat.zero_le _) ⟨⟨_, Heap.get?_push_size _ rfl, rfl, rfl⟩, (isL.push _)⟩
        ⟨[], setX_fresh (Heap.get?_push_of_some _ hS), Nat.le_refl 0, List.nodup_nil, fun y => by simp⟩ fun s' m hm hS' hl nd mem => ?_
      obtain ⟨h', g2, d', tk', os'⟩ := s'
      have eg : g2 = s.gens := hm.gens
      have ed : d' = s.drawn := hm.drawn
      have eo : os' = s.os := hm.os
      subst eg; subst ed; subst eo
      show wpAny _ _ _ _ _ _
      refine wpAny_pure ?_
      show wpAny _ _ (ret Value.none) _ _ _
      refine wpAny_pure ⟨rfl, h', tk', m, rfl, hS', by rw [sz]; exact hl, nd, mem, fun b o e => ?_⟩
      have lt0 : b < s.heap.objs.size := Heap.lt_size e
      have ne1 : b ≠ s.heap.objs.size := Nat.ne_of_lt lt0
      have ne2 : b ≠ (s.heap.push (freshS w)).objs.size := by
        rw [Heap.size_push]; exact Nat.ne_of_lt (Nat.lt_succ_of_lt lt0)
      exact hm.heap b o (by simp only [List.mem_cons, List.not_mem_nil, or_false, not_or]; exact ⟨ne1, ne2⟩) (Heap.get?_push_of_some _ (Heap.get?_push_of_some _ e))
    · match r₂, hr₂ with
      | .error e, hr₂ => exact hr₂
      | .ok .next, hr₂ => exact hr₂.elim
      | .ok .brk, hr₂ => exact hr₂.elim
      | .ok .cont, hr₂ => exact hr₂.elim
      | .ok (.ret r), hr₂ =>
        obtain ⟨rfl, h', tk, m, rfl, hS', hl, nd, mem, hk'⟩ := hr₂
        repeat (any_goals (first | assumption | wp_step))
        exact h _ _ _ hS' hl nd mem hk'
end
end
def SetXO (P : Program) (w : World) (a : Addr) (l : List Str) : HO := .ext fun h => SetX P w h a l
section
variable {X : Cx}
theorem setXO_new {w : World} {P : Program} {H : Hp} {h : Heap} {a : Addr} {l : List Str} (R : SetX P w h a l) : ObjOk P w H h a (SetXO P w a l) := by
  have ⟨D, ho, _⟩ := R
  exact ⟨R, ⟨_, ho⟩, fun h1 h2 p k => SetX.at p k⟩
def rSetLS (K : PySem.W.Frag) (P : Program) (w : World) : List V → Hp → VK → Prop := fun xs H Q => ∃ (a : Addr) (ss : List Str), xs = [.ref a] ∧ SqL K H a (ss.map V.str) ∧ ss.length < 64 ∧
  ∀ (p : Addr) (l : List Str), H p = none → l.Nodup → (∀ y, y ∈ l ↔ y ∈ ss) → l.length < 64 → Q (.ref p) (upd H p (SetXO P w p l))
theorem cr_setLS (hc : X.calm = true) : CallR X (.type "set") (rSetLS X.K X.prog X.w) := by
  intro pins s σ H xs us Q I r h
  obtain ⟨a, ss, rfl, ha, hz, q⟩ := h
  obtain ⟨its, rv, hl, _⟩ := I.list ha
  rw [Vals.ref1 r]
  refine call_setL (P := X.prog) (w := X.w) (I.ok.hd hc) hl.isList rv.strs (by unfold scanBound; omega) fun h' tk l R hl' nd mem k => ?_
  exact ⟨.ref s.heap.objs.size, upd H s.heap.objs.size (SetXO X.prog X.w s.heap.objs.size l), I.laid (t' := tk) k (Nat.le_refl _) (setXO_new R), rfl, q _ l (I.hok.fresh (Nat.le_refl _)) nd mem (by omega)⟩
def rLenSetX (P : Program) (w : World) : List V → Hp → VK → Prop := fun xs H Q => ∃ (a : Addr) (l : List Str), xs = [.ref a] ∧ H a = some (SetXO P w a l) ∧ l.length < 64 ∧ Q (.int (l.length : Int)) H
theorem call_lenSetX {X : Cx} : CallR X (.builtin "len") (rLenSetX X.prog X.w) := by
  intro pins s σ H xs us Q I r h
  obtain ⟨a, l, rfl, ha, hl, q⟩ := h
  obtain ⟨u, rfl, ru⟩ := vals1 r
  cases ru
  obtain ⟨⟨D, ho, F, _⟩, _⟩ := (show ObjOk X.prog X.w H s.heap a (SetXO X.prog X.w a l) from I.hok a _ ha)
  have hz := F.sz
  refine PySem.call_len_set (es := D.1) (ep := D.2.1) (t := D.2.2) ho ⟨rfl, rfl, rfl⟩ rfl F.fit (by omega) ⟨.int (l.length : Int), H, I.kept (fun _ _ e => e), ⟨_, by rw [hz]⟩, q⟩
end
theorem nodup_le {α : Type} [DecidableEq α] : ∀ {l m : List α}, l.Nodup → (∀ x ∈ l, x ∈ m) → l.length ≤ m.length
  | [], m, _, _ => Nat.zero_le _
  | x :: l, m, nd, h => by
    obtain ⟨n1, n2⟩ := List.nodup_cons.mp nd
    have hx := h x List.mem_cons_self
    have := nodup_le (l := l) (m := m.erase x) n2 fun y hy => (List.mem_erase_of_ne (fun z : y = x => n1 (z ▸ hy))).mpr (h y (List.mem_cons_of_mem _ hy))
    rw [List.length_erase_of_mem hx] at this
    have : 0 < m.length := List.length_pos_of_mem hx
    rw [List.length_cons]
    omega
/-! ### paths, spots and depths: mathematics -/
def T.ps (t : T) : List (List Nat) := (t.nd []).map Prod.fst
theorem nd_nodup : ∀ (t : T) (q : List Nat), ((t.nd q).map Prod.fst).Nodup
  | .nil, _ => List.nodup_nil
  | .node l x r, q => by
    show (((q, x) :: (l.nd (q ++ [108]) ++ r.nd (q ++ [114]))).map Prod.fst).Nodup
    rw [List.map_cons, List.map_append, List.nodup_cons, List.nodup_append]
    have pre : ∀ (u : T) (a : Nat) (s : List Nat), s ∈ (u.nd (q ++ [a])).map Prod.fst → ∃ k : List Nat, s = q ++ a :: k := fun u a s hs => by
      obtain ⟨e, he, rfl⟩ := List.mem_map.mp hs
      obtain ⟨p, e1, _⟩ := u.nd_pre _ e he
      exact ⟨p.map dir, by rw [e1, List.append_assoc]; rfl⟩
    refine ⟨fun h => ?_, nd_nodup l _, nd_nodup r _, fun a ha b hb z => ?_⟩
    · rcases List.mem_append.mp h with h | h
      · obtain ⟨k, e⟩ := pre l 108 _ h
        have := congrArg List.length e
        rw [List.length_append, List.length_cons] at this
        have : q.length = q.length + (k.length + 1) := this
        omega
      · obtain ⟨k, e⟩ := pre r 114 _ h
        have := congrArg List.length e
        rw [List.length_append, List.length_cons] at this
        have : q.length = q.length + (k.length + 1) := this
        omega
    · obtain ⟨k, e⟩ := pre l 108 _ ha
      obtain ⟨k', e'⟩ := pre r 114 _ hb
      rw [← z, e] at e'
      have := List.append_cancel_left e'
      injection this with h1 _
      omega
theorem at_snoc : ∀ (t : T) (p : List Bool) {l r : T} {x : Str}, t.at p = some (.node l x r) → t.at (p ++ [false]) = some l ∧ t.at (p ++ [true]) = some r
  | t, [], l, r, x, h => by
    rw [t.at_nil] at h
    cases h
    exact ⟨l.at_nil, r.at_nil⟩
  | .nil, _ :: _, _, _, _, h => by cases h
  | .node l' _ _, false :: p, _, _, _, h => at_snoc l' p (show l'.at p = some _ from h)
  | .node _ _ r', true :: p, _, _, _, h => at_snoc r' p (show r'.at p = some _ from h)
theorem mem_ps {t : T} {p : List Bool} : p.map dir ∈ t.ps ↔ ∃ l x r, t.at p = some (.node l x r) := by
  constructor
  · intro h
    obtain ⟨e, he, h1⟩ := List.mem_map.mp h
    obtain ⟨p', e1, l, r, h2⟩ := t.nd_pre [] e he
    have : p' = p := dirs_inj (by rw [← h1, e1]; rfl)
    subst this
    exact ⟨l, e.2, r, h2⟩
  · rintro ⟨l, x, r, h⟩
    exact List.mem_map.mpr ⟨_, t.nd_at [] p h, rfl⟩
def spots (P : List (List Nat)) (e : List Nat × Str) : List (List Nat) := [e.1 ++ [108], e.1 ++ [114]].filter fun s => decide (s ∉ P)
def nils : T → Nat
  | .nil => 0
  | .node l _ r => (if l.isNil = true then 1 else 0) + (if r.isNil = true then 1 else 0) + nils l + nils r
theorem nils_eq : ∀ t : T, t ≠ .nil → nils t = t.size + 1
  | .nil, h => absurd rfl h
  | .node l x r, _ => by
    have h1 := nils_eq l
    have h2 := nils_eq r
    show (if l.isNil = true then 1 else 0) + (if r.isNil = true then 1 else 0) + nils l + nils r = l.size + 1 + r.size + 1
    have z : ∀ u : T, u.isNil = true → u.size = 0 ∧ nils u = 0 := fun u h => by rw [isNil_eq.mp h]; exact ⟨rfl, rfl⟩
    cases hl : l.isNil <;> cases hr : r.isNil
    · have a := h1 (fun e => by rw [e] at hl; cases hl)
      have b := h2 (fun e => by rw [e] at hr; cases hr)
      show 0 + 0 + nils l + nils r = _
      omega
    · have a := h1 (fun e => by rw [e] at hl; cases hl)
      obtain ⟨b, c⟩ := z r hr
      show 0 + 1 + nils l + nils r = _
      omega
    · have a := h2 (fun e => by rw [e] at hr; cases hr)
      obtain ⟨b, c⟩ := z l hl
      show 1 + 0 + nils l + nils r = _
      omega
    · obtain ⟨b, c⟩ := z r hr
      obtain ⟨b', c'⟩ := z l hl
      show 1 + 1 + nils l + nils r = _
      omega
theorem not_in {t u : T} {p : List Bool} (h : t.at p = some u) : decide (p.map dir ∉ t.ps) = u.isNil := by
  cases u with
  | nil =>
    exact decide_eq_true fun z => by
      obtain ⟨l, x, r, e⟩ := mem_ps.mp z
      rw [h] at e; cases e
  | node l x r => exact decide_eq_false fun z => z (mem_ps.mpr ⟨l, x, r, h⟩)
theorem spots_sum (t : T) : ∀ (u : T) (p : List Bool), t.at p = some u → ((u.nd (p.map dir)).flatMap (spots t.ps)).length = nils u
  | .nil, _, _ => rfl
  | .node l x r, p, h => by
    obtain ⟨hl, hr⟩ := at_snoc t p h
    have e1 : p.map dir ++ [108] = (p ++ [false]).map dir := by rw [List.map_append]; rfl
    have e2 : p.map dir ++ [114] = (p ++ [true]).map dir := by rw [List.map_append]; rfl
    have i1 := spots_sum t l _ hl
    have i2 := spots_sum t r _ hr
    show (((p.map dir, x) :: (l.nd (p.map dir ++ [108]) ++ r.nd (p.map dir ++ [114]))).flatMap (spots t.ps)).length = _
    rw [List.flatMap_cons, List.flatMap_append, List.length_append, List.length_append, e1, e2, i1, i2]
    have n1 := not_in hl
    have n2 := not_in hr
    have c : (spots t.ps (p.map dir, x)).length = (if l.isNil = true then 1 else 0) + (if r.isNil = true then 1 else 0) := by
      unfold spots
      show ([p.map dir ++ [108], p.map dir ++ [114]].filter _).length = _
      rw [e1, e2, List.filter_cons, List.filter_cons, n1, n2, List.filter_nil]
      cases l.isNil <;> cases r.isNil <;> rfl
    rw [c]
    show _ = (if l.isNil = true then 1 else 0) + (if r.isNil = true then 1 else 0) + nils l + nils r
    omega
theorem spots_len {t : T} (h : t ≠ .nil) : ((t.nd []).flatMap (spots t.ps)).length = t.size + 1 := by
  rw [← nils_eq t h]
  exact spots_sum t t [] t.at_nil
theorem spot_at {t : T} {e : List Nat × Str} {s : List Nat} (he : e ∈ t.nd []) (hs : s ∈ spots t.ps e) : ∃ p : List Bool, s = p.map dir ∧ t.at p = some .nil := by
  obtain ⟨p, e1, l, r, h⟩ := t.nd_pre [] e he
  have e1 : e.1 = p.map dir := e1
  obtain ⟨hl, hr⟩ := at_snoc t p h
  unfold spots at hs
  obtain ⟨h1, h2⟩ := List.mem_filter.mp hs
  simp only [List.mem_cons, List.mem_nil_iff, or_false] at h1
  rcases h1 with rfl | rfl
  · have e2 : e.1 ++ [108] = (p ++ [false]).map dir := by rw [e1, List.map_append]; rfl
    rw [e2, not_in hl] at h2
    exact ⟨_, e2, by rw [hl, isNil_eq.mp h2]⟩
  · have e2 : e.1 ++ [114] = (p ++ [true]).map dir := by rw [e1, List.map_append]; rfl
    rw [e2, not_in hr] at h2
    exact ⟨_, e2, by rw [hr, isNil_eq.mp h2]⟩
theorem nd_deep : ∀ (t : T) (q : List Nat), (∀ e ∈ t.nd q, e.1.length + 1 ≤ q.length + t.deep) ∧ (t ≠ .nil → ∃ e ∈ t.nd q, e.1.length + 1 = q.length + t.deep)
  | .nil, _ => ⟨fun _ h => (nomatch h), fun h => absurd rfl h⟩
  | .node l x r, q => by
    obtain ⟨l1, l2⟩ := nd_deep l (q ++ [108])
    obtain ⟨r1, r2⟩ := nd_deep r (q ++ [114])
    have z1 : (q ++ [108]).length = q.length + 1 := by rw [List.length_append]; rfl
    have z2 : (q ++ [114]).length = q.length + 1 := by rw [List.length_append]; rfl
    refine ⟨fun e he => ?_, fun _ => ?_⟩
    · show e.1.length + 1 ≤ q.length + (1 + max l.deep r.deep)
      have he : e ∈ (q, x) :: (l.nd (q ++ [108]) ++ r.nd (q ++ [114])) := he
      rcases List.mem_cons.mp he with rfl | he
      · show q.length + 1 ≤ _
        omega
      rcases List.mem_append.mp he with he | he
      · have := l1 e he
        omega
      · have := r1 e he
        omega
    · show ∃ e ∈ (q, x) :: (l.nd (q ++ [108]) ++ r.nd (q ++ [114])), e.1.length + 1 = q.length + (1 + max l.deep r.deep)
      by_cases hm : r.deep ≤ l.deep
      · by_cases hl : l = .nil
        · subst hl
          have : r.deep ≤ 0 := hm
          refine ⟨(q, x), List.mem_cons_self, ?_⟩
          show q.length + 1 = q.length + (1 + max 0 r.deep)
          omega
        · obtain ⟨e, he, h⟩ := l2 hl
          exact ⟨e, List.mem_cons_of_mem _ (List.mem_append_left _ he), by omega⟩
      · by_cases hr : r = .nil
        · subst hr
          exact absurd (Nat.zero_le _) hm
        · obtain ⟨e, he, h⟩ := r2 hr
          exact ⟨e, List.mem_cons_of_mem _ (List.mem_append_right _ he), by omega⟩
/-- among texts -/
theorem in_tx {s : List Nat} {P : List (List Nat)} : inV (.str (tx s)) (P.map fun q => V.str (tx q)) = decide (s ∈ P) := by
  unfold inV
  rw [List.any_map, Bool.eq_iff_iff, List.any_eq_true, decide_eq_true_eq]
  constructor
  · rintro ⟨x, hx, h⟩
    have h : ((tx x : Str) == tx s) = true := h
    rw [← tx_inj (eq_of_beq h)]
    exact hx
  · intro h
    exact ⟨s, h, (beq_self_eq_true _ : ((tx s : Str) == tx s) = true)⟩
theorem nodup_map {α β : Type} {f : α → β} (inj : ∀ a b, f a = f b → a = b) : ∀ {l : List α}, l.Nodup → (l.map f).Nodup
  | [], _ => List.nodup_nil
  | a :: l, h => by
    obtain ⟨h1, h2⟩ := List.nodup_cons.mp h
    rw [List.map_cons, List.nodup_cons]
    exact ⟨fun z => by
      obtain ⟨b, hb, e⟩ := List.mem_map.mp z
      rw [inj _ _ e] at hb
      exact h1 hb, nodup_map inj h2⟩
/-! ### law -/
theorem pick5k {i : Nat} (h : i < 5) : ∃ lim : Nat, atI [V.int 12, V.int 12, V.int 6, V.int 3, V.int 11] (0 + (i : Int)) = some (.int (lim : Int)) ∧ 1 ≤ lim ∧ lim ≤ 12 := by
  have : i = 0 ∨ i = 1 ∨ i = 2 ∨ i = 3 ∨ i = 4 := by omega
  rcases this with rfl | rfl | rfl | rfl | rfl
  · exact ⟨12, rfl, by decide, by decide⟩
  · exact ⟨12, rfl, by decide, by decide⟩
  · exact ⟨6, rfl, by decide, by decide⟩
  · exact ⟨3, rfl, by decide, by decide⟩
  · exact ⟨11, rfl, by decide, by decide⟩
abbrev vt (q : List Nat) : V := .str (tx q)
section
variable {P : Program} {w : World} {K : PySem.W.Frag} {mg : Str → Option Value} {base : Heap} {f : Addr} {fd : FuncData}
theorem run_law {s : Shared} {H : Hp} {a : Addr} {ns : List Int} (F : Fun K "law" "law" s_law f fd) (bd : BindsTo s fd ⟨[.ref a], []⟩ [("_law_script", .ref a)]) (en : Env0 P w K mg base callerA [] s H) (hS : SqL K H a (ns.map V.int)) (M : Mgs mg) (mset : mg "set" = none) (mmax : mg "max" = none)
    (D_law_deck : Df P w K mg base 1 "_law_deck" ["_law_script"] (spDeck K)) (D_law_same : Df P w K mg base 20 "_law_same" ["_law_found", "_law_due"] (spSame K 20)) (D_law_tree : Df P w K mg base 29 "_law_tree" ["_law_deck_here", "_law_limit"] spTree) (Dsize_of : Df P w K mg base 20 "size_of" ["tree"] (spSz 20))
    (Ddepth_of : Df P w K mg base 20 "depth_of" ["tree"] (spDep 20)) (Dmirrored : Df P w K mg base 20 "mirrored" ["tree"] (spMir 20)) (Deach : DfG P w K mg base 2 "each_node" ["tree"] spEach) (D_law_part_right : Df P w K mg base 42 "_law_part_right" ["_law_tree_here", "_law_path", "_law_label"] spPR) (D_law_open_right : Df P w K mg base 23 "_law_open_right" ["_law_tree_here", "_law_path"] spOR) :
    codeAny (model P w) callerA (.call (.ref f) ⟨[.ref a], []⟩) (CR CX0 [] P w H s (fun v _ => v = .bl true) fun _ _ _ => False) s := by
  refine enter_def (k := 65) (vs := [.ref a]) (us := [.ref a]) F sc_law ⟨rfl, by decide, by decide⟩ en bd (.cons rfl .nil) rfl fun cdv hr => ?_
  have hu := hr.units
  refine ⟨_, (pss_cons (ps_set (i := 1) sc_law.nd rfl (.inl rfl) (pe_call D_law_deck.ok (hr.mono (by omega)) rfl D_law_deck.g D_law_deck.kp D_law_deck.b .nil pass0 (pa_cons (pv 0) pa_nil)))
    (pss_cons (ps_for PassesOwn.never rfl (pi_range1 rfl M.range (pa_cons pe_int pa_nil)) (pg_name (i := 2) sc_law.nd rfl (.inl rfl))
      (pss_cons (ps_set (i := 3) sc_law.nd rfl (.inr rfl) (pe_call D_law_tree.ok (hr.mono (by omega)) rfl D_law_tree.g D_law_tree.kp D_law_tree.b .nil pass0 (pa_cons (pv 1) (pa_cons (pe_ix ix_list (pe_lst (pa_cons pe_int (pa_cons pe_int (pa_cons pe_int (pa_cons pe_int (pa_cons pe_int pa_nil)))))) (pv 2) (fun _ _ => rfl)) pa_nil))))
    (pss_cons (ps_par (i := 4) (j := 5) (by rfl) sc_law.nd rfl rfl (by decide) rfl rfl (pa_cons (pe_list3 (k := 2) (pgen3 (k := 2) Deach.ok (hr.mono (by omega)) rfl Deach.g Deach.kp Deach.b .nil (pa_cons (pv 3) pa_nil)) (hr.mono (by omega)) rfl M.list (by decide +kernel)) (pa_cons (pe_call Dmirrored.ok (hr.mono (by omega)) rfl Dmirrored.g Dmirrored.kp Dmirrored.b .nil pass0 (pa_cons (pv 3) pa_nil)) pa_nil)) (by rfl))
    (pss_cons (ps_set (i := 8) sc_law.nd rfl (.inr rfl) (pe_lc (own := [("_law_path", 6), ("_law_label", 7)]) (g := gTup K 2 (gCons (gName 6) (gCons (gName 7) gNil))) (tt := tYes) rfl sc_law.nd (pi_list (pv 4)) (blkOk_by (N := ["_law_script", "_law_deck_here", "_law_turn", "_law_tree_here", "_law_nodes", "_law_glass", "_law_path", "_law_label", "_law_paths", "_law_spots", "_law_spot"]) (sc := defScope s_law) (by decide +kernel)) (fun _ _ _ _ _ => (pg_tup rfl (pgs_cons (pg_name (i := 6) sc_law.nd rfl (.inl rfl)) (pgs_cons (pg_name (i := 7) sc_law.nd rfl (.inl rfl)) pgs_nil)))) (fun _ _ _ _ _ => pts_nil) (fun _ _ _ _ _ => (pv 6))))
    (pss_cons (ps_set (i := 9) sc_law.nd rfl (.inl rfl) (pe_lst pa_nil))
    (pss_cons (ps_for PassesOwn.never rfl (pi_list (pv 8)) (pg_name (i := 6) sc_law.nd rfl (.inl rfl))
      (pss_one (ps_set (i := 9) sc_law.nd rfl (.inl rfl) (pe_op op_cat (pv 9) (pe_lc (own := [("_law_spot", 10)]) (g := gName 10) rfl sc_law.nd (pi_tup (pe_tup (pa_cons (pe_op op_add_str (pv 6) pe_str) (pa_cons (pe_op op_add_str (pv 6) pe_str) pa_nil)))) (blkOk_by (N := ["_law_script", "_law_deck_here", "_law_turn", "_law_tree_here", "_law_nodes", "_law_glass", "_law_path", "_law_label", "_law_paths", "_law_spots", "_law_spot"]) (sc := defScope s_law) (by decide +kernel)) (fun _ _ _ _ _ => (pg_name (i := 10) sc_law.nd rfl (.inl rfl))) (fun _ _ _ _ _ => pts_one (pt_cmpR (show OpR _ (compareOp .NotIn) (rIn K true) from op_notIn_seq) (pv 10) (pv 8) (by rfl))) (fun _ _ _ _ _ => (pv 10)))))))
    (pss_cons (ps_if (PW.pt (pw_or (pt_cmpR op_ne (pe_callB call_lenSetX rfl M.len PySem.boot_len (pa_cons (pe_callTy (cr_setLS rfl) rfl mset (by decide +kernel) (pa_cons (pv 8) pa_nil)) pa_nil)) (pe_call Dsize_of.ok (hr.mono (by omega)) rfl Dsize_of.g Dsize_of.kp Dsize_of.b .nil pass0 (pa_cons (pv 3) pa_nil)) (nomark _)) (pw_or1 (pt_cmpR op_ne (pe_callB call_len_seq rfl M.len PySem.boot_len (pa_cons (pv 9) pa_nil)) (pe_op op_add (pe_call Dsize_of.ok (hr.mono (by omega)) rfl Dsize_of.g Dsize_of.kp Dsize_of.b .nil pass0 (pa_cons (pv 3) pa_nil)) pe_int) (nomark _)))))
      (pss_one (ps_ret pe_bl)) pss_nil)
    (pss_cons (ps_if (pt_cmpR op_ne (pe_call Ddepth_of.ok (hr.mono (by omega)) rfl Ddepth_of.g Ddepth_of.kp Ddepth_of.b .nil pass0 (pa_cons (pv 3) pa_nil)) (pe_op op_add pe_int (pe_callB (cr_max rfl) rfl mmax (by decide +kernel) (pa_cons (pe_lc (own := [("_law_path", 6)]) (g := gName 6) (tt := tYes) rfl sc_law.nd (pi_list (pv 8)) (blkOk_by (N := ["_law_script", "_law_deck_here", "_law_turn", "_law_tree_here", "_law_nodes", "_law_glass", "_law_path", "_law_label", "_law_paths", "_law_spots", "_law_spot"]) (sc := defScope s_law) (by decide +kernel)) (fun _ _ _ _ _ => (pg_name (i := 6) sc_law.nd rfl (.inl rfl))) (fun _ _ _ _ _ => pts_nil) (fun _ _ _ _ _ => (pe_callB call_len_str rfl M.len PySem.boot_len (pa_cons (pv 6) pa_nil)))) pa_nil))) (nomark _))
      (pss_one (ps_ret pe_bl)) pss_nil)
    (pss_cons (ps_if (pt_not (pt_val (pe_call D_law_same.ok (hr.mono (by omega)) rfl D_law_same.g D_law_same.kp D_law_same.b .nil pass0 (pa_cons (pe_lst (pa_cons (pe_call Dmirrored.ok (hr.mono (by omega)) rfl Dmirrored.g Dmirrored.kp Dmirrored.b .nil pass0 (pa_cons (pv 5) pa_nil)) (pa_cons (pe_call Dsize_of.ok (hr.mono (by omega)) rfl Dsize_of.g Dsize_of.kp Dsize_of.b .nil pass0 (pa_cons (pv 5) pa_nil)) (pa_cons (pe_call Ddepth_of.ok (hr.mono (by omega)) rfl Ddepth_of.g Ddepth_of.kp Ddepth_of.b .nil pass0 (pa_cons (pv 5) pa_nil)) pa_nil)))) (pa_cons (pe_lst (pa_cons (pv 3) (pa_cons (pe_callB call_len_seq rfl M.len PySem.boot_len (pa_cons (pv 4) pa_nil)) (pa_cons (pe_call Ddepth_of.ok (hr.mono (by omega)) rfl Ddepth_of.g Ddepth_of.kp Ddepth_of.b .nil pass0 (pa_cons (pv 3) pa_nil)) pa_nil)))) pa_nil)))))
      (pss_one (ps_ret pe_bl)) pss_nil)
    (pss_cons (ps_if (pt_cmpR (op_neD hr.units) (pe_lc (own := [("_law_path", 6), ("_law_label", 7)]) (g := gTup K 2 (gCons (gName 6) (gCons (gName 7) gNil))) rfl sc_law.nd (pi_list (pv 4)) (blkOk_by (N := ["_law_script", "_law_deck_here", "_law_turn", "_law_tree_here", "_law_nodes", "_law_glass", "_law_path", "_law_label", "_law_paths", "_law_spots", "_law_spot"]) (sc := defScope s_law) (by decide +kernel)) (fun _ _ _ _ _ => (pg_tup rfl (pgs_cons (pg_name (i := 6) sc_law.nd rfl (.inl rfl)) (pgs_cons (pg_name (i := 7) sc_law.nd rfl (.inl rfl)) pgs_nil)))) (fun _ _ _ _ _ => pts_one (pt_not (pt_val (pe_call D_law_part_right.ok (hr.mono (by omega)) rfl D_law_part_right.g D_law_part_right.kp D_law_part_right.b .nil pass0 (pa_cons (pv 3) (pa_cons (pv 6) (pa_cons (pv 7) pa_nil))))))) (fun _ _ _ _ _ => (pv 6))) (pe_lst pa_nil) (nomark _))
      (pss_one (ps_ret pe_bl)) pss_nil)
    (pss_one (ps_if (pt_cmpR (op_neD hr.units) (pe_lc (own := [("_law_spot", 10)]) (g := gName 10) rfl sc_law.nd (pi_list (pv 9)) (blkOk_by (N := ["_law_script", "_law_deck_here", "_law_turn", "_law_tree_here", "_law_nodes", "_law_glass", "_law_path", "_law_label", "_law_paths", "_law_spots", "_law_spot"]) (sc := defScope s_law) (by decide +kernel)) (fun _ _ _ _ _ => (pg_name (i := 10) sc_law.nd rfl (.inl rfl))) (fun _ _ _ _ _ => pts_one (pt_not (pt_val (pe_call D_law_open_right.ok (hr.mono (by omega)) rfl D_law_open_right.g D_law_open_right.kp D_law_open_right.b .nil pass0 (pa_cons (pv 3) (pa_cons (pv 10) pa_nil)))))) (fun _ _ _ _ _ => (pv 10))) (pe_lst pa_nil) (nomark _))
      (pss_one (ps_ret pe_bl)) pss_nil))))))))))))
    (pss_one (ps_ret pe_bl)))), ?_⟩
  refine ⟨_, rfl, a, ns, rfl, hS, fun D H1 d1 s1 => ?_⟩
  refine ⟨5, rfl, by decide, by decide, ?_⟩
  refine for_range (lo := 0) (n := 5) (fun i σ H' => ∃ (rest : List (Option V)) (c : Nat), rest.length = 9 ∧ σ = some (.ref a) :: some (.ref D.dk) :: rest ∧ DeckOk H' D c ∧ c ≤ 100 * i) ⟨List.replicate 9 none, 0, rfl, rfl, d1, by omega⟩ (fun i σ H3 hi hp => ?_) (fun σ H3 hp => ?_)
  · obtain ⟨rest, c, lr, rfl, d3, hc⟩ := hp
    match rest, lr with
    | [y2, y3, y4, y5, y6, y7, y8, y9, ya], _ =>
    obtain ⟨lim, hl, l1, l2⟩ := pick5k hi
    refine ⟨_, rfl, (by show 5 ≤ sizeLine; decide), fun pl npl => ?_⟩
    have k4 := same_new npl (.lst [.int 12, .int 12, .int 6, .int 3, .int 11])
    refine ⟨_, rfl, pl, _, _, _, rfl, rfl, SqL.of upd_same, hl, D, c, lim, rfl, d3.same k4, by omega, l1, by omega, fun v t c4 H4 d4 hc4 s4 at4 t0 t1 tl => ?_⟩
    have tz : t.size ≤ 12 := by omega
    have tn : t ≠ .nil := fun z => by rw [z] at t0; exact absurd t0 (by show ¬ 1 ≤ 0; omega)
    have td := t.deep_le
    clear k4 npl d3 s4
    refine ⟨_, rfl, itN t, fnN t, ⟨v, t, rfl, at4.keep fun b xs e => shr_tup e, by omega, rfl, rfl⟩, fun nl H5 us s5 nnl lz g f => ?_⟩
    have nd0 := got_nd g f
    have k5 := same_new nnl (.lst us)
    have nd5 := nd0.keep (Tw.Same.keepT k5)
    have e5 := upd_same (H := H5) (a := nl) (o := .lst us)
    have s45 := s5.trans k5
    have at5 := at4.same s45
    have d5 := d4.same s45
    generalize upd H5 nl (.lst us) = H6 at nd5 e5 at5 d5 ⊢
    refine ⟨_, rfl, v, t, rfl, at5, by omega, fun H7 vm s7 hm => ⟨_, _, rfl, ?_⟩⟩
    have nd7 := nd5.keep (Tw.Same.keepT s7)
    have e7 := s7 _ _ e5
    have at7 := at5.same s7
    have d7 := d5.same s7
    clear nd5 e5 at5 d5 s45 k5 s5 g f nnl d4 at4 nd0
    refine ⟨_, rfl, nl, rfl, ⟨_, SqL.of e7⟩, fun L nL => ?_⟩
    have pz : t.ps.length = t.size := by unfold T.ps; rw [List.length_map, T.nd_len]
    refine lc_list (K := K) (a := nl) (xs := us) (fun j H' => Same H7 H' ∧ H' L = some (.lst ((t.ps.take j).map vt))) ⟨same_new nL _, upd_same⟩ (fun j H' _ hp => SqL.of (hp.1 _ _ e7)) (fun j x H' hx hp => ?_) (fun H' hp => ?_)
    · obtain ⟨sm, eL⟩ := hp
      have hj : j < us.length := (List.getElem?_eq_some_iff.mp hx).1
      have hj2 : j < (t.nd []).length := by rw [← nd7.1]; exact hj
      have i1 : (t.nd [])[j]? = some ((t.nd [])[j]) := List.getElem?_eq_getElem hj2
      generalize (t.nd [])[j] = e at i1
      obtain ⟨qa, rfl, eqa⟩ := nd7.2 j x e hx i1
      have ip : t.ps[j]? = some e.1 := by unfold T.ps; rw [List.getElem?_map, i1]; rfl
      refine ⟨qa, _, rfl, SqT.of (sm _ _ eqa), rfl, _, _, rfl, _, _, rfl, rfl, rfl, kept ?_⟩
      refine ⟨_, rfl, _, eL, small1000 (by rw [List.length_map, List.length_take]; omega), fun b o z => ?_, ?_⟩
      · rw [upd_ne (ne_of_none z nL)]; exact sm _ _ z
      · rw [upd_same, List.take_add_one, ip, List.map_append]; rfl
    · obtain ⟨sm, eL⟩ := hp
      rw [List.take_of_length_le (by rw [pz, nd7.1, T.nd_len]; exact Nat.le_refl _)] at eL
      have nd8 := nd7.keep (Tw.Same.keepT sm)
      have e8 := sm _ _ e7
      have at8 := at7.same sm
      have d8 := d7.same sm
      have hm8 := hm.same sm
      clear nd7 e7 at7 d7 hm sm nL
      refine ⟨(by show 0 ≤ sizeLine; decide), fun sl nsl => ?_⟩
      have ks := same_new nsl (.lst [])
      have nd9 := nd8.keep (Tw.Same.keepT ks)
      have e9 := ks _ _ e8
      have at9 := at8.same ks
      have d9 := d8.same ks
      have hm9 := hm8.same ks
      have eL9 := ks _ _ eL
      have es9 := upd_same (H := H') (a := sl) (o := .lst [])
      generalize upd H' sl (.lst []) = H9 at nd9 e9 at9 d9 hm9 eL9 es9 ⊢
      clear nd8 e8 at8 d8 hm8 eL ks nsl
      refine ⟨_, rfl, L, rfl, ⟨_, SqL.of eL9⟩, ?_⟩
      refine for_list (K := K) (a := L) (xs := t.ps.map vt) (fun j σ Hx => ∃ (z6 z7 z10 : Option V) (sj : Addr), σ = [some (.ref a), some (.ref D.dk), some (.int (0 + i)), some v, some (.ref nl), some vm, z6, z7, some (.ref L), some (.ref sj), z10] ∧ Same H9 Hx ∧ Hx sj = some (.lst ((((t.nd []).take j).flatMap (spots t.ps)).map vt))) ⟨y6, y7, ya, sl, rfl, Same.refl _, es9⟩ (fun j σ Hx _ hp => by obtain ⟨_, _, _, _, _, sm, _⟩ := hp; exact SqL.of (sm _ _ eL9)) (fun j x σ Hx hx hp => ?_) (fun σ Hx hp => ?_)
      · obtain ⟨z6, z7, z10, sj, rfl, sm, esj⟩ := hp
        have hj : j < t.ps.length := by
          have := (List.getElem?_eq_some_iff.mp hx).1
          rw [List.length_map] at this
          exact this
        have hj2 : j < (t.nd []).length := by rw [T.nd_len, ← pz]; exact hj
        have i1 : (t.nd [])[j]? = some ((t.nd [])[j]) := List.getElem?_eq_getElem hj2
        generalize (t.nd [])[j] = e at i1
        have ip : t.ps[j]? = some e.1 := by unfold T.ps; rw [List.getElem?_map, i1]; rfl
        rw [List.getElem?_map, ip] at hx
        have hx : x = vt e.1 := (Option.some.inj hx).symm
        subst hx
        have le := t.nd_path [] e (List.mem_of_getElem? i1)
        have le : e.1.length ≤ 0 + t.size := le
        have e1 : (tx e.1 ++ "l" : Str) = tx (e.1 ++ [108]) := by rw [show ("l" : Str) = tx [108] by decide +kernel, tx_app]
        have e2 : (tx e.1 ++ "r" : Str) = tx (e.1 ++ [114]) := by rw [show ("r" : Str) = tx [114] by decide +kernel, tx_app]
        have lq : (tx e.1).length = e.1.length := rfl
        refine ⟨_, rfl, _, rfl, _, _, rfl, rfl, small (by rw [lq]; show e.1.length + 1 ≤ 1000; omega), _, rfl, _, _, rfl, rfl, small (by rw [lq]; show e.1.length + 1 ≤ 1000; omega), (by show 2 ≤ sizeLine; decide), fun tp ntp => ?_⟩
        rw [e1, e2]
        have kt := same_new ntp (.tup [vt (e.1 ++ [108]), vt (e.1 ++ [114])])
        have et := upd_same (H := Hx) (a := tp) (o := .tup [vt (e.1 ++ [108]), vt (e.1 ++ [114])])
        have esj := kt _ _ esj
        have smt := sm.trans kt
        generalize upd Hx tp (.tup [vt (e.1 ++ [108]), vt (e.1 ++ [114])]) = Ha at et esj smt ⊢
        refine ⟨tp, rfl, ⟨_, SqT.of et⟩, fun C nC => ?_⟩
        have lsp : (((t.nd []).take j).flatMap (spots t.ps)).length ≤ 24 := by
          have f2 : ∀ L : List (List Nat × Str), (L.flatMap (spots t.ps)).length ≤ 2 * L.length := fun L => by
            induction L with
            | nil => exact Nat.le_refl _
            | cons e L ih =>
              have : (spots t.ps e).length ≤ 2 := List.length_filter_le _ _
              rw [List.flatMap_cons, List.length_append, List.length_cons]
              omega
          have := f2 ((t.nd []).take j)
          rw [List.length_take] at this
          omega
        refine lc_tup (K := K) (a := tp) (xs := [vt (e.1 ++ [108]), vt (e.1 ++ [114])]) (fun k H' => Same Ha H' ∧ H' C = some (.lst ((([e.1 ++ [108], e.1 ++ [114]].take k).filter fun s => decide (s ∉ t.ps)).map vt))) ⟨same_new nC _, upd_same⟩ (fun k H' _ hp => SqT.of (hp.1 _ _ et)) (fun k y H' hy hp => ?_) (fun H' hp => ?_)
        · obtain ⟨sc, eC⟩ := hp
          obtain ⟨s0, hs0, rfl⟩ : ∃ s0, [e.1 ++ [108], e.1 ++ [114]][k]? = some s0 ∧ y = vt s0 := by
            match k, hy with
            | 0, h => cases h; exact ⟨_, rfl, rfl⟩
            | 1, h => cases h; exact ⟨_, rfl, rfl⟩
          refine ⟨rfl, ?_⟩
          refine ⟨_, rfl, _, rfl, L, _, rfl, .inl (SqL.of (sc _ _ (smt _ _ eL9))), rfl, by rw [List.all_map]; exact List.all_eq_true.mpr fun _ _ => rfl, _, rfl, ?_⟩
          have it : inV (vt s0) (t.ps.map vt) = decide (s0 ∈ t.ps) := in_tx
          have sn : ([e.1 ++ [108], e.1 ++ [114]].take (k + 1)).filter (fun s => decide (s ∉ t.ps)) = if decide (s0 ∉ t.ps) = true then ([e.1 ++ [108], e.1 ++ [114]].take k).filter (fun s => decide (s ∉ t.ps)) ++ [s0] else ([e.1 ++ [108], e.1 ++ [114]].take k).filter (fun s => decide (s ∉ t.ps)) := by
            rw [List.take_add_one, hs0]
            exact filter_snoc _ _ _
          by_cases hm : s0 ∈ t.ps
          · rw [decide_eq_false (fun z => z hm), if_neg Bool.false_ne_true] at sn
            rw [if_pos rfl, it, decide_eq_true hm]
            refine iteF ⟨sc, ?_⟩
            rw [sn]
            exact eC
          · rw [decide_eq_true hm, if_pos rfl] at sn
            rw [if_pos rfl, it, decide_eq_false hm]
            refine iteT ⟨_, rfl, _, eC, small1000 ?_, fun b o z => ?_, ?_⟩
            · rw [List.length_map]
              refine Nat.le_trans (List.length_filter_le _ _) ?_
              rw [List.length_take]
              show min k 2 ≤ 1000
              omega
            · rw [upd_ne (ne_of_none z nC)]; exact sc _ _ z
            · rw [upd_same, sn, List.map_append]; rfl
        · obtain ⟨sc, eC⟩ := hp
          have eC : H' C = some (.lst ((spots t.ps e).map vt)) := eC
          refine ⟨sj, C, _, _, rfl, rfl, sc _ _ esj, eC, small ?_, fun pc npc => ?_⟩
          · have : (spots t.ps e).length ≤ 2 := List.length_filter_le _ _
            rw [List.length_map, List.length_map]
            omega
          have kc := same_new npc (.lst ((((t.nd []).take j).flatMap (spots t.ps)).map vt ++ (spots t.ps e).map vt))
          refine ⟨_, _, _, pc, rfl, smt.trans (sc.trans kc), ?_⟩
          rw [upd_same, List.take_add_one, i1, List.flatMap_append, List.map_append]
          show _ = some (HO.lst (_ ++ ([e].flatMap (spots t.ps)).map vt))
          rw [List.flatMap_cons, List.flatMap_nil, List.append_nil]
      · obtain ⟨z6, z7, z10, sj, rfl, sm, esj⟩ := hp
        rw [List.take_of_length_le (by rw [List.length_map, pz, T.nd_len]; exact Nat.le_refl _)] at esj
        have at10 := at9.same sm
        have hm10 := hm9.same sm
        have eL10 := sm _ _ eL9
        have e10 := sm _ _ e9
        have nd10 := nd9.keep (Tw.Same.keepT sm)
        have d10 := d9.same sm
        clear nd9 e9 at9 d9 hm9 eL9 es9 sm
        have tps : (t.ps.map tx).map V.str = t.ps.map vt := by rw [List.map_map]; rfl
        have pn : (t.ps.map tx).Nodup := nodup_map (fun a b h => tx_inj h) (nd_nodup t [])
        refine ⟨_, rfl, L, t.ps.map tx, rfl, by rw [tps]; exact SqL.of eL10, by rw [List.length_map]; omega, fun q2 l2 nq2 nd2 mem2 lt2 => ⟨q2, l2, rfl, upd_same, lt2, ?_⟩⟩
        have k2 := same_new nq2 (SetXO P w q2 l2)
        have at11 := at10.same k2
        have hm11 := hm10.same k2
        have eL11 := k2 _ _ eL10
        have e11 := k2 _ _ e10
        have nd11 := nd10.keep (Tw.Same.keepT k2)
        have d11 := d10.same k2
        have es11 := k2 _ _ esj
        refine ⟨_, rfl, v, t, rfl, at11, by omega, rfl, _, rfl, ?_⟩
        have ll : l2.length = t.size := by
          have a1 := nodup_le nd2 (fun x hx => (mem2 x).mp hx)
          have a2 := nodup_le pn (fun x hx => (mem2 x).mpr hx)
          rw [List.length_map] at a1 a2
          omega
        rw [decide_eq_true (show V.int ((l2.length : Nat) : Int) = V.int ((t.size : Nat) : Int) by rw [ll])]
        clear k2 at10 hm10 eL10 e10 nd10 d10 esj nq2 mem2 nd2
        have sl := spots_len tn
        refine iteF ⟨_, rfl, sj, _, rfl, .inl (SqL.of es11), _, rfl, v, t, rfl, at11, by omega, _, _, rfl, rfl, rfl, _, rfl, ?_⟩
        rw [decide_eq_true (show V.int (((((t.nd []).flatMap (spots t.ps)).map vt).length : Nat) : Int) = V.int (((t.size : Nat) : Int) + 1) by rw [List.length_map, sl]; rfl)]
        refine iteF ?_
        refine ⟨_, rfl, v, t, rfl, at11, by omega, _, rfl, L, rfl, ⟨_, SqL.of eL11⟩, fun C nC => ?_⟩
        refine lc_list (K := K) (a := L) (xs := t.ps.map vt) (fun j H' => Same (upd Hx q2 (SetXO P w q2 l2)) H' ∧ H' C = some (.lst (((t.ps.take j).map fun q => ((q.length : Nat) : Int)).map V.int))) ⟨same_new nC _, upd_same⟩ (fun j H' _ hp => SqL.of (hp.1 _ _ eL11)) (fun j x H' hx hp => ?_) (fun H' hp => ?_)
        · obtain ⟨sc, eC⟩ := hp
          have hj : j < t.ps.length := by
            have := (List.getElem?_eq_some_iff.mp hx).1
            rw [List.length_map] at this
            exact this
          have ip : t.ps[j]? = some (t.ps[j]) := List.getElem?_eq_getElem hj
          have mq : t.ps[j] ∈ t.ps := List.getElem_mem hj
          generalize t.ps[j] = qq at ip mq
          rw [List.getElem?_map, ip] at hx
          have hx : x = vt qq := (Option.some.inj hx).symm
          subst hx
          obtain ⟨e, he, rfl⟩ := List.mem_map.mp mq
          have le := t.nd_path [] e he
          have le : e.1.length ≤ 0 + t.size := le
          refine ⟨rfl, kept ?_⟩
          refine ⟨_, rfl, tx e.1, rfl, small (by show e.1.length ≤ 1000; omega), _, eC, small1000 (by rw [List.length_map, List.length_map, List.length_take]; omega), fun b o z => ?_, ?_⟩
          · rw [upd_ne (ne_of_none z nC)]; exact sc _ _ z
          · rw [upd_same, List.take_add_one, ip, List.map_append, List.map_append]; rfl
        · obtain ⟨sc, eC⟩ := hp
          rw [List.take_of_length_le (by rw [List.length_map]; exact Nat.le_refl _)] at eC
          refine ⟨C, _, rfl, SqL.of eC, by rw [List.length_map, pz]; omega, fun m hm1 hm2 => ?_⟩
          obtain ⟨q1, hq1, rfl⟩ := List.mem_map.mp hm1
          obtain ⟨b1, b2⟩ := nd_deep t []
          obtain ⟨eD, hD, dD⟩ := b2 tn
          have c1 := hm2 _ (List.mem_map.mpr ⟨eD.1, List.mem_map.mpr ⟨eD, hD, rfl⟩, rfl⟩)
          obtain ⟨e', he', hq'⟩ := List.mem_map.mp hq1
          have c2 := b1 e' he'
          rw [hq'] at c2
          have c3 : ([] : List Nat).length = 0 := rfl
          refine ⟨_, _, rfl, rfl, rfl, _, rfl, ?_⟩
          rw [decide_eq_true (show V.int ((t.deep : Nat) : Int) = V.int (1 + ((q1.length : Nat) : Int)) from congrArg V.int (by omega))]
          refine iteF ?_
          have at12 := at11.same sc
          have hm12 := hm11.same sc
          have e12 := sc _ _ e11
          have nd12 := nd11.keep (Tw.Same.keepT sc)
          have d12 := d11.same sc
          have es12 := sc _ _ es11
          clear at11 hm11 e11 nd11 d11 es11 eL11 sc eC c1 c2 c3 hm2 hq1 hm1 hD he' hq'
          have md : t.mir.deep = t.deep := t.mir_deep
          have ms : t.mir.size = t.size := t.mir_size
          refine ⟨_, rfl, vm, t.mir, rfl, hm12, by omega, fun H13 v13 s13 h13 => ?_⟩
          rw [t.mir_mir] at h13
          refine ⟨_, rfl, vm, t.mir, rfl, hm12.same s13, by omega, _, rfl, vm, t.mir, rfl, hm12.same s13, by omega, (by show 3 ≤ sizeLine; decide), fun r1 n1 => ?_⟩
          rw [ms, md]
          have k1 := same_new n1 (.lst [v13, .int ((t.size : Nat) : Int), .int ((t.deep : Nat) : Int)])
          have dA : Dp K (upd H13 r1 (.lst [v13, .int ((t.size : Nat) : Int), .int ((t.deep : Nat) : Int)])) (.ref r1) (.list [t.data, .int ((t.size : Nat) : Int), .int ((t.deep : Nat) : Int)]) := .lst (SqL.of upd_same) (.cons (h13.same k1).dp (.cons (.int _) (.cons (.int _) .nil)))
          have s1c := s13.trans k1
          generalize upd H13 r1 (.lst [v13, .int ((t.size : Nat) : Int), .int ((t.deep : Nat) : Int)]) = Hc at dA s1c ⊢
          have at13 := at12.same s1c
          refine ⟨_, rfl, _, rfl, nl, us, rfl, .inl (SqL.of (s1c _ _ e12)), _, rfl, v, t, rfl, at13, by omega, (by show 3 ≤ sizeLine; decide), fun r2 n2 => ?_⟩
          have lu : us.length = t.size := by rw [nd12.1, T.nd_len]
          rw [lu]
          have k2 := same_new n2 (.lst [v, .int ((t.size : Nat) : Int), .int ((t.deep : Nat) : Int)])
          have dB : Dp K (upd Hc r2 (.lst [v, .int ((t.size : Nat) : Int), .int ((t.deep : Nat) : Int)])) (.ref r2) (.list [t.data, .int ((t.size : Nat) : Int), .int ((t.deep : Nat) : Int)]) := .lst (SqL.of upd_same) (.cons (at13.same k2).dp (.cons (.int _) (.cons (.int _) .nil)))
          refine ⟨_, _, _, rfl, dp_same k2 dA, dB, ?_, ?_, fun Hd sd => ⟨_, rfl, iteF ?_⟩⟩
          · simp only [PyData.depth, PyData.depthAll, t.data_deep]; omega
          · simp only [nar, narAll, t.nar_data, Bool.and_true, List.length_cons, List.length_nil]
            exact decide_eq_true (by omega)
          have s1d := s1c.trans (k2.trans sd)
          have at14 := at12.same s1d
          have e14 := s1d _ _ e12
          have nd14 := nd12.keep (Tw.Same.keepT s1d)
          have d14 := d12.same s1d
          have es14 := s1d _ _ es12
          clear at12 hm12 e12 nd12 d12 es12 s1d s1c k2 sd dA dB k1 n1 n2 at13 h13 s13
          refine ⟨_, rfl, nl, rfl, ⟨_, SqL.of e14⟩, fun C2 nC2 => ?_⟩
          refine lc_list (K := K) (a := nl) (xs := us) (fun j H' => Same Hd H' ∧ H' C2 = some (.lst [])) ⟨same_new nC2 _, upd_same⟩ (fun j H' _ hp => SqL.of (hp.1 _ _ e14)) (fun j x H' hx hp => ?_) (fun H' hp => ?_)
          · obtain ⟨sc, eC⟩ := hp
            have hj : j < us.length := (List.getElem?_eq_some_iff.mp hx).1
            have hj2 : j < (t.nd []).length := by rw [← nd14.1]; exact hj
            have i1 : (t.nd [])[j]? = some ((t.nd [])[j]) := List.getElem?_eq_getElem hj2
            generalize (t.nd [])[j] = e at i1
            obtain ⟨qa, rfl, eqa⟩ := nd14.2 j x e hx i1
            obtain ⟨pe, hpe, l', r', hat⟩ := t.nd_pre [] e (List.mem_of_getElem? i1)
            have hpe : e.1 = pe.map dir := hpe
            refine ⟨qa, _, rfl, SqT.of (sc _ _ eqa), rfl, _, _, rfl, _, _, rfl, rfl, rfl, ?_⟩
            refine ⟨_, rfl, _, rfl, _, rfl, v, t, l', r', pe, e.2, by rw [hpe]; rfl, at14.same sc, tl, tz, hat, fun H'' s'' => ⟨_, rfl, iteF ⟨sc.trans s'', s'' _ _ eC⟩⟩⟩
          · obtain ⟨sc, eC⟩ := hp
            refine ⟨(by show 0 ≤ sizeLine; decide), fun z1 nz1 => ⟨.list [], .list [], .lst (SqL.of ((same_new nz1 _) _ _ eC)) .nil, .lst (SqL.of upd_same) .nil, by decide +kernel, by decide +kernel, _, rfl, ?_⟩⟩
            have s15 := sc.trans (same_new nz1 (.lst []))
            have at15 := at14.same s15
            have d15 := d14.same s15
            have es15 := s15 _ _ es14
            generalize upd H' z1 (.lst []) = He at at15 d15 es15 ⊢
            have ev : (!PyData.eqv (.list []) (.list [])) = false := by decide +kernel
            rw [ev]
            refine iteF ?_
            refine ⟨_, rfl, sj, rfl, ⟨_, SqL.of es15⟩, fun C3 nC3 => ?_⟩
            refine lc_list (K := K) (a := sj) (xs := ((t.nd []).flatMap (spots t.ps)).map vt) (fun j H' => Same He H' ∧ H' C3 = some (.lst [])) ⟨same_new nC3 _, upd_same⟩ (fun j H' _ hp => SqL.of (hp.1 _ _ es15)) (fun j x H' hx hp => ?_) (fun H' hp => ?_)
            · obtain ⟨sc3, eC3⟩ := hp
              obtain ⟨s0, hs0, rfl⟩ := List.mem_map.mp (List.mem_of_getElem? hx)
              obtain ⟨e, he, hse⟩ := List.mem_flatMap.mp hs0
              obtain ⟨pe, hpe, hat⟩ := spot_at he hse
              have za := t.at_size pe hat
              subst hpe
              refine ⟨rfl, ?_⟩
              exact ⟨_, rfl, _, rfl, v, t, pe, rfl, at15.same sc3, tl, tz, by omega, hat, fun H'' s'' => ⟨_, rfl, iteF ⟨sc3.trans s'', s'' _ _ eC3⟩⟩⟩
            · obtain ⟨sc3, eC3⟩ := hp
              refine ⟨(by show 0 ≤ sizeLine; decide), fun z2 nz2 => ⟨.list [], .list [], .lst (SqL.of ((same_new nz2 _) _ _ eC3)) .nil, .lst (SqL.of upd_same) .nil, by decide +kernel, by decide +kernel, _, rfl, ?_⟩⟩
              rw [ev]
              exact iteF ⟨_, c4, rfl, rfl, d15.same (sc3.trans (same_new nz2 _)), by omega⟩
  · exact rfl
end
/-! ### what the top has left -/
theorem all_mk {l : PySem.W.OpenLaw} {w : World} {K : PySem.W.Frag} {h : Heap} {mg : Str → Option Value} {fa f1 f2 f3 f4 f5 f6 f7 f8 f9 f10 f11 f12 f13 f14 f15 f16 f17 f18 f19 f20 C_TooLarge C_WalkError i_TooLarge : Addr} (X : K.In h) (G : h.Ns mainGlobals mg) (hfa : mg "law" = some (.ref fa))
    {od1 an1 od2 an2 od3 an3 od4 an4 od5 an5 od6 an6 od7 an7 od8 an8 od9 an9 od10 an10 od11 an11 od12 an12 od13 an13 od14 an14 od15 an15 od16 an16 od17 an17 od18 an18 od19 an19 od20 an20 : Option Addr} {sl1 sl2 sl3 sl4 sl5 sl6 sl7 sl8 sl9 sl10 sl11 sl12 sl13 sl14 sl15 sl16 sl17 sl18 sl19 sl20 : Array (Option Value)}
    {oc1 kV1 dc1 pm1 cd1 ct1 oc2 kV2 dc2 pm2 cd2 ct2 oc3 kV3 dc3 pm3 cd3 ct3 oc4 kV4 dc4 pm4 cd4 ct4 oc5 kV5 dc5 pm5 cd5 ct5 oc6 kV6 dc6 pm6 cd6 ct6 oc7 kV7 dc7 pm7 cd7 ct7 oc8 kV8 dc8 pm8 cd8 ct8 oc9 kV9 dc9 pm9 cd9 ct9 oc10 kV10 dc10 pm10 cd10 ct10 oc11 kV11 dc11 pm11 cd11 ct11 oc12 kV12 dc12 pm12 cd12 ct12 oc13 kV13 dc13 pm13 cd13 ct13 oc14 kV14 dc14 pm14 cd14 ct14 oc15 kV15 dc15 pm15 cd15 ct15 oc16 kV16 dc16 pm16 cd16 ct16 oc17 kV17 dc17 pm17 cd17 ct17 oc18 kV18 dc18 pm18 cd18 ct18 oc19 kV19 dc19 pm19 cd19 ct19 oc20 kV20 dc20 pm20 cd20 ct20 : Value} {t1 : Tok}
    {nm_TooLarge q_TooLarge : Str} {N_TooLarge : Addr} {bs_TooLarge sub_TooLarge : List Value} {sn_TooLarge : List Str} {ab_TooLarge : Bool} {col_TooLarge : Option Bool} {dd_TooLarge : Option Addr} {m0_TooLarge m1_TooLarge m2_TooLarge m3_TooLarge m5_TooLarge : Option Value}  {oc_TooLarge dc_TooLarge pm_TooLarge cd_TooLarge ct_TooLarge : Value} {od_TooLarge an_TooLarge : Option Addr} {sl_TooLarge : Array (Option Value)}
    (a_TooLarge : PySem.W.nsIn K mainGlobals "TooLarge" = some (some (.ref C_TooLarge)))
    (a_WalkError : PySem.W.nsIn K mainGlobals "WalkError" = some (some (.ref C_WalkError)))
    (x_TooLarge : K.lookup C_TooLarge = some (excClassObj nm_TooLarge q_TooLarge C_TooLarge N_TooLarge bs_TooLarge (.ref C_WalkError :: [.type "ValueError", .type "Exception", .type "BaseException", .type "object"]) true sn_TooLarge sub_TooLarge ab_TooLarge col_TooLarge dd_TooLarge m0_TooLarge m1_TooLarge m2_TooLarge m3_TooLarge m5_TooLarge "ValueError.__new__"))
    (sa_TooLarge : PySem.W.findIn K (.ref C_TooLarge) "__setattr__" = some (some (.builtin "object.__setattr__")))
    (ga_TooLarge : PySem.W.findIn K (.ref C_TooLarge) "__getattribute__" = some (some (.builtin "BaseException.__getattribute__")))
    (gg_TooLarge : PySem.W.findIn K (.ref C_TooLarge) "__getattr__" = some none)
    (nb_TooLarge : PySem.W.findIn K (.ref C_TooLarge) "limit" = some none)
    (ii_TooLarge : PySem.W.findIn K (.ref C_TooLarge) "__init__" = some (some (.ref i_TooLarge)))
    (ti_TooLarge : PySem.W.typeIn K (.ref i_TooLarge) = some (.type "function"))
    (li_TooLarge : K.lookup i_TooLarge = some ⟨oc_TooLarge, od_TooLarge, .func (PySem.W.fnOf "__init__" "TooLarge.__init__" (iA_limit ⟨7, 17, 7, 21⟩ ⟨7, 23, 7, 28⟩) (iB_limit ⟨8, 8, 8, 12⟩ ⟨8, 8, 8, 18⟩ ⟨8, 21, 8, 26⟩ ⟨8, 8, 8, 26⟩) iS_limit .none .none dc_TooLarge pm_TooLarge an_TooLarge cd_TooLarge ct_TooLarge), sl_TooLarge⟩)
    (ci_TooLarge : PySem.W.codeIn K cd_TooLarge "TooLarge.__init__" = true)
    (kC_TooLarge : PySem.W.keepIn K (.ref C_TooLarge) = true)
    (eC_TooLarge : PySem.W.subIn K (.ref C_TooLarge) (.type "BaseException") = some true)
    (tC_TooLarge : PySem.W.typeIn K (.ref C_TooLarge) = some (.type "type"))
    (hC_TooLarge : PySem.W.hasDictIn K C_TooLarge = true)
    (h1_TooLarge : PySem.W.findIn K (.ref C_TooLarge) "__class__" = some (some (.builtin "object.__class__")))
    (h2_TooLarge : PySem.W.specialIn K (.builtin "object.__class__") "__get__" = some (some (.builtin "getset_descriptor.__get__")))
    (h3_TooLarge : PySem.W.takesIn K (.builtin "object.__class__") = some true)
    (h4_TooLarge : PySem.W.mroIn K C_TooLarge (.type "object") = some true)
    (e1 : PySem.W.exmOne K (.ref C_TooLarge) (.ref C_TooLarge) = some true)
    (a1 : PySem.W.nsIn K mainGlobals "size_of" = some (some (.ref f1)))
    (l1 : K.lookup f1 = some ⟨oc1, od1, .func (PySem.W.fnOf "size_of" "size_of" (defArgs s_size_of) (defBody s_size_of) (defScope s_size_of) .none kV1 dc1 pm1 an1 cd1 ct1), sl1⟩)
    (c1 : PySem.W.codeIn K cd1 "size_of" = true)
    (k1 : PySem.W.keepIn K (.ref f1) = true)
    (a2 : PySem.W.nsIn K mainGlobals "depth_of" = some (some (.ref f2)))
    (l2 : K.lookup f2 = some ⟨oc2, od2, .func (PySem.W.fnOf "depth_of" "depth_of" (defArgs s_depth_of) (defBody s_depth_of) (defScope s_depth_of) .none kV2 dc2 pm2 an2 cd2 ct2), sl2⟩)
    (c2 : PySem.W.codeIn K cd2 "depth_of" = true)
    (k2 : PySem.W.keepIn K (.ref f2) = true)
    (a3 : PySem.W.nsIn K mainGlobals "part_at" = some (some (.ref f3)))
    (l3 : K.lookup f3 = some ⟨oc3, od3, .func (PySem.W.fnOf "part_at" "part_at" (defArgs s_part_at) (defBody s_part_at) (defScope s_part_at) .none kV3 dc3 pm3 an3 cd3 ct3), sl3⟩)
    (c3 : PySem.W.codeIn K cd3 "part_at" = true)
    (k3 : PySem.W.keepIn K (.ref f3) = true)
    (a4 : PySem.W.nsIn K mainGlobals "replaced" = some (some (.ref f4)))
    (l4 : K.lookup f4 = some ⟨oc4, od4, .func (PySem.W.fnOf "replaced" "replaced" (defArgs s_replaced) (defBody s_replaced) (defScope s_replaced) .none kV4 dc4 pm4 an4 cd4 ct4), sl4⟩)
    (c4 : PySem.W.codeIn K cd4 "replaced" = true)
    (k4 : PySem.W.keepIn K (.ref f4) = true)
    (a5 : PySem.W.nsIn K mainGlobals "with_part" = some (some (.ref f5)))
    (l5 : K.lookup f5 = some ⟨oc5, od5, .func (PySem.W.fnOf "with_part" "with_part" (defArgs s_with_part) (defBody s_with_part) (defScope s_with_part) .none kV5 dc5 pm5 an5 cd5 ct5), sl5⟩)
    (c5 : PySem.W.codeIn K cd5 "with_part" = true)
    (k5 : PySem.W.keepIn K (.ref f5) = true)
    (a6 : PySem.W.nsIn K mainGlobals "mirrored" = some (some (.ref f6)))
    (l6 : K.lookup f6 = some ⟨oc6, od6, .func (PySem.W.fnOf "mirrored" "mirrored" (defArgs s_mirrored) (defBody s_mirrored) (defScope s_mirrored) .none kV6 dc6 pm6 an6 cd6 ct6), sl6⟩)
    (c6 : PySem.W.codeIn K cd6 "mirrored" = true)
    (k6 : PySem.W.keepIn K (.ref f6) = true)
    (a7 : PySem.W.nsIn K mainGlobals "each_node" = some (some (.ref f7)))
    (l7 : K.lookup f7 = some ⟨oc7, od7, .func (PySem.W.fnOf "each_node" "each_node" (defArgs s_each_node) (defBody s_each_node) (defScope s_each_node) .none kV7 dc7 pm7 an7 cd7 ct7), sl7⟩)
    (c7 : PySem.W.codeIn K cd7 "each_node" = true)
    (k7 : PySem.W.keepIn K (.ref f7) = true)
    (a8 : PySem.W.nsIn K mainGlobals "joined" = some (some (.ref f8)))
    (l8 : K.lookup f8 = some ⟨oc8, od8, .func (PySem.W.fnOf "joined" "joined" (defArgs s_joined) (defBody s_joined) (defScope s_joined) .none kV8 dc8 pm8 an8 cd8 ct8), sl8⟩)
    (c8 : PySem.W.codeIn K cd8 "joined" = true)
    (k8 : PySem.W.keepIn K (.ref f8) = true)
    (a9 : PySem.W.nsIn K mainGlobals "tree_text" = some (some (.ref f9)))
    (l9 : K.lookup f9 = some ⟨oc9, od9, .func (PySem.W.fnOf "tree_text" "tree_text" (defArgs s_tree_text) (defBody s_tree_text) (defScope s_tree_text) .none kV9 dc9 pm9 an9 cd9 ct9), sl9⟩)
    (c9 : PySem.W.codeIn K cd9 "tree_text" = true)
    (k9 : PySem.W.keepIn K (.ref f9) = true)
    (a10 : PySem.W.nsIn K mainGlobals "side_text" = some (some (.ref f10)))
    (l10 : K.lookup f10 = some ⟨oc10, od10, .func (PySem.W.fnOf "side_text" "side_text" (defArgs s_side_text) (defBody s_side_text) (defScope s_side_text) .none kV10 dc10 pm10 an10 cd10 ct10), sl10⟩)
    (c10 : PySem.W.codeIn K cd10 "side_text" = true)
    (k10 : PySem.W.keepIn K (.ref f10) = true)
    (a11 : PySem.W.nsIn K mainGlobals "_law_deck" = some (some (.ref f11)))
    (l11 : K.lookup f11 = some ⟨oc11, od11, .func (PySem.W.fnOf "_law_deck" "_law_deck" (defArgs s__law_deck) (defBody s__law_deck) (defScope s__law_deck) .none kV11 dc11 pm11 an11 cd11 ct11), sl11⟩)
    (c11 : PySem.W.codeIn K cd11 "_law_deck" = true)
    (k11 : PySem.W.keepIn K (.ref f11) = true)
    (a12 : PySem.W.nsIn K mainGlobals "_law_next" = some (some (.ref f12)))
    (l12 : K.lookup f12 = some ⟨oc12, od12, .func (PySem.W.fnOf "_law_next" "_law_next" (defArgs s__law_next) (defBody s__law_next) (defScope s__law_next) .none kV12 dc12 pm12 an12 cd12 ct12), sl12⟩)
    (c12 : PySem.W.codeIn K cd12 "_law_next" = true)
    (k12 : PySem.W.keepIn K (.ref f12) = true)
    (a13 : PySem.W.nsIn K mainGlobals "_law_same" = some (some (.ref f13)))
    (l13 : K.lookup f13 = some ⟨oc13, od13, .func (PySem.W.fnOf "_law_same" "_law_same" (defArgs s__law_same) (defBody s__law_same) (defScope s__law_same) .none kV13 dc13 pm13 an13 cd13 ct13), sl13⟩)
    (c13 : PySem.W.codeIn K cd13 "_law_same" = true)
    (k13 : PySem.W.keepIn K (.ref f13) = true)
    (a14 : PySem.W.nsIn K mainGlobals "_law_letters" = some (some (.ref f14)))
    (l14 : K.lookup f14 = some ⟨oc14, od14, .func (PySem.W.fnOf "_law_letters" "_law_letters" (defArgs s__law_letters) (defBody s__law_letters) (defScope s__law_letters) .none kV14 dc14 pm14 an14 cd14 ct14), sl14⟩)
    (c14 : PySem.W.codeIn K cd14 "_law_letters" = true)
    (k14 : PySem.W.keepIn K (.ref f14) = true)
    (a15 : PySem.W.nsIn K mainGlobals "_law_grown" = some (some (.ref f15)))
    (l15 : K.lookup f15 = some ⟨oc15, od15, .func (PySem.W.fnOf "_law_grown" "_law_grown" (defArgs s__law_grown) (defBody s__law_grown) (defScope s__law_grown) .none kV15 dc15 pm15 an15 cd15 ct15), sl15⟩)
    (c15 : PySem.W.codeIn K cd15 "_law_grown" = true)
    (k15 : PySem.W.keepIn K (.ref f15) = true)
    (a16 : PySem.W.nsIn K mainGlobals "_law_tree" = some (some (.ref f16)))
    (l16 : K.lookup f16 = some ⟨oc16, od16, .func (PySem.W.fnOf "_law_tree" "_law_tree" (defArgs s__law_tree) (defBody s__law_tree) (defScope s__law_tree) .none kV16 dc16 pm16 an16 cd16 ct16), sl16⟩)
    (c16 : PySem.W.codeIn K cd16 "_law_tree" = true)
    (k16 : PySem.W.keepIn K (.ref f16) = true)
    (a17 : PySem.W.nsIn K mainGlobals "_law_other_path" = some (some (.ref f17)))
    (l17 : K.lookup f17 = some ⟨oc17, od17, .func (PySem.W.fnOf "_law_other_path" "_law_other_path" (defArgs s__law_other_path) (defBody s__law_other_path) (defScope s__law_other_path) .none kV17 dc17 pm17 an17 cd17 ct17), sl17⟩)
    (c17 : PySem.W.codeIn K cd17 "_law_other_path" = true)
    (k17 : PySem.W.keepIn K (.ref f17) = true)
    (a18 : PySem.W.nsIn K mainGlobals "_law_part_right" = some (some (.ref f18)))
    (l18 : K.lookup f18 = some ⟨oc18, od18, .func (PySem.W.fnOf "_law_part_right" "_law_part_right" (defArgs s__law_part_right) (defBody s__law_part_right) (defScope s__law_part_right) .none kV18 dc18 pm18 an18 cd18 ct18), sl18⟩)
    (c18 : PySem.W.codeIn K cd18 "_law_part_right" = true)
    (k18 : PySem.W.keepIn K (.ref f18) = true)
    (a19 : PySem.W.nsIn K mainGlobals "_law_open_right" = some (some (.ref f19)))
    (l19 : K.lookup f19 = some ⟨oc19, od19, .func (PySem.W.fnOf "_law_open_right" "_law_open_right" (defArgs s__law_open_right) (defBody s__law_open_right) (defScope s__law_open_right) .none kV19 dc19 pm19 an19 cd19 ct19), sl19⟩)
    (c19 : PySem.W.codeIn K cd19 "_law_open_right" = true)
    (k19 : PySem.W.keepIn K (.ref f19) = true)
    (a20 : PySem.W.nsIn K mainGlobals "law" = some (some (.ref f20)))
    (l20 : K.lookup f20 = some ⟨oc20, od20, .func (PySem.W.fnOf "law" "law" (defArgs s_law) (defBody s_law) (defScope s_law) .none kV20 dc20 pm20 an20 cd20 ct20), sl20⟩)
    (c20 : PySem.W.codeIn K cd20 "law" = true)
    (k20 : PySem.W.keepIn K (.ref f20) = true)
    (z1 : PySem.W.nsIn K mainGlobals "len" = some none)
    (z2 : PySem.W.nsIn K mainGlobals "isinstance" = some none)
    (z3 : PySem.W.nsIn K mainGlobals "list" = some none)
    (z4 : PySem.W.nsIn K mainGlobals "tuple" = some none)
    (z5 : PySem.W.nsIn K mainGlobals "str" = some none)
    (z6 : PySem.W.nsIn K mainGlobals "int" = some none)
    (z7 : PySem.W.nsIn K mainGlobals "bool" = some none)
    (z8 : PySem.W.nsIn K mainGlobals "range" = some none)
    (z9 : PySem.W.nsIn K mainGlobals "sorted" = some none)
    (z10 : PySem.W.nsIn K mainGlobals "abs" = some none)
    (z11 : PySem.W.nsIn K mainGlobals "max" = some none)
    (z12 : PySem.W.nsIn K mainGlobals "set" = some none)
    (z13 : PySem.W.nsIn K mainGlobals "ValueError" = some none)
    (v1 : PySem.W.nsIn K mainGlobals "MAX_NODES" = some (some (.int 12 t1)))
    : ∀ (base : Heap) (H : Hp) (s : Shared) (a : Addr) (ns : List Int), K.In base → base.Ns mainGlobals mg → Env0 l.prog w K mg base callerA [] s H → SqL K H a (ns.map V.int) → ns.length ≤ 63 →
      codeAny (model l.prog w) callerA (.call (.ref fa) ⟨[.ref a], []⟩) (CR CX0 [] l.prog w H s (fun v _ => v = .bl true) fun _ _ _ => False) s := by
  intro base H s a ns _ _ en hS hn
  have e := hfa.symm.trans (PySem.W.mg_of X G a20)
  cases e
  have gC_TooLarge := PySem.W.mg_of X G a_TooLarge
  have gC_WalkError := PySem.W.mg_of X G a_WalkError
  have F1 := fun_mk (st := s_size_of) l1 c1 k1
  have g1 := PySem.W.mg_of X G a1
  have F2 := fun_mk (st := s_depth_of) l2 c2 k2
  have g2 := PySem.W.mg_of X G a2
  have F3 := fun_mk (st := s_part_at) l3 c3 k3
  have g3 := PySem.W.mg_of X G a3
  have F4 := fun_mk (st := s_replaced) l4 c4 k4
  have g4 := PySem.W.mg_of X G a4
  have F5 := fun_mk (st := s_with_part) l5 c5 k5
  have g5 := PySem.W.mg_of X G a5
  have F6 := fun_mk (st := s_mirrored) l6 c6 k6
  have g6 := PySem.W.mg_of X G a6
  have F7 := fun_mk (st := s_each_node) l7 c7 k7
  have g7 := PySem.W.mg_of X G a7
  have F8 := fun_mk (st := s_joined) l8 c8 k8
  have g8 := PySem.W.mg_of X G a8
  have F9 := fun_mk (st := s_tree_text) l9 c9 k9
  have g9 := PySem.W.mg_of X G a9
  have F10 := fun_mk (st := s_side_text) l10 c10 k10
  have g10 := PySem.W.mg_of X G a10
  have F11 := fun_mk (st := s__law_deck) l11 c11 k11
  have g11 := PySem.W.mg_of X G a11
  have F12 := fun_mk (st := s__law_next) l12 c12 k12
  have g12 := PySem.W.mg_of X G a12
  have F13 := fun_mk (st := s__law_same) l13 c13 k13
  have g13 := PySem.W.mg_of X G a13
  have F14 := fun_mk (st := s__law_letters) l14 c14 k14
  have g14 := PySem.W.mg_of X G a14
  have F15 := fun_mk (st := s__law_grown) l15 c15 k15
  have g15 := PySem.W.mg_of X G a15
  have F16 := fun_mk (st := s__law_tree) l16 c16 k16
  have g16 := PySem.W.mg_of X G a16
  have F17 := fun_mk (st := s__law_other_path) l17 c17 k17
  have g17 := PySem.W.mg_of X G a17
  have F18 := fun_mk (st := s__law_part_right) l18 c18 k18
  have g18 := PySem.W.mg_of X G a18
  have F19 := fun_mk (st := s__law_open_right) l19 c19 k19
  have g19 := PySem.W.mg_of X G a19
  have F20 := fun_mk (st := s_law) l20 c20 k20
  have m_len := PySem.W.mg_none_of X G z1
  have m_isinstance := PySem.W.mg_none_of X G z2
  have m_list := PySem.W.mg_none_of X G z3
  have m_tuple := PySem.W.mg_none_of X G z4
  have m_str := PySem.W.mg_none_of X G z5
  have m_int := PySem.W.mg_none_of X G z6
  have m_bool := PySem.W.mg_none_of X G z7
  have m_range := PySem.W.mg_none_of X G z8
  have m_sorted := PySem.W.mg_none_of X G z9
  have m_abs := PySem.W.mg_none_of X G z10
  have m_max := PySem.W.mg_none_of X G z11
  have m_set := PySem.W.mg_none_of X G z12
  have m_ValueError := PySem.W.mg_none_of X G z13
  have m1 := PySem.W.mg_of X G v1
  have b1 := F1.binds (ps := ["tree"]) fun _ _ _ _ _ _ us hl => match us, hl with | [_], _ => rfl
  have b2 := F2.binds (ps := ["tree"]) fun _ _ _ _ _ _ us hl => match us, hl with | [_], _ => rfl
  have b3 := F3.binds (ps := ["tree", "path"]) fun _ _ _ _ _ _ us hl => match us, hl with | [_, _], _ => rfl
  have b4 := F4.binds (ps := ["tree", "path", "part"]) fun _ _ _ _ _ _ us hl => match us, hl with | [_, _, _], _ => rfl
  have b5 := F5.binds (ps := ["tree", "path", "part"]) fun _ _ _ _ _ _ us hl => match us, hl with | [_, _, _], _ => rfl
  have b6 := F6.binds (ps := ["tree"]) fun _ _ _ _ _ _ us hl => match us, hl with | [_], _ => rfl
  have b7 := F7.binds (ps := ["tree"]) fun _ _ _ _ _ _ us hl => match us, hl with | [_], _ => rfl
  have b9 := F9.binds (ps := ["tree"]) fun _ _ _ _ _ _ us hl => match us, hl with | [_], _ => rfl
  have b10 := F10.binds (ps := ["side"]) fun _ _ _ _ _ _ us hl => match us, hl with | [_], _ => rfl
  have b11 := F11.binds (ps := ["_law_script"]) fun _ _ _ _ _ _ us hl => match us, hl with | [_], _ => rfl
  have b12 := F12.binds (ps := ["_law_deck_here", "_law_many"]) fun _ _ _ _ _ _ us hl => match us, hl with | [_, _], _ => rfl
  have b13 := F13.binds (ps := ["_law_found", "_law_due"]) fun _ _ _ _ _ _ us hl => match us, hl with | [_, _], _ => rfl
  have b14 := F14.binds (ps := ["_law_deck_here", "_law_size"]) fun _ _ _ _ _ _ us hl => match us, hl with | [_, _], _ => rfl
  have b15 := F15.binds (ps := ["_law_deck_here", "_law_size", "_law_way", "_law_letters_here"]) fun _ _ _ _ _ _ us hl => match us, hl with | [_, _, _, _], _ => rfl
  have b16 := F16.binds (ps := ["_law_deck_here", "_law_limit"]) fun _ _ _ _ _ _ us hl => match us, hl with | [_, _], _ => rfl
  have b17 := F17.binds (ps := ["_law_path"]) fun _ _ _ _ _ _ us hl => match us, hl with | [_], _ => rfl
  have b18 := F18.binds (ps := ["_law_tree_here", "_law_path", "_law_label"]) fun _ _ _ _ _ _ us hl => match us, hl with | [_, _, _], _ => rfl
  have b19 := F19.binds (ps := ["_law_tree_here", "_law_path"]) fun _ _ _ _ _ _ us hl => match us, hl with | [_, _], _ => rfl
  have E_TooLarge : Err_limit K mg "ValueError.__new__" veT "TooLarge" "TooLarge.__init__" C_TooLarge i_TooLarge :=
    { gC := gC_TooLarge, nd := by decide +kernel, cls := ⟨nm_TooLarge, q_TooLarge, N_TooLarge, bs_TooLarge, _, sn_TooLarge, sub_TooLarge, ab_TooLarge, col_TooLarge, dd_TooLarge, m0_TooLarge, m1_TooLarge, m2_TooLarge, m3_TooLarge, m5_TooLarge, x_TooLarge, by first | rfl | decide +kernel⟩, sa := sa_TooLarge, ga := ga_TooLarge, gg := gg_TooLarge, noN := nb_TooLarge, iC := ii_TooLarge, tC := ti_TooLarge, kC := kC_TooLarge, exC := eC_TooLarge, tyC := tC_TooLarge, hdC := hC_TooLarge,
      fn := ⟨_, _, _, _, _, _, _, _, _, _, _, _, _, _, li_TooLarge, ci_TooLarge⟩ }
  have X_TooLarge : ExcC K C_TooLarge := ⟨ga_TooLarge, gg_TooLarge, eC_TooLarge, hC_TooLarge, h1_TooLarge, h2_TooLarge, h3_TooLarge, h4_TooLarge⟩
  have M : Mgs mg := ⟨m_len, m_isinstance, m_list, m_tuple, m_str, m_int, m_bool, m_range⟩
  have ET : ErrT K mg C_TooLarge := ⟨gC_TooLarge, e1⟩
  have Dsize_of : Df l.prog w K mg base 20 "size_of" ["tree"] (spSz 20) := ⟨f1, _, ok_size F1 b1 g1 20, b1, k1, g1⟩
  have DsizeM : DfM l.prog w K mg base 20 "size_of" ["tree"] (spSz 20) := ⟨f1, _, ok_sizeM F1 b1 g1 20, b1, k1, g1⟩
  have Ddepth_of : Df l.prog w K mg base 20 "depth_of" ["tree"] (spDep 20) := ⟨f2, _, ok_depth F2 M m_max b2 g2 20, b2, k2, g2⟩
  have Dpart_at : Df l.prog w K mg base 1 "part_at" ["tree", "path"] spPart := ⟨f3, _, ok_part (k := 0) F3 M, b3, k3, g3⟩
  have Dwith_part : Df l.prog w K mg base 20 "with_part" ["tree", "path", "part"] (spWith 20) := ⟨f5, _, ok_with F5 b5 g5 20, b5, k5, g5⟩
  have Dreplaced : Df l.prog w K mg base 21 "replaced" ["tree", "path", "part"] spRepl := ⟨f4, _, ok_repl F4 m1 Dpart_at Dsize_of Dwith_part, b4, k4, g4⟩
  have DreplacedX : DfX l.prog w K mg base 21 "replaced" ["tree", "path", "part"] (spReplX C_TooLarge) := ⟨f4, _, ok_replX F4 m1 E_TooLarge Dpart_at Dsize_of Dwith_part, b4, k4, g4⟩
  have Dmirrored : Df l.prog w K mg base 20 "mirrored" ["tree"] (spMir 20) := ⟨f6, _, ok_mir F6 b6 g6 20, b6, k6, g6⟩
  have Deach : DfG l.prog w K mg base 2 "each_node" ["tree"] spEach := ⟨f7, _, ok_each F7, b7, k7, g7⟩
  have Djoined : DfR l.prog w K mg base 21 "joined" spJoined := ⟨f8, ok_joined F8 M m1 Dsize_of, k8, g8⟩
  have Dtree_text : Df l.prog w K mg base 40 "tree_text" ["tree"] (spText 20) := ⟨f9, _, ok_texts F9 b9 g9 F10 b10 g10 20, b9, k9, g9⟩
  have D_law_deck : Df l.prog w K mg base 1 "_law_deck" ["_law_script"] (spDeck K) := ⟨f11, _, ok_deck (k := 0) F11 m_len m_abs m_int, b11, k11, g11⟩
  have D_law_next : Df l.prog w K mg base 1 "_law_next" ["_law_deck_here", "_law_many"] spNext := ⟨f12, _, ok_next (k := 0) F12 m_len, b12, k12, g12⟩
  have D_law_same : Df l.prog w K mg base 20 "_law_same" ["_law_found", "_law_due"] (spSame K 20) := ⟨f13, _, ok_same F13 b13 g13 M 20, b13, k13, g13⟩
  have D_law_letters : Df l.prog w K mg base 2 "_law_letters" ["_law_deck_here", "_law_size"] spLett := ⟨f14, _, ok_lett (k := 1) F14 D_law_next.ok D_law_next.b D_law_next.kp D_law_next.g M m_sorted, b14, k14, g14⟩
  have D_law_grown : Df l.prog w K mg base 28 "_law_grown" ["_law_deck_here", "_law_size", "_law_way", "_law_letters_here"] (spGrown 27) := ⟨f15, _, ok_grown F15 b15 g15 D_law_next.ok D_law_next.b D_law_next.kp D_law_next.g 27, b15, k15, g15⟩
  have D_law_tree : Df l.prog w K mg base 29 "_law_tree" ["_law_deck_here", "_law_limit"] spTree := ⟨f16, _, ok_tree F16 D_law_next.ok D_law_next.b D_law_next.kp D_law_next.g D_law_letters.ok D_law_letters.b D_law_letters.kp D_law_letters.g D_law_grown.ok D_law_grown.b D_law_grown.kp D_law_grown.g, b16, k16, g16⟩
  have D_law_other_path : Df l.prog w K mg base 1 "_law_other_path" ["_law_path"] spOther := ⟨f17, _, ok_other (k := 0) F17 M, b17, k17, g17⟩
  have D_law_part_right : Df l.prog w K mg base 42 "_law_part_right" ["_law_tree_here", "_law_path", "_law_label"] spPR := ⟨f18, _, ok_pr F18 M Dpart_at Dsize_of Dreplaced D_law_same Djoined Dtree_text Dmirrored D_law_other_path Deach, b18, k18, g18⟩
  have D_law_open_right : Df l.prog w K mg base 23 "_law_open_right" ["_law_tree_here", "_law_path"] spOR := ⟨f19, _, ok_or F19 M E_TooLarge ET Dpart_at Dsize_of DsizeM DreplacedX Deach, b19, k19, g19⟩
  exact run_law F20 (.of_eq rfl) en hS M m_set m_max D_law_deck D_law_same D_law_tree Dsize_of Ddepth_of Dmirrored Deach D_law_part_right D_law_open_right
theorem walk_at {l : PySem.W.OpenLaw} {q : Program} {loose : List Str} {XP : (Str → Option Value) → Heap → Prop} {YP : World → Heap → Prop} {d : DefRec} {K : Params → PySem.W.Frag} (most : l.most = some 63) (noDf : d.params.defaults = [])
    (inK : ∀ (w : World) (h : Heap), YP w h → (K w.params).In h)
    (F : ∀ (w : World) (mg : Str → Option Value) (fa : Addr) (h : Heap), (K w.params).In h → h.Ns mainGlobals mg → mg d.name = some (.ref fa) →
      ∀ (base : Heap) (H : Hp) (s : Shared) (a : Addr) (ns : List Int), (K w.params).In base → base.Ns mainGlobals mg → Env0 l.prog w (K w.params) mg base callerA [] s H → SqL (K w.params) H a (ns.map V.int) → ns.length ≤ 63 →
        codeAny (model l.prog w) callerA (.call (.ref fa) ⟨[.ref a], []⟩) (CR CX0 [] l.prog w H s (fun v _ => v = .bl true) fun _ _ _ => False) s) :
    PySem.W.WalkO q loose XP YP l.row.toRowW d [] (fun f vs => PySem.call f vs) := by
  refine Att.attach_call most noDf ?_
  intro w s₀ s₁ mg mb fa o pm cd doc a vs ns G Y ho hd hcd hmg hobj hints hlen hg
  exact law_at (inK w _ Y) G.T.g G.T.b G.T.builtins G.T.nolimit hg hobj hints (Nat.le_trans hlen (by decide)) fun base H h1 h2 en hS => F w mg fa _ (inK w _ Y) G.T.g hmg base H s₁ a ns h1 h2 en hS hlen
end Tw
open PySem PySem.W PyProof.Rows
set_option maxRecDepth 100000 in
set_option maxHeartbeats 0 in
theorem PySem.Challenge.cw_treewalks_k74_whole_parts_paths_and_text_holds : PySem.Challenge.rw_treewalks_k74_whole_parts_paths_and_text.Holds := by
  w_on; o_law; k_head; (case hw => w_witness2)
  k_fill
  refine Tw.walk_at (l := PySem.Challenge.rw_treewalks_k74_whole_parts_paths_and_text) rfl rfl (fun w h Y => by first | exact PySem.W.kIn_of Y | exact PySem.W.km_in_of Y) ?F
  case F =>
    intro w mg fa h KX G hmg
    refine' Tw.all_mk KX G hmg ?a_TooLarge ?a_WalkError ?x_TooLarge ?sa_TooLarge ?ga_TooLarge ?gg_TooLarge ?nb_TooLarge ?ii_TooLarge ?ti_TooLarge ?li_TooLarge ?ci_TooLarge ?kC_TooLarge ?eC_TooLarge ?tC_TooLarge ?hC_TooLarge ?h1_TooLarge ?h2_TooLarge ?h3_TooLarge ?h4_TooLarge ?e1 ?a1 ?l1 ?c1 ?k1 ?a2 ?l2 ?c2 ?k2 ?a3 ?l3 ?c3 ?k3 ?a4 ?l4 ?c4 ?k4 ?a5 ?l5 ?c5 ?k5 ?a6 ?l6 ?c6 ?k6 ?a7 ?l7 ?c7 ?k7 ?a8 ?l8 ?c8 ?k8 ?a9 ?l9 ?c9 ?k9 ?a10 ?l10 ?c10 ?k10 ?a11 ?l11 ?c11 ?k11 ?a12 ?l12 ?c12 ?k12 ?a13 ?l13 ?c13 ?k13 ?a14 ?l14 ?c14 ?k14 ?a15 ?l15 ?c15 ?k15 ?a16 ?l16 ?c16 ?k16 ?a17 ?l17 ?c17 ?k17 ?a18 ?l18 ?c18 ?k18 ?a19 ?l19 ?c19 ?k19 ?a20 ?l20 ?c20 ?k20 ?z1 ?z2 ?z3 ?z4 ?z5 ?z6 ?z7 ?z8 ?z9 ?z10 ?z11 ?z12 ?z13 ?v1
    (case a_TooLarge => k_is)
    (case a_WalkError => k_is)
    (case x_TooLarge => k_is)
    (case sa_TooLarge => k_is)
    (case ga_TooLarge => k_is)
    (case gg_TooLarge => k_is)
    (case nb_TooLarge => k_is)
    (case ii_TooLarge => k_is)
    (case ti_TooLarge => k_is)
    (case li_TooLarge => k_is)
    (case ci_TooLarge => k_is)
    (case kC_TooLarge => k_is)
    (case eC_TooLarge => k_is)
    (case tC_TooLarge => k_is)
    (case hC_TooLarge => k_is)
    (case h1_TooLarge => k_is)
    (case h2_TooLarge => k_is)
    (case h3_TooLarge => k_is)
    (case h4_TooLarge => k_is)
    (case e1 => first | k_is | rfl | decide +kernel)
    (case a1 => k_is)
    (case l1 => k_is)
    (case c1 => k_is)
    (case k1 => k_is)
    (case a2 => k_is)
    (case l2 => k_is)
    (case c2 => k_is)
    (case k2 => k_is)
    (case a3 => k_is)
    (case l3 => k_is)
    (case c3 => k_is)
    (case k3 => k_is)
    (case a4 => k_is)
    (case l4 => k_is)
    (case c4 => k_is)
    (case k4 => k_is)
    (case a5 => k_is)
    (case l5 => k_is)
    (case c5 => k_is)
    (case k5 => k_is)
    (case a6 => k_is)
    (case l6 => k_is)
    (case c6 => k_is)
    (case k6 => k_is)
    (case a7 => k_is)
    (case l7 => k_is)
    (case c7 => k_is)
    (case k7 => k_is)
    (case a8 => k_is)
    (case l8 => k_is)
    (case c8 => k_is)
    (case k8 => k_is)
    (case a9 => k_is)
    (case l9 => k_is)
    (case c9 => k_is)
    (case k9 => k_is)
    (case a10 => k_is)
    (case l10 => k_is)
    (case c10 => k_is)
    (case k10 => k_is)
    (case a11 => k_is)
    (case l11 => k_is)
    (case c11 => k_is)
    (case k11 => k_is)
    (case a12 => k_is)
    (case l12 => k_is)
    (case c12 => k_is)
    (case k12 => k_is)
    (case a13 => k_is)
    (case l13 => k_is)
    (case c13 => k_is)
    (case k13 => k_is)
    (case a14 => k_is)
    (case l14 => k_is)
    (case c14 => k_is)
    (case k14 => k_is)
    (case a15 => k_is)
    (case l15 => k_is)
    (case c15 => k_is)
    (case k15 => k_is)
    (case a16 => k_is)
    (case l16 => k_is)
    (case c16 => k_is)
    (case k16 => k_is)
    (case a17 => k_is)
    (case l17 => k_is)
    (case c17 => k_is)
    (case k17 => k_is)
    (case a18 => k_is)
    (case l18 => k_is)
    (case c18 => k_is)
    (case k18 => k_is)
    (case a19 => k_is)
    (case l19 => k_is)
    (case c19 => k_is)
    (case k19 => k_is)
    (case a20 => k_is)
    (case l20 => k_is)
    (case c20 => k_is)
    (case k20 => k_is)
    (case z1 => k_is)
    (case z2 => k_is)
    (case z3 => k_is)
    (case z4 => k_is)
    (case z5 => k_is)
    (case z6 => k_is)
    (case z7 => k_is)
    (case z8 => k_is)
    (case z9 => k_is)
    (case z10 => k_is)
    (case z11 => k_is)
    (case z12 => k_is)
    (case z13 => k_is)
    (case v1 => k_is)
