import PyProof.Rows.All
import Wide.All
import OpenK.AllK
import Wide.FinOn
import HandS.ForMost
import HandS.ForExc
import HandS.Wide
import HandS.IsInst
import HandS.Flow
import HandS.FStrTup
import HandS.FStr
import HandS.NoneIn
import HandS.TupAny
import HandS.Style
import HandS.TryMany
import HandS.ExcIs
import HandS.ExcField
import HandS.ExcOwn
import KE.KExcInit
import KE.KExcIs
import HandS.Walk
import HandS.Zip
import HandS.Star
import HandS.Style
import PyProof.Rows.SortShellAny
import KE.GoesZip
import KE.GoesEnum
import KE.GoesMore
import KE.SortKeyHeap
import HandS.Lambda
import HandS.EndTab
import PyProof.CollectStr
import PyProof.P3Eq
import HandS.Sort
import HandS.Set
import HandS.SetFor
import HandS.Strs
import HandS.SetTxt0
import HandS.TupSets
import HandS.DictComp
import KE.KSortTupG
import KE.KSortTupUse
import HandS.More
import HandS.Replace
import PySem.Challenge.RW_treewalks_k04_nodes_and_joined_trees
import HandS.GenList
import PyProof.ToksMono
set_option Elab.async false
set_option maxRecDepth 100000
set_option maxHeartbeats 4000000
namespace Tw
open PySem PySem.Spec PyProof.Rows L2
/-! ### trees as data -/
inductive T where
  | nil
  | node (l : T) (x : Str) (r : T)
def T.size : T → Nat
  | .nil => 0
  | .node l _ r => l.size + 1 + r.size
def T.deep : T → Nat
  | .nil => 0
  | .node l _ r => 1 + max l.deep r.deep
def T.mir : T → T
  | .nil => .nil
  | .node l x r => .node r.mir x l.mir
def T.data : T → PyData
  | .nil => .none
  | .node l x r => .tuple [l.data, .str x, r.data]
theorem T.deep_le : ∀ t : T, t.deep ≤ t.size
  | .nil => Nat.le_refl _
  | .node l _ r => by
    have h1 := l.deep_le
    have h2 := r.deep_le
    show 1 + max l.deep r.deep ≤ l.size + 1 + r.size
    omega
theorem T.mir_size : ∀ t : T, t.mir.size = t.size
  | .nil => rfl
  | .node l _ r => by
    have h1 := l.mir_size
    have h2 := r.mir_size
    show r.mir.size + 1 + l.mir.size = l.size + 1 + r.size
    omega
/-- the tree t lies at v -/
inductive TreeAt (H : Hp) : V → T → Prop
  | nil : TreeAt H .non .nil
  | node {a : Addr} {l r : V} {x : Str} {tl tr : T} : H a = some (.tup [l, .str x, r]) → TreeAt H l tl → TreeAt H r tr → TreeAt H (.ref a) (.node tl x tr)
/-- tuples stand still -/
def KeepT (H H' : Hp) : Prop := ∀ b xs, H b = some (.tup xs) → H' b = some (.tup xs)
theorem KeepT.refl (H : Hp) : KeepT H H := fun _ _ h => h
theorem KeepT.trans {H H1 H2 : Hp} (a : KeepT H H1) (b : KeepT H1 H2) : KeepT H H2 := fun c xs h => b c xs (a c xs h)
theorem Same.keepT {H H' : Hp} (h : Same H H') : KeepT H H' := fun b xs e => h b _ e
theorem TreeAt.keep {H H' : Hp} (k : KeepT H H') {v : V} {t : T} (h : TreeAt H v t) : TreeAt H' v t := by
  induction h with
  | nil => exact .nil
  | node e _ _ h1 h2 => exact .node (k _ _ e) h1 h2
theorem TreeAt.same {H H' : Hp} (k : Same H H') {v : V} {t : T} (h : TreeAt H v t) : TreeAt H' v t := h.keep (Tw.Same.keepT k)
theorem TreeAt.dp {K : PySem.W.Frag} {H : Hp} {v : V} {t : T} (h : TreeAt H v t) : Dp K H v t.data := by
  induction h with
  | nil => exact .non
  | node e _ _ h1 h2 => exact .tup (SqT.of e) (.cons h1 (.cons (.str _) (.cons h2 .nil)))
theorem TreeAt.inv {H : Hp} {v : V} {t : T} (h : TreeAt H v t) : (v = .non ∧ t = .nil) ∨ ∃ a l r x tl tr, v = .ref a ∧ t = .node tl x tr ∧ H a = some (.tup [l, .str x, r]) ∧ TreeAt H l tl ∧ TreeAt H r tr := by
  cases h with
  | nil => exact .inl ⟨rfl, rfl⟩
  | node e h1 h2 => exact .inr ⟨_, _, _, _, _, _, rfl, rfl, e, h1, h2⟩
theorem same_new {H : Hp} {p : Addr} (h : H p = none) (o : HO) : Same H (upd H p o) := fun b u q => by rw [upd_ne (ne_of_none q h)]; exact q
theorem small {n : Nat} (h : n ≤ 1000) : n ≤ sizeLine := Nat.le_of_lt (small1000 h)
/-- a def that stands at a name, with its promise -/
structure Df (P : Program) (w : World) (K : PySem.W.Frag) (mg : Str → Option Value) (base : Heap) (k : Nat) (nm : Str) (ps : List Str) (sp : Sp) where
  f : Addr
  fd : FuncData
  ok : FnOk P w K mg base CX0 k f fd ps sp
  b : Binds K fd ps []
  kp : PySem.W.keepIn K (.ref f) = true
  g : mg nm = some (.ref f)
/-! ### the text by places -/
def top (i : Nat) : Stmt := PySem.Challenge.pw_treewalks_k04_nodes_and_joined_trees.main.body.getD i (.Pass ⟨0, 0, 0, 0⟩)
abbrev s_size_of : Stmt := top 8
abbrev s_each_node : Stmt := top 9
abbrev s_joined : Stmt := top 10
abbrev s__law_deck : Stmt := top 12
abbrev s__law_next : Stmt := top 13
abbrev s__law_one : Stmt := top 14
abbrev s__law_same : Stmt := top 15
abbrev s__law_letters : Stmt := top 16
abbrev s__law_grown : Stmt := top 17
abbrev s__law_tree : Stmt := top 18
abbrev s__law_count : Stmt := top 19
abbrev s__law_nodes : Stmt := top 20
abbrev s__law_call : Stmt := top 21
abbrev s__law_told : Stmt := top 22
abbrev s__law_due : Stmt := top 23
abbrev s_law : Stmt := top 24
abbrev s_TooLarge___init__ : Stmt := inClass (top 3) 0
abbrev s_TooMany___init__ : Stmt := inClass (top 4) 0
abbrev s_NotOpen___init__ : Stmt := inClass (top 6) 0
theorem sc_size_of : FnScope ["tree"] ["tree"] (defScope s_size_of) := ⟨rfl, rfl, rfl, by decide +kernel, rfl, by decide +kernel, by decide +kernel⟩
theorem sc__law_deck : FnScope ["_law_script", "_law_cell", "_law_cells"] ["_law_script"] (defScope s__law_deck) := ⟨rfl, rfl, rfl, by decide +kernel, rfl, by decide +kernel, by decide +kernel⟩
theorem sc__law_next : FnScope ["_law_deck_here", "_law_many", "_law_cells", "_law_rests", "_law_count_here", "_law_index", "_law_digit", "_law_mixed"] ["_law_deck_here", "_law_many"] (defScope s__law_next) := ⟨rfl, rfl, rfl, by decide +kernel, rfl, by decide +kernel, by decide +kernel⟩
theorem sc__law_one : FnScope ["_law_deck_here", "_law_items"] ["_law_deck_here", "_law_items"] (defScope s__law_one) := ⟨rfl, rfl, rfl, by decide +kernel, rfl, by decide +kernel, by decide +kernel⟩
theorem sc__law_same : FnScope ["_law_found", "_law_due_here", "_law_k"] ["_law_found", "_law_due_here"] (defScope s__law_same) := ⟨rfl, rfl, rfl, by decide +kernel, rfl, by decide +kernel, by decide +kernel⟩
theorem sc__law_letters : FnScope ["_law_deck_here", "_law_size", "_law_way", "_law_some", "_law_k", "_law_found"] ["_law_deck_here", "_law_size"] (defScope s__law_letters) := ⟨rfl, rfl, rfl, by decide +kernel, rfl, by decide +kernel, by decide +kernel⟩
theorem sc__law_grown : FnScope ["_law_deck_here", "_law_size", "_law_way", "_law_letters_here", "_law_many", "_law_left"] ["_law_deck_here", "_law_size", "_law_way", "_law_letters_here"] (defScope s__law_grown) := ⟨rfl, rfl, rfl, by decide +kernel, rfl, by decide +kernel, by decide +kernel⟩
theorem sc__law_tree : FnScope ["_law_deck_here", "_law_limit", "_law_size", "_law_way"] ["_law_deck_here", "_law_limit"] (defScope s__law_tree) := ⟨rfl, rfl, rfl, by decide +kernel, rfl, by decide +kernel, by decide +kernel⟩
theorem sc__law_count : FnScope ["_law_value", "_law_left", "_law_right"] ["_law_value"] (defScope s__law_count) := ⟨rfl, rfl, rfl, by decide +kernel, rfl, by decide +kernel, by decide +kernel⟩
theorem sc__law_nodes : FnScope ["_law_tree_here", "_law_found", "_law_waiting", "_law_path", "_law_part"] ["_law_tree_here"] (defScope s__law_nodes) := ⟨rfl, rfl, rfl, by decide +kernel, rfl, by decide +kernel, by decide +kernel⟩
theorem sc__law_call : FnScope ["_law_label", "_law_some"] ["_law_label", "_law_some"] (defScope s__law_call) := ⟨rfl, rfl, rfl, by decide +kernel, rfl, by decide +kernel, by decide +kernel⟩
theorem sc__law_told : FnScope ["_law_label", "_law_some", "error"] ["_law_label", "_law_some"] (defScope s__law_told) := ⟨rfl, rfl, rfl, by decide +kernel, rfl, by decide +kernel, by decide +kernel⟩
theorem sc__law_due : FnScope ["_law_label", "_law_some", "_law_tree_here", "_law_left", "_law_right"] ["_law_label", "_law_some"] (defScope s__law_due) := ⟨rfl, rfl, rfl, by decide +kernel, rfl, by decide +kernel, by decide +kernel⟩
theorem sc_law : FnScope ["_law_script", "_law_deck_here", "_law_turn", "_law_tree_here", "_law_seen", "_law_kept", "_law_due_here", "_law_stop", "_law_node", "_law_label", "_law_trees", "_law_many", "_law_k", "_law_drawn", "_law_some", "_law_held", "_law_told_here", "_law_found"] ["_law_script"] (defScope s_law) := ⟨rfl, rfl, rfl, by decide +kernel, rfl, by decide +kernel, by decide +kernel⟩
theorem sc_TooLarge___init__ : FnScope ["self", "limit"] ["self", "limit"] (defScope s_TooLarge___init__) := ⟨rfl, rfl, rfl, by decide +kernel, rfl, by decide +kernel, by decide +kernel⟩
theorem sc_TooMany___init__ : FnScope ["self", "limit"] ["self", "limit"] (defScope s_TooMany___init__) := ⟨rfl, rfl, rfl, by decide +kernel, rfl, by decide +kernel, by decide +kernel⟩
theorem sc_NotOpen___init__ : FnScope ["self", "path"] ["self", "path"] (defScope s_NotOpen___init__) := ⟨rfl, rfl, rfl, by decide +kernel, rfl, by decide +kernel, by decide +kernel⟩
abbrev sDeck : Stmt := s__law_deck
abbrev sNext : Stmt := s__law_next
abbrev sSame : Stmt := s__law_same
abbrev sLett : Stmt := s__law_letters
abbrev sGrown : Stmt := s__law_grown
abbrev sTree : Stmt := s__law_tree
/-! ### the deck -/
structure Deck where
  dk : Addr
  ca : Addr
  ra : Addr
structure DeckOk (H : Hp) (D : Deck) (n : Nat) : Prop where
  ex : ∃ cells rests : List Int, H D.dk = some (.lst [.ref D.ca, .ref D.ra, .int (n : Int)]) ∧ H D.ca = some (.lst (cells.map V.int)) ∧ H D.ra = some (.lst (rests.map V.int)) ∧ 0 < cells.length ∧ rests.length = cells.length ∧ cells.length ≤ 61
  dc : D.dk ≠ D.ca
  dr : D.dk ≠ D.ra
  cr : D.ca ≠ D.ra
/-- all stands still but the deck's list and its rests -/
def SameD (D : Deck) (H H' : Hp) : Prop := ∀ b o, b ≠ D.dk → b ≠ D.ra → H b = some o → H' b = some o
theorem SameD.refl (D : Deck) (H : Hp) : SameD D H H := fun _ _ _ _ h => h
theorem SameD.trans {D : Deck} {H H1 H2 : Hp} (a : SameD D H H1) (b : SameD D H1 H2) : SameD D H H2 := fun c o h1 h2 h => b c o h1 h2 (a c o h1 h2 h)
theorem SameD.of {D : Deck} {H H' : Hp} (h : Same H H') : SameD D H H' := fun b o _ _ e => h b o e
theorem DeckOk.lists {H : Hp} {D : Deck} {n : Nat} (d : DeckOk H D n) : (∃ xs, H D.dk = some (.lst xs)) ∧ (∃ xs, H D.ra = some (.lst xs)) := by
  obtain ⟨c, r, h1, _, h3, _⟩ := d.ex
  exact ⟨⟨_, h1⟩, ⟨_, h3⟩⟩
theorem SameD.keepT {D : Deck} {H H' : Hp} {n : Nat} (h : SameD D H H') (d : DeckOk H D n) : KeepT H H' := fun b xs e => by
  obtain ⟨⟨x1, h1⟩, ⟨x2, h2⟩⟩ := d.lists
  exact h b _ (ne_of e h1 (by intro z; cases z)) (ne_of e h2 (by intro z; cases z)) e
theorem SameD.free {D : Deck} {H H' : Hp} {n : Nat} (h : SameD D H H') (d : DeckOk H' D n) {p : Addr} (e : H' p = none) : H p = none := by
  obtain ⟨⟨x1, h1⟩, ⟨x2, h2⟩⟩ := d.lists
  have n1 : p ≠ D.dk := fun z => by rw [z, h1] at e; cases e
  have n2 : p ≠ D.ra := fun z => by rw [z, h2] at e; cases e
  cases q : H p with
  | none => rfl
  | some o =>
    rw [h p o n1 n2 q] at e
    cases e
theorem DeckOk.same {H H' : Hp} {D : Deck} {n : Nat} (d : DeckOk H D n) (h : Same H H') : DeckOk H' D n := by
  obtain ⟨c, r, h1, h2, h3, h4⟩ := d.ex
  exact ⟨⟨c, r, h _ _ h1, h _ _ h2, h _ _ h3, h4⟩, d.dc, d.dr, d.cr⟩
structure Off (D : Deck) (p : Addr) : Prop where
  dk : p ≠ D.dk
  ca : p ≠ D.ca
  ra : p ≠ D.ra
theorem DeckOk.new {H : Hp} {D : Deck} {n : Nat} (d : DeckOk H D n) {p : Addr} (e : H p = none) : Off D p := by
  obtain ⟨c, r, h1, h2, h3, _⟩ := d.ex
  refine ⟨fun z => ?_, fun z => ?_, fun z => ?_⟩
  · rw [z, h1] at e
    cases e
  · rw [z, h2] at e
    cases e
  · rw [z, h3] at e
    cases e
theorem DeckOk.put {H : Hp} {D : Deck} {n : Nat} (d : DeckOk H D n) {p : Addr} (f : Off D p) (o : HO) : DeckOk (upd H p o) D n := by
  obtain ⟨c, r, h1, h2, h3, h4⟩ := d.ex
  exact ⟨⟨c, r, by rw [upd_ne f.dk.symm]; exact h1, by rw [upd_ne f.ca.symm]; exact h2, by rw [upd_ne f.ra.symm]; exact h3, h4⟩, d.dc, d.dr, d.cr⟩
theorem SameD.put {D : Deck} {H H' : Hp} {p : Addr} (s : SameD D H H') (e : H p = none) (o : HO) : SameD D H (upd H' p o) := fun b u h1 h2 h => by
  rw [upd_ne (ne_of_none h e)]
  exact s b u h1 h2 h
theorem SameD.at {D : Deck} {H H' : Hp} {p : Addr} {o : HO} (s : SameD D H H') (f : Off D p) (e : H p = some o) : H' p = some o := s p o f.dk f.ra e
theorem at_map {α : Type} {f : α → V} {ns : List α} {i : Int} {v : α} (h0 : 0 ≤ i) (h : ns[i.toNat]? = some v) : atI (ns.map f) i = some (f v) := by
  have e : i = ((i.toNat : Nat) : Int) := by omega
  rw [e]
  exact atI_nat (by rw [List.getElem?_map, h]; rfl)
theorem rep_flat {α : Type} (a : α) : ∀ m : Nat, (List.replicate m [a]).flatten = List.replicate m a
  | 0 => rfl
  | m + 1 => by
    rw [List.replicate_succ, List.replicate_succ, List.flatten_cons, rep_flat a m]
    rfl
theorem at_int {ns : List Int} {i : Int} {v : Int} (h0 : 0 ≤ i) (h : ns[i.toNat]? = some v) : atI (ns.map V.int) i = some (.int v) := by
  have e : i = ((i.toNat : Nat) : Int) := by omega
  rw [e]
  exact atI_nat (by rw [List.getElem?_map, h]; rfl)
theorem ixN_nat {n : Nat} {i : Int} (h0 : 0 ≤ i) (h : i < n) : ixN n i = some i.toNat := by
  unfold ixN
  first
    | rw [if_pos h0, if_pos h]
    | (rw [if_pos h0]; rw [if_pos (by omega)])
    | simp [h0, h]
theorem mod1 (z : Int) : -(2 ^ 64) < z % 2305843009213693951 ∧ z % 2305843009213693951 < 2 ^ 64 := by
  have a := Int.emod_nonneg z (show (2305843009213693951 : Int) ≠ 0 by decide)
  have b := Int.emod_lt_of_pos z (show (0 : Int) < 2305843009213693951 by decide)
  omega
theorem mod2 (z : Int) : -(2 ^ 64) < z % 2305843009213693921 ∧ z % 2305843009213693921 < 2 ^ 64 := by
  have a := Int.emod_nonneg z (show (2305843009213693921 : Int) ≠ 0 by decide)
  have b := Int.emod_lt_of_pos z (show (0 : Int) < 2305843009213693921 by decide)
  omega
def spNext : Sp := fun vs H Q _ => ∃ (D : Deck) (n : Nat) (m : Int), vs = [.ref D.dk, .int m] ∧ DeckOk H D n ∧ n ≤ 1000000 ∧ 0 < m ∧ m ≤ 1000 ∧ ∀ (i : Int) (H' : Hp), 0 ≤ i → i < m → DeckOk H' D (n + 1) → SameD D H H' → Q (.int i) H'
theorem scNext : FnScope ["_law_deck_here", "_law_many", "_law_cells", "_law_rests", "_law_count_here", "_law_index", "_law_digit", "_law_mixed"] ["_law_deck_here", "_law_many"] (defScope sNext) := ⟨rfl, rfl, rfl, by decide +kernel, rfl, by decide +kernel, by decide +kernel⟩
section
variable {P : Program} {w : World} {K : PySem.W.Frag} {mg : Str → Option Value} {base : Heap} {f : Addr} {fd : FuncData}
theorem ok_next {k : Nat} (F : Fun K "_law_next" "_law_next" sNext f fd) (ml : mg "len" = none) : FnOk P w K mg base CX0 (k + 1) f fd ["_law_deck_here", "_law_many"] spNext := by
  refine F.ok scNext (fun vs H Q E h => ?_) (fun cdv A outer s H vs Q E hr h => ?_)
  · obtain ⟨D, n, m, rfl, _⟩ := h
    rfl
  obtain ⟨D, n, m, rfl, d, hn, m0, m1, q⟩ := h
  obtain ⟨cells, rests, e1, e2, e3, c0, cr, c1⟩ := d.ex
  refine ⟨_, pss_cons (ps_asg (pv 0) (pg_unl rfl (pgs_cons (pg_name (i := 2) scNext.nd rfl (.inl rfl)) (pgs_cons (pg_name (i := 3) scNext.nd rfl (.inl rfl)) (pgs_cons (pg_name (i := 4) scNext.nd rfl (.inl rfl)) pgs_nil)))))
    (pss_cons (ps_asg (pe_op op_add (pv 4) pe_int) (pg_sub (pv 0) pe_int set_list))
    (pss_cons (ps_set (i := 5) scNext.nd rfl (.inl rfl) (pe_op op_mod (pv 4) (pe_callB call_len_seq rfl ml PySem.boot_len (pa_cons (pv 2) pa_nil))))
    (pss_cons (ps_if (pt_cmpR op_gt (pe_ix ix_list (pv 3) (pv 5) (fun _ _ => rfl)) pe_int (nomark _))
      (pss_cons (ps_set (i := 6) scNext.nd rfl (.inl rfl) (pe_op op_mod (pe_ix ix_list (pv 3) (pv 5) (fun _ _ => rfl)) (pv 1)))
      (pss_cons (ps_asg (pe_op op_fdiv (pe_ix ix_list (pv 3) (pv 5) (fun _ _ => rfl)) (pv 1)) (pg_sub (pv 3) (pv 5) set_list))
      (pss_one (ps_ret (pv 6))))) pss_nil)
    (pss_cons (ps_set (i := 7) scNext.nd rfl (.inl rfl) (pe_op op_mul (pe_op op_add (pe_op op_add (pe_ix ix_list (pv 2) (pv 5) (fun _ _ => rfl)) (pe_op op_mul pe_int (pv 4))) pe_int) (pe_op op_add pe_int (pe_op op_mul pe_int (pv 4)))))
    (pss_cons (ps_set (i := 7) scNext.nd rfl (.inl rfl) (pe_op op_mod (pe_op op_add (pv 7) (pe_op op_mul pe_int (pv 4))) pe_int))
    (pss_cons (ps_set (i := 7) scNext.nd rfl (.inl rfl) (pe_op op_mod (pe_op op_add (pe_op op_mul (pv 7) (pv 7)) pe_int) pe_int))
    (pss_cons (ps_set (i := 7) scNext.nd rfl (.inl rfl) (pe_op op_mod (pe_op op_mul (pv 7) (pv 7)) pe_int))
    (pss_one (ps_ret (pe_op op_mod (pe_op op_fdiv (pv 7) pe_int) (pv 1))))))))))), ?_⟩
  -- the three parts
  refine ⟨_, rfl, D.dk, _, rfl, SqL.of e1, rfl, _, _, rfl, _, _, rfl, _, _, rfl, rfl, ?_⟩
  -- deck[2] = count + 1
  refine ⟨_, rfl, _, _, rfl, rfl, _, rfl, D.dk, _, _, 2, rfl, rfl, e1, rfl, ?_⟩
  have x2 : (upd H D.dk (.lst [.ref D.ca, .ref D.ra, .int ((n : Int) + 1)])) D.ca = some (.lst (cells.map V.int)) := by rw [upd_ne d.dc.symm]; exact e2
  have x3 : (upd H D.dk (.lst [.ref D.ca, .ref D.ra, .int ((n : Int) + 1)])) D.ra = some (.lst (rests.map V.int)) := by rw [upd_ne d.dr.symm]; exact e3
  have x1 : (upd H D.dk (.lst [.ref D.ca, .ref D.ra, .int ((n : Int) + 1)])) D.dk = some (.lst [.ref D.ca, .ref D.ra, .int ((n + 1 : Nat) : Int)]) := upd_same
  have sd : SameD D H (upd H D.dk (.lst [.ref D.ca, .ref D.ra, .int ((n : Int) + 1)])) := fun b o h1 _ e => by rw [upd_ne h1]; exact e
  have cl : ((cells.map V.int).length : Int) = (cells.length : Int) := by rw [List.length_map]
  have rl : ((rests.map V.int).length : Int) = (cells.length : Int) := by rw [List.length_map, cr]
  -- index
  refine ⟨_, rfl, _, rfl, D.ca, _, rfl, .inl (SqL.of x2), _, _, rfl, rfl, (by show (0 : Int) < ((cells.map V.int).length : Int); rw [cl]; omega), ?_⟩
  have i0 : 0 ≤ (n : Int) % ((cells.map V.int).length : Int) := Int.emod_nonneg _ (by rw [cl]; omega)
  have i1 : (n : Int) % ((cells.map V.int).length : Int) < (cells.length : Int) := by
    rw [cl]
    exact Int.emod_lt_of_pos _ (by omega)
  have l1 : ((n : Int) % ((cells.map V.int).length : Int)).toNat < rests.length := by omega
  have l2 : ((n : Int) % ((cells.map V.int).length : Int)).toNat < cells.length := by omega
  have a1 := at_int i0 (List.getElem?_eq_getElem l1)
  have a2 := at_int i0 (List.getElem?_eq_getElem l2)
  refine ⟨_, rfl, _, rfl, D.ra, _, _, _, rfl, rfl, SqL.of x3, a1, _, _, rfl, rfl, _, rfl, ite2 (fun _ => ?_) (fun _ => ?_)⟩
  · refine ⟨_, rfl, _, rfl, D.ra, _, _, _, rfl, rfl, SqL.of x3, a1, _, rfl, _, _, rfl, rfl, m0, ?_⟩
    refine ⟨_, rfl, _, rfl, D.ra, _, _, _, rfl, rfl, SqL.of x3, a1, _, rfl, _, _, rfl, rfl, ⟨m0, by omega⟩, ?_⟩
    refine ⟨_, rfl, _, rfl, D.ra, _, _, _, rfl, rfl, x3, ixN_nat i0 (by rw [rl]; exact i1), ?_⟩
    refine ⟨_, rfl, ?_⟩
    refine q _ _ (Int.emod_nonneg _ (by omega)) (Int.emod_lt_of_pos _ m0) ⟨⟨cells, rests.set ((n : Int) % ((cells.map V.int).length : Int)).toNat (rests[((n : Int) % ((cells.map V.int).length : Int)).toNat] / m), ?_, ?_, ?_, c0, ?_, c1⟩, d.dc, d.dr, d.cr⟩ ?_
    · rw [upd_ne d.dr]; exact x1
    · rw [upd_ne d.cr]; exact x2
    · rw [upd_same, List.map_set]
    · rw [List.length_set]; exact cr
    · exact sd.trans fun b o _ h2 e => by rw [upd_ne h2]; exact e
  · refine ⟨_, rfl, _, rfl, D.ca, _, _, _, rfl, rfl, SqL.of x2, a2, _, rfl, _, _, rfl, rfl, .inl ⟨by decide, by decide⟩, _, _, rfl, rfl, _, _, rfl, rfl, _, rfl, _, _, rfl, rfl, .inl ⟨by decide, by decide⟩, _, _, rfl, rfl, _, _, rfl, rfl, .inr ⟨by omega, by omega⟩, ?_⟩
    refine ⟨_, rfl, _, rfl, _, _, rfl, rfl, .inl ⟨by decide, by decide⟩, _, _, rfl, rfl, _, _, rfl, rfl, (show (0 : Int) < 2305843009213693951 by decide), ?_⟩
    refine ⟨_, rfl, _, rfl, _, _, rfl, rfl, .inl (mod1 _), _, _, rfl, rfl, _, _, rfl, rfl, (show (0 : Int) < 2305843009213693921 by decide), ?_⟩
    refine ⟨_, rfl, _, rfl, _, _, rfl, rfl, .inl (mod2 _), _, _, rfl, rfl, (show (0 : Int) < 2305843009213693951 by decide), ?_⟩
    refine ⟨_, rfl, _, _, rfl, rfl, ⟨by decide, by decide⟩, _, rfl, _, _, rfl, rfl, m0, ?_⟩
    exact q _ _ (Int.emod_nonneg _ (by omega)) (Int.emod_lt_of_pos _ m0) ⟨⟨cells, rests, x1, x2, x3, c0, cr, c1⟩, d.dc, d.dr, d.cr⟩ sd
end
/-! ### _law_deck -/
theorem cut_to (xs : List V) (k : Nat) : cutV xs none (some (k : Int)) = xs.take k := by
  unfold cutV
  rw [HT.sIx_nat, HT.sIx_none, List.drop_zero, Nat.sub_zero]
  rw [Nat.min_def]
  split
  · rfl
  · rw [List.take_of_length_le (Nat.le_refl _), List.take_of_length_le (by omega)]
theorem cut_from (xs : List V) (k : Nat) : cutV xs (some (k : Int)) none = xs.drop k := by
  unfold cutV
  rw [HT.sIx_nat, HT.sIx_none]
  by_cases h : k ≤ xs.length
  · rw [Nat.min_eq_left h, List.take_of_length_le (by rw [List.length_drop]; omega)]
  · rw [Nat.min_eq_right (by omega), List.drop_eq_nil_of_le (Nat.le_refl _), List.drop_eq_nil_of_le (by omega), List.take_nil]
theorem kept {σ : L2.St} {H : Hp} {A B : Hp → Prop} (h : A H) : tYes σ H (fun b H3 => if b = true then A H3 else B H3) := by
  show if true = true then A H else B H
  exact iteT h
theorem scDeck : FnScope ["_law_script", "_law_cells", "_law_cell"] ["_law_script"] (defScope sDeck) := ⟨rfl, rfl, rfl, by decide +kernel, rfl, by decide +kernel, by decide +kernel⟩
def spDeck (K : PySem.W.Frag) : Sp := fun vs H Q _ => ∃ (a : Addr) (ns : List Int), vs = [.ref a] ∧ SqL K H a (ns.map V.int) ∧ ∀ (D : Deck) (H' : Hp), DeckOk H' D 0 → Same H H' → Q (.ref D.dk) H'
section
variable {P : Program} {w : World} {K : PySem.W.Frag} {mg : Str → Option Value} {base : Heap} {f : Addr} {fd : FuncData}
theorem ok_deck {k : Nat} (F : Fun K "_law_deck" "_law_deck" sDeck f fd) (ml : mg "len" = none) (ma : mg "abs" = none) (mi : mg "int" = none) : FnOk P w K mg base CX0 (k + 1) f fd ["_law_script"] (spDeck K) := by
  refine F.ok scDeck (fun vs H Q E h => ?_) (fun cdv A outer s H vs Q E hr h => ?_)
  · obtain ⟨a, ns, rfl, _⟩ := h
    rfl
  obtain ⟨a, ns, rfl, hS, q⟩ := h
  refine ⟨_, pss_cons (ps_set (i := 1) scDeck.nd rfl (.inl rfl) (pe_op op_cat
      (pe_lc (own := [("_law_cell", 2)]) (g := gName 2) (tt := tYes) rfl scDeck.nd (pi_list (pe_slice sl_list (pv 0) po_none (po_some pe_int))) (blkOk_by (N := ["_law_script", "_law_cells", "_law_cell"]) (sc := defScope sDeck) (by decide +kernel))
        (fun _ _ _ _ _ => pg_name (i := 2) scDeck.nd rfl (Or.inl rfl)) (fun _ _ _ _ _ => pts_nil) (fun _ _ _ _ _ => pe_callB call_abs rfl ma (by decide +kernel) (pa_cons (pv 2) pa_nil)))
      (pe_op op_rep (pe_lst (pa_cons pe_int pa_nil)) (pe_callTy call_int1 rfl mi (by decide +kernel) (pa_cons (pe_cmpR op_eq (pe_callB call_len_seq rfl ml PySem.boot_len (pa_cons (pv 0) pa_nil)) pe_int (nomark _)) pa_nil)))))
    (pss_one (ps_ret (pe_lst (pa_cons (pv 1) (pa_cons
      (pe_lc (own := [("_law_cell", 2)]) (g := gName 2) (tt := tYes) rfl scDeck.nd (pi_list (pv 1)) (blkOk_by (N := ["_law_script", "_law_cells", "_law_cell"]) (sc := defScope sDeck) (by decide +kernel))
        (fun _ _ _ _ _ => pg_name (i := 2) scDeck.nd rfl (Or.inl rfl)) (fun _ _ _ _ _ => pts_nil)
        (fun _ _ _ _ _ => pe_op op_mul (pv 2) (pe_callTy call_int1 rfl mi (by decide +kernel) (pa_cons (pe_cmpR op_ge (pv 2) (pe_op op_pow pe_int pe_int) (nomark _)) pa_nil))))
      (pa_cons pe_int pa_nil)))))), ?_⟩
  refine ⟨.ref a, rfl, 61, rfl, a, ns.map V.int, rfl, hS, fun c nc => ?_⟩
  rw [show (61 : Int) = ((61 : Nat) : Int) from rfl, cut_to, ← List.map_take]
  have s1 := same_new nc (.lst ((ns.take 61).map V.int))
  refine ⟨c, rfl, ⟨_, SqL.of upd_same⟩, fun d1 n1 => ?_⟩
  have s2 := same_new n1 (.lst [])
  refine lc_list (K := K) (a := c) (xs := (ns.take 61).map V.int) (fun i H' => Same (upd H c (.lst ((ns.take 61).map V.int))) H' ∧ ∃ zs : List Int, zs.length = i ∧ H' d1 = some (.lst (zs.map V.int))) ⟨s2, [], rfl, upd_same⟩ (fun i H' _ hp => SqL.of (hp.1 _ _ upd_same)) (fun i x H' hx hp => ?_) (fun H1 hp => ?_)
  · obtain ⟨sm, zs, hz, hd⟩ := hp
    rw [List.getElem?_map] at hx
    obtain ⟨y, hy, rfl⟩ := Option.map_eq_some_iff.mp hx
    have hi : i < 61 := by
      have := (List.getElem?_eq_some_iff.mp hy).1
      rw [List.length_take] at this
      omega
    refine ⟨rfl, kept ?_⟩
    refine ⟨_, rfl, _, rfl, _, hd, by rw [List.length_map]; exact small1000 (by omega), fun b o e => ?_, zs ++ [if y < 0 then -y else y], by rw [List.length_append, hz]; rfl, ?_⟩
    · rw [upd_ne (ne_of_none e n1)]
      exact sm _ _ e
    · rw [upd_same, List.map_append]
      rfl
  obtain ⟨sm, zs, hz, hd⟩ := hp
  rw [List.length_map, List.length_take] at hz
  refine ⟨(by show 1 ≤ sizeLine; decide), fun z nz => ?_⟩
  have s3 := same_new nz (.lst [.int 0])
  have sH : Same H H1 := s1.trans sm
  refine ⟨.ref a, rfl, a, _, rfl, .inl ((sH.trans s3).seq hS), rfl, .inr ⟨_, rfl, z, _, _, rfl, rfl, upd_same, ?_, ?_, ?_, fun y ny => ?_⟩⟩
  · split <;> decide
  · split <;> decide
  · split <;> decide
  have s4 := same_new ny (.lst (List.replicate (Int.toNat (if decide (V.int ((ns.map V.int).length : Int) = V.int 0) = true then 1 else 0)) [V.int 0]).flatten)
  obtain ⟨ex, hex, hexl⟩ : ∃ ex : List Int, (List.replicate (Int.toNat (if decide (V.int ((ns.map V.int).length : Int) = V.int 0) = true then 1 else 0)) [V.int 0]).flatten = ex.map V.int ∧ 0 < zs.length + ex.length ∧ zs.length + ex.length ≤ 61 := by
    by_cases h0 : ns.length = 0
    · refine ⟨[0], ?_, ?_, ?_⟩
      · rw [show (decide (V.int ((ns.map V.int).length : Int) = V.int 0)) = true by rw [List.length_map, h0]; rfl]
        rfl
      · exact Nat.succ_pos _
      · rw [hz, h0]
        decide
    · refine ⟨[], ?_, ?_, ?_⟩
      · rw [show (decide (V.int ((ns.map V.int).length : Int) = V.int 0)) = false by
          apply decide_eq_false
          intro z
          have z' := V.int.inj z
          rw [List.length_map] at z'
          omega]
        rfl
      · rw [List.length_nil]; omega
      · rw [List.length_nil]; omega
  refine ⟨d1, y, _, _, rfl, rfl, (s3.trans s4) _ _ hd, upd_same, ?_, fun p np => ?_⟩
  · rw [hex, List.length_map, List.length_map]
    exact small (by omega)
  have s5 := same_new np (.lst (zs.map V.int ++ (List.replicate (Int.toNat (if decide (V.int ((ns.map V.int).length : Int) = V.int 0) = true then 1 else 0)) [V.int 0]).flatten))
  have s6 := sH.trans (s3.trans (s4.trans s5))
  -- the second list
  refine ⟨.ref p, rfl, .ref p, rfl, p, rfl, ⟨_, SqL.of upd_same⟩, fun r nr => ?_⟩
  rw [hex, ← List.map_append] at s5 s6 nr ⊢
  generalize hH2 : upd (upd (upd H1 z (.lst [.int 0])) y (.lst (ex.map V.int))) p (.lst ((zs ++ ex).map V.int)) = H2 at s5 s6 nr ⊢
  have ep : H2 p = some (.lst ((zs ++ ex).map V.int)) := by rw [← hH2]; exact upd_same
  have hpr : p ≠ r := ne_of_none ep nr
  refine lc_list (K := K) (a := p) (xs := (zs ++ ex).map V.int) (fun i H' => Same H2 H' ∧ ∃ ys : List Int, ys.length = i ∧ H' r = some (.lst (ys.map V.int))) ⟨same_new nr _, [], rfl, upd_same⟩ (fun i H' _ hp => SqL.of (hp.1 _ _ ep)) (fun i x H' hx hp => ?_) (fun H3 hp => ?_)
  · obtain ⟨sm, ys, hy, hd⟩ := hp
    rw [List.getElem?_map] at hx
    obtain ⟨v, hv, rfl⟩ := Option.map_eq_some_iff.mp hx
    have hi : i < 61 := by
      have := (List.getElem?_eq_some_iff.mp hv).1
      rw [List.length_append] at this
      omega
    refine ⟨rfl, kept ?_⟩
    refine ⟨_, rfl, _, rfl, _, _, rfl, rfl, ⟨by decide, by decide, by decide⟩, _, _, rfl, rfl, .inr ⟨_, rfl, _, _, rfl, rfl, .inr ?_, _, hd, by rw [List.length_map]; exact small1000 (by omega), fun b o e => ?_, ys ++ [v * (if decide (v ≥ (10 : Int) ^ Int.toNat 18) = true then 1 else 0)], by rw [List.length_append, hy]; rfl, ?_⟩⟩
    · split <;> decide
    · rw [upd_ne (ne_of_none e nr)]
      exact sm _ _ e
    · rw [upd_same, List.map_append]
      rfl
  · obtain ⟨sm, ys, hy, hd⟩ := hp
    refine ⟨(by show 3 ≤ sizeLine; decide), fun t nt => ?_⟩
    have s9 := same_new nt (.lst [.ref p, .ref r, .int 0])
    have ep3 := sm _ _ ep
    refine q ⟨t, p, r⟩ _ ⟨⟨zs ++ ex, ys, upd_same, s9 _ _ ep3, s9 _ _ hd, ?_, ?_, ?_⟩, (ne_of_none ep3 nt).symm, (ne_of_none hd nt).symm, hpr⟩ (s6.trans (sm.trans s9))
    · rw [List.length_append]; omega
    · rw [hy, List.length_map]
    · rw [List.length_append]; omega
end
/-! ### _law_same, of equal data -/
theorem sqT_same {K : PySem.W.Frag} {H H' : Hp} {a : Addr} {xs : List V} (e : Same H H') (h : SqT K H a xs) : SqT K H' a xs := by
  rcases h with (h | ⟨o, h⟩) | h
  · exact .inl (.inl (e _ _ h))
  · exact .inl (.inr ⟨o, e _ _ h⟩)
  · exact .inr h
mutual
theorem dp_same {K : PySem.W.Frag} {H H' : Hp} (e : Same H H') : ∀ {v : V} {d : PyData}, Dp K H v d → Dp K H' v d
  | _, _, .non => .non
  | _, _, .bl b => .bl b
  | _, _, .int i => .int i
  | _, _, .str x => .str x
  | _, _, .lst h a => .lst (e.seq h) (dpAll_same e a)
  | _, _, .tup h a => .tup (sqT_same e h) (dpAll_same e a)
theorem dpAll_same {K : PySem.W.Frag} {H H' : Hp} (e : Same H H') : ∀ {vs : List V} {ds : List PyData}, DpAll K H vs ds → DpAll K H' vs ds
  | _, _, .nil => .nil
  | _, _, .cons h a => .cons (dp_same e h) (dpAll_same e a)
end
theorem dpAll_len {K : PySem.W.Frag} {H : Hp} : ∀ {vs : List V} {ds : List PyData}, DpAll K H vs ds → vs.length = ds.length
  | _, _, .nil => rfl
  | _, _, .cons _ a => congrArg (· + 1) (dpAll_len a)
theorem dpAll_get {K : PySem.W.Frag} {H : Hp} : ∀ {vs : List V} {ds : List PyData} {i : Nat} {d : PyData}, DpAll K H vs ds → ds[i]? = some d → ∃ v, vs[i]? = some v ∧ Dp K H v d
  | _, _, _, _, .nil, h => by simp at h
  | _, _, 0, _, .cons h _, e => by
    cases e
    exact ⟨_, rfl, h⟩
  | _, _, i + 1, _, .cons _ a, e => dpAll_get (i := i) a e
def tyD : PyData → String
  | .none => "NoneType"
  | .bool _ => "bool"
  | .int _ => "int"
  | .str _ => "str"
  | .list _ => "list"
  | .tuple _ => "tuple"
  | .dict _ => "dict"
theorem dp_ty {K : PySem.W.Frag} {H : Hp} {v : V} {d : PyData} (h : Dp K H v d) : TyX K H v (.type (tyD d)) := by
  cases h with
  | non => exact .base .non
  | bl b => exact .base (.bl b)
  | int i => exact .base (.int i)
  | str x => exact .base (.str x)
  | lst h _ =>
    rcases h with (h | ⟨o, h⟩) | ⟨o, its, n, h, hc, _⟩
    · exact .base (.lst h)
    · exact .base (.frz h)
    · exact .kList h hc
  | tup h _ =>
    rcases h with (h | ⟨o, h⟩) | ⟨o, its, n, h, hc, _⟩
    · exact .base (.tup h)
    · exact .fTuple h
    · exact .kTuple h hc
theorem kit_lt {K : PySem.W.Frag} {a : String} {r s : Bool} (h1 : kitB a "list" = some r) (h2 : kitB a "tuple" = some s) : PySem.W.kitAny K (.type a) [.type "list", .type "tuple"] = some (r || s) := by
  refine kitAny_cons (kit_ty h1) (fun e => kitAny_cons (kit_ty h2) (fun e2 => ?_) fun e2 => ?_) fun e => ?_
  · rw [kitAny_nil, e, e2]; rfl
  · rw [e2, Bool.or_true]
  · rw [e, Bool.true_or]
theorem depth_get : ∀ {ds : List PyData} {i : Nat} {d : PyData}, ds[i]? = some d → d.depth ≤ PyData.depthAll ds
  | [], _, _, h => by simp at h
  | x :: xs, 0, _, h => by
    cases h
    simp only [PyData.depthAll]
    omega
  | x :: xs, i + 1, d, h => by
    have := depth_get (ds := xs) (i := i) h
    simp only [PyData.depthAll]
    omega
mutual
def nar : PyData → Bool
  | .list xs => decide (xs.length ≤ 1000000) && narAll xs
  | .tuple xs => decide (xs.length ≤ 1000000) && narAll xs
  | .dict _ => false
  | .none => true
  | .bool _ => true
  | .int _ => true
  | .str _ => true
def narAll : List PyData → Bool
  | [] => true
  | x :: xs => nar x && narAll xs
end
theorem nar_get : ∀ {ds : List PyData} {i : Nat} {d : PyData}, ds[i]? = some d → narAll ds = true → nar d = true
  | [], _, _, h, _ => by simp at h
  | x :: xs, 0, _, h, k => by
    cases h
    simp only [narAll, Bool.and_eq_true] at k
    exact k.1
  | x :: xs, i + 1, d, h, k => by
    simp only [narAll, Bool.and_eq_true] at k
    exact nar_get (ds := xs) (i := i) h k.2
theorem scSame : FnScope ["_law_found", "_law_due_here", "_law_k"] ["_law_found", "_law_due_here"] (defScope sSame) := ⟨rfl, rfl, rfl, by decide +kernel, rfl, by decide +kernel, by decide +kernel⟩
def spSame (K : PySem.W.Frag) (n : Nat) : Sp := fun vs H Q _ => ∃ (v v' : V) (d : PyData), vs = [v, v'] ∧ Dp K H v d ∧ Dp K H v' d ∧ d.depth < n ∧ nar d = true ∧ ∀ H', Same H H' → Q (.bl true) H'
structure Mgs (mg : Str → Option Value) : Prop where
  len : mg "len" = none
  isi : mg "isinstance" = none
  list : mg "list" = none
  tuple : mg "tuple" = none
  str : mg "str" = none
  int : mg "int" = none
  bool : mg "bool" = none
  range : mg "range" = none
theorem dp_two {K : PySem.W.Frag} {H : Hp} {v v' : V} {d : PyData} {n : Nat} (h : Dp K H v d) (h' : Dp K H v' d) (hd : d.depth < n + 1) (hn : nar d = true) :
    (∃ (p p' : Addr) (xs xs' : List V) (ds : List PyData) (bl : Bool) (ty : String), v = .ref p ∧ v' = .ref p' ∧ (SqL K H p xs ∨ SqT K H p xs) ∧ (SqL K H p' xs' ∨ SqT K H p' xs') ∧ DpAll K H xs ds ∧ DpAll K H xs' ds ∧
      TyX K H v (.type ty) ∧ TyX K H v' (.type ty) ∧ kitB ty "list" = some bl ∧ kitB ty "tuple" = some (!bl) ∧ PyData.depthAll ds < n ∧ ds.length ≤ 1000000 ∧ narAll ds = true) ∨ (v = v' ∧ (v = .non ∨ (∃ b, v = .bl b) ∨ (∃ i, v = .int i) ∨ ∃ x, v = .str x)) := by
  have t1 := dp_ty h
  have t2 := dp_ty h'
  cases h with
  | non =>
    cases h'
    exact .inr ⟨rfl, .inl rfl⟩
  | bl b =>
    cases h'
    exact .inr ⟨rfl, .inr (.inl ⟨b, rfl⟩)⟩
  | int b =>
    cases h'
    exact .inr ⟨rfl, .inr (.inr (.inl ⟨b, rfl⟩))⟩
  | str b =>
    cases h'
    exact .inr ⟨rfl, .inr (.inr (.inr ⟨b, rfl⟩))⟩
  | lst h a =>
    cases h' with
    | lst h' a' =>
      simp only [PyData.depth] at hd
      simp only [nar, Bool.and_eq_true, decide_eq_true_eq] at hn
      exact .inl ⟨_, _, _, _, _, true, "list", rfl, rfl, .inl h, .inl h', a, a', t1, t2, by decide +kernel, by decide +kernel, by omega, hn.1, hn.2⟩
  | tup h a =>
    cases h' with
    | tup h' a' =>
      simp only [PyData.depth] at hd
      simp only [nar, Bool.and_eq_true, decide_eq_true_eq] at hn
      exact .inl ⟨_, _, _, _, _, false, "tuple", rfl, rfl, .inr h, .inr h', a, a', t1, t2, by decide +kernel, by decide +kernel, by omega, hn.1, hn.2⟩
theorem seq_same {K : PySem.W.Frag} {H H' : Hp} {p : Addr} {xs : List V} (e : Same H H') (h : SqL K H p xs ∨ SqT K H p xs) : SqL K H' p xs ∨ SqT K H' p xs := h.elim (fun h => .inl (e.seq h)) fun h => .inr (sqT_same e h)
theorem seq_ix {K : PySem.W.Frag} {H : Hp} {p : Addr} {xs : List V} {i : Int} {v : V} {Q : VK} (h : SqL K H p xs ∨ SqT K H p xs) (a : atI xs i = some v) (q : Q v H) : rIx K (.ref p) (.int i) H Q :=
  h.elim (fun h => .inl ⟨p, xs, i, v, rfl, rfl, h, a, q⟩) fun h => .inr (.inl ⟨p, xs, i, v, rfl, rfl, h, a, q⟩)
theorem tyX_same {K : PySem.W.Frag} {H H' : Hp} {v : V} {d : PyData} (e : Same H H') (h : Dp K H v d) : TyX K H' v (.type (tyD d)) := dp_ty (dp_same e h)
section
variable {P : Program} {w : World} {K : PySem.W.Frag} {mg : Str → Option Value} {base : Heap} {f : Addr} {fd : FuncData}
theorem ok_same (F : Fun K "_law_same" "_law_same" sSame f fd) (b : Binds K fd ["_law_found", "_law_due_here"] []) (g : mg "_law_same" = some (.ref f)) (M : Mgs mg) : ∀ n : Nat, FnOk P w K mg base CX0 n f fd ["_law_found", "_law_due_here"] (spSame K n)
  | 0 => by
    have no : ∀ vs H Q E, ¬ spSame K 0 vs H Q E := fun vs H Q E h => by
      obtain ⟨v, t, d, _, _, _, h1, _, _⟩ := h
      omega
    exact ⟨fun vs H Q E h => absurd h (no vs H Q E), fun A outer s H args us vs Q E _ _ _ _ h => absurd h (no vs H Q E)⟩
  | n + 1 => by
    have G := ok_same F b g M n
    refine F.ok scSame (fun vs H Q E h => ?_) (fun cdv A outer s H vs Q E hr h => ?_)
    · obtain ⟨v, t, d, rfl, _⟩ := h
      rfl
    obtain ⟨v, v', d, rfl, hv, hv', hd, hna, q⟩ := h
    have bi : bootBuiltins "isinstance" = some (.builtin "isinstance") := by decide +kernel
    refine ⟨_, pss_cons (ps_if (pt_val (pe_callB call_isiT rfl M.isi bi (pa_cons (pv 1) (pa_cons (pe_tup (pa_cons (pe_bltn (v := .ty "list") rfl M.list (by decide +kernel) rfl) (pa_cons (pe_bltn (v := .ty "tuple") rfl M.tuple (by decide +kernel) rfl) pa_nil))) pa_nil))))
        (pss_cons (ps_if (PW.pt (pw_or (pt_cmpR op_ne (pe_callB call_isi rfl M.isi bi (pa_cons (pv 0) (pa_cons (pe_bltn (v := .ty "list") rfl M.list (by decide +kernel) rfl) pa_nil))) (pe_callB call_isi rfl M.isi bi (pa_cons (pv 1) (pa_cons (pe_bltn (v := .ty "list") rfl M.list (by decide +kernel) rfl) pa_nil))) (nomark _))
            (pw_or1 (pt_cmpR op_ne (pe_callB call_isi rfl M.isi bi (pa_cons (pv 0) (pa_cons (pe_bltn (v := .ty "tuple") rfl M.tuple (by decide +kernel) rfl) pa_nil))) (pe_callB call_isi rfl M.isi bi (pa_cons (pv 1) (pa_cons (pe_bltn (v := .ty "tuple") rfl M.tuple (by decide +kernel) rfl) pa_nil))) (nomark _))))) (pss_one (ps_ret pe_bl)) pss_nil)
        (pss_cons (ps_if (pt_cmpR op_ne (pe_callB call_len_seq rfl M.len PySem.boot_len (pa_cons (pv 0) pa_nil)) (pe_callB call_len_seq rfl M.len PySem.boot_len (pa_cons (pv 1) pa_nil)) (nomark _)) (pss_one (ps_ret pe_bl)) pss_nil)
        (pss_one (ps_ret (pe_cmpR (op_eqD hr.units) (pe_lc (own := [("_law_k", 2)]) (g := gName 2) rfl scSame.nd (pi_range1 rfl M.range (pa_cons (pe_callB call_len_seq rfl M.len PySem.boot_len (pa_cons (pv 1) pa_nil)) pa_nil)) (blkOk_by (N := ["_law_found", "_law_due_here", "_law_k"]) (sc := defScope sSame) (by decide +kernel))
            (fun _ _ _ _ _ => pg_name (i := 2) scSame.nd rfl (Or.inl rfl)) (fun _ _ _ _ _ => pts_one (pt_not (pt_val (pe_call G hr rfl g F.kp b .nil pass0 (pa_cons (pe_ix (show IxR _ (rIx K) from ix_seq) (pv 0) (pv 2) (fun _ _ => rfl)) (pa_cons (pe_ix (show IxR _ (rIx K) from ix_seq) (pv 1) (pv 2) (fun _ _ => rfl)) pa_nil)))))) (fun _ _ _ _ _ => pv 2))
          (pe_lst pa_nil) (nomark _)))))) pss_nil)
      (pss_cons (ps_if (pt_cmpR op_isN (pv 1) pe_non (nomark _)) (pss_one (ps_ret (pe_cmpR op_isN (pv 0) pe_non (nomark _)))) pss_nil)
      (pss_cons (ps_if (pt_val (pe_callB call_isi rfl M.isi bi (pa_cons (pv 1) (pa_cons (pe_bltn (v := .ty "str") rfl M.str (by decide +kernel) rfl) pa_nil)))) (pss_one (ps_ret (pe_and (pe_callB call_isi rfl M.isi bi (pa_cons (pv 0) (pa_cons (pe_bltn (v := .ty "str") rfl M.str (by decide +kernel) rfl) pa_nil))) (pe_one (pe_cmpR op_eq (pv 0) (pv 1) (nomark _)))))) pss_nil)
      (pss_one (ps_ret (pe_and (pe_callB call_isi rfl M.isi bi (pa_cons (pv 0) (pa_cons (pe_bltn (v := .ty "int") rfl M.int (by decide +kernel) rfl) pa_nil)))
        (pe_and (pe_cmpR op_eq (pe_callB call_isi rfl M.isi bi (pa_cons (pv 0) (pa_cons (pe_bltn (v := .ty "bool") rfl M.bool (by decide +kernel) rfl) pa_nil))) (pe_callB call_isi rfl M.isi bi (pa_cons (pv 1) (pa_cons (pe_bltn (v := .ty "bool") rfl M.bool (by decide +kernel) rfl) pa_nil))) (nomark _)) (pe_one (pe_cmpR op_eq (pv 0) (pv 1) (nomark _))))))))), ?_⟩
    refine ⟨v', rfl, (by show 2 ≤ sizeLine; decide), fun tp np => ?_⟩
    have s1 := same_new np (.tup [.ty "list", .ty "tuple"])
    have hw := dp_same s1 hv
    have hw' := dp_same s1 hv'
    have pr : Paired ClsV [V.ty "list", V.ty "tuple"] [Value.type "list", Value.type "tuple"] := .cons (.ty _) (.cons (.ty _) .nil)
    rcases dp_two hw hw' hd hna with ⟨p, p', xs, xs', ds, bl, ty, rfl, rfl, hq, hq', ha, ha', ht, ht', k1, k2, hdd, hwl, hwn⟩ | ⟨rfl, hk⟩
    · have ka : PySem.W.kitAny K (.type ty) [.type "list", .type "tuple"] = some true := by
        rw [kit_lt k1 k2]
        cases bl <;> rfl
      have hl := dpAll_len ha
      have hl' := dpAll_len ha'
      refine ⟨_, tp, _, _, _, true, rfl, upd_same, pr, ht', ka, _, rfl, iteT ?_⟩
      refine ⟨_, rfl, _, _, _, _, bl, rfl, .ty _, ht, kit_ty k1, _, rfl, _, _, _, _, bl, rfl, .ty _, ht', kit_ty k1, by cases bl <;> rfl, _, rfl, iteNS rfl ?_⟩
      refine ⟨_, rfl, _, _, _, _, !bl, rfl, .ty _, ht, kit_ty k2, _, rfl, _, _, _, _, !bl, rfl, .ty _, ht', kit_ty k2, by cases bl <;> rfl, _, rfl, iteNS rfl ?_⟩
      refine ⟨_, rfl, p, xs, rfl, hq, _, rfl, p', xs', rfl, hq', rfl, _, rfl, iteNS (by rw [hl, hl']) ?_⟩
      refine ⟨_, rfl, p', xs', rfl, hq', _, rfl, ?_, ?_, fun D nD => ?_⟩
      · omega
      · omega
      have s2 := same_new nD (.lst [])
      rw [Int.toNat_natCast]
      refine lc_range (lo := 0) (n := xs'.length) (fun i H' => Same (upd H tp (.tup [.ty "list", .ty "tuple"])) H' ∧ H' D = some (.lst [])) ⟨s2, upd_same⟩ (fun i H' hi hp => ?_) (fun H' hp => ?_)
      · obtain ⟨sm, eD⟩ := hp
        obtain ⟨di, edi⟩ : ∃ di, ds[i]? = some di := ⟨_, List.getElem?_eq_getElem (by omega)⟩
        obtain ⟨x, ex, hx⟩ := dpAll_get ha edi
        obtain ⟨x', ex', hx'⟩ := dpAll_get ha' edi
        have hdi := depth_get edi
        have e0 : (0 : Int) + (i : Int) = ((i : Nat) : Int) := by omega
        rw [e0]
        refine ⟨rfl, ?_⟩
        refine ⟨_, rfl, _, rfl, seq_ix (seq_same sm hq) (atI_nat ex) ⟨_, rfl, _, rfl, seq_ix (seq_same sm hq') (atI_nat ex') ⟨x, x', di, rfl, dp_same sm hx, dp_same sm hx', by omega, nar_get edi hwn, fun H'' s'' => ?_⟩⟩⟩
        exact ⟨_, rfl, iteF ⟨sm.trans s'', s'' _ _ eD⟩⟩
      · obtain ⟨sm, eD⟩ := hp
        refine ⟨(by show 0 ≤ sizeLine; decide), fun e ne => ?_⟩
        refine ⟨.list [], .list [], .lst (SqL.of ((same_new ne _) _ _ eD)) .nil, .lst (SqL.of upd_same) .nil, rfl, rfl, ?_⟩
        exact q _ (s1.trans (sm.trans (same_new ne _)))
    · have fin := q _ s1
      rcases hk with rfl | ⟨c, rfl⟩ | ⟨c, rfl⟩ | ⟨c, rfl⟩
      · refine ⟨_, tp, _, _, _, false, rfl, upd_same, pr, .base .non, kit_lt (r := false) (s := false) (by decide +kernel) (by decide +kernel), _, rfl, iteF ?_⟩
        refine ⟨_, rfl, rfl, _, rfl, iteT ?_⟩
        exact ⟨_, rfl, rfl, fin⟩
      · refine ⟨_, tp, _, _, _, false, rfl, upd_same, pr, .base (.bl c), kit_lt (r := false) (s := false) (by decide +kernel) (by decide +kernel), _, rfl, iteF ?_⟩
        refine ⟨_, rfl, rfl, _, rfl, iteF ?_⟩
        refine ⟨_, rfl, _, _, _, _, false, rfl, .ty _, .base (.bl c), kit_ty (by decide +kernel), _, rfl, iteF ?_⟩
        refine ⟨_, rfl, _, _, _, _, true, rfl, .ty _, .base (.bl c), kit_ty (by decide +kernel), _, rfl, iteT ?_⟩
        refine ⟨_, rfl, _, _, _, _, true, rfl, .ty _, .base (.bl c), kit_ty (by decide +kernel), _, rfl, _, _, _, _, true, rfl, .ty _, .base (.bl c), kit_ty (by decide +kernel), rfl, _, rfl, iteT ?_⟩
        refine ⟨_, rfl, _, rfl, by cases c <;> rfl, ?_⟩
        rw [decide_eq_true rfl]
        exact fin
      · refine ⟨_, tp, _, _, _, false, rfl, upd_same, pr, .base (.int c), kit_lt (r := false) (s := false) (by decide +kernel) (by decide +kernel), _, rfl, iteF ?_⟩
        refine ⟨_, rfl, rfl, _, rfl, iteF ?_⟩
        refine ⟨_, rfl, _, _, _, _, false, rfl, .ty _, .base (.int c), kit_ty (by decide +kernel), _, rfl, iteF ?_⟩
        refine ⟨_, rfl, _, _, _, _, true, rfl, .ty _, .base (.int c), kit_ty (by decide +kernel), _, rfl, iteT ?_⟩
        refine ⟨_, rfl, _, _, _, _, false, rfl, .ty _, .base (.int c), kit_ty (by decide +kernel), _, rfl, _, _, _, _, false, rfl, .ty _, .base (.int c), kit_ty (by decide +kernel), rfl, _, rfl, iteT ?_⟩
        refine ⟨_, rfl, _, rfl, rfl, ?_⟩
        rw [decide_eq_true rfl]
        exact fin
      · refine ⟨_, tp, _, _, _, false, rfl, upd_same, pr, .base (.str c), kit_lt (r := false) (s := false) (by decide +kernel) (by decide +kernel), _, rfl, iteF ?_⟩
        refine ⟨_, rfl, rfl, _, rfl, iteF ?_⟩
        refine ⟨_, rfl, _, _, _, _, true, rfl, .ty _, .base (.str c), kit_ty (by decide +kernel), _, rfl, iteT ?_⟩
        refine ⟨_, rfl, _, _, _, _, true, rfl, .ty _, .base (.str c), kit_ty (by decide +kernel), _, rfl, iteT ?_⟩
        refine ⟨_, rfl, _, rfl, rfl, ?_⟩
        rw [decide_eq_true rfl]
        exact fin
end
/-! ### list(text) -/
theorem vals_signs : ∀ (l : List Nat) (vs : List Value), vs.length = l.length → (∀ (j : Nat) (v : Value), vs[j]? = some v → ∃ c u, l[j]? = some c ∧ v = .str ⟨#[c]⟩ u) → Vals (l.map fun c => V.str ⟨#[c]⟩) vs
  | [], [], _, _ => .nil
  | [], _ :: _, h, _ => by simp at h
  | _ :: _, [], h, _ => by simp at h
  | c :: l, v :: vs, h, k => by
    obtain ⟨c', u, e, rfl⟩ := k 0 v rfl
    cases e
    exact .cons ⟨u, rfl⟩ (vals_signs l vs (by simpa using h) fun j v e => k (j + 1) v e)
theorem call_signs {X : Cx} (hc : X.calm = true) : CallR X (.type "list") (fun xs H Q => ∃ x : Str, xs = [.str x] ∧ x.cps.size ≤ 1000 ∧ ∀ p, H p = none → Q (.ref p) (upd H p (.lst (x.cps.toList.map fun c => V.str ⟨#[c]⟩)))) := by
  intro pins s σ H xs us Q I r h
  obtain ⟨x, rfl, hz, q⟩ := h
  obtain ⟨u, rfl, t, rfl⟩ := vals1 r
  have hz' : x.cps.size ≤ sizeLine := small hz
  refine call_list_str (I.ok.hd hc) x t (fun h' tk acc' c' hk hS hacc => ?_) hz'
  have hv : Vals (x.cps.toList.map fun c => V.str ⟨#[c]⟩) acc'.toList := vals_signs _ _ (by rw [Array.length_toList, Array.length_toList]; exact hacc.1) fun j v e => by
    obtain ⟨c, u, h1, h2⟩ := hacc.2 j v (by rw [← Array.getElem?_toList]; exact e)
    exact ⟨c, u, by rw [Array.getElem?_toList]; exact h1, h2⟩
  exact ⟨.ref s.heap.objs.size, _, I.laid (t' := tk) hk (Nat.le_refl _) (show ObjOk X.prog X.w _ h' _ (.lst _) from ⟨by rw [List.length_map, Array.length_toList]; exact hz', acc'.toList, c', hv, by rw [Array.toArray_toList]; exact hS⟩), rfl, q _ (I.hok.fresh (Nat.le_refl _))⟩
/-! ### _law_letters -/
theorem erase_map {α β : Type} (f : α → β) : ∀ (l : List α) (i : Nat), (l.map f).eraseIdx i = (l.eraseIdx i).map f
  | [], _ => rfl
  | _ :: _, 0 => rfl
  | x :: l, i + 1 => congrArg (f x :: ·) (erase_map f l i)
def Ltr (x : Str) : Prop := ∃ c : Nat, 97 ≤ c ∧ c ≤ 122 ∧ x = ⟨#[c]⟩
def abc : List Str := (List.range 26).map fun c => ⟨#[c + 97]⟩
theorem abc_ltr : ∀ x ∈ abc, Ltr x := fun x h => by
  unfold abc at h
  obtain ⟨c, hc, rfl⟩ := List.mem_map.mp h
  have := List.mem_range.mp hc
  exact ⟨c + 97, by omega, by omega, rfl⟩
theorem abc_is : ((Str.ofString "abcdefghijklmnopqrstuvwxyz").cps.toList.map fun c => V.str ⟨#[c]⟩) = abc.map V.str := by decide +kernel
theorem abc_len : abc.length = 26 := by decide +kernel
theorem scLett : FnScope ["_law_deck_here", "_law_size", "_law_way", "_law_some", "_law_found", "_law_k"] ["_law_deck_here", "_law_size"] (defScope sLett) := ⟨rfl, rfl, rfl, by decide +kernel, rfl, by decide +kernel, by decide +kernel⟩
def spLett : Sp := fun vs H Q _ => ∃ (D : Deck) (n m : Nat), vs = [.ref D.dk, .int (m : Int)] ∧ DeckOk H D n ∧ n + m + 1 ≤ 1000000 ∧ 1 ≤ m ∧ m ≤ 26 ∧ ∀ (p : Addr) (xs : List Str) (n' : Nat) (H' : Hp), DeckOk H' D n' → n' ≤ n + m + 1 → SameD D H H' →
  H' p = some (.lst (xs.map V.str)) → xs.length = m → (∀ x ∈ xs, Ltr x) → Off D p → Q (.ref p) H'
section
variable {P : Program} {w : World} {K : PySem.W.Frag} {mg : Str → Option Value} {base : Heap} {f fN : Addr} {fd fdN : FuncData}
theorem ok_lett {k : Nat} (F : Fun K "_law_letters" "_law_letters" sLett f fd) (G : FnOk P w K mg base CX0 k fN fdN ["_law_deck_here", "_law_many"] spNext) (bN : Binds K fdN ["_law_deck_here", "_law_many"] []) (kN : PySem.W.keepIn K (.ref fN) = true) (gN : mg "_law_next" = some (.ref fN)) (M : Mgs mg) (ms : mg "sorted" = none) :
    FnOk P w K mg base CX0 (k + 1) f fd ["_law_deck_here", "_law_size"] spLett := by
  refine F.ok scLett (fun vs H Q E h => ?_) (fun cdv A outer s H vs Q E hr h => ?_)
  · obtain ⟨D, n, m, rfl, _⟩ := h
    rfl
  obtain ⟨D, n, m, rfl, d, hn, m0, m1, q⟩ := h
  refine ⟨_, pss_cons (ps_asg (pe_tup (pa_cons (pe_call G hr rfl gN kN bN .nil pass0 (pa_cons (pv 0) (pa_cons pe_int pa_nil))) (pa_cons (pe_callTy (call_signs rfl) rfl M.list (by decide +kernel) (pa_cons pe_str pa_nil)) pa_nil))) (pg_tup rfl (pgs_cons (pg_name (i := 2) scLett.nd rfl (.inl rfl)) (pgs_cons (pg_name (i := 3) scLett.nd rfl (.inr rfl)) pgs_nil))))
    (pss_cons (ps_if (pt_cmpR op_eq (pv 2) pe_int (nomark _)) (pss_one (ps_ret (pe_op op_rep (pe_lst (pa_cons (pe_ix ix_list (pv 3) (pe_call G hr rfl gN kN bN .nil pass0 (pa_cons (pv 0) (pa_cons pe_int pa_nil))) (fun _ _ => rfl)) pa_nil)) (pv 1)))) pss_nil)
    (pss_cons (ps_if (pt_cmpR op_eq (pv 2) pe_int (nomark _)) (pss_one (ps_ret (pe_lc (own := [("_law_k", 5)]) (g := gName 5) (tt := tYes) rfl scLett.nd (pi_range1 rfl M.range (pa_cons (pv 1) pa_nil)) (blkOk_by (N := ["_law_deck_here", "_law_size", "_law_way", "_law_some", "_law_found", "_law_k"]) (sc := defScope sLett) (by decide +kernel))
        (fun _ _ _ _ _ => pg_name (i := 5) scLett.nd rfl (Or.inl rfl)) (fun _ _ _ _ _ => pts_nil) (fun _ _ _ _ _ => pe_ix (show IxR _ (rIxL K) from ix_list) (pv 3) (pe_call G hr rfl gN kN bN .nil pass0 (pa_cons (pv 0) (pa_cons pe_int pa_nil))) (fun _ _ => rfl))))) pss_nil)
    (pss_cons (ps_set (i := 4) scLett.nd rfl (.inl rfl) (pe_lst pa_nil))
    (pss_cons (ps_while PassesOwn.never (pt_cmpR op_lt (pe_callB call_len_seq rfl M.len PySem.boot_len (pa_cons (pv 4) pa_nil)) (pv 1) (nomark _))
      (pss_one (ps_expr (pe_bm PySem.F.plainAttrs_list PySem.F.slot_list_append PySem.F.type_list_append mt_append (pv 4) (pa_cons
        (pe_bm PySem.F.plainAttrs_list PySem.F.slot_list_pop PySem.F.type_list_pop mt_popAt (pv 3) (pa_cons (pe_call G hr rfl gN kN bN .nil pass0 (pa_cons (pv 0) (pa_cons (pe_callB call_len_seq rfl M.len PySem.boot_len (pa_cons (pv 3) pa_nil)) pa_nil))) pa_nil)) pa_nil)))))
    (pss_one (ps_ret (pe_ifExp (pt_cmpR op_eq (pv 2) pe_int (nomark _)) (pv 4) (pe_callB cr_sortedS rfl ms (by decide +kernel) (pa_cons (pv 4) pa_nil))))))))), ?_⟩
  refine ⟨_, rfl, D, n, 4, rfl, d, by omega, by decide, by decide, fun wy H1 w0 w1 d1 s1 => ?_⟩
  refine ⟨_, rfl, by decide +kernel, fun sa nsa => ⟨(by show 2 ≤ sizeLine; decide), fun tp ntp => ?_⟩⟩
  rw [abc_is] at ntp ⊢
  refine ⟨tp, _, rfl, SqT.of upd_same, rfl, _, _, rfl, _, _, rfl, rfl, ?_⟩
  have q1 := same_new nsa (.lst (abc.map V.str))
  have q2 := same_new ntp (.tup [.int wy, .ref sa])
  have d2 := (d1.same q1).same q2
  have sd : SameD D H (upd (upd H1 sa (.lst (abc.map V.str))) tp (.tup [.int wy, .ref sa])) := s1.trans (.of (q1.trans q2))
  have esa : (upd (upd H1 sa (.lst (abc.map V.str))) tp (.tup [.int wy, .ref sa])) sa = some (.lst (abc.map V.str)) := q2 _ _ upd_same
  have nsaH : H sa = none := s1.free d1 nsa
  have na := d1.new nsa
  generalize upd (upd H1 sa (.lst (abc.map V.str))) tp (.tup [.int wy, .ref sa]) = H2 at d2 sd esa
  have al := abc_len
  have abcI : ∀ i : Int, 0 ≤ i → i < 26 → ∃ x, atI (abc.map V.str) i = some (.str x) ∧ Ltr x := fun i h0 h1 => by
    have hl : i.toNat < abc.length := by omega
    exact ⟨abc[i.toNat], at_map h0 (List.getElem?_eq_getElem hl), abc_ltr _ (List.getElem_mem hl)⟩
  -- way == 2
  refine ⟨_, rfl, rfl, _, rfl, ite2 (fun _ => ?_) (fun _ => ?_)⟩
  · refine ⟨_, rfl, _, rfl, D, n + 1, 26, rfl, d2, by omega, by decide, by decide, fun i H3 i0 i1 d3 s3 => ?_⟩
    obtain ⟨x, hx, lx⟩ := abcI i i0 i1
    refine ⟨sa, _, _, _, rfl, rfl, SqL.of (s3.at na esa), hx, (by show 1 ≤ sizeLine; decide), fun l nl => ?_⟩
    refine ⟨_, rfl, l, _, _, rfl, rfl, upd_same, by omega, by omega, ?_, fun p np => ?_⟩
    · rw [Int.toNat_natCast]
      exact small (by show 1 * m ≤ 1000; omega)
    rw [Int.toNat_natCast]
    rw [rep_flat, ← List.map_replicate]
    have q3 := same_new nl (.lst [.str x])
    have q4 := same_new np (.lst ((List.replicate m x).map V.str))
    have d5 := (d3.same q3).same q4
    have nd := (d3.same q3).new np
    refine q p (List.replicate m x) (n + 1 + 1) _ d5 (by omega) (sd.trans (s3.trans (.of (q3.trans q4)))) upd_same (List.length_replicate) (fun y hy => ?_) nd
    rw [List.eq_of_mem_replicate hy]
    exact lx
  -- way == 3
  refine ⟨_, rfl, rfl, _, rfl, ite2 (fun _ => ?_) (fun _ => ?_)⟩
  · refine ⟨_, rfl, _, rfl, by omega, by omega, fun L nL => ?_⟩
    have nd := d2.new nL
    rw [Int.toNat_natCast]
    refine lc_range (lo := 0) (n := m) (fun i H' => ∃ n', DeckOk H' D n' ∧ n' ≤ n + 1 + i ∧ SameD D H2 H' ∧ ∃ xs : List Str, xs.length = i ∧ (∀ x ∈ xs, Ltr x) ∧ H' L = some (.lst (xs.map V.str))) ⟨n + 1, d2.same (same_new nL _), by omega, .of (same_new nL _), [], rfl, (fun _ h => nomatch h), upd_same⟩ (fun i H' hi hp => ?_) (fun H' hp => ?_)
    · obtain ⟨n', d', hn', s', xs, hxl, hxs, eL⟩ := hp
      refine ⟨rfl, kept ?_⟩
      refine ⟨_, rfl, _, rfl, D, n', 2, rfl, d', by omega, by decide, by decide, fun j H4 j0 j1 d4 s4 => ?_⟩
      obtain ⟨x, hx, lx⟩ := abcI j j0 (by omega)
      have e4 := s4.at nd eL
      refine ⟨sa, _, _, _, rfl, rfl, SqL.of (s4.at na (s'.at na esa)), hx, _, e4, by rw [List.length_map]; exact small1000 (by omega), n' + 1, d4.put nd _, by omega, (s'.trans s4).put nL _, xs ++ [x], by rw [List.length_append, hxl]; rfl, fun y hy => ?_, ?_⟩
      · rcases List.mem_append.mp hy with h | h
        · exact hxs y h
        · rw [List.mem_singleton.mp h]
          exact lx
      · rw [upd_same, List.map_append]
        rfl
    · obtain ⟨n', d', hn', s', xs, hxl, hxs, eL⟩ := hp
      exact q L xs n' H' d' (by omega) (sd.trans s') eL hxl hxs nd
  refine ⟨(by show 0 ≤ sizeLine; decide), fun fa nfa => ?_⟩
  have nf := d2.new nfa
  have nsf : sa ≠ fa := ne_of_none esa nfa
  have nfH : H fa = none := sd.free d2 nfa
  refine while_by (fun σ H' => σ = [some (.ref D.dk), some (.int (m : Int)), some (.int wy), some (.ref sa), some (.ref fa), none] ∧ ∃ (n' : Nat) (xs rest : List Str), DeckOk H' D n' ∧ n' ≤ n + 1 + xs.length ∧ SameD D H H' ∧ xs.length ≤ m ∧ xs.length + rest.length = 26 ∧ (∀ x ∈ xs, Ltr x) ∧ (∀ x ∈ rest, Ltr x) ∧ H' fa = some (.lst (xs.map V.str)) ∧ H' sa = some (.lst (rest.map V.str)))
    (fun σ H' => match H' fa with | some (.lst xs) => m - xs.length | _ => 0) ⟨rfl, n + 1, [], abc, d2.put nf _, by omega, sd.put nfH _, Nat.zero_le _, by rw [al]; rfl, (fun _ h => nomatch h), abc_ltr, upd_same, by rw [upd_ne nsf]; exact esa⟩ (fun σ H' hp => ?_) ?_
  · obtain ⟨rfl, n', xs, rest, d', hn', s', hm, h26, hxs, hrs, ef, es⟩ := hp
    refine ⟨_, rfl, fa, _, rfl, .inl (SqL.of ef), _, rfl, _, _, rfl, rfl, _, rfl, ite2 (fun c => ?_) (fun c => ?_)⟩
    · have c' : ((xs.map V.str).length : Int) < (m : Int) := of_decide_eq_true c
      rw [List.length_map] at c'
      refine ⟨.ref fa, rfl, .inl ⟨rfl, _, SqL.of ef⟩, .ref sa, rfl, .inl ⟨rfl, _, SqL.of es⟩, _, rfl, _, rfl, sa, _, rfl, .inl (SqL.of es), D, n', _, rfl, d', by omega, ?_, ?_, fun j H4 j0 j1 d4 s4 => ?_⟩
      · rw [List.length_map]; omega
      · rw [List.length_map]; omega
      rw [List.length_map] at j1
      have hj : j.toNat < rest.length := by omega
      have es4 := s4.at na es
      have ef4 := s4.at nf ef
      refine ⟨sa, _, j, j.toNat, .str rest[j.toNat], rfl, rfl, es4, by omega, by omega, ?_, ?_, ?_⟩
      · exact (ixN_seq (ixN_nat j0 (by rw [List.length_map]; omega))).1
      · rw [List.getElem?_map, List.getElem?_eq_getElem hj]; rfl
      have ef5 : (upd H4 sa (.lst ((rest.map V.str).eraseIdx j.toNat))) fa = some (.lst (xs.map V.str)) := by rw [upd_ne nsf.symm]; exact ef4
      refine ⟨fa, _, _, rfl, rfl, ef5, by rw [List.length_map]; exact small1000 (by omega), ?_⟩
      refine ⟨⟨rfl, n' + 1, xs ++ [rest[j.toNat]], rest.eraseIdx j.toNat, (d4.put na _).put nf _, ?_, ((s'.trans s4).put nsaH _).put nfH _, ?_, ?_, fun y hy => ?_, fun y hy => hrs y (List.mem_of_mem_eraseIdx hy), ?_, ?_⟩, ?_⟩
      · rw [List.length_append]
        show n' + 1 ≤ n + 1 + (xs.length + 1)
        omega
      · rw [List.length_append]
        show xs.length + 1 ≤ m
        omega
      · rw [List.length_append, List.length_eraseIdx_of_lt hj]
        show xs.length + 1 + (rest.length - 1) = 26
        omega
      · rcases List.mem_append.mp hy with h | h
        · exact hxs y h
        · rw [List.mem_singleton.mp h]
          exact hrs _ (List.getElem_mem hj)
      · rw [upd_same, List.map_append]
        rfl
      · rw [upd_ne nsf, upd_same, erase_map]
      · show (match (upd (upd H4 sa _) fa (.lst (xs.map V.str ++ [V.str rest[j.toNat]]))) fa with | some (.lst xs) => m - xs.length | _ => 0) < (match H' fa with | some (.lst xs) => m - xs.length | _ => 0)
        rw [upd_same, ef]
        show m - (xs.map V.str ++ [V.str rest[j.toNat]]).length < m - (xs.map V.str).length
        rw [List.length_append, List.length_map]
        show m - (xs.length + 1) < m - xs.length
        omega
    · have c' : ¬ ((xs.map V.str).length : Int) < (m : Int) := of_decide_eq_false (Bool.eq_false_iff.mpr c)
      rw [List.length_map] at c'
      have hlen : xs.length = m := by omega
      refine ⟨_, rfl, rfl, _, rfl, ite2 (fun _ => ?_) (fun _ => ?_)⟩
      · exact ⟨_, rfl, q fa xs n' H' d' (by omega) s' ef hlen hxs nf⟩
      · refine ⟨_, rfl, fa, xs, rfl, SqL.of ef, by omega, fun ys p pm _ np => ?_⟩
        exact q p ys n' _ (d'.same (same_new np _)) (by omega) (s'.trans (.of (same_new np _))) upd_same (by rw [pm.length_eq]; exact hlen) (fun x hx => hxs x (pm.mem_iff.mp hx)) (d'.new np)
  · intro σ H' Q1 Q2 hQ h
    obtain ⟨v, e, p, ys, e2, e3, v2, e4, i, j, e5, e6, k, e7, q7⟩ := h
    exact ⟨v, e, p, ys, e2, e3, v2, e4, i, j, e5, e6, k, e7, hQ _ _ q7⟩
end
/-! ### _law_grown -/
def T.btw : T → List Str
  | .nil => []
  | .node l x r => l.btw ++ x :: r.btw
theorem T.btw_len : ∀ t : T, t.btw.length = t.size
  | .nil => rfl
  | .node l x r => by
    have h1 := l.btw_len
    have h2 := r.btw_len
    show (l.btw ++ x :: r.btw).length = l.size + 1 + r.size
    rw [List.length_append, List.length_cons]
    omega
theorem scGrown : FnScope ["_law_deck_here", "_law_size", "_law_way", "_law_letters_here", "_law_many", "_law_left"] ["_law_deck_here", "_law_size", "_law_way", "_law_letters_here"] (defScope sGrown) := ⟨rfl, rfl, rfl, by decide +kernel, rfl, by decide +kernel, by decide +kernel⟩
def spGrown (n : Nat) : Sp := fun vs H Q _ => ∃ (D : Deck) (c : Nat) (way : Int) (p : Addr) (xs : List Str), vs = [.ref D.dk, .int (xs.length : Int), .int way, .ref p] ∧ DeckOk H D c ∧ c + xs.length ≤ 1000000 ∧ xs.length < n ∧ xs.length ≤ 1000 ∧ 0 ≤ way ∧ way ≤ 4 ∧
  H p = some (.lst (xs.map V.str)) ∧ Off D p ∧ ∀ (v : V) (t : T) (c' : Nat) (H' : Hp), DeckOk H' D c' → c' ≤ c + xs.length → SameD D H H' → TreeAt H' v t → t.btw = xs → Q v H'
theorem pick_many {z : Int} {i way : Int} (z1 : 1 ≤ z) (i0 : 0 ≤ i) (i1 : i < z) (w0 : 0 ≤ way) (w1 : way ≤ 4) : ∃ m : Nat, atI [V.int i, V.int (z - 1), V.int 0, V.int ((z - 1) * (z % 2)), V.int ((z - 1) / 2)] way = some (.int (m : Int)) ∧ (m : Int) < z := by
  have h : way = ((0 : Nat) : Int) ∨ way = ((1 : Nat) : Int) ∨ way = ((2 : Nat) : Int) ∨ way = ((3 : Nat) : Int) ∨ way = ((4 : Nat) : Int) := by omega
  rcases h with rfl | rfl | rfl | rfl | rfl
  · exact ⟨i.toNat, by rw [Int.toNat_of_nonneg i0]; exact atI_nat rfl, by omega⟩
  · exact ⟨(z - 1).toNat, by rw [Int.toNat_of_nonneg (by omega)]; exact atI_nat rfl, by omega⟩
  · exact ⟨0, atI_nat rfl, by omega⟩
  · have h2 : z % 2 = 0 ∨ z % 2 = 1 := by omega
    rcases h2 with e | e
    · exact ⟨0, by rw [e, Int.mul_zero]; exact atI_nat rfl, by omega⟩
    · exact ⟨(z - 1).toNat, by rw [e, Int.mul_one, Int.toNat_of_nonneg (by omega)]; exact atI_nat rfl, by omega⟩
  · exact ⟨((z - 1) / 2).toNat, by rw [Int.toNat_of_nonneg (by omega)]; exact atI_nat rfl, by omega⟩
section
variable {P : Program} {w : World} {K : PySem.W.Frag} {mg : Str → Option Value} {base : Heap} {f fN : Addr} {fd fdN : FuncData}
theorem ok_grown (F : Fun K "_law_grown" "_law_grown" sGrown f fd) (b : Binds K fd ["_law_deck_here", "_law_size", "_law_way", "_law_letters_here"] []) (g : mg "_law_grown" = some (.ref f))
    (GN : FnOk P w K mg base CX0 1 fN fdN ["_law_deck_here", "_law_many"] spNext) (bN : Binds K fdN ["_law_deck_here", "_law_many"] []) (kN : PySem.W.keepIn K (.ref fN) = true) (gN : mg "_law_next" = some (.ref fN)) :
    ∀ n : Nat, FnOk P w K mg base CX0 (n + 1) f fd ["_law_deck_here", "_law_size", "_law_way", "_law_letters_here"] (spGrown n)
  | 0 => by
    have no : ∀ vs H Q E, ¬ spGrown 0 vs H Q E := fun vs H Q E h => by
      obtain ⟨D, c, way, p, xs, _, _, _, h1, _⟩ := h
      omega
    exact ⟨fun vs H Q E h => absurd h (no vs H Q E), fun A outer s H args us vs Q E _ _ _ _ h => absurd h (no vs H Q E)⟩
  | n + 1 => by
    have G := ok_grown F b g GN bN kN gN n
    refine F.ok scGrown (fun vs H Q E h => ?_) (fun cdv A outer s H vs Q E hr h => ?_)
    · obtain ⟨D, c, way, p, xs, rfl, _⟩ := h
      rfl
    obtain ⟨D, c, way, p, xs, rfl, d, hc, hn, hx, w0, w1, ep, op, q⟩ := h
    have hr1 : Room 1 (A.deeper (envOfC "_law_grown" (defScope sGrown) s.heap.objs.size f cdv)) := hr.mono (by omega)
    refine ⟨_, pss_cons (ps_if (pt_cmpR op_eq (pv 1) pe_int (nomark _)) (pss_one (ps_ret pe_non)) pss_nil)
      (pss_cons (ps_set (i := 4) scGrown.nd rfl (.inl rfl) (pe_ix ix_list (pe_lst (pa_cons (pe_call GN hr1 rfl gN kN bN .nil pass0 (pa_cons (pv 0) (pa_cons (pv 1) pa_nil))) (pa_cons (pe_op op_sub (pv 1) pe_int) (pa_cons pe_int
          (pa_cons (pe_op op_mul (pe_op op_sub (pv 1) pe_int) (pe_op op_mod (pv 1) pe_int)) (pa_cons (pe_op op_fdiv (pe_op op_sub (pv 1) pe_int) pe_int) pa_nil)))))) (pv 2) (fun _ _ => rfl)))
      (pss_cons (ps_set (i := 5) scGrown.nd rfl (.inl rfl) (pe_call G hr rfl g F.kp b .nil pass0 (pa_cons (pv 0) (pa_cons (pv 4) (pa_cons (pv 2) (pa_cons (pe_slice sl_list (pv 3) po_none (po_some (pv 4))) pa_nil))))))
      (pss_one (ps_ret (pe_tup (pa_cons (pv 5) (pa_cons (pe_ix ix_list (pv 3) (pv 4) (fun _ _ => rfl)) (pa_cons
        (pe_call G hr rfl g F.kp b .nil pass0 (pa_cons (pv 0) (pa_cons (pe_op op_sub (pe_op op_sub (pv 1) pe_int) (pv 4)) (pa_cons (pv 2) (pa_cons (pe_slice sl_list (pv 3) (po_some (pe_op op_add (pv 4) pe_int)) po_none) pa_nil))))) pa_nil)))))))), ?_⟩
    refine ⟨_, rfl, rfl, _, rfl, ite2 (fun e => ?_) (fun e => ?_)⟩
    · have e0 : (xs.length : Int) = 0 := V.int.inj (of_decide_eq_true e)
      have ex : xs = [] := List.eq_nil_of_length_eq_zero (by omega)
      exact q .non .nil c H d (by omega) (SameD.refl D H) .nil (by rw [ex]; rfl)
    · have e0 : ¬ (xs.length : Int) = 0 := fun z => e (decide_eq_true (congrArg V.int z))
      have x1 : (1 : Int) ≤ (xs.length : Int) := by omega
      refine ⟨_, rfl, _, rfl, D, c, _, rfl, d, by omega, by omega, by omega, fun i H1 i0 i1 d1 s1 => ?_⟩
      refine ⟨_, rfl, _, _, rfl, rfl, _, rfl, _, _, rfl, rfl, _, rfl, _, _, rfl, rfl, (show (0 : Int) < 2 by decide), _, _, rfl, rfl, .inl ⟨by omega, by omega⟩, ?_⟩
      refine ⟨_, rfl, _, _, rfl, rfl, _, _, rfl, rfl, ⟨by decide, by decide⟩, (by show 5 ≤ sizeLine; decide), fun l nl => ?_⟩
      obtain ⟨m, hm, ml⟩ := pick_many x1 i0 i1 w0 w1
      refine ⟨_, rfl, l, _, _, _, rfl, rfl, SqL.of upd_same, hm, ?_⟩
      have q1 := same_new nl (.lst [V.int i, V.int ((xs.length : Int) - 1), V.int 0, V.int (((xs.length : Int) - 1) * ((xs.length : Int) % 2)), V.int (((xs.length : Int) - 1) / 2)])
      have d2 := d1.same q1
      have s2 := s1.trans (SameD.of q1)
      have ep2 := s2.at op ep
      -- left
      refine ⟨_, rfl, _, rfl, _, rfl, _, rfl, _, rfl, _, rfl, p, _, rfl, SqL.of ep2, fun p1 np1 => ?_⟩
      rw [cut_to, ← List.map_take] at *
      have lt : (xs.take m).length = m := by rw [List.length_take]; omega
      have q2 := same_new np1 (.lst ((xs.take m).map V.str))
      have d3 := d2.same q2
      have s3 := s2.trans (SameD.of q2)
      refine ⟨D, c + 1, way, p1, xs.take m, by rw [lt]; rfl, d3, by omega, by omega, by omega, w0, w1, upd_same, d2.new np1, fun v1 t1 c1 H3 d4 hc1 s4 at1 bt1 => ?_⟩
      have ep4 := (s3.trans s4).at op ep
      have hm' : m < xs.length := by omega
      have am : atI (xs.map V.str) ((m : Nat) : Int) = some (.str xs[m]) := at_map (by omega) (by rw [Int.toNat_natCast]; exact List.getElem?_eq_getElem hm')
      refine ⟨_, rfl, _, rfl, _, rfl, p, _, _, _, rfl, rfl, SqL.of ep4, am, ?_⟩
      refine ⟨_, rfl, _, rfl, _, _, rfl, rfl, _, rfl, _, _, rfl, rfl, _, rfl, _, rfl, _, rfl, _, _, rfl, rfl, _, rfl, p, _, rfl, SqL.of ep4, fun p2 np2 => ?_⟩
      have em : ((m : Nat) : Int) + 1 = ((m + 1 : Nat) : Int) := by omega
      rw [show cutV (xs.map V.str) (some (((m : Nat) : Int) + 1)) none = (xs.drop (m + 1)).map V.str by rw [em, cut_from, List.map_drop]]
      have ld : (xs.drop (m + 1)).length = xs.length - 1 - m := by rw [List.length_drop]; omega
      have ldi : (((xs.drop (m + 1)).length : Nat) : Int) = (xs.length : Int) - 1 - (m : Int) := by rw [ld]; omega
      have q3 := same_new np2 (.lst ((xs.drop (m + 1)).map V.str))
      have d5 := d4.same q3
      refine ⟨D, c1, way, p2, xs.drop (m + 1), by rw [ldi]; rfl, d5, by omega, by omega, by omega, w0, w1, upd_same, d4.new np2, fun v2 t2 c2 H4 d6 hc2 s5 at2 bt2 => ?_⟩
      refine ⟨(by show 3 ≤ sizeLine; decide), fun r nr => ?_⟩
      have q4 := same_new nr (.tup [v1, .str xs[m], v2])
      refine q (.ref r) (.node t1 xs[m] t2) c2 _ (d6.same q4) (by omega) (s3.trans (s4.trans ((SameD.of q3).trans (s5.trans (SameD.of q4))))) (.node upd_same ?_ (at2.same q4)) ?_
      · exact ((at1.same q3).keep (s5.keepT d5)).same q4
      · show t1.btw ++ xs[m] :: t2.btw = xs
        rw [bt1, bt2]
        rw [← List.drop_eq_getElem_cons hm', List.take_append_drop]
end
/-! ### _law_tree -/
theorem scTree : FnScope ["_law_deck_here", "_law_limit", "_law_size", "_law_way"] ["_law_deck_here", "_law_limit"] (defScope sTree) := ⟨rfl, rfl, rfl, by decide +kernel, rfl, by decide +kernel, by decide +kernel⟩
def spTree : Sp := fun vs H Q _ => ∃ (D : Deck) (n lim : Nat), vs = [.ref D.dk, .int (lim : Int)] ∧ DeckOk H D n ∧ n + 2 * lim + 10 ≤ 1000000 ∧ 1 ≤ lim ∧ lim ≤ 26 ∧
  ∀ (v : V) (t : T) (n' : Nat) (H' : Hp), DeckOk H' D n' → n' ≤ n + 2 * lim + 3 → SameD D H H' → TreeAt H' v t → 1 ≤ t.size → t.size ≤ lim → (∀ x ∈ t.btw, Ltr x) → Q v H'
theorem pick_way {i : Int} (i0 : 0 ≤ i) (i1 : i < 7) : ∃ z : Int, atI [V.int 0, V.int 0, V.int 0, V.int 1, V.int 2, V.int 3, V.int 4] i = some (.int z) ∧ 0 ≤ z ∧ z ≤ 4 := by
  have h : i = ((0 : Nat) : Int) ∨ i = ((1 : Nat) : Int) ∨ i = ((2 : Nat) : Int) ∨ i = ((3 : Nat) : Int) ∨ i = ((4 : Nat) : Int) ∨ i = ((5 : Nat) : Int) ∨ i = ((6 : Nat) : Int) := by omega
  rcases h with rfl | rfl | rfl | rfl | rfl | rfl | rfl
  · exact ⟨0, atI_nat rfl, by decide, by decide⟩
  · exact ⟨0, atI_nat rfl, by decide, by decide⟩
  · exact ⟨0, atI_nat rfl, by decide, by decide⟩
  · exact ⟨1, atI_nat rfl, by decide, by decide⟩
  · exact ⟨2, atI_nat rfl, by decide, by decide⟩
  · exact ⟨3, atI_nat rfl, by decide, by decide⟩
  · exact ⟨4, atI_nat rfl, by decide, by decide⟩
section
variable {P : Program} {w : World} {K : PySem.W.Frag} {mg : Str → Option Value} {base : Heap} {f fN fL fG : Addr} {fd fdN fdL fdG : FuncData}
theorem ok_tree (F : Fun K "_law_tree" "_law_tree" sTree f fd)
    (GN : FnOk P w K mg base CX0 1 fN fdN ["_law_deck_here", "_law_many"] spNext) (bN : Binds K fdN ["_law_deck_here", "_law_many"] []) (kN : PySem.W.keepIn K (.ref fN) = true) (gN : mg "_law_next" = some (.ref fN))
    (GL : FnOk P w K mg base CX0 2 fL fdL ["_law_deck_here", "_law_size"] spLett) (bL : Binds K fdL ["_law_deck_here", "_law_size"] []) (kL : PySem.W.keepIn K (.ref fL) = true) (gL : mg "_law_letters" = some (.ref fL))
    (GG : FnOk P w K mg base CX0 28 fG fdG ["_law_deck_here", "_law_size", "_law_way", "_law_letters_here"] (spGrown 27)) (bG : Binds K fdG ["_law_deck_here", "_law_size", "_law_way", "_law_letters_here"] []) (kG : PySem.W.keepIn K (.ref fG) = true) (gG : mg "_law_grown" = some (.ref fG)) :
    FnOk P w K mg base CX0 29 f fd ["_law_deck_here", "_law_limit"] spTree := by
  refine F.ok scTree (fun vs H Q E h => ?_) (fun cdv A outer s H vs Q E hr h => ?_)
  · obtain ⟨D, n, m, rfl, _⟩ := h
    rfl
  obtain ⟨D, n, lim, rfl, d, hn, l0, l1, q⟩ := h
  have hr1 : Room 1 (A.deeper (envOfC "_law_tree" (defScope sTree) s.heap.objs.size f cdv)) := hr.mono (by omega)
  have hr2 : Room 2 (A.deeper (envOfC "_law_tree" (defScope sTree) s.heap.objs.size f cdv)) := hr.mono (by omega)
  refine ⟨_, pss_cons (ps_par (i := 2) (j := 3) (by rfl) scTree.nd rfl rfl (by decide) rfl rfl (pa_cons (pe_op op_add pe_int (pe_call GN hr1 rfl gN kN bN .nil pass0 (pa_cons (pv 0) (pa_cons (pv 1) pa_nil))))
      (pa_cons (pe_ix ix_list (pe_lst (pa_cons pe_int (pa_cons pe_int (pa_cons pe_int (pa_cons pe_int (pa_cons pe_int (pa_cons pe_int (pa_cons pe_int pa_nil)))))))) (pe_call GN hr1 rfl gN kN bN .nil pass0 (pa_cons (pv 0) (pa_cons pe_int pa_nil))) (fun _ _ => rfl)) pa_nil)) (by rfl))
    (pss_one (ps_ret (pe_call GG hr rfl gG kG bG .nil pass0 (pa_cons (pv 0) (pa_cons (pv 2) (pa_cons (pv 3) (pa_cons (pe_call GL hr2 rfl gL kL bL .nil pass0 (pa_cons (pv 0) (pa_cons (pv 2) pa_nil))) pa_nil))))))), ?_⟩
  refine ⟨_, rfl, _, rfl, D, n, _, rfl, d, by omega, by omega, by omega, fun i H1 i0 i1 d1 s1 => ?_⟩
  refine ⟨_, _, rfl, rfl, (by show 7 ≤ sizeLine; decide), fun l nl => ?_⟩
  have q1 := same_new nl (.lst [V.int 0, V.int 0, V.int 0, V.int 1, V.int 2, V.int 3, V.int 4])
  refine ⟨_, rfl, D, n + 1, 7, rfl, d1.same q1, by omega, by decide, by decide, fun j H2 j0 j1 d2 s2 => ?_⟩
  obtain ⟨z, hz, z0, z4⟩ := pick_way j0 j1
  refine ⟨l, _, _, _, rfl, rfl, SqL.of (s2.at (d1.new nl) upd_same), hz, ?_⟩
  refine ⟨_, _, rfl, ?_⟩
  have ei : (1 : Int) + i = (((1 + i).toNat : Nat) : Int) := by omega
  have s3 := s1.trans ((SameD.of q1).trans s2)
  refine ⟨_, rfl, _, rfl, _, rfl, _, rfl, _, rfl, D, n + 2, (1 + i).toNat, by rw [← ei]; rfl, d2, by omega, by omega, by omega, fun p xs n3 H3 d3 hn3 s4 ep hxl hxs op => ?_⟩
  refine ⟨D, n3, z, p, xs, by rw [hxl, ← ei]; rfl, d3, by omega, by omega, by omega, z0, z4, ep, op, fun v t c' H4 d4 hc' s5 at4 bt => ?_⟩
  have hs := t.btw_len
  rw [bt] at hs
  exact q v t c' H4 d4 (by omega) (s3.trans (s4.trans s5)) at4 (by omega) (by omega) (by rw [bt]; exact hxs)
end
/-! ### a def entered at one caller -/
theorem enter_def {P : Program} {w : World} {K : PySem.W.Frag} {mg : Str → Option Value} {base : Heap} {f : Addr} {fd : FuncData} {N ps : List Str} {k : Nat} {x qual : Str} {st : Stmt} (F : Fun K x qual st f fd) (S : FnScope N ps (defScope st))
    {A : Around} {outer : List Env} {s : Shared} {H : Hp} {args : Args} {us : List Value} {vs : List V} {Q : VK} {E : XK}
    (room : Room (k + 1) A) (en : Env0 P w K mg base A outer s H) (bd : BindsTo s fd args (ps.zip us)) (rel : Vals vs us) (hln : vs.length = ps.length)
    (body : ∀ cdv : Value, Room k (A.deeper (envOfC qual (defScope st) s.heap.objs.size f cdv)) →
      ∃ t, PSs (cxOf CX0 P w K mg base N qual (defScope st) f cdv A outer s H E).nox (defBody st) t ∧ t { nx := fun _ H' => Q .non H', rt := Q } (start N vs) H) :
    codeAny (model P w) A (.call (.ref f) args) (CR CX0 outer P w H s Q E) s := by
  obtain ⟨oc, od, kV, doc, pm, an, cdv, ct, osl, rfl, look, code⟩ := F.ex
  have still : ∀ b o, base.get? b = some o → s.heap.get? b = some o := fun b o e => (en.bs b o e).1
  have inK : K.In s.heap := en.mod.kin.keeps still
  have noL : s.heap.NoLimit := en.mod.nolimit.keeps still
  have kinds : ∀ y ∈ ps.zip us, (defScope st).names.lookup y.1 = some .local ∨
      ((defScope st).names.lookup y.1 = some .cell ∧ ((cellsFrom (s.heap.objs.size + 1) (defScope st).names []).lookup y.1).isSome = true) := by
    rintro ⟨nm, u⟩ hy
    cases S.par nm (List.of_mem_zip hy).1 with
    | inl z => exact .inl z
    | inr z => exact .inr ⟨z, PySem.W.cellsFrom_some _ _ _ (.inl z)⟩
  have step := codeAny_call_function (prog := P) (w := w) (A := A) (s := s) room.depth (inK _ _ look) rfl S.co S.gen rfl (PySem.W.codeRec_of inK code)
    (R := CR CX0 outer P w H s Q E) (args := args)
  refine step (bd _ _ _ _ ?_)
  refine wpAny_newFunctionEnv_cells S.kind kinds ?_
  intro env isEnv s1 inC
  subst isEnv
  refine ⟨noL.keeps inC.toInCall.keep, codeAny_func ?_⟩
  obtain ⟨t, ht, hq⟩ := body cdv (room.deeper _)
  have J : Inv (cxOf CX0 P w K mg base N qual (defScope st) f cdv A outer s H E) [] (start N vs) H s1 := inv_start S room.hd en hln rel inC
  refine wpAny_mono (ht.nox.run [] s1 (start N vs) H _ J hq) ?_ ?_
  · intro fl s' done
    cases fl with
    | ret u =>
      obtain ⟨v, σ', H', I', rv, qv⟩ := done
      exact ⟨v, H', I'.os, I'.bare, I'.base, I'.hok, rv, qv⟩
    | next =>
      obtain ⟨σ', H', I', qv⟩ := done
      exact ⟨V.non, H', I'.os, I'.bare, I'.base, I'.hok, rfl, qv⟩
    | brk => exact done.elim fun _ z => z.elim fun _ z => z.2.elim
    | cont => exact done.elim fun _ z => z.elim fun _ z => z.2.elim
  · intro e s' z
    exact z
/-! ### the law's own call -/
theorem law_at {P : Program} {w : World} {K : PySem.W.Frag} {mg mb : Str → Option Value} {fa a : Addr} {s₁ : Shared} {vs : List Value} {ns : List Int}
    (inK : K.In s₁.heap) (gl : s₁.heap.Ns mainGlobals mg) (bl : s₁.heap.Ns builtinsNs mb) (isB : ∀ x : Str, x ≠ "__name__" → mb x = bootBuiltins x) (lim : s₁.heap.NoLimit) (gens : s₁.gens = #[])
    (obj : s₁.heap.get? a = some { cls := .type "list", data := .seq vs.toArray }) (hints : IntsAre vs ns) (few : ns.length ≤ sizeLine)
    (run : ∀ (base : Heap) (H : Hp), K.In base → base.Ns mainGlobals mg → Env0 P w K mg base callerA [] s₁ H → SqL K H a (ns.map V.int) →
      codeAny (model P w) callerA (.call (.ref fa) ⟨[.ref a], []⟩) (CR CX0 [] P w H s₁ (fun v _ => v = .bl true) fun _ _ _ => False) s₁) :
    codeAny (model P w) callerA (.call (.ref fa) ⟨[.ref a], []⟩) (fun r s' => r = .ok (.ret (.bool true)) ∧ OldK s₁.heap s'.heap ∧ s'.os = s₁.os ∧ AllBare s'.gens) s₁ := by
  have rel := vals_ints hints
  have lens := hints.length
  have found : ∃ H : Hp, Only H ∧ SqL K H a (ns.map V.int) ∧ HOk P w H s₁.heap ∧ (∀ b u, H b = some u → b = a ∧ K.lookup a = none) := by
    cases inText : K.lookup a with
    | some o =>
      have same := inK a o inText
      rw [obj] at same
      cases same
      have never : ∀ (u : HO), (none : Option HO) ≠ some u := fun u z => by cases z
      refine ⟨fun _ => none, fun _ => .inl rfl, ?_, (fun b u z => (never u z).elim), (fun b u z => (never u z).elim)⟩
      refine .inr ⟨_, vs.toArray, _, inText, rfl, rfl, rfl, ?_, ?_⟩
      · rw [List.size_toArray, lens]
        exact few
      · rw [List.toList_toArray]
        exact rel
    | none =>
      let here : HO := .frz { cls := .type "list", data := .seq vs.toArray } (.lst (ns.map V.int))
      have only : ∀ b u, (if b = a then some here else none) = some u → b = a ∧ u = here := fun b u z => by
        by_cases hb : b = a
        · rw [if_pos hb] at z
          exact ⟨hb, (Option.some.inj z).symm⟩
        · rw [if_neg hb] at z
          cases z
      refine ⟨fun b => if b = a then some here else none, fun b => ?_, .inl (.inr ⟨{ cls := .type "list", data := .seq vs.toArray }, if_pos rfl⟩), fun b u z => ?_, fun b u z => ⟨(only b u z).1, rfl⟩⟩
      · by_cases hb : b = a
        · exact .inr ⟨_, _, if_pos hb⟩
        · exact .inl (if_neg hb)
      · obtain ⟨rfl, rfl⟩ := only b u z
        exact ⟨obj, by rw [List.length_map]; exact few, vs, _, rel, obj⟩
  obtain ⟨H, hO, hS, hok, hA⟩ := found
  have under : ∀ {b : Addr} {o : Obj}, s₁.heap.get? b = some o → H b = none → (hidT s₁.heap H).get? b = some o := fun e z => hidT_get e z
  have notDict : ∀ {b : Addr} {o : Obj} {es : Array DictEntry} {ep : Nat}, s₁.heap.get? b = some o → o.data = .dict es ep → H b = none := by
    intro b o es ep e isD
    cases z : H b with
    | none => rfl
    | some u =>
      obtain ⟨rfl, _⟩ := hA b u z
      rw [obj] at e
      cases e
      cases isD
  have ns' : ∀ {b : Addr} {m : Str → Option Value}, s₁.heap.Ns b m → (hidT s₁.heap H).Ns b m := by
    rintro b m ⟨o, es, ep, e, isD, r⟩
    exact ⟨o, es, ep, under e (notDict e isD), isD, r⟩
  have inK' : K.In (hidT s₁.heap H) := by
    intro b o e
    refine under (inK b o e) ?_
    cases z : H b with
    | none => rfl
    | some u =>
      obtain ⟨rfl, no⟩ := hA b u z
      rw [no] at e
      cases e
  obtain ⟨mc, l1, l2⟩ := lim
  have env : Env0 P w K mg (hidT s₁.heap H) callerA [] s₁ H :=
    ⟨rfl, ⟨inK', ns' gl, ⟨mb, ns' bl, isB⟩, ⟨mc, ns' l1, l2⟩⟩, fun _ _ e => of_hidT e, Nat.le_of_eq (hidT_size _ _), trivial, (fun _ hb => nomatch hb), hok, .of_eq gens⟩
  refine codeAny_mono (run _ H inK' (ns' gl) env hS) ?_
  intro r s' h
  cases r with
  | error e => exact h.elim
  | ok fl =>
    cases fl with
    | next => exact h.elim
    | brk => exact h.elim
    | cont => exact h.elim
    | ret u =>
      obtain ⟨v, H', os, bare, un, hok', rv, isT⟩ := h
      subst isT
      cases rv
      refine ⟨rfl, OldK.of_keep ?_, os, bare⟩
      intro b o e
      cases z : H b with
      | none => exact un.keep b o e z (fun y => nomatch y) (fun y => nomatch y)
      | some u =>
        rcases hO b with y | ⟨ob, xs, y⟩
        · rw [z] at y
          cases y
        · have y2 := un.frzs b ob _ y
          obtain ⟨e1, _⟩ := hok b _ y
          obtain ⟨e2, _⟩ := hok' b _ y2
          rw [e] at e1
          cases e1
          exact e2
theorem T.data_deep : ∀ t : T, t.data.depth = t.deep
  | .nil => by simp only [T.data, PyData.depth, T.deep]
  | .node l x r => by
    have h1 := l.data_deep
    have h2 := r.data_deep
    simp only [T.data, PyData.depth, PyData.depthAll, T.deep, h1, h2]
    omega
def T.lt (t : T) : Prop := ∀ x ∈ t.btw, Ltr x
theorem strOk_ltr {x : Str} (h : Ltr x) : PyData.strOk x = true := by
  obtain ⟨c, h1, h2, rfl⟩ := h
  show (#[c] : Array Nat).all (· < 0x110000) = true
  rw [← Array.all_toList]
  show (decide (c < 0x110000) && true) = true
  rw [Bool.and_true, decide_eq_true_eq]
  omega
theorem T.lt_node {l r : T} {x : Str} (h : (T.node l x r).lt) : l.lt ∧ Ltr x ∧ r.lt :=
  ⟨fun y hy => h y (List.mem_append_left _ hy), h x (List.mem_append_right _ (List.mem_cons_self ..)), fun y hy => h y (List.mem_append_right _ (List.mem_cons_of_mem _ hy))⟩
theorem T.can : ∀ t : T, t.lt → t.data.canLay0 = true
  | .nil, _ => by simp only [T.data, PyData.canLay0]
  | .node l x r, h => by
    obtain ⟨h1, h2, h3⟩ := T.lt_node h
    simp only [T.data, PyData.canLay0, PyData.canLayAll0, l.can h1, r.can h3, strOk_ltr h2, Bool.and_self]
/-! ### repr of data -/
theorem call_reprD {X : Cx} (hg : X.A.guards = some []) (hu : X.A.units + 64 < cLine) : CallR X (.builtin "repr") (fun xs H Q => ∃ (a : Addr) (d : PyData), xs = [.ref a] ∧ Dp X.K H (.ref a) d ∧ d.showable = true ∧ d.hasDict = false ∧ d.depth ≤ 60 ∧ d.shown.length ≤ sizeLine ∧ Q (.str d.shown) H) := by
  intro pins s σ H xs us Q I r h
  obtain ⟨a, d, rfl, hd, hs, hn, hz, hl, q⟩ := h
  obtain ⟨u, rfl, rx⟩ := vals1 r
  cases rx
  obtain ⟨as, rd⟩ := Dp.reads I d _ _ hd rfl
  exact repr_of_reads' rd hs (PyData.noDict_hsm hn) hg (by omega) (fun _ _ e => e) (fun h' u tk hk => ⟨.str d.shown, H, I.kept (t' := tk) hk, ⟨u, rfl⟩, q⟩) hl
theorem T.showable : ∀ t : T, t.data.showable = true
  | .nil => by simp only [T.data, PyData.showable]
  | .node l x r => by simp only [T.data, PyData.showable, PyData.showableAll, l.showable, r.showable, Bool.and_self]
theorem T.noDict : ∀ t : T, t.data.hasDict = false
  | .nil => by simp only [T.data, PyData.hasDict]
  | .node l x r => by simp only [T.data, PyData.hasDict, PyData.hasDictAll, l.noDict, r.noDict, Bool.or_self]
theorem ltr_repr {x : Str} (h : Ltr x) : (reprText x).length ≤ 12 := by
  obtain ⟨c, h1, h2, rfl⟩ := h
  have := StrLaws.reprText_len ⟨#[c]⟩ (fun z hz => by
    have : z = c := by simpa using hz
    rw [this]
    exact Nat.lt_of_le_of_lt h2 (by decide))
  exact this
theorem T.shown_len : ∀ t : T, t.lt → t.data.shown.length ≤ 24 * t.size + 4
  | .nil, _ => by
    simp only [T.data, PyData.shown, T.size]
    decide +kernel
  | .node l x r, h => by
    obtain ⟨h1, h2, h3⟩ := T.lt_node h
    have a1 := l.shown_len h1
    have a2 := ltr_repr h2
    have a3 := r.shown_len h3
    simp only [T.data, PyData.shown, PyData.shownAll, T.size]
    refine Nat.le_trans (fmt_text _) ?_
    rw [piled_cons, piled_cons, piled_cons]
    have z : piled [] = 0 := rfl
    omega
theorem T.nar_data : ∀ t : T, nar t.data = true
  | .nil => by simp only [T.data, nar]
  | .node l x r => by
    simp only [T.data, nar, narAll, l.nar_data, r.nar_data, Bool.and_self, Bool.and_true, List.length_cons, List.length_nil]
    exact decide_eq_true (by omega)
theorem T.mir_deep : ∀ t : T, t.mir.deep = t.deep
  | .nil => rfl
  | .node l _ r => by
    have h1 := l.mir_deep
    have h2 := r.mir_deep
    show 1 + max r.mir.deep l.mir.deep = 1 + max l.deep r.deep
    omega
/-! ### texts of trees -/
def T.isNil : T → Bool
  | .nil => true
  | .node _ _ _ => false
def T.cs : T → List Nat
  | .nil => [45]
  | .node l x r => if (l.isNil && r.isNil) = true then x.cps.toList else x.cps.toList ++ 40 :: (l.cs ++ 44 :: (r.cs ++ [41]))
def tx (l : List Nat) : Str := ⟨l.toArray⟩
theorem tx_len (l : List Nat) : (tx l).length = l.length := rfl
theorem tx_app (a b : List Nat) : tx a ++ tx b = tx (a ++ b) := by
  show (⟨(tx a).cps ++ (tx b).cps⟩ : Str) = _
  simp [tx]
theorem tx_of (x : Str) : tx x.cps.toList = x := rfl
theorem tx_inj {a b : List Nat} (h : tx a = tx b) : a = b := congrArg (fun z : Str => z.cps.toList) h
def T.text (t : T) : Str := tx t.cs
theorem isNil_eq {t : T} : t.isNil = true ↔ t = .nil := by
  cases t with
  | nil => exact ⟨fun _ => rfl, fun _ => rfl⟩
  | node l x r => exact ⟨(fun h => nomatch h), (fun h => nomatch h)⟩
theorem cs_leaf (x : Str) : (T.node .nil x .nil).cs = x.cps.toList := rfl
theorem cs_node {l r : T} (x : Str) (h : ¬ (l = .nil ∧ r = .nil)) : (T.node l x r).cs = x.cps.toList ++ 40 :: (l.cs ++ 44 :: (r.cs ++ [41])) := by
  show (if (l.isNil && r.isNil) = true then _ else _) = _
  rw [if_neg]
  intro z
  rw [Bool.and_eq_true, isNil_eq, isNil_eq] at z
  exact h z
theorem ltr_len {x : Str} (h : Ltr x) : x.cps.toList.length = 1 := by
  obtain ⟨c, _, _, rfl⟩ := h
  rfl
theorem cs_len : ∀ t : T, t.lt → t.cs.length ≤ 6 * t.size + 1
  | .nil, _ => Nat.le_refl _
  | .node l x r, h => by
    obtain ⟨h1, h2, h3⟩ := T.lt_node h
    have a1 := cs_len l h1
    have a2 := cs_len r h3
    have a3 := ltr_len h2
    by_cases z : l = .nil ∧ r = .nil
    · obtain ⟨rfl, rfl⟩ := z
      rw [cs_leaf, a3]
      exact Nat.le_add_left ..
    · rw [cs_node x z]
      show _ ≤ 6 * (l.size + 1 + r.size) + 1
      simp only [List.length_append, List.length_cons, List.length_nil]
      omega
/-- the text is read in one way -/
theorem cs_inj : ∀ (t : T), t.lt → ∀ (u : T), u.lt → ∀ R S : List Nat, R.head? ≠ some 40 → S.head? ≠ some 40 → t.cs ++ R = u.cs ++ S → t = u ∧ R = S
  | .nil, _, .nil, _, R, S, _, _, e => ⟨rfl, by injection e⟩
  | .nil, _, .node l x r, h, R, S, _, _, e => by
    obtain ⟨_, ⟨c, c1, c2, rfl⟩, _⟩ := T.lt_node h
    exfalso
    by_cases z : l = .nil ∧ r = .nil
    · obtain ⟨rfl, rfl⟩ := z
      injection e with e1 _
      omega
    · rw [cs_node _ z] at e
      injection e with e1 _
      omega
  | .node l x r, h, .nil, _, R, S, _, _, e => by
    obtain ⟨_, ⟨c, c1, c2, rfl⟩, _⟩ := T.lt_node h
    exfalso
    by_cases z : l = .nil ∧ r = .nil
    · obtain ⟨rfl, rfl⟩ := z
      injection e with e1 _
      omega
    · rw [cs_node _ z] at e
      injection e with e1 _
      omega
  | .node l x r, h, .node l' x' r', h', R, S, hR, hS, e => by
    obtain ⟨h1, ⟨c, c1, c2, rfl⟩, h3⟩ := T.lt_node h
    obtain ⟨h1', ⟨c', c1', c2', rfl⟩, h3'⟩ := T.lt_node h'
    by_cases z : l = .nil ∧ r = .nil
    · obtain ⟨rfl, rfl⟩ := z
      by_cases z' : l' = .nil ∧ r' = .nil
      · obtain ⟨rfl, rfl⟩ := z'
        injection e with e1 e2
        exact ⟨by rw [e1], e2⟩
      · rw [cs_node _ z'] at e
        injection e with e1 e2
        exact absurd (by rw [show R = _ from e2]; rfl) hR
    · by_cases z' : l' = .nil ∧ r' = .nil
      · obtain ⟨rfl, rfl⟩ := z'
        rw [cs_node _ z] at e
        injection e with e1 e2
        exact absurd (by rw [show S = _ from e2.symm]; rfl) hS
      · rw [cs_node _ z, cs_node _ z'] at e
        have e' : c :: 40 :: (l.cs ++ (44 :: (r.cs ++ (41 :: R)))) = c' :: 40 :: (l'.cs ++ (44 :: (r'.cs ++ (41 :: S)))) := by
          simpa using e
        injection e' with e1 e2
        injection e2 with _ e3
        obtain ⟨rfl, e4⟩ := cs_inj l h1 l' h1' _ _ (by simp) (by simp) e3
        injection e4 with _ e5
        obtain ⟨rfl, e6⟩ := cs_inj r h3 r' h3' _ _ (by simp) (by simp) e5
        injection e6 with _ e7
        exact ⟨by rw [e1], e7⟩
theorem text_inj {t u : T} (ht : t.lt) (hu : u.lt) (h : t.text = u.text) : t = u :=
  (cs_inj t ht u hu [] [] (by simp) (by simp) (by rw [List.append_nil, List.append_nil]; exact tx_inj h)).1
theorem eqv_data : ∀ t u : T, PyData.eqv t.data u.data = true ↔ t = u
  | .nil, .nil => by simp [T.data, PyData.eqv]
  | .nil, .node l x r => by simp [T.data, PyData.eqv]
  | .node l x r, .nil => by simp [T.data, PyData.eqv]
  | .node l x r, .node l' x' r' => by
    have h1 := eqv_data l l'
    have h2 := eqv_data r r'
    simp only [T.data, PyData.eqv, PyData.eqvAll, Bool.and_eq_true, h1, h2, T.node.injEq]
    simp
theorem eqv_text {t u : T} (ht : t.lt) (hu : u.lt) : PyData.eqv t.data u.data = decide (V.str t.text = V.str u.text) := by
  by_cases h : t = u
  · subst h
    rw [(eqv_data t t).mpr rfl, decide_eq_true rfl]
  · have a : PyData.eqv t.data u.data = false := by
      cases e : PyData.eqv t.data u.data with
      | false => rfl
      | true => exact absurd ((eqv_data t u).mp e) h
    rw [a, decide_eq_false fun z => h (text_inj ht hu (V.str.inj z))]
section
variable {P : Program} {w : World} {K : PySem.W.Frag} {mg : Str → Option Value} {base : Heap} {f : Addr} {fd : FuncData}
/-! ### mirrored -/
def spMir (n : Nat) : Sp := fun vs H Q _ => ∃ (v : V) (t : T), vs = [v] ∧ TreeAt H v t ∧ t.deep < n ∧ ∀ H' v', Same H H' → TreeAt H' v' t.mir → Q v' H'
end
/-! ### the table of generators: what sleeps is not touched -/
def gFroz : GenState → GenState
  | .suspended _ l c p fs cl => .suspended (fun _ => .unsupported "asleep") l c p fs cl
  | x => x
def gSlp : GenState → Bool
  | .suspended .. => true
  | _ => false
def NoZ (Z : Nat → Prop) (fs : List Frame) : Prop := ∀ g k l c p, Frame.gen g k l c p ∈ fs → ¬ Z g
def OkSt (Z : Nat → Prop) (x : GenState) : Prop := ∀ k l c p fs cl, x = .suspended k l c p fs cl → NoZ Z fs
/-- g₀: the table where the sleepers (Z) are cut off; G: they themselves -/
structure Asleep (Z : Nat → Prop) (G : Nat → GenState) (g₀ g : Array GenState) : Prop where
  size : g₀.size = g.size
  out : ∀ i, ¬ Z i → g₀[i]? = g[i]?
  sl : ∀ i, Z i → g[i]? = some (G i) ∧ g₀[i]? = some (gFroz (G i)) ∧ gSlp (G i) = true
  ok : ∀ i x, ¬ Z i → g[i]? = some x → OkSt Z x
theorem no_unsup {M : Model} {Γ : PySem.Ctx} {p : Pos} {what : String} {fs : List Frame} {s s' : Shared} {e : End} (h : Runs M Γ p (.unsupported what) fs s e s') : False := by
  cases h with
  | segRet h _ => cases h
  | segGen h _ => cases h
  | segSuspOut _ h => cases h
  | segSuspGen _ h _ _ => cases h
theorem seen_froz (x : GenState) : (gFroz x).seen = x.seen := by cases x <;> rfl
section
variable {Z : Nat → Prop} {G : Nat → GenState} {g₀ g : Array GenState}
theorem Asleep.seen (a : Asleep Z G g₀ g) {i : Nat} {x : GenState} (h : g₀[i]? = some x) : ∃ y, g[i]? = some y ∧ y.seen = x.seen := by
  by_cases z : Z i
  · obtain ⟨h1, h2, _⟩ := a.sl i z
    rw [h2] at h
    cases h
    exact ⟨_, h1, (seen_froz _).symm⟩
  · exact ⟨x, by rw [← a.out i z]; exact h, rfl⟩
theorem Asleep.awake (a : Asleep Z G g₀ g) {i : Nat} {x : GenState} (h : g₀[i]? = some x) (n : gSlp x = false) : ¬ Z i ∧ g[i]? = some x := by
  have z : ¬ Z i := fun z => by
    obtain ⟨_, h2, h3⟩ := a.sl i z
    rw [h2] at h
    cases h
    revert n h3
    cases G i <;> simp [gFroz, gSlp]
  exact ⟨z, by rw [← a.out i z]; exact h⟩
theorem Asleep.put (a : Asleep Z G g₀ g) {i : Nat} (z : ¬ Z i) {x : GenState} (ok : OkSt Z x) : Asleep Z G (g₀.setIfInBounds i x) (g.setIfInBounds i x) := by
  refine ⟨by simp [a.size], fun j hj => ?_, fun j hj => ?_, fun j y hj h => ?_⟩
  · by_cases e : j = i
    · subst e
      rw [Array.getElem?_setIfInBounds_self, Array.getElem?_setIfInBounds_self, a.size]
    · rw [Array.getElem?_setIfInBounds_ne (Ne.symm e), Array.getElem?_setIfInBounds_ne (Ne.symm e)]
      exact a.out j hj
  · have e : j ≠ i := fun e => z (e ▸ hj)
    rw [Array.getElem?_setIfInBounds_ne (Ne.symm e), Array.getElem?_setIfInBounds_ne (Ne.symm e)]
    exact a.sl j hj
  · by_cases e : j = i
    · subst e
      rw [Array.getElem?_setIfInBounds_self] at h
      split at h
      · cases h; exact ok
      · cases h
    · rw [Array.getElem?_setIfInBounds_ne (Ne.symm e)] at h
      exact a.ok j y hj h
theorem Asleep.push (a : Asleep Z G g₀ g) (c : Code) : Asleep Z G (g₀.push (.fresh c)) (g.push (.fresh c)) := by
  refine ⟨by simp [a.size], fun j hj => ?_, fun j hj => ?_, fun j y hj h => ?_⟩
  · rw [Array.getElem?_push, Array.getElem?_push, a.size, a.out j hj]
  · obtain ⟨h1, h2, h3⟩ := a.sl j hj
    refine ⟨?_, ?_, h3⟩
    · rw [Array.getElem?_push, if_neg (by have := (Array.getElem?_eq_some_iff.mp h1).1; omega)]
      exact h1
    · rw [Array.getElem?_push, if_neg (by have := (Array.getElem?_eq_some_iff.mp h2).1; omega)]
      exact h2
  · rw [Array.getElem?_push] at h
    split at h
    · cases h
      intro k l c p fs cl e
      cases e
    · exact a.ok j y hj h
end
theorem okSt_fin {Z : Nat → Prop} : OkSt Z .finished := fun _ _ _ _ _ _ e => by cases e
theorem okSt_run {Z : Nat → Prop} : OkSt Z .running := fun _ _ _ _ _ _ e => by cases e
def NoZE (Z : Nat → Prop) : End → Prop
  | .ret _ => True
  | .susp _ _ _ _ _ _ fs => NoZ Z fs
theorem okSt_end {Z : Nat → Prop} {e : End} (h : NoZE Z e) : OkSt Z e.genState := by
  cases e with
  | ret _ => exact okSt_fin
  | susp v g l k c p fs =>
    intro k' l' c' p' fs' cl' e
    cases e
    exact h
theorem noZ_nil {Z : Nat → Prop} : NoZ Z [] := fun _ _ _ _ _ h => by cases h
theorem NoZ.tail {Z : Nat → Prop} {F : Frame} {fs : List Frame} (h : NoZ Z (F :: fs)) : NoZ Z fs := fun g k l c p m => h g k l c p (List.mem_cons_of_mem _ m)
theorem NoZ.app {Z : Nat → Prop} {a b : List Frame} (h : NoZ Z a) (k : NoZ Z b) : NoZ Z (a ++ b) := fun g k' l c p m => by
  rcases List.mem_append.mp m with m | m
  · exact h g k' l c p m
  · exact k g k' l c p m
theorem noZ_split {Z : Nat → Prop} : ∀ {fs pre rest : List Frame} {g : Nat} {k : GenResult → Sem PySem.Fin} {c : Code} {p : Pos}, splitAtGen fs = some (pre, (g, k, c, p), rest) → NoZ Z fs → NoZ Z pre ∧ ¬ Z g ∧ NoZ Z rest
  | [], _, _, _, _, _, _, h, _ => by cases h
  | .gen g' k' l' c' p' :: fs, pre, rest, g, k, c, p, h, n => by
    cases h
    exact ⟨noZ_nil, n _ _ _ _ _ List.mem_cons_self, n.tail⟩
  | .ret k' h' g' l' c' p' kp' :: fs, pre, rest, g, k, c, p, h, n => by
    rw [splitAtGen_ret] at h
    cases hs : splitAtGen fs with
    | none => rw [hs] at h; cases h
    | some x =>
      obtain ⟨pre', b, rest'⟩ := x
      rw [hs] at h
      cases h
      obtain ⟨h1, h2, h3⟩ := noZ_split hs n.tail
      refine ⟨fun g k l c p m => ?_, h2, h3⟩
      rcases List.mem_cons.mp m with m | m
      · cases m
      · exact h1 g k l c p m
def wg (s : Shared) (g : Array GenState) : Shared := { s with gens := g }
/-- a run over the cut table is a run over the real one -/
theorem runs_awake {M : Model} {Z : Nat → Prop} {G : Nat → GenState} {Γ : PySem.Ctx} {p : Pos} {t : Sem PySem.Fin} {fs : List Frame} {s s' : Shared} {e : End} (h : Runs M Γ p t fs s e s') :
    ∀ g, Asleep Z G s.gens g → NoZ Z fs → ∃ g', Asleep Z G s'.gens g' ∧ NoZE Z e ∧ Runs M Γ p t fs (wg s g) e (wg s' g') := by
  induction h with
  | done => exact fun g a _ => ⟨g, a, trivial, .done⟩
  | raise => exact fun g a _ => ⟨g, a, trivial, .raise⟩
  | again hq _ ih => exact fun g a n => let ⟨g', a', z, r⟩ := ih g a n; ⟨g', a', z, .again hq r⟩
  | rule _ ih => exact fun g a n => let ⟨g', a', z, r⟩ := ih g a n; ⟨g', a', z, .rule r⟩
  | «at» _ ih => exact fun g a n => let ⟨g', a', z, r⟩ := ih g a n; ⟨g', a', z, .at r⟩
  | load ho _ ih => exact fun g a n => let ⟨g', a', z, r⟩ := ih g a n; ⟨g', a', z, .load ho r⟩
  | update ho _ ih => exact fun g a n => let ⟨g', a', z, r⟩ := ih g a n; ⟨g', a', z, .update ho r⟩
  | loadIfAlive _ ih => exact fun g a n => let ⟨g', a', z, r⟩ := ih g a n; ⟨g', a', z, .loadIfAlive r⟩
  | point _ ih => exact fun g a n => let ⟨g', a', z, r⟩ := ih g a n; ⟨g', a', z, .point r⟩
  | alloc _ ih => exact fun g a n => let ⟨g', a', z, r⟩ := ih g a n; ⟨g', a', z, .alloc r⟩
  | fresh _ ih => exact fun g a n => let ⟨g', a', z, r⟩ := ih g a n; ⟨g', a', z, .fresh r⟩
  | ask _ ih => exact fun g a n => let ⟨g', a', z, r⟩ := ih g a n; ⟨g', a', z, .ask r⟩
  | choose hn _ ih => exact fun g a n => let ⟨g', a', z, r⟩ := ih g a n; ⟨g', a', z, .choose hn r⟩
  | os _ ih => exact fun g a n => let ⟨g', a', z, r⟩ := ih g a n; ⟨g', a', z, .os r⟩
  | handled _ ih => exact fun g a n => let ⟨g', a', z, r⟩ := ih g a n; ⟨g', a', z, .handled r⟩
  | genState hg _ ih =>
    intro g a n
    obtain ⟨y, h1, h2⟩ := a.seen hg
    obtain ⟨g', a', z, r⟩ := ih g a n
    exact ⟨g', a', z, .genState (st := y) h1 (by rw [h2]; exact r)⟩
  | stack _ ih => exact fun g a n => let ⟨g', a', z, r⟩ := ih g a n; ⟨g', a', z, .stack r⟩
  | thread _ ih => exact fun g a n => let ⟨g', a', z, r⟩ := ih g a n; ⟨g', a', z, .thread r⟩
  | newGen _ ih =>
    intro g a n
    obtain ⟨g', a', z, r⟩ := ih _ (a.push _) n
    exact ⟨g', a', z, .newGen (by rw [show (wg _ g).gens.size = _ from a.size.symm]; exact r)⟩
  | call _ _ ih1 ih2 =>
    intro g a n
    obtain ⟨g1, a1, _, r1⟩ := ih1 g a noZ_nil
    obtain ⟨g2, a2, z, r2⟩ := ih2 g1 a1 n
    exact ⟨g2, a2, z, .call r1 r2⟩
  | callSusp _ ih =>
    intro g a n
    obtain ⟨g1, a1, z, r1⟩ := ih g a noZ_nil
    exact ⟨g1, a1, NoZ.app z (fun _ _ _ _ _ m => by cases List.mem_singleton.mp m), .callSusp r1⟩
  | yield => exact fun g a _ => ⟨g, a, noZ_nil, .yield⟩
  | resumeFresh hg _ hq _ ih1 ih2 =>
    intro g a n
    obtain ⟨z, hg'⟩ := a.awake hg rfl
    obtain ⟨g1, a1, z1, r1⟩ := ih1 _ (a.put z okSt_run) noZ_nil
    obtain ⟨g2, a2, z2, r2⟩ := ih2 _ (a1.put z (okSt_end z1)) n
    exact ⟨g2, a2, z2, .resumeFresh hg' r1 hq r2⟩
  | @resumeSuspended Γ p gi r l k s k₀ l₀ c₀ p₀ fs cl e₁ s₁ e s' hg hr hq _ ih1 ih2 =>
    intro g a n
    by_cases z : Z gi
    · exfalso
      obtain ⟨_, h2, h3⟩ := a.sl gi z
      rw [h2] at hg
      revert hg h3
      cases hG : G gi with
      | suspended k l c p fs cl =>
        intro hg _
        cases hg
        exact no_unsup hr
      | fresh _ => intro hg _; cases hg
      | running => intro hg _; cases hg
      | finished => intro hg _; cases hg
    · have hg' : g[gi]? = some (.suspended k₀ l₀ c₀ p₀ fs cl) := by rw [← a.out gi z]; exact hg
      obtain ⟨g1, a1, z1, r1⟩ := ih1 _ (a.put z okSt_run) (a.ok gi _ z hg' _ _ _ _ _ _ rfl)
      obtain ⟨g2, a2, z2, r2⟩ := ih2 _ (a1.put z (okSt_end z1)) n
      exact ⟨g2, a2, z2, .resumeSuspended hg' r1 hq r2⟩
  | resumeJustStarted hg hv _ ih =>
    intro g a n
    obtain ⟨_, hg'⟩ := a.awake hg rfl
    obtain ⟨g', a', z, r⟩ := ih g a n
    exact ⟨g', a', z, .resumeJustStarted hg' hv r⟩
  | resumeThrowFresh hg _ ih =>
    intro g a n
    obtain ⟨z, hg'⟩ := a.awake hg rfl
    obtain ⟨g', a', z', r⟩ := ih _ (a.put z okSt_fin) n
    exact ⟨g', a', z', .resumeThrowFresh hg' r⟩
  | resumeRunning hg _ ih =>
    intro g a n
    obtain ⟨_, hg'⟩ := a.awake hg rfl
    obtain ⟨g', a', z, r⟩ := ih g a n
    exact ⟨g', a', z, .resumeRunning hg' r⟩
  | resumeFinished hg _ ih =>
    intro g a n
    obtain ⟨_, hg'⟩ := a.awake hg rfl
    obtain ⟨g', a', z, r⟩ := ih g a n
    exact ⟨g', a', z, .resumeFinished hg' r⟩
  | segRet _ _ ih1 ih2 =>
    intro g a n
    obtain ⟨g1, a1, _, r1⟩ := ih1 g a noZ_nil
    obtain ⟨g2, a2, z, r2⟩ := ih2 g1 a1 n.tail
    exact ⟨g2, a2, z, .segRet r1 r2⟩
  | segGen _ _ ih1 ih2 =>
    intro g a n
    obtain ⟨g1, a1, _, r1⟩ := ih1 g a noZ_nil
    obtain ⟨g2, a2, z, r2⟩ := ih2 _ (a1.put (n _ _ _ _ _ List.mem_cons_self) okSt_fin) n.tail
    exact ⟨g2, a2, z, .segGen r1 r2⟩
  | segSuspOut hs _ ih =>
    intro g a n
    obtain ⟨g1, a1, z, r1⟩ := ih g a noZ_nil
    exact ⟨g1, a1, NoZ.app z n, .segSuspOut hs r1⟩
  | segSuspGen hs _ hq _ ih1 ih2 =>
    intro g a n
    obtain ⟨n1, n2, n3⟩ := noZ_split hs n
    obtain ⟨g1, a1, z1, r1⟩ := ih1 g a noZ_nil
    obtain ⟨g2, a2, z, r2⟩ := ih2 _ (a1.put n2 (okSt_end (e := .susp _ _ _ _ _ _ _) (NoZ.app z1 n1))) n3
    exact ⟨g2, a2, z, .segSuspGen hs r1 hq r2⟩
theorem wakes_awake {M : Model} {Z : Nat → Prop} {G : Nat → GenState} {Γ : PySem.Ctx} {p : Pos} {gi : Nat} {r : Resume} {s s' : Shared} {res : GenResult} (h : Wakes M Γ p gi r s res s') (g : Array GenState) (a : Asleep Z G s.gens g) :
    ∃ g', Asleep Z G s'.gens g' ∧ Wakes M Γ p gi r (wg s g) res (wg s' g') := by
  unfold Wakes at h ⊢
  cases hg : s.gens[gi]? with
  | none => rw [hg] at h; exact h.elim
  | some st =>
    rw [hg] at h
    cases st with
    | running =>
      obtain ⟨_, hg'⟩ := a.awake hg rfl
      obtain ⟨rfl, rfl⟩ := h
      refine ⟨g, a, ?_⟩
      rw [show (wg s' g).gens[gi]? = some .running from hg']
      exact ⟨rfl, rfl⟩
    | finished =>
      obtain ⟨_, hg'⟩ := a.awake hg rfl
      obtain ⟨rfl, rfl⟩ := h
      refine ⟨g, a, ?_⟩
      rw [show (wg s' g).gens[gi]? = some .finished from hg']
      exact ⟨rfl, rfl⟩
    | fresh c =>
      obtain ⟨z, hg'⟩ := a.awake hg rfl
      cases r with
      | throw x =>
        obtain ⟨rfl, rfl⟩ := h
        refine ⟨_, a.put z okSt_fin, ?_⟩
        rw [show (wg s g).gens[gi]? = some (.fresh c) from hg']
        exact ⟨rfl, rfl⟩
      | send v =>
        by_cases hv : v = .none
        · subst hv
          obtain ⟨e₁, s₁, hr, hq, rfl, rfl⟩ := h
          obtain ⟨g1, a1, z1, r1⟩ := runs_awake hr _ (a.put z okSt_run) noZ_nil
          refine ⟨_, a1.put z (okSt_end z1), ?_⟩
          rw [show (wg s g).gens[gi]? = some (.fresh c) from hg']
          exact ⟨e₁, _, r1, hq, rfl, rfl⟩
        · have h' : res = .justStarted ∧ s' = s := by
            revert h
            cases v <;> first | exact absurd rfl hv | exact fun h => h
          obtain ⟨rfl, rfl⟩ := h'
          refine ⟨g, a, ?_⟩
          rw [show (wg s' g).gens[gi]? = some (.fresh c) from hg']
          revert hv
          cases v <;> intro hv <;> first | exact absurd rfl hv | exact ⟨rfl, rfl⟩
    | suspended k₀ l₀ c₀ p₀ fs cl =>
      obtain ⟨e₁, s₁, hr, hq, rfl, rfl⟩ := h
      by_cases z : Z gi
      · exfalso
        obtain ⟨_, h2, h3⟩ := a.sl gi z
        rw [h2] at hg
        revert hg h3
        cases hG : G gi with
        | suspended k l c p fs cl =>
          intro hg _
          cases hg
          exact no_unsup hr
        | fresh _ => intro hg _; cases hg
        | running => intro hg _; cases hg
        | finished => intro hg _; cases hg
      · have hg' : g[gi]? = some (.suspended k₀ l₀ c₀ p₀ fs cl) := by rw [← a.out gi z]; exact hg
        obtain ⟨g1, a1, z1, r1⟩ := runs_awake hr _ (a.put z okSt_run) (a.ok gi _ z hg' _ _ _ _ _ _ rfl)
        refine ⟨_, a1.put z (okSt_end z1), ?_⟩
        rw [show (wg s g).gens[gi]? = some (.suspended k₀ l₀ c₀ p₀ fs cl) from hg']
        exact ⟨e₁, _, r1, hq, rfl, rfl⟩
/-! the same of wp -/
theorem wp_awake {α : Type} {M : Model} {Z : Nat → Prop} {G : Nat → GenState} {Γ : PySem.Ctx} (t : Sem α) : ∀ (Q : α → Pos → Shared → Prop) (E : Value → Pos → Shared → Prop) (p : Pos) (s : Shared) (g : Array GenState), Asleep Z G s.gens g → Sem.wp M Γ t Q E p s →
    Sem.wp M Γ t (fun x p' s' => ∃ g₀, Asleep Z G g₀ s'.gens ∧ Q x p' (wg s' g₀)) (fun x p' s' => ∃ g₀, Asleep Z G g₀ s'.gens ∧ E x p' (wg s' g₀)) p (wg s g) := by
  induction t with
  | pure a => intro Q E p s g a h; exact ⟨s.gens, a, h⟩
  | raise e => intro Q E p s g a h; exact ⟨s.gens, a, h⟩
  | unsupported _ => intro Q E p s g _ h; exact h
  | finish _ => intro Q E p s g _ h; exact h
  | register _ _ => intro Q E p s g _ h; exact h
  | yield _ _ _ _ => intro Q E p s g _ h; exact h
  | fork _ _ => intro Q E p s g _ h; exact h
  | await _ _ _ _ _ => intro Q E p s g _ h; exact h
  | rule _ k ih => intro Q E p s g a h; exact ih () Q E p s g a h
  | «at» p' k ih => intro Q E p s g a h; exact ih () Q E p' s g a h
  | load _ _ k ih => intro Q E p s g a h; obtain ⟨o, ho, h⟩ := h; exact ⟨o, ho, ih o Q E p s g a h⟩
  | update ad _ f k ih => intro Q E p s g a h; exact ⟨h.1, ih () Q E p { s with heap := s.heap.update ad f } g a h.2⟩
  | loadIfAlive _ k ih => intro Q E p s g a h; exact ih _ Q E p s g a h
  | point _ k ih => intro Q E p s g a h; exact ih () Q E p s g a h
  | alloc o k ih => intro Q E p s g a h; exact ih _ Q E p { s with heap := s.heap.push o } g a h
  | fresh k ih => intro Q E p s g a h; exact ih _ Q E p { s with toks := s.toks + 1 } g a h
  | ask k ih => intro Q E p s g a h; exact ih _ Q E p s g a h
  | choose src m k ih => intro Q E p s g a h; exact ⟨h.1, ih _ Q E p { s with drawn := s.drawn.bump src } g a h.2⟩
  | os q _ k ih => intro Q E p s g a h; exact ih _ Q E p { s with os := (Os.step s.os q).1 } g a h
  | call c hd _ _ k ih =>
    intro Q E p s g a h
    obtain ⟨r, s', hr, h⟩ := h
    obtain ⟨g1, a1, _, r1⟩ := runs_awake hr g a noZ_nil
    exact ⟨r, _, r1, ih r Q E p s' g1 a1 h⟩
  | handled own k ih => intro Q E p s g a h; exact ih _ Q E p s g a h
  | genState gi k ih =>
    intro Q E p s g a h
    obtain ⟨st, hs, h⟩ := h
    obtain ⟨y, h1, h2⟩ := a.seen hs
    exact ⟨y, h1, by rw [h2]; exact ih _ Q E p s g a h⟩
  | newGen c k ih =>
    intro Q E p s g a h
    have := ih _ Q E p _ _ (a.push c) h
    show Sem.wp M Γ (k g.size) _ _ p _
    rw [← a.size]
    exact this
  | resume gi r _ k ih =>
    intro Q E p s g a h
    obtain ⟨res, s', hw, h⟩ := h
    obtain ⟨g1, a1, w1⟩ := wakes_awake hw g a
    exact ⟨res, _, w1, ih res Q E p s' g1 a1 h⟩
  | stack k ih => intro Q E p s g a h; exact ih _ Q E p s g a h
  | thread k ih => intro Q E p s g a h; exact ih _ Q E p s g a h
/-- all that sleeps cut off -/
def cutG (g : Array GenState) : Array GenState := g.map gFroz
theorem asleep_cut (g : Array GenState) : Asleep (fun i => ∃ x, g[i]? = some x ∧ gSlp x = true) (fun i => (g[i]?).getD .running) (cutG g) g := by
  refine ⟨by simp [cutG], fun i hi => ?_, fun i hi => ?_, fun i x hi h => ?_⟩
  · unfold cutG
    rw [Array.getElem?_map]
    cases h : g[i]? with
    | none => rfl
    | some x =>
      have : gSlp x ≠ true := fun z => hi ⟨x, h, z⟩
      revert this
      cases x <;> simp [gSlp, gFroz]
  · obtain ⟨x, h, z⟩ := hi
    refine ⟨by rw [h]; rfl, ?_, by rw [h]; exact z⟩
    unfold cutG
    rw [Array.getElem?_map, h]
    rfl
  · intro k l c p fs cl e
    subst e
    exact absurd ⟨_, h, rfl⟩ hi
theorem cut_bare {g : Array GenState} (h : AllBare g) : AllBare (cutG g) := fun y hy => by
  obtain ⟨x, hx, rfl⟩ := Array.mem_map.mp hy
  have := h x hx
  revert this
  cases x <;> simp [gFroz, GenState.bare]
/-- what slept sleeps on -/
def Slept2 (g g' : Array GenState) : Prop := ∀ (i : Nat) (x : GenState), g[i]? = some x → gSlp x = true → g'[i]? = some x
theorem awake_bare {g g₀ g' : Array GenState} (a : Asleep (fun i => ∃ x, g[i]? = some x ∧ gSlp x = true) (fun i => (g[i]?).getD .running) g₀ g') (b : AllBare g) (b₀ : AllBare g₀) : AllBare g' ∧ Slept2 g g' := by
  refine ⟨fun y hy => ?_, fun i x h z => ?_⟩
  · obtain ⟨i, hi, e⟩ := Array.mem_iff_getElem.mp hy
    have hg : g'[i]? = some y := by rw [Array.getElem?_eq_getElem hi, e]
    by_cases z : ∃ x, g[i]? = some x ∧ gSlp x = true
    · obtain ⟨h1, _, _⟩ := a.sl i z
      obtain ⟨x, hx, _⟩ := z
      have h1 : g'[i]? = some ((g[i]?).getD .running) := h1
      rw [hx] at h1
      rw [hg] at h1
      cases h1
      exact b _ (Array.mem_of_getElem? hx)
    · have := a.out i z
      rw [hg] at this
      exact b₀ y (Array.mem_of_getElem? this)
  · obtain ⟨h1, _, _⟩ := a.sl i ⟨x, h, z⟩
    have h1 : g'[i]? = some ((g[i]?).getD .running) := h1
    rw [h] at h1
    exact h1
theorem wpAny_awake {α : Type} {M : Model} {A : Around} {t : Sem α} {Q : α → Shared → Prop} {E : Value → Shared → Prop} {s : Shared}
    (h : wpAny M A t Q E (wg s (cutG s.gens))) :
    wpAny M A t (fun x s' => ∃ g₀, Asleep (fun i => ∃ x, s.gens[i]? = some x ∧ gSlp x = true) (fun i => (s.gens[i]?).getD .running) g₀ s'.gens ∧ Q x (wg s' g₀))
      (fun x s' => ∃ g₀, Asleep (fun i => ∃ x, s.gens[i]? = some x ∧ gSlp x = true) (fun i => (s.gens[i]?).getD .running) g₀ s'.gens ∧ E x (wg s' g₀)) s := fun Γ p hΓ =>
  wp_awake t _ _ p (wg s (cutG s.gens)) s.gens (asleep_cut s.gens) (h Γ p hΓ)
/-! of statements: what sleeps ahead sleeps behind -/
section
variable {X : Cx} {pins : List (Addr × Obj)} {σ : L2.St} {H : Hp} {s : Shared}
theorem inv_wg {g : Array GenState} (I : Inv X pins σ H s) (b : AllBare g) : Inv X pins σ H (wg s g) := ⟨I.ok, I.os, b, I.base, I.loc, I.cell, I.free, I.freeC, I.pin, I.hok, I.len⟩
theorem sp_wg {D : Ends} {f : Flow} {g : Array GenState} (b : AllBare g) (h : SP X pins D f s) : SP X pins D f (wg s g) := by
  cases f with
  | next => obtain ⟨σ, H, I, q⟩ := h; exact ⟨σ, H, inv_wg I b, q⟩
  | brk => obtain ⟨σ, H, I, q⟩ := h; exact ⟨σ, H, inv_wg I b, q⟩
  | cont => obtain ⟨σ, H, I, q⟩ := h; exact ⟨σ, H, inv_wg I b, q⟩
  | ret u => obtain ⟨v, σ, H, I, r, q⟩ := h; exact ⟨v, σ, H, inv_wg I b, r, q⟩
theorem sp_bare {D : Ends} {f : Flow} (h : SP X pins D f s) : AllBare s.gens := by
  cases f with
  | next => obtain ⟨σ, H, I, q⟩ := h; exact I.bare
  | brk => obtain ⟨σ, H, I, q⟩ := h; exact I.bare
  | cont => obtain ⟨σ, H, I, q⟩ := h; exact I.bare
  | ret u => obtain ⟨v, σ, H, I, r, q⟩ := h; exact I.bare
/-- what is wanted of an exception doesn't ask what sleeps -/
def XeOk (X : Cx) : Prop := ∀ (Z : Nat → Prop) (G : Nat → GenState) (e : Value) (s : Shared) (g₀ : Array GenState), Asleep Z G g₀ s.gens → X.xe e (wg s g₀) → X.xe e s
theorem xeOk_never {X : Cx} (h : ∀ e s, ¬ X.xe e s) : XeOk X := fun _ _ e s g₀ _ x => absurd x (h e (wg s g₀))
/-- an exception that nobody wants may not leave the def -/
theorem xeOk_leaving {X : Cx} {M : Model} {A : Around} {env : Env} (h : ∀ e s, X.xe e s ↔ wpAny M A (leaving env e) (fun _ _ => False) (fun _ _ => False) s) : XeOk X := fun Z G e s g₀ a x => by
  rw [h] at x ⊢
  intro Γ p hΓ
  have := wp_awake (Z := Z) (G := G) (leaving env e) _ _ p (wg s g₀) s.gens a (x Γ p hΓ)
  exact Sem.wp_mono M Γ _ (fun _ _ _ q => let ⟨_, _, q⟩ := q; q) (fun _ _ _ q => let ⟨_, _, q⟩ := q; q) _ _ this
theorem pss_sleep {body : List Stmt} {t : TS} {D : Ends} (hx : XeOk X) (hb : PSs X body t) (I : Inv X pins σ H s) (h : t D σ H) :
    wpAny (model X.prog X.w) X.A (execs body X.env) (fun f s' => SP X pins D f s' ∧ Slept2 s.gens s'.gens) X.xe s := by
  refine wpAny_mono (wpAny_awake (hb.run pins _ σ H D (inv_wg I (cut_bare I.bare)) h)) (fun f s' q => ?_) fun e s' q => ?_
  · obtain ⟨g₀, a, q⟩ := q
    obtain ⟨b1, b2⟩ := awake_bare a I.bare (sp_bare q)
    exact ⟨sp_wg (s := wg s' g₀) b1 q, b2⟩
  · obtain ⟨g₀, a, q⟩ := q
    exact hx _ _ e s' g₀ a q
theorem pg_sleep {target : Expr} {t : TG} {v : V} {u : Value} {Q : L2.St → Hp → Prop} (hx : XeOk X) (hg : PG X target t) (I : Inv X pins σ H s) (r : RelV v u) (h : t v σ H Q) :
    wpAny (model X.prog X.w) X.A (assign target X.env u) (fun _ s' => ∃ σ' H', Inv X pins σ' H' s' ∧ Q σ' H' ∧ Slept2 s.gens s'.gens) X.xe s := by
  refine wpAny_mono (wpAny_awake (hg.run pins _ σ H v u Q (inv_wg I (cut_bare I.bare)) r h)) (fun f s' q => ?_) fun e s' q => ?_
  · obtain ⟨g₀, a, σ', H', I', q⟩ := q
    obtain ⟨b1, b2⟩ := awake_bare a I.bare I'.bare
    exact ⟨σ', H', inv_wg (s := wg s' g₀) I' b1, q, b2⟩
  · obtain ⟨g₀, a, q⟩ := q
    exact hx _ _ e s' g₀ a q
end
/-! ### one run of a generator's code, up to where it hands out or ends -/
def Go (M : Model) (A : Around) (F : End → Shared → Prop) (c : Code) (t : Sem PySem.Fin) (fs : List Frame) (s : Shared) : Prop :=
  ∀ (Γ : PySem.Ctx) (p : Pos), Γ.code = c → Γ.Woken A → ∃ e s', Runs M Γ p t fs s e s' ∧ F e s'
section
variable {M : Model} {A : Around} {F : End → Shared → Prop} {c : Code} {fs : List Frame} {s : Shared}
theorem go_wrap {α : Type} {m : Sem α} {K : α → Sem PySem.Fin} {J : Value → Sem PySem.Fin} {gd : Bool → Bool} {lv : List Value → List Value}
    (h : wpAny M (A.over c fs) m (fun a s' => Go M A F c (K a) fs s') (fun x s' => Go M A F c (J x) fs s') s) : Go M A F c (m.wrap K J gd lv) fs s := by
  rintro Γ p rfl w
  exact runs_wrap_of_wp K J gd lv m (h (Γ.over fs) p (w.over fs)) (fun a p' s' k => k Γ p' rfl w) fun x p' s' k => k Γ p' rfl w
theorem go_bind {α : Type} {m : Sem α} {K : α → Sem PySem.Fin} (h : wpAny M (A.over c fs) m (fun a s' => Go M A F c (K a) fs s') (fun x s' => Go M A F c (.raise x) fs s') s) : Go M A F c (m >>= K) fs s := by
  rw [Sem.bind_eq_wrap' m K]
  exact go_wrap h
theorem go_at {p' : Pos} {k : Unit → Sem PySem.Fin} (h : Go M A F c (k ()) fs s) : Go M A F c (.at p' k) fs s :=
  go_wrap (m := standAt p') (K := k) (J := Sem.raise) (gd := id) (lv := id) (wpAny_standAt h)
theorem go_point {l : List Value} {k : Unit → Sem PySem.Fin} (h : Go M A F c (k ()) fs s) : Go M A F c (.point l k) fs s :=
  go_wrap (m := point) (K := k) (J := Sem.raise) (gd := id) (lv := fun _ => l) (wpAny_point h)
theorem go_call {c' : Code} {hd : Option Value} {g : Bool} {l : List Value} {k : Result → Sem PySem.Fin} (h : ∀ p, Go M A F c' (M.den c') (.ret k hd g l c p [] :: fs) s) : Go M A F c (.call c' hd g l k) fs s := by
  rintro Γ p rfl w
  obtain ⟨e, s', r, q⟩ := h p (Γ.goto c') p rfl (w.goto c')
  exact ⟨e, s', runs_call_seg r, q⟩
theorem go_leaf {k : Result → Sem PySem.Fin} {hd : Option Value} {g : Bool} {l kp : List Value} {c₁ : Code} {p₁ : Pos} (r : Result) (h : Go M A F c₁ (k r) fs s) : Go M A F c (leafOf r) (.ret k hd g l c₁ p₁ kp :: fs) s := by
  rintro Γ p rfl w
  obtain ⟨e, s', r', q⟩ := h (Γ.goto c₁) p₁ rfl (w.goto c₁)
  exact ⟨e, s', Runs.pop r r', q⟩
theorem go_again {c' : Code} (hq : c'.quiet = true) (h : Go M A F c' (M.den c') fs s) : Go M A F c (.pure (.again c')) fs s := by
  rintro Γ p rfl w
  obtain ⟨e, s', r, q⟩ := h (Γ.goto c') p rfl (w.goto c')
  exact ⟨e, s', Runs.head (c₁ := c') (fun _ _ x => .again hq x) r, q⟩
theorem go_end (r : Result) (h : F (.ret r) s) : Go M A F c (leafOf r) [] s := by
  rintro Γ p rfl _
  exact ⟨.ret r, s, Runs.leaf r, h⟩
theorem go_yield {v : Value} {g : Bool} {l : List Value} {k : Resume → Sem PySem.Fin} (hf : splitAtGen fs = none) (h : ∀ p, F (.susp v g l k c p fs) s) : Go M A F c (.yield v g l k) fs s := by
  rintro Γ p rfl _
  exact ⟨_, s, Runs.yield' fs hf, h p⟩
end
/-! ### the generator's frame, seen anew at each waking -/
structure Gp where
  P : Program
  w : World
  K : PySem.W.Frag
  mg : Str → Option Value
  base : Heap
  N : List Str
  env : Env
  A : Around
  outer : List Env
/-- what a waking finds: the heap as far as it is older than the generator, what is tracked, what must not be touched -/
structure Ix where
  s0 : Shared
  H0 : Hp
  pn : List (Addr × Obj)
def Gp.X (G : Gp) (x : Ix) : Cx where
  prog := G.P
  w := G.w
  K := G.K
  mg := G.mg
  base := G.base
  A := G.A.deeper G.env
  N := G.N
  s_0 := x.s0
  H_0 := x.H0
  env := G.env
  outer := G.outer
  stack := G.env :: G.outer
  ex := []
  fn := fun _ => true
  calm := true
  pn := x.pn
  xe := fun _ _ => False
/-- what a sleeping generator still knows when it wakes -/
def plainK : HO → Bool
  | .lst _ => true
  | .tup _ => true
  | .dK _ => true
  | _ => false
def KeepP (H H' : Hp) : Prop := ∀ b u, plainK u = true → H b = some u → H' b = some u
theorem KeepP.refl (H : Hp) : KeepP H H := fun _ _ _ e => e
theorem KeepP.of {H H' : Hp} (s : Same H H') : KeepP H H' := fun b u _ e => s b u e
/-- what comes of a run: It: what is true when x is handed out behind ys; Fn: at the end -/
def Fi (G : Gp) (It : List V → V → Hp → Prop) (Fn : List V → Hp → Prop) : Nat → Ix → End → Shared → Prop
  | 0 => fun ix e s => match e with
    | .ret r => (r = .ok (.ret .none) ∨ r = .ok .next) ∧ ∃ ys ip σ H, 0 + ys.length = sizeLine ∧ Inv (G.X ix) ip σ H s ∧ Fn ys H
    | .susp .. => False
  | m + 1 => fun ix e s => match e with
    | .ret r => (r = .ok (.ret .none) ∨ r = .ok .next) ∧ ∃ ys ip σ H, m + 1 + ys.length = sizeLine ∧ Inv (G.X ix) ip σ H s ∧ Fn ys H
    | .susp v g l k c p fs => (End.susp v g l k c p fs).quiet = true ∧ ∃ ys x ip σ H, m + 1 + ys.length = sizeLine ∧ RelV x v ∧ Inv (G.X ix) ip σ H s ∧ (∀ p ∈ ip, G.env.locals ≤ p.1) ∧ It ys x H ∧
      ∀ ix' H' s', KeepP H H' → Inv (G.X ix') ip σ H' s' → Go (model G.P G.w) G.A (Fi G It Fn m ix') c (k (.send .none)) fs s'
theorem fi_end {G : Gp} {It : List V → V → Hp → Prop} {Fn : List V → Hp → Prop} {n : Nat} {ix : Ix} {r : Result} {s : Shared} {ys : List V} {ip : List (Addr × Obj)} {σ : L2.St} {H : Hp} (hr : r = .ok (.ret .none) ∨ r = .ok .next) (hn : n + ys.length = sizeLine)
    (I : Inv (G.X ix) ip σ H s) (q : Fn ys H) : Fi G It Fn n ix (.ret r) s := by
  cases n with
  | zero => exact ⟨hr, ys, ip, σ, H, hn, I, q⟩
  | succ m => exact ⟨hr, ys, ip, σ, H, hn, I, q⟩
structure G3C (G : Gp) (ip : List (Addr × Obj)) (c : Code) (fs : List Frame) (gd : Bool → Bool) : Prop where
  ips : ∀ p ∈ ip, G.env.locals ≤ p.1
  over : G.A.over c fs = G.A.deeper G.env
  split : splitAtGen fs = none
  guard : fs.any Frame.guarded = false
  gd : gd false = false
def G3P (G : Gp) (ix : Ix) (ip : List (Addr × Obj)) (D : GEnds) (ys : List V) (f : Flow) (s : Shared) : Prop :=
  match f with
  | .next => ∃ σ H, Inv (G.X ix) ip σ H s ∧ D.nx ys σ H
  | .brk => ∃ σ H, Inv (G.X ix) ip σ H s ∧ D.bk ys σ H
  | .cont => ∃ σ H, Inv (G.X ix) ip σ H s ∧ D.ct ys σ H
  | .ret u => ∃ v σ H, Inv (G.X ix) ip σ H s ∧ RelV v u ∧ D.rt ys v H
def G3K (G : Gp) (It : List V → V → Hp → Prop) (Fn : List V → Hp → Prop) (ip : List (Addr × Obj)) (c : Code) (fs : List Frame) (K : Flow → Sem PySem.Fin) (D : GEnds) : Prop :=
  ∀ (n : Nat) (ys : List V) (ix : Ix) (s : Shared) (f : Flow), n + ys.length = sizeLine → G3P G ix ip D ys f s → Go (model G.P G.w) G.A (Fi G It Fn n ix) c (K f) fs s
structure GS3 (G : Gp) (It : List V → V → Hp → Prop) (st : Stmt) (t : TGn) : Prop where
  run : ∀ (Fn : List V → Hp → Prop) (n : Nat) (ys : List V) (ix : Ix) (ip : List (Addr × Obj)) (c : Code) (fs : List Frame) (K : Flow → Sem PySem.Fin) (J : Value → Sem PySem.Fin) (gd : Bool → Bool) (lv : List Value → List Value) (s : Shared) (σ : L2.St) (H : Hp) (D : GEnds),
    G3C G ip c fs gd → n + ys.length = sizeLine → G3K G It Fn ip c fs K D → Inv (G.X ix) ip σ H s → t D ys σ H → Go (model G.P G.w) G.A (Fi G It Fn n ix) c ((exec st G.env).wrap K J gd lv) fs s
structure GSs3 (G : Gp) (It : List V → V → Hp → Prop) (st : List Stmt) (t : TGn) : Prop where
  run : ∀ (Fn : List V → Hp → Prop) (n : Nat) (ys : List V) (ix : Ix) (ip : List (Addr × Obj)) (c : Code) (fs : List Frame) (K : Flow → Sem PySem.Fin) (J : Value → Sem PySem.Fin) (gd : Bool → Bool) (lv : List Value → List Value) (s : Shared) (σ : L2.St) (H : Hp) (D : GEnds),
    G3C G ip c fs gd → n + ys.length = sizeLine → G3K G It Fn ip c fs K D → Inv (G.X ix) ip σ H s → t D ys σ H → Go (model G.P G.w) G.A (Fi G It Fn n ix) c ((execs st G.env).wrap K J gd lv) fs s
section
variable {G : Gp} {It : List V → V → Hp → Prop} {st : Stmt} {rest : List Stmt}
theorem sp_g3 {ix : Ix} {ip : List (Addr × Obj)} {s : Shared} {D : GEnds} {ys : List V} {f : Flow} (h : SP (G.X ix) ip (D.at ys) f s) : G3P G ix ip D ys f s := by
  cases f <;> exact h
theorem g3_plain {t : TS} (h : ∀ ix, PS (G.X ix) st t) : GS3 G It st (tPlain t) := by
  refine ⟨fun Fn n ys ix ip c fs K J gd lv s σ H D g hn k I ht => go_wrap ?_⟩
  rw [g.over]
  exact wpAny_mono ((h ix).run ip s σ H (D.at ys) I ht) (fun f s' q => k n ys ix s' f hn (sp_g3 q)) fun _ _ x => x.elim
theorem g3s_plain {t : TS} (h : ∀ ix, PSs (G.X ix) rest t) : GSs3 G It rest (tPlain t) := by
  refine ⟨fun Fn n ys ix ip c fs K J gd lv s σ H D g hn k I ht => go_wrap ?_⟩
  rw [g.over]
  exact wpAny_mono ((h ix).run ip s σ H (D.at ys) I ht) (fun f s' q => k n ys ix s' f hn (sp_g3 q)) fun _ _ x => x.elim
theorem g3s_nil : GSs3 G It [] tG0 := ⟨fun Fn n ys ix ip c fs K J gd lv s σ H D g hn k I ht => k n ys ix s .next hn ⟨σ, H, I, ht⟩⟩
theorem g3s_cons {t u : TGn} (a : GS3 G It st t) (b : GSs3 G It rest u) : GSs3 G It (st :: rest) (tGThen t u) := by
  refine ⟨fun Fn n ys ix ip c fs K J gd lv s σ H D g hn k I ht => ?_⟩
  rw [execs_cons_wrap]
  refine a.run Fn n ys ix ip c fs _ J gd lv s σ H { D with nx := fun ys' σ' H' => u D ys' σ' H' } g hn (fun n' ys' ix' s' f hn' q => ?_) I ht
  cases f with
  | next =>
    obtain ⟨σ', H', I', q⟩ := q
    exact b.run Fn n' ys' ix' ip c fs K J gd lv s' σ' H' D g hn' k I' q
  | brk => exact k n' ys' ix' s' .brk hn' q
  | cont => exact k n' ys' ix' s' .cont hn' q
  | ret u => exact k n' ys' ix' s' (.ret u) hn' q
def tGIf (c : TT) (t u : TGn) : TGn := fun D ys σ H => c σ H fun b H1 => if b = true then t D ys σ H1 else u D ys σ H1
theorem g3_if {test : Expr} {body orelse : List Stmt} {pos : Pos} {tc : TT} {t u : TGn} (hc : ∀ ix, PT (G.X ix) test tc) (ha : GSs3 G It body t) (hb : GSs3 G It orelse u) : GS3 G It (.If test body orelse pos) (tGIf tc t u) := by
  refine ⟨fun Fn n ys ix ip c fs K J gd lv s σ H D g hn k I ht => ?_⟩
  rw [exec_If]
  refine go_at ?_
  show Go _ _ _ _ (((isTrue test G.env (eval test G.env)) >>= fun b => if b = true then execs body G.env else execs orelse G.env).wrap K J gd lv) fs s
  rw [Sem.bind_eq_wrap', Sem.wrap_wrap]
  refine go_wrap ?_
  rw [g.over]
  refine wpAny_mono ((hc ix).run ip s σ H _ I ht) (fun b s1 q => ?_) fun _ _ x => x.elim
  obtain ⟨H1, I1, q⟩ := q
  cases b with
  | true => exact ha.run Fn n ys ix ip c fs K J gd lv s1 σ H1 D g hn k I1 q
  | false => exact hb.run Fn n ys ix ip c fs K J gd lv s1 σ H1 D g hn k I1 q
/-! yield -/
def tGY3 (It : List V → V → Hp → Prop) (te : TE) : TGn := fun D ys σ H => ys.length < sizeLine ∧ te σ H fun x H1 => It ys x H1 ∧ ∀ H2, KeepP H1 H2 → D.nx (ys ++ [x]) σ H2
theorem g3_yield {e : Expr} {yp pos : Pos} {te : TE} (he : ∀ ix, PE (G.X ix) e te) (hco : G.env.scope.isCoroutine = false) (hi : interactive G.env = false) : GS3 G It (.Expr (.Yield (some e) yp) pos) (tGY3 It te) := by
  refine ⟨fun Fn n ys ix ip c fs K J gd lv s σ H D g hn k I ht => ?_⟩
  obtain ⟨hlt, ht⟩ := ht
  obtain ⟨n, rfl⟩ : ∃ m, n = m + 1 := ⟨n - 1, by omega⟩
  rw [exec_Expr G.env _ pos hi rfl]
  show Go _ _ _ c (.at pos fun _ => ((eval e G.env >>= fun v => (standAt yp >>= fun _ => yieldOut G.env v)) >>= fun x => dropValue (.Yield (some e) yp) pos x).wrap K J gd lv) fs s
  have hy : ∀ v, yieldOut G.env v = yieldValue v := fun v => by simp only [yieldOut, hco, Bool.false_eq_true, if_false]
  simp only [hy]
  refine go_at ?_
  rw [Sem.bind_eq_wrap', Sem.bind_eq_wrap', Sem.wrap_wrap, Sem.wrap_wrap]
  refine go_wrap ?_
  rw [g.over]
  refine wpAny_mono ((he ix).run ip s σ H _ I ht) (fun v s1 q => ?_) fun _ _ x => x.elim
  obtain ⟨x, H1, I1, rv, q1, q2⟩ := q
  refine go_at (go_yield g.split fun p => ?_)
  refine ⟨?_, ys, x, ip, σ, H1, hn, rv, I1, g.ips, q1, fun ix' H' s' hk I' => ?_⟩
  · simp [End.quiet, g.gd, g.guard]
  · exact k n (ys ++ [x]) ix' s' .next (by rw [List.length_append]; show n + (ys.length + 1) = _; omega) ⟨σ, H', I', q2 H' hk⟩
end
/-! ### while, in a generator -/
section
variable {G : Gp} {It : List V → V → Hp → Prop}
theorem turn_eq {prog : Program} {w : World} {env : Env} {test : Expr} {body : List Stmt} : (model prog w).den (.whileLoop test body [] env) =
    (isTrue test env (eval test env)).wrap (fun b => if b = true then (execs body env).wrap (fun f => match f with
          | .next => .pure (.again (.whileLoop test body [] env))
          | .cont => .pure (.again (.whileLoop test body [] env))
          | .brk => .pure (.done .next)
          | .ret v => .pure (.done (.ret v))) (fun e => (do noteFrame e env; theTreesLotGoes e : Sem Unit).bind fun _ => .raise e) id id
        else .pure (.done .next)) (fun e => (do noteFrame e env; theTreesLotGoes e : Sem Unit).bind fun _ => .raise e) id id := by
  show (whileTurn test body [] env).onRaise (fun x => do noteFrame x env; theTreesLotGoes x) = _
  unfold whileTurn
  rw [Sem.onRaise_eq_wrap]
  rw [Sem.bind_eq_wrap']
  rw [Sem.wrap_wrap]
  refine Sem.wrap_congr _ _ _ (fun b => ?_) fun e => rfl
  cases b with
  | true =>
    show Sem.wrap _ _ _ _ (if true = true then _ else _) = _
    rw [if_pos rfl, if_pos rfl]
    rw [Sem.bind_eq_wrap']
    rw [Sem.wrap_wrap]
    exact Sem.wrap_congr _ _ _ (fun f => by cases f <;> rfl) fun e => rfl
  | false =>
    show Sem.wrap _ _ _ _ (if false = true then _ else _) = _
    rw [if_neg Bool.false_ne_true, if_neg Bool.false_ne_true]
    rfl
theorem g3c_loop {c c' : Code} {fs : List Frame} {gd : Bool → Bool} {k : Result → Sem PySem.Fin} {l kp : List Value} {p : Pos} {ip : List (Addr × Obj)} (g : G3C G ip c fs gd) (hw : c'.weight = 0) (hu : c'.cUnits = 0)   : G3C G ip c' (.ret k none (gd false) l c p kp :: fs) id := by
  refine ⟨g.ips, (GenW.over_loop hw hu).trans g.over, ?_, ?_, rfl⟩
  · rw [splitAtGen_ret, g.split]; rfl
  · show (gd false || fs.any Frame.guarded) = false
    rw [g.gd, g.guard]; rfl
theorem g3_while {test : Expr} {body : List Stmt} {pos : Pos} {tc : TT} {tb : TGn} (hc : ∀ ix, PT (G.X ix) test tc) (hb : GSs3 G It body tb) : GS3 G It (.While test body [] pos) (tGWhile tc tb) := by
  refine ⟨fun Fn n ys ix ip c fs K J gd lv s σ H D g hn k I ht => ?_⟩
  obtain ⟨W, ⟨m0, w0⟩, turn⟩ := ht
  refine go_at (go_call fun p => ?_)
  have gl := fun (kk : Result → Sem PySem.Fin) => g3c_loop (k := kk) (c' := .whileLoop test body [] G.env) (l := lv []) (kp := []) (p := p) g rfl rfl
  have loop : ∀ (m n : Nat) (ys : List V) (ix : Ix) (s : Shared) (σ : L2.St) (H : Hp), n + ys.length = sizeLine → W m ys σ H → Inv (G.X ix) ip σ H s →
      Go (model G.P G.w) G.A (Fi G It Fn n ix) (.whileLoop test body [] G.env) ((model G.P G.w).den (.whileLoop test body [] G.env))
        (.ret (fun r => ((match r with | .ok f => (.pure f : Sem Flow) | .error e => .raise e).onRaise fun (x : Value) => do
          if (← field x 1) == Value.none then unsupported "frame.own-activation:exception-without-traceback"
          setFlight x G.env.frame).wrap K J gd lv) none (gd false) (lv []) c p [] :: fs) s := by
    intro m
    induction m using Nat.strongRecOn with
    | ind m ih =>
      intro n ys ix s σ H hn w I
      rw [turn_eq]
      refine go_wrap ?_
      rw [(gl _).over]
      refine wpAny_mono ((hc ix).run ip s σ H _ I (turn m ys σ H w)) (fun b s1 q => ?_) fun _ _ x => x.elim
      obtain ⟨H2, I2, q2⟩ := q
      cases b with
      | true =>
        obtain ⟨N, hN, q2⟩ := q2
        rw [if_pos rfl]
        refine hb.run Fn n ys ix ip _ _ _ _ id id s1 σ H2 { D with nx := N, ct := N, bk := D.nx } (gl _) hn (fun n' ys' ix' s3 f hn' q3 => ?_) I2 q2
        cases f with
        | next =>
          obtain ⟨σ3, H3, I3, n3⟩ := q3
          obtain ⟨m', hm, w3⟩ := hN ys' σ3 H3 n3
          exact go_again rfl (ih m' hm n' ys' ix' s3 σ3 H3 hn' w3 I3)
        | cont =>
          obtain ⟨σ3, H3, I3, n3⟩ := q3
          obtain ⟨m', hm, w3⟩ := hN ys' σ3 H3 n3
          exact go_again rfl (ih m' hm n' ys' ix' s3 σ3 H3 hn' w3 I3)
        | brk => exact go_leaf (.ok .next) (k n' ys' ix' s3 .next hn' q3)
        | ret v => exact go_leaf (.ok (.ret v)) (k n' ys' ix' s3 (.ret v) hn' q3)
      | false =>
        rw [if_neg Bool.false_ne_true]
        exact go_leaf (.ok .next) (k n ys ix s1 .next hn ⟨σ, H2, I2, q2⟩)
  exact loop m0 n ys ix s σ H hn w0 I
end
/-! ### the older part of a heap -/
def cutH (h : Heap) (n : Nat) : Heap := { h with objs := h.objs.extract 0 n }
theorem cut_size {h : Heap} {n : Nat} (hn : n ≤ h.objs.size) : (cutH h n).objs.size = n := by
  show (h.objs.extract 0 n).size = n
  rw [Array.size_extract]
  omega
theorem cut_get {h : Heap} {n : Nat} {b : Addr} (hb : b < n) : (cutH h n).get? b = h.get? b := by
  have e : (h.objs.extract 0 n)[b]? = h.objs[b]? := by
    rw [Array.getElem?_extract]
    by_cases hs : b < h.objs.size
    · rw [if_pos (by rw [Nat.sub_zero]; exact Nat.lt_min.mpr ⟨hb, hs⟩), Nat.zero_add]
    · rw [if_neg (fun z => hs (Nat.lt_of_lt_of_le (by rw [Nat.sub_zero] at z; exact z) (Nat.min_le_right _ _)))]
      exact (Array.getElem?_eq_none_iff.mpr (Nat.not_lt.mp hs)).symm
  unfold Heap.get?
  show (match (h.objs.extract 0 n)[b]? with | some ⟨_, _, .freed, _⟩ => none | o => o) = _
  rw [e]
  rfl
theorem cut_of {h : Heap} {n : Nat} (hn : n ≤ h.objs.size) {b : Addr} {o : Obj} (e : (cutH h n).get? b = some o) : b < n ∧ h.get? b = some o := by
  have hb := Heap.lt_size e
  rw [cut_size hn] at hb
  exact ⟨hb, by rw [← cut_get hb]; exact e⟩
theorem cut_frames {h base : Heap} {n : Nat} : ∀ {l : List Env}, h.FunFrames base l → (∀ b ∈ frs l, b < n) → (cutH h n).FunFrames base l
  | [], _, _ => trivial
  | env :: rest, ⟨hk, ⟨L, o, hf, hn, ho, hd⟩, hr⟩, hl => by
    have hL : L < n := hl L (by unfold frs; rw [List.filterMap_cons, hf]; exact List.mem_cons_self)
    refine ⟨hk, ⟨L, o, hf, hn, by rw [cut_get hL]; exact ho, hd⟩, cut_frames hr fun b hb => hl b ?_⟩
    unfold frs
    rw [List.filterMap_cons, hf]
    exact List.mem_cons_of_mem _ hb
/-! ### what the generator knows at a waking -/
def KeepU (H H' : Hp) : Prop := ∀ b xs, H b = some (.tup xs) → H' b = some (.tup xs)
def frzO (o : Obj) : HO := .frz o (.ext fun _ => True)
def mkH (n0 : Nat) (own : List Addr) (Hg : Hp) (h : Heap) : Hp := fun b =>
  if b < n0 then Hg b else if b ∈ own then (match Hg b with | some u => if plainK u = true then some u else none | none => none) else (match h.get? b with | some o => some (frzO o) | none => none)
def cellB (o : Obj) : Bool := match o.data with | .cell _ => true | _ => false
theorem cellB_no {o : Obj} (h : cellB o = false) : ∀ v, o.data ≠ .cell v := fun v e => by
  unfold cellB at h
  rw [e] at h
  cases h
theorem cellB_yes {o : Obj} (h : ∀ v, o.data ≠ .cell v) : cellB o = false := by
  unfold cellB
  cases hd : o.data with
  | cell v => exact absurd hd (h v)
  | _ => rfl
def cut0 (s : Shared) (n0 : Nat) : Shared := { s with heap := cutH s.heap n0 }
def ixOf (n0 : Nat) (own : List Addr) (Hg : Hp) (s : Shared) : Ix := ⟨cut0 s n0, mkH n0 own Hg s.heap, []⟩
section
variable {n0 : Nat} {own : List Addr} {Hg : Hp} {h : Heap} {b : Addr}
theorem mkH_old (hb : b < n0) : mkH n0 own Hg h b = Hg b := if_pos hb
theorem mkH_own (hb : n0 ≤ b) (m : b ∈ own) : mkH n0 own Hg h b = (match Hg b with | some u => if plainK u = true then some u else none | none => none) := by
  unfold mkH
  rw [if_neg (Nat.not_lt.mpr hb), if_pos m]
theorem mkH_for (hb : n0 ≤ b) (m : b ∉ own) {o : Obj} (e : h.get? b = some o) : mkH n0 own Hg h b = some (frzO o) := by
  unfold mkH
  rw [if_neg (Nat.not_lt.mpr hb), if_neg m, e]
theorem mkH_none (hb : n0 ≤ b) (m : b ∉ own) (e : h.get? b = none) : mkH n0 own Hg h b = none := by
  unfold mkH
  rw [if_neg (Nat.not_lt.mpr hb), if_neg m, e]
theorem mkH_ownS (hb : n0 ≤ b) (m : b ∈ own) {u : HO} (e : Hg b = some u) (p : plainK u = true) : mkH n0 own Hg h b = some u := by
  rw [mkH_own hb m, e]
  exact if_pos p
theorem mkH_ownN (hb : n0 ≤ b) (m : b ∈ own) (e : Hg b = none) : mkH n0 own Hg h b = none := by
  rw [mkH_own hb m, e]
end
/-- a plain object is no cell -/
theorem plain_cell {P : Program} {w : World} {H : Hp} {h : Heap} {b : Addr} {u : HO} (p : plainK u = true) (x : ObjOk P w H h b u) : ∃ o, h.get? b = some o ∧ cellB o = false := by
  cases u with
  | lst xs => obtain ⟨_, its, n, _, e⟩ := x; exact ⟨_, e, rfl⟩
  | tup xs => obtain ⟨_, its, _, o, e, _, n, d⟩ := x; exact ⟨o, e, cellB_yes fun v z => by rw [d] at z; cases z⟩
  | dK kvs => obtain ⟨_, _, vs, _, o, es, ep, e, ex, d, _⟩ := x; exact ⟨o, e, cellB_yes fun v z => by rw [d] at z; cases z⟩
  | _ => cases p
/-- a plain object's description leans on nothing else -/
theorem plain_stay {P : Program} {w : World} {H H' : Hp} {h h' : Heap} {b : Addr} {u : HO} (p : plainK u = true) (x : ObjOk P w H h b u) (k : ∀ o, h.get? b = some o → h'.get? b = some o) : ObjOk P w H' h' b u := by
  cases u with
  | lst xs => obtain ⟨z, its, n, r, e⟩ := x; exact ⟨z, its, n, r, k _ e⟩
  | tup xs => obtain ⟨z, its, r, o, e, c⟩ := x; exact ⟨z, its, r, o, k _ e, c⟩
  | dK kvs => obtain ⟨z, y, vs, r, o, es, ep, e, c⟩ := x; exact ⟨z, y, vs, r, o, es, ep, k _ e, c⟩
  | _ => cases p
/-- it sleeps: H, h are what the other side knows and holds -/
structure Slp (G : Gp) (n0 : Nat) (own : List Addr) (ip : List (Addr × Obj)) (σg : L2.St) (Hg H : Hp) (h : Heap) : Prop where
  inv : ∃ ix sy, ix.s0.heap.objs.size = n0 ∧ Inv (G.X ix) ip σg Hg sy ∧ ∀ b ∈ own, H b = none → sy.heap.get? b = h.get? b
  old : ∀ b, b < n0 → ∀ u, Hg b = some u → ∃ xs, u = .tup xs ∧ H b = some u
  ow : ∀ b ∈ own, n0 ≤ b ∧ (∃ o, h.get? b = some o ∧ cellB o = false) ∧ (H b = none ∨ ∃ xs, H b = some (.tup xs) ∧ Hg b = some (.tup xs))
  pl : ∀ b u, n0 ≤ b → plainK u = true → Hg b = some u → b ∈ own
  tup : ∀ b xs, n0 ≤ b → Hg b = some (.tup xs) → H b = some (.tup xs)
  loc : G.env.locals ∈ own
  ips : ∀ p ∈ ip, p.1 ∈ own
  cells : G.env.cells = []
/-- it may be woken -/
structure Rdy (G : Gp) (n0 : Nat) (own : List Addr) (ip : List (Addr × Obj)) (σg : L2.St) (Hg H : Hp) (s : Shared) : Prop where
  inv : Inv (G.X (ixOf n0 own Hg s)) ip σg (mkH n0 own Hg s.heap) s
  sz : n0 ≤ s.heap.objs.size
  keep : KeepP Hg (mkH n0 own Hg s.heap)
  old : ∀ b, b < n0 → ∀ u, Hg b = some u → ∃ xs, u = .tup xs ∧ H b = some u
  ow : ∀ b ∈ own, n0 ≤ b ∧ (∃ o, s.heap.get? b = some o ∧ cellB o = false) ∧ (H b = none ∨ ∃ xs, H b = some (.tup xs) ∧ Hg b = some (.tup xs))
  loc : G.env.locals ∈ own
  cells : G.env.cells = []
def plst (own : List Addr) (H : Hp) (h : Heap) : List (Addr × Obj) := own.filterMap fun b => if (H b).isNone = true then (h.get? b).map fun o => (b, o) else none
theorem mem_plst {own : List Addr} {H : Hp} {h : Heap} {b : Addr} {o : Obj} (m : b ∈ own) (n : H b = none) (e : h.get? b = some o) : (b, o) ∈ plst own H h :=
  List.mem_filterMap.mpr ⟨b, m, by rw [n, e]; rfl⟩
theorem of_plst {own : List Addr} {H : Hp} {h : Heap} {p : Addr × Obj} (m : p ∈ plst own H h) : p.1 ∈ own ∧ H p.1 = none ∧ h.get? p.1 = some p.2 := by
  obtain ⟨b, hb, e⟩ := List.mem_filterMap.mp m
  by_cases n : (H b).isNone = true
  · rw [if_pos n] at e
    cases q : h.get? b with
    | none => rw [q] at e; cases e
    | some o =>
      rw [q] at e
      cases e
      exact ⟨hb, Option.isNone_iff_eq_none.mp n, q⟩
  · rw [if_neg n] at e; cases e
/-- the consumer and the generator speak of the same program; the generator was made within the consumer's frame -/
structure Fit (X : Cx) (G : Gp) (n0 : Nat) (pins : List (Addr × Obj)) : Prop where
  P : G.P = X.prog
  w : G.w = X.w
  base : G.base = X.base
  outer : G.outer = X.stack
  s0 : X.s_0.heap.objs.size ≤ n0
  loc : X.env.locals < n0
  cell : ∀ x c, X.env.cells.lookup x = some c → c < n0
  frs : ∀ b ∈ frs X.stack, b < n0
  pin : ∀ p ∈ X.pn ++ pins, p.1 < n0
theorem Slp.wake {X : Cx} {G : Gp} {n0 : Nat} {own : List Addr} {ip pins : List (Addr × Obj)} {σg σ' : L2.St} {Hg H H' : Hp} {h : Heap} {s : Shared} (Z : Slp G n0 own ip σg Hg H h) (F : Fit X G n0 pins) (I : Inv X (pins ++ plst own H h) σ' H' s) (kt : KeepU H H') :
    Rdy G n0 own ip σg Hg H' s := by
  obtain ⟨ix, sy, hix, J, same⟩ := Z.inv
  have sz : n0 ≤ s.heap.objs.size := by
    have h1 := F.loc
    have h2 := I.lt
    obtain ⟨o1, ⟨oL, hoL, _⟩, _⟩ := (Z.ow _ Z.loc)
    have h3 : n0 ≤ G.env.locals := o1
    have h4 : G.env.locals < s.heap.objs.size := by
      rcases (Z.ow _ Z.loc).2.2 with n | ⟨xs, e, e2⟩
      · have := (I.pin (G.env.locals, oL) (List.mem_append_right _ (List.mem_append_right _ (mem_plst Z.loc n hoL)))).1
        exact Heap.lt_size this
      · have z : Hg G.env.locals = none := J.free
        rw [z] at e2; cases e2
    exact Nat.le_of_lt (Nat.lt_of_le_of_lt h3 h4)
  have pinned : ∀ b ∈ own, H b = none → ∀ o, h.get? b = some o → s.heap.get? b = some o ∧ H' b = none := fun b m n o e => by
    have := I.pin (b, o) (List.mem_append_right _ (List.mem_append_right _ (mem_plst m n e)))
    exact ⟨this.1, this.2.1⟩
  have own' : ∀ b ∈ own, n0 ≤ b ∧ (∃ o, s.heap.get? b = some o ∧ cellB o = false) ∧ (H' b = none ∨ ∃ xs, H' b = some (.tup xs) ∧ Hg b = some (.tup xs)) := fun b m => by
    obtain ⟨o1, ⟨o, ho, hc⟩, o3⟩ := Z.ow b m
    rcases o3 with n | ⟨xs, e, e2⟩
    · obtain ⟨p1, p2⟩ := pinned b m n o ho
      exact ⟨o1, ⟨o, p1, hc⟩, .inl p2⟩
    · have := kt b xs e
      exact ⟨o1, plain_cell (u := .tup xs) rfl (I.hok b _ this), .inr ⟨xs, this, e2⟩⟩
  have old' : ∀ b, b < n0 → ∀ u, Hg b = some u → ∃ xs, u = .tup xs ∧ H' b = some u := fun b hb u e => by
    obtain ⟨xs, rfl, e2⟩ := Z.old b hb u e
    exact ⟨xs, rfl, kt b xs e2⟩
  have phys : ∀ b ∈ own, (∀ xs, Hg b ≠ some (.tup xs)) → ∀ o, sy.heap.get? b = some o → s.heap.get? b = some o := fun b m nt o e => by
    rcases (Z.ow b m).2.2 with n | ⟨xs, _, e2⟩
    · rw [same b m n] at e
      exact (pinned b m n o e).1
    · exact absurd e2 (nt xs)
  have csz : (cutH s.heap n0).objs.size = n0 := cut_size sz
  have locN : Hg G.env.locals = none := J.free
  refine ⟨?_, sz, fun b u p e => ?_, old', own', Z.loc, Z.cells⟩
  · refine ⟨⟨J.ok.mod, J.ok.kind, J.ok.glob, J.ok.blt, ?_, J.ok.inj, J.ok.has, fun x c _ e => ?_, J.ok.hd, J.ok.frames, J.ok.stk, fun b hb => ?_, fun b o e => ?_, ?_, fun b o _ hb => ?_, fun b hb => ?_, ?_, fun b hb => ?_⟩, rfl, I.bare, ?_, ?_, fun x c e => ?_, ?_, fun x c e => ?_, fun p hp => ?_, fun b u e => ?_, J.len⟩
    · show (cutH s.heap n0).objs.size ≤ G.env.locals
      rw [csz]
      exact (Z.ow _ Z.loc).1
    · have e : G.env.cells.lookup x = some c := e
      rw [Z.cells] at e; cases e
    · exact absurd (show b ∈ ([] : List Addr) from hb) (by simp)
    · have hb : b < n0 := Nat.lt_of_lt_of_le (Heap.lt_size e) (by rw [← hix]; exact J.ok.bsz)
      have e' : X.base.get? b = some o := by rw [← F.base]; exact e
      refine ⟨by show (cutH s.heap n0).get? b = some o; rw [cut_get hb]; exact I.bk b o e', ?_⟩
      show mkH n0 own Hg s.heap b = none
      rw [mkH_old hb]
      exact (J.bs b o e).2
    · show G.base.objs.size ≤ (cutH s.heap n0).objs.size
      rw [csz, ← hix]
      exact J.ok.bsz
    · exact absurd (show b ∈ ([] : List Addr) from hb) (by simp)
    · exact absurd (show b ∈ ([] : List Addr) from hb) (by simp)
    · show (cutH s.heap n0).FunFrames G.base G.outer
      rw [F.base, F.outer]
      exact cut_frames I.stack F.frs
    · have hb' : b ∈ L2.frs X.stack := by rw [← F.outer]; exact hb
      show mkH n0 own Hg s.heap b = none
      rw [mkH_old (F.frs b hb')]
      have hb2 : b ∈ L2.frs (G.X ix).stack := by
        show b ∈ L2.frs (G.env :: G.outer)
        unfold L2.frs
        rw [List.filterMap_cons]
        cases G.env.frame with
        | none => exact hb
        | some _ => exact List.mem_cons_of_mem _ hb
      exact J.stkFree b hb2
    · exact Un.kept fun b u e => (cut_of sz e).2
    · obtain ⟨m, hn, hl⟩ := J.loc
      refine ⟨m, ?_, fun i x v a b c => ?_⟩
      · obtain ⟨o, es, ep, ho, r⟩ := hn
        exact ⟨o, es, ep, phys _ Z.loc (fun xs z => by rw [locN] at z; cases z) o ho, r⟩
      · obtain ⟨u, ru, lk⟩ := hl i x v a b c
        refine ⟨u, ru, ?_⟩
        rcases lk with lk | ⟨_, c', lk, _⟩
        · exact .inl lk
        · have lk : G.env.cells.lookup x = some c' := lk
          rw [Z.cells] at lk; cases lk
    · have e : G.env.cells.lookup x = some c := e
      rw [Z.cells] at e; cases e
    · exact mkH_ownN (Z.ow _ Z.loc).1 Z.loc locN
    · have e : G.env.cells.lookup x = some c := e
      rw [Z.cells] at e; cases e
    · have hp : p ∈ ([] : List (Addr × Obj)) ++ ip := hp
      rw [List.nil_append] at hp
      obtain ⟨p1, p2, p3, p4, p5⟩ := J.pin p (List.mem_append_right _ hp)
      have m := Z.ips p hp
      exact ⟨phys _ m (fun xs z => by rw [p2] at z; cases z) _ p1, mkH_ownN (Z.ow _ m).1 m p2, p3, p4, p5⟩
    · by_cases hb : b < n0
      · rw [mkH_old hb] at e
        obtain ⟨xs, rfl, e2⟩ := old' b hb u e
        have := I.hok b _ e2
        show ObjOk G.P G.w _ _ _ _
        rw [F.P, F.w]
        exact plain_stay rfl this fun _ z => z
      · by_cases m : b ∈ own
        · rw [mkH_own (Nat.not_lt.mp hb) m] at e
          cases hg : Hg b with
          | none => rw [hg] at e; cases e
          | some u' =>
            rw [hg] at e
            by_cases p : plainK u' = true
            · have e : (if plainK u' = true then some u' else none) = some u := e
              rw [if_pos p] at e
              have e := Option.some.inj e
              subst e
              by_cases ht : ∃ xs, u' = .tup xs
              · obtain ⟨xs, rfl⟩ := ht
                rcases (own' b m).2.2 with n | ⟨ys, e1, e2⟩
                · exfalso
                  have h2 := kt b xs (Z.tup b xs (Nat.not_lt.mp hb) hg)
                  rw [n] at h2; cases h2
                · have := I.hok b _ e1
                  rw [hg] at e2
                  cases e2
                  show ObjOk G.P G.w _ _ _ _
                  rw [F.P, F.w]
                  exact plain_stay rfl this fun _ z => z
              · exact plain_stay p (J.hok b _ hg) fun o z => phys b m (fun xs z => ht ⟨xs, by rw [hg] at z; exact Option.some.inj z⟩) o z
            · have e : (if plainK u' = true then some u' else none) = some u := e
              rw [if_neg p] at e; cases e
        · cases hg : s.heap.get? b with
          | none => rw [mkH_none (Nat.not_lt.mp hb) m hg] at e; cases e
          | some o =>
            rw [mkH_for (Nat.not_lt.mp hb) m hg] at e
            cases e
            exact ⟨hg, trivial, ⟨o, hg⟩, fun _ _ _ _ => trivial⟩
  · by_cases hb : b < n0
    · rw [mkH_old hb]; exact e
    · exact mkH_ownS (Nat.not_lt.mp hb) (Z.pl b u (Nat.not_lt.mp hb) p e) e p
/-! ### what is freed stays freed -/
structure NoRes (h h' : Heap) : Prop where
  sz : h.objs.size ≤ h'.objs.size
  no : ∀ b, b < h.objs.size → h.get? b = none → h'.get? b = none
theorem NoRes.refl (h : Heap) : NoRes h h := ⟨Nat.le_refl _, fun _ _ e => e⟩
theorem NoRes.trans {h h1 h2 : Heap} (a : NoRes h h1) (b : NoRes h1 h2) : NoRes h h2 := ⟨Nat.le_trans a.sz b.sz, fun c hc e => b.no c (Nat.lt_of_lt_of_le hc a.sz) (a.no c hc e)⟩
theorem noRes_push (h : Heap) (o : Obj) : NoRes h (h.push o) := by
  refine ⟨by rw [Heap.size_push]; exact Nat.le_succ _, fun b hb e => ?_⟩
  have q : (h.objs.push o)[b]? = h.objs[b]? := by
    rw [Array.getElem?_push]
    rw [if_neg (Nat.ne_of_lt hb)]
  unfold Heap.get? at e ⊢
  show (match (h.objs.push o)[b]? with | some ⟨_, _, .freed, _⟩ => none | o => o) = none
  rw [q]
  exact e
theorem noRes_update (h : Heap) (a : Addr) (f : Obj → Obj) (ha : (h.get? a).isSome = true) : NoRes h (h.update a f) := by
  refine ⟨?_, fun b hb e => ?_⟩
  · show h.objs.size ≤ (h.objs.modify a f).size
    rw [Array.size_modify]
    exact Nat.le_refl _
  · by_cases hba : b = a
    · subst hba
      rw [e] at ha
      cases ha
    · rw [Heap.get?_update_other _ _ (fun z => hba z.symm)]
      exact e
theorem runs_noRes {M : Model} {Γ : PySem.Ctx} {p : Pos} {t : Sem PySem.Fin} {fs : List Frame} {s s' : Shared} {e : End} (h : Runs M Γ p t fs s e s') : NoRes s.heap s'.heap := by
  induction h with
  | done => exact .refl _
  | raise => exact .refl _
  | yield => exact .refl _
  | update ha _ ih => exact (noRes_update _ _ _ ha).trans ih
  | alloc _ ih => exact (noRes_push _ _).trans ih
  | call _ _ a b => exact a.trans b
  | resumeFresh _ _ _ _ a b => exact a.trans b
  | resumeSuspended _ _ _ _ a b => exact a.trans b
  | segRet _ _ a b => exact a.trans b
  | segGen _ _ a b => exact a.trans b
  | segSuspGen _ _ _ _ a b => exact a.trans b
  | _ => assumption
/-! ### behind a run -/
def ownOf (n0 : Nat) (own : List Addr) (h h2 : Heap) : List Addr :=
  (List.range h2.objs.size).filter fun b => decide (n0 ≤ b) && ((decide (b ∈ own) || decide (h.objs.size ≤ b)) && (match h2.get? b with | some o => !cellB o | none => false))
theorem mem_ownOf {n0 : Nat} {own : List Addr} {h h2 : Heap} {b : Addr} : b ∈ ownOf n0 own h h2 ↔ n0 ≤ b ∧ (b ∈ own ∨ h.objs.size ≤ b) ∧ ∃ o, h2.get? b = some o ∧ cellB o = false := by
  unfold ownOf
  rw [List.mem_filter, Bool.and_eq_true, Bool.and_eq_true, Bool.or_eq_true, decide_eq_true_eq, decide_eq_true_eq, decide_eq_true_eq, List.mem_range]
  constructor
  · rintro ⟨_, h1, h2', h3⟩
    refine ⟨h1, h2', ?_⟩
    cases q : h2.get? b with
    | none => rw [q] at h3; cases h3
    | some o =>
      rw [q] at h3
      exact ⟨o, rfl, by simpa using h3⟩
  · rintro ⟨h1, h2', o, q, c⟩
    exact ⟨Heap.lt_size q, h1, h2', by rw [q]; show (!cellB o) = true; rw [c]; rfl⟩
def chOf (n0 : Nat) (own : List Addr) (h h2 : Heap) : List Addr := (List.range (max h.objs.size h2.objs.size)).filter fun b => decide (n0 ≤ b) && (decide (b ∈ own) || decide (h.objs.size ≤ b))
theorem mem_chOf {n0 : Nat} {own : List Addr} {h h2 : Heap} {b : Addr} : b ∈ chOf n0 own h h2 ↔ b < max h.objs.size h2.objs.size ∧ n0 ≤ b ∧ (b ∈ own ∨ h.objs.size ≤ b) := by
  unfold chOf
  rw [List.mem_filter, Bool.and_eq_true, Bool.or_eq_true, decide_eq_true_eq, decide_eq_true_eq, decide_eq_true_eq, List.mem_range]
def mrg (n0 : Nat) (H Hg : Hp) : Hp := fun b => match H b with
  | some u => some u
  | none => if b < n0 then none else (match Hg b with | some (.tup xs) => some (.tup xs) | _ => none)
theorem mrg_some {n0 : Nat} {H Hg : Hp} {b : Addr} {u : HO} (e : H b = some u) : mrg n0 H Hg b = some u := by
  unfold mrg
  rw [e]
theorem mrg_tup {n0 : Nat} {H Hg : Hp} {b : Addr} {xs : List V} (e : H b = none) (hb : n0 ≤ b) (t : Hg b = some (.tup xs)) : mrg n0 H Hg b = some (.tup xs) := by
  unfold mrg
  rw [e]
  show (if b < n0 then none else _) = _
  rw [if_neg (Nat.not_lt.mpr hb), t]
theorem mrg_no {n0 : Nat} {H Hg : Hp} {b : Addr} (e : H b = none) (h : b < n0 ∨ ∀ xs, Hg b ≠ some (.tup xs)) : mrg n0 H Hg b = none := by
  unfold mrg
  rw [e]
  show (if b < n0 then none else _) = _
  by_cases hb : b < n0
  · rw [if_pos hb]
  · rw [if_neg hb]
    rcases h with h | h
    · exact absurd h hb
    · cases q : Hg b with
      | none => rfl
      | some u =>
        cases u with
        | tup xs => exact absurd q (h xs)
        | _ => rfl
theorem mrg_of {n0 : Nat} {H Hg : Hp} {b : Addr} {u : HO} (e : H b = none) (m : mrg n0 H Hg b = some u) : n0 ≤ b ∧ ∃ xs, u = .tup xs ∧ Hg b = some (.tup xs) := by
  by_cases hb : b < n0
  · rw [mrg_no e (.inl hb)] at m; cases m
  · by_cases ht : ∃ xs, Hg b = some (.tup xs)
    · obtain ⟨xs, ht⟩ := ht
      rw [mrg_tup e (Nat.not_lt.mp hb) ht] at m
      cases m
      exact ⟨Nat.not_lt.mp hb, xs, rfl, ht⟩
    · rw [mrg_no e (.inr fun xs z => ht ⟨xs, z⟩)] at m; cases m
theorem Rdy.slept {X : Cx} {G : Gp} {n0 : Nat} {own : List Addr} {ip ip' pins : List (Addr × Obj)} {σ σg σg' : L2.St} {Hg Hg' H : Hp} {s s2 : Shared} (R : Rdy G n0 own ip σg Hg H s) (F : Fit X G n0 pins) (I : Inv X pins σ H s)
    (J : Inv (G.X (ixOf n0 own Hg s)) ip' σg' Hg' s2) (hip : ∀ p ∈ ip', n0 ≤ p.1) (nr : NoRes s.heap s2.heap) :
    Inv X pins σ (mrg n0 H Hg') s2 ∧ Slp G n0 (ownOf n0 own s.heap s2.heap) ip' σg' Hg' (mrg n0 H Hg') s2.heap ∧ KeepU Hg' (mrg n0 H Hg') ∧ (∀ b, n0 ≤ b → b ∉ own → ∀ o, s.heap.get? b = some o → s2.heap.get? b = some o) := by
  have U := J.base
  have sz := R.sz
  have exi : ∀ {b : Addr} {u : HO}, Hg' b = some u → ∃ o, s2.heap.get? b = some o := fun {b u} e => by
    cases q : s2.heap.get? b with
    | some o => exact ⟨o, rfl⟩
    | none =>
      have := J.hok b u e
      have no : False := by
        cases u with
        | lst xs => obtain ⟨_, _, _, _, z⟩ := this; rw [q] at z; cases z
        | tup xs => obtain ⟨_, _, _, _, z, _⟩ := this; rw [q] at z; cases z
        | dK kvs => obtain ⟨_, _, _, _, _, _, _, z, _⟩ := this; rw [q] at z; cases z
        | dT kvs => obtain ⟨_, _, _, _, _, _, _, z, _⟩ := this; rw [q] at z; cases z
        | set S n => obtain ⟨_, _, _, _, z, _⟩ := this; rw [q] at z; cases z
        | ins C dx fs => obtain ⟨_, _, _, z, _⟩ := this; rw [q] at z; cases z
        | own y => obtain ⟨_, z⟩ := this; rw [q] at z; cases z
        | xd fs => obtain ⟨_, ⟨_, _, _, z, _⟩, _⟩ := this; rw [q] at z; cases z
        | rng lo hi => obtain ⟨_, _, _, z⟩ := this; rw [q] at z; cases z
        | frz ob v => obtain ⟨z, _⟩ := this; rw [q] at z; cases z
        | tbl ps =>
          have z : s2.heap.get? b = some _ := this
          rw [q] at z; cases z
        | met f y =>
          have z : s2.heap.get? b = some _ := this
          rw [q] at z; cases z
        | ext φ => obtain ⟨_, ⟨_, z⟩, _⟩ := this; rw [q] at z; cases z
      exact no.elim
  have gone : ∀ {b : Addr}, b < s.heap.objs.size → s.heap.get? b = none → Hg' b = none := fun {b} hb e => by
    cases q : Hg' b with
    | none => rfl
    | some u =>
      obtain ⟨o, ho⟩ := exi q
      rw [nr.no b hb e] at ho; cases ho
  have old : ∀ b, b < n0 → Hg' b = Hg b := fun b hb => by
    cases q : Hg b with
    | some u =>
      obtain ⟨xs, rfl, _⟩ := R.old b hb u q
      exact U.tups b xs (by show mkH n0 own Hg s.heap b = _; rw [mkH_old hb]; exact q)
    | none =>
      cases e : s.heap.get? b with
      | none => exact gone (Nat.lt_of_lt_of_le hb sz) e
      | some o => exact U.free b o (by show (cutH s.heap n0).get? b = some o; rw [cut_get hb]; exact e) (by show mkH n0 own Hg s.heap b = none; rw [mkH_old hb]; exact q) (by show b ∉ ([] : List Addr); simp)
  have frn : ∀ b, n0 ≤ b → b ∉ own → ∀ o, s.heap.get? b = some o → Hg' b = some (frzO o) ∧ s2.heap.get? b = some o := fun b hb m o e => by
    have z := U.frzs b o _ (show mkH n0 own Hg s.heap b = some (.frz o (.ext fun _ => True)) from mkH_for hb m e)
    exact ⟨z, (J.hok b _ z).1⟩
  have low : ∀ b, b < n0 → Hg b = none → b ∉ L2.frs X.stack → ∀ o, s.heap.get? b = some o → s2.heap.get? b = some o := fun b hb n hf o e =>
    U.keep b o (by show (cutH s.heap n0).get? b = some o; rw [cut_get hb]; exact e) (by show mkH n0 own Hg s.heap b = none; rw [mkH_old hb]; exact n) (by show b ∉ L2.frs G.outer; rw [F.outer]; exact hf) (by show b ∉ ([] : List Addr); simp)
  have trk : ∀ c u, H c = some u → (∀ xs, u ≠ .tup xs) → ∀ v, s.heap.get? c = some v → s2.heap.get? c = some v := fun c u e nt v ev => by
    by_cases hc : c < n0
    · refine low c hc ?_ (fun m => by rw [I.stkFree c m] at e; cases e) v ev
      cases q : Hg c with
      | none => rfl
      | some u' =>
        obtain ⟨xs, rfl, e2⟩ := R.old c hc u' q
        rw [e] at e2
        exact absurd (Option.some.inj e2) (nt xs)
    · refine (frn c (Nat.not_lt.mp hc) (fun m => ?_) v ev).2
      rcases (R.ow c m).2.2 with n | ⟨xs, e2, _⟩
      · rw [e] at n; cases n
      · rw [e] at e2
        exact absurd (Option.some.inj e2) (nt xs)
  have ownT : ∀ b xs, b ∈ own → Hg b = some (.tup xs) → Hg' b = some (.tup xs) := fun b xs m e => U.tups b xs (mkH_ownS (R.ow b m).1 m e rfl)
  have notF : ∀ b, n0 ≤ b → ∀ u, Hg' b = some u → plainK u = true → b ∈ own ∨ s.heap.objs.size ≤ b := fun b hb u e p => by
    by_cases m : b ∈ own
    · exact .inl m
    · by_cases hs : b < s.heap.objs.size
      · exfalso
        cases q : s.heap.get? b with
        | none => rw [gone hs q] at e; cases e
        | some o =>
          rw [(frn b hb m o q).1] at e
          cases e
          cases p
      · exact .inr (Nat.not_lt.mp hs)
  have tupM : ∀ b xs, n0 ≤ b → Hg' b = some (.tup xs) → mrg n0 H Hg' b = some (.tup xs) := fun b xs hb e => by
    cases q : H b with
    | none => exact mrg_tup q hb e
    | some u =>
      rcases notF b hb _ e rfl with m | hs
      · rcases (R.ow b m).2.2 with n | ⟨ys, e1, e2⟩
        · rw [q] at n; cases n
        · rw [ownT b ys m e2] at e
          cases e
          exact mrg_some e1
      · rw [I.hok.fresh hs] at q; cases q
  have loc := R.loc
  refine ⟨?_, ?_, ?_, fun b hb m o e => (frn b hb m o e).2⟩
  · refine I.call' (ch := chOf n0 own s.heap s2.heap) J.os ⟨fun b o e n hf hc => ?_, fun b o e n hf hc => ?_, fun b o e n hc => ?_, fun b o e hc => ?_, fun b xs e => mrg_some e, fun b o u e => mrg_some e, fun b ps e => ⟨#[], by rw [mrg_some e]; first | rfl | simp⟩⟩ (fun b u e => ?_) J.bare fun b hb => ?_
    · by_cases hb : b < n0
      · refine low b hb ?_ hf o e
        cases q : Hg b with
        | none => rfl
        | some u =>
          obtain ⟨xs, rfl, e2⟩ := R.old b hb u q
          rw [n] at e2; cases e2
      · have hs := Heap.lt_size e
        exact (frn b (Nat.not_lt.mp hb) (fun m => hc (mem_chOf.mpr ⟨Nat.lt_of_lt_of_le hs (Nat.le_max_left _ _), Nat.not_lt.mp hb, .inl m⟩)) o e).2
    · have hb := F.frs b hf
      refine U.slot b o (by show (cutH s.heap n0).get? b = some o; rw [cut_get hb]; exact e) ?_ (by show b ∈ L2.frs G.outer; rw [F.outer]; exact hf) (by show b ∉ ([] : List Addr); simp)
      show mkH n0 own Hg s.heap b = none
      rw [mkH_old hb]
      cases q : Hg b with
      | none => rfl
      | some u =>
        obtain ⟨xs, rfl, e2⟩ := R.old b hb u q
        rw [n] at e2; cases e2
    · by_cases hb : b < n0
      · exact mrg_no n (.inl hb)
      · have hs := Heap.lt_size e
        have := (frn b (Nat.not_lt.mp hb) (fun m => hc (mem_chOf.mpr ⟨Nat.lt_of_lt_of_le hs (Nat.le_max_left _ _), Nat.not_lt.mp hb, .inl m⟩)) o e).1
        exact mrg_no n (.inr fun xs z => by rw [this] at z; cases z)
    · by_cases hb : b < n0
      · exact U.there b o (by show (cutH s.heap n0).get? b = some o; rw [cut_get hb]; exact e) (by show b ∉ ([] : List Addr); simp)
      · have hs := Heap.lt_size e
        exact ⟨o, (frn b (Nat.not_lt.mp hb) (fun m => hc (mem_chOf.mpr ⟨Nat.lt_of_lt_of_le hs (Nat.le_max_left _ _), Nat.not_lt.mp hb, .inl m⟩)) o e).2⟩
    · have gen : ∀ xs, Hg' b = some (.tup xs) → ObjOk X.prog X.w (mrg n0 H Hg') s2.heap b (.tup xs) := fun xs z => by
        have := J.hok b _ z
        have this : ObjOk G.P G.w Hg' s2.heap b (.tup xs) := this
        rw [F.P, F.w] at this
        exact plain_stay rfl this fun _ z => z
      cases q : H b with
      | none =>
        obtain ⟨_, xs, rfl, z⟩ := mrg_of q e
        exact gen xs z
      | some u' =>
        rw [mrg_some q] at e
        have e := Option.some.inj e
        subst e
        have hx := I.hok b u' q
        by_cases ht : ∃ xs, u' = .tup xs
        · obtain ⟨xs, rfl⟩ := ht
          by_cases hb : b < n0
          · cases g : Hg b with
            | none => exact plain_stay rfl hx fun o z => low b hb g (fun m => by rw [I.stkFree b m] at q; cases q) o z
            | some u =>
              obtain ⟨ys, rfl, e2⟩ := R.old b hb u g
              rw [q] at e2
              cases e2
              exact gen xs (by rw [old b hb]; exact g)
          · by_cases m : b ∈ own
            · rcases (R.ow b m).2.2 with n | ⟨ys, e1, e2⟩
              · rw [q] at n; cases n
              · rw [q] at e1
                cases e1
                exact gen xs (ownT b xs m e2)
            · exact plain_stay rfl hx fun o z => (frn b (Nat.not_lt.mp hb) m o z).2
        · refine hx.stay (fun c v hc z => ?_) (fun c z => mrg_some z) fun c xs z => mrg_some z
          rcases hc with rfl | hc
          · exact trk c u' q (fun xs z => ht ⟨xs, z⟩) v z
          · exact trk c _ hc (fun xs z => by cases z) v z
    · obtain ⟨_, h1, _⟩ := mem_chOf.mp hb
      exact ⟨.inr (Nat.le_trans F.s0 h1), fun z => absurd (Nat.lt_of_lt_of_le (z ▸ F.loc) h1) (Nat.lt_irrefl _), fun x c e z => absurd (Nat.lt_of_lt_of_le (F.cell x c e) (z ▸ h1)) (Nat.lt_irrefl _), fun p hp z => absurd (Nat.lt_of_lt_of_le (F.pin p hp) (z ▸ h1)) (Nat.lt_irrefl _)⟩
  · refine ⟨⟨_, s2, cut_size sz, J, fun _ _ _ => rfl⟩, fun b hb u e => ?_, fun b hb => ?_, fun b u hb p e => ?_, tupM, ?_, fun p hp => ?_, R.cells⟩
    · rw [old b hb] at e
      obtain ⟨xs, rfl, e2⟩ := R.old b hb u e
      exact ⟨xs, rfl, mrg_some e2⟩
    · obtain ⟨h1, h2, h3⟩ := mem_ownOf.mp hb
      refine ⟨h1, h3, ?_⟩
      by_cases ht : ∃ xs, Hg' b = some (.tup xs)
      · obtain ⟨xs, ht⟩ := ht
        exact .inr ⟨xs, tupM b xs h1 ht, ht⟩
      · refine .inl (mrg_no ?_ (.inr fun xs z => ht ⟨xs, z⟩))
        rcases h2 with m | hs
        · rcases (R.ow b m).2.2 with n | ⟨xs, _, e2⟩
          · exact n
          · exact absurd ⟨xs, ownT b xs m e2⟩ ht
        · exact I.hok.fresh hs
    · exact mem_ownOf.mpr ⟨hb, notF b hb u e p, plain_cell p (J.hok b u e)⟩
    · obtain ⟨m, ⟨o, es, ep, ho, hd, _⟩, _⟩ := J.loc
      exact mem_ownOf.mpr ⟨(R.ow _ R.loc).1, .inl R.loc, o, ho, cellB_yes fun v z => by rw [hd] at z; cases z⟩
    · obtain ⟨p1, p2, _, _, p5⟩ := J.pin p (List.mem_append_right _ hp)
      refine mem_ownOf.mpr ⟨hip p hp, ?_, _, p1, cellB_yes p5⟩
      by_cases m : p.1 ∈ own
      · exact .inl m
      · by_cases hs : p.1 < s.heap.objs.size
        · exfalso
          cases q : s.heap.get? p.1 with
          | none => rw [nr.no _ hs q] at p1; cases p1
          | some o => rw [(frn _ (hip p hp) m o q).1] at p2; cases p2
        · exact .inr (Nat.not_lt.mp hs)
  · intro b xs e
    by_cases hb : b < n0
    · rw [old b hb] at e
      obtain ⟨_, _, e2⟩ := R.old b hb _ e
      exact mrg_some e2
    · exact tupM b xs (Nat.not_lt.mp hb) e
/-! ### it is woken -/
def Goes3 (G : Gp) (It : List V → V → Hp → Prop) (Fn : List V → Hp → Prop) (n : Nat) (ip : List (Addr × Obj)) (σg : L2.St) (Hg : Hp) : GenState → Prop
  | .fresh c => ∀ ix' H' s', KeepP Hg H' → Inv (G.X ix') ip σg H' s' → Go (model G.P G.w) G.A (Fi G It Fn n ix') c ((model G.P G.w).den c) [] s'
  | .suspended k _ c _ fs _ => ∀ ix' H' s', KeepP Hg H' → Inv (G.X ix') ip σg H' s' → Go (model G.P G.w) G.A (Fi G It Fn n ix') c (k (.send .none)) fs s'
  | _ => False
/-- it ended -/
def FEnd (G : Gp) (Fn : List V → Hp → Prop) (n : Nat) (ix : Ix) (h : Heap) (s₁ : Shared) : Prop := ∃ ys ip σ H, n + ys.length = sizeLine ∧ Inv (G.X ix) ip σ H s₁ ∧ Fn ys H ∧ NoRes h s₁.heap
/-- it handed v out -/
def FOut (G : Gp) (It : List V → V → Hp → Prop) (Fn : List V → Hp → Prop) (n : Nat) (ix : Ix) (s : Shared) (v : Value) (s₁ : Shared) (gs : GenState) : Prop :=
  gs.bare = true ∧ gSlp gs = true ∧ s.gens.size ≤ s₁.gens.size ∧ ∃ m ys x ip σ H, n = m + 1 ∧ n + ys.length = sizeLine ∧ RelV x v ∧ Inv (G.X ix) ip σ H s₁ ∧ (∀ p ∈ ip, G.env.locals ≤ p.1) ∧ It ys x H ∧ NoRes s.heap s₁.heap ∧ Goes3 G It Fn m ip σ H gs
theorem resume3 {G : Gp} {It : List V → V → Hp → Prop} {Fn : List V → Hp → Prop} {n : Nat} {ip : List (Addr × Obj)} {σg : L2.St} {Hg H' : Hp} {ix : Ix} {E : Value → Shared → Prop} {s : Shared} {gi : Nat} {gs : GenState} {l : List Value} {α : Type} {k : GenResult → Sem α} {Q : α → Shared → Prop}
    (hg : s.gens[gi]? = some gs) (hgo : Goes3 G It Fn n ip σg Hg gs) (kp : KeepP Hg H') (I : Inv (G.X ix) ip σg H' (s.setGen gi .running))
    (hR : ∀ s₁, FEnd G Fn n ix s.heap s₁ → wpAny (model G.P G.w) G.A (k (.returned .none)) Q E (s₁.setGen gi .finished))
    (hY : ∀ v s₁ gs', FOut G It Fn n ix s v s₁ gs' → wpAny (model G.P G.w) G.A (k (.yielded v)) Q E (s₁.setGen gi gs')) :
    wpAny (model G.P G.w) G.A (.resume gi (.send .none) l k) Q E s := by
  intro Γ p hΓ
  rw [Sem.wp_resume]
  have hB : ∀ c, (Γ.wake c p).Woken G.A := fun c => hΓ.wake c p
  have fin : ∀ (e₁ : End) (s₁ : Shared), NoRes s.heap s₁.heap → s.gens.size ≤ s₁.gens.size → Fi G It Fn n ix e₁ s₁ → e₁.quiet = true ∧ Sem.wp (model G.P G.w) Γ (k e₁.result) (fun a _ s' => Q a s') (fun e _ s' => E e s') p (s₁.setGen gi e₁.genState) := by
    intro e₁ s₁ nr gz he
    cases e₁ with
    | ret x =>
      refine ⟨rfl, ?_⟩
      have he' : (x = .ok (.ret .none) ∨ x = .ok .next) ∧ ∃ ys ip σ H, n + ys.length = sizeLine ∧ Inv (G.X ix) ip σ H s₁ ∧ Fn ys H := by
        cases n with
        | zero => exact he
        | succ m => exact he
      obtain ⟨hx, ys, ip', σ', H2, h1, h2, h3⟩ := he'
      have e : (End.ret x).result = .returned .none := by rcases hx with rfl | rfl <;> rfl
      rw [e]
      exact hR s₁ ⟨ys, ip', σ', H2, h1, h2, h3, nr⟩ Γ p hΓ
    | susp v g l k' c' p' fs' =>
      cases n with
      | zero => exact he.elim
      | succ m =>
        obtain ⟨q, ys, x, ip', σ', H2, h1, h2, h3, h4, h5, h6⟩ := he
        exact ⟨q, hY v s₁ _ ⟨End.bare_of_quiet q, rfl, gz, m, ys, x, ip', σ', H2, rfl, h1, h2, h3, h4, h5, nr, h6⟩ Γ p hΓ⟩
  cases gs with
  | fresh c =>
    obtain ⟨e₁, s₁, hr, he⟩ := hgo ix H' (s.setGen gi .running) kp I (Γ.wake c p) p rfl (hB c)
    obtain ⟨q1, q2⟩ := fin e₁ s₁ (show NoRes s.heap s₁.heap from runs_noRes (s := s.setGen gi .running) hr) (by have := GenW.runs_gsz hr; rw [GenW.setGen_size] at this; exact this) he
    exact ⟨_, _, by unfold Wakes; rw [hg]; exact ⟨e₁, s₁, hr, q1, rfl, rfl⟩, q2⟩
  | suspended k₀ l₀ c₀ p₀ fs₀ cl =>
    obtain ⟨e₁, s₁, hr, he⟩ := hgo ix H' (s.setGen gi .running) kp I (Γ.wake c₀ p) p₀ rfl (hB c₀)
    obtain ⟨q1, q2⟩ := fin e₁ s₁ (show NoRes s.heap s₁.heap from runs_noRes (s := s.setGen gi .running) hr) (by have := GenW.runs_gsz hr; rw [GenW.setGen_size] at this; exact this) he
    exact ⟨_, _, by unfold Wakes; rw [hg]; exact ⟨e₁, s₁, hr, q1, rfl, rfl⟩, q2⟩
  | running => exact hgo.elim
  | finished => exact hgo.elim
theorem next3 {G : Gp} {A : Around} {It : List V → V → Hp → Prop} {Fn : List V → Hp → Prop} {n : Nat} {ip : List (Addr × Obj)} {σg : L2.St} {Hg H' : Hp} {ix : Ix} {E : Value → Shared → Prop} {s : Shared} {a : Addr} {gi : Nat} {gs : GenState} {Q : Option Value → Shared → Prop}
    (hA : G.A = A.in1) (hh : A.handled = none) (hl : s.heap.NoLimit) (hroom : A.depth < recursionLimit) (ha : s.heap.IsGen a gi) (hg : s.gens[gi]? = some gs) (hgo : Goes3 G It Fn n ip σg Hg gs) (kp : KeepP Hg H') (I : Inv (G.X ix) ip σg H' (s.setGen gi .running))
    (hR : ∀ s₁, FEnd G Fn n ix s.heap s₁ → ∀ h', (∀ b o, s₁.heap.get? b = some o → h'.get? b = some o) → Q none { s₁.setGen gi .finished with heap := h' })
    (hY : ∀ v s₁ gs', FOut G It Fn n ix s v s₁ gs' → Q (some v) (s₁.setGen gi gs')) :
    wpAny (model G.P G.w) A (pyNext (.ref a)) Q E s := by
  unfold pyNext
  refine wpAny_bind (wpAny_attempt ?_)
  refine wpAny_callSpecial?_slot (name := Str.ofString "__next__") ha.typeIs slot_gen_next ?_
  refine wpAny_call_entry slot_gen_next ha.typeIs entry_gen_next ?_ (args_gen_next _)
  show wpAny _ A.in1 (Builtin.Generator.genWake (.ref a) (.send .none)) _ _ s
  unfold Builtin.Generator.genWake
  refine wpAny_bind (wpAny_holding (wpAny_genNumber ha (wpAny_bind (wpAny_genState hg ?_))))
  cases gs with
  | running => exact hgo.elim
  | finished => exact hgo.elim
  | _ =>
    refine wpAny_bind (wpAny_roomToWake hl hroom ?_)
    show wpAny _ A.in1 (.resume gi (.send .none) [] _) _ _ s
    rw [← hA]
    refine resume3 hg hgo kp I (fun s₁ hx => ?_) fun v s₁ gs' hv => ?_
    · show wpAny _ G.A (newExc (.type "StopIteration") [] >>= _) _ _ _
      refine wpAny_bind ?_
      simp only [newExc, newTuple]
      refine wpAny_bind (wpAny_newObj_type ?_ (by size_fits))
      refine wpAny_bind (m := firstArgMember _ _) (wpAny_of_eq (a := Value.none) (by first | rfl | (simp only [firstArgMember]; rfl)) ?_)
      refine wpAny_newObj_type ?_ (by size_fits)
      simp only [raiseNew]
      refine wpAny_bind (wpAny_bind (wpAny_handled ?_))
      rw [hA, show A.in1.handled = none from hh]
      refine wpAny_throw ?_
      refine wpAny_bind (wpAny_isInstance (T := "StopIteration") (b := true) ⟨_, Heap.get?_push_size _ rfl, rfl⟩ isSubtype_stop ?_)
      exact wpAny_pure (hR s₁ hx _ fun b o hb => Heap.get?_push_of_some _ (Heap.get?_push_of_some _ hb))
    · exact wpAny_pure ⟨v, rfl, wpAny_pure (hY v s₁ gs' hv)⟩
/-! ### a generator def, by its body -/
def shr (H : Hp) : Hp := fun b => match H b with
  | some (.tup xs) => some (.tup xs)
  | _ => none
theorem shr_tup {H : Hp} {b : Addr} {xs : List V} (e : H b = some (.tup xs)) : shr H b = some (.tup xs) := by
  unfold shr
  rw [e]
theorem shr_none {H : Hp} {b : Addr} (e : H b = none) : shr H b = none := by
  unfold shr
  rw [e]
theorem shr_of {H : Hp} {b : Addr} {u : HO} (e : shr H b = some u) : ∃ xs, u = .tup xs ∧ H b = some (.tup xs) := by
  unfold shr at e
  cases q : H b with
  | none => rw [q] at e; cases e
  | some v =>
    rw [q] at e
    cases v with
    | tup xs => cases e; exact ⟨xs, rfl, rfl⟩
    | _ => cases e
theorem go_func {M : Program × World} {A : Around} {F : End → Shared → Prop} {fs : List Frame} {s : Shared} {env : Env} {body : List Stmt}
    (h : Go (model M.1 M.2) A F (.func body env) ((execs body env).wrap (fun f => .pure (.done (.ret (match f with | .ret v => v | _ => .none)))) (fun e => (leaving env e).wrap (fun _ => .raise e) .raise id id) id id) fs s) :
    Go (model M.1 M.2) A F (.func body env) ((model M.1 M.2).den (.func body env)) fs s := by
  show Go _ A F _ (.point [] fun _ => ((execs body env).onRaise (leaving env)) >>= _) fs s
  refine go_point ?_
  rw [Sem.onRaise_eq_wrap]
  rw [Sem.bind_eq_wrap']
  rw [Sem.wrap_wrap]
  rw [Sem.wrap_congr (execs body env) _ _ (K' := fun f => .pure (.done (.ret (match f with | .ret v => v | _ => .none)))) (H' := fun e => (leaving env e).wrap (fun _ => .raise e) .raise id id)
    (fun f => by cases f <;> rfl) fun e => by rw [Sem.bind_eq_wrap, Sem.wrap_wrap]; rfl]
  exact h
abbrev SpG3 := List V → Hp → (List V → V → Hp → Prop) → (List V → Hp → Prop) → Prop
/-- what a call of a generator def gives -/
def Made3 (P : Program) (w : World) (K : PySem.W.Frag) (mg : Str → Option Value) (base : Heap) (k : Nat) (outer : List Env) (H : Hp) (s : Shared) (It : List V → V → Hp → Prop) (Fn : List V → Hp → Prop) (u : Value) (s' : Shared) : Prop :=
  ∃ (a : Addr) (g : Nat) (c : Code) (go : Obj) (N : List Str) (env : Env) (σg : L2.St), u = .ref a ∧ s'.heap.get? a = some go ∧ (∀ h : Heap, h.get? a = some go → h.IsGen a g) ∧ cellB go = false ∧ s'.gens[g]? = some (.fresh c) ∧ s'.os = s.os ∧ AllBare s'.gens ∧
    (∀ b o, s.heap.get? b = some o → s'.heap.get? b = some o) ∧ env.locals = s.heap.objs.size ∧ env.cells = [] ∧ env.locals < a ∧
    ∀ Aw : Around, Room k Aw → Aw.frames = some outer → (∃ ix : Ix, ix.s0.heap.objs.size = s.heap.objs.size ∧ Inv (Gp.X ⟨P, w, K, mg, base, N, env, Aw, outer⟩ ix) [] σg (shr H) s') ∧
      Goes3 ⟨P, w, K, mg, base, N, env, Aw, outer⟩ It Fn sizeLine [] σg (shr H) (.fresh c)
structure GFn3 (P : Program) (w : World) (K : PySem.W.Frag) (mg : Str → Option Value) (base : Heap) (k : Nat) (f : Addr) (fd : FuncData) (ps : List Str) (sp : SpG3) : Prop where
  len : ∀ vs H It Fn, sp vs H It Fn → vs.length = ps.length
  run : ∀ (A : Around) (outer : List Env) (s : Shared) (H : Hp) (args : Args) (us : List Value) (vs : List V) (It : List V → V → Hp → Prop) (Fn : List V → Hp → Prop), Room k A → Env0 P w K mg base A outer s H → BindsTo s fd args (ps.zip us) → Vals vs us → sp vs (shr H) It Fn →
    codeAny (model P w) A (.call (.ref f) args) (fun r s' => match r with | .ok (.ret u) => Made3 P w K mg base k outer H s It Fn u s' | _ => False) s
theorem gfn3_of {P : Program} {w : World} {K : PySem.W.Frag} {mg : Str → Option Value} {base : Heap} {k : Nat} {f : Addr} {name qual : Str} {params : Arguments} {body : List Stmt} {scope : Scope} {dV kV doc pm cdv ct oc : Value} {an od : Option Addr}
    {osl : Array (Option Value)} {N ps : List Str} {sp : SpG3} (lk : K.lookup f = some ⟨oc, od, .func (PySem.W.fnOf name qual params body scope dV kV doc pm an cdv ct), osl⟩) (hcd : PySem.W.codeIn K cdv qual = true) (S : GScope N ps scope) (nc : ∀ n, cellsFrom n scope.names [] = [])
    (len : ∀ vs H It Fn, sp vs H It Fn → vs.length = ps.length)
    (hbody : ∀ (Aw : Around) (outer : List Env) (L : Addr) (vs : List V) (Hs : Hp) (It : List V → V → Hp → Prop) (Fn : List V → Hp → Prop), Room k (Aw.deeper (envOfC qual scope L f cdv)) → sp vs Hs It Fn →
      ∃ t, GSs3 ⟨P, w, K, mg, base, N, envOfC qual scope L f cdv, Aw, outer⟩ It body t ∧ ∀ H', KeepP Hs H' → t { nx := fun ys _ H' => Fn ys H', rt := fun ys v H' => v = .non ∧ Fn ys H' } [] (start N vs) H') :
    GFn3 P w K mg base (k + 1) f (PySem.W.fnOf name qual params body scope dV kV doc pm an cdv ct) ps sp := by
  refine ⟨len, fun A outer s H args us vs It Fn hr e0 hb r hsp => ?_⟩
  have hl := len _ _ _ _ hsp
  have KX : K.In s.heap := e0.mod.kin.keeps fun b o e => (e0.bs b o e).1
  have lim : s.heap.NoLimit := e0.mod.nolimit.keeps fun b o e => (e0.bs b o e).1
  have hkind : ∀ y ∈ ps.zip us, scope.names.lookup y.1 = some .local ∨ (scope.names.lookup y.1 = some .cell ∧ ((cellsFrom (s.heap.objs.size + 1) scope.names []).lookup y.1).isSome = true) := fun y hy => by
    obtain ⟨n, v⟩ := y
    rcases S.par n (List.of_mem_zip hy).1 with q | q
    · exact .inl q
    · exact .inr ⟨q, PySem.W.cellsFrom_some _ _ _ (.inl q)⟩
  refine codeAny_call_generator hr.depth (KX _ _ lk) rfl S.co S.gen rfl (PySem.W.codeRec_of KX hcd) (hb _ _ _ _ ?_)
  refine wpAny_newFunctionEnv_cells S.kind hkind fun env he s1 x => ?_
  subst he
  refine ⟨lim.keeps x.toInCall.keep, ?_⟩
  obtain ⟨h1, tk, es1, hk1⟩ := x.done
  have gen1 : s1.gens = s.gens := by rw [es1]
  have lt1 : s.heap.objs.size < s1.heap.objs.size := x.toInCall.ns.lt
  have main : ∀ (go : Obj) (nm qn : Value) (tk2 : Nat), go.cls = .type "generator" → go.data = .fields #[.int s1.gens.size 0, nm, qn] → go.slots = #[] → (∀ h : Heap, (h.push go).get? h.objs.size = some go) →
      Made3 P w K mg base (k + 1) outer H s It Fn (.ref s1.heap.objs.size) { s1 with gens := s1.gens.push (.fresh (.func body (envOfC qual scope s.heap.objs.size f cdv))), toks := tk2, heap := s1.heap.push go } := by
    intro go nm qn tk2 g1 g2 g3 g4
    have kp : ∀ b o, s1.heap.get? b = some o → (s1.heap.push go).get? b = some o := fun b o e => Heap.get?_push_of_some _ e
    refine ⟨s1.heap.objs.size, s1.gens.size, _, go, N, envOfC qual scope s.heap.objs.size f cdv, start N vs, rfl, g4 _, fun h e => ⟨go, nm, qn, e, g1, g2, g3⟩, ?_, Array.getElem?_push_size .., by rw [es1], ?_, fun b o e => kp b o (x.toInCall.keep b o e), rfl, nc _, lt1, fun Aw hrw hfr => ?_⟩
    · exact cellB_yes fun v z => by rw [g2] at z; cases z
    · exact AllBare.push (by rw [gen1]; exact e0.bare) rfl
    have e0w : Env0 P w K mg base Aw outer s H := ⟨hfr, e0.mod, e0.bs, e0.bsz, e0.funs, e0.frf, e0.hok, e0.bare⟩
    have I1 : Inv (gcxOf P w K mg base N qual scope f cdv Aw outer s H (fun _ _ _ => False) []) [] (start N vs) H s1 := inv_startG S hrw.hd e0w hl r x
    refine ⟨⟨⟨s, shr H, []⟩, rfl, ?_⟩, fun ix' H' s' kP I => ?_⟩
    · have cl : (envOfC qual scope s.heap.objs.size f cdv).cells = [] := nc _
      refine ⟨⟨I1.ok.mod, I1.ok.kind, I1.ok.glob, I1.ok.blt, I1.ok.above, I1.ok.inj, I1.ok.has, fun y c _ h => I1.ok.cab y c rfl h, I1.ok.hd, I1.ok.frames, I1.ok.stk, I1.ok.exf, fun b o e => ?_, I1.ok.bsz, I1.ok.noex, I1.ok.exfs, I1.ok.funs, fun b hb => shr_none (I1.ok.frf b hb)⟩,
        (by show s1.os = s.os; rw [es1]), AllBare.push (by rw [gen1]; exact e0.bare) rfl, Un.kept fun b u e => kp b u (x.toInCall.keep b u e), ?_, fun y c e => ?_, shr_none I1.free, fun y c e => ?_, fun p hp => ?_, fun b u e => ?_, I1.len⟩
      · obtain ⟨q1, q2⟩ := I1.ok.bs b o e
        exact ⟨q1, shr_none q2⟩
      · obtain ⟨m, ⟨o, es, ep, ho, rr⟩, hl'⟩ := I1.loc
        refine ⟨m, ⟨o, es, ep, kp _ _ ho, rr⟩, fun i y v a b c => ?_⟩
        obtain ⟨u, ru, lk'⟩ := hl' i y v a b c
        refine ⟨u, ru, ?_⟩
        rcases lk' with q | ⟨_, c', q, _⟩
        · exact .inl q
        · have q : (envOfC qual scope s.heap.objs.size f cdv).cells.lookup y = some c' := q
          rw [cl] at q; cases q
      · have e : (envOfC qual scope s.heap.objs.size f cdv).cells.lookup y = some c := e
        rw [cl] at e; cases e
      · have e : (envOfC qual scope s.heap.objs.size f cdv).cells.lookup y = some c := e
        rw [cl] at e; cases e
      · exact absurd (show p ∈ ([] : List (Addr × Obj)) from hp) (by simp)
      · obtain ⟨xs, rfl, e2⟩ := shr_of e
        exact plain_stay (u := .tup xs) rfl (I1.hok b _ e2) fun o z => kp b o z
    · obtain ⟨t, ht, hq⟩ := hbody Aw outer s.heap.objs.size vs (shr H) It Fn (hrw.deeper _) hsp
      refine go_func (M := (P, w)) ?_
      refine ht.run Fn sizeLine [] ix' [] _ [] _ _ id id s' (start N vs) H' _ ⟨fun p hp => by simp at hp, GenW.over_func, rfl, rfl, rfl⟩ (Nat.add_zero _) (fun n ys ix2 s2 fl hn q => ?_) I (hq H' kP)
      cases fl with
      | next =>
        obtain ⟨σ2, H2, I2, q2⟩ := q
        exact go_end (.ok (.ret .none)) (fi_end (.inl rfl) hn I2 q2)
      | brk => obtain ⟨_, _, _, q2⟩ := q; exact q2.elim
      | cont => obtain ⟨_, _, _, q2⟩ := q; exact q2.elim
      | ret u =>
        obtain ⟨v, σ2, H2, I2, rv, ev, q2⟩ := q
        subst ev
        have eu : u = Value.none := rv
        subst eu
        exact go_end (.ok (.ret .none)) (fi_end (.inl rfl) hn I2 q2)
  exact main _ _ _ _ rfl rfl rfl fun h => Heap.get?_push_size _ rfl
/-! ### who walks a generator -/
def gpOf (X : Cx) (Aw : Around) (N : List Str) (env : Env) : Gp := ⟨X.prog, X.w, X.K, X.mg, X.base, N, env, Aw, X.stack⟩
/-- the generator at a sleeps; n more may come -/
structure Snz (X : Cx) (Aw : Around) (N : List Str) (env : Env) (It : List V → V → Hp → Prop) (Fn : List V → Hp → Prop) (a : Addr) (gi : Nat) (go : Obj) (n : Nat) (own : List Addr) (ip : List (Addr × Obj)) (σg : L2.St) (Hg H : Hp) (gs : GenState) (h : Heap) : Prop where
  slp : Slp (gpOf X Aw N env) env.locals own ip σg Hg H h
  goes : Goes3 (gpOf X Aw N env) It Fn n ip σg Hg gs
  at_ : h.get? a = some go
  no : a ∉ own
/-- what stays through a walk -/
structure Gst (X : Cx) (pins : List (Addr × Obj)) (N : List Str) (env : Env) (a : Addr) (gi : Nat) (go : Obj) : Prop where
  fit : ∀ Aw, Fit X (gpOf X Aw N env) env.locals pins
  gen : ∀ h : Heap, h.get? a = some go → h.IsGen a gi
  cell : cellB go = false
  up : env.locals < a
abbrev TGen3 := L2.St → Hp → ((List V → V → Hp → Prop) → (List V → Hp → Prop) → Hp → Prop) → Prop
/-- behind the making of a generator -/
def PMade (X : Cx) (k : Nat) (pins : List (Addr × Obj)) (σ : L2.St) (cont : (List V → V → Hp → Prop) → (List V → Hp → Prop) → Hp → Prop) (u : Value) (s' : Shared) : Prop :=
  ∃ (It : List V → V → Hp → Prop) (Fn : List V → Hp → Prop) (N : List Str) (env : Env) (a : Addr) (gi : Nat) (go : Obj) (own : List Addr) (ip : List (Addr × Obj)) (σg : L2.St) (Hg H1 : Hp) (gs : GenState),
    u = .ref a ∧ Inv X pins σ H1 s' ∧ Gst X pins N env a gi go ∧ (∀ Aw, Room k Aw → Aw.frames = some X.stack → Snz X Aw N env It Fn a gi go sizeLine own ip σg Hg H1 gs s'.heap) ∧ s'.heap.get? a = some go ∧ H1 a = none ∧ s'.gens[gi]? = some gs ∧ cont It Fn H1
structure PGen3 (X : Cx) (k : Nat) (e : Expr) (tg : TGen3) : Prop where
  run : ∀ (pins : List (Addr × Obj)) (s : Shared) (σ : L2.St) (H : Hp) (cont : (List V → V → Hp → Prop) → (List V → Hp → Prop) → Hp → Prop), Inv X pins σ H s → tg σ H cont → wpAny (model X.prog X.w) X.A (eval e X.env) (PMade X k pins σ cont) X.xe s
def spins (a : Addr) (go : Obj) (own : List Addr) (H : Hp) (h : Heap) : List (Addr × Obj) := plst own H h ++ [(a, go)]
section
variable {X : Cx} {pins : List (Addr × Obj)} {σ : L2.St} {H : Hp} {s : Shared}
/-- the sleeper's things are pinned -/
theorem Inv.spin {Aw : Around} {N : List Str} {env : Env} {It : List V → V → Hp → Prop} {Fn : List V → Hp → Prop} {a : Addr} {gi n : Nat} {go : Obj} {own : List Addr} {ip : List (Addr × Obj)} {σg : L2.St} {Hg : Hp} {gs : GenState} (I : Inv X pins σ H s) (T : Gst X pins N env a gi go)
    (Z : Snz X Aw N env It Fn a gi go n own ip σg Hg H gs s.heap) (ha : H a = none) : Inv X (pins ++ spins a go own H s.heap) σ H s := by
  have up : ∀ b, env.locals ≤ b → b ≠ X.env.locals ∧ b ∉ X.fs := fun b hb => by
    refine ⟨fun z => absurd (Nat.lt_of_lt_of_le (z ▸ (T.fit Aw).loc) hb) (Nat.lt_irrefl _), fun m => ?_⟩
    have : b ∈ L2.frs X.stack := by
      rcases I.ok.stk with e | ⟨e, hf⟩
      · rw [e]; exact m
      · rw [e]
        unfold L2.frs
        rw [List.filterMap_cons, hf]
        exact List.mem_cons_of_mem _ m
    exact absurd (Nat.lt_of_lt_of_le ((T.fit Aw).frs b this) hb) (Nat.lt_irrefl _)
  refine I.pins_of fun p hp => ?_
  rcases List.mem_append.mp hp with hp | hp
  · exact I.pin p (List.mem_append_right _ hp)
  · rcases List.mem_append.mp hp with hp | hp
    · obtain ⟨m, n1, e⟩ := of_plst hp
      obtain ⟨h1, ⟨o, ho, hc⟩, _⟩ := Z.slp.ow p.1 m
      rw [e] at ho
      cases ho
      exact ⟨e, n1, (up _ h1).1, (up _ h1).2, cellB_no hc⟩
    · rw [List.mem_singleton.mp hp]
      exact ⟨Z.at_, ha, (up _ (Nat.le_of_lt T.up)).1, (up _ (Nat.le_of_lt T.up)).2, cellB_no T.cell⟩
/-- f(..) of a generator def -/
theorem made_pm {k : Nat} {It : List V → V → Hp → Prop} {Fn : List V → Hp → Prop} {u : Value} {s' : Shared} {cont : (List V → V → Hp → Prop) → (List V → Hp → Prop) → Hp → Prop} (I : Inv X pins σ H s) (h : Made3 X.prog X.w X.K X.mg X.base k X.stack H s It Fn u s') (hc : cont It Fn H) : PMade X k pins σ cont u s' := by
  obtain ⟨a, gi, c, go, N, env, σg, rfl, ha, hgen, hcell, hg, hos, hba, kp, hL, hcl, hLa, h⟩ := h
  have I' : Inv X pins σ H s' := I.call' (ch := []) hos (Un.kept kp) (I.hok.kept kp) hba fun b z => by simp at z
  have lt : ∀ b o, s.heap.get? b = some o → b < env.locals := fun b o e => by rw [hL]; exact Heap.lt_size e
  have fr : ∀ b, env.locals ≤ b → H b = none := fun b hb => I.hok.fresh (by rw [← hL]; exact hb)
  have F : ∀ Aw, Fit X (gpOf X Aw N env) env.locals pins := fun Aw => by
    refine ⟨rfl, rfl, rfl, rfl, by rw [hL]; exact I.sz, by rw [hL]; exact I.lt, fun x c e => ?_, fun b hb => ?_, fun p hp => lt _ _ (I.pin p hp).1⟩
    · obtain ⟨v, o, ho, _⟩ := I.cell x c e
      exact lt _ _ ho
    · obtain ⟨_, o, ho, _⟩ := I.stack.mem hb
      exact lt _ _ ho
  refine ⟨It, Fn, N, env, a, gi, go, [env.locals], [], σg, shr H, H, _, rfl, I', ⟨F, hgen, hcell, hLa⟩, fun Aw hr hf => ?_, ha, fr a (Nat.le_of_lt hLa), hg, hc⟩
  obtain ⟨⟨ix, hix, J⟩, goes⟩ := h Aw hr hf
  obtain ⟨m, ⟨oL, es, ep, hoL, hdL, _⟩, _⟩ := id J.loc
  have hoL : s'.heap.get? env.locals = some oL := hoL
  refine ⟨⟨⟨ix, s', by rw [hL]; exact hix, J, fun _ _ _ => rfl⟩, fun b hb u e => ?_, fun b hb => ?_, fun b u hb p e => ?_, fun b xs hb e => ?_, List.mem_singleton.mpr rfl, fun p hp => by simp at hp, hcl⟩, goes, ha, fun z => ?_⟩
  · obtain ⟨xs, rfl, e2⟩ := shr_of e
    exact ⟨xs, rfl, e2⟩
  · rw [List.mem_singleton.mp hb]
    exact ⟨Nat.le_refl _, ⟨oL, hoL, cellB_yes fun v z => by rw [hdL] at z; cases z⟩, .inl (fr _ (Nat.le_refl _))⟩
  · obtain ⟨xs, rfl, e2⟩ := shr_of e
    rw [fr b hb] at e2; cases e2
  · obtain ⟨ys, e1, e2⟩ := shr_of e
    rw [fr b hb] at e2; cases e2
  · rw [List.mem_singleton.mp z] at hLa
    exact absurd hLa (Nat.lt_irrefl _)
theorem pgen3 {k : Nat} {sp : SpG3} {f : Addr} {fd : FuncData} {ps : List Str} {ds : List Value} {dvs : List V} {x : Str} {p pos' : Pos} {e : Expr} {es : List Expr} {t : TA} (F : GFn3 X.prog X.w X.K X.mg X.base k f fd ps sp) (hr : Room k X.A) (hg : Gl X x) (hm : X.mg x = some (.ref f))
    (hk : PySem.W.keepIn X.K (.ref f) = true) (hb : Binds X.K fd ps ds) (hd : Vals dvs ds) (ha : PA X (e :: es) t) (hdb : (x == ("__debug__" : Str)) = false := by decide) (he : starEach (e :: es) X.env = (false, eval e X.env) :: starEach es X.env := by rfl) (hpl : (backTo pos' (starEach es X.env)).any (·.1) = false := by rfl) :
    PGen3 X k (.Call (.Name x p) (e :: es) [] pos') (fun σ H cont => t σ H fun vs H1 => ∃ It Fn, sp (vs ++ dvs) (shr H1) It Fn ∧ cont It Fn H1) := by
  refine ⟨fun pins s σ H cont I h => ?_⟩
  refine wpAny_Call_Name_kw (ld_glob I hg hm ?_ hdb)
  refine PySem.W.callWith_K (h₀ := X.base) I.ok.mod.kin hk (thn (ha.run pos' pins s σ H _ I h) fun us s1 ⟨vs, H1, I1, r, q⟩ => ⟨I1.kIn, ?_⟩) he hpl
  obtain ⟨It, Fn, q1, q2⟩ := q
  have r2 : Vals (vs ++ dvs) (us ++ ds) := r.append hd
  have hl2 : (us ++ ds).length = ps.length := by rw [← r2.length]; exact F.len _ _ _ _ q1
  refine wpAny_call (codeAny_mono (F.run X.A X.stack s1 H1 ⟨us, []⟩ (us ++ ds) (vs ++ dvs) It Fn hr I1.env0 (hb s1 us I1.kIn hl2) r2 q1) fun r s' hq => ?_)
  cases r with
  | error e => exact False.elim hq
  | ok fl =>
    cases fl with
    | ret u => exact made_pm I1 hq q2
    | next => exact False.elim hq
    | brk => exact False.elim hq
    | cont => exact False.elim hq
/-! for x in generator -/
def tFor3 (tg : TGen3) (g : TG) (tb : TS) : TS := fun D σ H => tg σ H fun It Fn H1 => ∃ W : Nat → L2.St → Hp → Prop, W 0 σ H1 ∧ ∀ j σ H2, W j σ H2 →
  (∀ ys Hg H3, ys.length = j → Fn ys Hg → KeepU Hg H3 → Same H2 H3 → D.nx σ H3) ∧
  ∀ ys x Hg H3, ys.length = j → j < sizeLine → It ys x Hg → KeepU Hg H3 → Same H2 H3 → g x σ H3 fun σ4 H4 => tb { D with nx := fun σ' H' => KeepU H3 H' ∧ W (j + 1) σ' H', ct := fun σ' H' => KeepU H3 H' ∧ W (j + 1) σ' H', bk := D.nx } σ4 H4
theorem mrg_same (n0 : Nat) (H Hg : Hp) : Same H (mrg n0 H Hg) := fun _ _ e => mrg_some e
theorem setGen_eq (s : Shared) (g : Nat) (x : GenState) : s.setGen g x = wg s (s.gens.setIfInBounds g x) := rfl
theorem ps_for3 {tg iter : Expr} {body : List Stmt} {wi : TGen3} {g : TG} {tb : TS} {pos : Pos} {k : Nat} (hp : PassesOwn (model X.prog X.w) X.A X.env X.xe) (hx : XeOk X) (hr : Room (k + 1) X.A) (hi : PGen3 X k iter wi) (hg : PG X tg g) (hb : PSs X body tb)
    (hs : ∀ x, foldedSetIterable iter X.env x = pure x := by intro _; rfl) : PS X (.For tg iter body [] pos) (tFor3 wi g tb) := by
  refine ⟨fun pins s σ H D I h => ?_⟩
  refine wpAny_For (thn (hi.run pins s σ H _ I h) fun v s1 h1 => ?_) hs
  obtain ⟨It, Fn, N, env, a, gi, go, own, ip, σg, Hg, H1, gs, rfl, I1, T, Z0, hat, ha, hgi, W, w0, turn⟩ := h1
  have Z := Z0 X.A.in1 hr.in1 (by show X.A.frames = _; exact I1.ok.frames)
  refine wpAny_pyIter_gen (T.gen _ Z.at_) ?_
  refine codeAny_forLoop_any (fun n s' => ∃ (j : Nat) (σ' : L2.St) (H' : Hp) (own : List Addr) (ip : List (Addr × Obj)) (σg : L2.St) (Hg Hs : Hp) (hs : Heap) (gs : GenState), n + j = sizeLine ∧ Snz X X.A.in1 N env It Fn a gi go n own ip σg Hg Hs gs hs ∧ Inv X (pins ++ spins a go own Hs hs) σ' H' s' ∧ KeepU Hs H' ∧
      s'.gens[gi]? = some gs ∧ W j σ' H') ?_ sizeLine ⟨0, σ, H1, own, ip, σg, Hg, H1, s1.heap, gs, rfl, Z, Inv.spin I1 T Z ha, fun _ _ e => e, hgi, w0⟩
  rintro n s3 ⟨j, σ3, H3, own, ip, σg, Hg, Hs, hs', gs, hn, Z, I3, kt, hg3, w3⟩
  have I3' : Inv X (pins ++ plst own Hs hs') σ3 H3 s3 := I3.pins_of fun p hp => I3.pin p (List.mem_append_right _ (by
    rcases List.mem_append.mp hp with hp | hp
    · exact List.mem_append_left _ hp
    · exact List.mem_append_right _ (List.mem_append_left _ hp)))
  have Ip : Inv X pins σ3 H3 s3 := I3.unpinned
  have hgo3 := I3.pin (a, go) (List.mem_append_right _ (List.mem_append_right _ (List.mem_append_right _ (List.mem_singleton.mpr rfl))))
  have R := Z.slp.wake (T.fit X.A.in1) I3' kt
  have bare3 := Ip.bare
  obtain ⟨t1, t2⟩ := turn j σ3 H3 w3
  refine next3 (G := gpOf X X.A.in1 N env) (ix := ixOf env.locals own Hg s3) rfl hr.hd Ip.nolimit (by have := hr.dp; omega) (T.gen _ hgo3.1) hg3 Z.goes R.keep (inv_wg R.inv (allBare_setGen bare3 rfl)) (fun s₁ hx1 h' hk => ?_) fun v s₁ gs' hv => ?_
  · obtain ⟨ys, ip', σ', H', hl, J, q, nr⟩ := hx1
    have J0 : Inv ((gpOf X X.A.in1 N env).X (ixOf env.locals own Hg s3)) [] σ' H' s₁ := J.pins_of fun p hp => by simp at hp
    obtain ⟨K1, _, K3, _⟩ := R.slept (T.fit X.A.in1) Ip J0 (fun p hp => by simp at hp) nr
    have K2 : Inv X pins σ3 (mrg env.locals H3 H') { s₁.setGen gi .finished with heap := h' } := (inv_wg K1 (allBare_setGen K1.bare rfl)).kept (t' := s₁.toks) hk
    exact wpAny_execs_nil ⟨σ3, _, K2, t1 ys H' _ (by omega) q K3 (mrg_same _ _ _)⟩
  · obtain ⟨hb1, hsl, gz, m, ys, x, ip', σ', H', rfl, hl, rv, J, hip, q, nr, goes⟩ := hv
    obtain ⟨K1, Z', K3, K4⟩ := R.slept (T.fit X.A.in1) Ip J hip nr
    have hgo4 : s₁.heap.get? a = some go := K4 a (Nat.le_of_lt T.up) Z.no go hgo3.1
    have hno : a ∉ ownOf env.locals own s3.heap s₁.heap := fun mm => by
      obtain ⟨_, h2, _⟩ := mem_ownOf.mp mm
      rcases h2 with h2 | h2
      · exact Z.no h2
      · exact absurd (Nat.lt_of_lt_of_le (Heap.lt_size hgo3.1) h2) (Nat.lt_irrefl _)
    have ha4 : mrg env.locals H3 H' a = none := by
      refine mrg_no hgo3.2.1 (.inr fun xs z => hno ?_)
      obtain ⟨o, ho, hc⟩ := plain_cell (u := .tup xs) rfl (J.hok a _ z)
      exact Z'.pl a _ (Nat.le_of_lt T.up) rfl z
    have Zn : Snz X X.A.in1 N env It Fn a gi go m (ownOf env.locals own s3.heap s₁.heap) ip' σ' H' (mrg env.locals H3 H') gs' s₁.heap := ⟨Z', goes, hgo4, hno⟩
    have bare4 : AllBare (s₁.setGen gi gs').gens := allBare_setGen K1.bare hb1
    have K5 : Inv X (pins ++ spins a go (ownOf env.locals own s3.heap s₁.heap) (mrg env.locals H3 H') s₁.heap) σ3 (mrg env.locals H3 H') (s₁.setGen gi gs') := inv_wg (Inv.spin K1 T Zn ha4) bare4
    obtain ⟨og, nm, qn, hog, hcl, hdt, _⟩ := T.gen _ hgo4
    rw [hgo4] at hog
    cases hog
    have hgg : (s₁.setGen gi gs').gens[gi]? = some gs' := setGen_at (Nat.lt_of_lt_of_le (Array.getElem?_eq_some_iff.mp hg3).1 gz)
    refine go_of (s := s₁.setGen gi gs') (n := "generator") hgo4 hcl hdt (by decide) ?_
    refine wpAny_passesOwn hp (thn (pg_sleep hx hg K5 rv (t2 ys x H' _ (by omega) (by omega) q K3 (mrg_same _ _ _))) fun _ s6 q6 => ?_)
    obtain ⟨σ6, H6, I6, q6, sl6⟩ := q6
    refine wpAny_passesOwn hp (thn (pss_sleep hx hb I6 q6) fun f s7 q7 => ?_)
    obtain ⟨q7, sl7⟩ := q7
    have asleep := sl7 gi gs' (sl6 gi gs' hgg hsl) hsl
    cases f with
    | next =>
      obtain ⟨σ7, H7, I7, n1, n2⟩ := q7
      exact ⟨m, Nat.lt_succ_self _, j + 1, σ7, H7, _, ip', σ', H', _, s₁.heap, gs', by omega, Zn, I7, n1, asleep, n2⟩
    | cont =>
      obtain ⟨σ7, H7, I7, n1, n2⟩ := q7
      exact ⟨m, Nat.lt_succ_self _, j + 1, σ7, H7, _, ip', σ', H', _, s₁.heap, gs', by omega, Zn, I7, n1, asleep, n2⟩
    | brk => obtain ⟨σ7, H7, I7, q8⟩ := q7; exact ⟨σ7, H7, I7.unpinned, q8⟩
    | ret v => obtain ⟨x7, σ7, H7, I7, r7, q8⟩ := q7; exact ⟨x7, σ7, H7, I7.unpinned, r7, q8⟩
end
/-! ### list(generator) -/
def Got (It : List V → V → Hp → Prop) (H : Hp) (xs : List V) : Prop := ∀ j x, xs[j]? = some x → ∃ ys Hj, ys.length = j ∧ It ys x Hj ∧ KeepU Hj H
theorem Got.keep {It : List V → V → Hp → Prop} {H H' : Hp} {xs : List V} (g : Got It H xs) (k : KeepU H H') : Got It H' xs := fun j x e => by
  obtain ⟨ys, Hj, h1, h2, h3⟩ := g j x e
  exact ⟨ys, Hj, h1, h2, fun b zs q => k b zs (h3 b zs q)⟩
section
variable {X : Cx} {pins : List (Addr × Obj)} {σ : L2.St}
theorem keepU_of {H H' : Hp} (s : Same H H') : KeepU H H' := fun b xs e => s b _ e
/-- the list under way, tracked at its end -/
theorem Inv.closed {H : Hp} {s : Shared} {S : Addr} {acc : Array Value} {c : Nat} {out : List V} (I : Inv X pins σ H s) (hS : X.s_0.heap.objs.size ≤ S) (hL : S ≠ X.env.locals) (hc : ∀ x c, X.env.cells.lookup x = some c → c ≠ S) (hp : ∀ p ∈ X.pn ++ pins, p.1 ≠ S) (n : H S = none) (e : s.heap.get? S = some (lstObj acc c))
    (r : Vals out acc.toList) (len : out.length ≤ sizeLine) : Inv X pins σ (upd H S (.lst out)) s := by
  have lt : ∀ b o, X.s_0.heap.get? b = some o → b ≠ S := fun b o q => Nat.ne_of_lt (Nat.lt_of_lt_of_le (Heap.lt_size q) hS)
  refine ⟨I.ok, I.os, I.bare, ⟨I.base.keep, I.base.slot, fun b o q m x => ?_, I.base.there, fun b xs q => ?_, fun b o u q => ?_, fun b ps q => ?_⟩, I.loc, I.cell, ?_, fun x c q => ?_, fun p q => ?_, fun b u q => ?_, I.len⟩
  · rw [upd_ne (lt b o q)]; exact I.base.free b o q m x
  · have := I.base.tups b xs q
    rw [upd_ne (ne_of_none this n)]; exact this
  · have := I.base.frzs b o u q
    rw [upd_ne (ne_of_none this n)]; exact this
  · obtain ⟨more, this⟩ := I.base.tbls b ps q
    exact ⟨more, by rw [upd_ne (ne_of_none this n)]; exact this⟩
  · rw [upd_ne (Ne.symm hL)]; exact I.free
  · rw [upd_ne (hc x c q)]; exact I.freeC x c q
  · obtain ⟨h1, h2, h3⟩ := I.pin p q
    exact ⟨h1, by rw [upd_ne (hp p q)]; exact h2, h3⟩
  · by_cases hb : b = S
    · subst hb
      rw [upd_same] at q
      cases q
      exact ⟨len, acc.toList, c, r, by rw [e]⟩
    · rw [upd_ne hb] at q
      exact (I.hok b u q).stay (fun _ _ _ z => z) (fun d z => by rw [upd_ne (ne_of_none z n)]; exact z) fun d xs z => by rw [upd_ne (ne_of_none z n)]; exact z
theorem fill3 {k : Nat} {A : Around} {N : List Str} {env : Env} {It : List V → V → Hp → Prop} {Fn : List V → Hp → Prop} {a S : Addr} {gi : Nat} {go : Obj} {R : Result → Shared → Prop} {H0 : Hp} (hr : Room (k + 2) A) (T : Gst X pins N env a gi go) (hSL : env.locals ≤ S) (hSa : S ≠ a)
    (hend : ∀ s' H' acc c xs, Inv X pins σ H' s' → Same H0 H' → s'.heap.get? S = some (lstObj acc c) → Vals xs acc.toList → xs.length ≤ sizeLine → Got It H' xs → (∃ ys Hg, ys.length = xs.length ∧ Fn ys Hg ∧ KeepU Hg H') → H' S = none → R (.ok (.ret .none)) s') :
    ∀ (n : Nat) (s : Shared) (H : Hp) (own : List Addr) (ip : List (Addr × Obj)) (σg : L2.St) (Hg : Hp) (hs : Heap) (gs : GenState) (acc : Array Value) (c : Nat) (xs : List V), n + xs.length = sizeLine → Snz X A.in1.in1 N env It Fn a gi go n own ip σg Hg H gs hs → Inv X (pins ++ spins a go own H hs) σ H s →
      Same H0 H → s.gens[gi]? = some gs → s.heap.get? S = some (lstObj acc c) → Vals xs acc.toList → H S = none → S ∉ own → Got It H xs →
      codeAny (model X.prog X.w) A (.builtin "list.extend.loop" ⟨[.ref S, .ref a, .none], []⟩) R s := by
  intro n
  induction n using Nat.strongRecOn with
  | ind n ih =>
  intro s H own ip σg Hg hs gs acc c xs hn Z I sm hgi hS hv hSn hSo got
  have hl := hv.length
  have hl2 : acc.toList.length = acc.size := by simp
  have Ip : Inv X pins σ H s := I.unpinned
  have I3 : Inv X (pins ++ plst own H hs) σ H s := I.pins_of fun p hp => I.pin p (List.mem_append_right _ (by
    rcases List.mem_append.mp hp with hp | hp
    · exact List.mem_append_left _ hp
    · exact List.mem_append_right _ (List.mem_append_left _ hp)))
  have hgo3 := I.pin (a, go) (List.mem_append_right _ (List.mem_append_right _ (List.mem_append_right _ (List.mem_singleton.mpr rfl))))
  have R0 := Z.slp.wake (T.fit A.in1.in1) I3 fun _ _ e => e
  have r0 := hr.hd
  have r1 := hr.dp
  refine codeAny_builtin F.entry_extend_loop ?_
  rw [Around.under_plainId F.plain_extend_loop _]
  show wpAny _ A.in1 (pyNext (.ref a) >>= _) _ _ s
  refine wpAny_bind (next3 (G := gpOf X A.in1.in1 N env) (A := A.in1) (ix := ixOf env.locals own Hg s) rfl r0 Ip.nolimit (by show A.depth < _; omega) (T.gen _ hgo3.1) hgi Z.goes R0.keep (inv_wg R0.inv (allBare_setGen Ip.bare rfl)) (fun s₁ hx1 h' hk => ?_) fun v s₁ gs' hvv => ?_)
  · obtain ⟨ys, ip', σ', H', hll, J, q, nr⟩ := hx1
    have J0 : Inv ((gpOf X A.in1.in1 N env).X (ixOf env.locals own Hg s)) [] σ' H' s₁ := J.pins_of fun p hp => by simp at hp
    obtain ⟨K1, K2, K3, K4⟩ := R0.slept (T.fit A.in1.in1) Ip J0 (fun p hp => by simp at hp) nr
    have K5 : Inv X pins σ (mrg env.locals H H') { s₁.setGen gi .finished with heap := h' } := (inv_wg K1 (allBare_setGen K1.bare rfl)).kept (t' := s₁.toks) hk
    have hS2 := hk _ _ (K4 S hSL hSo _ hS)
    refine wpAny_pure (hend _ _ acc c xs K5 (fun b u e => mrg_same _ _ _ b u (sm b u e)) hS2 hv (by omega) (got.keep (keepU_of (mrg_same _ _ _))) ⟨ys, H', by omega, q, K3⟩ ?_)
    refine mrg_no hSn (.inr fun zs z => ?_)
    obtain ⟨_, h2, _⟩ := mem_ownOf.mp (K2.pl S _ hSL rfl z)
    rcases h2 with h2 | h2
    · exact hSo h2
    · exact absurd (Nat.lt_of_lt_of_le (Heap.lt_size hS) h2) (Nat.lt_irrefl _)
  · obtain ⟨hb1, hsl, gz, m, ys, x, ip', σ', H', rfl, hll, rv, J, hip, q, nr, goes⟩ := hvv
    obtain ⟨K1, Z', K3, K4⟩ := R0.slept (T.fit A.in1.in1) Ip J hip nr
    have hgo4 : s₁.heap.get? a = some go := K4 a (Nat.le_of_lt T.up) Z.no go hgo3.1
    have hS4 : s₁.heap.get? S = some (lstObj acc c) := K4 S hSL hSo _ hS
    have notOwn : ∀ b, b ∉ own → b < s.heap.objs.size → b ∉ ownOf env.locals own s.heap s₁.heap := fun b h1 h2 mm => by
      obtain ⟨_, h3, _⟩ := mem_ownOf.mp mm
      rcases h3 with h3 | h3
      · exact h1 h3
      · exact absurd (Nat.lt_of_lt_of_le h2 h3) (Nat.lt_irrefl _)
    have hno := notOwn a Z.no (Heap.lt_size hgo3.1)
    have hSo4 := notOwn S hSo (Heap.lt_size hS)
    have ha4 : mrg env.locals H H' a = none := mrg_no hgo3.2.1 (.inr fun zs z => hno (Z'.pl a _ (Nat.le_of_lt T.up) rfl z))
    have hSn4 : mrg env.locals H H' S = none := mrg_no hSn (.inr fun zs z => hSo4 (Z'.pl S _ hSL rfl z))
    have Zn : Snz X A.in1.in1 N env It Fn a gi go m (ownOf env.locals own s.heap s₁.heap) ip' σ' H' (mrg env.locals H H') gs' s₁.heap := ⟨Z', goes, hgo4, hno⟩
    have K5 : Inv X (pins ++ spins a go (ownOf env.locals own s.heap s₁.heap) (mrg env.locals H H') s₁.heap) σ (mrg env.locals H H') (s₁.setGen gi gs') := inv_wg (Inv.spin K1 T Zn ha4) (allBare_setGen K1.bare hb1)
    have hgg : (s₁.setGen gi gs').gens[gi]? = some gs' := setGen_at (Nat.lt_of_lt_of_le (Array.getElem?_eq_some_iff.mp hgi).1 gz)
    have hsz : acc.size < sizeLine := by omega
    show wpAny _ A.in1 (updateSeq S (·.push v) >>= _) _ _ _
    refine wpAny_bind ?_
    refine wpAny_updateSeq (s := s₁.setGen gi gs') hS4 rfl (wpAny_pure ⟨plainId_quiet F.plain_extend_loop _, ?_⟩) (Nat.le_of_lt hsz) (by
      show (acc.push v).size ≤ sizeLine + 1
      rw [Array.size_push]
      omega)
    have other : ∀ b o, b ≠ S → s₁.heap.get? b = some o → (s₁.heap.update S (Obj.mapSeq (·.push v))).get? b = some o := fun b o hb e => by
      rw [Heap.get?_update_other _ _ (Ne.symm hb)]
      exact e
    have hS5 : ∃ c', (s₁.heap.update S (Obj.mapSeq (·.push v))).get? S = some (lstObj (acc.push v) c') := ⟨_, Heap.get?_update_self (Obj.mapSeq (·.push v)) hS4 rfl⟩
    obtain ⟨c', hS5⟩ := hS5
    have F := T.fit A.in1.in1
    have neS : ∀ b u, mrg env.locals H H' b = some u → b ≠ S := fun b u e z => by rw [z, hSn4] at e; cases e
    have K6 : Inv X (pins ++ spins a go (ownOf env.locals own s.heap s₁.heap) (mrg env.locals H H') s₁.heap) σ (mrg env.locals H H') { s₁.setGen gi gs' with heap := s₁.heap.update S (Obj.mapSeq (·.push v)) } := by
      refine K5.call' (ch := [S]) rfl ⟨fun b o e _ _ hc => other b o (fun z => hc (List.mem_singleton.mpr z)) e, fun b o e _ _ hc => ⟨o.slots, other b o (fun z => hc (List.mem_singleton.mpr z)) e⟩, fun _ _ _ n _ => n, fun b o e hc => ⟨o, other b o (fun z => hc (List.mem_singleton.mpr z)) e⟩, fun _ _ e => e, fun _ _ _ e => e, fun b ps e => ⟨#[], by rw [e]; first | rfl | simp⟩⟩ (fun b u e => ?_) K5.bare fun b hb => ?_
      · refine (K5.hok b u e).stay (fun d o hd z => other d o ?_ z) (fun _ z => z) fun _ _ z => z
        rcases hd with rfl | hd
        · exact neS _ _ e
        · exact neS _ _ hd
      · rw [List.mem_singleton.mp hb]
        refine ⟨.inr (Nat.le_trans F.s0 hSL), fun z => absurd (Nat.lt_of_lt_of_le (z ▸ F.loc) hSL) (Nat.lt_irrefl _), fun y d e z => absurd (Nat.lt_of_lt_of_le (F.cell y d e) (z ▸ hSL)) (Nat.lt_irrefl _), fun p hp z => ?_⟩
        rcases List.mem_append.mp hp with hp | hp
        · exact absurd (Nat.lt_of_lt_of_le (F.pin p (List.mem_append_left _ hp)) (z ▸ hSL)) (Nat.lt_irrefl _)
        · rcases List.mem_append.mp hp with hp | hp
          · exact absurd (Nat.lt_of_lt_of_le (F.pin p (List.mem_append_right _ hp)) (z ▸ hSL)) (Nat.lt_irrefl _)
          · rcases List.mem_append.mp hp with hp | hp
            · exact hSo4 (z ▸ (of_plst hp).1)
            · rw [List.mem_singleton.mp hp] at z
              exact hSa z.symm
    refine ih m (Nat.lt_succ_self m) _ (mrg env.locals H H') _ ip' σ' H' s₁.heap gs' (acc.push v) c' (xs ++ [x]) ?_ Zn K6 (fun b u e => mrg_same _ _ _ b u (sm b u e)) hgg hS5 ?_ hSn4 hSo4 (fun j y hy => ?_)
    · rw [List.length_append]
      show m + (xs.length + 1) = _
      omega
    · rw [Array.toList_push]
      exact hv.append (.cons rv .nil)
    · by_cases hj : j < xs.length
      · rw [List.getElem?_append_left hj] at hy
        exact got.keep (keepU_of (mrg_same _ _ _)) j y hy
      · have e : j = xs.length := by
          have := (List.getElem?_eq_some_iff.mp hy).1
          rw [List.length_append] at this
          have : j < xs.length + 1 := this
          omega
        subst e
        rw [List.getElem?_append_right (Nat.le_refl _), Nat.sub_self] at hy
        cases hy
        exact ⟨ys, H', by omega, q, K3⟩
end
/-! ### the expression list(generator) -/
def tList3 (tg : TGen3) : TE := fun σ H Q => tg σ H fun It Fn H1 => ∀ (p : Addr) (H2 : Hp) (xs : List V), Same H1 H2 → H2 p = none → xs.length ≤ sizeLine → Got It H2 xs → (∃ ys Hg, ys.length = xs.length ∧ Fn ys Hg ∧ KeepU Hg H2) → Q (.ref p) (upd H2 p (.lst xs))
section
variable {X : Cx} {pins : List (Addr × Obj)} {σ : L2.St}
theorem call_list3 {k : Nat} {s : Shared} {u : Value} {cont : (List V → V → Hp → Prop) → (List V → Hp → Prop) → Hp → Prop} {Q : VK} {E : Value → Shared → Prop} (hr : Room (k + 4) X.A) (h : PMade X k pins σ cont u s)
    (hc : ∀ It Fn H1, cont It Fn H1 → ∀ (p : Addr) (H2 : Hp) (xs : List V), Same H1 H2 → H2 p = none → xs.length ≤ sizeLine → Got It H2 xs → (∃ ys Hg, ys.length = xs.length ∧ Fn ys Hg ∧ KeepU Hg H2) → Q (.ref p) (upd H2 p (.lst xs))) :
    wpAny (model X.prog X.w) X.A (call (.type "list") [u]) (fun v s' => ∃ x H', Inv X pins σ H' s' ∧ RelV x v ∧ Q x H') E s := by
  obtain ⟨It, Fn, N, env, a, gi, go, own, ip, σg, Hg, H1, gs, rfl, I1, T, Z0, hat, ha, hgi, hcont⟩ := h
  have aLt : a < s.heap.objs.size := Heap.lt_size hat
  have nLt : env.locals < s.heap.objs.size := Nat.lt_trans T.up aLt
  have neA : s.heap.objs.size ≠ a := Nat.ne_of_gt aLt
  have Z := Z0 X.A.in1.in1.in1 (by exact (((hr.mono (show k + 3 ≤ k + 4 by omega)).in1 (k := k + 2)).in1 (k := k + 1)).in1 (k := k)) (by show X.A.frames = _; exact I1.ok.frames)
  have Is := Inv.spin I1 T Z ha
  have gen := T.gen _ hat
  refine callType_codes (Q₁ := fun obj s₁ => obj = .ref s.heap.objs.size ∧ s₁ = { s with heap := s.heap.push { cls := .type "list", data := .seq #[] } }) F.called_list (F.typeCall_list_1 _) F.entry_list_init (code_list_new _ ⟨rfl, rfl⟩) fun obj s₁ h₁ => ?_
  obtain ⟨rfl, rfl⟩ := h₁
  have q1 : (s.heap.push { cls := .type "list", data := .seq #[] }).get? s.heap.objs.size = some { cls := .type "list", data := .seq #[] } := Heap.get?_push_size _ rfl
  refine ⟨⟨_, q1, rfl⟩, F.args_list_init_2 _ _, ?_⟩
  show wpAny _ X.A.in1.in1 (Builtin.List.listItems (.ref s.heap.objs.size) >>= fun old => Builtin.List.listUpdate (.ref s.heap.objs.size) (fun _ => #[]) >>= fun _ => letGo old.toList.reverse >>= fun _ =>
    Builtin.List.listExtendWith (.ref s.heap.objs.size) (.ref a) .none) _ _ _
  refine wpAny_bind ?_
  unfold Builtin.List.listItems
  refine wpAny_bind (wpAny_seqItems q1 rfl (wpAny_pure ?_))
  show wpAny _ X.A.in1.in1 (updateSeq s.heap.objs.size (fun _ => #[]) >>= fun _ => letGo (#[] : Array Value).toList.reverse >>= fun _ =>
    Builtin.List.listExtendWith (.ref s.heap.objs.size) (.ref a) .none) _ _ _
  refine wpAny_bind (wpAny_updateSeq q1 rfl ?_)
  have q2 := Heap.get?_update_self (Obj.mapSeq (fun _ => (#[] : Array Value))) q1 rfl
  refine wpAny_bind (wpAny_letGo ?_)
  unfold Builtin.List.listExtendWith
  have up : ∀ (h : Heap) (f : Obj → Obj), (∀ b o, s.heap.get? b = some o → h.get? b = some o) → ∀ b o, s.heap.get? b = some o → (h.update s.heap.objs.size f).get? b = some o := fun h f q b o e => by
    have ne : s.heap.objs.size ≠ b := fun z => by
      have := Heap.lt_size e
      rw [← z] at this
      exact absurd this (Nat.lt_irrefl _)
    rw [Heap.get?_update_other _ _ ne]
    exact q b o e
  have k1 : ∀ b o, s.heap.get? b = some o → (s.heap.push { cls := .type "list", data := .seq #[] }).get? b = some o := fun b o e => Heap.get?_push_of_some _ e
  have k2 := up _ (Obj.mapSeq (fun _ => (#[] : Array Value))) k1
  have gk : ∀ {h : Heap}, (∀ b o, s.heap.get? b = some o → h.get? b = some o) → h.IsGen a gi := fun {h} q => T.gen _ (q a go hat)
  refine wpAny_bind (wpAny_typeOf (Heap.IsGen.typeIs (s := { s with heap := _ }) (gk k2)) ?_)
  have c1 : Builtin.List.listSameRef (.ref s.heap.objs.size) (.ref a) = false := by simp [Builtin.List.listSameRef, neA]
  have c2 : (Value.type "generator" == Value.type "list") = false := by decide
  have c3 : (Value.type "generator" == Value.type "tuple") = false := by decide
  simp only [c1, c2, c3, Bool.or_false, Bool.false_eq_true, if_false]
  refine wpAny_bind (wpAny_pyIter_gen (s := { s with heap := _ }) (gk k2) ?_)
  refine wpAny_bind (wpAny_holding ?_)
  unfold Builtin.List.listLengthHint
  refine wpAny_bind (wpAny_specialOf (Heap.IsGen.typeIs (s := { s with heap := _ }) (gk k2)) F.gen_no_len ?_)
  show wpAny _ X.A.in1.in1 (specialOf (Value.ref a) (Str.ofString "__length_hint__") >>= _) _ _ _
  refine wpAny_bind (wpAny_specialOf (Heap.IsGen.typeIs (s := { s with heap := _ }) (gk k2)) F.gen_no_hint ?_)
  refine wpAny_pure ?_
  show wpAny _ X.A.in1.in1 (rule "list.extend.makes-room" >>= fun _ => Builtin.List.listTouch (.ref s.heap.objs.size) >>= fun _ =>
    again (.builtin "list.extend.loop" ⟨[.ref s.heap.objs.size, .ref a, .none], []⟩)) _ _ _
  refine wpAny_bind (wpAny_rule ?_)
  refine wpAny_bind ?_
  show wpAny _ X.A.in1.in1 (updateSeq s.heap.objs.size (·.push .none) >>= fun _ => updateSeq s.heap.objs.size (·.pop)) _ _ _
  refine wpAny_bind (wpAny_updateSeq q2 rfl ?_)
  have q3 := Heap.get?_update_self (Obj.mapSeq (·.push Value.none)) q2 rfl
  refine wpAny_updateSeq (hz := by seq_fits) q3 rfl ?_
  have q4 := Heap.get?_update_self (Obj.mapSeq (·.pop)) q3 rfl
  have k4 := up _ (Obj.mapSeq (·.pop)) (up _ (Obj.mapSeq (·.push Value.none)) k2)
  refine wpAny_pure ⟨plainId_quiet F.plain_extend_loop _, ?_⟩
  have I4 := Is.kept (t' := s.toks) k4
  have Fa := T.fit X.A.in1
  refine fill3 (k := k + 1) (A := X.A.in1) (H0 := H1) (N := N) (env := env) (It := It) (Fn := Fn) (a := a) (gi := gi) (go := go) (pins := pins) (σ := σ) (hr.mono (show k + 4 ≤ k + 4 by omega)).in1 T (Nat.le_of_lt nLt) neA (fun s' H' acc c xs I' sm hS hv hlen got hfin hSn => ?_) sizeLine _ H1 own ip σg Hg s.heap gs #[] _ [] rfl Z I4 (Same.refl _) hgi q4 .nil (I1.hok.fresh (Nat.le_refl _)) (fun m => ?_) (fun j x e => by simp at e)
  · refine ⟨rfl, .ref s.heap.objs.size, _, Inv.closed I' (Nat.le_trans Fa.s0 (Nat.le_of_lt nLt)) (fun z => ?_) (fun y d e z => ?_) (fun p hp z => ?_) hSn hS hv hlen, rfl, hc It Fn H1 hcont _ H' xs sm hSn hlen got hfin⟩
    · exact absurd (Nat.lt_trans Fa.loc nLt) (z ▸ Nat.lt_irrefl _)
    · exact absurd (Nat.lt_trans (Fa.cell y d e) nLt) (z ▸ Nat.lt_irrefl _)
    · exact absurd (Nat.lt_trans (Fa.pin p hp) nLt) (z ▸ Nat.lt_irrefl _)
  · obtain ⟨_, ⟨o, ho, _⟩, _⟩ := Z.slp.ow _ m
    exact absurd (Heap.lt_size ho) (Nat.lt_irrefl _)
theorem pe_list3 {k : Nat} {e : Expr} {tg : TGen3} {nm : Str} {p pos : Pos} (h : PGen3 X k e tg) (hr : Room (k + 4) X.A) (hg : Gl X nm) (hmg : X.mg nm = none) (hv : bootBuiltins nm = some (.type "list")) (hnm : nm ≠ "__name__" := by decide) (hdb : (nm == ("__debug__" : Str)) = false := by decide)
    (he : starEach [e] X.env = (false, eval e X.env) :: starEach [] X.env := by rfl) : PE X (.Call (.Name nm p) [e] [] pos) (tList3 tg) := by
  refine ⟨fun pins s σ H Q I hq => ?_⟩
  refine wpAny_Call_Name_kw (ld_blt I hg hmg hv ?_ hnm hdb)
  refine PyProof.Rows.callWith_type1 ?_ he rfl
  rw [he]
  show wpAny _ _ (spliced ((false, eval e X.env) :: backTo pos (starEach [] X.env))) _ _ s
  refine Calls.spliced_cons (thn (h.run pins s σ H _ I hq) fun u s1 hm => ?_)
  refine Calls.spliced_nil ?_
  exact call_list3 hr hm fun It Fn H1 c => c
end
/-! ### the readings may speak of the waking's context -/
def ix0 : Ix := ⟨{}, fun _ => none, []⟩
section
variable {G : Gp} {It : List V → V → Hp → Prop} {st : Stmt} {rest : List Stmt}
theorem h3_plain {t : Ix → TS} (h : ∀ ix, PS (G.X ix) st (t ix)) (e : ∀ ix, t ix = t ix0 := by intro _; rfl) : GS3 G It st (tPlain (t ix0)) := g3_plain fun ix => by rw [← e ix]; exact h ix
theorem h3_if {test : Expr} {body orelse : List Stmt} {pos : Pos} {tc : Ix → TT} {t u : TGn} (hc : ∀ ix, PT (G.X ix) test (tc ix)) (ha : GSs3 G It body t) (hb : GSs3 G It orelse u) (e : ∀ ix, tc ix = tc ix0 := by intro _; rfl) : GS3 G It (.If test body orelse pos) (tGIf (tc ix0) t u) :=
  g3_if (fun ix => by rw [← e ix]; exact hc ix) ha hb
theorem h3_while {test : Expr} {body : List Stmt} {pos : Pos} {tc : Ix → TT} {tb : TGn} (hc : ∀ ix, PT (G.X ix) test (tc ix)) (hb : GSs3 G It body tb) (e : ∀ ix, tc ix = tc ix0 := by intro _; rfl) : GS3 G It (.While test body [] pos) (tGWhile (tc ix0) tb) :=
  g3_while (fun ix => by rw [← e ix]; exact hc ix) hb
theorem h3_yield {x : Expr} {yp pos : Pos} {te : Ix → TE} (he : ∀ ix, PE (G.X ix) x (te ix)) (hco : G.env.scope.isCoroutine = false) (hi : interactive G.env = false) (e : ∀ ix, te ix = te ix0 := by intro _; rfl) : GS3 G It (.Expr (.Yield (some x) yp) pos) (tGY3 It (te ix0)) :=
  g3_yield (fun ix => by rw [← e ix]; exact he ix) hco hi
end
/-! ### each_node -/
def T.nd : T → List Nat → List (List Nat × Str)
  | .nil, _ => []
  | .node l x r, q => (q, x) :: (l.nd (q ++ [108]) ++ r.nd (q ++ [114]))
theorem T.nd_len : ∀ (t : T) (q : List Nat), (t.nd q).length = t.size
  | .nil, _ => rfl
  | .node l x r, q => by
    show (l.nd _ ++ r.nd _).length + 1 = l.size + 1 + r.size
    rw [List.length_append, l.nd_len, r.nd_len]
    omega
theorem T.nd_path : ∀ (t : T) (q : List Nat), ∀ e ∈ t.nd q, e.1.length ≤ q.length + t.size
  | .nil, _, e, h => by cases h
  | .node l x r, q, e, h => by
    show e.1.length ≤ q.length + (l.size + 1 + r.size)
    rcases List.mem_cons.mp h with rfl | h
    · show q.length ≤ _
      omega
    · rcases List.mem_append.mp h with h | h
      · have := l.nd_path _ e h
        rw [List.length_append] at this
        have : e.1.length ≤ q.length + 1 + l.size := this
        omega
      · have := r.nd_path _ e h
        rw [List.length_append] at this
        have : e.1.length ≤ q.length + 1 + r.size := this
        omega
/-- what waits: paths and parts -/
inductive Stk (H : Hp) : List V → List (List Nat × T) → Prop
  | nil : Stk H [] []
  | snoc {vs : List V} {st : List (List Nat × T)} {a : Addr} {v : V} {q : List Nat} {t : T} : Stk H vs st → H a = some (.tup [.str (tx q), v]) → TreeAt H v t → Stk H (vs ++ [.ref a]) (st ++ [(q, t)])
theorem Stk.keep {H H' : Hp} (k : KeepT H H') {vs : List V} {st : List (List Nat × T)} (h : Stk H vs st) : Stk H' vs st := by
  induction h with
  | nil => exact .nil
  | snoc _ e b ih => exact .snoc ih (k _ _ e) (b.keep k)
theorem Stk.len {H : Hp} {vs : List V} {st : List (List Nat × T)} (h : Stk H vs st) : vs.length = st.length := by
  induction h with
  | nil => rfl
  | snoc _ _ _ ih => rw [List.length_append, List.length_append, ih]; rfl
def rem (st : List (List Nat × T)) : List (List Nat × Str) := st.reverse.flatMap fun p => p.2.nd p.1
theorem rem_snoc (st : List (List Nat × T)) (q : List Nat) (t : T) : rem (st ++ [(q, t)]) = t.nd q ++ rem st := by
  unfold rem
  rw [List.reverse_append, List.reverse_singleton]
  rfl
def mea (st : List (List Nat × T)) : Nat := (st.map fun p => 2 * p.2.size + 1).sum
theorem mea_snoc (st : List (List Nat × T)) (q : List Nat) (t : T) : mea (st ++ [(q, t)]) = mea st + (2 * t.size + 1) := by
  unfold mea
  rw [List.map_append, List.sum_append]
  show _ + (2 * t.size + 1 + 0) = _
  omega
theorem mea_len (st : List (List Nat × T)) : st.length ≤ mea st := by
  induction st with
  | nil => exact Nat.le_refl _
  | cons p st ih =>
    unfold mea at ih ⊢
    rw [List.map_cons, List.sum_cons, List.length_cons]
    omega
/-- the nodes, one by one -/
def itN (t : T) : List V → V → Hp → Prop := fun ys x H => ∃ (q : Addr) (w : List Nat × Str), x = .ref q ∧ (t.nd [])[ys.length]? = some w ∧ H q = some (.tup [.str (tx w.1), .str w.2])
def fnN (t : T) : List V → Hp → Prop := fun ys _ => ys.length = t.size
def spEach : SpG3 := fun vs H It Fn => ∃ (v : V) (t : T), vs = [v] ∧ TreeAt H v t ∧ t.size ≤ 60 ∧ It = itN t ∧ Fn = fnN t
theorem sc_each_node : GScope ["tree", "waiting", "path", "part", "left", "label", "right"] ["tree"] (defScope s_each_node) := ⟨rfl, rfl, rfl, by decide +kernel, rfl, by decide +kernel, by decide +kernel⟩
theorem keepP_T {H H' : Hp} (k : KeepP H H') : KeepT H H' := fun b xs e => k b _ rfl e
section
variable {P : Program} {w : World} {K : PySem.W.Frag} {mg : Str → Option Value} {base : Heap} {f : Addr} {fd : FuncData}
theorem ok_each (F : Fun K "each_node" "each_node" s_each_node f fd) : GFn3 P w K mg base 2 f fd ["tree"] spEach := by
  obtain ⟨oc, od, kV, doc, pm, an, cdv, ct, osl, rfl, lk, hcd⟩ := F.ex
  refine gfn3_of (k := 1) lk hcd sc_each_node (fun _ => rfl) (fun vs H It Fn h => ?_) fun Aw outer L vs Hs It Fn hr h => ?_
  · obtain ⟨v, t, rfl, _⟩ := h
    rfl
  obtain ⟨v, t, rfl, bt, hz, rfl, rfl⟩ := h
  refine ⟨_, (g3s_cons (h3_plain fun ix => (ps_set (i := 1) sc_each_node.nd rfl (.inl rfl) (pe_lst (pa_cons (pe_tup (pa_cons pe_str (pa_cons (pv 0) pa_nil))) pa_nil))))
    (g3s_cons (h3_while (fun ix => (pt_truth (pv 1) (by intro _; rfl)))
      (g3s_cons (h3_plain fun ix => (ps_asg (pe_bm0 PySem.F.plainAttrs_list PySem.F.slot_list_pop PySem.F.type_list_pop mt_pop (pv 1)) (pg_tup rfl (pgs_cons (pg_name (i := 2) sc_each_node.nd rfl (.inl rfl)) (pgs_cons (pg_name (i := 3) sc_each_node.nd rfl (.inl rfl)) pgs_nil)))))
    (g3s_cons (h3_if (fun ix => (pt_cmpR op_notN (pv 3) pe_non (nomark _)))
      (g3s_cons (h3_plain fun ix => (ps_asg (pv 3) (pg_tup rfl (pgs_cons (pg_name (i := 4) sc_each_node.nd rfl (.inl rfl)) (pgs_cons (pg_name (i := 5) sc_each_node.nd rfl (.inl rfl)) (pgs_cons (pg_name (i := 6) sc_each_node.nd rfl (.inl rfl)) pgs_nil))))))
    (g3s_cons (h3_yield (fun ix => (pe_tup (pa_cons (pv 2) (pa_cons (pv 5) pa_nil)))) rfl rfl)
    (g3s_cons (h3_plain fun ix => (ps_expr (pe_bm PySem.F.plainAttrs_list PySem.F.slot_list_append PySem.F.type_list_append mt_append (pv 1) (pa_cons (pe_tup (pa_cons (pe_op op_add_str (pv 2) pe_str) (pa_cons (pv 6) pa_nil))) pa_nil))))
    (g3s_cons (h3_plain fun ix => (ps_expr (pe_bm PySem.F.plainAttrs_list PySem.F.slot_list_append PySem.F.type_list_append mt_append (pv 1) (pa_cons (pe_tup (pa_cons (pe_op op_add_str (pv 2) pe_str) (pa_cons (pv 4) pa_nil))) pa_nil)))) g3s_nil)))) g3s_nil) g3s_nil))) g3s_nil)), fun H' kp => ?_⟩
  refine ⟨_, rfl, (by show 2 ≤ sizeLine; decide), fun b nb => ⟨(by show 1 ≤ sizeLine; decide), fun Wd nW => ?_⟩⟩
  have k1 := same_new nb (.tup [.str "", v])
  have k2 := same_new nW (.lst [.ref b])
  have bt' := (bt.keep (keepP_T kp)).same (k1.trans k2)
  have eb := k2 _ _ (upd_same (H := H') (a := b) (o := .tup [.str "", v]))
  have eW := upd_same (H := upd H' b (.tup [.str "", v])) (a := Wd) (o := .lst [.ref b])
  generalize upd (upd H' b (.tup [.str "", v])) Wd (.lst [.ref b]) = H0 at bt' eb eW ⊢
  have WI : ∃ W : Nat → List V → L2.St → Hp → Prop, W = fun m ys σ H2 => ∃ (items : List V) (st : List (List Nat × T)) (o2 o3 o4 o5 o6 : Option V), σ = [some v, some (.ref Wd), o2, o3, o4, o5, o6] ∧ H2 Wd = some (.lst items) ∧ Stk H2 items st ∧ (t.nd []).drop ys.length = rem st ∧ ys.length ≤ t.size ∧ m = mea st ∧ mea st ≤ 121 ∧ ∀ p ∈ st, p.1.length + p.2.size ≤ 60 := ⟨_, rfl⟩
  obtain ⟨W, hW⟩ := WI
  refine ⟨W, ⟨mea [([], t)], ?_⟩, fun m ys σ H2 hp => ?_⟩
  · rw [hW]
    refine ⟨[.ref b], [([], t)], none, none, none, none, none, rfl, eW, .snoc (vs := []) (st := []) .nil eb bt', ?_, Nat.zero_le _, rfl, ?_, fun p hp => ?_⟩
    · show (t.nd []).drop 0 = rem ([] ++ [([], t)])
      rw [rem_snoc]
      show t.nd [] = t.nd [] ++ []
      rw [List.append_nil]
    · show 2 * t.size + 1 + 0 ≤ 121
      omega
    · rw [List.mem_singleton.mp hp]
      show 0 + t.size ≤ 60
      omega
  · rw [hW] at hp
    obtain ⟨items, st, o2, o3, o4, o5, o6, rfl, eW2, sk, hd, hy, rfl, hm, hq⟩ := hp
    clear eW eb bt' nb nW k1 k2
    refine ⟨_, rfl, !items.isEmpty, .inl ⟨items, SqL.of eW2, rfl⟩, ?_⟩
    cases sk with
    | nil =>
      refine iteF ?_
      have hd : (t.nd []).drop ys.length = [] := hd
      have := List.drop_eq_nil_iff.mp hd
      rw [t.nd_len] at this
      show ys.length = t.size
      omega
    | @snoc vs st' a pv q t' sk' ea bp =>
      have ne : (!(vs ++ [V.ref a]).isEmpty) = true := by cases vs <;> rfl
      rw [ne]
      refine iteT ⟨fun ys' σ' H' => ∃ m', m' < mea (st' ++ [(q, t')]) ∧ W m' ys' σ' H', fun ys' σ' H' h => h, ?_⟩
      have sl := sk'.len
      have ml := mea_len st'
      rw [mea_snoc] at hm ⊢
      have hq' : ∀ p ∈ st', p.1.length + p.2.size ≤ 60 := fun p hp => hq p (List.mem_append_left _ hp)
      have hq2 : q.length + t'.size ≤ 60 := hq (q, t') (List.mem_append_right _ (List.mem_singleton.mpr rfl))
      rw [rem_snoc] at hd
      refine ⟨.ref Wd, rfl, .inl ⟨rfl, _, SqL.of eW2⟩, Wd, _, .ref a, rfl, rfl, eW2, by rw [List.length_append]; simp, ?_⟩
      have ka : KeepT H2 (upd H2 Wd (.lst (vs ++ [V.ref a]).dropLast)) := fun b xs e => by rw [upd_ne (ne_of e eW2 (by intro z; cases z))]; exact e
      have eW3 : (upd H2 Wd (.lst (vs ++ [V.ref a]).dropLast)) Wd = some (.lst vs) := by rw [upd_same, List.dropLast_concat]
      have sk3 := sk'.keep ka
      have ea3 := ka _ _ ea
      have bp3 := bp.keep ka
      generalize upd H2 Wd (.lst (vs ++ [V.ref a]).dropLast) = H3 at eW3 sk3 ea3 bp3 ⊢
      refine ⟨a, _, rfl, SqT.of ea3, rfl, _, _, rfl, _, _, rfl, rfl, ?_⟩
      clear eW2 ka ne sk' ea bp
      rcases bp3.inv with ⟨rfl, rfl⟩ | ⟨c, lv, rv, x, tl, tr, rfl, rfl, ec, bl, br⟩
      · refine ⟨_, rfl, rfl, _, rfl, ?_⟩
        rw [show (!decide ((V.non : V) = V.non)) = false from rfl]
        refine iteF ⟨mea st', ?_, ?_⟩
        · show mea st' < mea st' + (2 * 0 + 1)
          omega
        · rw [hW]
          exact ⟨vs, st', _, _, _, _, _, rfl, eW3, sk3, hd, hy, rfl, by omega, hq'⟩
      · refine ⟨_, rfl, rfl, _, rfl, ?_⟩
        rw [show (!decide (V.ref c = V.non)) = true from rfl]
        refine iteT ⟨_, rfl, c, _, rfl, SqT.of ec, rfl, _, _, rfl, _, _, rfl, _, _, rfl, rfl, ?_⟩
        have sz : (T.node tl x tr).size = tl.size + 1 + tr.size := rfl
        have nl := congrArg List.length hd
        rw [List.length_drop, t.nd_len, List.length_append, T.nd_len] at nl
        have hy2 : ys.length < t.size := by omega
        have hix : (t.nd [])[ys.length]? = some (q, x) := by
          have : ((t.nd []).drop ys.length)[0]? = some (q, x) := by rw [hd]; rfl
          rw [List.getElem?_drop] at this
          exact this
        refine ⟨Nat.lt_of_lt_of_le hy2 (Nat.le_trans hz (small (by omega))), _, rfl, _, rfl, (by show 2 ≤ sizeLine; decide), fun y ny => ⟨⟨y, (q, x), rfl, hix, upd_same⟩, fun H5 k5 => ?_⟩⟩
        have k4 := same_new ny (.tup [.str (tx q), .str x])
        have kt := KeepT.trans (Tw.Same.keepT k4) (keepP_T k5)
        have eW5 := k5 Wd _ rfl (k4 _ _ eW3)
        have sk5 := sk3.keep kt
        have bl5 := bl.keep kt
        have br5 := br.keep kt
        clear eW3 sk3 ea3 bp3 ec bl br k4 k5 kt ny
        have ql : (tx q).length = q.length := rfl
        have le1 : vs.length ≤ 200 := by omega
        have er : (tx q ++ "r" : Str) = tx (q ++ [114]) := by rw [show ("r" : Str) = tx [114] by decide +kernel, tx_app]
        have el : (tx q ++ "l" : Str) = tx (q ++ [108]) := by rw [show ("l" : Str) = tx [108] by decide +kernel, tx_app]
        refine ⟨.ref Wd, rfl, .inl ⟨rfl, _, SqL.of eW5⟩, _, rfl, _, _, rfl, rfl, small (by rw [ql]; show q.length + 1 ≤ 1000; omega), _, rfl, (by show 2 ≤ sizeLine; decide), fun r1 n1 => ?_⟩
        rw [er]
        have k6 := same_new n1 (.tup [.str (tx (q ++ [114])), rv])
        have e6 := upd_same (H := H5) (a := r1) (o := .tup [.str (tx (q ++ [114])), rv])
        refine ⟨Wd, vs, _, rfl, rfl, k6 _ _ eW5, Nat.lt_of_le_of_lt le1 (by decide), ?_⟩
        have sk6 := (sk5.keep (Tw.Same.keepT k6))
        have bl6 := bl5.same k6
        have br6 := br5.same k6
        have eW6 := k6 _ _ eW5
        generalize upd H5 r1 (.tup [.str (tx (q ++ [114])), rv]) = H6 at k6 e6 sk6 bl6 br6 eW6 ⊢
        have k7 : KeepT H6 (upd H6 Wd (.lst (vs ++ [.ref r1]))) := fun b xs e => by rw [upd_ne (ne_of e eW6 (by intro z; cases z))]; exact e
        have sk7 : Stk (upd H6 Wd (.lst (vs ++ [.ref r1]))) (vs ++ [.ref r1]) (st' ++ [(q ++ [114], tr)]) := .snoc (sk6.keep k7) (k7 _ _ e6) (br6.keep k7)
        have bl7 := bl6.keep k7
        have eW7 := upd_same (H := H6) (a := Wd) (o := .lst (vs ++ [.ref r1]))
        generalize upd H6 Wd (.lst (vs ++ [.ref r1])) = H7 at sk7 bl7 eW7 ⊢
        clear k6 e6 sk6 bl6 br6 eW6 k7 sk5 bl5 br5 eW5 n1
        refine ⟨.ref Wd, rfl, .inl ⟨rfl, _, SqL.of eW7⟩, _, rfl, _, _, rfl, rfl, small (by rw [ql]; show q.length + 1 ≤ 1000; omega), _, rfl, (by show 2 ≤ sizeLine; decide), fun r2 n2 => ?_⟩
        rw [el]
        have k8 := same_new n2 (.tup [.str (tx (q ++ [108])), lv])
        have e8 := upd_same (H := H7) (a := r2) (o := .tup [.str (tx (q ++ [108])), lv])
        refine ⟨Wd, vs ++ [.ref r1], _, rfl, rfl, k8 _ _ eW7, Nat.lt_of_le_of_lt (show (vs ++ [V.ref r1]).length ≤ 201 by rw [List.length_append]; show vs.length + 1 ≤ 201; omega) (by decide), ?_⟩
        have sk8 := (sk7.keep (Tw.Same.keepT k8))
        have bl8 := bl7.same k8
        have eW8 := k8 _ _ eW7
        generalize upd H7 r2 (.tup [.str (tx (q ++ [108])), lv]) = H8 at k8 e8 sk8 bl8 eW8 ⊢
        have k9 : KeepT H8 (upd H8 Wd (.lst (vs ++ [.ref r1] ++ [.ref r2]))) := fun b xs e => by rw [upd_ne (ne_of e eW8 (by intro z; cases z))]; exact e
        have mm : mea (st' ++ [(q ++ [114], tr)] ++ [(q ++ [108], tl)]) = mea st' + (2 * tr.size + 1) + (2 * tl.size + 1) := by rw [mea_snoc, mea_snoc]
        refine ⟨mea (st' ++ [(q ++ [114], tr)] ++ [(q ++ [108], tl)]), ?_, ?_⟩
        · rw [mm]
          show _ < mea st' + (2 * (tl.size + 1 + tr.size) + 1)
          omega
        · rw [hW]
          refine ⟨_, _, _, _, _, _, _, rfl, upd_same, .snoc (sk8.keep k9) (k9 _ _ e8) (bl8.keep k9), ?_, ?_, rfl, by omega, fun p hp => ?_⟩
          · rw [rem_snoc, rem_snoc, List.length_append, ← List.drop_drop, hd]
            show (List.drop 1 ((q, x) :: (tl.nd (q ++ [108]) ++ tr.nd (q ++ [114])) ++ rem st')) = _
            show (tl.nd (q ++ [108]) ++ tr.nd (q ++ [114])) ++ rem st' = _
            rw [List.append_assoc]
          · rw [List.length_append]
            exact hy2
          · rcases List.mem_append.mp hp with hp | hp
            · rcases List.mem_append.mp hp with hp | hp
              · exact hq' p hp
              · rw [List.mem_singleton.mp hp]
                show (q ++ [114]).length + tr.size ≤ 60
                rw [List.length_append]
                show q.length + 1 + _ ≤ 60
                omega
            · rw [List.mem_singleton.mp hp]
              show (q ++ [108]).length + tl.size ≤ 60
              rw [List.length_append]
              show q.length + 1 + _ ≤ 60
              omega
end
/-! ### size_of, _law_one, _law_count, _law_nodes -/
theorem op_neL {X : Cx} (hu : X.A.units < cLine) : OpR X (compareOp .NotEq) (fun x y H Q => ∃ a b xs, x = .ref a ∧ y = .ref b ∧ SqL X.K H a xs ∧ SqL X.K H b [] ∧ Q (.bl (!xs.isEmpty)) H) := by
  intro pins s σ H x y v u Q I rx ry h
  obtain ⟨a, b, xs, rfl, rfl, hx, hy, q⟩ := h
  cases rx
  cases ry
  obtain ⟨its, r1, t1, _⟩ := I.list hx
  obtain ⟨its2, r2, t2, _⟩ := I.list hy
  cases r2
  cases r1 with
  | nil =>
    have rc := SeqAt.RcNeAt.lists (A := X.A) (s := s) (items := ([] : List Value).toArray) (items2 := ([] : List Value).toArray) (e := fun _ => true) t1.isList t2.isList rfl hu (fun j h1 _ => absurd h1 (by simp))
    exact rc X.prog X.w X.xe _ ⟨.bl _, H, I, rfl, q⟩
  | cons _ _ =>
    have rc := SeqAt.RcNeAt.lists_lengths (A := X.A) (s := s) t1.isList t2.isList (by simp) hu
    exact rc X.prog X.w X.xe _ ⟨.bl _, H, I, rfl, q⟩
def isLow (c : Nat) : Bool := decide (97 ≤ c) && decide (c ≤ 122)
theorem in_low {c : Nat} : inV (.str ⟨#[c]⟩) ((Str.ofString "abcdefghijklmnopqrstuvwxyz").cps.toList.map fun c => V.str ⟨#[c]⟩) = isLow c := by
  have e : (Str.ofString "abcdefghijklmnopqrstuvwxyz").cps.toList = List.range' 97 26 := by decide +kernel
  rw [e]
  unfold inV isLow
  rw [List.any_map]
  have h : (List.range' 97 26).any ((fun y => eqV y (.str ⟨#[c]⟩)) ∘ fun c => V.str ⟨#[c]⟩) = decide (c ∈ List.range' 97 26) := by
    rw [Bool.eq_iff_iff, List.any_eq_true, decide_eq_true_eq]
    constructor
    · rintro ⟨x, hx, h⟩
      have h : ((⟨#[x]⟩ : Str) == ⟨#[c]⟩) = true := h
      have h := eq_of_beq h
      injection h with h
      injection h with h
      injection h with h
      rw [← h]
      exact hx
    · intro h
      exact ⟨c, h, (beq_self_eq_true _ : ((⟨#[c]⟩ : Str) == ⟨#[c]⟩) = true)⟩
  rw [h, Bool.eq_iff_iff, decide_eq_true_eq, Bool.and_eq_true, decide_eq_true_eq, decide_eq_true_eq, List.mem_range'_1]
  omega
def spSz (n : Nat) : Sp := fun vs H Q _ => ∃ (v : V) (t : T), vs = [v] ∧ TreeAt H v t ∧ t.size < n ∧ Q (.int (t.size : Int)) H
def spOneV : Sp := fun vs H Q _ => ∃ (D : Deck) (n : Nat) (p : Addr) (xs : List V), vs = [.ref D.dk, .ref p] ∧ DeckOk H D n ∧ n ≤ 1000000 ∧ H p = some (.lst xs) ∧ Off D p ∧ 0 < xs.length ∧ xs.length ≤ 1000 ∧
  ∀ (v : V) (H' : Hp), v ∈ xs → DeckOk H' D (n + 1) → SameD D H H' → Q v H'
def spCnt (n : Nat) : Sp := fun vs H Q _ => ∃ (v : V) (t : T), vs = [v] ∧ TreeAt H v t ∧ t.lt ∧ t.deep < n ∧ ∀ H', Same H H' → Q (.int (t.size : Int)) H'
/-- nodes told -/
def NdAt (H : Hp) (us : List V) (L : List (List Nat × Str)) : Prop := us.length = L.length ∧ ∀ (j : Nat) (u : V) (e : List Nat × Str), us[j]? = some u → L[j]? = some e → ∃ a, u = .ref a ∧ H a = some (.tup [.str (tx e.1), .str e.2])
theorem NdAt.keep {H H' : Hp} (k : KeepT H H') {us : List V} {L : List (List Nat × Str)} (h : NdAt H us L) : NdAt H' us L := ⟨h.1, fun j u e h1 h2 => by
  obtain ⟨a, h3, h4⟩ := h.2 j u e h1 h2
  exact ⟨a, h3, k _ _ h4⟩⟩
theorem NdAt.snoc {H : Hp} {us : List V} {L : List (List Nat × Str)} (h : NdAt H us L) {a : Addr} {e : List Nat × Str} (ea : H a = some (.tup [.str (tx e.1), .str e.2])) : NdAt H (us ++ [.ref a]) (L ++ [e]) := by
  refine ⟨by rw [List.length_append, List.length_append, h.1]; rfl, fun j u e' h1 h2 => ?_⟩
  by_cases hj : j < us.length
  · rw [List.getElem?_append_left hj] at h1
    rw [List.getElem?_append_left (by rw [← h.1]; exact hj)] at h2
    exact h.2 j u e' h1 h2
  · have e1 : j = us.length := by
      have := (List.getElem?_eq_some_iff.mp h1).1
      rw [List.length_append] at this
      have : j < us.length + 1 := this
      omega
    subst e1
    rw [List.getElem?_append_right (Nat.le_refl _), Nat.sub_self] at h1
    rw [h.1, List.getElem?_append_right (Nat.le_refl _), Nat.sub_self] at h2
    cases h1
    cases h2
    exact ⟨a, rfl, ea⟩
def spNodesL : Sp := fun vs H Q _ => ∃ (v : V) (t : T), vs = [v] ∧ TreeAt H v t ∧ t.size ≤ 60 ∧ ∀ (p : Addr) (us : List V) (H' : Hp), Same H H' → H p = none → H' p = some (.lst us) → NdAt H' us (t.nd []) → Q (.ref p) H'
section
variable {P : Program} {w : World} {K : PySem.W.Frag} {mg : Str → Option Value} {base : Heap} {f : Addr} {fd : FuncData}
theorem ok_size (F : Fun K "size_of" "size_of" s_size_of f fd) (b : Binds K fd ["tree"] []) (g : mg "size_of" = some (.ref f)) : ∀ n : Nat, FnOk P w K mg base CX0 n f fd ["tree"] (spSz n)
  | 0 => by
    have no : ∀ vs H Q E, ¬ spSz 0 vs H Q E := fun vs H Q E h => by
      obtain ⟨v, t, _, _, h1, _⟩ := h
      omega
    exact ⟨fun vs H Q E h => absurd h (no vs H Q E), fun A outer s H args us vs Q E _ _ _ _ h => absurd h (no vs H Q E)⟩
  | n + 1 => by
    have Dself : Df P w K mg base n "size_of" ["tree"] (spSz n) := ⟨f, fd, ok_size F b g n, b, F.kp, g⟩
    refine F.ok sc_size_of (fun vs H Q E h => ?_) (fun cdv A outer s H vs Q E hr h => ?_)
    · obtain ⟨v, t, rfl, _⟩ := h
      rfl
    obtain ⟨v, t, rfl, hv, hn, q⟩ := h
    refine ⟨_, (pss_cons (ps_if (pt_cmpR op_isN (pv 0) pe_non (nomark _))
      (pss_one (ps_ret pe_int)) pss_nil)
    (pss_one (ps_ret (pe_op op_add (pe_op op_add (pe_call Dself.ok (hr.mono (by omega)) rfl Dself.g Dself.kp Dself.b .nil pass0 (pa_cons (pe_ix ix_tup (pv 0) pe_int (fun _ _ => rfl)) pa_nil)) pe_int) (pe_call Dself.ok (hr.mono (by omega)) rfl Dself.g Dself.kp Dself.b .nil pass0 (pa_cons (pe_ix ix_tup (pv 0) pe_int (fun _ _ => rfl)) pa_nil)))))), ?_⟩
    rcases hv.inv with ⟨rfl, rfl⟩ | ⟨a, l, r, x, tl, tr, rfl, rfl, ea, hl, hr'⟩
    · exact ⟨_, rfl, rfl, _, rfl, iteT q⟩
    · refine ⟨_, rfl, rfl, _, rfl, iteF ?_⟩
      have hz : tl.size + 1 + tr.size < n + 1 := hn
      refine ⟨_, rfl, a, _, 0, l, rfl, rfl, SqT.of ea, atI_nat (j := 0) rfl, l, tl, rfl, hl, by omega, _, _, rfl, rfl, _, rfl, a, _, 2, r, rfl, rfl, SqT.of ea, atI_nat (j := 2) rfl, r, tr, rfl, hr', by omega, _, _, rfl, rfl, ?_⟩
      have e : (tl.size : Int) + 1 + (tr.size : Int) = ((tl.size + 1 + tr.size : Nat) : Int) := by omega
      show Q (.int ((tl.size : Int) + 1 + (tr.size : Int))) H
      rw [e]
      exact q
theorem ok_oneV (F : Fun K "_law_one" "_law_one" s__law_one f fd) (M : Mgs mg) (D_law_next : Df P w K mg base 1 "_law_next" ["_law_deck_here", "_law_many"] spNext) : FnOk P w K mg base CX0 2 f fd ["_law_deck_here", "_law_items"] spOneV := by
  refine F.ok sc__law_one (fun vs H Q E h => ?_) (fun cdv A outer s H vs Q E hr h => ?_)
  · obtain ⟨D, n, p, xs, rfl, _⟩ := h
    rfl
  obtain ⟨D, n, p, xs, rfl, d, hn, ep, op, x0, x1, q⟩ := h
  refine ⟨_, (pss_one (ps_ret (pe_ix ix_list (pv 1) (pe_call D_law_next.ok (hr.mono (by omega)) rfl D_law_next.g D_law_next.kp D_law_next.b .nil pass0 (pa_cons (pv 0) (pa_cons (pe_callB call_len_seq rfl M.len PySem.boot_len (pa_cons (pv 1) pa_nil)) pa_nil))) (fun _ _ => rfl)))), ?_⟩
  refine ⟨_, rfl, _, rfl, _, rfl, p, _, rfl, .inl (SqL.of ep), D, n, _, rfl, d, hn, by omega, by omega, fun i H' i0 i1 d1 s1 => ?_⟩
  obtain ⟨j, rfl⟩ := Int.eq_ofNat_of_zero_le i0
  have hj : j < xs.length := by omega
  exact ⟨p, _, _, _, rfl, rfl, SqL.of (s1.at op ep), atI_nat (List.getElem?_eq_getElem hj), q _ _ (List.getElem_mem hj) d1 s1⟩
theorem ok_cnt (F : Fun K "_law_count" "_law_count" s__law_count f fd) (b : Binds K fd ["_law_value"] []) (g : mg "_law_count" = some (.ref f)) (M : Mgs mg) : ∀ n : Nat, FnOk P w K mg base CX0 n f fd ["_law_value"] (spCnt n)
  | 0 => by
    have no : ∀ vs H Q E, ¬ spCnt 0 vs H Q E := fun vs H Q E h => by
      obtain ⟨v, t, _, _, _, h1, _⟩ := h
      omega
    exact ⟨fun vs H Q E h => absurd h (no vs H Q E), fun A outer s H args us vs Q E _ _ _ _ h => absurd h (no vs H Q E)⟩
  | n + 1 => by
    have Dself : Df P w K mg base n "_law_count" ["_law_value"] (spCnt n) := ⟨f, fd, ok_cnt F b g M n, b, F.kp, g⟩
    refine F.ok sc__law_count (fun vs H Q E h => ?_) (fun cdv A outer s H vs Q E hr h => ?_)
    · obtain ⟨v, t, rfl, _⟩ := h
      rfl
    obtain ⟨v, t, rfl, hv, hl, hn, q⟩ := h
    refine ⟨_, (pss_cons (ps_if (pt_cmpR op_isN (pv 0) pe_non (nomark _))
      (pss_one (ps_ret pe_int)) pss_nil)
    (pss_cons (ps_if (PW.pt (pw_or (pt_not (pt_val (pe_callB call_isi rfl M.isi (by decide +kernel) (pa_cons (pv 0) (pa_cons (pe_bltn (v := .ty "tuple") rfl M.tuple (by decide +kernel) rfl) pa_nil))))) (pw_or (pt_cmpR op_ne (pe_callB call_len_seq rfl M.len PySem.boot_len (pa_cons (pv 0) pa_nil)) pe_int (nomark _)) (pw_or1 (pt_not (pt_val (pe_callB call_isi rfl M.isi (by decide +kernel) (pa_cons (pe_ix ix_tup (pv 0) pe_int (fun _ _ => rfl)) (pa_cons (pe_bltn (v := .ty "str") rfl M.str (by decide +kernel) rfl) pa_nil)))))))))
      (pss_one (ps_ret (pe_un un_neg pe_int))) pss_nil)
    (pss_cons (ps_par (i := 1) (j := 2) (by rfl) sc__law_count.nd rfl rfl (by decide) rfl rfl (pa_cons (pe_call Dself.ok (hr.mono (by omega)) rfl Dself.g Dself.kp Dself.b .nil pass0 (pa_cons (pe_ix ix_tup (pv 0) pe_int (fun _ _ => rfl)) pa_nil)) (pa_cons (pe_call Dself.ok (hr.mono (by omega)) rfl Dself.g Dself.kp Dself.b .nil pass0 (pa_cons (pe_ix ix_tup (pv 0) pe_int (fun _ _ => rfl)) pa_nil)) pa_nil)) (by rfl))
    (pss_cons (ps_if (PW.pt (pw_or (pt_cmpR op_lt (pv 1) pe_int (nomark _)) (pw_or (pt_cmpR op_lt (pv 2) pe_int (nomark _)) (pw_or1 (pt_cmpR (show OpR _ (compareOp .NotIn) (rIn K true) from op_notIn_seq) (pe_ix ix_tup (pv 0) pe_int (fun _ _ => rfl)) (pe_callTy (call_signs rfl) rfl M.list (by decide +kernel) (pa_cons pe_str pa_nil)) (by rfl))))))
      (pss_one (ps_ret (pe_un un_neg pe_int))) pss_nil)
    (pss_one (ps_ret (pe_op op_add (pe_op op_add (pv 1) pe_int) (pv 2)))))))), ?_⟩
    rcases hv.inv with ⟨rfl, rfl⟩ | ⟨a, l, r, x, tl, tr, rfl, rfl, ea, hvl, hvr⟩
    · exact ⟨_, rfl, rfl, _, rfl, iteT (q H (Same.refl H))⟩
    obtain ⟨ll, ⟨c, c1, c2, rfl⟩, lr⟩ := T.lt_node hl
    have hd : 1 + max tl.deep tr.deep < n + 1 := hn
    refine ⟨_, rfl, rfl, _, rfl, iteF ?_⟩
    refine ⟨_, rfl, _, _, _, _, true, rfl, .ty _, .base (.tup ea), kit_ty (by decide +kernel), _, rfl, iteF ?_⟩
    refine ⟨_, rfl, a, _, rfl, .inr (SqT.of ea), rfl, _, rfl, iteF ?_⟩
    refine ⟨_, rfl, a, _, 1, _, rfl, rfl, SqT.of ea, atI_nat (j := 1) rfl, _, _, _, _, true, rfl, .ty _, .base (.str _), kit_ty (by decide +kernel), _, rfl, iteF ?_⟩
    refine ⟨_, rfl, a, _, 0, l, rfl, rfl, SqT.of ea, atI_nat (j := 0) rfl, l, tl, rfl, hvl, ll, by omega, fun H1 s1 => ?_⟩
    have ea1 := s1 _ _ ea
    refine ⟨_, rfl, a, _, 2, r, rfl, rfl, SqT.of ea1, atI_nat (j := 2) rfl, r, tr, rfl, hvr.same s1, lr, by omega, fun H2 s2 => ?_⟩
    have ea2 := s2 _ _ ea1
    refine ⟨_, _, rfl, ?_⟩
    refine ⟨_, rfl, _, _, rfl, rfl, _, rfl, ?_⟩
    rw [decide_eq_false (show ¬ ((tl.size : Nat) : Int) < 0 by omega)]
    refine iteF ⟨_, rfl, _, _, rfl, rfl, _, rfl, ?_⟩
    rw [decide_eq_false (show ¬ ((tr.size : Nat) : Int) < 0 by omega)]
    refine iteF ⟨_, rfl, a, _, 1, _, rfl, rfl, SqT.of ea2, atI_nat (j := 1) rfl, ?_⟩
    refine ⟨_, rfl, by decide +kernel, fun sa nsa => ?_⟩
    refine ⟨sa, _, rfl, .inl (SqL.of upd_same), rfl, by decide +kernel, _, rfl, ?_⟩
    rw [show (if true = true then !inV (.str ⟨#[c]⟩) ((Str.ofString "abcdefghijklmnopqrstuvwxyz").cps.toList.map fun c => V.str ⟨#[c]⟩) else inV (.str ⟨#[c]⟩) ((Str.ofString "abcdefghijklmnopqrstuvwxyz").cps.toList.map fun c => V.str ⟨#[c]⟩)) = !inV (.str ⟨#[c]⟩) ((Str.ofString "abcdefghijklmnopqrstuvwxyz").cps.toList.map fun c => V.str ⟨#[c]⟩) from rfl, in_low, show isLow c = true by unfold isLow; rw [decide_eq_true c1, decide_eq_true c2]; rfl]
    refine iteF ⟨_, rfl, _, _, rfl, rfl, _, rfl, _, _, rfl, rfl, ?_⟩
    have e : (tl.size : Int) + 1 + (tr.size : Int) = ((T.node tl ⟨#[c]⟩ tr).size : Int) := by
      show _ = ((tl.size + 1 + tr.size : Nat) : Int)
      omega
    show Q (.int ((tl.size : Int) + 1 + (tr.size : Int))) _
    rw [e]
    exact q _ (s1.trans (s2.trans (same_new nsa _)))
theorem ok_nodesL (F : Fun K "_law_nodes" "_law_nodes" s__law_nodes f fd) : FnOk P w K mg base CX0 1 f fd ["_law_tree_here"] spNodesL := by
  refine F.ok sc__law_nodes (fun vs H Q E h => ?_) (fun cdv A outer s H vs Q E hr h => ?_)
  · obtain ⟨v, t, rfl, _⟩ := h
    rfl
  obtain ⟨v, t, rfl, bt, hz, q⟩ := h
  refine ⟨_, (pss_cons (ps_par (i := 1) (j := 2) (by rfl) sc__law_nodes.nd rfl rfl (by decide) rfl rfl (pa_cons (pe_lst pa_nil) (pa_cons (pe_lst (pa_cons (pe_tup (pa_cons pe_str (pa_cons (pv 0) pa_nil))) pa_nil)) pa_nil)) (by rfl))
    (pss_cons (ps_while PassesOwn.never (pt_cmpR (op_neL hr.units0) (pv 2) (pe_lst pa_nil) (nomark _))
      (pss_cons (ps_asg (pe_bm0 PySem.F.plainAttrs_list PySem.F.slot_list_pop PySem.F.type_list_pop mt_pop (pv 2)) (pg_tup rfl (pgs_cons (pg_name (i := 3) sc__law_nodes.nd rfl (.inl rfl)) (pgs_cons (pg_name (i := 4) sc__law_nodes.nd rfl (.inl rfl)) pgs_nil))))
    (pss_one (ps_if (pt_cmpR op_notN (pv 4) pe_non (nomark _))
      (pss_cons (ps_expr (pe_bm PySem.F.plainAttrs_list PySem.F.slot_list_append PySem.F.type_list_append mt_append (pv 1) (pa_cons (pe_tup (pa_cons (pv 3) (pa_cons (pe_ix ix_tup (pv 4) pe_int (fun _ _ => rfl)) pa_nil))) pa_nil)))
    (pss_one (ps_set (i := 2) sc__law_nodes.nd rfl (.inl rfl) (pe_op op_cat (pv 2) (pe_lst (pa_cons (pe_tup (pa_cons (pe_op op_add_str (pv 3) pe_str) (pa_cons (pe_ix ix_tup (pv 4) pe_int (fun _ _ => rfl)) pa_nil))) (pa_cons (pe_tup (pa_cons (pe_op op_add_str (pv 3) pe_str) (pa_cons (pe_ix ix_tup (pv 4) pe_int (fun _ _ => rfl)) pa_nil))) pa_nil))))))) pss_nil))))
    (pss_one (ps_ret (pv 1))))), ?_⟩
  refine ⟨(by show 0 ≤ sizeLine; decide), fun Fd nF => ⟨_, rfl, (by show 2 ≤ sizeLine; decide), fun b nb => ⟨(by show 1 ≤ sizeLine; decide), fun Wd nW => ?_⟩⟩⟩
  refine ⟨_, _, rfl, ?_⟩
  have k0 := same_new nF (.lst [])
  have k1 := same_new nb (.tup [.str "", v])
  have k2 := same_new nW (.lst [.ref b])
  have eF := k2 _ _ (k1 _ _ (upd_same (H := H) (a := Fd) (o := .lst [])))
  have bt' := bt.same (k0.trans (k1.trans k2))
  have eb := k2 _ _ (upd_same (H := upd H Fd (.lst [])) (a := b) (o := .tup [.str "", v]))
  have eW := upd_same (H := upd (upd H Fd (.lst [])) b (.tup [.str "", v])) (a := Wd) (o := .lst [.ref b])
  have s0 := k0.trans (k1.trans k2)
  have nFW : Fd ≠ Wd := ne_of_none (k1 _ _ (upd_same (H := H) (a := Fd) (o := .lst []))) nW
  have hFW : H Wd = none := by
    cases e : H Wd with
    | none => rfl
    | some o => rw [k1 _ _ (k0 _ _ e)] at nW; cases nW
  generalize upd (upd (upd H Fd (.lst [])) b (.tup [.str "", v])) Wd (.lst [.ref b]) = H0 at eF bt' eb eW s0 ⊢
  have WI : ∃ W : Nat → L2.St → Hp → Prop, W = fun m σ H2 => ∃ (Wd : Addr) (us items : List V) (st : List (List Nat × T)) (o3 o4 : Option V), σ = [some v, some (.ref Fd), some (.ref Wd), o3, o4] ∧ Same H H2 ∧ H Wd = none ∧ Fd ≠ Wd ∧ H2 Fd = some (.lst us) ∧ H2 Wd = some (.lst items) ∧ Stk H2 items st ∧ NdAt H2 us ((t.nd []).take us.length) ∧
      (t.nd []).drop us.length = rem st ∧ us.length ≤ t.size ∧ m = mea st ∧ mea st ≤ 121 ∧ ∀ p ∈ st, p.1.length + p.2.size ≤ 60 := ⟨_, rfl⟩
  obtain ⟨W, hW⟩ := WI
  refine ⟨W, ⟨mea [([], t)], ?_⟩, fun m σ H2 hp => ?_⟩
  · rw [hW]
    refine ⟨Wd, [], [.ref b], [([], t)], none, none, rfl, s0, hFW, nFW, eF, eW, .snoc (vs := []) (st := []) .nil eb bt', ⟨rfl, fun j u e h1 _ => by simp at h1⟩, ?_, Nat.zero_le _, rfl, ?_, fun p hp => ?_⟩
    · show (t.nd []).drop 0 = rem ([] ++ [([], t)])
      rw [rem_snoc]
      show t.nd [] = t.nd [] ++ []
      rw [List.append_nil]
    · show 2 * t.size + 1 + 0 ≤ 121
      omega
    · rw [List.mem_singleton.mp hp]
      show 0 + t.size ≤ 60
      omega
  · rw [hW] at hp
    obtain ⟨Wd, us, items, st, o3, o4, rfl, s2, hWn, nFW, eF2, eW2, sk, nd, hd, hy, rfl, hm, hq⟩ := hp
    clear eW eb bt' nb nW k0 k1 k2 s0 eF hFW
    refine ⟨_, rfl, (by show 0 ≤ sizeLine; decide), fun el ne => ?_⟩
    have q3 := same_new ne (.lst [])
    refine ⟨Wd, el, _, rfl, rfl, SqL.of (q3 _ _ eW2), SqL.of upd_same, _, rfl, ?_⟩
    have s3 := s2.trans q3
    have eF3 := q3 _ _ eF2
    have eW3 := q3 _ _ eW2
    have sk3 := sk.keep (Tw.Same.keepT q3)
    have nd3 := nd.keep (Tw.Same.keepT q3)
    generalize upd H2 el (.lst []) = H3 at s3 eF3 eW3 sk3 nd3 ⊢
    clear s2 eF2 eW2 sk nd ne q3
    cases sk3 with
    | nil =>
      refine iteF ?_
      have hd : (t.nd []).drop us.length = [] := hd
      have hl := List.drop_eq_nil_iff.mp hd
      rw [List.take_of_length_le hl] at nd3
      have hFn : H Fd = none := by
        cases e : H Fd with
        | none => rfl
        | some o => rw [e] at nF; cases nF
      exact ⟨_, rfl, q Fd us _ s3 hFn eF3 nd3⟩
    | @snoc vs st' a pv q' t' sk' ea bp =>
      have ne : (!(vs ++ [V.ref a]).isEmpty) = true := by cases vs <;> rfl
      rw [ne]
      refine iteT ⟨fun σ' H' => ∃ m', m' < mea (st' ++ [(q', t')]) ∧ W m' σ' H', fun σ' H' h => h, ?_⟩
      have sl := sk'.len
      have ml := mea_len st'
      rw [mea_snoc] at hm
      have hq' : ∀ p ∈ st', p.1.length + p.2.size ≤ 60 := fun p hp => hq p (List.mem_append_left _ hp)
      have hq2 : q'.length + t'.size ≤ 60 := hq (q', t') (List.mem_append_right _ (List.mem_singleton.mpr rfl))
      rw [rem_snoc] at hd
      refine ⟨.ref Wd, rfl, .inl ⟨rfl, _, SqL.of eW3⟩, Wd, _, .ref a, rfl, rfl, eW3, by rw [List.length_append]; simp, ?_⟩
      have ka : KeepT H3 (upd H3 Wd (.lst (vs ++ [V.ref a]).dropLast)) := fun b xs e => by rw [upd_ne (ne_of e eW3 (by intro z; cases z))]; exact e
      have eW4 : (upd H3 Wd (.lst (vs ++ [V.ref a]).dropLast)) Wd = some (.lst vs) := by rw [upd_same, List.dropLast_concat]
      have eF4 : (upd H3 Wd (.lst (vs ++ [V.ref a]).dropLast)) Fd = some (.lst us) := by rw [upd_ne nFW]; exact eF3
      have s4 : Same H (upd H3 Wd (.lst (vs ++ [V.ref a]).dropLast)) := fun b o e => by rw [upd_ne (ne_of_none e hWn)]; exact s3 _ _ e
      have sk4 := sk'.keep ka
      have ea4 := ka _ _ ea
      have bp4 := bp.keep ka
      have nd4 := nd3.keep ka
      generalize upd H3 Wd (.lst (vs ++ [V.ref a]).dropLast) = H4 at eW4 eF4 s4 sk4 ea4 bp4 nd4 ⊢
      refine ⟨a, _, rfl, SqT.of ea4, rfl, _, _, rfl, _, _, rfl, rfl, ?_⟩
      clear eW3 eF3 s3 nd3 ka ne sk' ea bp
      rcases bp4.inv with ⟨rfl, rfl⟩ | ⟨c, lv, rv, x, tl, tr, rfl, rfl, ec, bl, br⟩
      · refine ⟨_, rfl, rfl, _, rfl, ?_⟩
        rw [show (!decide ((V.non : V) = V.non)) = false from rfl]
        refine iteF ⟨mea st', ?_, ?_⟩
        · rw [mea_snoc]
          show mea st' < mea st' + (2 * 0 + 1)
          omega
        · rw [hW]
          exact ⟨Wd, us, vs, st', _, _, rfl, s4, hWn, nFW, eF4, eW4, sk4, nd4, hd, hy, rfl, by omega, hq'⟩
      · refine ⟨_, rfl, rfl, _, rfl, ?_⟩
        rw [show (!decide (V.ref c = V.non)) = true from rfl]
        have sz : (T.node tl x tr).size = tl.size + 1 + tr.size := rfl
        have nl := congrArg List.length hd
        rw [List.length_drop, t.nd_len, List.length_append, T.nd_len] at nl
        have hy2 : us.length < t.size := by omega
        have hix : (t.nd [])[us.length]? = some (q', x) := by
          have : ((t.nd []).drop us.length)[0]? = some (q', x) := by rw [hd]; rfl
          rw [List.getElem?_drop] at this
          exact this
        refine iteT ⟨.ref Fd, rfl, .inl ⟨rfl, _, SqL.of eF4⟩, _, rfl, _, rfl, c, _, 1, _, rfl, rfl, SqT.of ec, atI_nat (j := 1) rfl, (by show 2 ≤ sizeLine; decide), fun y ny => ?_⟩
        have k5 := same_new ny (.tup [.str (tx q'), .str x])
        have ey := upd_same (H := H4) (a := y) (o := .tup [.str (tx q'), .str x])
        refine ⟨Fd, us, _, rfl, rfl, k5 _ _ eF4, Nat.lt_of_lt_of_le hy2 (Nat.le_trans hz (small (by omega))), ?_⟩
        have s5 := s4.trans k5
        have eW5 := k5 _ _ eW4
        have eF5 := k5 _ _ eF4
        have kt5 := Tw.Same.keepT k5
        have sk5 := sk4.keep kt5
        have nd5 := nd4.keep kt5
        have bl5 := bl.keep kt5
        have br5 := br.keep kt5
        have ec5 := kt5 _ _ ec
        generalize upd H4 y (.tup [.str (tx q'), .str x]) = H5 at ey s5 eW5 eF5 sk5 nd5 bl5 br5 ec5 ⊢
        have hFn : H Fd = none := by
          cases e : H Fd with
          | none => rfl
          | some o => rw [e] at nF; cases nF
        have k6 : KeepT H5 (upd H5 Fd (.lst (us ++ [.ref y]))) := fun b xs e => by rw [upd_ne (ne_of e eF5 (by intro z; cases z))]; exact e
        have s6 : Same H (upd H5 Fd (.lst (us ++ [.ref y]))) := fun b o e => by rw [upd_ne (ne_of_none e hFn)]; exact s5 _ _ e
        have eW6 : (upd H5 Fd (.lst (us ++ [.ref y]))) Wd = some (.lst vs) := by rw [upd_ne (Ne.symm nFW)]; exact eW5
        have eF6 := upd_same (H := H5) (a := Fd) (o := .lst (us ++ [.ref y]))
        have sk6 := sk5.keep k6
        have nd6 := (nd5.keep k6).snoc (k6 _ _ ey) (e := (q', x))
        have bl6 := bl5.keep k6
        have br6 := br5.keep k6
        have ec6 := k6 _ _ ec5
        generalize upd H5 Fd (.lst (us ++ [.ref y])) = H6 at s6 eW6 eF6 sk6 nd6 bl6 br6 ec6 ⊢
        clear ny eW4 eF4 s4 sk4 ea4 bp4 nd4 ec bl br k5 ey s5 eW5 eF5 kt5 sk5 nd5 bl5 br5 ec5 k6
        have ql : (tx q').length = q'.length := rfl
        have er : (tx q' ++ "r" : Str) = tx (q' ++ [114]) := by rw [show ("r" : Str) = tx [114] by decide +kernel, tx_app]
        have el : (tx q' ++ "l" : Str) = tx (q' ++ [108]) := by rw [show ("l" : Str) = tx [108] by decide +kernel, tx_app]
        refine ⟨_, rfl, _, rfl, _, _, rfl, rfl, small (by rw [ql]; show q'.length + 1 ≤ 1000; omega), _, rfl, c, _, 2, _, rfl, rfl, SqT.of ec6, atI_nat (j := 2) rfl, (by show 2 ≤ sizeLine; decide), fun r1 n1 => ?_⟩
        rw [er]
        have k7 := same_new n1 (.tup [.str (tx (q' ++ [114])), rv])
        have e7 := upd_same (H := H6) (a := r1) (o := .tup [.str (tx (q' ++ [114])), rv])
        generalize upd H6 r1 (.tup [.str (tx (q' ++ [114])), rv]) = H7 at k7 e7 ⊢
        refine ⟨_, rfl, _, _, rfl, rfl, small (by rw [ql]; show q'.length + 1 ≤ 1000; omega), _, rfl, c, _, 0, _, rfl, rfl, SqT.of (k7 _ _ ec6), atI_nat (j := 0) rfl, (by show 2 ≤ sizeLine; decide), fun r2 n2 => ?_⟩
        rw [el]
        have k8 := same_new n2 (.tup [.str (tx (q' ++ [108])), lv])
        have e8 := upd_same (H := H7) (a := r2) (o := .tup [.str (tx (q' ++ [108])), lv])
        have e78 := k8 _ _ e7
        have k78 := k7.trans k8
        generalize upd H7 r2 (.tup [.str (tx (q' ++ [108])), lv]) = H8 at k78 e8 e78 ⊢
        refine ⟨(by show 2 ≤ sizeLine; decide), fun Ld nL => ?_⟩
        have k9 := same_new nL (.lst [.ref r1, .ref r2])
        have e9 := upd_same (H := H8) (a := Ld) (o := .lst [.ref r1, .ref r2])
        have e99 := k9 _ _ e8
        have e97 := k9 _ _ e78
        have k69 := k78.trans k9
        generalize upd H8 Ld (.lst [.ref r1, .ref r2]) = H9 at k69 e9 e99 e97 ⊢
        refine ⟨Wd, Ld, vs, _, rfl, rfl, k69 _ _ eW6, e9, small (by show vs.length + 2 ≤ 1000; omega), fun W2 nW2 => ?_⟩
        have kA := k69.trans (same_new nW2 (.lst (vs ++ [.ref r1, .ref r2])))
        have kB := same_new nW2 (.lst (vs ++ [.ref r1, .ref r2]))
        have mm : mea (st' ++ [(q' ++ [114], tr)] ++ [(q' ++ [108], tl)]) = mea st' + (2 * tr.size + 1) + (2 * tl.size + 1) := by rw [mea_snoc, mea_snoc]
        have ktA := Tw.Same.keepT kA
        have ss := Stk.snoc (Stk.snoc (sk6.keep ktA) (kB _ _ e97) (br6.keep ktA)) (kB _ _ e99) (bl6.keep ktA)
        rw [List.append_assoc] at ss
        refine ⟨mea (st' ++ [(q' ++ [114], tr)] ++ [(q' ++ [108], tl)]), ?_, ?_⟩
        · rw [mm, mea_snoc]
          show _ < mea st' + (2 * (tl.size + 1 + tr.size) + 1)
          omega
        · rw [hW]
          have tk : (t.nd []).take (us ++ [V.ref y]).length = (t.nd []).take us.length ++ [(q', x)] := by
            rw [List.length_append]
            show (t.nd []).take (us.length + 1) = _
            rw [List.take_add_one, hix]
            rfl
          refine ⟨W2, _, _, _, _, _, rfl, s6.trans kA, ?_, ?_, kA _ _ eF6, upd_same, ss, by rw [tk]; exact nd6.keep ktA, ?_, ?_, rfl, by omega, fun p hp => ?_⟩
          · cases e : H W2 with
            | none => rfl
            | some o => rw [k69 _ _ (s6 _ _ e)] at nW2; cases nW2
          · exact fun z => by rw [← z, k69 _ _ eF6] at nW2; cases nW2
          · rw [rem_snoc, rem_snoc, List.length_append, ← List.drop_drop, hd]
            show (tl.nd (q' ++ [108]) ++ tr.nd (q' ++ [114])) ++ rem st' = _
            rw [List.append_assoc]
          · rw [List.length_append]
            exact hy2
          · rcases List.mem_append.mp hp with hp | hp
            · rcases List.mem_append.mp hp with hp | hp
              · exact hq' p hp
              · rw [List.mem_singleton.mp hp]
                show (q' ++ [114]).length + tr.size ≤ 60
                rw [List.length_append]
                show q'.length + 1 + _ ≤ 60
                omega
            · rw [List.mem_singleton.mp hp]
              show (q' ++ [108]).length + tl.size ≤ 60
              rw [List.length_append]
              show q'.length + 1 + _ ≤ 60
              omega
end
/-! ### own errors with one field, over ValueError or LookupError -/
section
open PySem.Builtin PySem.Builtin.ObjectAttr PySem.HandSPX
/-- own classes, then the mro of the built-in one -/
def refsT (tail : List Value) : List Value → Bool
  | .ref _ :: r => refsT tail r
  | l => l == tail
/-- a family of errors: what the library says of its built-in class -/
structure Fam (B newId initId : String) (tail : List Value) : Prop where
  facts : ExcBaseFacts B newId initId tail
  pass : ∀ self, refuseLoop self "__setattr__" tail = pure ()
  obj : tail.contains (.type "object") = true
theorem famV : Fam "ValueError" "ValueError.__new__" "ValueError.__init__" [.type "ValueError", .type "Exception", .type "BaseException", .type "object"] := ⟨F.excBase_ValueError, fun self => F.store_ValueError.passes self, by decide +kernel⟩
theorem famL : Fam "LookupError" "LookupError.__new__" "LookupError.__init__" [.type "LookupError", .type "Exception", .type "BaseException", .type "object"] := ⟨F.excBase_LookupError, fun self => F.store_LookupError.passes self, by decide +kernel⟩
theorem refsT_or {tail : List Value} (l : List Value) (h : refsT tail l = true) : (∃ c r, l = .ref c :: r ∧ refsT tail r = true) ∨ l = tail := by
  unfold refsT at h
  split at h
  · exact .inl ⟨_, _, rfl, h⟩
  · exact .inr (beq_iff_eq.mp h)
theorem refsT_all {tail : List Value} {Good : List Value → Prop} (h0 : Good tail) (hs : ∀ c r, Good r → Good (.ref c :: r)) : ∀ l : List Value, refsT tail l = true → Good l
  | [], h => by
    rcases refsT_or [] h with ⟨_, _, e, _⟩ | e
    · cases e
    · rw [e]; exact h0
  | a :: r, h => by
    rcases refsT_or (a :: r) h with ⟨c, r', e, h'⟩ | e
    · cases e
      exact hs c r (refsT_all h0 hs r h')
    · rw [e]; exact h0
variable {B newId initId : String} {tail : List Value}
theorem Fam.passes (fam : Fam B newId initId tail) (self : Value) (l : List Value) (h : refsT tail l = true) : refuseLoop self "__setattr__" l = pure () :=
  refsT_all (Good := fun l => refuseLoop self "__setattr__" l = pure ()) (fam.pass self) (fun c r e => by rw [refuseLoop_ref]; exact e) l h
theorem refsT_has (X : String) (l : List Value) (h : refsT tail l = true) : l.contains (.type X) = tail.contains (.type X) :=
  refsT_all (Good := fun l => l.contains (.type X) = tail.contains (.type X)) rfl (fun c r e => by rw [List.contains_cons, e]; rfl) l h
theorem Fam.some (fam : Fam B newId initId tail) (l : List Value) (h : refsT tail l = true) : l.isEmpty = false := by
  cases l with
  | nil =>
    have e := refsT_has "object" [] h
    rw [fam.obj] at e
    exact absurd e (by decide)
  | cons _ _ => rfl
/-- the first field of an error -/
theorem first_field {prog : Program} {w : World} {A : Around} {R : Result → Shared → Prop} {hp : Heap} {g : Array GenState} {d : Drawn} {t : Nat} {os : OsState} {K : PySem.W.Frag} {name : Str} {tk : Tok} {v : Value} {x C : Addr} {fv : Array Value} {cd : ClassData}
    (fam : Fam B newId initId tail) (inK : K.In hp) (isX : hp.get? x = some { cls := .ref C, data := .fields fv }) (isC : PySem.W.clsIn K C = some cd)
    (isM : refsT tail cd.mro = true) (dict : cd.hasDict = true) (free : PySem.W.findIn K (.ref C) name = some none)
    (done : ∀ h' tk' dx, (∀ b o, b ≠ x → hp.get? b = some o → h'.get? b = some o) → hp.objs.size ≤ dx → dx ≠ x →
      h'.get? x = some { cls := .ref C, dict := some dx, data := .fields fv } → h'.Ns1 dx (fun y => if y = name then some v else none) → R (.ok (.ret .none)) ⟨h', g, d, tk', os⟩) :
    codeAny (model prog w) A (.call (.builtin "object.__setattr__") ⟨[.ref x, .str name tk, v], []⟩) R ⟨hp, g, d, t, os⟩ := by
  have at0 : PySem.W.InstAt hp x { cls := .ref C, data := .fields fv } C none := ⟨isX, rfl, rfl, trivial⟩
  have store := PySem.F.store_object
  have hasObj : cd.mro.contains (.type "object") = true := (refsT_has "object" _ isM).trans fam.obj
  have notNew : x ≠ hp.objs.size := Nat.ne_of_lt (Heap.lt_size isX)
  have isSub : PySem.W.Looks (model prog w) hp (isInstance (.ref x) (.type "object")) true := by
    refine at0.type.andThen (PySem.W.looks_mroIn inK ?_)
    unfold PySem.W.mroIn
    rw [isC, Option.bind_some, if_neg (by rw [fam.some _ isM]; decide), hasObj]
  refine codeAny_call_builtin store.slot.plain store.entry ?_
  refine @PySem.W.check_slot (model prog w) _ _ ⟨hp, g, d, t, os⟩ "object.__setattr__" "object" "__setattr__" (.ref x) [.str name tk, v] [] _ store.kind store.split isSub
    (store.args (.ref x) (.str name tk) v) ?_
  have mroL : PySem.W.Looks (model prog w) hp (mroOf (.ref C)) cd.mro := (PySem.W.looks_clsIn inK isC).andThen .now
  have noTaker : PySem.W.Looks (model prog w) hp (storeTaker? none) none := .now
  have clsL : PySem.W.Looks (model prog w) hp (classData C) cd := PySem.W.looks_clsIn inK isC
  rw [PySem.W.osa_eq, refuse_eq]
  refine wpAny_bind (wpAny_bind (at0.type.at (wpAny_bind (mroL.at ?_))))
  rw [fam.passes _ _ isM]
  refine wpAny_pure (wpAny_bind (at0.type.at (wpAny_bind ((PySem.W.looks_findIn inK free).at ?_))))
  refine wpAny_bind (noTaker.at ?_)
  show wpAny _ _ (storeInOwnDict (.ref x) (.ref C) (.str name tk) name v false) _ _ _
  obtain ⟨nm, bs, mro, nsA, qn, hd, sn, sb, ab, col, del⟩ := cd
  dsimp only at dict
  subst dict
  unfold storeInOwnDict ownDictForStores
  repeat (first
    | with_reducible refine store_in_new ?_ ?_
    | with_reducible refine wpAny_loadPart_at isX ?_
    | with_reducible refine clsL.at ?_
    | wp_step)
  · refine ⟨_, #[], _, (Heap.get?_update_ne _ _ _ _ notNew.symm).trans (Heap.get?_push_at rfl rfl), rfl, ?_, fun _ => rfl⟩
    intro e he
    exact absurd he (by simp)
  · intro h' tk' ns1 same
    have isX1 : (hp.push { cls := .type "dict", data := .dict #[] }).get? x = some { cls := .ref C, data := .fields fv } := Heap.get?_push_of_some _ isX
    refine done h' tk' hp.objs.size ?_ (Nat.le_refl _) notNew.symm ?_ ns1
    · intro b o hb ho
      refine (same.2 b (Nat.ne_of_lt (Heap.lt_size ho))).trans ?_
      exact (Heap.get?_update_ne _ _ _ _ hb).trans (Heap.get?_push_of_some _ ho)
    · exact (same.2 x notNew).trans (Heap.get?_update_self _ isX1 rfl)
end
/-! ### errors with the field limit -/
def iA_limit (p1 p2 : Pos) : Arguments := { posonlyargs := [], args := [{ arg := "self", annotation := none, pos := p1 }, { arg := "limit", annotation := none, pos := p2 }], vararg := none, kwonlyargs := [], kw_defaults := [], kwarg := none, defaults := [] }
def iB_limit (q1 q2 q3 q4 : Pos) : List Stmt := [.Assign [.Attribute (.Name "self" q1) "limit" q2] (.Name "limit" q3) q4]
def iS_limit : Scope := { kind := .function, names := [(PySem.Str.ofString "self", .local), (PySem.Str.ofString "limit", .local)], isGenerator := false, isCoroutine := false, more := [] }
/-- what the written part says of the class cn, at C, and of its __init__, at fI -/
structure Err_limit (K : PySem.W.Frag) (mg : Str → Option Value) (newId : String) (tail : List Value) (cn qn : Str) (C fI : Addr) : Prop where
  gC : mg cn = some (.ref C)
  nd : (cn == ("__debug__" : Str)) = false
  cls : ∃ nm q N bs bm sn sub ab col dd k0 k1 k2 k3 k5, K.lookup C = some (excClassObj nm q C N bs bm true sn sub ab col dd k0 k1 k2 k3 k5 newId) ∧ refsT tail bm = true
  sa : PySem.W.findIn K (.ref C) "__setattr__" = some (some (.builtin "object.__setattr__"))
  ga : PySem.W.findIn K (.ref C) "__getattribute__" = some (some (.builtin "BaseException.__getattribute__"))
  gg : PySem.W.findIn K (.ref C) "__getattr__" = some none
  noN : PySem.W.findIn K (.ref C) "limit" = some none
  iC : PySem.W.findIn K (.ref C) "__init__" = some (some (.ref fI))
  tC : PySem.W.typeIn K (.ref fI) = some (.type "function")
  kC : PySem.W.keepIn K (.ref C) = true
  exC : PySem.W.subIn K (.ref C) (.type "BaseException") = some true
  tyC : PySem.W.typeIn K (.ref C) = some (.type "type")
  hdC : PySem.W.hasDictIn K C = true
  fn : ∃ (oc : Value) (od : Option Addr) (doc pm : Value) (an : Option Addr) (cdv ct : Value) (osl : Array (Option Value)) (p1 p2 q1 q2 q3 q4 : Pos),
    K.lookup fI = some ⟨oc, od, .func (PySem.W.fnOf "__init__" qn (iA_limit p1 p2) (iB_limit q1 q2 q3 q4) iS_limit .none .none doc pm an cdv ct), osl⟩ ∧ PySem.W.codeIn K cdv qn = true
section
open PySem.Builtin PySem.Builtin.ObjectAttr PySem.HandSPX
variable {prog : Program} {w : World} {A : Around} {E : Value → Shared → Prop} {R : Result → Shared → Prop} {s : Shared} {K : PySem.W.Frag} {mg : Str → Option Value} {C fI : Addr} {B newId initId : String} {tail : List Value} {cn qn : Str}
theorem init_limit (fam : Fam B newId initId tail) (T : Err_limit K mg newId tail cn qn C fI) {x t0 : Addr} {v : Value} (inK : K.In s.heap) (lim : s.heap.NoLimit) (isX : s.heap.get? x = some (excO C t0)) (offK : K.lookup x = none) (room : A.depth < recursionLimit)
    (done : ∀ h' tk dx, (∀ b o, b ≠ x → s.heap.get? b = some o → h'.get? b = some o) → h'.get? x = some { cls := .ref C, dict := some dx, data := .fields #[.ref t0, .none, .none, .none, .bool false, .none] } → s.heap.objs.size ≤ dx → dx ≠ x →
      h'.Ns1 dx (fun y => if y = "limit" then some v else none) → R (.ok (.ret .none)) { s with heap := h', toks := tk }) :
    codeAny (model prog w) A (.call (.ref fI) ⟨[.ref x, v], []⟩) R s := by
  obtain ⟨oc, od, doc, pm, an, cdv, ct, osl, p1, p2, q1, q2, q3, q4, isF, isCode⟩ := T.fn
  obtain ⟨nm, q, N, bs, bm, sn, sub, ab, col, dd, k0, k1, k2, k3, k5, isC, isM⟩ := T.cls
  have cls : PySem.W.clsIn K C = some { name := nm, bases := bs, mro := .ref C :: bm, ns := N, qualname := q, hasDict := true, slotNames := sn, subclasses := sub, abstract := ab, collection := col, hasDel := false } := by
    unfold PySem.W.clsIn
    rw [isC] <;> rfl
  refine Att.call_fn (binds := [("self", .ref x), ("limit", v)]) inK lim isF isCode room (BindsTo.of_eq (by first | rfl | with_unfolding_all rfl)) (by first | rfl | decide | with_unfolding_all rfl) (fun s₁ IC => ?_) rfl rfl rfl
  obtain ⟨h₁, tk₁, rfl⟩ := IC.toInCall.same
  have keep : ∀ b o, s.heap.get? b = some o → h₁.get? b = some o := IC.toInCall.keep
  have locals := IC.toInCall.ns
  have inK₁ : K.In h₁ := inK.keeps keep
  have isX₁ := keep _ _ isX
  show wpAny _ _ (execs _ _) _ _ _
  refine wpAny_execs_cons (plainObj_wpAny_Assign_Attribute ?_)
  refine wpAny_Name (wpAny_loadName_local (by rfl) (by rfl) locals (v := v) (by first | rfl | with_unfolding_all rfl | kernel_rfl) ?_) (by decide)
  refine wpAny_Name (wpAny_loadName_local (by rfl) (by rfl) locals (v := .ref x) (by first | rfl | with_unfolding_all rfl | kernel_rfl) ?_) (by decide)
  refine PySem.W.set_plain inK₁ (ox := excO C t0) (od := none) ⟨isX₁, rfl, rfl, trivial⟩ T.sa ?_
  refine first_field fam inK₁ isX₁ cls (show refsT tail (.ref C :: bm) = true from isM) rfl T.noN (fun h₃ tk₃ dx k₃ dn dne hx₃ hn₃ => ?_)
  show wpAny _ _ (execs _ _) _ _ _
  have z : s.heap.objs.size < h₁.objs.size := locals.lt
  exact wpAny_execs_nil (done h₃ tk₃ dx (fun b o hb e => k₃ b o hb (keep b o e)) hx₃ (Nat.le_of_lt (Nat.lt_of_lt_of_le z dn)) dne hn₃)
/-- a made error -/
structure Made_limit (h h' : Heap) (e C d : Addr) (v : Value) : Prop where
  keep : ∀ b o, h.get? b = some o → h'.get? b = some o
  new : h.objs.size ≤ e
  obj : ∃ oe vs, h'.get? e = some oe ∧ oe.cls = .ref C ∧ oe.dict = some d ∧ oe.data = .fields vs ∧ vs[1]? = some .none
  dbig : h.objs.size ≤ d
  dne : d ≠ e
  ns : h'.Ns1 d (fun y => if y = "limit" then some v else none)
theorem made_limit (fam : Fam B newId initId tail) (T : Err_limit K mg newId tail cn qn C fI) {v : Value} (inK : K.In s.heap) (lim : s.heap.NoLimit) (room : A.depth + 1 < recursionLimit)
    (done : ∀ h' tk e d, Made_limit s.heap h' e C d v → R (.ok (.ret (.ref e))) { s with heap := h', toks := tk }) :
    codeAny (model prog w) A (.call (.ref C) ⟨[v], []⟩) R s := by
  obtain ⟨nm, q, N, bs, bm, sn, sub, ab, col, dd, k0, k1, k2, k3, k5, isC, isM⟩ := T.cls
  obtain ⟨hp, g, dr, tk, os⟩ := s
  have keep : ∀ b o, hp.get? b = some o → ((hp.push (PySem.W.kdv_tup [v])).push (excO C hp.objs.size)).get? b = some o := fun b o e => Heap.get?_push_of_some _ (Heap.get?_push_of_some _ e)
  have isE : ((hp.push (PySem.W.kdv_tup [v])).push (excO C hp.objs.size)).get? (hp.objs.size + 1) = some (excO C hp.objs.size) := by heap_get
  have offK : K.lookup (hp.objs.size + 1) = none := by
    cases e : K.lookup (hp.objs.size + 1) with
    | none => rfl
    | some o => exact absurd (Nat.lt_of_succ_lt (Heap.lt_size (inK _ _ e))) (Nat.lt_irrefl _)
  refine call_own fam.facts (fun X => refsT_has X bm isM) (inK _ _ isC) (PySem.W.looks_findIn inK T.iC) (fun self => PySem.W.bind_fn inK self T.tC) (by show 1 ≤ sizeLine; decide) ?_
  refine init_limit (s := ⟨(hp.push (PySem.W.kdv_tup [v])).push (excO C hp.objs.size), g, dr, tk, os⟩) fam T (inK.keeps keep) (lim.keeps keep) isE offK ?_ fun h' tk' dx k' hx dn dne hns => ?_
  · show A.depth + 1 < recursionLimit
    exact room
  · have old : ∀ b o, hp.get? b = some o → h'.get? b = some o := fun b o e => k' b o (Nat.ne_of_lt (Nat.lt_succ_of_lt (Heap.lt_size e))) (keep b o e)
    have z : hp.objs.size + 1 + 1 ≤ dx := by
      have y := dn
      rw [Heap.size_push, Heap.size_push] at y
      exact y
    exact ⟨rfl, done h' tk' (hp.objs.size + 1) dx ⟨old, Nat.le_succ _, ⟨_, _, hx, rfl, rfl, rfl, rfl⟩, (show hp.objs.size ≤ dx by omega), dne, hns⟩⟩
end
theorem rel_limit {v : V} {u : Value} (r : RelV v u) (f : Str) : RelO (List.lookup f [(("limit" : Str), v)]) (if f = "limit" then some u else none) := by
  by_cases h : f = "limit"
  · subst h
    rw [if_pos rfl, show List.lookup ("limit" : Str) [(("limit" : Str), v)] = some v by simp [List.lookup]]
    exact r
  · have e : (f == ("limit" : Str)) = false := by simpa using h
    rw [if_neg h, show List.lookup f [(("limit" : Str), v)] = none by simp [List.lookup, e]]
    trivial
section
variable {X : Cx} {C fI : Addr} {B newId initId : String} {tail : List Value} {cn qn : Str}
/-- cn(e) -/
def tMk_limit (C : Addr) (ta : TA) : L2.St → Hp → XK → Prop := fun σ H Q => ta σ H fun vs H1 => ∃ v, vs = [v] ∧ ∀ d, H1 d = none → Q (.ref C) (some d) (upd H1 d (.xd [(("limit" : Str), v)]))
theorem pmk_limit {a : Expr} {ta : TA} {p pos : Pos} {k : Nat} (fam : Fam B newId initId tail) (T : Err_limit X.K X.mg newId tail cn qn C fI) (hr : Room k X.A) (ha : PA X [a] ta) (hg : Gl X cn)
    (he : starEach (a :: []) X.env = (false, eval a X.env) :: starEach [] X.env := by rfl) (hpl : (backTo pos (starEach [] X.env)).any (·.1) = false := by rfl) :
    PMk X (.Call (.Name cn p) [a] [] pos) (tMk_limit C ta) := by
  intro pins s σ H Q I h
  refine wpAny_Call_Name_kw (ld_glob I hg T.gC ?_ T.nd)
  refine PySem.W.callWith_K (h₀ := X.base) I.ok.mod.kin T.kC (thn (ha.run pos pins s σ H _ I h) ?_) he hpl
  rintro us s1 ⟨vs, H1, I1, r1, v, rfl, q1⟩
  refine ⟨I1.kIn, ?_⟩
  cases r1 with
  | @cons _ v' _ us' rv rn =>
    cases rn
    show wpAny _ _ (call (.ref C) [v']) _ _ _
    have lim := I1.nolimit
    obtain ⟨hp, g, dr, tk, os⟩ := s1
    refine wpAny_call (made_limit fam T I1.kIn lim (by have := hr.dp; omega) fun h' tk' e d M => ?_)
    show MkP X pins σ Q (.ref e) ⟨h', g, dr, tk', os⟩
    obtain ⟨oe, fv, hoe, hc, hd, hdat, h1⟩ := M.obj
    obtain ⟨G', g1, g2⟩ := restrict h' fun b => decide (b ≠ e)
    have gk : ∀ b, b ≠ e → G'.get? b = h'.get? b := fun b hb => g1 b (decide_eq_true hb)
    have ge : G'.get? e = none := g2 e (by simp)
    have old : ∀ b o, hp.get? b = some o → G'.get? b = some o := by
      intro b o z
      refine (gk b (Nat.ne_of_lt (Nat.lt_of_lt_of_le (Heap.lt_size z) M.new))).trans ?_
      exact M.keep b o z
    have ok : ObjOk X.prog X.w (upd H1 d (.xd [(("limit" : Str), v)])) G' d (.xd [(("limit" : Str), v)]) :=
      ⟨_, M.ns.at (fun o z => (gk d M.dne).trans z), fun f => rel_limit rv f⟩
    have J : Inv X pins σ (upd H1 d (.xd [(("limit" : Str), v)])) ⟨G', g, dr, tk', os⟩ := I1.laid (t' := tk') old M.dbig ok
    refine ⟨e, oe, fv, ⟨G', g, dr, tk', os⟩, _, .ref C, some d, rfl, J, ?_, ge, hoe, ⟨hc, hd⟩, hdat, h1, ?_, rfl, I1.bare, raises_own T.exC T.tyC, q1 d (I1.hok.fresh M.dbig)⟩
    · intro b o z
      by_cases hb : b = e
      · have z' : G'.get? b = some o := z
        rw [hb, ge] at z'
        cases z'
      · exact (gk b hb).symm.trans z
    · rw [upd_ne (Ne.symm M.dne)]
      exact I1.hok.fresh M.new
/-- raise cn(e) -/
def tRaise_limit (C : Addr) (W : WX) (ta : TA) : TS := fun _ σ H => tMk_limit C ta σ H fun cls d H' => W cls d σ H'
theorem ps_raise_limit {a : Expr} {ta : TA} {W : WX} {p pos pos2 : Pos} {k : Nat} (hc : X.calm = true) (fam : Fam B newId initId tail) (T : Err_limit X.K X.mg newId tail cn qn C fI) (hr : Room k X.A) (tk : Takes X W) (ha : PA X [a] ta) (hg : Gl X cn)
    (he : starEach (a :: []) X.env = (false, eval a X.env) :: starEach [] X.env := by rfl) (hpl : (backTo pos (starEach [] X.env)).any (·.1) = false := by rfl) :
    PS X (.Raise (some (.Call (.Name cn p) [a] [] pos)) none pos2) (tRaise_limit C W ta) := ps_raise hc tk (pmk_limit fam T hr ha hg he hpl)
/-- err.limit, err the error that the suite holds (at a; its class cls, its dict d) -/
def tFld_limit (C : Addr) (a : Addr) (cls : Value) (d : Option Addr) (te : TE) : TE := fun σ H Q => te σ H fun x H1 => x = .ref a ∧ cls = .ref C ∧ ∃ (dd : Addr) (v : V), d = some dd ∧ H1 dd = some (.xd [(("limit" : Str), v)]) ∧ Q v H1
theorem pe_fld_limit {a : Addr} {oe : Obj} {cls : Value} {d : Option Addr} {pn : List (Addr × Obj)} {e : Expr} {te : TE} {pos : Pos} (T : Err_limit X.K X.mg newId tail cn qn C fI) (hz : Zc cls d oe) (hf : ∃ vs, oe.data = .fields vs) (he : PE (X.suite a ((a, oe) :: pn)) e te)
    (hb : attributeBase e "limit" X.env (eval e X.env) = eval e X.env := by rfl) :
    PE (X.suite a ((a, oe) :: pn)) (.Attribute e "limit" pos) (tFld_limit C a cls d te) := by
  constructor
  intro pins s σ H Q I h
  refine attr_of hb (thn (he.run pins s σ H _ I h) ?_)
  rintro u s1 ⟨x, H1, I1, rx, rfl, rfl, dd, v, rfl, ea, q⟩
  cases rx
  obtain ⟨ha, _⟩ := I1.pin (a, oe) (List.mem_append_left _ List.mem_cons_self)
  obtain ⟨vs, hd⟩ := hf
  have ok : ObjOk X.prog X.w H1 s1.heap dd (.xd [(("limit" : Str), v)]) := I1.hok dd _ ea
  obtain ⟨mA, hns, hr⟩ := ok
  obtain ⟨od, ho, hl⟩ := lookIn_ns hns
  have look : List.lookup ("limit" : Str) [(("limit" : Str), v)] = some v := by simp [List.lookup]
  obtain ⟨u, hu, ru⟩ := RelO.some_of (v := v) (o := mA "limit") (by rw [← look]; exact hr "limit")
  have J : PySem.W.InstAt s1.heap a oe C (some od) := ⟨ha, hz.1, by unfold PySem.W.notCls; rw [hd] <;> rfl, by rw [hz.2]; exact ho⟩
  exact HandSPX.exc_get I1.kIn J T.ga T.gg T.exC (PySem.W.findObj_own T.hdC T.noN rfl (by rw [hl, hu])) (handed_of ru) ⟨v, H1, I1.tok _, ru, q⟩
end
/-! ### isinstance of a caught error that has a dict; several clauses 'except x as n' -/
/-- isinstance(e, c), e the error of the suite: its class D, its dict d -/
def rIsD (K : PySem.W.Frag) (D a : Addr) (d : Option Addr) : List V → Hp → VK → Prop := fun xs H Q =>
  ∃ c u b dd fs, xs = [.ref a, c] ∧ ClsV c u ∧ d = some dd ∧ H dd = some (.xd fs) ∧ PySem.W.kitOne K (.ref D) u = some b ∧ Q (.bl b) H
def rIsDT (K : PySem.W.Frag) (D a : Addr) (d : Option Addr) : List V → Hp → VK → Prop := fun xs H Q =>
  ∃ tp cs us b dd fs, xs = [.ref a, .ref tp] ∧ H tp = some (.tup cs) ∧ Paired ClsV cs us ∧ d = some dd ∧ H dd = some (.xd fs) ∧ PySem.W.kitAny K (.ref D) us = some b ∧ Q (.bl b) H
section
variable {X : Cx} {a D : Addr} {d : Option Addr} {oe : Obj} {pn : List (Addr × Obj)}
theorem inst_of {pins : List (Addr × Obj)} {s : Shared} {σ : L2.St} {H : Hp} {dd : Addr} {fs : List (Str × V)} (hz : Zc (.ref D) (some dd) oe) (hf : ∃ vs, oe.data = .fields vs)
    (I : Inv (X.suite a ((a, oe) :: pn)) pins σ H s) (e : H dd = some (.xd fs)) : ∃ od, PySem.W.InstAt s.heap a oe D (some od) := by
  have here := (I.pin (a, oe) (List.mem_append_left _ List.mem_cons_self)).1
  have ok : ObjOk X.prog X.w H s.heap dd (.xd fs) := I.hok dd _ e
  obtain ⟨mA, ns, -⟩ := ok
  obtain ⟨od, ho, -⟩ := lookIn_ns ns
  refine ⟨od, here, hz.1, ?_, ?_⟩
  · obtain ⟨vs, hv⟩ := hf
    unfold PySem.W.notCls
    rw [hv] <;> rfl
  · rw [hz.2]; exact ho
theorem kit_exD {K : PySem.W.Frag} {od : Option Obj} (C : ExcC K D) : PySem.W.KitX K (.ref a) (.ref D) (fun h => PySem.W.InstAt h a oe D od) := by
  have known : (PySem.W.clsIn K D).isSome = true := by
    obtain ⟨cd, hc, _⟩ := PySem.W.any_some C.hd
    rw [hc] <;> rfl
  exact PySem.W.kitx_exc known C.hg C.hk C.hs C.ha C.hn C.ht C.hm
theorem call_isD (C : ExcC X.K D) (hz : Zc (.ref D) d oe) (hf : ∃ vs, oe.data = .fields vs) : CallR (X.suite a ((a, oe) :: pn)) (.builtin "isinstance") (rIsD X.K D a d) := by
  rintro pins s σ H _ us Q I r ⟨c, u, b, dd, fs, rfl, k, rfl, eH, e, q⟩
  obtain ⟨u1, u2, rfl, r1, r2⟩ := vals2 r
  cases k.eq r2
  cases (show u1 = Value.ref a from r1)
  obtain ⟨od, J⟩ := inst_of hz hf I eH
  refine PySem.W.kia_one (kit_exD C) I.kIn J e (by intro z; cases z) fun tk => ?_
  exact ⟨.bl b, H, I.tok tk, rfl, q⟩
theorem call_isDT (C : ExcC X.K D) (hz : Zc (.ref D) d oe) (hf : ∃ vs, oe.data = .fields vs) : CallR (X.suite a ((a, oe) :: pn)) (.builtin "isinstance") (rIsDT X.K D a d) := by
  rintro pins s σ H _ us Q I r ⟨tp, cs, ws, b, dd, fs, rfl, hT, k, rfl, eH, e, q⟩
  obtain ⟨u1, u2, rfl, r1, r2⟩ := vals2 r
  cases (show u2 = Value.ref tp from r2)
  cases (show u1 = Value.ref a from r1)
  obtain ⟨od, J⟩ := inst_of hz hf I eH
  have okT : ObjOk X.prog X.w H s.heap tp (.tup cs) := I.hok tp _ hT
  obtain ⟨-, its, rv, ⟨oc, od', dt, sl⟩, there, kind, n, data⟩ := okT
  dsimp only at kind data
  subst kind data
  cases ClsV.all k rv
  refine PySem.W.kia_tup (kit_exD C) I.kIn J there e (by intro z; cases z) fun tk => ?_
  exact ⟨.bl b, H, I.tok tk, rfl, q⟩
end
/-- an error of the body, landed in X: sI is the state without it, s the state with it -/
structure Down (X : Cx) (pins : List (Addr × Obj)) (σ : L2.St) (H : Hp) (cls : Value) (d : Option Addr) (a : Addr) (B : Heap) (sI s : Shared) : Prop where
  inv : Inv X pins σ H sI
  base : ∀ b o, sI.heap.get? b = some o → b ∉ frs X.stack → B.get? b = some o
  up : sI.heap.UpToSlots s.heap
  fly : HandSPX.FlyingZ B (X.env :: X.outer) a (Zc cls d) s.heap
  free : H a = none
  os : s.os = sI.os
  bare : AllBare s.gens
section
variable {X : Cx} {pins : List (Addr × Obj)} {σ : L2.St} {H : Hp} {cls : Value} {d : Option Addr} {a : Addr} {B : Heap} {sI s : Shared}
theorem Down.here (w : Down X pins σ H cls d a B sI s) : Inv X pins σ H s := w.inv.landed w.base w.fly.1 w.up w.os w.bare
theorem Down.moved (w : Down X pins σ H cls d a B sI s) {h' : Heap} (fl : HandSPX.FlyingZ B (X.env :: X.outer) a (Zc cls d) h') (up : s.heap.UpToSlots h') : Down X pins σ H cls d a B sI { s with heap := h' } :=
  { w with up := w.up.trans up, fly := fl }
theorem Down.apart (w : Down X pins σ H cls d a B sI s) : a ∉ (X.env :: X.outer).filterMap (·.frame) := by
  intro hm
  obtain ⟨oe, vs, he, -, hd⟩ := w.fly.there
  obtain ⟨-, o, e, no⟩ := w.fly.2.2.1.mem hm
  cases he.symm.trans e
  exact no vs hd
/-- the state, seen from the suite of a clause -/
theorem Down.suite (w : Down X pins σ H cls d a B sI s) (hf : X.env.frame = some X.env.locals) :
    ∃ oe, Zc cls d oe ∧ (∃ vs, oe.data = .fields vs) ∧ s.heap.get? a = some oe ∧ Inv (X.suite a ((a, oe) :: (X.pn ++ pins))) [] σ H s := by
  obtain ⟨oe, vs, he, hz, hd⟩ := w.fly.there
  have no := w.apart
  refine ⟨oe, hz, ⟨vs, hd⟩, he, w.here.suite he hd w.free ?_ ?_⟩
  · intro z
    subst z
    exact no (List.mem_filterMap.mpr ⟨X.env, .head _, hf⟩)
  · intro z
    obtain ⟨e, me, q⟩ := List.mem_filterMap.mp z
    exact no (List.mem_filterMap.mpr ⟨e, .tail _ me, q⟩)
/-- no clause is left: the error goes on -/
theorem Down.on {Wout : WX} {D : Ends} (w : Down X pins σ H cls d a B sI s) (hs : X.stack = X.env :: X.outer) (hf : X.env.frame = some X.env.locals) (tk : Takes X Wout) (q : Wout cls d σ H) :
    wpAny (model X.prog X.w) X.A (handleBy (.ref a) X.env []) (SP X pins D) X.xe s := by
  have go : wpAny (model X.prog X.w) X.A (setFlight (.ref a) X.env.frame) (fun _ s4 => wpAny (model X.prog X.w) X.A (throw (.ref a) : Sem Flow) (SP X pins D) X.xe s4) X.xe s := by
    rw [hf]
    refine HandSPX.setFlight_upZ w.fly fun h4 held up4 => wpAny_throw (tk _ _ ?_)
    refine ⟨a, B, sI, pins, σ, H, cls, d, rfl, w.inv, w.base, w.up.trans up4, .inr (.inr ?_), w.free, w.os, w.bare, q⟩
    rw [hs]
    exact held
  obtain ⟨-, -, -, oe, vs, T, -, -, he, -, hd, h1, -⟩ := id w.fly
  refine wpAny_handleBy_nil ?_
  unfold PySem.passOn
  refine wpAny_bind (wpAny_field he hd h1 ?_)
  have nn : ¬ (Value.ref T == Value.none) = true := by simp
  rw [if_neg nn]
  first
    | exact wpAny_bind go
    | exact wpAny_bind (wpAny_pure (wpAny_bind go))
/-- the first of the clauses: it is taken, or the next ones are asked -/
theorem Down.clause {D : Ends} {x n : Str} {c : Value} {i : Nat} {b₀ : Stmt} {body : List Stmt} {p p' : Pos} {rest : List ExceptHandler} {ts : Addr → Value → Option Addr → TS} {W : WX}
    (w : Down X pins σ H cls d a B sI s) (hf : X.env.frame = some X.env.locals) (hN : X.N.Nodup) (hi : X.N[i]? = some n) (hln : X.env.kindOf n = some .local) (hc : Names X x c)
    (hsu : ∀ (oe : Obj) (pn : List (Addr × Obj)), Zc cls d oe → (∃ vs, oe.data = .fields vs) → PSs (X.suite a ((a, oe) :: pn)) (b₀ :: body) (ts a cls d))
    (q : wAs X.K c i ts W D cls d σ H) (hr : W cls d σ H → wpAny (model X.prog X.w) X.A (handleBy (.ref a) X.env rest) (SP X pins D) X.xe s) :
    wpAny (model X.prog X.w) X.A (handleBy (.ref a) X.env (.ExceptHandler (some (.Name x p)) (some n) (b₀ :: body) p' :: rest)) (SP X pins D) X.xe s := by
  obtain ⟨b, is, yes, no⟩ := q
  obtain ⟨oe, hz, -, he, S⟩ := w.suite hf
  refine wpAny_handleBy_cons (codeAny_handlers_test ?_) (by intro z; cases z)
  have ty : PySem.W.Looks (model X.prog X.w) s.heap (typeOf (.ref a)) cls := by
    intro A Q E s' k q
    refine wpAny_typeOf_ref (k _ _ he) ?_
    rw [hz.1]
    exact q
  have match_ := PySem.W.exm_one (M := model X.prog X.w) w.here.kIn ty is
  have name_ : ∀ {Q E : Value → Shared → Prop}, Q c s → wpAny (model X.prog X.w) (X.A.mark (some (.ref a))) (eval (.Name x p) X.env) Q E s := by
    intro Q E q
    rcases hc with ⟨g, nd, m | ⟨m, v, nn⟩⟩
    · exact ld_glob (X := X.suite a _) S g m q nd
    · exact ld_blt (X := X.suite a _) S g m v q nn nd
  refine name_ (match_.here ?_)
  cases b with
  | false => exact hr (no rfl)
  | true =>
    refine codeAny_handlers_suite_as (HandSPX.lands_againZ w.fly fun h4 fl4 up4 => ?_)
    obtain ⟨oe4, hz4, hd4, -, S4⟩ := (w.moved fl4 up4).suite hf
    refine store_ok (X := X.suite a _) (v := .ref a) S4 hN hi (.inl hln) rfl (fun s5 S5 => ?_) (.inr hln)
    refine wpAny_mono ((hsu oe4 (X.pn ++ pins) hz4 hd4).run [] s5 _ H _ S5 (yes rfl a w.free)) (fun f s6 r => ?_) (by intro _ _ z; exact z.elim)
    have ok := w.inv.ok
    cases f with
    | ret u =>
      obtain ⟨v6, σ6, H6, S6, r6, q6⟩ := r
      exact gone_ok (S6.unsuite ok) hN hi hln fun s7 J7 => ⟨v6, _, _, J7, r6, q6⟩
    | next =>
      obtain ⟨σ6, H6, S6, q6⟩ := r
      exact gone_ok (S6.unsuite ok) hN hi hln fun s7 J7 => ⟨_, _, J7, q6⟩
    | brk =>
      obtain ⟨σ6, H6, S6, q6⟩ := r
      exact gone_ok (S6.unsuite ok) hN hi hln fun s7 J7 => ⟨_, _, J7, q6⟩
    | cont =>
      obtain ⟨σ6, H6, S6, q6⟩ := r
      exact gone_ok (S6.unsuite ok) hN hi hln fun s7 J7 => ⟨_, _, J7, q6⟩
end
/-- clauses 'except x as n', n in slot i, with what each does and what the one behind the last wishes -/
inductive Clauses (X : Cx) (n : Str) (i : Nat) (Wout : WX) : List ExceptHandler → (Ends → WX) → Prop
  | nil : Clauses X n i Wout [] (fun _ => Wout)
  | cons {x : Str} {c : Value} {ts : Addr → Value → Option Addr → TS} {b₀ : Stmt} {body : List Stmt} {p p' : Pos} {rest : List ExceptHandler} {W : Ends → WX} (hc : Names X x c)
      (hsu : ∀ (a : Addr) (oe : Obj) (cls : Value) (d : Option Addr) (pn : List (Addr × Obj)), Zc cls d oe → (∃ vs, oe.data = .fields vs) → PSs (X.suite a ((a, oe) :: pn)) (b₀ :: body) (ts a cls d))
      (r : Clauses X n i Wout rest W) : Clauses X n i Wout (.ExceptHandler (some (.Name x p)) (some n) (b₀ :: body) p' :: rest) (fun D => wAs X.K c i ts (W D) D)
section
variable {X : Cx} {n : Str} {i : Nat} {Wout : WX}
theorem Clauses.run {hds : List ExceptHandler} {W : Ends → WX} (k : Clauses X n i Wout hds W) (hs : X.stack = X.env :: X.outer) (hf : X.env.frame = some X.env.locals) (hN : X.N.Nodup) (hi : X.N[i]? = some n) (hln : X.env.kindOf n = some .local) (tk : Takes X Wout)
    {pins : List (Addr × Obj)} {σ : L2.St} {H : Hp} {cls : Value} {d : Option Addr} {a : Addr} {B : Heap} {sI s : Shared} {D : Ends} (w : Down X pins σ H cls d a B sI s) (q : W D cls d σ H) :
    wpAny (model X.prog X.w) X.A (handleBy (.ref a) X.env hds) (SP X pins D) X.xe s := by
  induction k with
  | nil => exact w.on hs hf tk q
  | cons hc hsu r ih => exact w.clause hf hN hi hln hc (fun oe pn => hsu a oe cls d pn) q ih
/-- try: body / except x1 as n: .. / except x2 as n: .. -/
theorem ps_tryA {body : List Stmt} {h₀ : ExceptHandler} {hds : List ExceptHandler} {pos : Pos} {tb : WX → TS} {W : Ends → WX} (hs : X.stack = X.env :: X.outer) (hf : X.env.frame = some X.env.locals) (hN : X.N.Nodup) (hi : X.N[i]? = some n) (hln : X.env.kindOf n = some .local)
    (tk : Takes X Wout) (hb : ∀ (W : WX) (pn : List (Addr × Obj)) (xe : Value → Shared → Prop), Takes (X.tr pn xe) W → PassesOwn (model X.prog X.w) X.A X.env xe → PSs (X.tr pn xe) body (tb W))
    (k : Clauses X n i Wout (h₀ :: hds) W) : PS X (.Try body (h₀ :: hds) [] [] pos) (fun D σ H => tb (W D) D σ H) := by
  constructor
  intro pins s σ H D I h
  have ok := I.ok
  let out : Value → Shared → Prop := fun e s₁ => wpAny (model X.prog X.w) X.A (noteFrame e X.env)
    (fun _ s₂ => wpAny (model X.prog X.w) X.A (setFlight e none) (fun _ s₃ => wpAny (model X.prog X.w) X.A (handleBy e X.env (h₀ :: hds)) (SP X pins D) X.xe s₃) X.xe s₂) X.xe s₁
  have tks : Takes (X.tr (X.pn ++ pins) out) (W D) := by
    rintro u s' ⟨a, B, sI, pins', σ', H', cls, d, rfl, J, nb, up, sky, na, os, ag, q⟩
    have fr : X.A.frames = some (X.env :: X.outer) := by rw [ok.frames, hs]
    have sky' := sky
    rw [show (X.tr (X.pn ++ pins) out).stack = X.env :: X.outer from hs] at sky'
    refine Sky.land (E₁ := X.xe) Zc.steady fr hf sky' fun h3 fl3 up3 => ?_
    exact k.run hs hf hN hi hln tk (sI := sI) (B := B) ⟨J.ofTry ok, nb, up.trans up3, fl3, na, os, ag⟩ q
  refine wpAny_Try_except (wpAny_mono ((hb (W D) (X.pn ++ pins) out tks PassesOwn.looking).run [] s σ H D (I.toTry _) h) ?_ fun _ _ he => he)
  · intro f s1 r
    cases f with
    | next =>
      obtain ⟨σ', H', J, q⟩ := r
      exact wpAny_execs_nil ⟨σ', H', J.ofTry ok, q⟩
    | ret u =>
      obtain ⟨v, σ', H', J, r', q⟩ := r
      exact ⟨v, σ', H', J.ofTry ok, r', q⟩
    | brk | cont =>
      obtain ⟨σ', H', J, q⟩ := r
      exact ⟨σ', H', J.ofTry ok, q⟩
end
section
variable {X : Cx} {a : Addr} {cls : Value} {d : Option Addr} {oe : Obj} {pn : List (Addr × Obj)}
/-- isinstance of the error of the suite, whatever its class is: an own one that says enough -/
def rIsX (K : PySem.W.Frag) (a : Addr) (cls : Value) (d : Option Addr) : List V → Hp → VK → Prop := fun xs H Q => ∃ D, cls = .ref D ∧ ExcC K D ∧ rIsD K D a d xs H Q
def rIsXT (K : PySem.W.Frag) (a : Addr) (cls : Value) (d : Option Addr) : List V → Hp → VK → Prop := fun xs H Q => ∃ D, cls = .ref D ∧ ExcC K D ∧ rIsDT K D a d xs H Q
theorem call_isX (hz : Zc cls d oe) (hf : ∃ vs, oe.data = .fields vs) : CallR (X.suite a ((a, oe) :: pn)) (.builtin "isinstance") (rIsX X.K a cls d) := by
  rintro pins s σ H xs us Q I r ⟨D, rfl, C, h⟩
  exact call_isD C hz hf pins s σ H xs us Q I r h
theorem call_isXT (hz : Zc cls d oe) (hf : ∃ vs, oe.data = .fields vs) : CallR (X.suite a ((a, oe) :: pn)) (.builtin "isinstance") (rIsXT X.K a cls d) := by
  rintro pins s σ H xs us Q I r ⟨D, rfl, C, h⟩
  exact call_isDT C hz hf pins s σ H xs us Q I r h
end
/-! ### joined with its errors -/
abbrev veT : List Value := [.type "ValueError", .type "Exception", .type "BaseException", .type "object"]
inductive TsAt (H : Hp) : List V → List T → Prop
  | nil : TsAt H [] []
  | cons {v : V} {t : T} {vs : List V} {ts : List T} : TreeAt H v t → TsAt H vs ts → TsAt H (v :: vs) (t :: ts)
theorem TsAt.keep {H H' : Hp} (k : KeepT H H') {vs : List V} {ts : List T} (h : TsAt H vs ts) : TsAt H' vs ts := by
  induction h with
  | nil => exact .nil
  | cons b _ ih => exact .cons (b.keep k) ih
theorem TsAt.len {H : Hp} {vs : List V} {ts : List T} (h : TsAt H vs ts) : vs.length = ts.length := by
  induction h with
  | nil => rfl
  | cons _ _ ih => rw [List.length_cons, List.length_cons, ih]
def szs (ts : List T) : Nat := (ts.map T.size).sum
def jn (y : Str) : List T → T
  | [] => .node .nil y .nil
  | [a] => .node a y .nil
  | a :: b :: _ => .node a y b
theorem jn_size (y : Str) {ts : List T} (h : ts.length ≤ 2) : (jn y ts).size = 1 + szs ts := by
  match ts, h with
  | [], _ => rfl
  | [a], _ => show a.size + 1 + 0 = 1 + (a.size + 0); omega
  | [a, b], _ => show a.size + 1 + b.size = 1 + (a.size + (b.size + 0)); omega
def LimE (H : Hp) (E : XK) (C : Addr) (n : Int) : Prop := ∀ (H' : Hp) (p : Addr), Same H H' → H' p = none → E (.ref C) (some p) (upd H' p (.xd [(("limit" : Str), .int n)]))
def JTo (C1 C2 : Addr) (H : Hp) (Q : VK) (E : XK) (y : Str) (ts : List T) : Prop := (2 < ts.length → LimE H E C1 2) ∧ (ts.length ≤ 2 → 12 < 1 + szs ts → LimE H E C2 12) ∧ (ts.length ≤ 2 → 1 + szs ts ≤ 12 → ∀ (r : V) (H' : Hp), Same H H' → TreeAt H' r (jn y ts) → Q r H')
theorem JTo.mono {C1 C2 : Addr} {H H' : Hp} {Q : VK} {E : XK} {y : Str} {ts : List T} (s : Same H H') (h : JTo C1 C2 H Q E y ts) : JTo C1 C2 H' Q E y ts :=
  ⟨fun a H2 p z n => h.1 a H2 p (s.trans z) n, fun a b H2 p z n => h.2.1 a b H2 p (s.trans z) n, fun a b r H2 z t => h.2.2 a b r H2 (s.trans z) t⟩
def spJX (C1 C2 : Addr) : Sp := fun vs H Q E => ∃ (y : Str) (p : Addr) (ws : List V) (ts : List T), vs = [.str y, .ref p] ∧ H p = some (.tup ws) ∧ TsAt H ws ts ∧ ts.length ≤ 3 ∧ szs ts ≤ 40 ∧ JTo C1 C2 H Q E y ts
def spJoinedX (C1 C2 : Addr) : Sp := fun vs H Q E => ∃ ws rest, vs = ws ++ rest ∧ ws.length = ["label"].length ∧ rest.length ≤ sizeLine ∧ ∀ p, H p = Option.none → spJX C1 C2 (ws ++ [V.ref p]) (upd H p (.tup rest)) Q E
structure DfRX (P : Program) (w : World) (K : PySem.W.Frag) (mg : Str → Option Value) (base : Heap) (k : Nat) (nm : Str) (sp : Sp) where
  f : Addr
  ok : FnR P w K mg base (L2.CX P w) k f sp
  kp : PySem.W.keepIn K (.ref f) = true
  g : mg nm = some (.ref f)
theorem pe_callPX {X : Cx} {CX : CXT} {k : Nat} {f : Addr} {sp : Sp} {E : L2.St → XK} {x : Str} {e : Expr} {es : List Expr} {t : TA} {p pos : Pos} (F : FnR X.prog X.w X.K X.mg X.base CX k f sp) (hr : Room k X.A) (hk : PySem.W.keepIn X.K (.ref f) = true) (hg : Gl X x) (hm : X.mg x = some (.ref f)) (hx : ∀ σ, PassesAt CX X σ (E σ))
    (ha : PA X (e :: es) t) (hd : (x == ("__debug__" : Str)) = false := by decide) (he : starEach (e :: es) X.env = (false, eval e X.env) :: starEach es X.env := by rfl) (hpl : (backTo pos (starEach es X.env)).any (·.1) = false := by rfl) :
    PE X (.Call (.Name x p) (e :: es) [] pos) (fun σ H Q => t σ H fun vs H1 => sp vs H1 Q (E σ)) := by
  refine ⟨fun pins s σ H Q I h => wpAny_Call_Name_kw (ld_glob I hg hm (PySem.W.callWith_K (h₀ := X.base) I.ok.mod.kin hk (thn (ha.run pos pins s σ H _ I h) fun us s1 ⟨vs, H1, I1, r, q⟩ => ⟨I1.kIn, wpAny_call (codeAny_mono (F X.A X.stack s1 H1 us vs Q (E σ) hr I1.env0 r q) fun r s' hq => ?_)⟩) he hpl) hd)⟩
  cases r with
  | error e => exact hx σ pins H1 s1 e s' I1 hq
  | ok fl =>
    cases fl with
    | ret u => exact I1.after hq
    | next => exact False.elim hq
    | brk => exact False.elim hq
    | cont => exact False.elim hq
theorem sc_joined : FnScope ["label", "trees", "sides", "tree"] ["label", "trees"] (defScope s_joined) := ⟨rfl, rfl, rfl, by decide +kernel, rfl, by decide +kernel, by decide +kernel⟩
section
variable {P : Program} {w : World} {K : PySem.W.Frag} {mg : Str → Option Value} {base : Heap} {f : Addr} {fd : FuncData} {C1 C2 fI1 fI2 : Addr} {qn1 qn2 : Str}
theorem ok_joinedX {tM : Tok} (F : Fun K "joined" "joined" s_joined f fd) (M : Mgs mg) (mMAX : mg "MAX_NODES" = some (.int 12 tM)) (hE1 : Err_limit K mg "ValueError.__new__" veT "TooMany" qn1 C1 fI1) (hE2 : Err_limit K mg "ValueError.__new__" veT "TooLarge" qn2 C2 fI2)
    (Dsize_of : Df P w K mg base 60 "size_of" ["tree"] (spSz 60)) : FnR P w K mg base (L2.CX P w) 61 f (spJoinedX C1 C2) := by
  obtain ⟨oc, od, kV, doc, pm, an, cdv, ct, osl, rfl, lk, hcd⟩ := F.ex
  refine StX.fn_star (k := 60) (ps := ["label"]) (pv := "trees") (sp := spJX C1 C2) lk hcd sc_joined StX.cxUp (fun us rest hl => by match us, hl with | [_], _ => cases rest <;> rfl) fun A outer s H vs Q E hr h => ?_
  obtain ⟨y, p, ws, ts, rfl, ep, hT, h3, hz, j1, j2, j3⟩ := h
  have hl := hT.len
  refine ⟨_, ((pss_cons (ps_if (pt_cmpR op_gt (pe_callB call_len_seq rfl M.len PySem.boot_len (pa_cons (pv 1) pa_nil)) pe_int (nomark _))
      (pss_one (ps_raise_limit rfl famV hE1 hr (takes_of rfl rfl rfl rfl) (pa_cons pe_int pa_nil) rfl)) pss_nil)
    (pss_cons (ps_set (i := 2) sc_joined.nd rfl (.inl rfl) (pe_lst (StX.pa_star (pv 1) (pa_cons pe_non (pa_cons pe_non pa_nil)))))
    (pss_cons (ps_set (i := 3) sc_joined.nd rfl (.inl rfl) (pe_tup (pa_cons (pe_ix ix_list (pv 2) pe_int (fun _ _ => rfl)) (pa_cons (pv 0) (pa_cons (pe_ix ix_list (pv 2) pe_int (fun _ _ => rfl)) pa_nil)))))
    (pss_cons (ps_if (pt_cmpR op_gt (pe_call Dsize_of.ok (hr.mono (by omega)) rfl Dsize_of.g Dsize_of.kp Dsize_of.b .nil pass0 (pa_cons (pv 3) pa_nil)) (pe_glob (v := .int _) rfl mMAX ⟨_, rfl⟩) (nomark _))
      (pss_one (ps_raise_limit rfl famV hE2 hr (takes_of rfl rfl rfl rfl) (pa_cons (pe_glob (v := .int 12) rfl mMAX ⟨_, rfl⟩) pa_nil) rfl)) pss_nil)
    (pss_one (ps_ret (pv 3))))))) : PSs (cxOf (L2.CX P w) P w K mg base ["label", "trees", "sides", "tree"] "joined" (defScope s_joined) f cdv A outer s H E) (defBody s_joined) _), ?_⟩
  refine ⟨_, rfl, p, _, rfl, .inr (SqT.of ep), _, _, rfl, rfl, _, rfl, ?_⟩
  by_cases h2 : 2 < ts.length
  · rw [decide_eq_true (show ((ws.length : Nat) : Int) > 2 by omega)]
    exact iteT ⟨_, rfl, fun a na => j1 h2 H a (Same.refl H) na⟩
  · rw [decide_eq_false (show ¬ ((ws.length : Nat) : Int) > 2 by omega)]
    refine iteF ?_
    have h2 : ts.length ≤ 2 := by omega
    refine ⟨_, rfl, p, _, rfl, .inl (SqT.of ep), small (by rw [List.length_append]; show ws.length + 2 ≤ 1000; omega), fun L nL => ?_⟩
    obtain ⟨v1, v2, t1, t2, g1, g2, b1, b2, ej⟩ : ∃ v1 v2 t1 t2, (ws ++ [V.non, V.non])[0]? = some v1 ∧ (ws ++ [V.non, V.non])[1]? = some v2 ∧ TreeAt H v1 t1 ∧ TreeAt H v2 t2 ∧ jn y ts = .node t1 y t2 := by
      cases hT with
      | nil => exact ⟨_, _, _, _, rfl, rfl, .nil, .nil, rfl⟩
      | cons a hT =>
        cases hT with
        | nil => exact ⟨_, _, _, _, rfl, rfl, a, .nil, rfl⟩
        | cons b hT => exact ⟨_, _, _, _, rfl, rfl, a, b, rfl⟩
    have k1 := same_new nL (.lst (ws ++ [.non, .non]))
    refine ⟨_, rfl, L, _, 0, v1, rfl, rfl, SqL.of upd_same, atI_nat (j := 0) g1, _, rfl, _, rfl, L, _, 1, v2, rfl, rfl, SqL.of upd_same, atI_nat (j := 1) g2, (by show 3 ≤ sizeLine; decide), fun r nr => ?_⟩
    have k2 := same_new nr (.tup [v1, .str y, v2])
    have tr : TreeAt (upd (upd H L (.lst (ws ++ [.non, .non]))) r (.tup [v1, .str y, v2])) (.ref r) (jn y ts) := by
      rw [ej]
      exact .node upd_same (b1.same (k1.trans k2)) (b2.same (k1.trans k2))
    have js := jn_size y h2
    refine ⟨_, rfl, _, _, rfl, tr, by omega, _, _, rfl, rfl, _, rfl, ?_⟩
    by_cases h12 : 12 < 1 + szs ts
    · rw [decide_eq_true (show (((jn y ts).size : Nat) : Int) > 12 by omega)]
      exact iteT ⟨_, rfl, fun a na => j2 h2 h12 _ a (k1.trans k2) na⟩
    · rw [decide_eq_false (show ¬ (((jn y ts).size : Nat) : Int) > 12 by omega)]
      exact iteF ⟨_, rfl, j3 h2 (by omega) _ _ (k1.trans k2) tr⟩
/-! ### _law_call -/
def spCallJ (C1 C2 : Addr) : Sp := fun vs H Q E => ∃ (y : Str) (a : Addr) (ws : List V) (ts : List T), vs = [.str y, .ref a] ∧ H a = some (.lst ws) ∧ TsAt H ws ts ∧ ts.length ≤ 3 ∧ szs ts ≤ 40 ∧ JTo C1 C2 H Q E y ts
theorem joined_at {C1 C2 : Addr} {H : Hp} {Q : VK} {E : XK} {y : Str} {ws : List V} {ts : List T} (hT : TsAt H ws ts) (h3 : ts.length ≤ 3) (hz : szs ts ≤ 40) (j : JTo C1 C2 H Q E y ts) : spJoinedX C1 C2 ([.str y] ++ ws) H Q E :=
  ⟨[.str y], ws, rfl, rfl, small (by have := hT.len; omega), fun p np => ⟨y, p, ws, ts, rfl, upd_same, hT.keep (Tw.Same.keepT (same_new np _)), h3, hz, j.mono (same_new np _)⟩⟩
theorem ok_lcall (F : Fun K "_law_call" "_law_call" s__law_call f fd) (M : Mgs mg) (Djoined : DfRX P w K mg base 61 "joined" (spJoinedX C1 C2)) : FnOk P w K mg base (L2.CX P w) 62 f fd ["_law_label", "_law_some"] (spCallJ C1 C2) := by
  refine F.okX sc__law_call (fun vs H Q E h => ?_) (fun cdv A outer s H vs Q E hr h => ?_)
  · obtain ⟨y, a, ws, ts, rfl, _⟩ := h
    rfl
  obtain ⟨y, a, ws, ts, rfl, ea, hT, h3, hz, j⟩ := h
  refine ⟨_, (pss_cons (ps_if (pt_cmpR op_eq (pe_callB call_len_seq rfl M.len PySem.boot_len (pa_cons (pv 1) pa_nil)) pe_int (nomark _))
      (pss_one (ps_ret (pe_callPX Djoined.ok (hr.mono (by omega)) Djoined.kp rfl Djoined.g (fun σ => passAt (takes_of rfl rfl rfl rfl) σ) (pa_cons (pv 0) pa_nil)))) pss_nil)
    (pss_cons (ps_if (pt_cmpR op_eq (pe_callB call_len_seq rfl M.len PySem.boot_len (pa_cons (pv 1) pa_nil)) pe_int (nomark _))
      (pss_one (ps_ret (pe_callPX Djoined.ok (hr.mono (by omega)) Djoined.kp rfl Djoined.g (fun σ => passAt (takes_of rfl rfl rfl rfl) σ) (pa_cons (pv 0) (pa_cons (pe_ix ix_list (pv 1) pe_int (fun _ _ => rfl)) pa_nil))))) pss_nil)
    (pss_cons (ps_if (pt_cmpR op_eq (pe_callB call_len_seq rfl M.len PySem.boot_len (pa_cons (pv 1) pa_nil)) pe_int (nomark _))
      (pss_one (ps_ret (pe_callPX Djoined.ok (hr.mono (by omega)) Djoined.kp rfl Djoined.g (fun σ => passAt (takes_of rfl rfl rfl rfl) σ) (pa_cons (pv 0) (pa_cons (pe_ix ix_list (pv 1) pe_int (fun _ _ => rfl)) (pa_cons (pe_ix ix_list (pv 1) pe_int (fun _ _ => rfl)) pa_nil)))))) pss_nil)
    (pss_one (ps_ret (pe_callPX Djoined.ok (hr.mono (by omega)) Djoined.kp rfl Djoined.g (fun σ => passAt (takes_of rfl rfl rfl rfl) σ) (pa_cons (pv 0) (pa_cons (pe_ix ix_list (pv 1) pe_int (fun _ _ => rfl)) (pa_cons (pe_ix ix_list (pv 1) pe_int (fun _ _ => rfl)) (pa_cons (pe_ix ix_list (pv 1) pe_int (fun _ _ => rfl)) pa_nil)))))))))), ?_⟩
  have hl := hT.len
  have jj := joined_at hT h3 hz j
  refine ⟨_, rfl, a, _, rfl, .inl (SqL.of ea), rfl, _, rfl, ?_⟩
  match ws, ea, hl, jj with
  | [], ea, _, jj => exact iteT ⟨_, rfl, jj⟩
  | [v1], ea, _, jj =>
    refine iteF ⟨_, rfl, a, _, rfl, .inl (SqL.of ea), rfl, _, rfl, iteT ?_⟩
    exact ⟨_, rfl, _, rfl, a, _, 0, v1, rfl, rfl, SqL.of ea, atI_nat (j := 0) rfl, jj⟩
  | [v1, v2], ea, _, jj =>
    refine iteF ⟨_, rfl, a, _, rfl, .inl (SqL.of ea), rfl, _, rfl, iteF ⟨_, rfl, a, _, rfl, .inl (SqL.of ea), rfl, _, rfl, iteT ?_⟩⟩
    exact ⟨_, rfl, _, rfl, a, _, 0, v1, rfl, rfl, SqL.of ea, atI_nat (j := 0) rfl, _, rfl, a, _, 1, v2, rfl, rfl, SqL.of ea, atI_nat (j := 1) rfl, jj⟩
  | [v1, v2, v3], ea, _, jj =>
    refine iteF ⟨_, rfl, a, _, rfl, .inl (SqL.of ea), rfl, _, rfl, iteF ⟨_, rfl, a, _, rfl, .inl (SqL.of ea), rfl, _, rfl, iteF ?_⟩⟩
    exact ⟨_, rfl, _, rfl, a, _, 0, v1, rfl, rfl, SqL.of ea, atI_nat (j := 0) rfl, _, rfl, a, _, 1, v2, rfl, rfl, SqL.of ea, atI_nat (j := 1) rfl, _, rfl, a, _, 2, v3, rfl, rfl, SqL.of ea, atI_nat (j := 2) rfl, jj⟩
  | _ :: _ :: _ :: _ :: _, _, hl, _ => exact absurd hl (by simp only [List.length_cons]; omega)
/-! ### what is due -/
def jD (y : Str) (ts : List T) : PyData := if 2 < ts.length then .list [.str "many", .int 2] else if 12 < 1 + szs ts then .list [.str "large", .int 12] else .list [.str "told", (jn y ts).data]
def spDueJ (K : PySem.W.Frag) : Sp := fun vs H Q _ => ∃ (y : Str) (a : Addr) (ws : List V) (ts : List T), vs = [.str y, .ref a] ∧ H a = some (.lst ws) ∧ TsAt H ws ts ∧ ts.length ≤ 3 ∧ szs ts ≤ 40 ∧ (∀ t ∈ ts, t.lt ∧ t.deep < 20) ∧ ∀ (p : Addr) (H' : Hp), Same H H' → H p = none → Dp K H' (.ref p) (jD y ts) → Q (.ref p) H'
theorem ok_dueJ (F : Fun K "_law_due" "_law_due" s__law_due f fd) (M : Mgs mg) (m_sum : mg "sum" = none) (D_law_count : Df P w K mg base 20 "_law_count" ["_law_value"] (spCnt 20)) : FnOk P w K mg base CX0 21 f fd ["_law_label", "_law_some"] (spDueJ K) := by
  refine F.ok sc__law_due (fun vs H Q E h => ?_) (fun cdv A outer s H vs Q E hr h => ?_)
  · obtain ⟨y, a, ws, ts, rfl, _⟩ := h
    rfl
  obtain ⟨y, a, ws, ts, rfl, ea, hT, h3, hz, hlt, q⟩ := h
  refine ⟨_, (pss_cons (ps_if (pt_cmpR op_gt (pe_callB call_len_seq rfl M.len PySem.boot_len (pa_cons (pv 1) pa_nil)) pe_int (nomark _))
      (pss_one (ps_ret (pe_lst (pa_cons pe_str (pa_cons pe_int pa_nil))))) pss_nil)
    (pss_cons (ps_if (pt_cmpR op_gt (pe_op op_add pe_int (pe_callB (cr_sum rfl) rfl m_sum (by decide +kernel) (pa_cons (pe_lc (own := [("_law_tree_here", 2)]) (g := gName 2) (tt := tYes) rfl sc__law_due.nd (pi_list (pv 1)) (blkOk_by (N := ["_law_label", "_law_some", "_law_tree_here", "_law_left", "_law_right"]) (sc := defScope s__law_due) (by decide +kernel)) (fun _ _ _ _ _ => (pg_name (i := 2) sc__law_due.nd rfl (.inl rfl))) (fun _ _ _ _ _ => pts_nil) (fun _ _ _ _ _ => (pe_call D_law_count.ok (hr.mono (by omega)) rfl D_law_count.g D_law_count.kp D_law_count.b .nil pass0 (pa_cons (pv 2) pa_nil)))) pa_nil))) pe_int (nomark _))
      (pss_one (ps_ret (pe_lst (pa_cons pe_str (pa_cons pe_int pa_nil))))) pss_nil)
    (pss_cons (ps_asg (pe_slice sl_list (pe_op op_cat (pv 1) (pe_lst (pa_cons pe_non (pa_cons pe_non pa_nil)))) po_none (po_some pe_int)) (pg_unl rfl (pgs_cons (pg_name (i := 3) sc__law_due.nd rfl (.inl rfl)) (pgs_cons (pg_name (i := 4) sc__law_due.nd rfl (.inl rfl)) pgs_nil))))
    (pss_one (ps_ret (pe_lst (pa_cons pe_str (pa_cons (pe_tup (pa_cons (pv 3) (pa_cons (pv 0) (pa_cons (pv 4) pa_nil)))) pa_nil)))))))), ?_⟩
  have hl := hT.len
  have say : ∀ ns : List Nat, ((ns.map fun n => ((n : Nat) : Int)).sum) = ((ns.sum : Nat) : Int) := fun ns => by
    induction ns with
    | nil => rfl
    | cons n ns ih => rw [List.map_cons, List.sum_cons, List.sum_cons, ih]; omega
  refine ⟨_, rfl, a, _, rfl, .inl (SqL.of ea), _, _, rfl, rfl, _, rfl, ?_⟩
  by_cases h2 : 2 < ts.length
  · rw [decide_eq_true (show ((ws.length : Nat) : Int) > 2 by omega)]
    refine iteT ⟨(by show 2 ≤ sizeLine; decide), fun p np => q p _ (same_new np _) np ?_⟩
    unfold jD
    rw [if_pos h2]
    exact .lst (SqL.of upd_same) (.cons (.str _) (.cons (.int _) .nil))
  · rw [decide_eq_false (show ¬ ((ws.length : Nat) : Int) > 2 by omega)]
    refine iteF ?_
    have h2' : ts.length ≤ 2 := by omega
    refine ⟨_, rfl, a, rfl, ⟨_, SqL.of ea⟩, fun L nL => ?_⟩
    refine lc_list (K := K) (a := a) (xs := ws) (fun j H' => Same H H' ∧ H' L = some (.lst ((ts.take j).map fun t => V.int ((t.size : Nat) : Int)))) ⟨same_new nL _, upd_same⟩ (fun j H' _ hp => SqL.of (hp.1 _ _ ea)) (fun j z H' hz' hp => ?_) (fun H' hp => ?_)
    · obtain ⟨sm, eL⟩ := hp
      have hj : j < ts.length := by rw [← hl]; exact (List.getElem?_eq_some_iff.mp hz').1
      have at_ : ∀ {vs : List V} {us : List T} {i : Nat} {v : V}, TsAt H vs us → vs[i]? = some v → ∃ t, us[i]? = some t ∧ TreeAt H v t := by
        intro vs us i v h
        induction h generalizing i with
        | nil => intro e; simp at e
        | cons b _ ih =>
          intro e
          cases i with
          | zero => cases e; exact ⟨_, rfl, b⟩
          | succ i => exact ih e
      obtain ⟨t, ht, bt⟩ := at_ hT hz'
      obtain ⟨l1, l2⟩ := hlt t (List.mem_of_getElem? ht)
      refine ⟨rfl, kept ⟨_, rfl, z, t, rfl, bt.same sm, l1, l2, fun H2 s2 => ?_⟩⟩
      refine ⟨_, s2 _ _ eL, small1000 (by rw [List.length_map, List.length_take]; omega), fun b o e => ?_, ?_⟩
      · rw [upd_ne (ne_of_none e nL)]
        exact s2 _ _ (sm _ _ e)
      · rw [upd_same, List.take_add_one, ht, List.map_append]
        rfl
    · obtain ⟨sm, eL⟩ := hp
      rw [List.take_of_length_le (by omega)] at eL
      have eL2 : H' L = some (.lst (((ts.map T.size).map fun n => ((n : Nat) : Int)).map V.int)) := by
        rw [eL, List.map_map, List.map_map]
        rfl
      refine ⟨L, _, rfl, SqL.of eL2, ?_⟩
      rw [say]
      have ss : ((ts.map T.size).sum) = szs ts := rfl
      rw [ss]
      refine ⟨_, _, rfl, rfl, ?_⟩
      refine ⟨_, _, rfl, rfl, _, rfl, ?_⟩
      by_cases h12 : 12 < 1 + szs ts
      · rw [decide_eq_true (show (1 : Int) + ((szs ts : Nat) : Int) > 12 by omega)]
        refine iteT ⟨(by show 2 ≤ sizeLine; decide), fun p np => q p _ (sm.trans (same_new np _)) ?_ ?_⟩
        · cases e : H p with
          | none => rfl
          | some o => rw [sm _ _ e] at np; cases np
        · unfold jD
          rw [if_neg h2, if_pos h12]
          exact .lst (SqL.of upd_same) (.cons (.str _) (.cons (.int _) .nil))
      · rw [decide_eq_false (show ¬ (1 : Int) + ((szs ts : Nat) : Int) > 12 by omega)]
        refine iteF ?_
        refine ⟨_, rfl, (by show 2 ≤ sizeLine; decide), fun b nb => ?_⟩
        have k1 := same_new nb (.lst [.non, .non])
        refine ⟨a, b, ws, _, rfl, rfl, k1 _ _ (sm _ _ ea), upd_same, small (by show ws.length + 2 ≤ 1000; omega), fun c nc => ?_⟩
        have k2 := same_new nc (.lst (ws ++ [.non, .non]))
        refine ⟨2, rfl, c, _, rfl, SqL.of upd_same, fun d nd => ?_⟩
        have s3 := sm.trans (k1.trans (k2.trans (same_new nd (.lst (cutV (ws ++ [.non, .non]) none (some 2))))))
        obtain ⟨v1, v2, t1, t2, g, b1, b2, ej⟩ : ∃ v1 v2 t1 t2, cutV (ws ++ [V.non, V.non]) none (some 2) = [v1, v2] ∧ TreeAt H v1 t1 ∧ TreeAt H v2 t2 ∧ jn y ts = .node t1 y t2 := by
          cases hT with
          | nil => exact ⟨_, _, _, _, rfl, .nil, .nil, rfl⟩
          | cons a hT =>
            cases hT with
            | nil => exact ⟨_, _, _, _, rfl, a, .nil, rfl⟩
            | cons b hT =>
              cases hT with
              | nil => exact ⟨_, _, _, _, rfl, a, b, rfl⟩
              | cons _ _ => exact absurd h2' (by simp only [List.length_cons]; omega)
        rw [g] at s3 ⊢
        have ed := upd_same (H := upd (upd H' b (.lst [.non, .non])) c (.lst (ws ++ [.non, .non]))) (a := d) (o := .lst [v1, v2])
        generalize upd (upd (upd H' b (.lst [.non, .non])) c (.lst (ws ++ [.non, .non]))) d (.lst [v1, v2]) = H3 at s3 ed ⊢
        refine ⟨d, _, rfl, SqL.of ed, rfl, _, _, rfl, _, _, rfl, rfl, ?_⟩
        refine ⟨_, rfl, _, rfl, _, rfl, (by show 3 ≤ sizeLine; decide), fun r nr => ⟨(by show 2 ≤ sizeLine; decide), fun p np => ?_⟩⟩
        have k4 := same_new nr (.tup [v1, .str y, v2])
        have k5 := same_new np (.lst [.str "told", .ref r])
        have s5 := s3.trans (k4.trans k5)
        refine q p _ s5 ?_ ?_
        · cases e : H p with
          | none => rfl
          | some o => rw [k4 _ _ (s3 _ _ e)] at np; cases np
        · unfold jD
          rw [if_neg h2, if_neg h12, ej]
          have tr : TreeAt (upd (upd H3 r (.tup [v1, .str y, v2])) p (.lst [.str "told", .ref r])) (.ref r) (.node t1 y t2) := .node (k5 _ _ upd_same) (b1.same s5) (b2.same s5)
          exact .lst (SqL.of upd_same) (.cons (.str _) (.cons tr.dp .nil))
end
/-! ### what is told -/
structure DfX (P : Program) (w : World) (K : PySem.W.Frag) (mg : Str → Option Value) (base : Heap) (k : Nat) (nm : Str) (ps : List Str) (sp : Sp) where
  f : Addr
  fd : FuncData
  ok : FnOk P w K mg base (L2.CX P w) k f fd ps sp
  b : Binds K fd ps []
  kp : PySem.W.keepIn K (.ref f) = true
  g : mg nm = some (.ref f)
/-- the classes that the clause asks for -/
structure ErrJ (K : PySem.W.Frag) (mg : Str → Option Value) (C1 C2 : Addr) : Prop where
  x1 : ExcC K C1
  x2 : ExcC K C2
  g1 : mg "TooMany" = some (.ref C1)
  g2 : mg "TooLarge" = some (.ref C2)
  w : ∃ CW, mg "WalkError" = some (.ref CW) ∧ PySem.W.exmOne K (.ref C1) (.ref CW) = some true ∧ PySem.W.exmOne K (.ref C2) (.ref CW) = some true
  k11 : PySem.W.kitOne K (.ref C1) (.ref C1) = some true
  k21 : PySem.W.kitOne K (.ref C2) (.ref C1) = some false
  k22 : PySem.W.kitOne K (.ref C2) (.ref C2) = some true
  more : ∃ c1 c2, mg "BadTree" = some (.ref c1) ∧ mg "NotOpen" = some (.ref c2) ∧ PySem.W.kitAny K (.ref C1) [.ref C2, .ref c1, .ref c2] = some false ∧ PySem.W.kitAny K (.ref C2) [.ref C1, .ref c1, .ref c2] = some false
def spToldJ (K : PySem.W.Frag) : Sp := fun vs H Q _ => ∃ (y : Str) (a : Addr) (ws : List V) (ts : List T), vs = [.str y, .ref a] ∧ H a = some (.lst ws) ∧ TsAt H ws ts ∧ ts.length ≤ 3 ∧ szs ts ≤ 40 ∧ ∀ (p : Addr) (H' : Hp), Same H H' → H p = none → Dp K H' (.ref p) (jD y ts) → Q (.ref p) H'
section
variable {P : Program} {w : World} {K : PySem.W.Frag} {mg : Str → Option Value} {base : Heap} {f : Addr} {fd : FuncData} {C1 C2 fI1 fI2 : Addr} {qn1 qn2 : Str}
theorem ok_told (F : Fun K "_law_told" "_law_told" s__law_told f fd) (hE1 : Err_limit K mg "ValueError.__new__" veT "TooMany" qn1 C1 fI1) (hE2 : Err_limit K mg "ValueError.__new__" veT "TooLarge" qn2 C2 fI2) (EC : ErrJ K mg C1 C2) (M : Mgs mg)
    (D_law_call : DfX P w K mg base 62 "_law_call" ["_law_label", "_law_some"] (spCallJ C1 C2)) : FnOk P w K mg base CX0 63 f fd ["_law_label", "_law_some"] (spToldJ K) := by
  refine F.ok sc__law_told (fun vs H Q E h => ?_) (fun cdv A outer s H vs Q E hr h => ?_)
  · obtain ⟨y, a, ws, ts, rfl, _⟩ := h
    rfl
  obtain ⟨y, a, ws, ts, rfl, ea, hT, h3, hz, q⟩ := h
  obtain ⟨CW, gW, e1, e2⟩ := EC.w
  obtain ⟨c1, c2, g1, g2, kM1, kM2⟩ := EC.more
  refine ⟨_, (pss_cons (ps_tryA (i := 2) (n := "error") (Wout := fun _ _ _ _ => False) rfl rfl sc__law_told.nd rfl rfl takes_none5
      (fun W pn xe tk _ => pss_one (ps_ret (pe_lst (pa_cons pe_str (pa_cons (pe_callS D_law_call.ok (hr.mono (by omega)) rfl D_law_call.g D_law_call.kp D_law_call.b (fun σ => passAt tk σ) (pa_cons (pv 0) (pa_cons (pv 1) pa_nil))) pa_nil)))))
      (.cons ⟨rfl, by decide, .inl gW⟩ (fun a oe cls d pn hz hf => (pss_cons (ps_if (PW.pt (pw_and (pt_val (pe_callB (call_isX hz hf) rfl M.isi (by decide +kernel) (pa_cons (pv 2) (pa_cons (pe_glob (v := .ref C1) rfl EC.g1 rfl) pa_nil)))) (pw_and1 (pt_not (pt_val (pe_callB (call_isXT hz hf) rfl M.isi (by decide +kernel) (pa_cons (pv 2) (pa_cons (pe_tup (pa_cons (pe_glob (v := .ref C2) rfl EC.g2 rfl) (pa_cons (pe_glob (v := .ref c1) rfl g1 rfl) (pa_cons (pe_glob (v := .ref c2) rfl g2 rfl) pa_nil)))) pa_nil))))))))
        (pss_one (ps_ret (pe_lst (pa_cons pe_str (pa_cons (pe_fld_limit hE1 hz hf (pv 2)) pa_nil))))) pss_nil)
      (pss_one (ps_if (PW.pt (pw_and (pt_val (pe_callB (call_isX hz hf) rfl M.isi (by decide +kernel) (pa_cons (pv 2) (pa_cons (pe_glob (v := .ref C2) rfl EC.g2 rfl) pa_nil)))) (pw_and1 (pt_not (pt_val (pe_callB (call_isXT hz hf) rfl M.isi (by decide +kernel) (pa_cons (pv 2) (pa_cons (pe_tup (pa_cons (pe_glob (v := .ref C1) rfl EC.g1 rfl) (pa_cons (pe_glob (v := .ref c1) rfl g1 rfl) (pa_cons (pe_glob (v := .ref c2) rfl g2 rfl) pa_nil)))) pa_nil))))))))
        (pss_one (ps_ret (pe_lst (pa_cons pe_str (pa_cons (pe_fld_limit hE2 hz hf (pv 2)) pa_nil))))) pss_nil)))) .nil))
    (pss_one (ps_ret (pe_lst (pa_cons pe_str pa_nil))))), ?_⟩
  have none_of : ∀ {H' : Hp} {p : Addr}, Same H H' → H' p = none → H p = none := fun {H' p} s n => by
    cases e : H p with
    | none => rfl
    | some o => rw [s _ _ e] at n; cases n
  refine ⟨_, rfl, _, rfl, y, a, ws, ts, rfl, ea, hT, h3, hz, fun h2 H1 p s1 np => ?_, fun h2 h12 H1 p s1 np => ?_, fun h2 h12 r H1 s1 tr => ?_⟩
  · refine ⟨true, e1, fun _ a0 na => ?_, fun z => nomatch z⟩
    have s2 := s1.trans (same_new np (.xd [(("limit" : Str), .int 2)]))
    have ep := upd_same (H := H1) (a := p) (o := .xd [(("limit" : Str), .int 2)])
    generalize upd H1 p (.xd [(("limit" : Str), .int 2)]) = H2 at s2 ep na ⊢
    refine ⟨_, rfl, C1, rfl, EC.x1, _, _, true, p, _, rfl, .own _, rfl, ep, EC.k11, _, rfl, iteT ?_⟩
    refine ⟨_, rfl, (by show 3 ≤ sizeLine; decide), fun tp ntp => ?_⟩
    have s3 := s2.trans (same_new ntp (.tup [.ref C2, .ref c1, .ref c2]))
    have ep3 := (same_new ntp (.tup [.ref C2, .ref c1, .ref c2])) _ _ ep
    refine ⟨C1, rfl, EC.x1, tp, _, _, false, p, _, rfl, upd_same, .cons (.own _) (.cons (.own _) (.cons (.own _) .nil)), rfl, ep3, kM1, _, rfl, iteT ?_⟩
    refine ⟨_, rfl, rfl, rfl, p, _, rfl, ep3, (by show 2 ≤ sizeLine; decide), fun p2 np2 => ?_⟩
    refine q p2 _ (s3.trans (same_new np2 _)) (none_of s3 np2) ?_
    unfold jD
    rw [if_pos h2]
    exact .lst (SqL.of upd_same) (.cons (.str _) (.cons (.int _) .nil))
  · refine ⟨true, e2, fun _ a0 na => ?_, fun z => nomatch z⟩
    have s2 := s1.trans (same_new np (.xd [(("limit" : Str), .int 12)]))
    have ep := upd_same (H := H1) (a := p) (o := .xd [(("limit" : Str), .int 12)])
    generalize upd H1 p (.xd [(("limit" : Str), .int 12)]) = H2 at s2 ep na ⊢
    refine ⟨_, rfl, C2, rfl, EC.x2, _, _, false, p, _, rfl, .own _, rfl, ep, EC.k21, _, rfl, iteF ?_⟩
    refine ⟨_, rfl, C2, rfl, EC.x2, _, _, true, p, _, rfl, .own _, rfl, ep, EC.k22, _, rfl, iteT ?_⟩
    refine ⟨_, rfl, (by show 3 ≤ sizeLine; decide), fun tp ntp => ?_⟩
    have s3 := s2.trans (same_new ntp (.tup [.ref C1, .ref c1, .ref c2]))
    have ep3 := (same_new ntp (.tup [.ref C1, .ref c1, .ref c2])) _ _ ep
    refine ⟨C2, rfl, EC.x2, tp, _, _, false, p, _, rfl, upd_same, .cons (.own _) (.cons (.own _) (.cons (.own _) .nil)), rfl, ep3, kM2, _, rfl, iteT ?_⟩
    refine ⟨_, rfl, rfl, rfl, p, _, rfl, ep3, (by show 2 ≤ sizeLine; decide), fun p2 np2 => ?_⟩
    refine q p2 _ (s3.trans (same_new np2 _)) (none_of s3 np2) ?_
    unfold jD
    rw [if_neg (by omega), if_pos h12]
    exact .lst (SqL.of upd_same) (.cons (.str _) (.cons (.int _) .nil))
  · refine ⟨(by show 2 ≤ sizeLine; decide), fun p2 np2 => ?_⟩
    have k := same_new np2 (.lst [.str "told", r])
    refine q p2 _ (s1.trans k) (none_of s1 np2) ?_
    unfold jD
    rw [if_neg (by omega), if_neg (by omega)]
    exact .lst (SqL.of upd_same) (.cons (.str _) (.cons (tr.same k).dp .nil))
end
/-! ### what the law compares -/
/-! ### law -/
theorem T.shaped {t : T} (h : t.lt) (hd : t.deep ≤ 60) : SeqAt.shaped t.data = true := by
  unfold SeqAt.shaped
  simp only [t.can h, t.data_deep, Bool.true_and, decide_eq_true_eq]
  omega
theorem listText_leR (ts : List Str) : (listText ts).length ≤ piled ts + 3 := by
  have h := textFrom_len_le ts 0 "["
  have e : (listText ts).length = (textFrom 0 "[" ts).length + 1 := by
    show (textFrom 0 "[" ts ++ "]").length = _
    rw [strLen_append]
    rfl
  have z : ∀ l : List Str, (l.map (·.length)).sum + 2 * l.length = piled l := by
    intro l
    induction l with
    | nil => rfl
    | cons t l ih =>
      rw [piled_cons, List.map_cons, List.sum_cons, List.length_cons]
      omega
  have z2 := z ts
  have z3 : (("[" : String) : Str).length = 1 := rfl
  omega

theorem piled_of (ts : List Str) (n : Nat) (h : ∀ t ∈ ts, t.length ≤ n) : piled ts ≤ ts.length * (n + 2) := by
  induction ts with
  | nil => exact Nat.zero_le _
  | cons t ts ih =>
    have h1 := h t (List.mem_cons_self ..)
    have h2 := ih fun u hu => h u (List.mem_cons_of_mem _ hu)
    rw [piled_cons, List.length_cons, Nat.succ_mul]
    omega
def ndD (e : List Nat × Str) : PyData := .tuple [.str (tx e.1), .str e.2]
def ndsD (L : List (List Nat × Str)) : PyData := .list (L.map ndD)
theorem NdAt.dpAll {K : PySem.W.Frag} {H : Hp} : ∀ {us : List V} {L : List (List Nat × Str)}, NdAt H us L → DpAll K H us (L.map ndD)
  | [], [], _ => .nil
  | u :: us, e :: L, h => by
    obtain ⟨a, rfl, ea⟩ := h.2 0 _ _ rfl rfl
    exact .cons (.tup (SqT.of ea) (.cons (.str _) (.cons (.str _) .nil))) (NdAt.dpAll ⟨Nat.succ.inj h.1, fun j u e h1 h2 => h.2 (j + 1) u e h1 h2⟩)
  | [], _ :: _, h => nomatch h.1
  | _ :: _, [], h => nomatch h.1
theorem NdAt.dp {K : PySem.W.Frag} {H : Hp} {p : Addr} {us : List V} {L : List (List Nat × Str)} (e : H p = some (.lst us)) (h : NdAt H us L) : Dp K H (.ref p) (ndsD L) := .lst (SqL.of e) h.dpAll
theorem NdAt.take {H : Hp} {us : List V} {L : List (List Nat × Str)} (h : NdAt H us L) (m : Nat) : NdAt H (us.take m) (L.take m) := ⟨by rw [List.length_take, List.length_take, h.1], fun j u e h1 h2 => by
  have hj : j < m := by
    have := (List.getElem?_eq_some_iff.mp h1).1
    rw [List.length_take] at this
    omega
  rw [List.getElem?_take_of_lt hj] at h1 h2
  exact h.2 j u e h1 h2⟩
theorem got_nd {t : T} {H : Hp} {xs : List V} (g : Got (itN t) H xs) (f : ∃ ys Hg, ys.length = xs.length ∧ fnN t ys Hg ∧ KeepU Hg H) : NdAt H xs (t.nd []) := by
  obtain ⟨ys, Hg, h1, h2, _⟩ := f
  have h2 : ys.length = t.size := h2
  refine ⟨by rw [T.nd_len, ← h1, h2], fun j u e h3 h4 => ?_⟩
  obtain ⟨zs, Hj, z1, ⟨q, w, rfl, z2, z3⟩, z4⟩ := g j u h3
  rw [z1, h4] at z2
  cases z2
  exact ⟨q, rfl, z4 _ _ z3⟩
theorem nds_dep (L : List (List Nat × Str)) : PyData.depthAll (L.map ndD) ≤ 1 := by
  induction L with
  | nil => simp only [List.map_nil, PyData.depthAll]; omega
  | cons e L ih => simp only [List.map_cons, ndD, PyData.depthAll, PyData.depth] at ih ⊢; omega
theorem nds_nar (L : List (List Nat × Str)) (h : L.length ≤ 60) : nar (ndsD L) = true := by
  have q : ∀ L : List (List Nat × Str), narAll (L.map ndD) = true := fun L => by
    induction L with
    | nil => simp only [List.map_nil, narAll]
    | cons e L ih => simp only [List.map_cons, ndD, narAll, nar, ih, Bool.and_true, Bool.and_self, List.length_cons, List.length_nil]; exact decide_eq_true (by omega)
  simp only [ndsD, nar, q, List.length_map, Bool.and_true]
  exact decide_eq_true (by omega)
def cmpD (L M : List (List Nat × Str)) : PyData := .list [ndsD L, ndsD M, ndsD M]
theorem cmp_ok (L M : List (List Nat × Str)) (h1 : L.length ≤ 60) (h2 : M.length ≤ 60) : (cmpD L M).depth < 20 ∧ nar (cmpD L M) = true := by
  have a := nds_dep L
  have b := nds_dep M
  refine ⟨?_, ?_⟩
  · simp only [cmpD, ndsD, PyData.depth, PyData.depthAll]; omega
  · simp only [cmpD, nar, narAll, nds_nar L h1, nds_nar M h2, Bool.and_self, Bool.and_true, List.length_cons, List.length_nil]
    exact decide_eq_true (by omega)
/-- some trees in a list of the law -/
structure SomeAt (D : Deck) (H : Hp) (x : V) (p : Addr) (ws : List V) (ts : List T) : Prop where
  x : x = .ref p
  e : H p = some (.lst ws)
  off : Off D p
  at_ : TsAt H ws ts
  len : ts.length ≤ 3
  lt : ∀ t ∈ ts, t.lt ∧ t.size ≤ 12
theorem SomeAt.same {D : Deck} {H H' : Hp} {x : V} {p : Addr} {ws : List V} {ts : List T} (h : SomeAt D H x p ws ts) (s : Same H H') : SomeAt D H' x p ws ts := ⟨h.x, s _ _ h.e, h.off, h.at_.keep (Tw.Same.keepT s), h.len, h.lt⟩
theorem SomeAt.sameD {D : Deck} {H H' : Hp} {n : Nat} {x : V} {p : Addr} {ws : List V} {ts : List T} (h : SomeAt D H x p ws ts) (s : SameD D H H') (d : DeckOk H D n) : SomeAt D H' x p ws ts := ⟨h.x, s.at h.off h.e, h.off, h.at_.keep (s.keepT d), h.len, h.lt⟩
theorem some_new {D : Deck} {H : Hp} {n : Nat} {p : Addr} {ws : List V} {ts : List T} (d : DeckOk H D n) (np : H p = none) (hT : TsAt H ws ts) (h3 : ts.length ≤ 3) (h : ∀ t ∈ ts, t.lt ∧ t.size ≤ 12) : SomeAt D (upd H p (.lst ws)) (.ref p) p ws ts :=
  ⟨rfl, upd_same, d.new np, hT.keep (Tw.Same.keepT (same_new np _)), h3, h⟩
theorem szs_le {ts : List T} (h : ∀ t ∈ ts, t.lt ∧ t.size ≤ 12) : szs ts ≤ 12 * ts.length := by
  unfold szs
  induction ts with
  | nil => exact Nat.le_refl _
  | cons t ts ih =>
    have h1 := (h t (List.mem_cons_self ..)).2
    have h2 := ih fun u hu => h u (List.mem_cons_of_mem _ hu)
    rw [List.map_cons, List.sum_cons, List.length_cons]
    omega
theorem SomeAt.sz {D : Deck} {H : Hp} {x : V} {p : Addr} {ws : List V} {ts : List T} (h : SomeAt D H x p ws ts) : szs ts ≤ 40 := by
  have := szs_le h.lt
  have := h.len
  omega
def someD (ts : List T) : PyData := .list (ts.map T.data)
theorem TsAt.dpAll {K : PySem.W.Frag} {H : Hp} {ws : List V} {ts : List T} (h : TsAt H ws ts) : DpAll K H ws (ts.map T.data) := by
  induction h with
  | nil => exact .nil
  | cons b _ ih => exact .cons b.dp ih
theorem SomeAt.dp {K : PySem.W.Frag} {D : Deck} {H : Hp} {x : V} {p : Addr} {ws : List V} {ts : List T} (h : SomeAt D H x p ws ts) : Dp K H (.ref p) (someD ts) := .lst (SqL.of h.e) h.at_.dpAll
theorem some_ok {ts : List T} (h3 : ts.length ≤ 3) (h : ∀ t ∈ ts, t.lt ∧ t.size ≤ 12) : (someD ts).showable = true ∧ (someD ts).hasDict = false ∧ (someD ts).depth ≤ 60 ∧ (someD ts).shown.length ≤ sizeLine := by
  have q1 : ∀ ts : List T, PyData.showableAll (ts.map T.data) = true := fun ts => by
    induction ts with
    | nil => simp only [List.map_nil, PyData.showableAll]
    | cons t ts ih => simp only [List.map_cons, PyData.showableAll, ih, t.showable, Bool.and_self]
  have q2 : ∀ ts : List T, PyData.hasDictAll (ts.map T.data) = false := fun ts => by
    induction ts with
    | nil => simp only [List.map_nil, PyData.hasDictAll]
    | cons t ts ih => simp only [List.map_cons, PyData.hasDictAll, ih, t.noDict, Bool.or_self]
  have q3 : ∀ ts : List T, (∀ t ∈ ts, t.lt ∧ t.size ≤ 12) → PyData.depthAll (ts.map T.data) ≤ 12 := fun ts h => by
    induction ts with
    | nil => simp only [List.map_nil, PyData.depthAll]; omega
    | cons t ts ih =>
      have a := t.deep_le
      have b := (h t (List.mem_cons_self ..)).2
      have c := ih fun u hu => h u (List.mem_cons_of_mem _ hu)
      simp only [List.map_cons, PyData.depthAll, t.data_deep]
      omega
  have q4 : ∀ ts : List T, (∀ t ∈ ts, t.lt ∧ t.size ≤ 12) → piled (PyData.shownAll (ts.map T.data)) ≤ 400 * ts.length := fun ts h => by
    induction ts with
    | nil => simp only [List.map_nil, PyData.shownAll]; exact Nat.le_refl _
    | cons t ts ih =>
      have a := t.shown_len (h t (List.mem_cons_self ..)).1
      have b := (h t (List.mem_cons_self ..)).2
      have c := ih fun u hu => h u (List.mem_cons_of_mem _ hu)
      simp only [List.map_cons, PyData.shownAll, List.length_cons]
      rw [piled_cons]
      omega
  refine ⟨?_, ?_, ?_, ?_⟩
  · simp only [someD, PyData.showable, q1]
  · simp only [someD, PyData.hasDict, q2]
  · have := q3 ts h
    simp only [someD, PyData.depth]; omega
  · have a := q4 ts h
    simp only [someD, PyData.shown]
    refine Nat.le_trans (listText_leR _) ?_
    show _ ≤ 16777216
    omega
theorem jn_deep (y : Str) {ts : List T} (h : ∀ t ∈ ts, t.lt ∧ t.size ≤ 12) : (jn y ts).deep ≤ 13 := by
  match ts, h with
  | [], _ => show 1 + max 0 0 ≤ 13; omega
  | [a], h =>
    have h1 := (h a (by simp)).2
    have h2 := a.deep_le
    show 1 + max a.deep 0 ≤ 13
    omega
  | a :: b :: _, h =>
    have h1 := (h a (by simp)).2
    have h2 := a.deep_le
    have h3 := (h b (by simp)).2
    have h4 := b.deep_le
    show 1 + max a.deep b.deep ≤ 13
    omega
theorem jD_ok (y : Str) {ts : List T} (h : ∀ t ∈ ts, t.lt ∧ t.size ≤ 12) : (PyData.list [jD y ts, jD y ts]).depth < 20 ∧ nar (.list [jD y ts, jD y ts]) = true := by
  have a := jn_deep y h
  have d : (jD y ts).depth ≤ 14 := by
    unfold jD
    split
    · simp only [PyData.depth, PyData.depthAll]; omega
    · split
      · simp only [PyData.depth, PyData.depthAll]; omega
      · simp only [PyData.depth, PyData.depthAll, T.data_deep]; omega
  have n : nar (jD y ts) = true := by
    unfold jD
    split
    · simp only [nar, narAll, Bool.and_true, List.length_cons, List.length_nil]; exact decide_eq_true (by omega)
    · split
      · simp only [nar, narAll, Bool.and_true, List.length_cons, List.length_nil]; exact decide_eq_true (by omega)
      · simp only [nar, narAll, T.nar_data, Bool.and_true, List.length_cons, List.length_nil]; exact decide_eq_true (by omega)
  refine ⟨?_, ?_⟩
  · have e : (PyData.list [jD y ts, jD y ts]).depth = max (jD y ts).depth (max (jD y ts).depth 0) + 1 := by
      rw [PyData.depth, PyData.depthAll, PyData.depthAll, PyData.depthAll]
    rw [e]
    omega
  · simp only [nar, narAll, n, Bool.and_true, List.length_cons, List.length_nil]; exact decide_eq_true (by omega)
/-- a tree of the law, or none -/
def TrV (H : Hp) (v : V) : Prop := ∃ t : T, TreeAt H v t ∧ t.lt ∧ t.size ≤ 12
theorem TrV.keep {H H' : Hp} (k : KeepT H H') {v : V} (h : TrV H v) : TrV H' v := by
  obtain ⟨t, h1, h2⟩ := h
  exact ⟨t, h1.keep k, h2⟩
theorem trs_at {H : Hp} : ∀ {ws : List V}, (∀ x ∈ ws, TrV H x) → ∃ ts, TsAt H ws ts ∧ ts.length = ws.length ∧ ∀ t ∈ ts, t.lt ∧ t.size ≤ 12
  | [], _ => ⟨[], .nil, rfl, fun _ h => nomatch h⟩
  | w :: ws, h => by
    obtain ⟨t, h1, h2⟩ := h w (List.mem_cons_self ..)
    obtain ⟨ts, h3, h4, h5⟩ := trs_at fun x hx => h x (List.mem_cons_of_mem _ hx)
    exact ⟨t :: ts, .cons h1 h3, by rw [List.length_cons, List.length_cons, h4], fun u hu => by
      rcases List.mem_cons.mp hu with rfl | hu
      · exact h2
      · exact h5 u hu⟩
theorem DeckOk.but {H H' : Hp} {D : Deck} {n : Nat} (d : DeckOk H D n) {p : Addr} (f : Off D p) (k : ∀ b o, b ≠ p → H b = some o → H' b = some o) : DeckOk H' D n := by
  obtain ⟨c, r, h1, h2, h3, h4⟩ := d.ex
  exact ⟨⟨c, r, k _ _ f.dk.symm h1, k _ _ f.ca.symm h2, k _ _ f.ra.symm h3, h4⟩, d.dc, d.dr, d.cr⟩
/-- a loop over a generator, with what holds after it -/
theorem for3_post {It : List V → V → Hp → Prop} {Fn : List V → Hp → Prop} {g : TG} {tb : TS} {D : Ends} {σ : L2.St} {H1 : Hp} (Post : L2.St → Hp → Prop) (W : Nat → L2.St → Hp → Prop) (w0 : W 0 σ H1)
    (he : ∀ j σ H2, W j σ H2 → ∀ (ys : List V) (Hg H3 : Hp), ys.length = j → Fn ys Hg → KeepU Hg H3 → Same H2 H3 → Post σ H3)
    (hs : ∀ N : L2.St → Hp → Prop, (∀ σ H, Post σ H → N σ H) → ∀ j σ H2, W j σ H2 → ∀ (ys : List V) (x : V) (Hg H3 : Hp), ys.length = j → j < sizeLine → It ys x Hg → KeepU Hg H3 → Same H2 H3 → g x σ H3 fun σ4 H4 => tb { D with nx := fun σ' H' => KeepU H3 H' ∧ W (j + 1) σ' H', ct := fun σ' H' => KeepU H3 H' ∧ W (j + 1) σ' H', bk := N } σ4 H4)
    (hp : ∀ σ H, Post σ H → D.nx σ H) :
    ∃ W : Nat → L2.St → Hp → Prop, W 0 σ H1 ∧ ∀ j σ H2, W j σ H2 →
      (∀ ys Hg H3, ys.length = j → Fn ys Hg → KeepU Hg H3 → Same H2 H3 → D.nx σ H3) ∧
      ∀ ys x Hg H3, ys.length = j → j < sizeLine → It ys x Hg → KeepU Hg H3 → Same H2 H3 → g x σ H3 fun σ4 H4 => tb { D with nx := fun σ' H' => KeepU H3 H' ∧ W (j + 1) σ' H', ct := fun σ' H' => KeepU H3 H' ∧ W (j + 1) σ' H', bk := D.nx } σ4 H4 :=
  ⟨W, w0, fun j σ H2 hw => ⟨fun ys Hg H3 a b c d => hp _ _ (he j σ H2 hw ys Hg H3 a b c d), hs D.nx hp j σ H2 hw⟩⟩
section
variable {P : Program} {w : World} {K : PySem.W.Frag} {mg : Str → Option Value} {base : Heap} {f : Addr} {fd : FuncData}
structure DfG (P : Program) (w : World) (K : PySem.W.Frag) (mg : Str → Option Value) (base : Heap) (k : Nat) (nm : Str) (ps : List Str) (sp : SpG3) where
  f : Addr
  fd : FuncData
  ok : GFn3 P w K mg base k f fd ps sp
  b : Binds K fd ps []
  kp : PySem.W.keepIn K (.ref f) = true
  g : mg nm = some (.ref f)
theorem run_law {s : Shared} {H : Hp} {a : Addr} {ns : List Int} (F : Fun K "law" "law" s_law f fd) (bd : BindsTo s fd ⟨[.ref a], []⟩ [("_law_script", .ref a)]) (en : Env0 P w K mg base callerA [] s H) (hS : SqL K H a (ns.map V.int)) (M : Mgs mg) (mrepr : mg "repr" = none)
    (D_law_deck : Df P w K mg base 1 "_law_deck" ["_law_script"] (spDeck K)) (D_law_same : Df P w K mg base 20 "_law_same" ["_law_found", "_law_due_here"] (spSame K 20)) (D_law_tree : Df P w K mg base 29 "_law_tree" ["_law_deck_here", "_law_limit"] spTree) (D_law_next : Df P w K mg base 1 "_law_next" ["_law_deck_here", "_law_many"] spNext)
    (D_law_one : Df P w K mg base 2 "_law_one" ["_law_deck_here", "_law_items"] spOneV) (D_law_nodes : Df P w K mg base 1 "_law_nodes" ["_law_tree_here"] spNodesL) (Deach : DfG P w K mg base 2 "each_node" ["tree"] spEach) (D_law_due : Df P w K mg base 21 "_law_due" ["_law_label", "_law_some"] (spDueJ K)) (D_law_told : Df P w K mg base 63 "_law_told" ["_law_label", "_law_some"] (spToldJ K)) :
    codeAny (model P w) callerA (.call (.ref f) ⟨[.ref a], []⟩) (CR CX0 [] P w H s (fun v _ => v = .bl true) fun _ _ _ => False) s := by
  refine enter_def (k := 65) (vs := [.ref a]) (us := [.ref a]) F sc_law ⟨rfl, by decide, by decide⟩ en bd (.cons rfl .nil) rfl fun cdv hr => ?_
  have hu := hr.units
  refine ⟨_, (pss_cons (ps_set (i := 1) sc_law.nd rfl (.inr rfl) (pe_call D_law_deck.ok (hr.mono (by omega)) rfl D_law_deck.g D_law_deck.kp D_law_deck.b .nil pass0 (pa_cons (pv 0) pa_nil)))
    (pss_cons (ps_for PassesOwn.never rfl (pi_range1 rfl M.range (pa_cons pe_int pa_nil)) (pg_name (i := 2) sc_law.nd rfl (.inl rfl))
      (pss_cons (ps_par (i := 3) (j := 4) (by rfl) sc_law.nd rfl rfl (by decide) rfl rfl (pa_cons (pe_call D_law_tree.ok (hr.mono (by omega)) rfl D_law_tree.g D_law_tree.kp D_law_tree.b .nil pass0 (pa_cons (pv 1) (pa_cons pe_int pa_nil))) (pa_cons (pe_lst pa_nil) pa_nil)) (by rfl))
    (pss_cons (ps_par (i := 5) (j := 6) (by rfl) sc_law.nd rfl rfl (by decide) rfl rfl (pa_cons (pe_callB (call_reprD rfl hr.units) rfl mrepr (by decide +kernel) (pa_cons (pv 3) pa_nil)) (pa_cons (pe_call D_law_nodes.ok (hr.mono (by omega)) rfl D_law_nodes.g D_law_nodes.kp D_law_nodes.b .nil pass0 (pa_cons (pv 3) pa_nil)) pa_nil)) (by rfl))
    (pss_cons (ps_set (i := 7) sc_law.nd rfl (.inl rfl) (pe_call D_law_next.ok (hr.mono (by omega)) rfl D_law_next.g D_law_next.kp D_law_next.b .nil pass0 (pa_cons (pv 1) (pa_cons pe_int pa_nil))))
    (pss_cons (ps_for3 (k := 2) PassesOwn.never (xeOk_never fun _ _ x => x) (hr.mono (by omega)) (pgen3 (k := 2) Deach.ok (hr.mono (by omega)) rfl Deach.g Deach.kp Deach.b .nil (pa_cons (pv 3) pa_nil)) (pg_name (i := 8) sc_law.nd rfl (.inl rfl))
      (pss_cons (ps_if (pt_cmpR op_gt (pe_callB call_len_seq rfl M.len PySem.boot_len (pa_cons (pv 4) pa_nil)) (pv 7) (nomark _))
      (pss_one ps_break) pss_nil)
    (pss_one (ps_expr (pe_bm PySem.F.plainAttrs_list PySem.F.slot_list_append PySem.F.type_list_append mt_append (pv 4) (pa_cons (pv 8) pa_nil))))))
    (pss_cons (ps_if (pt_not (pt_val (pe_call D_law_same.ok (hr.mono (by omega)) rfl D_law_same.g D_law_same.kp D_law_same.b .nil pass0 (pa_cons (pe_lst (pa_cons (pv 4) (pa_cons (pe_list3 (k := 2) (pgen3 (k := 2) Deach.ok (hr.mono (by omega)) rfl Deach.g Deach.kp Deach.b .nil (pa_cons (pv 3) pa_nil)) (hr.mono (by omega)) rfl M.list (by decide +kernel)) (pa_cons (pe_list3 (k := 2) (pgen3 (k := 2) Deach.ok (hr.mono (by omega)) rfl Deach.g Deach.kp Deach.b .nil (pa_cons (pv 3) pa_nil)) (hr.mono (by omega)) rfl M.list (by decide +kernel)) pa_nil)))) (pa_cons (pe_lst (pa_cons (pe_slice sl_list (pv 6) po_none (po_some (pe_op op_add (pv 7) pe_int))) (pa_cons (pv 6) (pa_cons (pv 6) pa_nil)))) pa_nil)))))
      (pss_one (ps_ret pe_bl)) pss_nil)
    (pss_cons (ps_set (i := 9) sc_law.nd rfl (.inl rfl) (pe_call D_law_one.ok (hr.mono (by omega)) rfl D_law_one.g D_law_one.kp D_law_one.b .nil pass0 (pa_cons (pv 1) (pa_cons (pe_callTy (call_signs rfl) rfl M.list (by decide +kernel) (pa_cons pe_str pa_nil)) pa_nil))))
    (pss_cons (ps_set (i := 10) sc_law.nd rfl (.inr rfl) (pe_lst (pa_cons (pv 3) (pa_cons pe_non (pa_cons (pe_call D_law_tree.ok (hr.mono (by omega)) rfl D_law_tree.g D_law_tree.kp D_law_tree.b .nil pass0 (pa_cons (pv 1) (pa_cons pe_int pa_nil))) (pa_cons (pe_call D_law_tree.ok (hr.mono (by omega)) rfl D_law_tree.g D_law_tree.kp D_law_tree.b .nil pass0 (pa_cons (pv 1) (pa_cons pe_int pa_nil))) (pa_cons pe_non pa_nil)))))))
    (pss_cons (ps_setLc (i := 13) (own := [("_law_many", 11)]) (g := gName 11) (tt := tYes) (by rfl) sc_law.nd rfl rfl (sw_true rfl rfl rfl (by decide +kernel)) (pi_range1 rfl M.range (pa_cons pe_int pa_nil)) (blkOk_by (N := ["_law_script", "_law_deck_here", "_law_turn", "_law_tree_here", "_law_seen", "_law_kept", "_law_due_here", "_law_stop", "_law_node", "_law_label", "_law_trees", "_law_many", "_law_k", "_law_drawn", "_law_some", "_law_held", "_law_told_here", "_law_found"]) (sc := defScope s_law) (by decide +kernel)) (fun _ _ _ _ _ => (pg_name (i := 11) sc_law.nd rfl (.inl rfl))) (fun _ _ _ _ _ => pts_nil) (fun _ _ _ _ _ => (pe_lc (own := [("_law_k", 12)]) (g := gName 12) (tt := tYes) rfl sc_law.nd (pi_range1 rfl M.range (pa_cons (pv 11) pa_nil)) (blkOk_by (N := ["_law_script", "_law_deck_here", "_law_turn", "_law_tree_here", "_law_seen", "_law_kept", "_law_due_here", "_law_stop", "_law_node", "_law_label", "_law_trees", "_law_many", "_law_k", "_law_drawn", "_law_some", "_law_held", "_law_told_here", "_law_found"]) (sc := { kind := .function, names := [(".0", .local), ("_law_many", .local), ("range", .globalImplicit), ("_law_deck_here", .cell), ("_law_trees", .cell)], isGenerator := false, isCoroutine := false }) (by decide +kernel)) (fun _ _ _ _ _ => (pg_name (i := 12) sc_law.nd rfl (.inl rfl))) (fun _ _ _ _ _ => pts_nil) (fun _ _ _ _ _ => (pe_call D_law_one.ok (hr.mono (by omega)) rfl D_law_one.g D_law_one.kp D_law_one.b .nil pass0 (pa_cons (pv 1) (pa_cons (pv 10) pa_nil)))))))
    (pss_cons (ps_for PassesOwn.never rfl (pi_list (pe_op op_cat (pv 13) (pe_lst (pa_cons (pe_lst (pa_cons pe_non pa_nil)) (pa_cons (pe_lst (pa_cons pe_non (pa_cons pe_non pa_nil))) (pa_cons (pe_lst (pa_cons pe_non (pa_cons pe_non (pa_cons pe_non pa_nil)))) (pa_cons (pe_lst (pa_cons pe_non (pa_cons (pv 3) pa_nil))) pa_nil))))))) (pg_name (i := 14) sc_law.nd rfl (.inl rfl))
      (pss_cons (ps_par (i := 15) (j := 16) (by rfl) sc_law.nd rfl rfl (by decide) rfl rfl (pa_cons (pe_callB (call_reprD rfl hr.units) rfl mrepr (by decide +kernel) (pa_cons (pv 14) pa_nil)) (pa_cons (pe_call D_law_due.ok (hr.mono (by omega)) rfl D_law_due.g D_law_due.kp D_law_due.b .nil pass0 (pa_cons (pv 9) (pa_cons (pv 14) pa_nil))) pa_nil)) (by rfl))
    (pss_cons (ps_set (i := 17) sc_law.nd rfl (.inl rfl) (pe_lst (pa_cons (pe_call D_law_told.ok (hr.mono (by omega)) rfl D_law_told.g D_law_told.kp D_law_told.b .nil pass0 (pa_cons (pv 9) (pa_cons (pv 14) pa_nil))) (pa_cons (pe_call D_law_told.ok (hr.mono (by omega)) rfl D_law_told.g D_law_told.kp D_law_told.b .nil pass0 (pa_cons (pv 9) (pa_cons (pv 14) pa_nil))) pa_nil))))
    (pss_one (ps_if (PW.pt (pw_or (pt_not (pt_val (pe_call D_law_same.ok (hr.mono (by omega)) rfl D_law_same.g D_law_same.kp D_law_same.b .nil pass0 (pa_cons (pv 17) (pa_cons (pe_lst (pa_cons (pv 16) (pa_cons (pv 16) pa_nil))) pa_nil))))) (pw_or1 (pt_cmpR op_ne (pe_callB (call_reprD rfl hr.units) rfl mrepr (by decide +kernel) (pa_cons (pv 14) pa_nil)) (pv 15) (nomark _)))))
      (pss_one (ps_ret pe_bl)) pss_nil)))))
    (pss_one (ps_if (pt_cmpR op_ne (pe_callB (call_reprD rfl hr.units) rfl mrepr (by decide +kernel) (pa_cons (pv 3) pa_nil)) (pv 5) (nomark _))
      (pss_one (ps_ret pe_bl)) pss_nil))))))))))))
    (pss_one (ps_ret pe_bl)))), ?_⟩
  refine ⟨_, rfl, a, ns, rfl, hS, fun D H1 d1 s1 => ?_⟩
  refine ⟨8, rfl, by decide, by decide, ?_⟩
  refine for_range (lo := 0) (n := 8) (fun i σ H' => ∃ (rest : List (Option V)) (c : Nat), rest.length = 16 ∧ σ = some (.ref a) :: some (.ref D.dk) :: rest ∧ DeckOk H' D c ∧ c ≤ 500 * i) ⟨List.replicate 16 none, 0, rfl, rfl, d1, by omega⟩ (fun i σ H3 hi hp => ?_) (fun σ H3 hp => ?_)
  · obtain ⟨rest, c, lr, rfl, d3, hc⟩ := hp
    match rest, lr with
    | [y2, y3, y4, y5, y6, y7, y8, y9, ya, yb, yc, yd, ye, yf, yg, yh], _ =>
    refine ⟨_, rfl, D, c, 12, rfl, d3, by omega, by omega, by omega, fun v t c4 H4 d4 hc4 s4 at4 t0 t1 tl => ?_⟩
    obtain ⟨ta, rfl⟩ : ∃ ta, v = .ref ta := by
      rcases at4.inv with ⟨_, rfl⟩ | ⟨a, _, _, _, _, _, rfl, _⟩
      · exact absurd t0 (by show ¬ 1 ≤ 0; omega)
      · exact ⟨a, rfl⟩
    have td := t.deep_le
    have tsh := t.shown_len tl
    refine ⟨(by show 0 ≤ sizeLine; decide), fun sn nsn => ⟨_, _, rfl, ?_⟩⟩
    have k5 := same_new nsn (.lst [])
    have d5 := d4.same k5
    have at5 := at4.same k5
    have os := d4.new nsn
    have es := upd_same (H := H4) (a := sn) (o := .lst [])
    generalize upd H4 sn (.lst []) = H5 at k5 d5 at5 es ⊢
    refine ⟨_, rfl, ta, t.data, rfl, at5.dp, t.showable, t.noDict, by rw [t.data_deep]; omega, small (by omega), _, rfl, .ref ta, t, rfl, at5, by omega, fun nl us H6 s6 nnl enl hnd => ⟨_, _, rfl, ?_⟩⟩
    have d6 := d5.same s6
    have ol := d5.new nnl
    have es6 := s6 _ _ es
    have at6 := at5.same s6
    have nls : nl ≠ sn := fun z => by rw [z, es] at nnl; cases nnl
    refine ⟨_, rfl, D, c4, 12, rfl, d6, by omega, by omega, by omega, fun st H7 st0 st1 d7 s7 => ?_⟩
    obtain ⟨m, rfl⟩ := Int.eq_ofNat_of_zero_le st0
    have es7 := s7.at os es6
    have enl7 := s7.at ol enl
    have hnd7 := hnd.keep (s7.keepT d6)
    have at7 := at6.keep (s7.keepT d6)
    clear s6 s7 k5 es es6 hnd enl nnl nsn s4 at4 at5 at6 d3 d4 d5 d6
    refine ⟨_, rfl, itN t, fnN t, ⟨.ref ta, t, rfl, at7.keep fun b xs e => shr_tup e, by omega, rfl, rfl⟩, ?_⟩
    refine for3_post (fun σ H' => ∃ (z8 : Option V) (xs : List V), σ = [some (.ref a), some (.ref D.dk), some (.int (0 + i)), some (.ref ta), some (.ref sn), some (.str t.data.shown), some (.ref nl), some (.int (m : Int)), z8, y9, ya, yb, yc, yd, ye, yf, yg, yh] ∧ H' sn = some (.lst xs) ∧ NdAt H' xs ((t.nd []).take (m + 1)) ∧ ∀ b o, b ≠ sn → H7 b = some o → H' b = some o)
      (fun j σ H' => ∃ (z8 : Option V) (xs : List V), σ = [some (.ref a), some (.ref D.dk), some (.int (0 + i)), some (.ref ta), some (.ref sn), some (.str t.data.shown), some (.ref nl), some (.int (m : Int)), z8, y9, ya, yb, yc, yd, ye, yf, yg, yh] ∧ xs.length = j ∧ j ≤ m + 1 ∧ H' sn = some (.lst xs) ∧ NdAt H' xs ((t.nd []).take j) ∧ ∀ b o, b ≠ sn → H7 b = some o → H' b = some o)
      ⟨y8, [], rfl, rfl, Nat.zero_le _, es7, ⟨rfl, fun j u e h1 => by simp at h1⟩, fun b o _ e => e⟩ ?_ ?_ ?_
    · rintro j σ H' ⟨z8, xs, rfl, lx, jm, ex, nx, kx⟩ ys Hg H8 ly fy ku s8
      have fy : ys.length = t.size := fy
      refine ⟨z8, xs, rfl, s8 _ _ ex, ?_, fun b o h1 h2 => s8 _ _ (kx b o h1 h2)⟩
      have q := nx.keep (Tw.Same.keepT s8)
      rw [List.take_of_length_le (by rw [T.nd_len]; omega)] at q ⊢
      exact q
    · rintro N hN j σ H' ⟨z8, xs, rfl, lx, jm, ex, nx, kx⟩ ys x Hg H8 ly jl iy ku s8
      obtain ⟨q, w, rfl, i1, i2⟩ := iy
      rw [ly] at i1
      have ex8 := s8 _ _ ex
      have nx8 := nx.keep (Tw.Same.keepT s8)
      have kx8 : ∀ b o, b ≠ sn → H7 b = some o → H8 b = some o := fun b o h1 h2 => s8 _ _ (kx b o h1 h2)
      refine ⟨_, rfl, sn, _, rfl, .inl (SqL.of ex8), _, rfl, _, _, rfl, rfl, _, rfl, ?_⟩
      by_cases hj : m < j
      · rw [decide_eq_true (show ((m : Nat) : Int) < ((xs.length : Nat) : Int) by omega)]
        have ej : j = m + 1 := by omega
        rw [ej] at nx8
        exact iteT (hN _ _ ⟨_, xs, rfl, ex8, nx8, kx8⟩)
      · rw [decide_eq_false (show ¬ ((m : Nat) : Int) < ((xs.length : Nat) : Int) by omega)]
        refine iteF ?_
        refine ⟨.ref sn, rfl, .inl ⟨rfl, _, SqL.of ex8⟩, _, rfl, sn, xs, _, rfl, rfl, ex8, by rw [lx]; exact jl, ?_⟩
        have kt : KeepT H8 (upd H8 sn (.lst (xs ++ [.ref q]))) := fun b zs e => by rw [upd_ne (ne_of e ex8 (by intro z; cases z))]; exact e
        refine ⟨kt, _, xs ++ [.ref q], rfl, by rw [List.length_append, lx]; rfl, by omega, upd_same, ?_, fun b o h1 h2 => by rw [upd_ne h1]; exact kx8 b o h1 h2⟩
        rw [List.take_add_one, i1]
        exact (nx8.keep kt).snoc (kt _ _ (ku _ _ i2))
    · rintro σ H8 ⟨z8, xs, rfl, ex, nx, kx⟩
      have d8 := d7.but os kx
      have at8 := at7.keep fun b zs e => kx b _ (ne_of e es7 (by intro z; cases z)) e
      have hnd8 := hnd7.keep fun b zs e => kx b _ (ne_of e es7 (by intro z; cases z)) e
      have enl8 := kx _ _ nls enl7
      clear kx d7 at7 hnd7 enl7 es7
      refine ⟨_, rfl, _, rfl, itN t, fnN t, ⟨.ref ta, t, rfl, at8.keep fun b xs e => shr_tup e, by omega, rfl, rfl⟩, fun p1 H9 z1 s9 np1 lz1 g1 f1 => ?_⟩
      have nd1 := got_nd g1 f1
      have k1 := s9.trans (same_new np1 (.lst z1))
      have e1 := upd_same (H := H9) (a := p1) (o := .lst z1)
      have nd1 := nd1.keep (Tw.Same.keepT (same_new np1 (.lst z1)))
      generalize upd H9 p1 (.lst z1) = Ha at k1 e1 nd1 ⊢
      refine ⟨_, rfl, itN t, fnN t, ⟨.ref ta, t, rfl, (at8.same k1).keep fun b xs e => shr_tup e, by omega, rfl, rfl⟩, fun p2 Hb z2 sb np2 lz2 g2 f2 => ?_⟩
      have nd2 := got_nd g2 f2
      have k2 := sb.trans (same_new np2 (.lst z2))
      have e2 := upd_same (H := Hb) (a := p2) (o := .lst z2)
      have nd2 := nd2.keep (Tw.Same.keepT (same_new np2 (.lst z2)))
      generalize upd Hb p2 (.lst z2) = Hc at k2 e2 nd2 ⊢
      have e1 := k2 _ _ e1
      have nd1 := nd1.keep (Tw.Same.keepT k2)
      have k2 := k1.trans k2
      clear g1 f1 g2 f2 k1 s9 sb np1 np2
      refine ⟨(by show 3 ≤ sizeLine; decide), fun L1 nL1 => ?_⟩
      have k3 := same_new nL1 (.lst [.ref sn, .ref p1, .ref p2])
      have dp1 : Dp K (upd Hc L1 (.lst [.ref sn, .ref p1, .ref p2])) (.ref L1) (cmpD ((t.nd []).take (m + 1)) (t.nd [])) := .lst (SqL.of upd_same) (.cons ((nx.keep (Tw.Same.keepT (k2.trans k3))).dp ((k2.trans k3) _ _ ex)) (.cons ((nd1.keep (Tw.Same.keepT k3)).dp (k3 _ _ e1)) (.cons ((nd2.keep (Tw.Same.keepT k3)).dp (k3 _ _ e2)) .nil)))
      have k3 := k2.trans k3
      generalize upd Hc L1 (.lst [.ref sn, .ref p1, .ref p2]) = Hd at k3 dp1 ⊢
      clear e1 e2 nd1 nd2 k2 nL1
      refine ⟨_, rfl, _, rfl, _, _, rfl, rfl, _, rfl, nl, us, rfl, SqL.of (k3 _ _ enl8), fun p3 np3 => ?_⟩
      rw [show (((m : Nat) : Int) + 1) = ((m + 1 : Nat) : Int) by omega, cut_to]
      have k4 := same_new np3 (.lst (us.take (m + 1)))
      have e3 := upd_same (H := Hd) (a := p3) (o := .lst (us.take (m + 1)))
      generalize upd Hd p3 (.lst (us.take (m + 1))) = He at k4 e3 ⊢
      refine ⟨_, rfl, _, rfl, (by show 3 ≤ sizeLine; decide), fun L2 nL2 => ?_⟩
      have k5 := same_new nL2 (.lst [.ref p3, .ref nl, .ref nl])
      have k6 := k3.trans (k4.trans k5)
      have hn6 := hnd8.keep (Tw.Same.keepT k6)
      have dp2 : Dp K (upd He L2 (.lst [.ref p3, .ref nl, .ref nl])) (.ref L2) (cmpD ((t.nd []).take (m + 1)) (t.nd [])) := .lst (SqL.of upd_same) (.cons ((hn6.take (m + 1)).dp (k5 _ _ e3)) (.cons (hn6.dp (k6 _ _ enl8)) (.cons (hn6.dp (k6 _ _ enl8)) .nil)))
      have dp1 := dp_same (k4.trans k5) dp1
      have ck := cmp_ok ((t.nd []).take (m + 1)) (t.nd []) (by rw [List.length_take, T.nd_len]; omega) (by rw [T.nd_len]; omega)
      refine ⟨_, _, _, rfl, dp1, dp2, ck.1, ck.2, fun Hf sf => ⟨_, rfl, iteF ?_⟩⟩
      have k7 := k6.trans sf
      have df := d8.same k7
      have atf := at8.same k7
      clear dp1 dp2 hn6 k6 k5 k4 k3 e3 nL2 np3 sf ck hnd8 enl8 nx ex d8 at8 k7
      refine ⟨_, rfl, _, rfl, by decide +kernel, fun pl npl => ?_⟩
      have kl := same_new npl (.lst ((Str.ofString "abmyz").cps.toList.map fun c => V.str ⟨#[c]⟩))
      refine ⟨D, c4 + 1, pl, _, rfl, df.same kl, by omega, upd_same, df.new npl, by decide +kernel, by decide +kernel, fun lab Hg hlab dg sg => ?_⟩
      obtain ⟨y, rfl⟩ : ∃ y, lab = .str y := by
        obtain ⟨c', _, rfl⟩ := List.mem_map.mp hlab
        exact ⟨_, rfl⟩
      have atg := (atf.same kl).keep (sg.keepT (df.same kl))
      clear hlab sg kl npl df atf
      refine ⟨_, rfl, _, rfl, D, c4 + 2, 6, rfl, dg, by omega, by omega, by omega, fun v2 t2 c5 Hh dh hc5 sh at2 b0 b1 l2 => ?_⟩
      refine ⟨_, rfl, D, c5, 12, rfl, dh, by omega, by omega, by omega, fun v3 t3 c6 Hi di hc6 si at3 b2 b3 l3 => ⟨(by show 5 ≤ sizeLine; decide), fun tr ntr => ?_⟩⟩
      have ki := same_new ntr (.lst [.ref ta, .non, v2, v3, .non])
      have atj := ((atg.keep (sh.keepT dg)).keep (si.keepT dh)).same ki
      have trs : ∀ x ∈ [V.ref ta, .non, v2, v3, .non], TrV (upd Hi tr (.lst [.ref ta, .non, v2, v3, .non])) x := fun x hx => by
        simp only [List.mem_cons, List.mem_nil_iff, or_false] at hx
        rcases hx with rfl | rfl | rfl | rfl | rfl
        · exact ⟨t, atj, tl, by omega⟩
        · exact ⟨.nil, .nil, (fun _ h => nomatch h), Nat.zero_le _⟩
        · exact ⟨t2, (at2.keep (si.keepT dh)).same ki, l2, by omega⟩
        · exact ⟨t3, at3.same ki, l3, by omega⟩
        · exact ⟨.nil, .nil, (fun _ h => nomatch h), Nat.zero_le _⟩
      have ot := di.new ntr
      have dj := di.same ki
      have et := upd_same (H := Hi) (a := tr) (o := .lst [.ref ta, .non, v2, v3, .non])
      have w0 : 0 < [V.ref ta, .non, v2, v3, .non].length := by show 0 < 5; decide
      have w1 : [V.ref ta, .non, v2, v3, .non].length ≤ 1000 := by show 5 ≤ 1000; decide
      generalize upd Hi tr (.lst [.ref ta, .non, v2, v3, .non]) = Hj at atj trs dj et ⊢
      generalize [V.ref ta, .non, v2, v3, .non] = W5 at trs et w0 w1
      clear ki ntr at2 at3 di dh dg sh si atg l2 l3
      refine ⟨4, rfl, by decide, by decide, fun dr ndr => ?_⟩
      refine lc_range (lo := 0) (n := 4) (fun j H' => ∃ (ls : List V) (c' : Nat), H' dr = some (.lst ls) ∧ ls.length = j ∧ (∀ x ∈ ls, x ≠ .ref dr ∧ ∃ p ws ts, SomeAt D H' x p ws ts) ∧ DeckOk H' D c' ∧ c' ≤ c6 + 4 * j ∧ SameD D Hj H') ⟨[], c6, upd_same, rfl, (fun _ h => nomatch h), dj.same (same_new ndr _), by omega, SameD.of (same_new ndr _)⟩ (fun j H' hj hp => ?_) (fun H' hp => ?_)
      · obtain ⟨ls, c', eds, ll, hls, dk, hc', sk⟩ := hp
        refine ⟨rfl, kept ?_⟩
        rw [Int.zero_add ((j : Nat) : Int)]
        refine ⟨_, rfl, ((j : Nat) : Int), rfl, by omega, by omega, fun q nq => ?_⟩
        have kq := same_new nq (.lst [])
        refine lc_range (lo := 0) (n := j) (fun k Hx => ∃ (ws : List V) (c2 : Nat), Hx q = some (.lst ws) ∧ ws.length = k ∧ (∀ x ∈ ws, TrV Hx x) ∧ DeckOk Hx D c2 ∧ c2 ≤ c' + k ∧ SameD D H' Hx) ⟨[], c', upd_same, rfl, (fun _ h => nomatch h), dk.same kq, by omega, SameD.of kq⟩ (fun k Hx hk hx => ?_) (fun Hx hx => ?_)
        · obtain ⟨ws, c2, eq, lw, hw, dx, hc2, sx⟩ := hx
          refine ⟨rfl, kept ?_⟩
          refine ⟨_, rfl, _, rfl, D, c2, tr, W5, rfl, dx, by omega, sx.at ot (sk.at ot et), ot, w0, w1, fun x1 Hy hx1 dy sy => ?_⟩
          have eq1 := sy.at (dk.new nq) eq
          have kt : KeepT Hy (upd Hy q (.lst (ws ++ [x1]))) := fun b zs e => by rw [upd_ne (ne_of e eq1 (by intro z; cases z))]; exact e
          refine ⟨ws, eq1, small1000 (by omega), ws ++ [x1], c2 + 1, upd_same, by rw [List.length_append, lw]; rfl, fun x hx => ?_, dy.put (dk.new nq) _, by omega, (sx.trans sy).put nq _⟩
          rcases List.mem_append.mp hx with hx | hx
          · exact ((hw x hx).keep (sy.keepT dx)).keep kt
          · rw [List.mem_singleton.mp hx]
            exact ((((trs x1 hx1).keep (sk.keepT dj)).keep (sx.keepT dk)).keep (sy.keepT dx)).keep kt
        · obtain ⟨ws, c2, eq, lw, hw, dx, hc2, sx⟩ := hx
          obtain ⟨ts, hT, lt', hts⟩ := trs_at hw
          have od := dj.new ndr
          have edx := sx.at od eds
          have nqd : q ≠ dr := fun z => by rw [z, eds] at nq; cases nq
          have kt : KeepT Hx (upd Hx dr (.lst (ls ++ [.ref q]))) := fun b zs e => by rw [upd_ne (ne_of e edx (by intro z; cases z))]; exact e
          have up : ∀ {x p ws ts}, x ≠ V.ref dr → SomeAt D Hx x p ws ts → SomeAt D (upd Hx dr (.lst (ls ++ [.ref q]))) x p ws ts := fun hn h => ⟨h.x, by rw [upd_ne (fun z => hn (by rw [h.x, z]))]; exact h.e, h.off, h.at_.keep kt, h.len, h.lt⟩
          refine ⟨ls, edx, small1000 (by omega), ls ++ [.ref q], c2, upd_same, by rw [List.length_append, ll]; rfl, fun x hx => ?_, dx.put od _, by omega, (sk.trans sx).put ndr _⟩
          rcases List.mem_append.mp hx with hx | hx
          · obtain ⟨hn, p, ws', ts', h⟩ := hls x hx
            exact ⟨hn, p, ws', ts', up hn (h.sameD sx dk)⟩
          · rw [List.mem_singleton.mp hx]
            have hn : V.ref q ≠ V.ref dr := fun z => nqd (V.ref.inj z)
            exact ⟨hn, q, ws, ts, up hn ⟨rfl, eq, dk.new nq, hT, by omega, hts⟩⟩
      · obtain ⟨ls, c', eds, ll, hls, dk, hc', sk⟩ := hp
        have atk := atj.keep (sk.keepT dj)
        clear trs et ot w0 w1 sk dj atj ndr
        have nlt : T.nil.lt ∧ T.nil.size ≤ 12 := ⟨(fun _ h => nomatch h), Nat.zero_le _⟩
        refine ⟨_, rfl, (by show 1 ≤ sizeLine; decide), fun a1 n1 => ⟨(by show 2 ≤ sizeLine; decide), fun a2 n2 => ⟨(by show 3 ≤ sizeLine; decide), fun a3 n3 => ⟨_, rfl, (by show 2 ≤ sizeLine; decide), fun a4 n4 => ⟨(by show 4 ≤ sizeLine; decide), fun aL nL => ?_⟩⟩⟩⟩⟩
        have q1 := same_new n1 (.lst [.non])
        have m1 := some_new dk n1 (.cons .nil .nil) (by show 1 ≤ 3; decide) (fun u hu => by rw [List.mem_singleton.mp hu]; exact nlt)
        have d1' := dk.same q1
        have q2 := same_new n2 (.lst [.non, .non])
        have m2 := some_new d1' n2 (.cons .nil (.cons .nil .nil)) (by show 2 ≤ 3; decide) (fun u hu => by
          simp only [List.mem_cons, List.mem_nil_iff, or_false] at hu
          rcases hu with rfl | rfl <;> exact nlt)
        have d2 := d1'.same q2
        have q3 := same_new n3 (.lst [.non, .non, .non])
        have m3 := some_new d2 n3 (.cons .nil (.cons .nil (.cons .nil .nil))) (by show 3 ≤ 3; decide) (fun u hu => by
          simp only [List.mem_cons, List.mem_nil_iff, or_false] at hu
          rcases hu with rfl | rfl | rfl <;> exact nlt)
        have d3 := d2.same q3
        have q4 := same_new n4 (.lst [.non, .ref ta])
        have m4 := some_new d3 n4 (.cons .nil (.cons (((atk.same q1).same q2).same q3) .nil)) (by show 2 ≤ 3; decide) (fun u hu => by
          simp only [List.mem_cons, List.mem_nil_iff, or_false] at hu
          rcases hu with rfl | rfl
          · exact nlt
          · exact ⟨tl, t1⟩)
        have q5 := same_new nL (.lst [.ref a1, .ref a2, .ref a3, .ref a4])
        have q15 := q1.trans (q2.trans (q3.trans (q4.trans q5)))
        refine ⟨dr, aL, ls, _, rfl, rfl, q15 _ _ eds, upd_same, small (by rw [ll]; show 4 + 4 ≤ 1000; decide), fun p np => ?_⟩
        have q6 := same_new np (.lst (ls ++ [.ref a1, .ref a2, .ref a3, .ref a4]))
        have all : ∀ x ∈ ls ++ [V.ref a1, .ref a2, .ref a3, .ref a4], ∃ p ws ts, SomeAt D _ x p ws ts := fun x hx => by
          rcases List.mem_append.mp hx with hx | hx
          · obtain ⟨_, p, ws, ts, h⟩ := hls x hx
            exact ⟨p, ws, ts, h.same (q15.trans q6)⟩
          · simp only [List.mem_cons, List.mem_nil_iff, or_false] at hx
            rcases hx with rfl | rfl | rfl | rfl
            · exact ⟨_, _, _, m1.same (q2.trans (q3.trans (q4.trans (q5.trans q6))))⟩
            · exact ⟨_, _, _, m2.same (q3.trans (q4.trans (q5.trans q6)))⟩
            · exact ⟨_, _, _, m3.same (q4.trans (q5.trans q6))⟩
            · exact ⟨_, _, _, m4.same (q5.trans q6)⟩
        have ep := upd_same (H := upd (upd (upd (upd (upd H' a1 (.lst [.non])) a2 (.lst [.non, .non])) a3 (.lst [.non, .non, .non])) a4 (.lst [.non, .ref ta])) aL (.lst [.ref a1, .ref a2, .ref a3, .ref a4])) (a := p) (o := .lst (ls ++ [.ref a1, .ref a2, .ref a3, .ref a4]))
        have atp := atk.same (q15.trans q6)
        have dp := dk.same (q15.trans q6)
        generalize upd (upd (upd (upd (upd (upd H' a1 (.lst [.non])) a2 (.lst [.non, .non])) a3 (.lst [.non, .non, .non])) a4 (.lst [.non, .ref ta])) aL (.lst [.ref a1, .ref a2, .ref a3, .ref a4])) p (.lst (ls ++ [.ref a1, .ref a2, .ref a3, .ref a4])) = Hp' at ep atp dp all ⊢
        generalize ls ++ [V.ref a1, .ref a2, .ref a3, .ref a4] = X9 at ep all ⊢
        clear m1 m2 m3 m4 q1 q2 q3 q4 q5 q6 q15 n1 n2 n3 n4 nL np d1' d2 d3 dk hls eds atk nlt
        refine ⟨p, rfl, ⟨_, SqL.of ep⟩, ?_⟩
        refine for_list (K := K) (a := p) (xs := X9) (fun j σ Hx => ∃ (z14 z15 z16 z17 : Option V), σ = [some (.ref a), some (.ref D.dk), some (.int (0 + i)), some (.ref ta), some (.ref sn), some (.str t.data.shown), some (.ref nl), some (.int (m : Int)), z8, some (.str y), some (.ref tr), yb, yc, some (.ref dr), z14, z15, z16, z17] ∧ Same Hp' Hx) ⟨_, _, _, _, rfl, Same.refl _⟩ (fun j σ Hx _ hp => by obtain ⟨_, _, _, _, _, sm⟩ := hp; exact SqL.of (sm _ _ ep)) (fun j x σ Hx hx hp => ?_) (fun σ Hx hp => ?_)
        · obtain ⟨z14, z15, z16, z17, rfl, sm⟩ := hp
          obtain ⟨pp, ws, ts, h0⟩ := all x (List.mem_of_getElem? hx)
          obtain rfl := h0.x
          have h1 := h0.same sm
          have ok := some_ok h1.len h1.lt
          refine ⟨_, rfl, pp, someD ts, rfl, h1.dp, ok.1, ok.2.1, ok.2.2.1, ok.2.2.2, ?_⟩
          refine ⟨_, rfl, _, rfl, y, pp, ws, ts, rfl, h1.e, h1.at_, h1.len, h1.sz, (fun t ht => ⟨(h1.lt t ht).1, by have := (h1.lt t ht).2; have := t.deep_le; omega⟩), fun pd Ha sa _ da => ⟨_, _, rfl, ?_⟩⟩
          have h2 := h1.same sa
          refine ⟨_, rfl, _, rfl, y, pp, ws, ts, rfl, h2.e, h2.at_, h2.len, h2.sz, fun r1 Hb sb _ db => ?_⟩
          have h3 := h2.same sb
          refine ⟨_, rfl, _, rfl, y, pp, ws, ts, rfl, h3.e, h3.at_, h3.len, h3.sz, fun r2 Hc sc _ dc => ⟨(by show 2 ≤ sizeLine; decide), fun r3 n3 => ?_⟩⟩
          have k3 := same_new n3 (.lst [.ref r1, .ref r2])
          have dA : Dp K (upd Hc r3 (.lst [.ref r1, .ref r2])) (.ref r3) (.list [jD y ts, jD y ts]) := .lst (SqL.of upd_same) (.cons (dp_same (sc.trans k3) db) (.cons (dp_same k3 dc) .nil))
          have da := dp_same (sb.trans (sc.trans k3)) da
          have h4 := (h3.same sc).same k3
          have sm4 := sm.trans (sa.trans (sb.trans (sc.trans k3)))
          generalize upd Hc r3 (.lst [.ref r1, .ref r2]) = Hd at dA da h4 sm4 ⊢
          refine ⟨_, rfl, _, rfl, _, rfl, (by show 2 ≤ sizeLine; decide), fun r4 n4 => ?_⟩
          have k4 := same_new n4 (.lst [.ref pd, .ref pd])
          have dB : Dp K (upd Hd r4 (.lst [.ref pd, .ref pd])) (.ref r4) (.list [jD y ts, jD y ts]) := .lst (SqL.of upd_same) (.cons (dp_same k4 da) (.cons (dp_same k4 da) .nil))
          have jo := jD_ok y h4.lt
          refine ⟨_, _, _, rfl, dp_same k4 dA, dB, jo.1, jo.2, fun He se => ⟨_, rfl, iteF ?_⟩⟩
          have h5 := (h4.same k4).same se
          refine ⟨_, rfl, pp, someD ts, rfl, h5.dp, ok.1, ok.2.1, ok.2.2.1, ok.2.2.2, _, rfl, rfl, _, rfl, ?_⟩
          rw [decide_eq_true rfl]
          exact iteF ⟨_, _, _, _, rfl, sm4.trans (k4.trans se)⟩
        · obtain ⟨z14, z15, z16, z17, rfl, sm⟩ := hp
          have at9 := atp.same sm
          refine ⟨_, rfl, ta, t.data, rfl, at9.dp, t.showable, t.noDict, by rw [t.data_deep]; omega, small (by omega), _, rfl, rfl, _, rfl, ?_⟩
          rw [decide_eq_true rfl]
          exact iteF ⟨_, c', rfl, rfl, dp.same sm, by omega⟩
  · exact rfl
end
/-! ### what the top has left -/
theorem all_mk {l : PySem.W.OpenLaw} {w : World} {K : PySem.W.Frag} {h : Heap} {mg : Str → Option Value} {fa f1 f2 f3 f4 f5 f6 f7 f8 f9 f10 f11 f12 f13 f14 f15 f16 C_TooMany C_TooLarge C_WalkError C_BadTree C_NotOpen i_TooMany i_TooLarge : Addr} (X : K.In h) (G : h.Ns mainGlobals mg) (hfa : mg "law" = some (.ref fa))
    {od1 an1 od2 an2 od3 an3 od4 an4 od5 an5 od6 an6 od7 an7 od8 an8 od9 an9 od10 an10 od11 an11 od12 an12 od13 an13 od14 an14 od15 an15 od16 an16 : Option Addr} {sl1 sl2 sl3 sl4 sl5 sl6 sl7 sl8 sl9 sl10 sl11 sl12 sl13 sl14 sl15 sl16 : Array (Option Value)}
    {oc1 kV1 dc1 pm1 cd1 ct1 oc2 kV2 dc2 pm2 cd2 ct2 oc3 kV3 dc3 pm3 cd3 ct3 oc4 kV4 dc4 pm4 cd4 ct4 oc5 kV5 dc5 pm5 cd5 ct5 oc6 kV6 dc6 pm6 cd6 ct6 oc7 kV7 dc7 pm7 cd7 ct7 oc8 kV8 dc8 pm8 cd8 ct8 oc9 kV9 dc9 pm9 cd9 ct9 oc10 kV10 dc10 pm10 cd10 ct10 oc11 kV11 dc11 pm11 cd11 ct11 oc12 kV12 dc12 pm12 cd12 ct12 oc13 kV13 dc13 pm13 cd13 ct13 oc14 kV14 dc14 pm14 cd14 ct14 oc15 kV15 dc15 pm15 cd15 ct15 oc16 kV16 dc16 pm16 cd16 ct16 : Value} {t1 : Tok}
    {nm_TooMany q_TooMany : Str} {N_TooMany : Addr} {bs_TooMany sub_TooMany : List Value} {sn_TooMany : List Str} {ab_TooMany : Bool} {col_TooMany : Option Bool} {dd_TooMany : Option Addr} {m0_TooMany m1_TooMany m2_TooMany m3_TooMany m5_TooMany : Option Value}  {oc_TooMany dc_TooMany pm_TooMany cd_TooMany ct_TooMany : Value} {od_TooMany an_TooMany : Option Addr} {sl_TooMany : Array (Option Value)}
    {nm_TooLarge q_TooLarge : Str} {N_TooLarge : Addr} {bs_TooLarge sub_TooLarge : List Value} {sn_TooLarge : List Str} {ab_TooLarge : Bool} {col_TooLarge : Option Bool} {dd_TooLarge : Option Addr} {m0_TooLarge m1_TooLarge m2_TooLarge m3_TooLarge m5_TooLarge : Option Value}  {oc_TooLarge dc_TooLarge pm_TooLarge cd_TooLarge ct_TooLarge : Value} {od_TooLarge an_TooLarge : Option Addr} {sl_TooLarge : Array (Option Value)}
    (a_TooMany : PySem.W.nsIn K mainGlobals "TooMany" = some (some (.ref C_TooMany)))
    (a_TooLarge : PySem.W.nsIn K mainGlobals "TooLarge" = some (some (.ref C_TooLarge)))
    (a_WalkError : PySem.W.nsIn K mainGlobals "WalkError" = some (some (.ref C_WalkError)))
    (a_BadTree : PySem.W.nsIn K mainGlobals "BadTree" = some (some (.ref C_BadTree)))
    (a_NotOpen : PySem.W.nsIn K mainGlobals "NotOpen" = some (some (.ref C_NotOpen)))
    (x_TooMany : K.lookup C_TooMany = some (excClassObj nm_TooMany q_TooMany C_TooMany N_TooMany bs_TooMany (.ref C_WalkError :: [.type "ValueError", .type "Exception", .type "BaseException", .type "object"]) true sn_TooMany sub_TooMany ab_TooMany col_TooMany dd_TooMany m0_TooMany m1_TooMany m2_TooMany m3_TooMany m5_TooMany "ValueError.__new__"))
    (sa_TooMany : PySem.W.findIn K (.ref C_TooMany) "__setattr__" = some (some (.builtin "object.__setattr__")))
    (ga_TooMany : PySem.W.findIn K (.ref C_TooMany) "__getattribute__" = some (some (.builtin "BaseException.__getattribute__")))
    (gg_TooMany : PySem.W.findIn K (.ref C_TooMany) "__getattr__" = some none)
    (nb_TooMany : PySem.W.findIn K (.ref C_TooMany) "limit" = some none)
    (ii_TooMany : PySem.W.findIn K (.ref C_TooMany) "__init__" = some (some (.ref i_TooMany)))
    (ti_TooMany : PySem.W.typeIn K (.ref i_TooMany) = some (.type "function"))
    (li_TooMany : K.lookup i_TooMany = some ⟨oc_TooMany, od_TooMany, .func (PySem.W.fnOf "__init__" "TooMany.__init__" (iA_limit ⟨11, 17, 11, 21⟩ ⟨11, 23, 11, 28⟩) (iB_limit ⟨12, 8, 12, 12⟩ ⟨12, 8, 12, 18⟩ ⟨12, 21, 12, 26⟩ ⟨12, 8, 12, 26⟩) iS_limit .none .none dc_TooMany pm_TooMany an_TooMany cd_TooMany ct_TooMany), sl_TooMany⟩)
    (ci_TooMany : PySem.W.codeIn K cd_TooMany "TooMany.__init__" = true)
    (kC_TooMany : PySem.W.keepIn K (.ref C_TooMany) = true)
    (eC_TooMany : PySem.W.subIn K (.ref C_TooMany) (.type "BaseException") = some true)
    (tC_TooMany : PySem.W.typeIn K (.ref C_TooMany) = some (.type "type"))
    (hC_TooMany : PySem.W.hasDictIn K C_TooMany = true)
    (h1_TooMany : PySem.W.findIn K (.ref C_TooMany) "__class__" = some (some (.builtin "object.__class__")))
    (h2_TooMany : PySem.W.specialIn K (.builtin "object.__class__") "__get__" = some (some (.builtin "getset_descriptor.__get__")))
    (h3_TooMany : PySem.W.takesIn K (.builtin "object.__class__") = some true)
    (h4_TooMany : PySem.W.mroIn K C_TooMany (.type "object") = some true)
    (x_TooLarge : K.lookup C_TooLarge = some (excClassObj nm_TooLarge q_TooLarge C_TooLarge N_TooLarge bs_TooLarge (.ref C_WalkError :: [.type "ValueError", .type "Exception", .type "BaseException", .type "object"]) true sn_TooLarge sub_TooLarge ab_TooLarge col_TooLarge dd_TooLarge m0_TooLarge m1_TooLarge m2_TooLarge m3_TooLarge m5_TooLarge "ValueError.__new__"))
    (sa_TooLarge : PySem.W.findIn K (.ref C_TooLarge) "__setattr__" = some (some (.builtin "object.__setattr__")))
    (ga_TooLarge : PySem.W.findIn K (.ref C_TooLarge) "__getattribute__" = some (some (.builtin "BaseException.__getattribute__")))
    (gg_TooLarge : PySem.W.findIn K (.ref C_TooLarge) "__getattr__" = some none)
    (nb_TooLarge : PySem.W.findIn K (.ref C_TooLarge) "limit" = some none)
    (ii_TooLarge : PySem.W.findIn K (.ref C_TooLarge) "__init__" = some (some (.ref i_TooLarge)))
    (ti_TooLarge : PySem.W.typeIn K (.ref i_TooLarge) = some (.type "function"))
    (li_TooLarge : K.lookup i_TooLarge = some ⟨oc_TooLarge, od_TooLarge, .func (PySem.W.fnOf "__init__" "TooLarge.__init__" (iA_limit ⟨7, 17, 7, 21⟩ ⟨7, 23, 7, 28⟩) (iB_limit ⟨8, 8, 8, 12⟩ ⟨8, 8, 8, 18⟩ ⟨8, 21, 8, 26⟩ ⟨8, 8, 8, 26⟩) iS_limit .none .none dc_TooLarge pm_TooLarge an_TooLarge cd_TooLarge ct_TooLarge), sl_TooLarge⟩)
    (ci_TooLarge : PySem.W.codeIn K cd_TooLarge "TooLarge.__init__" = true)
    (kC_TooLarge : PySem.W.keepIn K (.ref C_TooLarge) = true)
    (eC_TooLarge : PySem.W.subIn K (.ref C_TooLarge) (.type "BaseException") = some true)
    (tC_TooLarge : PySem.W.typeIn K (.ref C_TooLarge) = some (.type "type"))
    (hC_TooLarge : PySem.W.hasDictIn K C_TooLarge = true)
    (h1_TooLarge : PySem.W.findIn K (.ref C_TooLarge) "__class__" = some (some (.builtin "object.__class__")))
    (h2_TooLarge : PySem.W.specialIn K (.builtin "object.__class__") "__get__" = some (some (.builtin "getset_descriptor.__get__")))
    (h3_TooLarge : PySem.W.takesIn K (.builtin "object.__class__") = some true)
    (h4_TooLarge : PySem.W.mroIn K C_TooLarge (.type "object") = some true)
    (e1 : PySem.W.exmOne K (.ref C_TooMany) (.ref C_WalkError) = some true)
    (e2 : PySem.W.exmOne K (.ref C_TooLarge) (.ref C_WalkError) = some true)
    (x21 : PySem.W.kitOne K (.ref C_TooLarge) (.ref C_TooMany) = some false)
    (xM1 : PySem.W.kitAny K (.ref C_TooMany) [.ref C_TooLarge, .ref C_BadTree, .ref C_NotOpen] = some false)
    (xM2 : PySem.W.kitAny K (.ref C_TooLarge) [.ref C_TooMany, .ref C_BadTree, .ref C_NotOpen] = some false)
    (a1 : PySem.W.nsIn K mainGlobals "size_of" = some (some (.ref f1)))
    (l1 : K.lookup f1 = some ⟨oc1, od1, .func (PySem.W.fnOf "size_of" "size_of" (defArgs s_size_of) (defBody s_size_of) (defScope s_size_of) .none kV1 dc1 pm1 an1 cd1 ct1), sl1⟩)
    (c1 : PySem.W.codeIn K cd1 "size_of" = true)
    (k1 : PySem.W.keepIn K (.ref f1) = true)
    (a2 : PySem.W.nsIn K mainGlobals "joined" = some (some (.ref f2)))
    (l2 : K.lookup f2 = some ⟨oc2, od2, .func (PySem.W.fnOf "joined" "joined" (defArgs s_joined) (defBody s_joined) (defScope s_joined) .none kV2 dc2 pm2 an2 cd2 ct2), sl2⟩)
    (c2 : PySem.W.codeIn K cd2 "joined" = true)
    (k2 : PySem.W.keepIn K (.ref f2) = true)
    (a3 : PySem.W.nsIn K mainGlobals "each_node" = some (some (.ref f3)))
    (l3 : K.lookup f3 = some ⟨oc3, od3, .func (PySem.W.fnOf "each_node" "each_node" (defArgs s_each_node) (defBody s_each_node) (defScope s_each_node) .none kV3 dc3 pm3 an3 cd3 ct3), sl3⟩)
    (c3 : PySem.W.codeIn K cd3 "each_node" = true)
    (k3 : PySem.W.keepIn K (.ref f3) = true)
    (a4 : PySem.W.nsIn K mainGlobals "_law_deck" = some (some (.ref f4)))
    (l4 : K.lookup f4 = some ⟨oc4, od4, .func (PySem.W.fnOf "_law_deck" "_law_deck" (defArgs s__law_deck) (defBody s__law_deck) (defScope s__law_deck) .none kV4 dc4 pm4 an4 cd4 ct4), sl4⟩)
    (c4 : PySem.W.codeIn K cd4 "_law_deck" = true)
    (k4 : PySem.W.keepIn K (.ref f4) = true)
    (a5 : PySem.W.nsIn K mainGlobals "_law_next" = some (some (.ref f5)))
    (l5 : K.lookup f5 = some ⟨oc5, od5, .func (PySem.W.fnOf "_law_next" "_law_next" (defArgs s__law_next) (defBody s__law_next) (defScope s__law_next) .none kV5 dc5 pm5 an5 cd5 ct5), sl5⟩)
    (c5 : PySem.W.codeIn K cd5 "_law_next" = true)
    (k5 : PySem.W.keepIn K (.ref f5) = true)
    (a6 : PySem.W.nsIn K mainGlobals "_law_one" = some (some (.ref f6)))
    (l6 : K.lookup f6 = some ⟨oc6, od6, .func (PySem.W.fnOf "_law_one" "_law_one" (defArgs s__law_one) (defBody s__law_one) (defScope s__law_one) .none kV6 dc6 pm6 an6 cd6 ct6), sl6⟩)
    (c6 : PySem.W.codeIn K cd6 "_law_one" = true)
    (k6 : PySem.W.keepIn K (.ref f6) = true)
    (a7 : PySem.W.nsIn K mainGlobals "_law_same" = some (some (.ref f7)))
    (l7 : K.lookup f7 = some ⟨oc7, od7, .func (PySem.W.fnOf "_law_same" "_law_same" (defArgs s__law_same) (defBody s__law_same) (defScope s__law_same) .none kV7 dc7 pm7 an7 cd7 ct7), sl7⟩)
    (c7 : PySem.W.codeIn K cd7 "_law_same" = true)
    (k7 : PySem.W.keepIn K (.ref f7) = true)
    (a8 : PySem.W.nsIn K mainGlobals "_law_letters" = some (some (.ref f8)))
    (l8 : K.lookup f8 = some ⟨oc8, od8, .func (PySem.W.fnOf "_law_letters" "_law_letters" (defArgs s__law_letters) (defBody s__law_letters) (defScope s__law_letters) .none kV8 dc8 pm8 an8 cd8 ct8), sl8⟩)
    (c8 : PySem.W.codeIn K cd8 "_law_letters" = true)
    (k8 : PySem.W.keepIn K (.ref f8) = true)
    (a9 : PySem.W.nsIn K mainGlobals "_law_grown" = some (some (.ref f9)))
    (l9 : K.lookup f9 = some ⟨oc9, od9, .func (PySem.W.fnOf "_law_grown" "_law_grown" (defArgs s__law_grown) (defBody s__law_grown) (defScope s__law_grown) .none kV9 dc9 pm9 an9 cd9 ct9), sl9⟩)
    (c9 : PySem.W.codeIn K cd9 "_law_grown" = true)
    (k9 : PySem.W.keepIn K (.ref f9) = true)
    (a10 : PySem.W.nsIn K mainGlobals "_law_tree" = some (some (.ref f10)))
    (l10 : K.lookup f10 = some ⟨oc10, od10, .func (PySem.W.fnOf "_law_tree" "_law_tree" (defArgs s__law_tree) (defBody s__law_tree) (defScope s__law_tree) .none kV10 dc10 pm10 an10 cd10 ct10), sl10⟩)
    (c10 : PySem.W.codeIn K cd10 "_law_tree" = true)
    (k10 : PySem.W.keepIn K (.ref f10) = true)
    (a11 : PySem.W.nsIn K mainGlobals "_law_count" = some (some (.ref f11)))
    (l11 : K.lookup f11 = some ⟨oc11, od11, .func (PySem.W.fnOf "_law_count" "_law_count" (defArgs s__law_count) (defBody s__law_count) (defScope s__law_count) .none kV11 dc11 pm11 an11 cd11 ct11), sl11⟩)
    (c11 : PySem.W.codeIn K cd11 "_law_count" = true)
    (k11 : PySem.W.keepIn K (.ref f11) = true)
    (a12 : PySem.W.nsIn K mainGlobals "_law_nodes" = some (some (.ref f12)))
    (l12 : K.lookup f12 = some ⟨oc12, od12, .func (PySem.W.fnOf "_law_nodes" "_law_nodes" (defArgs s__law_nodes) (defBody s__law_nodes) (defScope s__law_nodes) .none kV12 dc12 pm12 an12 cd12 ct12), sl12⟩)
    (c12 : PySem.W.codeIn K cd12 "_law_nodes" = true)
    (k12 : PySem.W.keepIn K (.ref f12) = true)
    (a13 : PySem.W.nsIn K mainGlobals "_law_call" = some (some (.ref f13)))
    (l13 : K.lookup f13 = some ⟨oc13, od13, .func (PySem.W.fnOf "_law_call" "_law_call" (defArgs s__law_call) (defBody s__law_call) (defScope s__law_call) .none kV13 dc13 pm13 an13 cd13 ct13), sl13⟩)
    (c13 : PySem.W.codeIn K cd13 "_law_call" = true)
    (k13 : PySem.W.keepIn K (.ref f13) = true)
    (a14 : PySem.W.nsIn K mainGlobals "_law_told" = some (some (.ref f14)))
    (l14 : K.lookup f14 = some ⟨oc14, od14, .func (PySem.W.fnOf "_law_told" "_law_told" (defArgs s__law_told) (defBody s__law_told) (defScope s__law_told) .none kV14 dc14 pm14 an14 cd14 ct14), sl14⟩)
    (c14 : PySem.W.codeIn K cd14 "_law_told" = true)
    (k14 : PySem.W.keepIn K (.ref f14) = true)
    (a15 : PySem.W.nsIn K mainGlobals "_law_due" = some (some (.ref f15)))
    (l15 : K.lookup f15 = some ⟨oc15, od15, .func (PySem.W.fnOf "_law_due" "_law_due" (defArgs s__law_due) (defBody s__law_due) (defScope s__law_due) .none kV15 dc15 pm15 an15 cd15 ct15), sl15⟩)
    (c15 : PySem.W.codeIn K cd15 "_law_due" = true)
    (k15 : PySem.W.keepIn K (.ref f15) = true)
    (a16 : PySem.W.nsIn K mainGlobals "law" = some (some (.ref f16)))
    (l16 : K.lookup f16 = some ⟨oc16, od16, .func (PySem.W.fnOf "law" "law" (defArgs s_law) (defBody s_law) (defScope s_law) .none kV16 dc16 pm16 an16 cd16 ct16), sl16⟩)
    (c16 : PySem.W.codeIn K cd16 "law" = true)
    (k16 : PySem.W.keepIn K (.ref f16) = true)
    (z1 : PySem.W.nsIn K mainGlobals "len" = some none)
    (z2 : PySem.W.nsIn K mainGlobals "isinstance" = some none)
    (z3 : PySem.W.nsIn K mainGlobals "list" = some none)
    (z4 : PySem.W.nsIn K mainGlobals "tuple" = some none)
    (z5 : PySem.W.nsIn K mainGlobals "str" = some none)
    (z6 : PySem.W.nsIn K mainGlobals "int" = some none)
    (z7 : PySem.W.nsIn K mainGlobals "bool" = some none)
    (z8 : PySem.W.nsIn K mainGlobals "range" = some none)
    (z9 : PySem.W.nsIn K mainGlobals "sorted" = some none)
    (z10 : PySem.W.nsIn K mainGlobals "abs" = some none)
    (z11 : PySem.W.nsIn K mainGlobals "sum" = some none)
    (z12 : PySem.W.nsIn K mainGlobals "repr" = some none)
    (z13 : PySem.W.nsIn K mainGlobals "ValueError" = some none)
    (v1 : PySem.W.nsIn K mainGlobals "MAX_NODES" = some (some (.int 12 t1)))
    : ∀ (base : Heap) (H : Hp) (s : Shared) (a : Addr) (ns : List Int), K.In base → base.Ns mainGlobals mg → Env0 l.prog w K mg base callerA [] s H → SqL K H a (ns.map V.int) → ns.length ≤ 63 →
      codeAny (model l.prog w) callerA (.call (.ref fa) ⟨[.ref a], []⟩) (CR CX0 [] l.prog w H s (fun v _ => v = .bl true) fun _ _ _ => False) s := by
  intro base H s a ns _ _ en hS hn
  have e := hfa.symm.trans (PySem.W.mg_of X G a16)
  cases e
  have gC_TooMany := PySem.W.mg_of X G a_TooMany
  have gC_TooLarge := PySem.W.mg_of X G a_TooLarge
  have gC_WalkError := PySem.W.mg_of X G a_WalkError
  have gC_BadTree := PySem.W.mg_of X G a_BadTree
  have gC_NotOpen := PySem.W.mg_of X G a_NotOpen
  have F1 := fun_mk (st := s_size_of) l1 c1 k1
  have g1 := PySem.W.mg_of X G a1
  have F2 := fun_mk (st := s_joined) l2 c2 k2
  have g2 := PySem.W.mg_of X G a2
  have F3 := fun_mk (st := s_each_node) l3 c3 k3
  have g3 := PySem.W.mg_of X G a3
  have F4 := fun_mk (st := s__law_deck) l4 c4 k4
  have g4 := PySem.W.mg_of X G a4
  have F5 := fun_mk (st := s__law_next) l5 c5 k5
  have g5 := PySem.W.mg_of X G a5
  have F6 := fun_mk (st := s__law_one) l6 c6 k6
  have g6 := PySem.W.mg_of X G a6
  have F7 := fun_mk (st := s__law_same) l7 c7 k7
  have g7 := PySem.W.mg_of X G a7
  have F8 := fun_mk (st := s__law_letters) l8 c8 k8
  have g8 := PySem.W.mg_of X G a8
  have F9 := fun_mk (st := s__law_grown) l9 c9 k9
  have g9 := PySem.W.mg_of X G a9
  have F10 := fun_mk (st := s__law_tree) l10 c10 k10
  have g10 := PySem.W.mg_of X G a10
  have F11 := fun_mk (st := s__law_count) l11 c11 k11
  have g11 := PySem.W.mg_of X G a11
  have F12 := fun_mk (st := s__law_nodes) l12 c12 k12
  have g12 := PySem.W.mg_of X G a12
  have F13 := fun_mk (st := s__law_call) l13 c13 k13
  have g13 := PySem.W.mg_of X G a13
  have F14 := fun_mk (st := s__law_told) l14 c14 k14
  have g14 := PySem.W.mg_of X G a14
  have F15 := fun_mk (st := s__law_due) l15 c15 k15
  have g15 := PySem.W.mg_of X G a15
  have F16 := fun_mk (st := s_law) l16 c16 k16
  have m_len := PySem.W.mg_none_of X G z1
  have m_isinstance := PySem.W.mg_none_of X G z2
  have m_list := PySem.W.mg_none_of X G z3
  have m_tuple := PySem.W.mg_none_of X G z4
  have m_str := PySem.W.mg_none_of X G z5
  have m_int := PySem.W.mg_none_of X G z6
  have m_bool := PySem.W.mg_none_of X G z7
  have m_range := PySem.W.mg_none_of X G z8
  have m_sorted := PySem.W.mg_none_of X G z9
  have m_abs := PySem.W.mg_none_of X G z10
  have m_sum := PySem.W.mg_none_of X G z11
  have m_repr := PySem.W.mg_none_of X G z12
  have m_ValueError := PySem.W.mg_none_of X G z13
  have m1 := PySem.W.mg_of X G v1
  have b1 := F1.binds (ps := ["tree"]) fun _ _ _ _ _ _ us hl => match us, hl with | [_], _ => rfl
  have b3 := F3.binds (ps := ["tree"]) fun _ _ _ _ _ _ us hl => match us, hl with | [_], _ => rfl
  have b4 := F4.binds (ps := ["_law_script"]) fun _ _ _ _ _ _ us hl => match us, hl with | [_], _ => rfl
  have b5 := F5.binds (ps := ["_law_deck_here", "_law_many"]) fun _ _ _ _ _ _ us hl => match us, hl with | [_, _], _ => rfl
  have b6 := F6.binds (ps := ["_law_deck_here", "_law_items"]) fun _ _ _ _ _ _ us hl => match us, hl with | [_, _], _ => rfl
  have b7 := F7.binds (ps := ["_law_found", "_law_due_here"]) fun _ _ _ _ _ _ us hl => match us, hl with | [_, _], _ => rfl
  have b8 := F8.binds (ps := ["_law_deck_here", "_law_size"]) fun _ _ _ _ _ _ us hl => match us, hl with | [_, _], _ => rfl
  have b9 := F9.binds (ps := ["_law_deck_here", "_law_size", "_law_way", "_law_letters_here"]) fun _ _ _ _ _ _ us hl => match us, hl with | [_, _, _, _], _ => rfl
  have b10 := F10.binds (ps := ["_law_deck_here", "_law_limit"]) fun _ _ _ _ _ _ us hl => match us, hl with | [_, _], _ => rfl
  have b11 := F11.binds (ps := ["_law_value"]) fun _ _ _ _ _ _ us hl => match us, hl with | [_], _ => rfl
  have b12 := F12.binds (ps := ["_law_tree_here"]) fun _ _ _ _ _ _ us hl => match us, hl with | [_], _ => rfl
  have b13 := F13.binds (ps := ["_law_label", "_law_some"]) fun _ _ _ _ _ _ us hl => match us, hl with | [_, _], _ => rfl
  have b14 := F14.binds (ps := ["_law_label", "_law_some"]) fun _ _ _ _ _ _ us hl => match us, hl with | [_, _], _ => rfl
  have b15 := F15.binds (ps := ["_law_label", "_law_some"]) fun _ _ _ _ _ _ us hl => match us, hl with | [_, _], _ => rfl
  have E_TooMany : Err_limit K mg "ValueError.__new__" veT "TooMany" "TooMany.__init__" C_TooMany i_TooMany :=
    { gC := gC_TooMany, nd := by decide +kernel, cls := ⟨nm_TooMany, q_TooMany, N_TooMany, bs_TooMany, _, sn_TooMany, sub_TooMany, ab_TooMany, col_TooMany, dd_TooMany, m0_TooMany, m1_TooMany, m2_TooMany, m3_TooMany, m5_TooMany, x_TooMany, by first | rfl | decide +kernel⟩, sa := sa_TooMany, ga := ga_TooMany, gg := gg_TooMany, noN := nb_TooMany, iC := ii_TooMany, tC := ti_TooMany, kC := kC_TooMany, exC := eC_TooMany, tyC := tC_TooMany, hdC := hC_TooMany,
      fn := ⟨_, _, _, _, _, _, _, _, _, _, _, _, _, _, li_TooMany, ci_TooMany⟩ }
  have E_TooLarge : Err_limit K mg "ValueError.__new__" veT "TooLarge" "TooLarge.__init__" C_TooLarge i_TooLarge :=
    { gC := gC_TooLarge, nd := by decide +kernel, cls := ⟨nm_TooLarge, q_TooLarge, N_TooLarge, bs_TooLarge, _, sn_TooLarge, sub_TooLarge, ab_TooLarge, col_TooLarge, dd_TooLarge, m0_TooLarge, m1_TooLarge, m2_TooLarge, m3_TooLarge, m5_TooLarge, x_TooLarge, by first | rfl | decide +kernel⟩, sa := sa_TooLarge, ga := ga_TooLarge, gg := gg_TooLarge, noN := nb_TooLarge, iC := ii_TooLarge, tC := ti_TooLarge, kC := kC_TooLarge, exC := eC_TooLarge, tyC := tC_TooLarge, hdC := hC_TooLarge,
      fn := ⟨_, _, _, _, _, _, _, _, _, _, _, _, _, _, li_TooLarge, ci_TooLarge⟩ }
  have X_TooMany : ExcC K C_TooMany := ⟨ga_TooMany, gg_TooMany, eC_TooMany, hC_TooMany, h1_TooMany, h2_TooMany, h3_TooMany, h4_TooMany⟩
  have X_TooLarge : ExcC K C_TooLarge := ⟨ga_TooLarge, gg_TooLarge, eC_TooLarge, hC_TooLarge, h1_TooLarge, h2_TooLarge, h3_TooLarge, h4_TooLarge⟩
  have M : Mgs mg := ⟨m_len, m_isinstance, m_list, m_tuple, m_str, m_int, m_bool, m_range⟩
  have x11 : PySem.W.kitOne K (.ref C_TooMany) (.ref C_TooMany) = some true := by unfold PySem.W.kitOne; rw [if_pos (by simp)]
  have x22 : PySem.W.kitOne K (.ref C_TooLarge) (.ref C_TooLarge) = some true := by unfold PySem.W.kitOne; rw [if_pos (by simp)]
  have EC : ErrJ K mg C_TooMany C_TooLarge := ⟨X_TooMany, X_TooLarge, gC_TooMany, gC_TooLarge, ⟨_, gC_WalkError, e1, e2⟩, x11, x21, x22, ⟨_, _, gC_BadTree, gC_NotOpen, xM1, xM2⟩⟩
  have Dsize_of : Df l.prog w K mg base 60 "size_of" ["tree"] (spSz 60) := ⟨f1, _, ok_size F1 b1 g1 60, b1, k1, g1⟩
  have Djoined : DfRX l.prog w K mg base 61 "joined" (spJoinedX C_TooMany C_TooLarge) := ⟨f2, ok_joinedX F2 M m1 E_TooMany E_TooLarge Dsize_of, k2, g2⟩
  have Deach : DfG l.prog w K mg base 2 "each_node" ["tree"] spEach := ⟨f3, _, ok_each F3, b3, k3, g3⟩
  have D_law_deck : Df l.prog w K mg base 1 "_law_deck" ["_law_script"] (spDeck K) := ⟨f4, _, ok_deck (k := 0) F4 m_len m_abs m_int, b4, k4, g4⟩
  have D_law_next : Df l.prog w K mg base 1 "_law_next" ["_law_deck_here", "_law_many"] spNext := ⟨f5, _, ok_next (k := 0) F5 m_len, b5, k5, g5⟩
  have D_law_one : Df l.prog w K mg base 2 "_law_one" ["_law_deck_here", "_law_items"] spOneV := ⟨f6, _, ok_oneV F6 M D_law_next, b6, k6, g6⟩
  have D_law_same : Df l.prog w K mg base 20 "_law_same" ["_law_found", "_law_due_here"] (spSame K 20) := ⟨f7, _, ok_same F7 b7 g7 M 20, b7, k7, g7⟩
  have D_law_letters : Df l.prog w K mg base 2 "_law_letters" ["_law_deck_here", "_law_size"] spLett := ⟨f8, _, ok_lett (k := 1) F8 D_law_next.ok D_law_next.b D_law_next.kp D_law_next.g M m_sorted, b8, k8, g8⟩
  have D_law_grown : Df l.prog w K mg base 28 "_law_grown" ["_law_deck_here", "_law_size", "_law_way", "_law_letters_here"] (spGrown 27) := ⟨f9, _, ok_grown F9 b9 g9 D_law_next.ok D_law_next.b D_law_next.kp D_law_next.g 27, b9, k9, g9⟩
  have D_law_tree : Df l.prog w K mg base 29 "_law_tree" ["_law_deck_here", "_law_limit"] spTree := ⟨f10, _, ok_tree F10 D_law_next.ok D_law_next.b D_law_next.kp D_law_next.g D_law_letters.ok D_law_letters.b D_law_letters.kp D_law_letters.g D_law_grown.ok D_law_grown.b D_law_grown.kp D_law_grown.g, b10, k10, g10⟩
  have D_law_count : Df l.prog w K mg base 20 "_law_count" ["_law_value"] (spCnt 20) := ⟨f11, _, ok_cnt F11 b11 g11 M 20, b11, k11, g11⟩
  have D_law_nodes : Df l.prog w K mg base 1 "_law_nodes" ["_law_tree_here"] spNodesL := ⟨f12, _, ok_nodesL F12, b12, k12, g12⟩
  have D_law_call : DfX l.prog w K mg base 62 "_law_call" ["_law_label", "_law_some"] (spCallJ C_TooMany C_TooLarge) := ⟨f13, _, ok_lcall F13 M Djoined, b13, k13, g13⟩
  have D_law_told : Df l.prog w K mg base 63 "_law_told" ["_law_label", "_law_some"] (spToldJ K) := ⟨f14, _, ok_told F14 E_TooMany E_TooLarge EC M D_law_call, b14, k14, g14⟩
  have D_law_due : Df l.prog w K mg base 21 "_law_due" ["_law_label", "_law_some"] (spDueJ K) := ⟨f15, _, ok_dueJ F15 M m_sum D_law_count, b15, k15, g15⟩
  exact run_law F16 (.of_eq rfl) en hS M m_repr D_law_deck D_law_same D_law_tree D_law_next D_law_one D_law_nodes Deach D_law_due D_law_told
theorem walk_at {l : PySem.W.OpenLaw} {q : Program} {loose : List Str} {XP : (Str → Option Value) → Heap → Prop} {YP : World → Heap → Prop} {d : DefRec} {K : Params → PySem.W.Frag} (most : l.most = some 63) (noDf : d.params.defaults = [])
    (inK : ∀ (w : World) (h : Heap), YP w h → (K w.params).In h)
    (F : ∀ (w : World) (mg : Str → Option Value) (fa : Addr) (h : Heap), (K w.params).In h → h.Ns mainGlobals mg → mg d.name = some (.ref fa) →
      ∀ (base : Heap) (H : Hp) (s : Shared) (a : Addr) (ns : List Int), (K w.params).In base → base.Ns mainGlobals mg → Env0 l.prog w (K w.params) mg base callerA [] s H → SqL (K w.params) H a (ns.map V.int) → ns.length ≤ 63 →
        codeAny (model l.prog w) callerA (.call (.ref fa) ⟨[.ref a], []⟩) (CR CX0 [] l.prog w H s (fun v _ => v = .bl true) fun _ _ _ => False) s) :
    PySem.W.WalkO q loose XP YP l.row.toRowW d [] (fun f vs => PySem.call f vs) := by
  refine Att.attach_call most noDf ?_
  intro w s₀ s₁ mg mb fa o pm cd doc a vs ns G Y ho hd hcd hmg hobj hints hlen hg
  exact law_at (inK w _ Y) G.T.g G.T.b G.T.builtins G.T.nolimit hg hobj hints (Nat.le_trans hlen (by decide)) fun base H h1 h2 en hS => F w mg fa _ (inK w _ Y) G.T.g hmg base H s₁ a ns h1 h2 en hS hlen
end Tw
open PySem PySem.W PyProof.Rows
set_option maxRecDepth 100000 in
set_option maxHeartbeats 0 in
theorem PySem.Challenge.cw_treewalks_k04_nodes_and_joined_trees_holds : PySem.Challenge.rw_treewalks_k04_nodes_and_joined_trees.Holds := by
  w_on; o_law; k_head; (case hw => w_witness2)
  k_fill
  refine Tw.walk_at (l := PySem.Challenge.rw_treewalks_k04_nodes_and_joined_trees) rfl rfl (fun w h Y => by first | exact PySem.W.kIn_of Y | exact PySem.W.km_in_of Y) ?F
  case F =>
    intro w mg fa h KX G hmg
    refine' Tw.all_mk KX G hmg ?a_TooMany ?a_TooLarge ?a_WalkError ?a_BadTree ?a_NotOpen ?x_TooMany ?sa_TooMany ?ga_TooMany ?gg_TooMany ?nb_TooMany ?ii_TooMany ?ti_TooMany ?li_TooMany ?ci_TooMany ?kC_TooMany ?eC_TooMany ?tC_TooMany ?hC_TooMany ?h1_TooMany ?h2_TooMany ?h3_TooMany ?h4_TooMany ?x_TooLarge ?sa_TooLarge ?ga_TooLarge ?gg_TooLarge ?nb_TooLarge ?ii_TooLarge ?ti_TooLarge ?li_TooLarge ?ci_TooLarge ?kC_TooLarge ?eC_TooLarge ?tC_TooLarge ?hC_TooLarge ?h1_TooLarge ?h2_TooLarge ?h3_TooLarge ?h4_TooLarge ?e1 ?e2 ?x21 ?xM1 ?xM2 ?a1 ?l1 ?c1 ?k1 ?a2 ?l2 ?c2 ?k2 ?a3 ?l3 ?c3 ?k3 ?a4 ?l4 ?c4 ?k4 ?a5 ?l5 ?c5 ?k5 ?a6 ?l6 ?c6 ?k6 ?a7 ?l7 ?c7 ?k7 ?a8 ?l8 ?c8 ?k8 ?a9 ?l9 ?c9 ?k9 ?a10 ?l10 ?c10 ?k10 ?a11 ?l11 ?c11 ?k11 ?a12 ?l12 ?c12 ?k12 ?a13 ?l13 ?c13 ?k13 ?a14 ?l14 ?c14 ?k14 ?a15 ?l15 ?c15 ?k15 ?a16 ?l16 ?c16 ?k16 ?z1 ?z2 ?z3 ?z4 ?z5 ?z6 ?z7 ?z8 ?z9 ?z10 ?z11 ?z12 ?z13 ?v1
    (case a_TooMany => k_is)
    (case a_TooLarge => k_is)
    (case a_WalkError => k_is)
    (case a_BadTree => k_is)
    (case a_NotOpen => k_is)
    (case x_TooMany => k_is)
    (case sa_TooMany => k_is)
    (case ga_TooMany => k_is)
    (case gg_TooMany => k_is)
    (case nb_TooMany => k_is)
    (case ii_TooMany => k_is)
    (case ti_TooMany => k_is)
    (case li_TooMany => k_is)
    (case ci_TooMany => k_is)
    (case kC_TooMany => k_is)
    (case eC_TooMany => k_is)
    (case tC_TooMany => k_is)
    (case hC_TooMany => k_is)
    (case h1_TooMany => k_is)
    (case h2_TooMany => k_is)
    (case h3_TooMany => k_is)
    (case h4_TooMany => k_is)
    (case x_TooLarge => k_is)
    (case sa_TooLarge => k_is)
    (case ga_TooLarge => k_is)
    (case gg_TooLarge => k_is)
    (case nb_TooLarge => k_is)
    (case ii_TooLarge => k_is)
    (case ti_TooLarge => k_is)
    (case li_TooLarge => k_is)
    (case ci_TooLarge => k_is)
    (case kC_TooLarge => k_is)
    (case eC_TooLarge => k_is)
    (case tC_TooLarge => k_is)
    (case hC_TooLarge => k_is)
    (case h1_TooLarge => k_is)
    (case h2_TooLarge => k_is)
    (case h3_TooLarge => k_is)
    (case h4_TooLarge => k_is)
    (case e1 => first | k_is | rfl | decide +kernel)
    (case e2 => first | k_is | rfl | decide +kernel)
    (case x21 => first | k_is | rfl | decide +kernel)
    (case xM1 => first | k_is | rfl | decide +kernel)
    (case xM2 => first | k_is | rfl | decide +kernel)
    (case a1 => k_is)
    (case l1 => k_is)
    (case c1 => k_is)
    (case k1 => k_is)
    (case a2 => k_is)
    (case l2 => k_is)
    (case c2 => k_is)
    (case k2 => k_is)
    (case a3 => k_is)
    (case l3 => k_is)
    (case c3 => k_is)
    (case k3 => k_is)
    (case a4 => k_is)
    (case l4 => k_is)
    (case c4 => k_is)
    (case k4 => k_is)
    (case a5 => k_is)
    (case l5 => k_is)
    (case c5 => k_is)
    (case k5 => k_is)
    (case a6 => k_is)
    (case l6 => k_is)
    (case c6 => k_is)
    (case k6 => k_is)
    (case a7 => k_is)
    (case l7 => k_is)
    (case c7 => k_is)
    (case k7 => k_is)
    (case a8 => k_is)
    (case l8 => k_is)
    (case c8 => k_is)
    (case k8 => k_is)
    (case a9 => k_is)
    (case l9 => k_is)
    (case c9 => k_is)
    (case k9 => k_is)
    (case a10 => k_is)
    (case l10 => k_is)
    (case c10 => k_is)
    (case k10 => k_is)
    (case a11 => k_is)
    (case l11 => k_is)
    (case c11 => k_is)
    (case k11 => k_is)
    (case a12 => k_is)
    (case l12 => k_is)
    (case c12 => k_is)
    (case k12 => k_is)
    (case a13 => k_is)
    (case l13 => k_is)
    (case c13 => k_is)
    (case k13 => k_is)
    (case a14 => k_is)
    (case l14 => k_is)
    (case c14 => k_is)
    (case k14 => k_is)
    (case a15 => k_is)
    (case l15 => k_is)
    (case c15 => k_is)
    (case k15 => k_is)
    (case a16 => k_is)
    (case l16 => k_is)
    (case c16 => k_is)
    (case k16 => k_is)
    (case z1 => k_is)
    (case z2 => k_is)
    (case z3 => k_is)
    (case z4 => k_is)
    (case z5 => k_is)
    (case z6 => k_is)
    (case z7 => k_is)
    (case z8 => k_is)
    (case z9 => k_is)
    (case z10 => k_is)
    (case z11 => k_is)
    (case z12 => k_is)
    (case z13 => k_is)
    (case v1 => k_is)
