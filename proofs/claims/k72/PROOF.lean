import PyProof.Rows.All
import Wide.All
import OpenK.AllK
import Wide.FinOn
import HandS.ForMost
import HandS.ForExc
import HandS.Wide
import HandS.IsInst
import HandS.Flow
import HandS.FStrTup
import HandS.FStr
import HandS.NoneIn
import HandS.TupAny
import HandS.Style
import HandS.TryMany
import HandS.ExcIs
import HandS.ExcField
import HandS.ExcOwn
import KE.KExcInit
import KE.KExcIs
import HandS.Walk
import HandS.Zip
import HandS.Star
import HandS.Style
import PyProof.Rows.SortShellAny
import KE.GoesZip
import KE.GoesEnum
import KE.GoesMore
import KE.SortKeyHeap
import HandS.Lambda
import HandS.EndTab
import PyProof.CollectStr
import PyProof.P3Eq
import HandS.Sort
import HandS.Set
import HandS.SetFor
import HandS.Strs
import HandS.SetTxt0
import HandS.TupSets
import HandS.DictComp
import KE.KSortTupG
import KE.KSortTupUse
import HandS.More
import HandS.Replace
import PySem.Challenge.RW_treewalks_k72_other_texts_of_trees
set_option Elab.async false
set_option maxRecDepth 100000
set_option maxHeartbeats 4000000
namespace Tw
open PySem PySem.Spec PyProof.Rows L2
/-! ### trees as data -/
inductive T where
  | nil
  | node (l : T) (x : Str) (r : T)
def T.size : T → Nat
  | .nil => 0
  | .node l _ r => l.size + 1 + r.size
def T.deep : T → Nat
  | .nil => 0
  | .node l _ r => 1 + max l.deep r.deep
def T.mir : T → T
  | .nil => .nil
  | .node l x r => .node r.mir x l.mir
def T.data : T → PyData
  | .nil => .none
  | .node l x r => .tuple [l.data, .str x, r.data]
theorem T.deep_le : ∀ t : T, t.deep ≤ t.size
  | .nil => Nat.le_refl _
  | .node l _ r => by
    have h1 := l.deep_le
    have h2 := r.deep_le
    show 1 + max l.deep r.deep ≤ l.size + 1 + r.size
    omega
theorem T.mir_size : ∀ t : T, t.mir.size = t.size
  | .nil => rfl
  | .node l _ r => by
    have h1 := l.mir_size
    have h2 := r.mir_size
    show r.mir.size + 1 + l.mir.size = l.size + 1 + r.size
    omega
/-- the tree t lies at v -/
inductive TreeAt (H : Hp) : V → T → Prop
  | nil : TreeAt H .non .nil
  | node {a : Addr} {l r : V} {x : Str} {tl tr : T} : H a = some (.tup [l, .str x, r]) → TreeAt H l tl → TreeAt H r tr → TreeAt H (.ref a) (.node tl x tr)
/-- tuples stand still -/
def KeepT (H H' : Hp) : Prop := ∀ b xs, H b = some (.tup xs) → H' b = some (.tup xs)
theorem KeepT.refl (H : Hp) : KeepT H H := fun _ _ h => h
theorem KeepT.trans {H H1 H2 : Hp} (a : KeepT H H1) (b : KeepT H1 H2) : KeepT H H2 := fun c xs h => b c xs (a c xs h)
theorem Same.keepT {H H' : Hp} (h : Same H H') : KeepT H H' := fun b xs e => h b _ e
theorem TreeAt.keep {H H' : Hp} (k : KeepT H H') {v : V} {t : T} (h : TreeAt H v t) : TreeAt H' v t := by
  induction h with
  | nil => exact .nil
  | node e _ _ h1 h2 => exact .node (k _ _ e) h1 h2
theorem TreeAt.same {H H' : Hp} (k : Same H H') {v : V} {t : T} (h : TreeAt H v t) : TreeAt H' v t := h.keep (Tw.Same.keepT k)
theorem TreeAt.dp {K : PySem.W.Frag} {H : Hp} {v : V} {t : T} (h : TreeAt H v t) : Dp K H v t.data := by
  induction h with
  | nil => exact .non
  | node e _ _ h1 h2 => exact .tup (SqT.of e) (.cons h1 (.cons (.str _) (.cons h2 .nil)))
theorem TreeAt.inv {H : Hp} {v : V} {t : T} (h : TreeAt H v t) : (v = .non ∧ t = .nil) ∨ ∃ a l r x tl tr, v = .ref a ∧ t = .node tl x tr ∧ H a = some (.tup [l, .str x, r]) ∧ TreeAt H l tl ∧ TreeAt H r tr := by
  cases h with
  | nil => exact .inl ⟨rfl, rfl⟩
  | node e h1 h2 => exact .inr ⟨_, _, _, _, _, _, rfl, rfl, e, h1, h2⟩
theorem same_new {H : Hp} {p : Addr} (h : H p = none) (o : HO) : Same H (upd H p o) := fun b u q => by rw [upd_ne (ne_of_none q h)]; exact q
theorem small {n : Nat} (h : n ≤ 1000) : n ≤ sizeLine := Nat.le_of_lt (small1000 h)
/-- a def that stands at a name, with its promise -/
structure Df (P : Program) (w : World) (K : PySem.W.Frag) (mg : Str → Option Value) (base : Heap) (k : Nat) (nm : Str) (ps : List Str) (sp : Sp) where
  f : Addr
  fd : FuncData
  ok : FnOk P w K mg base CX0 k f fd ps sp
  b : Binds K fd ps []
  kp : PySem.W.keepIn K (.ref f) = true
  g : mg nm = some (.ref f)
/-! ### the text by places -/
def top (i : Nat) : Stmt := PySem.Challenge.pw_treewalks_k72_other_texts_of_trees.main.body.getD i (.Pass ⟨0, 0, 0, 0⟩)
abbrev s_is_letter : Stmt := top 11
abbrev s_size_of : Stmt := top 13
abbrev s_parse_tree : Stmt := top 15
abbrev s_sign_at : Stmt := top 16
abbrev s_read_tree : Stmt := top 17
abbrev s_read_left : Stmt := top 18
abbrev s_read_side : Stmt := top 19
abbrev s__law_deck : Stmt := top 21
abbrev s__law_next : Stmt := top 22
abbrev s__law_one : Stmt := top 23
abbrev s__law_same : Stmt := top 24
abbrev s__law_letters : Stmt := top 25
abbrev s__law_grown : Stmt := top 26
abbrev s__law_tree : Stmt := top 27
abbrev s__law_text : Stmt := top 28
abbrev s__law_bent : Stmt := top 29
abbrev s__law_read : Stmt := top 30
abbrev s__law_told : Stmt := top 31
abbrev s__law_due : Stmt := top 32
abbrev s__law_written : Stmt := top 33
abbrev s_law : Stmt := top 34
theorem sc_is_letter : FnScope ["value"] ["value"] (defScope s_is_letter) := ⟨rfl, rfl, rfl, by decide +kernel, rfl, by decide +kernel, by decide +kernel⟩
theorem sc_size_of : FnScope ["tree"] ["tree"] (defScope s_size_of) := ⟨rfl, rfl, rfl, by decide +kernel, rfl, by decide +kernel, by decide +kernel⟩
theorem sc_parse_tree : FnScope ["text", "tree", "behind"] ["text"] (defScope s_parse_tree) := ⟨rfl, rfl, rfl, by decide +kernel, rfl, by decide +kernel, by decide +kernel⟩
theorem sc_sign_at : FnScope ["text", "at"] ["text", "at"] (defScope s_sign_at) := ⟨rfl, rfl, rfl, by decide +kernel, rfl, by decide +kernel, by decide +kernel⟩
theorem sc_read_tree : FnScope ["text", "at", "room", "label", "left", "comma", "rest", "right", "end"] ["text", "at", "room"] (defScope s_read_tree) := ⟨rfl, rfl, rfl, by decide +kernel, rfl, by decide +kernel, by decide +kernel⟩
theorem sc_read_left : FnScope ["text", "at", "room", "left", "comma"] ["text", "at", "room"] (defScope s_read_left) := ⟨rfl, rfl, rfl, by decide +kernel, rfl, by decide +kernel, by decide +kernel⟩
theorem sc_read_side : FnScope ["text", "at", "room"] ["text", "at", "room"] (defScope s_read_side) := ⟨rfl, rfl, rfl, by decide +kernel, rfl, by decide +kernel, by decide +kernel⟩
theorem sc__law_deck : FnScope ["_law_script", "_law_cell", "_law_cells"] ["_law_script"] (defScope s__law_deck) := ⟨rfl, rfl, rfl, by decide +kernel, rfl, by decide +kernel, by decide +kernel⟩
theorem sc__law_next : FnScope ["_law_deck_here", "_law_many", "_law_cells", "_law_rests", "_law_count", "_law_index", "_law_digit", "_law_mixed"] ["_law_deck_here", "_law_many"] (defScope s__law_next) := ⟨rfl, rfl, rfl, by decide +kernel, rfl, by decide +kernel, by decide +kernel⟩
theorem sc__law_one : FnScope ["_law_deck_here", "_law_items"] ["_law_deck_here", "_law_items"] (defScope s__law_one) := ⟨rfl, rfl, rfl, by decide +kernel, rfl, by decide +kernel, by decide +kernel⟩
theorem sc__law_same : FnScope ["_law_found", "_law_due_here", "_law_k"] ["_law_found", "_law_due_here"] (defScope s__law_same) := ⟨rfl, rfl, rfl, by decide +kernel, rfl, by decide +kernel, by decide +kernel⟩
theorem sc__law_letters : FnScope ["_law_deck_here", "_law_size", "_law_way", "_law_some", "_law_k", "_law_found"] ["_law_deck_here", "_law_size"] (defScope s__law_letters) := ⟨rfl, rfl, rfl, by decide +kernel, rfl, by decide +kernel, by decide +kernel⟩
theorem sc__law_grown : FnScope ["_law_deck_here", "_law_size", "_law_way", "_law_letters_here", "_law_many", "_law_left"] ["_law_deck_here", "_law_size", "_law_way", "_law_letters_here"] (defScope s__law_grown) := ⟨rfl, rfl, rfl, by decide +kernel, rfl, by decide +kernel, by decide +kernel⟩
theorem sc__law_tree : FnScope ["_law_deck_here", "_law_limit", "_law_size", "_law_way"] ["_law_deck_here", "_law_limit"] (defScope s__law_tree) := ⟨rfl, rfl, rfl, by decide +kernel, rfl, by decide +kernel, by decide +kernel⟩
theorem sc__law_text : FnScope ["_law_tree_here"] ["_law_tree_here"] (defScope s__law_text) := ⟨rfl, rfl, rfl, by decide +kernel, rfl, by decide +kernel, by decide +kernel⟩
theorem sc__law_bent : FnScope ["_law_deck_here", "_law_text_here", "_law_at", "_law_course", "_law_sign"] ["_law_deck_here", "_law_text_here"] (defScope s__law_bent) := ⟨rfl, rfl, rfl, by decide +kernel, rfl, by decide +kernel, by decide +kernel⟩
theorem sc__law_read : FnScope ["_law_text_here", "_law_stack", "_law_done", "_law_many", "_law_index", "_law_sign", "_law_can_miss", "_law_label", "_law_left"] ["_law_text_here"] (defScope s__law_read) := ⟨rfl, rfl, rfl, by decide +kernel, rfl, by decide +kernel, by decide +kernel⟩
theorem sc__law_told : FnScope ["_law_value", "_law_found", "error", "_law_others"] ["_law_value"] (defScope s__law_told) := ⟨rfl, rfl, rfl, by decide +kernel, rfl, by decide +kernel, by decide +kernel⟩
theorem sc__law_due : FnScope ["_law_value"] ["_law_value"] (defScope s__law_due) := ⟨rfl, rfl, rfl, by decide +kernel, rfl, by decide +kernel, by decide +kernel⟩
theorem sc__law_written : FnScope ["_law_some", "_law_long", "_law_k", "_law_chains", "_law_full"] [] (defScope s__law_written) := ⟨rfl, rfl, rfl, by decide +kernel, rfl, by decide +kernel, by decide +kernel⟩
theorem sc_law : FnScope ["_law_script", "_law_deck_here", "_law_turn", "_law_text_here", "_law_values", "_law_k", "_law_once", "_law_twice", "_law_value", "_law_kept", "_law_due_here"] ["_law_script"] (defScope s_law) := ⟨rfl, rfl, rfl, by decide +kernel, rfl, by decide +kernel, by decide +kernel⟩
abbrev sDeck : Stmt := s__law_deck
abbrev sNext : Stmt := s__law_next
abbrev sSame : Stmt := s__law_same
abbrev sLett : Stmt := s__law_letters
abbrev sGrown : Stmt := s__law_grown
abbrev sTree : Stmt := s__law_tree
/-! ### the deck -/
structure Deck where
  dk : Addr
  ca : Addr
  ra : Addr
structure DeckOk (H : Hp) (D : Deck) (n : Nat) : Prop where
  ex : ∃ cells rests : List Int, H D.dk = some (.lst [.ref D.ca, .ref D.ra, .int (n : Int)]) ∧ H D.ca = some (.lst (cells.map V.int)) ∧ H D.ra = some (.lst (rests.map V.int)) ∧ 0 < cells.length ∧ rests.length = cells.length ∧ cells.length ≤ 61
  dc : D.dk ≠ D.ca
  dr : D.dk ≠ D.ra
  cr : D.ca ≠ D.ra
/-- all stands still but the deck's list and its rests -/
def SameD (D : Deck) (H H' : Hp) : Prop := ∀ b o, b ≠ D.dk → b ≠ D.ra → H b = some o → H' b = some o
theorem SameD.refl (D : Deck) (H : Hp) : SameD D H H := fun _ _ _ _ h => h
theorem SameD.trans {D : Deck} {H H1 H2 : Hp} (a : SameD D H H1) (b : SameD D H1 H2) : SameD D H H2 := fun c o h1 h2 h => b c o h1 h2 (a c o h1 h2 h)
theorem SameD.of {D : Deck} {H H' : Hp} (h : Same H H') : SameD D H H' := fun b o _ _ e => h b o e
theorem DeckOk.lists {H : Hp} {D : Deck} {n : Nat} (d : DeckOk H D n) : (∃ xs, H D.dk = some (.lst xs)) ∧ (∃ xs, H D.ra = some (.lst xs)) := by
  obtain ⟨c, r, h1, _, h3, _⟩ := d.ex
  exact ⟨⟨_, h1⟩, ⟨_, h3⟩⟩
theorem SameD.keepT {D : Deck} {H H' : Hp} {n : Nat} (h : SameD D H H') (d : DeckOk H D n) : KeepT H H' := fun b xs e => by
  obtain ⟨⟨x1, h1⟩, ⟨x2, h2⟩⟩ := d.lists
  exact h b _ (ne_of e h1 (by intro z; cases z)) (ne_of e h2 (by intro z; cases z)) e
theorem SameD.free {D : Deck} {H H' : Hp} {n : Nat} (h : SameD D H H') (d : DeckOk H' D n) {p : Addr} (e : H' p = none) : H p = none := by
  obtain ⟨⟨x1, h1⟩, ⟨x2, h2⟩⟩ := d.lists
  have n1 : p ≠ D.dk := fun z => by rw [z, h1] at e; cases e
  have n2 : p ≠ D.ra := fun z => by rw [z, h2] at e; cases e
  cases q : H p with
  | none => rfl
  | some o =>
    rw [h p o n1 n2 q] at e
    cases e
theorem DeckOk.same {H H' : Hp} {D : Deck} {n : Nat} (d : DeckOk H D n) (h : Same H H') : DeckOk H' D n := by
  obtain ⟨c, r, h1, h2, h3, h4⟩ := d.ex
  exact ⟨⟨c, r, h _ _ h1, h _ _ h2, h _ _ h3, h4⟩, d.dc, d.dr, d.cr⟩
structure Off (D : Deck) (p : Addr) : Prop where
  dk : p ≠ D.dk
  ca : p ≠ D.ca
  ra : p ≠ D.ra
theorem DeckOk.new {H : Hp} {D : Deck} {n : Nat} (d : DeckOk H D n) {p : Addr} (e : H p = none) : Off D p := by
  obtain ⟨c, r, h1, h2, h3, _⟩ := d.ex
  refine ⟨fun z => ?_, fun z => ?_, fun z => ?_⟩
  · rw [z, h1] at e
    cases e
  · rw [z, h2] at e
    cases e
  · rw [z, h3] at e
    cases e
theorem DeckOk.put {H : Hp} {D : Deck} {n : Nat} (d : DeckOk H D n) {p : Addr} (f : Off D p) (o : HO) : DeckOk (upd H p o) D n := by
  obtain ⟨c, r, h1, h2, h3, h4⟩ := d.ex
  exact ⟨⟨c, r, by rw [upd_ne f.dk.symm]; exact h1, by rw [upd_ne f.ca.symm]; exact h2, by rw [upd_ne f.ra.symm]; exact h3, h4⟩, d.dc, d.dr, d.cr⟩
theorem SameD.put {D : Deck} {H H' : Hp} {p : Addr} (s : SameD D H H') (e : H p = none) (o : HO) : SameD D H (upd H' p o) := fun b u h1 h2 h => by
  rw [upd_ne (ne_of_none h e)]
  exact s b u h1 h2 h
theorem SameD.at {D : Deck} {H H' : Hp} {p : Addr} {o : HO} (s : SameD D H H') (f : Off D p) (e : H p = some o) : H' p = some o := s p o f.dk f.ra e
theorem at_map {α : Type} {f : α → V} {ns : List α} {i : Int} {v : α} (h0 : 0 ≤ i) (h : ns[i.toNat]? = some v) : atI (ns.map f) i = some (f v) := by
  have e : i = ((i.toNat : Nat) : Int) := by omega
  rw [e]
  exact atI_nat (by rw [List.getElem?_map, h]; rfl)
theorem rep_flat {α : Type} (a : α) : ∀ m : Nat, (List.replicate m [a]).flatten = List.replicate m a
  | 0 => rfl
  | m + 1 => by
    rw [List.replicate_succ, List.replicate_succ, List.flatten_cons, rep_flat a m]
    rfl
theorem at_int {ns : List Int} {i : Int} {v : Int} (h0 : 0 ≤ i) (h : ns[i.toNat]? = some v) : atI (ns.map V.int) i = some (.int v) := by
  have e : i = ((i.toNat : Nat) : Int) := by omega
  rw [e]
  exact atI_nat (by rw [List.getElem?_map, h]; rfl)
theorem ixN_nat {n : Nat} {i : Int} (h0 : 0 ≤ i) (h : i < n) : ixN n i = some i.toNat := by
  unfold ixN
  first
    | rw [if_pos h0, if_pos h]
    | (rw [if_pos h0]; rw [if_pos (by omega)])
    | simp [h0, h]
theorem mod1 (z : Int) : -(2 ^ 64) < z % 2305843009213693951 ∧ z % 2305843009213693951 < 2 ^ 64 := by
  have a := Int.emod_nonneg z (show (2305843009213693951 : Int) ≠ 0 by decide)
  have b := Int.emod_lt_of_pos z (show (0 : Int) < 2305843009213693951 by decide)
  omega
theorem mod2 (z : Int) : -(2 ^ 64) < z % 2305843009213693921 ∧ z % 2305843009213693921 < 2 ^ 64 := by
  have a := Int.emod_nonneg z (show (2305843009213693921 : Int) ≠ 0 by decide)
  have b := Int.emod_lt_of_pos z (show (0 : Int) < 2305843009213693921 by decide)
  omega
def spNext : Sp := fun vs H Q _ => ∃ (D : Deck) (n : Nat) (m : Int), vs = [.ref D.dk, .int m] ∧ DeckOk H D n ∧ n ≤ 1000000 ∧ 0 < m ∧ m ≤ 1000 ∧ ∀ (i : Int) (H' : Hp), 0 ≤ i → i < m → DeckOk H' D (n + 1) → SameD D H H' → Q (.int i) H'
theorem scNext : FnScope ["_law_deck_here", "_law_many", "_law_cells", "_law_rests", "_law_count", "_law_index", "_law_digit", "_law_mixed"] ["_law_deck_here", "_law_many"] (defScope sNext) := ⟨rfl, rfl, rfl, by decide +kernel, rfl, by decide +kernel, by decide +kernel⟩
section
variable {P : Program} {w : World} {K : PySem.W.Frag} {mg : Str → Option Value} {base : Heap} {f : Addr} {fd : FuncData}
theorem ok_next {k : Nat} (F : Fun K "_law_next" "_law_next" sNext f fd) (ml : mg "len" = none) : FnOk P w K mg base CX0 (k + 1) f fd ["_law_deck_here", "_law_many"] spNext := by
  refine F.ok scNext (fun vs H Q E h => ?_) (fun cdv A outer s H vs Q E hr h => ?_)
  · obtain ⟨D, n, m, rfl, _⟩ := h
    rfl
  obtain ⟨D, n, m, rfl, d, hn, m0, m1, q⟩ := h
  obtain ⟨cells, rests, e1, e2, e3, c0, cr, c1⟩ := d.ex
  refine ⟨_, pss_cons (ps_asg (pv 0) (pg_unl rfl (pgs_cons (pg_name (i := 2) scNext.nd rfl (.inl rfl)) (pgs_cons (pg_name (i := 3) scNext.nd rfl (.inl rfl)) (pgs_cons (pg_name (i := 4) scNext.nd rfl (.inl rfl)) pgs_nil)))))
    (pss_cons (ps_asg (pe_op op_add (pv 4) pe_int) (pg_sub (pv 0) pe_int set_list))
    (pss_cons (ps_set (i := 5) scNext.nd rfl (.inl rfl) (pe_op op_mod (pv 4) (pe_callB call_len_seq rfl ml PySem.boot_len (pa_cons (pv 2) pa_nil))))
    (pss_cons (ps_if (pt_cmpR op_gt (pe_ix ix_list (pv 3) (pv 5) (fun _ _ => rfl)) pe_int (nomark _))
      (pss_cons (ps_set (i := 6) scNext.nd rfl (.inl rfl) (pe_op op_mod (pe_ix ix_list (pv 3) (pv 5) (fun _ _ => rfl)) (pv 1)))
      (pss_cons (ps_asg (pe_op op_fdiv (pe_ix ix_list (pv 3) (pv 5) (fun _ _ => rfl)) (pv 1)) (pg_sub (pv 3) (pv 5) set_list))
      (pss_one (ps_ret (pv 6))))) pss_nil)
    (pss_cons (ps_set (i := 7) scNext.nd rfl (.inl rfl) (pe_op op_mul (pe_op op_add (pe_op op_add (pe_ix ix_list (pv 2) (pv 5) (fun _ _ => rfl)) (pe_op op_mul pe_int (pv 4))) pe_int) (pe_op op_add pe_int (pe_op op_mul pe_int (pv 4)))))
    (pss_cons (ps_set (i := 7) scNext.nd rfl (.inl rfl) (pe_op op_mod (pe_op op_add (pv 7) (pe_op op_mul pe_int (pv 4))) pe_int))
    (pss_cons (ps_set (i := 7) scNext.nd rfl (.inl rfl) (pe_op op_mod (pe_op op_add (pe_op op_mul (pv 7) (pv 7)) pe_int) pe_int))
    (pss_cons (ps_set (i := 7) scNext.nd rfl (.inl rfl) (pe_op op_mod (pe_op op_mul (pv 7) (pv 7)) pe_int))
    (pss_one (ps_ret (pe_op op_mod (pe_op op_fdiv (pv 7) pe_int) (pv 1))))))))))), ?_⟩
  -- the three parts
  refine ⟨_, rfl, D.dk, _, rfl, SqL.of e1, rfl, _, _, rfl, _, _, rfl, _, _, rfl, rfl, ?_⟩
  -- deck[2] = count + 1
  refine ⟨_, rfl, _, _, rfl, rfl, _, rfl, D.dk, _, _, 2, rfl, rfl, e1, rfl, ?_⟩
  have x2 : (upd H D.dk (.lst [.ref D.ca, .ref D.ra, .int ((n : Int) + 1)])) D.ca = some (.lst (cells.map V.int)) := by rw [upd_ne d.dc.symm]; exact e2
  have x3 : (upd H D.dk (.lst [.ref D.ca, .ref D.ra, .int ((n : Int) + 1)])) D.ra = some (.lst (rests.map V.int)) := by rw [upd_ne d.dr.symm]; exact e3
  have x1 : (upd H D.dk (.lst [.ref D.ca, .ref D.ra, .int ((n : Int) + 1)])) D.dk = some (.lst [.ref D.ca, .ref D.ra, .int ((n + 1 : Nat) : Int)]) := upd_same
  have sd : SameD D H (upd H D.dk (.lst [.ref D.ca, .ref D.ra, .int ((n : Int) + 1)])) := fun b o h1 _ e => by rw [upd_ne h1]; exact e
  have cl : ((cells.map V.int).length : Int) = (cells.length : Int) := by rw [List.length_map]
  have rl : ((rests.map V.int).length : Int) = (cells.length : Int) := by rw [List.length_map, cr]
  -- index
  refine ⟨_, rfl, _, rfl, D.ca, _, rfl, .inl (SqL.of x2), _, _, rfl, rfl, (by show (0 : Int) < ((cells.map V.int).length : Int); rw [cl]; omega), ?_⟩
  have i0 : 0 ≤ (n : Int) % ((cells.map V.int).length : Int) := Int.emod_nonneg _ (by rw [cl]; omega)
  have i1 : (n : Int) % ((cells.map V.int).length : Int) < (cells.length : Int) := by
    rw [cl]
    exact Int.emod_lt_of_pos _ (by omega)
  have l1 : ((n : Int) % ((cells.map V.int).length : Int)).toNat < rests.length := by omega
  have l2 : ((n : Int) % ((cells.map V.int).length : Int)).toNat < cells.length := by omega
  have a1 := at_int i0 (List.getElem?_eq_getElem l1)
  have a2 := at_int i0 (List.getElem?_eq_getElem l2)
  refine ⟨_, rfl, _, rfl, D.ra, _, _, _, rfl, rfl, SqL.of x3, a1, _, _, rfl, rfl, _, rfl, ite2 (fun _ => ?_) (fun _ => ?_)⟩
  · refine ⟨_, rfl, _, rfl, D.ra, _, _, _, rfl, rfl, SqL.of x3, a1, _, rfl, _, _, rfl, rfl, m0, ?_⟩
    refine ⟨_, rfl, _, rfl, D.ra, _, _, _, rfl, rfl, SqL.of x3, a1, _, rfl, _, _, rfl, rfl, ⟨m0, by omega⟩, ?_⟩
    refine ⟨_, rfl, _, rfl, D.ra, _, _, _, rfl, rfl, x3, ixN_nat i0 (by rw [rl]; exact i1), ?_⟩
    refine ⟨_, rfl, ?_⟩
    refine q _ _ (Int.emod_nonneg _ (by omega)) (Int.emod_lt_of_pos _ m0) ⟨⟨cells, rests.set ((n : Int) % ((cells.map V.int).length : Int)).toNat (rests[((n : Int) % ((cells.map V.int).length : Int)).toNat] / m), ?_, ?_, ?_, c0, ?_, c1⟩, d.dc, d.dr, d.cr⟩ ?_
    · rw [upd_ne d.dr]; exact x1
    · rw [upd_ne d.cr]; exact x2
    · rw [upd_same, List.map_set]
    · rw [List.length_set]; exact cr
    · exact sd.trans fun b o _ h2 e => by rw [upd_ne h2]; exact e
  · refine ⟨_, rfl, _, rfl, D.ca, _, _, _, rfl, rfl, SqL.of x2, a2, _, rfl, _, _, rfl, rfl, .inl ⟨by decide, by decide⟩, _, _, rfl, rfl, _, _, rfl, rfl, _, rfl, _, _, rfl, rfl, .inl ⟨by decide, by decide⟩, _, _, rfl, rfl, _, _, rfl, rfl, .inr ⟨by omega, by omega⟩, ?_⟩
    refine ⟨_, rfl, _, rfl, _, _, rfl, rfl, .inl ⟨by decide, by decide⟩, _, _, rfl, rfl, _, _, rfl, rfl, (show (0 : Int) < 2305843009213693951 by decide), ?_⟩
    refine ⟨_, rfl, _, rfl, _, _, rfl, rfl, .inl (mod1 _), _, _, rfl, rfl, _, _, rfl, rfl, (show (0 : Int) < 2305843009213693921 by decide), ?_⟩
    refine ⟨_, rfl, _, rfl, _, _, rfl, rfl, .inl (mod2 _), _, _, rfl, rfl, (show (0 : Int) < 2305843009213693951 by decide), ?_⟩
    refine ⟨_, rfl, _, _, rfl, rfl, ⟨by decide, by decide⟩, _, rfl, _, _, rfl, rfl, m0, ?_⟩
    exact q _ _ (Int.emod_nonneg _ (by omega)) (Int.emod_lt_of_pos _ m0) ⟨⟨cells, rests, x1, x2, x3, c0, cr, c1⟩, d.dc, d.dr, d.cr⟩ sd
end
/-! ### _law_deck -/
theorem cut_to (xs : List V) (k : Nat) : cutV xs none (some (k : Int)) = xs.take k := by
  unfold cutV
  rw [HT.sIx_nat, HT.sIx_none, List.drop_zero, Nat.sub_zero]
  rw [Nat.min_def]
  split
  · rfl
  · rw [List.take_of_length_le (Nat.le_refl _), List.take_of_length_le (by omega)]
theorem cut_from (xs : List V) (k : Nat) : cutV xs (some (k : Int)) none = xs.drop k := by
  unfold cutV
  rw [HT.sIx_nat, HT.sIx_none]
  by_cases h : k ≤ xs.length
  · rw [Nat.min_eq_left h, List.take_of_length_le (by rw [List.length_drop]; omega)]
  · rw [Nat.min_eq_right (by omega), List.drop_eq_nil_of_le (Nat.le_refl _), List.drop_eq_nil_of_le (by omega), List.take_nil]
theorem kept {σ : L2.St} {H : Hp} {A B : Hp → Prop} (h : A H) : tYes σ H (fun b H3 => if b = true then A H3 else B H3) := by
  show if true = true then A H else B H
  exact iteT h
theorem scDeck : FnScope ["_law_script", "_law_cells", "_law_cell"] ["_law_script"] (defScope sDeck) := ⟨rfl, rfl, rfl, by decide +kernel, rfl, by decide +kernel, by decide +kernel⟩
def spDeck (K : PySem.W.Frag) : Sp := fun vs H Q _ => ∃ (a : Addr) (ns : List Int), vs = [.ref a] ∧ SqL K H a (ns.map V.int) ∧ ∀ (D : Deck) (H' : Hp), DeckOk H' D 0 → Same H H' → Q (.ref D.dk) H'
section
variable {P : Program} {w : World} {K : PySem.W.Frag} {mg : Str → Option Value} {base : Heap} {f : Addr} {fd : FuncData}
theorem ok_deck {k : Nat} (F : Fun K "_law_deck" "_law_deck" sDeck f fd) (ml : mg "len" = none) (ma : mg "abs" = none) (mi : mg "int" = none) : FnOk P w K mg base CX0 (k + 1) f fd ["_law_script"] (spDeck K) := by
  refine F.ok scDeck (fun vs H Q E h => ?_) (fun cdv A outer s H vs Q E hr h => ?_)
  · obtain ⟨a, ns, rfl, _⟩ := h
    rfl
  obtain ⟨a, ns, rfl, hS, q⟩ := h
  refine ⟨_, pss_cons (ps_set (i := 1) scDeck.nd rfl (.inl rfl) (pe_op op_cat
      (pe_lc (own := [("_law_cell", 2)]) (g := gName 2) (tt := tYes) rfl scDeck.nd (pi_list (pe_slice sl_list (pv 0) po_none (po_some pe_int))) (blkOk_by (N := ["_law_script", "_law_cells", "_law_cell"]) (sc := defScope sDeck) (by decide +kernel))
        (fun _ _ _ _ _ => pg_name (i := 2) scDeck.nd rfl (Or.inl rfl)) (fun _ _ _ _ _ => pts_nil) (fun _ _ _ _ _ => pe_callB call_abs rfl ma (by decide +kernel) (pa_cons (pv 2) pa_nil)))
      (pe_op op_rep (pe_lst (pa_cons pe_int pa_nil)) (pe_callTy call_int1 rfl mi (by decide +kernel) (pa_cons (pe_cmpR op_eq (pe_callB call_len_seq rfl ml PySem.boot_len (pa_cons (pv 0) pa_nil)) pe_int (nomark _)) pa_nil)))))
    (pss_one (ps_ret (pe_lst (pa_cons (pv 1) (pa_cons
      (pe_lc (own := [("_law_cell", 2)]) (g := gName 2) (tt := tYes) rfl scDeck.nd (pi_list (pv 1)) (blkOk_by (N := ["_law_script", "_law_cells", "_law_cell"]) (sc := defScope sDeck) (by decide +kernel))
        (fun _ _ _ _ _ => pg_name (i := 2) scDeck.nd rfl (Or.inl rfl)) (fun _ _ _ _ _ => pts_nil)
        (fun _ _ _ _ _ => pe_op op_mul (pv 2) (pe_callTy call_int1 rfl mi (by decide +kernel) (pa_cons (pe_cmpR op_ge (pv 2) (pe_op op_pow pe_int pe_int) (nomark _)) pa_nil))))
      (pa_cons pe_int pa_nil)))))), ?_⟩
  refine ⟨.ref a, rfl, 61, rfl, a, ns.map V.int, rfl, hS, fun c nc => ?_⟩
  rw [show (61 : Int) = ((61 : Nat) : Int) from rfl, cut_to, ← List.map_take]
  have s1 := same_new nc (.lst ((ns.take 61).map V.int))
  refine ⟨c, rfl, ⟨_, SqL.of upd_same⟩, fun d1 n1 => ?_⟩
  have s2 := same_new n1 (.lst [])
  refine lc_list (K := K) (a := c) (xs := (ns.take 61).map V.int) (fun i H' => Same (upd H c (.lst ((ns.take 61).map V.int))) H' ∧ ∃ zs : List Int, zs.length = i ∧ H' d1 = some (.lst (zs.map V.int))) ⟨s2, [], rfl, upd_same⟩ (fun i H' _ hp => SqL.of (hp.1 _ _ upd_same)) (fun i x H' hx hp => ?_) (fun H1 hp => ?_)
  · obtain ⟨sm, zs, hz, hd⟩ := hp
    rw [List.getElem?_map] at hx
    obtain ⟨y, hy, rfl⟩ := Option.map_eq_some_iff.mp hx
    have hi : i < 61 := by
      have := (List.getElem?_eq_some_iff.mp hy).1
      rw [List.length_take] at this
      omega
    refine ⟨rfl, kept ?_⟩
    refine ⟨_, rfl, _, rfl, _, hd, by rw [List.length_map]; exact small1000 (by omega), fun b o e => ?_, zs ++ [if y < 0 then -y else y], by rw [List.length_append, hz]; rfl, ?_⟩
    · rw [upd_ne (ne_of_none e n1)]
      exact sm _ _ e
    · rw [upd_same, List.map_append]
      rfl
  obtain ⟨sm, zs, hz, hd⟩ := hp
  rw [List.length_map, List.length_take] at hz
  refine ⟨(by show 1 ≤ sizeLine; decide), fun z nz => ?_⟩
  have s3 := same_new nz (.lst [.int 0])
  have sH : Same H H1 := s1.trans sm
  refine ⟨.ref a, rfl, a, _, rfl, .inl ((sH.trans s3).seq hS), rfl, .inr ⟨_, rfl, z, _, _, rfl, rfl, upd_same, ?_, ?_, ?_, fun y ny => ?_⟩⟩
  · split <;> decide
  · split <;> decide
  · split <;> decide
  have s4 := same_new ny (.lst (List.replicate (Int.toNat (if decide (V.int ((ns.map V.int).length : Int) = V.int 0) = true then 1 else 0)) [V.int 0]).flatten)
  obtain ⟨ex, hex, hexl⟩ : ∃ ex : List Int, (List.replicate (Int.toNat (if decide (V.int ((ns.map V.int).length : Int) = V.int 0) = true then 1 else 0)) [V.int 0]).flatten = ex.map V.int ∧ 0 < zs.length + ex.length ∧ zs.length + ex.length ≤ 61 := by
    by_cases h0 : ns.length = 0
    · refine ⟨[0], ?_, ?_, ?_⟩
      · rw [show (decide (V.int ((ns.map V.int).length : Int) = V.int 0)) = true by rw [List.length_map, h0]; rfl]
        rfl
      · exact Nat.succ_pos _
      · rw [hz, h0]
        decide
    · refine ⟨[], ?_, ?_, ?_⟩
      · rw [show (decide (V.int ((ns.map V.int).length : Int) = V.int 0)) = false by
          apply decide_eq_false
          intro z
          have z' := V.int.inj z
          rw [List.length_map] at z'
          omega]
        rfl
      · rw [List.length_nil]; omega
      · rw [List.length_nil]; omega
  refine ⟨d1, y, _, _, rfl, rfl, (s3.trans s4) _ _ hd, upd_same, ?_, fun p np => ?_⟩
  · rw [hex, List.length_map, List.length_map]
    exact small (by omega)
  have s5 := same_new np (.lst (zs.map V.int ++ (List.replicate (Int.toNat (if decide (V.int ((ns.map V.int).length : Int) = V.int 0) = true then 1 else 0)) [V.int 0]).flatten))
  have s6 := sH.trans (s3.trans (s4.trans s5))
  -- the second list
  refine ⟨.ref p, rfl, .ref p, rfl, p, rfl, ⟨_, SqL.of upd_same⟩, fun r nr => ?_⟩
  rw [hex, ← List.map_append] at s5 s6 nr ⊢
  generalize hH2 : upd (upd (upd H1 z (.lst [.int 0])) y (.lst (ex.map V.int))) p (.lst ((zs ++ ex).map V.int)) = H2 at s5 s6 nr ⊢
  have ep : H2 p = some (.lst ((zs ++ ex).map V.int)) := by rw [← hH2]; exact upd_same
  have hpr : p ≠ r := ne_of_none ep nr
  refine lc_list (K := K) (a := p) (xs := (zs ++ ex).map V.int) (fun i H' => Same H2 H' ∧ ∃ ys : List Int, ys.length = i ∧ H' r = some (.lst (ys.map V.int))) ⟨same_new nr _, [], rfl, upd_same⟩ (fun i H' _ hp => SqL.of (hp.1 _ _ ep)) (fun i x H' hx hp => ?_) (fun H3 hp => ?_)
  · obtain ⟨sm, ys, hy, hd⟩ := hp
    rw [List.getElem?_map] at hx
    obtain ⟨v, hv, rfl⟩ := Option.map_eq_some_iff.mp hx
    have hi : i < 61 := by
      have := (List.getElem?_eq_some_iff.mp hv).1
      rw [List.length_append] at this
      omega
    refine ⟨rfl, kept ?_⟩
    refine ⟨_, rfl, _, rfl, _, _, rfl, rfl, ⟨by decide, by decide, by decide⟩, _, _, rfl, rfl, .inr ⟨_, rfl, _, _, rfl, rfl, .inr ?_, _, hd, by rw [List.length_map]; exact small1000 (by omega), fun b o e => ?_, ys ++ [v * (if decide (v ≥ (10 : Int) ^ Int.toNat 18) = true then 1 else 0)], by rw [List.length_append, hy]; rfl, ?_⟩⟩
    · split <;> decide
    · rw [upd_ne (ne_of_none e nr)]
      exact sm _ _ e
    · rw [upd_same, List.map_append]
      rfl
  · obtain ⟨sm, ys, hy, hd⟩ := hp
    refine ⟨(by show 3 ≤ sizeLine; decide), fun t nt => ?_⟩
    have s9 := same_new nt (.lst [.ref p, .ref r, .int 0])
    have ep3 := sm _ _ ep
    refine q ⟨t, p, r⟩ _ ⟨⟨zs ++ ex, ys, upd_same, s9 _ _ ep3, s9 _ _ hd, ?_, ?_, ?_⟩, (ne_of_none ep3 nt).symm, (ne_of_none hd nt).symm, hpr⟩ (s6.trans (sm.trans s9))
    · rw [List.length_append]; omega
    · rw [hy, List.length_map]
    · rw [List.length_append]; omega
end
/-! ### _law_same, of equal data -/
theorem sqT_same {K : PySem.W.Frag} {H H' : Hp} {a : Addr} {xs : List V} (e : Same H H') (h : SqT K H a xs) : SqT K H' a xs := by
  rcases h with (h | ⟨o, h⟩) | h
  · exact .inl (.inl (e _ _ h))
  · exact .inl (.inr ⟨o, e _ _ h⟩)
  · exact .inr h
mutual
theorem dp_same {K : PySem.W.Frag} {H H' : Hp} (e : Same H H') : ∀ {v : V} {d : PyData}, Dp K H v d → Dp K H' v d
  | _, _, .non => .non
  | _, _, .bl b => .bl b
  | _, _, .int i => .int i
  | _, _, .str x => .str x
  | _, _, .lst h a => .lst (e.seq h) (dpAll_same e a)
  | _, _, .tup h a => .tup (sqT_same e h) (dpAll_same e a)
theorem dpAll_same {K : PySem.W.Frag} {H H' : Hp} (e : Same H H') : ∀ {vs : List V} {ds : List PyData}, DpAll K H vs ds → DpAll K H' vs ds
  | _, _, .nil => .nil
  | _, _, .cons h a => .cons (dp_same e h) (dpAll_same e a)
end
theorem dpAll_len {K : PySem.W.Frag} {H : Hp} : ∀ {vs : List V} {ds : List PyData}, DpAll K H vs ds → vs.length = ds.length
  | _, _, .nil => rfl
  | _, _, .cons _ a => congrArg (· + 1) (dpAll_len a)
theorem dpAll_get {K : PySem.W.Frag} {H : Hp} : ∀ {vs : List V} {ds : List PyData} {i : Nat} {d : PyData}, DpAll K H vs ds → ds[i]? = some d → ∃ v, vs[i]? = some v ∧ Dp K H v d
  | _, _, _, _, .nil, h => by simp at h
  | _, _, 0, _, .cons h _, e => by
    cases e
    exact ⟨_, rfl, h⟩
  | _, _, i + 1, _, .cons _ a, e => dpAll_get (i := i) a e
def tyD : PyData → String
  | .none => "NoneType"
  | .bool _ => "bool"
  | .int _ => "int"
  | .str _ => "str"
  | .list _ => "list"
  | .tuple _ => "tuple"
  | .dict _ => "dict"
theorem dp_ty {K : PySem.W.Frag} {H : Hp} {v : V} {d : PyData} (h : Dp K H v d) : TyX K H v (.type (tyD d)) := by
  cases h with
  | non => exact .base .non
  | bl b => exact .base (.bl b)
  | int i => exact .base (.int i)
  | str x => exact .base (.str x)
  | lst h _ =>
    rcases h with (h | ⟨o, h⟩) | ⟨o, its, n, h, hc, _⟩
    · exact .base (.lst h)
    · exact .base (.frz h)
    · exact .kList h hc
  | tup h _ =>
    rcases h with (h | ⟨o, h⟩) | ⟨o, its, n, h, hc, _⟩
    · exact .base (.tup h)
    · exact .fTuple h
    · exact .kTuple h hc
theorem kit_lt {K : PySem.W.Frag} {a : String} {r s : Bool} (h1 : kitB a "list" = some r) (h2 : kitB a "tuple" = some s) : PySem.W.kitAny K (.type a) [.type "list", .type "tuple"] = some (r || s) := by
  refine kitAny_cons (kit_ty h1) (fun e => kitAny_cons (kit_ty h2) (fun e2 => ?_) fun e2 => ?_) fun e => ?_
  · rw [kitAny_nil, e, e2]; rfl
  · rw [e2, Bool.or_true]
  · rw [e, Bool.true_or]
theorem depth_get : ∀ {ds : List PyData} {i : Nat} {d : PyData}, ds[i]? = some d → d.depth ≤ PyData.depthAll ds
  | [], _, _, h => by simp at h
  | x :: xs, 0, _, h => by
    cases h
    simp only [PyData.depthAll]
    omega
  | x :: xs, i + 1, d, h => by
    have := depth_get (ds := xs) (i := i) h
    simp only [PyData.depthAll]
    omega
mutual
def nar : PyData → Bool
  | .list xs => decide (xs.length ≤ 1000000) && narAll xs
  | .tuple xs => decide (xs.length ≤ 1000000) && narAll xs
  | .dict _ => false
  | .none => true
  | .bool _ => true
  | .int _ => true
  | .str _ => true
def narAll : List PyData → Bool
  | [] => true
  | x :: xs => nar x && narAll xs
end
theorem nar_get : ∀ {ds : List PyData} {i : Nat} {d : PyData}, ds[i]? = some d → narAll ds = true → nar d = true
  | [], _, _, h, _ => by simp at h
  | x :: xs, 0, _, h, k => by
    cases h
    simp only [narAll, Bool.and_eq_true] at k
    exact k.1
  | x :: xs, i + 1, d, h, k => by
    simp only [narAll, Bool.and_eq_true] at k
    exact nar_get (ds := xs) (i := i) h k.2
theorem scSame : FnScope ["_law_found", "_law_due_here", "_law_k"] ["_law_found", "_law_due_here"] (defScope sSame) := ⟨rfl, rfl, rfl, by decide +kernel, rfl, by decide +kernel, by decide +kernel⟩
def spSame (K : PySem.W.Frag) (n : Nat) : Sp := fun vs H Q _ => ∃ (v v' : V) (d : PyData), vs = [v, v'] ∧ Dp K H v d ∧ Dp K H v' d ∧ d.depth < n ∧ nar d = true ∧ ∀ H', Same H H' → Q (.bl true) H'
structure Mgs (mg : Str → Option Value) : Prop where
  len : mg "len" = none
  isi : mg "isinstance" = none
  list : mg "list" = none
  tuple : mg "tuple" = none
  str : mg "str" = none
  int : mg "int" = none
  bool : mg "bool" = none
  range : mg "range" = none
theorem dp_two {K : PySem.W.Frag} {H : Hp} {v v' : V} {d : PyData} {n : Nat} (h : Dp K H v d) (h' : Dp K H v' d) (hd : d.depth < n + 1) (hn : nar d = true) :
    (∃ (p p' : Addr) (xs xs' : List V) (ds : List PyData) (bl : Bool) (ty : String), v = .ref p ∧ v' = .ref p' ∧ (SqL K H p xs ∨ SqT K H p xs) ∧ (SqL K H p' xs' ∨ SqT K H p' xs') ∧ DpAll K H xs ds ∧ DpAll K H xs' ds ∧
      TyX K H v (.type ty) ∧ TyX K H v' (.type ty) ∧ kitB ty "list" = some bl ∧ kitB ty "tuple" = some (!bl) ∧ PyData.depthAll ds < n ∧ ds.length ≤ 1000000 ∧ narAll ds = true) ∨ (v = v' ∧ (v = .non ∨ (∃ b, v = .bl b) ∨ (∃ i, v = .int i) ∨ ∃ x, v = .str x)) := by
  have t1 := dp_ty h
  have t2 := dp_ty h'
  cases h with
  | non =>
    cases h'
    exact .inr ⟨rfl, .inl rfl⟩
  | bl b =>
    cases h'
    exact .inr ⟨rfl, .inr (.inl ⟨b, rfl⟩)⟩
  | int b =>
    cases h'
    exact .inr ⟨rfl, .inr (.inr (.inl ⟨b, rfl⟩))⟩
  | str b =>
    cases h'
    exact .inr ⟨rfl, .inr (.inr (.inr ⟨b, rfl⟩))⟩
  | lst h a =>
    cases h' with
    | lst h' a' =>
      simp only [PyData.depth] at hd
      simp only [nar, Bool.and_eq_true, decide_eq_true_eq] at hn
      exact .inl ⟨_, _, _, _, _, true, "list", rfl, rfl, .inl h, .inl h', a, a', t1, t2, by decide +kernel, by decide +kernel, by omega, hn.1, hn.2⟩
  | tup h a =>
    cases h' with
    | tup h' a' =>
      simp only [PyData.depth] at hd
      simp only [nar, Bool.and_eq_true, decide_eq_true_eq] at hn
      exact .inl ⟨_, _, _, _, _, false, "tuple", rfl, rfl, .inr h, .inr h', a, a', t1, t2, by decide +kernel, by decide +kernel, by omega, hn.1, hn.2⟩
theorem seq_same {K : PySem.W.Frag} {H H' : Hp} {p : Addr} {xs : List V} (e : Same H H') (h : SqL K H p xs ∨ SqT K H p xs) : SqL K H' p xs ∨ SqT K H' p xs := h.elim (fun h => .inl (e.seq h)) fun h => .inr (sqT_same e h)
theorem seq_ix {K : PySem.W.Frag} {H : Hp} {p : Addr} {xs : List V} {i : Int} {v : V} {Q : VK} (h : SqL K H p xs ∨ SqT K H p xs) (a : atI xs i = some v) (q : Q v H) : rIx K (.ref p) (.int i) H Q :=
  h.elim (fun h => .inl ⟨p, xs, i, v, rfl, rfl, h, a, q⟩) fun h => .inr (.inl ⟨p, xs, i, v, rfl, rfl, h, a, q⟩)
theorem tyX_same {K : PySem.W.Frag} {H H' : Hp} {v : V} {d : PyData} (e : Same H H') (h : Dp K H v d) : TyX K H' v (.type (tyD d)) := dp_ty (dp_same e h)
section
variable {P : Program} {w : World} {K : PySem.W.Frag} {mg : Str → Option Value} {base : Heap} {f : Addr} {fd : FuncData}
theorem ok_same (F : Fun K "_law_same" "_law_same" sSame f fd) (b : Binds K fd ["_law_found", "_law_due_here"] []) (g : mg "_law_same" = some (.ref f)) (M : Mgs mg) : ∀ n : Nat, FnOk P w K mg base CX0 n f fd ["_law_found", "_law_due_here"] (spSame K n)
  | 0 => by
    have no : ∀ vs H Q E, ¬ spSame K 0 vs H Q E := fun vs H Q E h => by
      obtain ⟨v, t, d, _, _, _, h1, _, _⟩ := h
      omega
    exact ⟨fun vs H Q E h => absurd h (no vs H Q E), fun A outer s H args us vs Q E _ _ _ _ h => absurd h (no vs H Q E)⟩
  | n + 1 => by
    have G := ok_same F b g M n
    refine F.ok scSame (fun vs H Q E h => ?_) (fun cdv A outer s H vs Q E hr h => ?_)
    · obtain ⟨v, t, d, rfl, _⟩ := h
      rfl
    obtain ⟨v, v', d, rfl, hv, hv', hd, hna, q⟩ := h
    have bi : bootBuiltins "isinstance" = some (.builtin "isinstance") := by decide +kernel
    refine ⟨_, pss_cons (ps_if (pt_val (pe_callB call_isiT rfl M.isi bi (pa_cons (pv 1) (pa_cons (pe_tup (pa_cons (pe_bltn (v := .ty "list") rfl M.list (by decide +kernel) rfl) (pa_cons (pe_bltn (v := .ty "tuple") rfl M.tuple (by decide +kernel) rfl) pa_nil))) pa_nil))))
        (pss_cons (ps_if (PW.pt (pw_or (pt_cmpR op_ne (pe_callB call_isi rfl M.isi bi (pa_cons (pv 0) (pa_cons (pe_bltn (v := .ty "list") rfl M.list (by decide +kernel) rfl) pa_nil))) (pe_callB call_isi rfl M.isi bi (pa_cons (pv 1) (pa_cons (pe_bltn (v := .ty "list") rfl M.list (by decide +kernel) rfl) pa_nil))) (nomark _))
            (pw_or1 (pt_cmpR op_ne (pe_callB call_isi rfl M.isi bi (pa_cons (pv 0) (pa_cons (pe_bltn (v := .ty "tuple") rfl M.tuple (by decide +kernel) rfl) pa_nil))) (pe_callB call_isi rfl M.isi bi (pa_cons (pv 1) (pa_cons (pe_bltn (v := .ty "tuple") rfl M.tuple (by decide +kernel) rfl) pa_nil))) (nomark _))))) (pss_one (ps_ret pe_bl)) pss_nil)
        (pss_cons (ps_if (pt_cmpR op_ne (pe_callB call_len_seq rfl M.len PySem.boot_len (pa_cons (pv 0) pa_nil)) (pe_callB call_len_seq rfl M.len PySem.boot_len (pa_cons (pv 1) pa_nil)) (nomark _)) (pss_one (ps_ret pe_bl)) pss_nil)
        (pss_one (ps_ret (pe_cmpR (op_eqD hr.units) (pe_lc (own := [("_law_k", 2)]) (g := gName 2) rfl scSame.nd (pi_range1 rfl M.range (pa_cons (pe_callB call_len_seq rfl M.len PySem.boot_len (pa_cons (pv 1) pa_nil)) pa_nil)) (blkOk_by (N := ["_law_found", "_law_due_here", "_law_k"]) (sc := defScope sSame) (by decide +kernel))
            (fun _ _ _ _ _ => pg_name (i := 2) scSame.nd rfl (Or.inl rfl)) (fun _ _ _ _ _ => pts_one (pt_not (pt_val (pe_call G hr rfl g F.kp b .nil pass0 (pa_cons (pe_ix (show IxR _ (rIx K) from ix_seq) (pv 0) (pv 2) (fun _ _ => rfl)) (pa_cons (pe_ix (show IxR _ (rIx K) from ix_seq) (pv 1) (pv 2) (fun _ _ => rfl)) pa_nil)))))) (fun _ _ _ _ _ => pv 2))
          (pe_lst pa_nil) (nomark _)))))) pss_nil)
      (pss_cons (ps_if (pt_cmpR op_isN (pv 1) pe_non (nomark _)) (pss_one (ps_ret (pe_cmpR op_isN (pv 0) pe_non (nomark _)))) pss_nil)
      (pss_cons (ps_if (pt_val (pe_callB call_isi rfl M.isi bi (pa_cons (pv 1) (pa_cons (pe_bltn (v := .ty "str") rfl M.str (by decide +kernel) rfl) pa_nil)))) (pss_one (ps_ret (pe_and (pe_callB call_isi rfl M.isi bi (pa_cons (pv 0) (pa_cons (pe_bltn (v := .ty "str") rfl M.str (by decide +kernel) rfl) pa_nil))) (pe_one (pe_cmpR op_eq (pv 0) (pv 1) (nomark _)))))) pss_nil)
      (pss_one (ps_ret (pe_and (pe_callB call_isi rfl M.isi bi (pa_cons (pv 0) (pa_cons (pe_bltn (v := .ty "int") rfl M.int (by decide +kernel) rfl) pa_nil)))
        (pe_and (pe_cmpR op_eq (pe_callB call_isi rfl M.isi bi (pa_cons (pv 0) (pa_cons (pe_bltn (v := .ty "bool") rfl M.bool (by decide +kernel) rfl) pa_nil))) (pe_callB call_isi rfl M.isi bi (pa_cons (pv 1) (pa_cons (pe_bltn (v := .ty "bool") rfl M.bool (by decide +kernel) rfl) pa_nil))) (nomark _)) (pe_one (pe_cmpR op_eq (pv 0) (pv 1) (nomark _))))))))), ?_⟩
    refine ⟨v', rfl, (by show 2 ≤ sizeLine; decide), fun tp np => ?_⟩
    have s1 := same_new np (.tup [.ty "list", .ty "tuple"])
    have hw := dp_same s1 hv
    have hw' := dp_same s1 hv'
    have pr : Paired ClsV [V.ty "list", V.ty "tuple"] [Value.type "list", Value.type "tuple"] := .cons (.ty _) (.cons (.ty _) .nil)
    rcases dp_two hw hw' hd hna with ⟨p, p', xs, xs', ds, bl, ty, rfl, rfl, hq, hq', ha, ha', ht, ht', k1, k2, hdd, hwl, hwn⟩ | ⟨rfl, hk⟩
    · have ka : PySem.W.kitAny K (.type ty) [.type "list", .type "tuple"] = some true := by
        rw [kit_lt k1 k2]
        cases bl <;> rfl
      have hl := dpAll_len ha
      have hl' := dpAll_len ha'
      refine ⟨_, tp, _, _, _, true, rfl, upd_same, pr, ht', ka, _, rfl, iteT ?_⟩
      refine ⟨_, rfl, _, _, _, _, bl, rfl, .ty _, ht, kit_ty k1, _, rfl, _, _, _, _, bl, rfl, .ty _, ht', kit_ty k1, by cases bl <;> rfl, _, rfl, iteNS rfl ?_⟩
      refine ⟨_, rfl, _, _, _, _, !bl, rfl, .ty _, ht, kit_ty k2, _, rfl, _, _, _, _, !bl, rfl, .ty _, ht', kit_ty k2, by cases bl <;> rfl, _, rfl, iteNS rfl ?_⟩
      refine ⟨_, rfl, p, xs, rfl, hq, _, rfl, p', xs', rfl, hq', rfl, _, rfl, iteNS (by rw [hl, hl']) ?_⟩
      refine ⟨_, rfl, p', xs', rfl, hq', _, rfl, ?_, ?_, fun D nD => ?_⟩
      · omega
      · omega
      have s2 := same_new nD (.lst [])
      rw [Int.toNat_natCast]
      refine lc_range (lo := 0) (n := xs'.length) (fun i H' => Same (upd H tp (.tup [.ty "list", .ty "tuple"])) H' ∧ H' D = some (.lst [])) ⟨s2, upd_same⟩ (fun i H' hi hp => ?_) (fun H' hp => ?_)
      · obtain ⟨sm, eD⟩ := hp
        obtain ⟨di, edi⟩ : ∃ di, ds[i]? = some di := ⟨_, List.getElem?_eq_getElem (by omega)⟩
        obtain ⟨x, ex, hx⟩ := dpAll_get ha edi
        obtain ⟨x', ex', hx'⟩ := dpAll_get ha' edi
        have hdi := depth_get edi
        have e0 : (0 : Int) + (i : Int) = ((i : Nat) : Int) := by omega
        rw [e0]
        refine ⟨rfl, ?_⟩
        refine ⟨_, rfl, _, rfl, seq_ix (seq_same sm hq) (atI_nat ex) ⟨_, rfl, _, rfl, seq_ix (seq_same sm hq') (atI_nat ex') ⟨x, x', di, rfl, dp_same sm hx, dp_same sm hx', by omega, nar_get edi hwn, fun H'' s'' => ?_⟩⟩⟩
        exact ⟨_, rfl, iteF ⟨sm.trans s'', s'' _ _ eD⟩⟩
      · obtain ⟨sm, eD⟩ := hp
        refine ⟨(by show 0 ≤ sizeLine; decide), fun e ne => ?_⟩
        refine ⟨.list [], .list [], .lst (SqL.of ((same_new ne _) _ _ eD)) .nil, .lst (SqL.of upd_same) .nil, rfl, rfl, ?_⟩
        exact q _ (s1.trans (sm.trans (same_new ne _)))
    · have fin := q _ s1
      rcases hk with rfl | ⟨c, rfl⟩ | ⟨c, rfl⟩ | ⟨c, rfl⟩
      · refine ⟨_, tp, _, _, _, false, rfl, upd_same, pr, .base .non, kit_lt (r := false) (s := false) (by decide +kernel) (by decide +kernel), _, rfl, iteF ?_⟩
        refine ⟨_, rfl, rfl, _, rfl, iteT ?_⟩
        exact ⟨_, rfl, rfl, fin⟩
      · refine ⟨_, tp, _, _, _, false, rfl, upd_same, pr, .base (.bl c), kit_lt (r := false) (s := false) (by decide +kernel) (by decide +kernel), _, rfl, iteF ?_⟩
        refine ⟨_, rfl, rfl, _, rfl, iteF ?_⟩
        refine ⟨_, rfl, _, _, _, _, false, rfl, .ty _, .base (.bl c), kit_ty (by decide +kernel), _, rfl, iteF ?_⟩
        refine ⟨_, rfl, _, _, _, _, true, rfl, .ty _, .base (.bl c), kit_ty (by decide +kernel), _, rfl, iteT ?_⟩
        refine ⟨_, rfl, _, _, _, _, true, rfl, .ty _, .base (.bl c), kit_ty (by decide +kernel), _, rfl, _, _, _, _, true, rfl, .ty _, .base (.bl c), kit_ty (by decide +kernel), rfl, _, rfl, iteT ?_⟩
        refine ⟨_, rfl, _, rfl, by cases c <;> rfl, ?_⟩
        rw [decide_eq_true rfl]
        exact fin
      · refine ⟨_, tp, _, _, _, false, rfl, upd_same, pr, .base (.int c), kit_lt (r := false) (s := false) (by decide +kernel) (by decide +kernel), _, rfl, iteF ?_⟩
        refine ⟨_, rfl, rfl, _, rfl, iteF ?_⟩
        refine ⟨_, rfl, _, _, _, _, false, rfl, .ty _, .base (.int c), kit_ty (by decide +kernel), _, rfl, iteF ?_⟩
        refine ⟨_, rfl, _, _, _, _, true, rfl, .ty _, .base (.int c), kit_ty (by decide +kernel), _, rfl, iteT ?_⟩
        refine ⟨_, rfl, _, _, _, _, false, rfl, .ty _, .base (.int c), kit_ty (by decide +kernel), _, rfl, _, _, _, _, false, rfl, .ty _, .base (.int c), kit_ty (by decide +kernel), rfl, _, rfl, iteT ?_⟩
        refine ⟨_, rfl, _, rfl, rfl, ?_⟩
        rw [decide_eq_true rfl]
        exact fin
      · refine ⟨_, tp, _, _, _, false, rfl, upd_same, pr, .base (.str c), kit_lt (r := false) (s := false) (by decide +kernel) (by decide +kernel), _, rfl, iteF ?_⟩
        refine ⟨_, rfl, rfl, _, rfl, iteF ?_⟩
        refine ⟨_, rfl, _, _, _, _, true, rfl, .ty _, .base (.str c), kit_ty (by decide +kernel), _, rfl, iteT ?_⟩
        refine ⟨_, rfl, _, _, _, _, true, rfl, .ty _, .base (.str c), kit_ty (by decide +kernel), _, rfl, iteT ?_⟩
        refine ⟨_, rfl, _, rfl, rfl, ?_⟩
        rw [decide_eq_true rfl]
        exact fin
end
/-! ### list(text) -/
theorem vals_signs : ∀ (l : List Nat) (vs : List Value), vs.length = l.length → (∀ (j : Nat) (v : Value), vs[j]? = some v → ∃ c u, l[j]? = some c ∧ v = .str ⟨#[c]⟩ u) → Vals (l.map fun c => V.str ⟨#[c]⟩) vs
  | [], [], _, _ => .nil
  | [], _ :: _, h, _ => by simp at h
  | _ :: _, [], h, _ => by simp at h
  | c :: l, v :: vs, h, k => by
    obtain ⟨c', u, e, rfl⟩ := k 0 v rfl
    cases e
    exact .cons ⟨u, rfl⟩ (vals_signs l vs (by simpa using h) fun j v e => k (j + 1) v e)
theorem call_signs {X : Cx} (hc : X.calm = true) : CallR X (.type "list") (fun xs H Q => ∃ x : Str, xs = [.str x] ∧ x.cps.size ≤ 1000 ∧ ∀ p, H p = none → Q (.ref p) (upd H p (.lst (x.cps.toList.map fun c => V.str ⟨#[c]⟩)))) := by
  intro pins s σ H xs us Q I r h
  obtain ⟨x, rfl, hz, q⟩ := h
  obtain ⟨u, rfl, t, rfl⟩ := vals1 r
  have hz' : x.cps.size ≤ sizeLine := small hz
  refine call_list_str (I.ok.hd hc) x t (fun h' tk acc' c' hk hS hacc => ?_) hz'
  have hv : Vals (x.cps.toList.map fun c => V.str ⟨#[c]⟩) acc'.toList := vals_signs _ _ (by rw [Array.length_toList, Array.length_toList]; exact hacc.1) fun j v e => by
    obtain ⟨c, u, h1, h2⟩ := hacc.2 j v (by rw [← Array.getElem?_toList]; exact e)
    exact ⟨c, u, by rw [Array.getElem?_toList]; exact h1, h2⟩
  exact ⟨.ref s.heap.objs.size, _, I.laid (t' := tk) hk (Nat.le_refl _) (show ObjOk X.prog X.w _ h' _ (.lst _) from ⟨by rw [List.length_map, Array.length_toList]; exact hz', acc'.toList, c', hv, by rw [Array.toArray_toList]; exact hS⟩), rfl, q _ (I.hok.fresh (Nat.le_refl _))⟩
/-! ### _law_letters -/
theorem erase_map {α β : Type} (f : α → β) : ∀ (l : List α) (i : Nat), (l.map f).eraseIdx i = (l.eraseIdx i).map f
  | [], _ => rfl
  | _ :: _, 0 => rfl
  | x :: l, i + 1 => congrArg (f x :: ·) (erase_map f l i)
def Ltr (x : Str) : Prop := ∃ c : Nat, 97 ≤ c ∧ c ≤ 122 ∧ x = ⟨#[c]⟩
def abc : List Str := (List.range 26).map fun c => ⟨#[c + 97]⟩
theorem abc_ltr : ∀ x ∈ abc, Ltr x := fun x h => by
  unfold abc at h
  obtain ⟨c, hc, rfl⟩ := List.mem_map.mp h
  have := List.mem_range.mp hc
  exact ⟨c + 97, by omega, by omega, rfl⟩
theorem abc_is : ((Str.ofString "abcdefghijklmnopqrstuvwxyz").cps.toList.map fun c => V.str ⟨#[c]⟩) = abc.map V.str := by decide +kernel
theorem abc_len : abc.length = 26 := by decide +kernel
theorem scLett : FnScope ["_law_deck_here", "_law_size", "_law_way", "_law_some", "_law_found", "_law_k"] ["_law_deck_here", "_law_size"] (defScope sLett) := ⟨rfl, rfl, rfl, by decide +kernel, rfl, by decide +kernel, by decide +kernel⟩
def spLett : Sp := fun vs H Q _ => ∃ (D : Deck) (n m : Nat), vs = [.ref D.dk, .int (m : Int)] ∧ DeckOk H D n ∧ n + m + 1 ≤ 1000000 ∧ 1 ≤ m ∧ m ≤ 26 ∧ ∀ (p : Addr) (xs : List Str) (n' : Nat) (H' : Hp), DeckOk H' D n' → n' ≤ n + m + 1 → SameD D H H' →
  H' p = some (.lst (xs.map V.str)) → xs.length = m → (∀ x ∈ xs, Ltr x) → Off D p → Q (.ref p) H'
section
variable {P : Program} {w : World} {K : PySem.W.Frag} {mg : Str → Option Value} {base : Heap} {f fN : Addr} {fd fdN : FuncData}
theorem ok_lett {k : Nat} (F : Fun K "_law_letters" "_law_letters" sLett f fd) (G : FnOk P w K mg base CX0 k fN fdN ["_law_deck_here", "_law_many"] spNext) (bN : Binds K fdN ["_law_deck_here", "_law_many"] []) (kN : PySem.W.keepIn K (.ref fN) = true) (gN : mg "_law_next" = some (.ref fN)) (M : Mgs mg) (ms : mg "sorted" = none) :
    FnOk P w K mg base CX0 (k + 1) f fd ["_law_deck_here", "_law_size"] spLett := by
  refine F.ok scLett (fun vs H Q E h => ?_) (fun cdv A outer s H vs Q E hr h => ?_)
  · obtain ⟨D, n, m, rfl, _⟩ := h
    rfl
  obtain ⟨D, n, m, rfl, d, hn, m0, m1, q⟩ := h
  refine ⟨_, pss_cons (ps_asg (pe_tup (pa_cons (pe_call G hr rfl gN kN bN .nil pass0 (pa_cons (pv 0) (pa_cons pe_int pa_nil))) (pa_cons (pe_callTy (call_signs rfl) rfl M.list (by decide +kernel) (pa_cons pe_str pa_nil)) pa_nil))) (pg_tup rfl (pgs_cons (pg_name (i := 2) scLett.nd rfl (.inl rfl)) (pgs_cons (pg_name (i := 3) scLett.nd rfl (.inr rfl)) pgs_nil))))
    (pss_cons (ps_if (pt_cmpR op_eq (pv 2) pe_int (nomark _)) (pss_one (ps_ret (pe_op op_rep (pe_lst (pa_cons (pe_ix ix_list (pv 3) (pe_call G hr rfl gN kN bN .nil pass0 (pa_cons (pv 0) (pa_cons pe_int pa_nil))) (fun _ _ => rfl)) pa_nil)) (pv 1)))) pss_nil)
    (pss_cons (ps_if (pt_cmpR op_eq (pv 2) pe_int (nomark _)) (pss_one (ps_ret (pe_lc (own := [("_law_k", 5)]) (g := gName 5) (tt := tYes) rfl scLett.nd (pi_range1 rfl M.range (pa_cons (pv 1) pa_nil)) (blkOk_by (N := ["_law_deck_here", "_law_size", "_law_way", "_law_some", "_law_found", "_law_k"]) (sc := defScope sLett) (by decide +kernel))
        (fun _ _ _ _ _ => pg_name (i := 5) scLett.nd rfl (Or.inl rfl)) (fun _ _ _ _ _ => pts_nil) (fun _ _ _ _ _ => pe_ix (show IxR _ (rIxL K) from ix_list) (pv 3) (pe_call G hr rfl gN kN bN .nil pass0 (pa_cons (pv 0) (pa_cons pe_int pa_nil))) (fun _ _ => rfl))))) pss_nil)
    (pss_cons (ps_set (i := 4) scLett.nd rfl (.inl rfl) (pe_lst pa_nil))
    (pss_cons (ps_while PassesOwn.never (pt_cmpR op_lt (pe_callB call_len_seq rfl M.len PySem.boot_len (pa_cons (pv 4) pa_nil)) (pv 1) (nomark _))
      (pss_one (ps_expr (pe_bm PySem.F.plainAttrs_list PySem.F.slot_list_append PySem.F.type_list_append mt_append (pv 4) (pa_cons
        (pe_bm PySem.F.plainAttrs_list PySem.F.slot_list_pop PySem.F.type_list_pop mt_popAt (pv 3) (pa_cons (pe_call G hr rfl gN kN bN .nil pass0 (pa_cons (pv 0) (pa_cons (pe_callB call_len_seq rfl M.len PySem.boot_len (pa_cons (pv 3) pa_nil)) pa_nil))) pa_nil)) pa_nil)))))
    (pss_one (ps_ret (pe_ifExp (pt_cmpR op_eq (pv 2) pe_int (nomark _)) (pv 4) (pe_callB cr_sortedS rfl ms (by decide +kernel) (pa_cons (pv 4) pa_nil))))))))), ?_⟩
  refine ⟨_, rfl, D, n, 4, rfl, d, by omega, by decide, by decide, fun wy H1 w0 w1 d1 s1 => ?_⟩
  refine ⟨_, rfl, by decide +kernel, fun sa nsa => ⟨(by show 2 ≤ sizeLine; decide), fun tp ntp => ?_⟩⟩
  rw [abc_is] at ntp ⊢
  refine ⟨tp, _, rfl, SqT.of upd_same, rfl, _, _, rfl, _, _, rfl, rfl, ?_⟩
  have q1 := same_new nsa (.lst (abc.map V.str))
  have q2 := same_new ntp (.tup [.int wy, .ref sa])
  have d2 := (d1.same q1).same q2
  have sd : SameD D H (upd (upd H1 sa (.lst (abc.map V.str))) tp (.tup [.int wy, .ref sa])) := s1.trans (.of (q1.trans q2))
  have esa : (upd (upd H1 sa (.lst (abc.map V.str))) tp (.tup [.int wy, .ref sa])) sa = some (.lst (abc.map V.str)) := q2 _ _ upd_same
  have nsaH : H sa = none := s1.free d1 nsa
  have na := d1.new nsa
  generalize upd (upd H1 sa (.lst (abc.map V.str))) tp (.tup [.int wy, .ref sa]) = H2 at d2 sd esa
  have al := abc_len
  have abcI : ∀ i : Int, 0 ≤ i → i < 26 → ∃ x, atI (abc.map V.str) i = some (.str x) ∧ Ltr x := fun i h0 h1 => by
    have hl : i.toNat < abc.length := by omega
    exact ⟨abc[i.toNat], at_map h0 (List.getElem?_eq_getElem hl), abc_ltr _ (List.getElem_mem hl)⟩
  -- way == 2
  refine ⟨_, rfl, rfl, _, rfl, ite2 (fun _ => ?_) (fun _ => ?_)⟩
  · refine ⟨_, rfl, _, rfl, D, n + 1, 26, rfl, d2, by omega, by decide, by decide, fun i H3 i0 i1 d3 s3 => ?_⟩
    obtain ⟨x, hx, lx⟩ := abcI i i0 i1
    refine ⟨sa, _, _, _, rfl, rfl, SqL.of (s3.at na esa), hx, (by show 1 ≤ sizeLine; decide), fun l nl => ?_⟩
    refine ⟨_, rfl, l, _, _, rfl, rfl, upd_same, by omega, by omega, ?_, fun p np => ?_⟩
    · rw [Int.toNat_natCast]
      exact small (by show 1 * m ≤ 1000; omega)
    rw [Int.toNat_natCast]
    rw [rep_flat, ← List.map_replicate]
    have q3 := same_new nl (.lst [.str x])
    have q4 := same_new np (.lst ((List.replicate m x).map V.str))
    have d5 := (d3.same q3).same q4
    have nd := (d3.same q3).new np
    refine q p (List.replicate m x) (n + 1 + 1) _ d5 (by omega) (sd.trans (s3.trans (.of (q3.trans q4)))) upd_same (List.length_replicate) (fun y hy => ?_) nd
    rw [List.eq_of_mem_replicate hy]
    exact lx
  -- way == 3
  refine ⟨_, rfl, rfl, _, rfl, ite2 (fun _ => ?_) (fun _ => ?_)⟩
  · refine ⟨_, rfl, _, rfl, by omega, by omega, fun L nL => ?_⟩
    have nd := d2.new nL
    rw [Int.toNat_natCast]
    refine lc_range (lo := 0) (n := m) (fun i H' => ∃ n', DeckOk H' D n' ∧ n' ≤ n + 1 + i ∧ SameD D H2 H' ∧ ∃ xs : List Str, xs.length = i ∧ (∀ x ∈ xs, Ltr x) ∧ H' L = some (.lst (xs.map V.str))) ⟨n + 1, d2.same (same_new nL _), by omega, .of (same_new nL _), [], rfl, (fun _ h => nomatch h), upd_same⟩ (fun i H' hi hp => ?_) (fun H' hp => ?_)
    · obtain ⟨n', d', hn', s', xs, hxl, hxs, eL⟩ := hp
      refine ⟨rfl, kept ?_⟩
      refine ⟨_, rfl, _, rfl, D, n', 2, rfl, d', by omega, by decide, by decide, fun j H4 j0 j1 d4 s4 => ?_⟩
      obtain ⟨x, hx, lx⟩ := abcI j j0 (by omega)
      have e4 := s4.at nd eL
      refine ⟨sa, _, _, _, rfl, rfl, SqL.of (s4.at na (s'.at na esa)), hx, _, e4, by rw [List.length_map]; exact small1000 (by omega), n' + 1, d4.put nd _, by omega, (s'.trans s4).put nL _, xs ++ [x], by rw [List.length_append, hxl]; rfl, fun y hy => ?_, ?_⟩
      · rcases List.mem_append.mp hy with h | h
        · exact hxs y h
        · rw [List.mem_singleton.mp h]
          exact lx
      · rw [upd_same, List.map_append]
        rfl
    · obtain ⟨n', d', hn', s', xs, hxl, hxs, eL⟩ := hp
      exact q L xs n' H' d' (by omega) (sd.trans s') eL hxl hxs nd
  refine ⟨(by show 0 ≤ sizeLine; decide), fun fa nfa => ?_⟩
  have nf := d2.new nfa
  have nsf : sa ≠ fa := ne_of_none esa nfa
  have nfH : H fa = none := sd.free d2 nfa
  refine while_by (fun σ H' => σ = [some (.ref D.dk), some (.int (m : Int)), some (.int wy), some (.ref sa), some (.ref fa), none] ∧ ∃ (n' : Nat) (xs rest : List Str), DeckOk H' D n' ∧ n' ≤ n + 1 + xs.length ∧ SameD D H H' ∧ xs.length ≤ m ∧ xs.length + rest.length = 26 ∧ (∀ x ∈ xs, Ltr x) ∧ (∀ x ∈ rest, Ltr x) ∧ H' fa = some (.lst (xs.map V.str)) ∧ H' sa = some (.lst (rest.map V.str)))
    (fun σ H' => match H' fa with | some (.lst xs) => m - xs.length | _ => 0) ⟨rfl, n + 1, [], abc, d2.put nf _, by omega, sd.put nfH _, Nat.zero_le _, by rw [al]; rfl, (fun _ h => nomatch h), abc_ltr, upd_same, by rw [upd_ne nsf]; exact esa⟩ (fun σ H' hp => ?_) ?_
  · obtain ⟨rfl, n', xs, rest, d', hn', s', hm, h26, hxs, hrs, ef, es⟩ := hp
    refine ⟨_, rfl, fa, _, rfl, .inl (SqL.of ef), _, rfl, _, _, rfl, rfl, _, rfl, ite2 (fun c => ?_) (fun c => ?_)⟩
    · have c' : ((xs.map V.str).length : Int) < (m : Int) := of_decide_eq_true c
      rw [List.length_map] at c'
      refine ⟨.ref fa, rfl, .inl ⟨rfl, _, SqL.of ef⟩, .ref sa, rfl, .inl ⟨rfl, _, SqL.of es⟩, _, rfl, _, rfl, sa, _, rfl, .inl (SqL.of es), D, n', _, rfl, d', by omega, ?_, ?_, fun j H4 j0 j1 d4 s4 => ?_⟩
      · rw [List.length_map]; omega
      · rw [List.length_map]; omega
      rw [List.length_map] at j1
      have hj : j.toNat < rest.length := by omega
      have es4 := s4.at na es
      have ef4 := s4.at nf ef
      refine ⟨sa, _, j, j.toNat, .str rest[j.toNat], rfl, rfl, es4, by omega, by omega, ?_, ?_, ?_⟩
      · exact (ixN_seq (ixN_nat j0 (by rw [List.length_map]; omega))).1
      · rw [List.getElem?_map, List.getElem?_eq_getElem hj]; rfl
      have ef5 : (upd H4 sa (.lst ((rest.map V.str).eraseIdx j.toNat))) fa = some (.lst (xs.map V.str)) := by rw [upd_ne nsf.symm]; exact ef4
      refine ⟨fa, _, _, rfl, rfl, ef5, by rw [List.length_map]; exact small1000 (by omega), ?_⟩
      refine ⟨⟨rfl, n' + 1, xs ++ [rest[j.toNat]], rest.eraseIdx j.toNat, (d4.put na _).put nf _, ?_, ((s'.trans s4).put nsaH _).put nfH _, ?_, ?_, fun y hy => ?_, fun y hy => hrs y (List.mem_of_mem_eraseIdx hy), ?_, ?_⟩, ?_⟩
      · rw [List.length_append]
        show n' + 1 ≤ n + 1 + (xs.length + 1)
        omega
      · rw [List.length_append]
        show xs.length + 1 ≤ m
        omega
      · rw [List.length_append, List.length_eraseIdx_of_lt hj]
        show xs.length + 1 + (rest.length - 1) = 26
        omega
      · rcases List.mem_append.mp hy with h | h
        · exact hxs y h
        · rw [List.mem_singleton.mp h]
          exact hrs _ (List.getElem_mem hj)
      · rw [upd_same, List.map_append]
        rfl
      · rw [upd_ne nsf, upd_same, erase_map]
      · show (match (upd (upd H4 sa _) fa (.lst (xs.map V.str ++ [V.str rest[j.toNat]]))) fa with | some (.lst xs) => m - xs.length | _ => 0) < (match H' fa with | some (.lst xs) => m - xs.length | _ => 0)
        rw [upd_same, ef]
        show m - (xs.map V.str ++ [V.str rest[j.toNat]]).length < m - (xs.map V.str).length
        rw [List.length_append, List.length_map]
        show m - (xs.length + 1) < m - xs.length
        omega
    · have c' : ¬ ((xs.map V.str).length : Int) < (m : Int) := of_decide_eq_false (Bool.eq_false_iff.mpr c)
      rw [List.length_map] at c'
      have hlen : xs.length = m := by omega
      refine ⟨_, rfl, rfl, _, rfl, ite2 (fun _ => ?_) (fun _ => ?_)⟩
      · exact ⟨_, rfl, q fa xs n' H' d' (by omega) s' ef hlen hxs nf⟩
      · refine ⟨_, rfl, fa, xs, rfl, SqL.of ef, by omega, fun ys p pm _ np => ?_⟩
        exact q p ys n' _ (d'.same (same_new np _)) (by omega) (s'.trans (.of (same_new np _))) upd_same (by rw [pm.length_eq]; exact hlen) (fun x hx => hxs x (pm.mem_iff.mp hx)) (d'.new np)
  · intro σ H' Q1 Q2 hQ h
    obtain ⟨v, e, p, ys, e2, e3, v2, e4, i, j, e5, e6, k, e7, q7⟩ := h
    exact ⟨v, e, p, ys, e2, e3, v2, e4, i, j, e5, e6, k, e7, hQ _ _ q7⟩
end
/-! ### _law_grown -/
def T.btw : T → List Str
  | .nil => []
  | .node l x r => l.btw ++ x :: r.btw
theorem T.btw_len : ∀ t : T, t.btw.length = t.size
  | .nil => rfl
  | .node l x r => by
    have h1 := l.btw_len
    have h2 := r.btw_len
    show (l.btw ++ x :: r.btw).length = l.size + 1 + r.size
    rw [List.length_append, List.length_cons]
    omega
theorem scGrown : FnScope ["_law_deck_here", "_law_size", "_law_way", "_law_letters_here", "_law_many", "_law_left"] ["_law_deck_here", "_law_size", "_law_way", "_law_letters_here"] (defScope sGrown) := ⟨rfl, rfl, rfl, by decide +kernel, rfl, by decide +kernel, by decide +kernel⟩
def spGrown (n : Nat) : Sp := fun vs H Q _ => ∃ (D : Deck) (c : Nat) (way : Int) (p : Addr) (xs : List Str), vs = [.ref D.dk, .int (xs.length : Int), .int way, .ref p] ∧ DeckOk H D c ∧ c + xs.length ≤ 1000000 ∧ xs.length < n ∧ xs.length ≤ 1000 ∧ 0 ≤ way ∧ way ≤ 4 ∧
  H p = some (.lst (xs.map V.str)) ∧ Off D p ∧ ∀ (v : V) (t : T) (c' : Nat) (H' : Hp), DeckOk H' D c' → c' ≤ c + xs.length → SameD D H H' → TreeAt H' v t → t.btw = xs → Q v H'
theorem pick_many {z : Int} {i way : Int} (z1 : 1 ≤ z) (i0 : 0 ≤ i) (i1 : i < z) (w0 : 0 ≤ way) (w1 : way ≤ 4) : ∃ m : Nat, atI [V.int i, V.int (z - 1), V.int 0, V.int ((z - 1) * (z % 2)), V.int ((z - 1) / 2)] way = some (.int (m : Int)) ∧ (m : Int) < z := by
  have h : way = ((0 : Nat) : Int) ∨ way = ((1 : Nat) : Int) ∨ way = ((2 : Nat) : Int) ∨ way = ((3 : Nat) : Int) ∨ way = ((4 : Nat) : Int) := by omega
  rcases h with rfl | rfl | rfl | rfl | rfl
  · exact ⟨i.toNat, by rw [Int.toNat_of_nonneg i0]; exact atI_nat rfl, by omega⟩
  · exact ⟨(z - 1).toNat, by rw [Int.toNat_of_nonneg (by omega)]; exact atI_nat rfl, by omega⟩
  · exact ⟨0, atI_nat rfl, by omega⟩
  · have h2 : z % 2 = 0 ∨ z % 2 = 1 := by omega
    rcases h2 with e | e
    · exact ⟨0, by rw [e, Int.mul_zero]; exact atI_nat rfl, by omega⟩
    · exact ⟨(z - 1).toNat, by rw [e, Int.mul_one, Int.toNat_of_nonneg (by omega)]; exact atI_nat rfl, by omega⟩
  · exact ⟨((z - 1) / 2).toNat, by rw [Int.toNat_of_nonneg (by omega)]; exact atI_nat rfl, by omega⟩
section
variable {P : Program} {w : World} {K : PySem.W.Frag} {mg : Str → Option Value} {base : Heap} {f fN : Addr} {fd fdN : FuncData}
theorem ok_grown (F : Fun K "_law_grown" "_law_grown" sGrown f fd) (b : Binds K fd ["_law_deck_here", "_law_size", "_law_way", "_law_letters_here"] []) (g : mg "_law_grown" = some (.ref f))
    (GN : FnOk P w K mg base CX0 1 fN fdN ["_law_deck_here", "_law_many"] spNext) (bN : Binds K fdN ["_law_deck_here", "_law_many"] []) (kN : PySem.W.keepIn K (.ref fN) = true) (gN : mg "_law_next" = some (.ref fN)) :
    ∀ n : Nat, FnOk P w K mg base CX0 (n + 1) f fd ["_law_deck_here", "_law_size", "_law_way", "_law_letters_here"] (spGrown n)
  | 0 => by
    have no : ∀ vs H Q E, ¬ spGrown 0 vs H Q E := fun vs H Q E h => by
      obtain ⟨D, c, way, p, xs, _, _, _, h1, _⟩ := h
      omega
    exact ⟨fun vs H Q E h => absurd h (no vs H Q E), fun A outer s H args us vs Q E _ _ _ _ h => absurd h (no vs H Q E)⟩
  | n + 1 => by
    have G := ok_grown F b g GN bN kN gN n
    refine F.ok scGrown (fun vs H Q E h => ?_) (fun cdv A outer s H vs Q E hr h => ?_)
    · obtain ⟨D, c, way, p, xs, rfl, _⟩ := h
      rfl
    obtain ⟨D, c, way, p, xs, rfl, d, hc, hn, hx, w0, w1, ep, op, q⟩ := h
    have hr1 : Room 1 (A.deeper (envOfC "_law_grown" (defScope sGrown) s.heap.objs.size f cdv)) := hr.mono (by omega)
    refine ⟨_, pss_cons (ps_if (pt_cmpR op_eq (pv 1) pe_int (nomark _)) (pss_one (ps_ret pe_non)) pss_nil)
      (pss_cons (ps_set (i := 4) scGrown.nd rfl (.inl rfl) (pe_ix ix_list (pe_lst (pa_cons (pe_call GN hr1 rfl gN kN bN .nil pass0 (pa_cons (pv 0) (pa_cons (pv 1) pa_nil))) (pa_cons (pe_op op_sub (pv 1) pe_int) (pa_cons pe_int
          (pa_cons (pe_op op_mul (pe_op op_sub (pv 1) pe_int) (pe_op op_mod (pv 1) pe_int)) (pa_cons (pe_op op_fdiv (pe_op op_sub (pv 1) pe_int) pe_int) pa_nil)))))) (pv 2) (fun _ _ => rfl)))
      (pss_cons (ps_set (i := 5) scGrown.nd rfl (.inl rfl) (pe_call G hr rfl g F.kp b .nil pass0 (pa_cons (pv 0) (pa_cons (pv 4) (pa_cons (pv 2) (pa_cons (pe_slice sl_list (pv 3) po_none (po_some (pv 4))) pa_nil))))))
      (pss_one (ps_ret (pe_tup (pa_cons (pv 5) (pa_cons (pe_ix ix_list (pv 3) (pv 4) (fun _ _ => rfl)) (pa_cons
        (pe_call G hr rfl g F.kp b .nil pass0 (pa_cons (pv 0) (pa_cons (pe_op op_sub (pe_op op_sub (pv 1) pe_int) (pv 4)) (pa_cons (pv 2) (pa_cons (pe_slice sl_list (pv 3) (po_some (pe_op op_add (pv 4) pe_int)) po_none) pa_nil))))) pa_nil)))))))), ?_⟩
    refine ⟨_, rfl, rfl, _, rfl, ite2 (fun e => ?_) (fun e => ?_)⟩
    · have e0 : (xs.length : Int) = 0 := V.int.inj (of_decide_eq_true e)
      have ex : xs = [] := List.eq_nil_of_length_eq_zero (by omega)
      exact q .non .nil c H d (by omega) (SameD.refl D H) .nil (by rw [ex]; rfl)
    · have e0 : ¬ (xs.length : Int) = 0 := fun z => e (decide_eq_true (congrArg V.int z))
      have x1 : (1 : Int) ≤ (xs.length : Int) := by omega
      refine ⟨_, rfl, _, rfl, D, c, _, rfl, d, by omega, by omega, by omega, fun i H1 i0 i1 d1 s1 => ?_⟩
      refine ⟨_, rfl, _, _, rfl, rfl, _, rfl, _, _, rfl, rfl, _, rfl, _, _, rfl, rfl, (show (0 : Int) < 2 by decide), _, _, rfl, rfl, .inl ⟨by omega, by omega⟩, ?_⟩
      refine ⟨_, rfl, _, _, rfl, rfl, _, _, rfl, rfl, ⟨by decide, by decide⟩, (by show 5 ≤ sizeLine; decide), fun l nl => ?_⟩
      obtain ⟨m, hm, ml⟩ := pick_many x1 i0 i1 w0 w1
      refine ⟨_, rfl, l, _, _, _, rfl, rfl, SqL.of upd_same, hm, ?_⟩
      have q1 := same_new nl (.lst [V.int i, V.int ((xs.length : Int) - 1), V.int 0, V.int (((xs.length : Int) - 1) * ((xs.length : Int) % 2)), V.int (((xs.length : Int) - 1) / 2)])
      have d2 := d1.same q1
      have s2 := s1.trans (SameD.of q1)
      have ep2 := s2.at op ep
      -- left
      refine ⟨_, rfl, _, rfl, _, rfl, _, rfl, _, rfl, _, rfl, p, _, rfl, SqL.of ep2, fun p1 np1 => ?_⟩
      rw [cut_to, ← List.map_take] at *
      have lt : (xs.take m).length = m := by rw [List.length_take]; omega
      have q2 := same_new np1 (.lst ((xs.take m).map V.str))
      have d3 := d2.same q2
      have s3 := s2.trans (SameD.of q2)
      refine ⟨D, c + 1, way, p1, xs.take m, by rw [lt]; rfl, d3, by omega, by omega, by omega, w0, w1, upd_same, d2.new np1, fun v1 t1 c1 H3 d4 hc1 s4 at1 bt1 => ?_⟩
      have ep4 := (s3.trans s4).at op ep
      have hm' : m < xs.length := by omega
      have am : atI (xs.map V.str) ((m : Nat) : Int) = some (.str xs[m]) := at_map (by omega) (by rw [Int.toNat_natCast]; exact List.getElem?_eq_getElem hm')
      refine ⟨_, rfl, _, rfl, _, rfl, p, _, _, _, rfl, rfl, SqL.of ep4, am, ?_⟩
      refine ⟨_, rfl, _, rfl, _, _, rfl, rfl, _, rfl, _, _, rfl, rfl, _, rfl, _, rfl, _, rfl, _, _, rfl, rfl, _, rfl, p, _, rfl, SqL.of ep4, fun p2 np2 => ?_⟩
      have em : ((m : Nat) : Int) + 1 = ((m + 1 : Nat) : Int) := by omega
      rw [show cutV (xs.map V.str) (some (((m : Nat) : Int) + 1)) none = (xs.drop (m + 1)).map V.str by rw [em, cut_from, List.map_drop]]
      have ld : (xs.drop (m + 1)).length = xs.length - 1 - m := by rw [List.length_drop]; omega
      have ldi : (((xs.drop (m + 1)).length : Nat) : Int) = (xs.length : Int) - 1 - (m : Int) := by rw [ld]; omega
      have q3 := same_new np2 (.lst ((xs.drop (m + 1)).map V.str))
      have d5 := d4.same q3
      refine ⟨D, c1, way, p2, xs.drop (m + 1), by rw [ldi]; rfl, d5, by omega, by omega, by omega, w0, w1, upd_same, d4.new np2, fun v2 t2 c2 H4 d6 hc2 s5 at2 bt2 => ?_⟩
      refine ⟨(by show 3 ≤ sizeLine; decide), fun r nr => ?_⟩
      have q4 := same_new nr (.tup [v1, .str xs[m], v2])
      refine q (.ref r) (.node t1 xs[m] t2) c2 _ (d6.same q4) (by omega) (s3.trans (s4.trans ((SameD.of q3).trans (s5.trans (SameD.of q4))))) (.node upd_same ?_ (at2.same q4)) ?_
      · exact ((at1.same q3).keep (s5.keepT d5)).same q4
      · show t1.btw ++ xs[m] :: t2.btw = xs
        rw [bt1, bt2]
        rw [← List.drop_eq_getElem_cons hm', List.take_append_drop]
end
/-! ### _law_tree -/
theorem scTree : FnScope ["_law_deck_here", "_law_limit", "_law_size", "_law_way"] ["_law_deck_here", "_law_limit"] (defScope sTree) := ⟨rfl, rfl, rfl, by decide +kernel, rfl, by decide +kernel, by decide +kernel⟩
def spTree : Sp := fun vs H Q _ => ∃ (D : Deck) (n lim : Nat), vs = [.ref D.dk, .int (lim : Int)] ∧ DeckOk H D n ∧ n + 2 * lim + 10 ≤ 1000000 ∧ 1 ≤ lim ∧ lim ≤ 26 ∧
  ∀ (v : V) (t : T) (n' : Nat) (H' : Hp), DeckOk H' D n' → n' ≤ n + 2 * lim + 3 → SameD D H H' → TreeAt H' v t → 1 ≤ t.size → t.size ≤ lim → (∀ x ∈ t.btw, Ltr x) → Q v H'
theorem pick_way {i : Int} (i0 : 0 ≤ i) (i1 : i < 7) : ∃ z : Int, atI [V.int 0, V.int 0, V.int 0, V.int 1, V.int 2, V.int 3, V.int 4] i = some (.int z) ∧ 0 ≤ z ∧ z ≤ 4 := by
  have h : i = ((0 : Nat) : Int) ∨ i = ((1 : Nat) : Int) ∨ i = ((2 : Nat) : Int) ∨ i = ((3 : Nat) : Int) ∨ i = ((4 : Nat) : Int) ∨ i = ((5 : Nat) : Int) ∨ i = ((6 : Nat) : Int) := by omega
  rcases h with rfl | rfl | rfl | rfl | rfl | rfl | rfl
  · exact ⟨0, atI_nat rfl, by decide, by decide⟩
  · exact ⟨0, atI_nat rfl, by decide, by decide⟩
  · exact ⟨0, atI_nat rfl, by decide, by decide⟩
  · exact ⟨1, atI_nat rfl, by decide, by decide⟩
  · exact ⟨2, atI_nat rfl, by decide, by decide⟩
  · exact ⟨3, atI_nat rfl, by decide, by decide⟩
  · exact ⟨4, atI_nat rfl, by decide, by decide⟩
section
variable {P : Program} {w : World} {K : PySem.W.Frag} {mg : Str → Option Value} {base : Heap} {f fN fL fG : Addr} {fd fdN fdL fdG : FuncData}
theorem ok_tree (F : Fun K "_law_tree" "_law_tree" sTree f fd)
    (GN : FnOk P w K mg base CX0 1 fN fdN ["_law_deck_here", "_law_many"] spNext) (bN : Binds K fdN ["_law_deck_here", "_law_many"] []) (kN : PySem.W.keepIn K (.ref fN) = true) (gN : mg "_law_next" = some (.ref fN))
    (GL : FnOk P w K mg base CX0 2 fL fdL ["_law_deck_here", "_law_size"] spLett) (bL : Binds K fdL ["_law_deck_here", "_law_size"] []) (kL : PySem.W.keepIn K (.ref fL) = true) (gL : mg "_law_letters" = some (.ref fL))
    (GG : FnOk P w K mg base CX0 28 fG fdG ["_law_deck_here", "_law_size", "_law_way", "_law_letters_here"] (spGrown 27)) (bG : Binds K fdG ["_law_deck_here", "_law_size", "_law_way", "_law_letters_here"] []) (kG : PySem.W.keepIn K (.ref fG) = true) (gG : mg "_law_grown" = some (.ref fG)) :
    FnOk P w K mg base CX0 29 f fd ["_law_deck_here", "_law_limit"] spTree := by
  refine F.ok scTree (fun vs H Q E h => ?_) (fun cdv A outer s H vs Q E hr h => ?_)
  · obtain ⟨D, n, m, rfl, _⟩ := h
    rfl
  obtain ⟨D, n, lim, rfl, d, hn, l0, l1, q⟩ := h
  have hr1 : Room 1 (A.deeper (envOfC "_law_tree" (defScope sTree) s.heap.objs.size f cdv)) := hr.mono (by omega)
  have hr2 : Room 2 (A.deeper (envOfC "_law_tree" (defScope sTree) s.heap.objs.size f cdv)) := hr.mono (by omega)
  refine ⟨_, pss_cons (ps_par (i := 2) (j := 3) (by rfl) scTree.nd rfl rfl (by decide) rfl rfl (pa_cons (pe_op op_add pe_int (pe_call GN hr1 rfl gN kN bN .nil pass0 (pa_cons (pv 0) (pa_cons (pv 1) pa_nil))))
      (pa_cons (pe_ix ix_list (pe_lst (pa_cons pe_int (pa_cons pe_int (pa_cons pe_int (pa_cons pe_int (pa_cons pe_int (pa_cons pe_int (pa_cons pe_int pa_nil)))))))) (pe_call GN hr1 rfl gN kN bN .nil pass0 (pa_cons (pv 0) (pa_cons pe_int pa_nil))) (fun _ _ => rfl)) pa_nil)) (by rfl))
    (pss_one (ps_ret (pe_call GG hr rfl gG kG bG .nil pass0 (pa_cons (pv 0) (pa_cons (pv 2) (pa_cons (pv 3) (pa_cons (pe_call GL hr2 rfl gL kL bL .nil pass0 (pa_cons (pv 0) (pa_cons (pv 2) pa_nil))) pa_nil))))))), ?_⟩
  refine ⟨_, rfl, _, rfl, D, n, _, rfl, d, by omega, by omega, by omega, fun i H1 i0 i1 d1 s1 => ?_⟩
  refine ⟨_, _, rfl, rfl, (by show 7 ≤ sizeLine; decide), fun l nl => ?_⟩
  have q1 := same_new nl (.lst [V.int 0, V.int 0, V.int 0, V.int 1, V.int 2, V.int 3, V.int 4])
  refine ⟨_, rfl, D, n + 1, 7, rfl, d1.same q1, by omega, by decide, by decide, fun j H2 j0 j1 d2 s2 => ?_⟩
  obtain ⟨z, hz, z0, z4⟩ := pick_way j0 j1
  refine ⟨l, _, _, _, rfl, rfl, SqL.of (s2.at (d1.new nl) upd_same), hz, ?_⟩
  refine ⟨_, _, rfl, ?_⟩
  have ei : (1 : Int) + i = (((1 + i).toNat : Nat) : Int) := by omega
  have s3 := s1.trans ((SameD.of q1).trans s2)
  refine ⟨_, rfl, _, rfl, _, rfl, _, rfl, _, rfl, D, n + 2, (1 + i).toNat, by rw [← ei]; rfl, d2, by omega, by omega, by omega, fun p xs n3 H3 d3 hn3 s4 ep hxl hxs op => ?_⟩
  refine ⟨D, n3, z, p, xs, by rw [hxl, ← ei]; rfl, d3, by omega, by omega, by omega, z0, z4, ep, op, fun v t c' H4 d4 hc' s5 at4 bt => ?_⟩
  have hs := t.btw_len
  rw [bt] at hs
  exact q v t c' H4 d4 (by omega) (s3.trans (s4.trans s5)) at4 (by omega) (by omega) (by rw [bt]; exact hxs)
end
/-! ### a def entered at one caller -/
theorem enter_def {P : Program} {w : World} {K : PySem.W.Frag} {mg : Str → Option Value} {base : Heap} {f : Addr} {fd : FuncData} {N ps : List Str} {k : Nat} {x qual : Str} {st : Stmt} (F : Fun K x qual st f fd) (S : FnScope N ps (defScope st))
    {A : Around} {outer : List Env} {s : Shared} {H : Hp} {args : Args} {us : List Value} {vs : List V} {Q : VK} {E : XK}
    (room : Room (k + 1) A) (en : Env0 P w K mg base A outer s H) (bd : BindsTo s fd args (ps.zip us)) (rel : Vals vs us) (hln : vs.length = ps.length)
    (body : ∀ cdv : Value, Room k (A.deeper (envOfC qual (defScope st) s.heap.objs.size f cdv)) →
      ∃ t, PSs (cxOf CX0 P w K mg base N qual (defScope st) f cdv A outer s H E).nox (defBody st) t ∧ t { nx := fun _ H' => Q .non H', rt := Q } (start N vs) H) :
    codeAny (model P w) A (.call (.ref f) args) (CR CX0 outer P w H s Q E) s := by
  obtain ⟨oc, od, kV, doc, pm, an, cdv, ct, osl, rfl, look, code⟩ := F.ex
  have still : ∀ b o, base.get? b = some o → s.heap.get? b = some o := fun b o e => (en.bs b o e).1
  have inK : K.In s.heap := en.mod.kin.keeps still
  have noL : s.heap.NoLimit := en.mod.nolimit.keeps still
  have kinds : ∀ y ∈ ps.zip us, (defScope st).names.lookup y.1 = some .local ∨
      ((defScope st).names.lookup y.1 = some .cell ∧ ((cellsFrom (s.heap.objs.size + 1) (defScope st).names []).lookup y.1).isSome = true) := by
    rintro ⟨nm, u⟩ hy
    cases S.par nm (List.of_mem_zip hy).1 with
    | inl z => exact .inl z
    | inr z => exact .inr ⟨z, PySem.W.cellsFrom_some _ _ _ (.inl z)⟩
  have step := codeAny_call_function (prog := P) (w := w) (A := A) (s := s) room.depth (inK _ _ look) rfl S.co S.gen rfl (PySem.W.codeRec_of inK code)
    (R := CR CX0 outer P w H s Q E) (args := args)
  refine step (bd _ _ _ _ ?_)
  refine wpAny_newFunctionEnv_cells S.kind kinds ?_
  intro env isEnv s1 inC
  subst isEnv
  refine ⟨noL.keeps inC.toInCall.keep, codeAny_func ?_⟩
  obtain ⟨t, ht, hq⟩ := body cdv (room.deeper _)
  have J : Inv (cxOf CX0 P w K mg base N qual (defScope st) f cdv A outer s H E) [] (start N vs) H s1 := inv_start S room.hd en hln rel inC
  refine wpAny_mono (ht.nox.run [] s1 (start N vs) H _ J hq) ?_ ?_
  · intro fl s' done
    cases fl with
    | ret u =>
      obtain ⟨v, σ', H', I', rv, qv⟩ := done
      exact ⟨v, H', I'.os, I'.bare, I'.base, I'.hok, rv, qv⟩
    | next =>
      obtain ⟨σ', H', I', qv⟩ := done
      exact ⟨V.non, H', I'.os, I'.bare, I'.base, I'.hok, rfl, qv⟩
    | brk => exact done.elim fun _ z => z.elim fun _ z => z.2.elim
    | cont => exact done.elim fun _ z => z.elim fun _ z => z.2.elim
  · intro e s' z
    exact z
/-! ### the law's own call -/
theorem law_at {P : Program} {w : World} {K : PySem.W.Frag} {mg mb : Str → Option Value} {fa a : Addr} {s₁ : Shared} {vs : List Value} {ns : List Int}
    (inK : K.In s₁.heap) (gl : s₁.heap.Ns mainGlobals mg) (bl : s₁.heap.Ns builtinsNs mb) (isB : ∀ x : Str, x ≠ "__name__" → mb x = bootBuiltins x) (lim : s₁.heap.NoLimit) (gens : s₁.gens = #[])
    (obj : s₁.heap.get? a = some { cls := .type "list", data := .seq vs.toArray }) (hints : IntsAre vs ns) (few : ns.length ≤ sizeLine)
    (run : ∀ (base : Heap) (H : Hp), K.In base → base.Ns mainGlobals mg → Env0 P w K mg base callerA [] s₁ H → SqL K H a (ns.map V.int) →
      codeAny (model P w) callerA (.call (.ref fa) ⟨[.ref a], []⟩) (CR CX0 [] P w H s₁ (fun v _ => v = .bl true) fun _ _ _ => False) s₁) :
    codeAny (model P w) callerA (.call (.ref fa) ⟨[.ref a], []⟩) (fun r s' => r = .ok (.ret (.bool true)) ∧ OldK s₁.heap s'.heap ∧ s'.os = s₁.os ∧ AllBare s'.gens) s₁ := by
  have rel := vals_ints hints
  have lens := hints.length
  have found : ∃ H : Hp, Only H ∧ SqL K H a (ns.map V.int) ∧ HOk P w H s₁.heap ∧ (∀ b u, H b = some u → b = a ∧ K.lookup a = none) := by
    cases inText : K.lookup a with
    | some o =>
      have same := inK a o inText
      rw [obj] at same
      cases same
      have never : ∀ (u : HO), (none : Option HO) ≠ some u := fun u z => by cases z
      refine ⟨fun _ => none, fun _ => .inl rfl, ?_, (fun b u z => (never u z).elim), (fun b u z => (never u z).elim)⟩
      refine .inr ⟨_, vs.toArray, _, inText, rfl, rfl, rfl, ?_, ?_⟩
      · rw [List.size_toArray, lens]
        exact few
      · rw [List.toList_toArray]
        exact rel
    | none =>
      let here : HO := .frz { cls := .type "list", data := .seq vs.toArray } (.lst (ns.map V.int))
      have only : ∀ b u, (if b = a then some here else none) = some u → b = a ∧ u = here := fun b u z => by
        by_cases hb : b = a
        · rw [if_pos hb] at z
          exact ⟨hb, (Option.some.inj z).symm⟩
        · rw [if_neg hb] at z
          cases z
      refine ⟨fun b => if b = a then some here else none, fun b => ?_, .inl (.inr ⟨{ cls := .type "list", data := .seq vs.toArray }, if_pos rfl⟩), fun b u z => ?_, fun b u z => ⟨(only b u z).1, rfl⟩⟩
      · by_cases hb : b = a
        · exact .inr ⟨_, _, if_pos hb⟩
        · exact .inl (if_neg hb)
      · obtain ⟨rfl, rfl⟩ := only b u z
        exact ⟨obj, by rw [List.length_map]; exact few, vs, _, rel, obj⟩
  obtain ⟨H, hO, hS, hok, hA⟩ := found
  have under : ∀ {b : Addr} {o : Obj}, s₁.heap.get? b = some o → H b = none → (hidT s₁.heap H).get? b = some o := fun e z => hidT_get e z
  have notDict : ∀ {b : Addr} {o : Obj} {es : Array DictEntry} {ep : Nat}, s₁.heap.get? b = some o → o.data = .dict es ep → H b = none := by
    intro b o es ep e isD
    cases z : H b with
    | none => rfl
    | some u =>
      obtain ⟨rfl, _⟩ := hA b u z
      rw [obj] at e
      cases e
      cases isD
  have ns' : ∀ {b : Addr} {m : Str → Option Value}, s₁.heap.Ns b m → (hidT s₁.heap H).Ns b m := by
    rintro b m ⟨o, es, ep, e, isD, r⟩
    exact ⟨o, es, ep, under e (notDict e isD), isD, r⟩
  have inK' : K.In (hidT s₁.heap H) := by
    intro b o e
    refine under (inK b o e) ?_
    cases z : H b with
    | none => rfl
    | some u =>
      obtain ⟨rfl, no⟩ := hA b u z
      rw [no] at e
      cases e
  obtain ⟨mc, l1, l2⟩ := lim
  have env : Env0 P w K mg (hidT s₁.heap H) callerA [] s₁ H :=
    ⟨rfl, ⟨inK', ns' gl, ⟨mb, ns' bl, isB⟩, ⟨mc, ns' l1, l2⟩⟩, fun _ _ e => of_hidT e, Nat.le_of_eq (hidT_size _ _), trivial, (fun _ hb => nomatch hb), hok, .of_eq gens⟩
  refine codeAny_mono (run _ H inK' (ns' gl) env hS) ?_
  intro r s' h
  cases r with
  | error e => exact h.elim
  | ok fl =>
    cases fl with
    | next => exact h.elim
    | brk => exact h.elim
    | cont => exact h.elim
    | ret u =>
      obtain ⟨v, H', os, bare, un, hok', rv, isT⟩ := h
      subst isT
      cases rv
      refine ⟨rfl, OldK.of_keep ?_, os, bare⟩
      intro b o e
      cases z : H b with
      | none => exact un.keep b o e z (fun y => nomatch y) (fun y => nomatch y)
      | some u =>
        rcases hO b with y | ⟨ob, xs, y⟩
        · rw [z] at y
          cases y
        · have y2 := un.frzs b ob _ y
          obtain ⟨e1, _⟩ := hok b _ y
          obtain ⟨e2, _⟩ := hok' b _ y2
          rw [e] at e1
          cases e1
          exact e2
theorem T.data_deep : ∀ t : T, t.data.depth = t.deep
  | .nil => by simp only [T.data, PyData.depth, T.deep]
  | .node l x r => by
    have h1 := l.data_deep
    have h2 := r.data_deep
    simp only [T.data, PyData.depth, PyData.depthAll, T.deep, h1, h2]
    omega
def T.lt (t : T) : Prop := ∀ x ∈ t.btw, Ltr x
theorem strOk_ltr {x : Str} (h : Ltr x) : PyData.strOk x = true := by
  obtain ⟨c, h1, h2, rfl⟩ := h
  show (#[c] : Array Nat).all (· < 0x110000) = true
  rw [← Array.all_toList]
  show (decide (c < 0x110000) && true) = true
  rw [Bool.and_true, decide_eq_true_eq]
  omega
theorem T.lt_node {l r : T} {x : Str} (h : (T.node l x r).lt) : l.lt ∧ Ltr x ∧ r.lt :=
  ⟨fun y hy => h y (List.mem_append_left _ hy), h x (List.mem_append_right _ (List.mem_cons_self ..)), fun y hy => h y (List.mem_append_right _ (List.mem_cons_of_mem _ hy))⟩
theorem T.can : ∀ t : T, t.lt → t.data.canLay0 = true
  | .nil, _ => by simp only [T.data, PyData.canLay0]
  | .node l x r, h => by
    obtain ⟨h1, h2, h3⟩ := T.lt_node h
    simp only [T.data, PyData.canLay0, PyData.canLayAll0, l.can h1, r.can h3, strOk_ltr h2, Bool.and_self]
/-! ### repr of data -/
theorem call_reprD {X : Cx} (hg : X.A.guards = some []) (hu : X.A.units + 64 < cLine) : CallR X (.builtin "repr") (fun xs H Q => ∃ (a : Addr) (d : PyData), xs = [.ref a] ∧ Dp X.K H (.ref a) d ∧ d.showable = true ∧ d.hasDict = false ∧ d.depth ≤ 60 ∧ d.shown.length ≤ sizeLine ∧ Q (.str d.shown) H) := by
  intro pins s σ H xs us Q I r h
  obtain ⟨a, d, rfl, hd, hs, hn, hz, hl, q⟩ := h
  obtain ⟨u, rfl, rx⟩ := vals1 r
  cases rx
  obtain ⟨as, rd⟩ := Dp.reads I d _ _ hd rfl
  exact repr_of_reads' rd hs (PyData.noDict_hsm hn) hg (by omega) (fun _ _ e => e) (fun h' u tk hk => ⟨.str d.shown, H, I.kept (t' := tk) hk, ⟨u, rfl⟩, q⟩) hl
theorem T.showable : ∀ t : T, t.data.showable = true
  | .nil => by simp only [T.data, PyData.showable]
  | .node l x r => by simp only [T.data, PyData.showable, PyData.showableAll, l.showable, r.showable, Bool.and_self]
theorem T.noDict : ∀ t : T, t.data.hasDict = false
  | .nil => by simp only [T.data, PyData.hasDict]
  | .node l x r => by simp only [T.data, PyData.hasDict, PyData.hasDictAll, l.noDict, r.noDict, Bool.or_self]
theorem ltr_repr {x : Str} (h : Ltr x) : (reprText x).length ≤ 12 := by
  obtain ⟨c, h1, h2, rfl⟩ := h
  have := StrLaws.reprText_len ⟨#[c]⟩ (fun z hz => by
    have : z = c := by simpa using hz
    rw [this]
    exact Nat.lt_of_le_of_lt h2 (by decide))
  exact this
theorem T.shown_len : ∀ t : T, t.lt → t.data.shown.length ≤ 24 * t.size + 4
  | .nil, _ => by
    simp only [T.data, PyData.shown, T.size]
    decide +kernel
  | .node l x r, h => by
    obtain ⟨h1, h2, h3⟩ := T.lt_node h
    have a1 := l.shown_len h1
    have a2 := ltr_repr h2
    have a3 := r.shown_len h3
    simp only [T.data, PyData.shown, PyData.shownAll, T.size]
    refine Nat.le_trans (fmt_text _) ?_
    rw [piled_cons, piled_cons, piled_cons]
    have z : piled [] = 0 := rfl
    omega
theorem T.nar_data : ∀ t : T, nar t.data = true
  | .nil => by simp only [T.data, nar]
  | .node l x r => by
    simp only [T.data, nar, narAll, l.nar_data, r.nar_data, Bool.and_self, Bool.and_true, List.length_cons, List.length_nil]
    exact decide_eq_true (by omega)
theorem T.mir_deep : ∀ t : T, t.mir.deep = t.deep
  | .nil => rfl
  | .node l _ r => by
    have h1 := l.mir_deep
    have h2 := r.mir_deep
    show 1 + max r.mir.deep l.mir.deep = 1 + max l.deep r.deep
    omega
/-! ### texts of trees -/
def T.isNil : T → Bool
  | .nil => true
  | .node _ _ _ => false
def T.cs : T → List Nat
  | .nil => [45]
  | .node l x r => if (l.isNil && r.isNil) = true then x.cps.toList else x.cps.toList ++ 40 :: (l.cs ++ 44 :: (r.cs ++ [41]))
def tx (l : List Nat) : Str := ⟨l.toArray⟩
theorem tx_len (l : List Nat) : (tx l).length = l.length := rfl
theorem tx_app (a b : List Nat) : tx a ++ tx b = tx (a ++ b) := by
  show (⟨(tx a).cps ++ (tx b).cps⟩ : Str) = _
  simp [tx]
theorem tx_of (x : Str) : tx x.cps.toList = x := rfl
theorem tx_inj {a b : List Nat} (h : tx a = tx b) : a = b := congrArg (fun z : Str => z.cps.toList) h
def T.text (t : T) : Str := tx t.cs
theorem isNil_eq {t : T} : t.isNil = true ↔ t = .nil := by
  cases t with
  | nil => exact ⟨fun _ => rfl, fun _ => rfl⟩
  | node l x r => exact ⟨(fun h => nomatch h), (fun h => nomatch h)⟩
theorem cs_leaf (x : Str) : (T.node .nil x .nil).cs = x.cps.toList := rfl
theorem cs_node {l r : T} (x : Str) (h : ¬ (l = .nil ∧ r = .nil)) : (T.node l x r).cs = x.cps.toList ++ 40 :: (l.cs ++ 44 :: (r.cs ++ [41])) := by
  show (if (l.isNil && r.isNil) = true then _ else _) = _
  rw [if_neg]
  intro z
  rw [Bool.and_eq_true, isNil_eq, isNil_eq] at z
  exact h z
theorem ltr_len {x : Str} (h : Ltr x) : x.cps.toList.length = 1 := by
  obtain ⟨c, _, _, rfl⟩ := h
  rfl
theorem cs_len : ∀ t : T, t.lt → t.cs.length ≤ 6 * t.size + 1
  | .nil, _ => Nat.le_refl _
  | .node l x r, h => by
    obtain ⟨h1, h2, h3⟩ := T.lt_node h
    have a1 := cs_len l h1
    have a2 := cs_len r h3
    have a3 := ltr_len h2
    by_cases z : l = .nil ∧ r = .nil
    · obtain ⟨rfl, rfl⟩ := z
      rw [cs_leaf, a3]
      exact Nat.le_add_left ..
    · rw [cs_node x z]
      show _ ≤ 6 * (l.size + 1 + r.size) + 1
      simp only [List.length_append, List.length_cons, List.length_nil]
      omega
/-- the text is read in one way -/
theorem cs_inj : ∀ (t : T), t.lt → ∀ (u : T), u.lt → ∀ R S : List Nat, R.head? ≠ some 40 → S.head? ≠ some 40 → t.cs ++ R = u.cs ++ S → t = u ∧ R = S
  | .nil, _, .nil, _, R, S, _, _, e => ⟨rfl, by injection e⟩
  | .nil, _, .node l x r, h, R, S, _, _, e => by
    obtain ⟨_, ⟨c, c1, c2, rfl⟩, _⟩ := T.lt_node h
    exfalso
    by_cases z : l = .nil ∧ r = .nil
    · obtain ⟨rfl, rfl⟩ := z
      injection e with e1 _
      omega
    · rw [cs_node _ z] at e
      injection e with e1 _
      omega
  | .node l x r, h, .nil, _, R, S, _, _, e => by
    obtain ⟨_, ⟨c, c1, c2, rfl⟩, _⟩ := T.lt_node h
    exfalso
    by_cases z : l = .nil ∧ r = .nil
    · obtain ⟨rfl, rfl⟩ := z
      injection e with e1 _
      omega
    · rw [cs_node _ z] at e
      injection e with e1 _
      omega
  | .node l x r, h, .node l' x' r', h', R, S, hR, hS, e => by
    obtain ⟨h1, ⟨c, c1, c2, rfl⟩, h3⟩ := T.lt_node h
    obtain ⟨h1', ⟨c', c1', c2', rfl⟩, h3'⟩ := T.lt_node h'
    by_cases z : l = .nil ∧ r = .nil
    · obtain ⟨rfl, rfl⟩ := z
      by_cases z' : l' = .nil ∧ r' = .nil
      · obtain ⟨rfl, rfl⟩ := z'
        injection e with e1 e2
        exact ⟨by rw [e1], e2⟩
      · rw [cs_node _ z'] at e
        injection e with e1 e2
        exact absurd (by rw [show R = _ from e2]; rfl) hR
    · by_cases z' : l' = .nil ∧ r' = .nil
      · obtain ⟨rfl, rfl⟩ := z'
        rw [cs_node _ z] at e
        injection e with e1 e2
        exact absurd (by rw [show S = _ from e2.symm]; rfl) hS
      · rw [cs_node _ z, cs_node _ z'] at e
        have e' : c :: 40 :: (l.cs ++ (44 :: (r.cs ++ (41 :: R)))) = c' :: 40 :: (l'.cs ++ (44 :: (r'.cs ++ (41 :: S)))) := by
          simpa using e
        injection e' with e1 e2
        injection e2 with _ e3
        obtain ⟨rfl, e4⟩ := cs_inj l h1 l' h1' _ _ (by simp) (by simp) e3
        injection e4 with _ e5
        obtain ⟨rfl, e6⟩ := cs_inj r h3 r' h3' _ _ (by simp) (by simp) e5
        injection e6 with _ e7
        exact ⟨by rw [e1], e7⟩
theorem text_inj {t u : T} (ht : t.lt) (hu : u.lt) (h : t.text = u.text) : t = u :=
  (cs_inj t ht u hu [] [] (by simp) (by simp) (by rw [List.append_nil, List.append_nil]; exact tx_inj h)).1
theorem eqv_data : ∀ t u : T, PyData.eqv t.data u.data = true ↔ t = u
  | .nil, .nil => by simp [T.data, PyData.eqv]
  | .nil, .node l x r => by simp [T.data, PyData.eqv]
  | .node l x r, .nil => by simp [T.data, PyData.eqv]
  | .node l x r, .node l' x' r' => by
    have h1 := eqv_data l l'
    have h2 := eqv_data r r'
    simp only [T.data, PyData.eqv, PyData.eqvAll, Bool.and_eq_true, h1, h2, T.node.injEq]
    simp
theorem eqv_text {t u : T} (ht : t.lt) (hu : u.lt) : PyData.eqv t.data u.data = decide (V.str t.text = V.str u.text) := by
  by_cases h : t = u
  · subst h
    rw [(eqv_data t t).mpr rfl, decide_eq_true rfl]
  · have a : PyData.eqv t.data u.data = false := by
      cases e : PyData.eqv t.data u.data with
      | false => rfl
      | true => exact absurd ((eqv_data t u).mp e) h
    rw [a, decide_eq_false fun z => h (text_inj ht hu (V.str.inj z))]
section
variable {P : Program} {w : World} {K : PySem.W.Frag} {mg : Str → Option Value} {base : Heap} {f : Addr} {fd : FuncData}
/-! ### mirrored -/
def spMir (n : Nat) : Sp := fun vs H Q _ => ∃ (v : V) (t : T), vs = [v] ∧ TreeAt H v t ∧ t.deep < n ∧ ∀ H' v', Same H H' → TreeAt H' v' t.mir → Q v' H'
end
/-! ### tree_text, side_text -/
theorem str_par1 : Str.ofString "(" = tx [40] := by decide +kernel
theorem str_par2 : Str.ofString ")" = tx [41] := by decide +kernel
theorem str_com : Str.ofString "," = tx [44] := by decide +kernel
section
variable {P : Program} {w : World} {K : PySem.W.Frag} {mg : Str → Option Value} {base : Heap} {f : Addr} {fd : FuncData}
/-! ### _law_text -/
def spTextL (n : Nat) : Sp := fun vs H Q _ => ∃ (v : V) (t : T), vs = [v] ∧ TreeAt H v t ∧ t.lt ∧ t.size ≤ 60 ∧ t.deep < n ∧ Q (.str t.text) H
theorem ok_ltext (F : Fun K "_law_text" "_law_text" s__law_text f fd) (b : Binds K fd ["_law_tree_here"] []) (g : mg "_law_text" = some (.ref f)) : ∀ n : Nat, FnOk P w K mg base CX0 n f fd ["_law_tree_here"] (spTextL n)
  | 0 => by
    have no : ∀ vs H Q E, ¬ spTextL 0 vs H Q E := fun vs H Q E h => by
      obtain ⟨v, t, _, _, _, _, h1, _⟩ := h
      omega
    exact ⟨fun vs H Q E h => absurd h (no vs H Q E), fun A outer s H args us vs Q E _ _ _ _ h => absurd h (no vs H Q E)⟩
  | n + 1 => by
    have Dself : Df P w K mg base n "_law_text" ["_law_tree_here"] (spTextL n) := ⟨f, fd, ok_ltext F b g n, b, F.kp, g⟩
    refine F.ok sc__law_text (fun vs H Q E h => ?_) (fun cdv A outer s H vs Q E hr h => ?_)
    · obtain ⟨v, t, rfl, _⟩ := h
      rfl
    obtain ⟨v, t, rfl, hv, lt, ts, hn, q⟩ := h
    refine ⟨_, (pss_cons (ps_if (pt_cmpR op_isN (pv 0) pe_non (nomark _))
      (pss_one (ps_ret pe_str)) pss_nil)
    (pss_cons (ps_if (PW.pt (pw_and (pt_cmpR op_isN (pe_ix ix_tup (pv 0) pe_int (fun _ _ => rfl)) pe_non (nomark _)) (pw_and1 (pt_cmpR op_isN (pe_ix ix_tup (pv 0) pe_int (fun _ _ => rfl)) pe_non (nomark _)))))
      (pss_one (ps_ret (pe_ix ix_tup (pv 0) pe_int (fun _ _ => rfl)))) pss_nil)
    (pss_one (ps_ret (pe_op op_add_str (pe_op op_add_str (pe_op op_add_str (pe_op op_add_str (pe_op op_add_str (pe_ix ix_tup (pv 0) pe_int (fun _ _ => rfl)) pe_str) (pe_call Dself.ok (hr.mono (by omega)) rfl Dself.g Dself.kp Dself.b .nil pass0 (pa_cons (pe_ix ix_tup (pv 0) pe_int (fun _ _ => rfl)) pa_nil))) pe_str) (pe_call Dself.ok (hr.mono (by omega)) rfl Dself.g Dself.kp Dself.b .nil pass0 (pa_cons (pe_ix ix_tup (pv 0) pe_int (fun _ _ => rfl)) pa_nil))) pe_str))))), ?_⟩
    rcases hv.inv with ⟨rfl, rfl⟩ | ⟨a, l, r, x, tl, tr, rfl, rfl, ea, hl, hr'⟩
    · refine ⟨_, rfl, rfl, _, rfl, iteT ?_⟩
      exact q
    · refine ⟨_, rfl, rfl, _, rfl, iteF ?_⟩
      obtain ⟨lt1, lt2, lt3⟩ := T.lt_node lt
      have hd : 1 + max tl.deep tr.deep < n + 1 := hn
      have hz : tl.size + 1 + tr.size ≤ 60 := ts
      have c1 := cs_len tl lt1
      have c2 := cs_len tr lt3
      have c3 := ltr_len lt2
      have ln : ∀ l m : List Nat, l.length + m.length ≤ 1000 → (tx l).length + (tx m).length ≤ sizeLine := fun l m h => small h
      have fmt : ¬ (tl = .nil ∧ tr = .nil) → tRet (tOp (fun x y H Q => ∃ i j, x = V.str i ∧ y = V.str j ∧ i.length + j.length ≤ sizeLine ∧ Q (V.str (i ++ j)) H) (tOp (fun x y H Q => ∃ i j, x = V.str i ∧ y = V.str j ∧ i.length + j.length ≤ sizeLine ∧ Q (V.str (i ++ j)) H) (tOp (fun x y H Q => ∃ i j, x = V.str i ∧ y = V.str j ∧ i.length + j.length ≤ sizeLine ∧ Q (V.str (i ++ j)) H) (tOp (fun x y H Q => ∃ i j, x = V.str i ∧ y = V.str j ∧ i.length + j.length ≤ sizeLine ∧ Q (V.str (i ++ j)) H) (tOp (fun x y H Q => ∃ i j, x = V.str i ∧ y = V.str j ∧ i.length + j.length ≤ sizeLine ∧ Q (V.str (i ++ j)) H)
          (tOp (rIxT K) (tVar 0) (tC (V.int 1))) (tC (V.str (Str.ofString "(")))) (tCall (spTextL n) [] E0 (tCons (tOp (rIxT K) (tVar 0) (tC (V.int 0))) tNil))) (tC (V.str (Str.ofString ",")))) (tCall (spTextL n) [] E0 (tCons (tOp (rIxT K) (tVar 0) (tC (V.int 2))) tNil))) (tC (V.str (Str.ofString ")")))) { nx := fun x H' => Q V.non H', rt := Q } [some (.ref a)] H := fun hnn => by
        have e : (((((x ++ Str.ofString "(") ++ tl.text) ++ Str.ofString ",") ++ tr.text) ++ Str.ofString ")") = (T.node tl x tr).text := by
          unfold T.text
          rw [cs_node x hnn, str_par1, str_com, str_par2, ← tx_of x, tx_app, tx_app, tx_app, tx_app, tx_app]
          simp [tx]
        rw [← e] at q
        rw [str_par1, str_com, str_par2] at q ⊢
        rw [← tx_of x] at q
        unfold T.text at q
        rw [← tx_of x] at ea
        refine ⟨_, rfl, a, _, 1, _, rfl, rfl, SqT.of ea, atI_nat (j := 1) rfl, _, _, rfl, rfl, ln _ _ (by simp only [List.length_append, List.length_cons, List.length_nil]; omega), ?_⟩
        rw [tx_app] at q ⊢
        refine ⟨_, rfl, a, _, 0, l, rfl, rfl, SqT.of ea, atI_nat (j := 0) rfl, l, tl, rfl, hl, lt1, by omega, by omega, _, _, rfl, rfl, ln _ _ (by simp only [List.length_append, List.length_cons, List.length_nil]; omega), ?_⟩
        unfold T.text
        rw [tx_app] at q ⊢
        refine ⟨_, _, rfl, rfl, ln _ _ (by simp only [List.length_append, List.length_cons, List.length_nil]; omega), ?_⟩
        rw [tx_app] at q ⊢
        refine ⟨_, rfl, a, _, 2, r, rfl, rfl, SqT.of ea, atI_nat (j := 2) rfl, r, tr, rfl, hr', lt3, by omega, by omega, _, _, rfl, rfl, ln _ _ (by simp only [List.length_append, List.length_cons, List.length_nil]; omega), ?_⟩
        unfold T.text
        rw [tx_app] at q ⊢
        exact ⟨_, _, rfl, rfl, ln _ _ (by simp only [List.length_append, List.length_cons, List.length_nil]; omega), q⟩
      refine ⟨_, rfl, a, _, 0, l, rfl, rfl, SqT.of ea, atI_nat (j := 0) rfl, rfl, ?_⟩
      rcases hl.inv with ⟨rfl, rfl⟩ | ⟨a1, l1, r1, x1, tl1, tr1, rfl, rfl, ea1, hl1, hr1⟩
      · refine ⟨_, rfl, iteT ?_⟩
        refine ⟨_, rfl, a, _, 2, r, rfl, rfl, SqT.of ea, atI_nat (j := 2) rfl, rfl, ?_⟩
        rcases hr'.inv with ⟨rfl, rfl⟩ | ⟨a2, l2, r2, x2, tl2, tr2, rfl, rfl, ea2, hl2, hr2⟩
        · refine ⟨_, rfl, iteT ?_⟩
          exact ⟨_, rfl, a, _, 1, _, rfl, rfl, SqT.of ea, atI_nat (j := 1) rfl, q⟩
        · refine ⟨_, rfl, iteF ?_⟩
          exact fmt (fun z => nomatch z.2)
      · refine ⟨_, rfl, iteF ?_⟩
        exact fmt (fun z => nomatch z.1)
/-! ### _law_one -/
def spOne : Sp := fun vs H Q _ => ∃ (D : Deck) (n : Nat) (p : Addr) (xs : List Str), vs = [.ref D.dk, .ref p] ∧ DeckOk H D n ∧ n ≤ 1000000 ∧ H p = some (.lst (xs.map V.str)) ∧ Off D p ∧ 0 < xs.length ∧ xs.length ≤ 1000 ∧
  ∀ (x : Str) (H' : Hp), x ∈ xs → DeckOk H' D (n + 1) → SameD D H H' → Q (.str x) H'
theorem ok_one (F : Fun K "_law_one" "_law_one" s__law_one f fd) (M : Mgs mg) (D_law_next : Df P w K mg base 1 "_law_next" ["_law_deck_here", "_law_many"] spNext) : FnOk P w K mg base CX0 2 f fd ["_law_deck_here", "_law_items"] spOne := by
  refine F.ok sc__law_one (fun vs H Q E h => ?_) (fun cdv A outer s H vs Q E hr h => ?_)
  · obtain ⟨D, n, p, xs, rfl, _⟩ := h
    rfl
  obtain ⟨D, n, p, xs, rfl, d, hn, ep, op, x0, x1, q⟩ := h
  refine ⟨_, (pss_one (ps_ret (pe_ix ix_list (pv 1) (pe_call D_law_next.ok (hr.mono (by omega)) rfl D_law_next.g D_law_next.kp D_law_next.b .nil pass0 (pa_cons (pv 0) (pa_cons (pe_callB call_len_seq rfl M.len PySem.boot_len (pa_cons (pv 1) pa_nil)) pa_nil))) (fun _ _ => rfl)))), ?_⟩
  refine ⟨_, rfl, _, rfl, _, rfl, p, _, rfl, .inl (SqL.of ep), D, n, _, rfl, d, hn, by rw [List.length_map]; omega, by rw [List.length_map]; omega, fun i H' i0 i1 d1 s1 => ?_⟩
  rw [List.length_map] at i1
  have hi : i.toNat < xs.length := by omega
  exact ⟨p, _, _, _, rfl, rfl, SqL.of (s1.at op ep), at_map i0 (List.getElem?_eq_getElem hi), q _ _ (List.getElem_mem hi) d1 s1⟩
end
/-! ### own errors with one field, over ValueError or LookupError -/
section
open PySem.Builtin PySem.Builtin.ObjectAttr PySem.HandSPX
/-- own classes, then the mro of the built-in one -/
def refsT (tail : List Value) : List Value → Bool
  | .ref _ :: r => refsT tail r
  | l => l == tail
/-- a family of errors: what the library says of its built-in class -/
structure Fam (B newId initId : String) (tail : List Value) : Prop where
  facts : ExcBaseFacts B newId initId tail
  pass : ∀ self, refuseLoop self "__setattr__" tail = pure ()
  obj : tail.contains (.type "object") = true
theorem famV : Fam "ValueError" "ValueError.__new__" "ValueError.__init__" [.type "ValueError", .type "Exception", .type "BaseException", .type "object"] := ⟨F.excBase_ValueError, fun self => F.store_ValueError.passes self, by decide +kernel⟩
theorem famL : Fam "LookupError" "LookupError.__new__" "LookupError.__init__" [.type "LookupError", .type "Exception", .type "BaseException", .type "object"] := ⟨F.excBase_LookupError, fun self => F.store_LookupError.passes self, by decide +kernel⟩
theorem refsT_or {tail : List Value} (l : List Value) (h : refsT tail l = true) : (∃ c r, l = .ref c :: r ∧ refsT tail r = true) ∨ l = tail := by
  unfold refsT at h
  split at h
  · exact .inl ⟨_, _, rfl, h⟩
  · exact .inr (beq_iff_eq.mp h)
theorem refsT_all {tail : List Value} {Good : List Value → Prop} (h0 : Good tail) (hs : ∀ c r, Good r → Good (.ref c :: r)) : ∀ l : List Value, refsT tail l = true → Good l
  | [], h => by
    rcases refsT_or [] h with ⟨_, _, e, _⟩ | e
    · cases e
    · rw [e]; exact h0
  | a :: r, h => by
    rcases refsT_or (a :: r) h with ⟨c, r', e, h'⟩ | e
    · cases e
      exact hs c r (refsT_all h0 hs r h')
    · rw [e]; exact h0
variable {B newId initId : String} {tail : List Value}
theorem Fam.passes (fam : Fam B newId initId tail) (self : Value) (l : List Value) (h : refsT tail l = true) : refuseLoop self "__setattr__" l = pure () :=
  refsT_all (Good := fun l => refuseLoop self "__setattr__" l = pure ()) (fam.pass self) (fun c r e => by rw [refuseLoop_ref]; exact e) l h
theorem refsT_has (X : String) (l : List Value) (h : refsT tail l = true) : l.contains (.type X) = tail.contains (.type X) :=
  refsT_all (Good := fun l => l.contains (.type X) = tail.contains (.type X)) rfl (fun c r e => by rw [List.contains_cons, e]; rfl) l h
theorem Fam.some (fam : Fam B newId initId tail) (l : List Value) (h : refsT tail l = true) : l.isEmpty = false := by
  cases l with
  | nil =>
    have e := refsT_has "object" [] h
    rw [fam.obj] at e
    exact absurd e (by decide)
  | cons _ _ => rfl
/-- the first field of an error -/
theorem first_field {prog : Program} {w : World} {A : Around} {R : Result → Shared → Prop} {hp : Heap} {g : Array GenState} {d : Drawn} {t : Nat} {os : OsState} {K : PySem.W.Frag} {name : Str} {tk : Tok} {v : Value} {x C : Addr} {fv : Array Value} {cd : ClassData}
    (fam : Fam B newId initId tail) (inK : K.In hp) (isX : hp.get? x = some { cls := .ref C, data := .fields fv }) (isC : PySem.W.clsIn K C = some cd)
    (isM : refsT tail cd.mro = true) (dict : cd.hasDict = true) (free : PySem.W.findIn K (.ref C) name = some none)
    (done : ∀ h' tk' dx, (∀ b o, b ≠ x → hp.get? b = some o → h'.get? b = some o) → hp.objs.size ≤ dx → dx ≠ x →
      h'.get? x = some { cls := .ref C, dict := some dx, data := .fields fv } → h'.Ns1 dx (fun y => if y = name then some v else none) → R (.ok (.ret .none)) ⟨h', g, d, tk', os⟩) :
    codeAny (model prog w) A (.call (.builtin "object.__setattr__") ⟨[.ref x, .str name tk, v], []⟩) R ⟨hp, g, d, t, os⟩ := by
  have at0 : PySem.W.InstAt hp x { cls := .ref C, data := .fields fv } C none := ⟨isX, rfl, rfl, trivial⟩
  have store := PySem.F.store_object
  have hasObj : cd.mro.contains (.type "object") = true := (refsT_has "object" _ isM).trans fam.obj
  have notNew : x ≠ hp.objs.size := Nat.ne_of_lt (Heap.lt_size isX)
  have isSub : PySem.W.Looks (model prog w) hp (isInstance (.ref x) (.type "object")) true := by
    refine at0.type.andThen (PySem.W.looks_mroIn inK ?_)
    unfold PySem.W.mroIn
    rw [isC, Option.bind_some, if_neg (by rw [fam.some _ isM]; decide), hasObj]
  refine codeAny_call_builtin store.slot.plain store.entry ?_
  refine @PySem.W.check_slot (model prog w) _ _ ⟨hp, g, d, t, os⟩ "object.__setattr__" "object" "__setattr__" (.ref x) [.str name tk, v] [] _ store.kind store.split isSub
    (store.args (.ref x) (.str name tk) v) ?_
  have mroL : PySem.W.Looks (model prog w) hp (mroOf (.ref C)) cd.mro := (PySem.W.looks_clsIn inK isC).andThen .now
  have noTaker : PySem.W.Looks (model prog w) hp (storeTaker? none) none := .now
  have clsL : PySem.W.Looks (model prog w) hp (classData C) cd := PySem.W.looks_clsIn inK isC
  rw [PySem.W.osa_eq, refuse_eq]
  refine wpAny_bind (wpAny_bind (at0.type.at (wpAny_bind (mroL.at ?_))))
  rw [fam.passes _ _ isM]
  refine wpAny_pure (wpAny_bind (at0.type.at (wpAny_bind ((PySem.W.looks_findIn inK free).at ?_))))
  refine wpAny_bind (noTaker.at ?_)
  show wpAny _ _ (storeInOwnDict (.ref x) (.ref C) (.str name tk) name v false) _ _ _
  obtain ⟨nm, bs, mro, nsA, qn, hd, sn, sb, ab, col, del⟩ := cd
  dsimp only at dict
  subst dict
  unfold storeInOwnDict ownDictForStores
  repeat (first
    | with_reducible refine store_in_new ?_ ?_
    | with_reducible refine wpAny_loadPart_at isX ?_
    | with_reducible refine clsL.at ?_
    | wp_step)
  · refine ⟨_, #[], _, (Heap.get?_update_ne _ _ _ _ notNew.symm).trans (Heap.get?_push_at rfl rfl), rfl, ?_, fun _ => rfl⟩
    intro e he
    exact absurd he (by simp)
  · intro h' tk' ns1 same
    have isX1 : (hp.push { cls := .type "dict", data := .dict #[] }).get? x = some { cls := .ref C, data := .fields fv } := Heap.get?_push_of_some _ isX
    refine done h' tk' hp.objs.size ?_ (Nat.le_refl _) notNew.symm ?_ ns1
    · intro b o hb ho
      refine (same.2 b (Nat.ne_of_lt (Heap.lt_size ho))).trans ?_
      exact (Heap.get?_update_ne _ _ _ _ hb).trans (Heap.get?_push_of_some _ ho)
    · exact (same.2 x notNew).trans (Heap.get?_update_self _ isX1 rfl)
end
abbrev veT : List Value := [.type "ValueError", .type "Exception", .type "BaseException", .type "object"]
/-! ### errors with the field index -/
def iA_index (p1 p2 : Pos) : Arguments := { posonlyargs := [], args := [{ arg := "self", annotation := none, pos := p1 }, { arg := "index", annotation := none, pos := p2 }], vararg := none, kwonlyargs := [], kw_defaults := [], kwarg := none, defaults := [] }
def iB_index (q1 q2 q3 q4 : Pos) : List Stmt := [.Assign [.Attribute (.Name "self" q1) "index" q2] (.Name "index" q3) q4]
def iS_index : Scope := { kind := .function, names := [(PySem.Str.ofString "self", .local), (PySem.Str.ofString "index", .local)], isGenerator := false, isCoroutine := false, more := [] }
/-- what the written part says of the class cn, at C, and of its __init__, at fI -/
structure Err_index (K : PySem.W.Frag) (mg : Str → Option Value) (newId : String) (tail : List Value) (cn qn : Str) (C fI : Addr) : Prop where
  gC : mg cn = some (.ref C)
  nd : (cn == ("__debug__" : Str)) = false
  cls : ∃ nm q N bs bm sn sub ab col dd k0 k1 k2 k3 k5, K.lookup C = some (excClassObj nm q C N bs bm true sn sub ab col dd k0 k1 k2 k3 k5 newId) ∧ refsT tail bm = true
  sa : PySem.W.findIn K (.ref C) "__setattr__" = some (some (.builtin "object.__setattr__"))
  ga : PySem.W.findIn K (.ref C) "__getattribute__" = some (some (.builtin "BaseException.__getattribute__"))
  gg : PySem.W.findIn K (.ref C) "__getattr__" = some none
  noN : PySem.W.findIn K (.ref C) "index" = some none
  iC : PySem.W.findIn K (.ref C) "__init__" = some (some (.ref fI))
  tC : PySem.W.typeIn K (.ref fI) = some (.type "function")
  kC : PySem.W.keepIn K (.ref C) = true
  exC : PySem.W.subIn K (.ref C) (.type "BaseException") = some true
  tyC : PySem.W.typeIn K (.ref C) = some (.type "type")
  hdC : PySem.W.hasDictIn K C = true
  fn : ∃ (oc : Value) (od : Option Addr) (doc pm : Value) (an : Option Addr) (cdv ct : Value) (osl : Array (Option Value)) (p1 p2 q1 q2 q3 q4 : Pos),
    K.lookup fI = some ⟨oc, od, .func (PySem.W.fnOf "__init__" qn (iA_index p1 p2) (iB_index q1 q2 q3 q4) iS_index .none .none doc pm an cdv ct), osl⟩ ∧ PySem.W.codeIn K cdv qn = true
section
open PySem.Builtin PySem.Builtin.ObjectAttr PySem.HandSPX
variable {prog : Program} {w : World} {A : Around} {E : Value → Shared → Prop} {R : Result → Shared → Prop} {s : Shared} {K : PySem.W.Frag} {mg : Str → Option Value} {C fI : Addr} {B newId initId : String} {tail : List Value} {cn qn : Str}
theorem init_index (fam : Fam B newId initId tail) (T : Err_index K mg newId tail cn qn C fI) {x t0 : Addr} {v : Value} (inK : K.In s.heap) (lim : s.heap.NoLimit) (isX : s.heap.get? x = some (excO C t0)) (offK : K.lookup x = none) (room : A.depth < recursionLimit)
    (done : ∀ h' tk dx, (∀ b o, b ≠ x → s.heap.get? b = some o → h'.get? b = some o) → h'.get? x = some { cls := .ref C, dict := some dx, data := .fields #[.ref t0, .none, .none, .none, .bool false, .none] } → s.heap.objs.size ≤ dx → dx ≠ x →
      h'.Ns1 dx (fun y => if y = "index" then some v else none) → R (.ok (.ret .none)) { s with heap := h', toks := tk }) :
    codeAny (model prog w) A (.call (.ref fI) ⟨[.ref x, v], []⟩) R s := by
  obtain ⟨oc, od, doc, pm, an, cdv, ct, osl, p1, p2, q1, q2, q3, q4, isF, isCode⟩ := T.fn
  obtain ⟨nm, q, N, bs, bm, sn, sub, ab, col, dd, k0, k1, k2, k3, k5, isC, isM⟩ := T.cls
  have cls : PySem.W.clsIn K C = some { name := nm, bases := bs, mro := .ref C :: bm, ns := N, qualname := q, hasDict := true, slotNames := sn, subclasses := sub, abstract := ab, collection := col, hasDel := false } := by
    unfold PySem.W.clsIn
    rw [isC] <;> rfl
  refine Att.call_fn (binds := [("self", .ref x), ("index", v)]) inK lim isF isCode room (BindsTo.of_eq (by first | rfl | with_unfolding_all rfl)) (by first | rfl | decide | with_unfolding_all rfl) (fun s₁ IC => ?_) rfl rfl rfl
  obtain ⟨h₁, tk₁, rfl⟩ := IC.toInCall.same
  have keep : ∀ b o, s.heap.get? b = some o → h₁.get? b = some o := IC.toInCall.keep
  have locals := IC.toInCall.ns
  have inK₁ : K.In h₁ := inK.keeps keep
  have isX₁ := keep _ _ isX
  show wpAny _ _ (execs _ _) _ _ _
  refine wpAny_execs_cons (plainObj_wpAny_Assign_Attribute ?_)
  refine wpAny_Name (wpAny_loadName_local (by rfl) (by rfl) locals (v := v) (by first | rfl | with_unfolding_all rfl | kernel_rfl) ?_) (by decide)
  refine wpAny_Name (wpAny_loadName_local (by rfl) (by rfl) locals (v := .ref x) (by first | rfl | with_unfolding_all rfl | kernel_rfl) ?_) (by decide)
  refine PySem.W.set_plain inK₁ (ox := excO C t0) (od := none) ⟨isX₁, rfl, rfl, trivial⟩ T.sa ?_
  refine first_field fam inK₁ isX₁ cls (show refsT tail (.ref C :: bm) = true from isM) rfl T.noN (fun h₃ tk₃ dx k₃ dn dne hx₃ hn₃ => ?_)
  show wpAny _ _ (execs _ _) _ _ _
  have z : s.heap.objs.size < h₁.objs.size := locals.lt
  exact wpAny_execs_nil (done h₃ tk₃ dx (fun b o hb e => k₃ b o hb (keep b o e)) hx₃ (Nat.le_of_lt (Nat.lt_of_lt_of_le z dn)) dne hn₃)
/-- a made error -/
structure Made_index (h h' : Heap) (e C d : Addr) (v : Value) : Prop where
  keep : ∀ b o, h.get? b = some o → h'.get? b = some o
  new : h.objs.size ≤ e
  obj : ∃ oe vs, h'.get? e = some oe ∧ oe.cls = .ref C ∧ oe.dict = some d ∧ oe.data = .fields vs ∧ vs[1]? = some .none
  dbig : h.objs.size ≤ d
  dne : d ≠ e
  ns : h'.Ns1 d (fun y => if y = "index" then some v else none)
theorem made_index (fam : Fam B newId initId tail) (T : Err_index K mg newId tail cn qn C fI) {v : Value} (inK : K.In s.heap) (lim : s.heap.NoLimit) (room : A.depth + 1 < recursionLimit)
    (done : ∀ h' tk e d, Made_index s.heap h' e C d v → R (.ok (.ret (.ref e))) { s with heap := h', toks := tk }) :
    codeAny (model prog w) A (.call (.ref C) ⟨[v], []⟩) R s := by
  obtain ⟨nm, q, N, bs, bm, sn, sub, ab, col, dd, k0, k1, k2, k3, k5, isC, isM⟩ := T.cls
  obtain ⟨hp, g, dr, tk, os⟩ := s
  have keep : ∀ b o, hp.get? b = some o → ((hp.push (PySem.W.kdv_tup [v])).push (excO C hp.objs.size)).get? b = some o := fun b o e => Heap.get?_push_of_some _ (Heap.get?_push_of_some _ e)
  have isE : ((hp.push (PySem.W.kdv_tup [v])).push (excO C hp.objs.size)).get? (hp.objs.size + 1) = some (excO C hp.objs.size) := by heap_get
  have offK : K.lookup (hp.objs.size + 1) = none := by
    cases e : K.lookup (hp.objs.size + 1) with
    | none => rfl
    | some o => exact absurd (Nat.lt_of_succ_lt (Heap.lt_size (inK _ _ e))) (Nat.lt_irrefl _)
  refine call_own fam.facts (fun X => refsT_has X bm isM) (inK _ _ isC) (PySem.W.looks_findIn inK T.iC) (fun self => PySem.W.bind_fn inK self T.tC) (by show 1 ≤ sizeLine; decide) ?_
  refine init_index (s := ⟨(hp.push (PySem.W.kdv_tup [v])).push (excO C hp.objs.size), g, dr, tk, os⟩) fam T (inK.keeps keep) (lim.keeps keep) isE offK ?_ fun h' tk' dx k' hx dn dne hns => ?_
  · show A.depth + 1 < recursionLimit
    exact room
  · have old : ∀ b o, hp.get? b = some o → h'.get? b = some o := fun b o e => k' b o (Nat.ne_of_lt (Nat.lt_succ_of_lt (Heap.lt_size e))) (keep b o e)
    have z : hp.objs.size + 1 + 1 ≤ dx := by
      have y := dn
      rw [Heap.size_push, Heap.size_push] at y
      exact y
    exact ⟨rfl, done h' tk' (hp.objs.size + 1) dx ⟨old, Nat.le_succ _, ⟨_, _, hx, rfl, rfl, rfl, rfl⟩, (show hp.objs.size ≤ dx by omega), dne, hns⟩⟩
end
theorem rel_index {v : V} {u : Value} (r : RelV v u) (f : Str) : RelO (List.lookup f [(("index" : Str), v)]) (if f = "index" then some u else none) := by
  by_cases h : f = "index"
  · subst h
    rw [if_pos rfl, show List.lookup ("index" : Str) [(("index" : Str), v)] = some v by simp [List.lookup]]
    exact r
  · have e : (f == ("index" : Str)) = false := by simpa using h
    rw [if_neg h, show List.lookup f [(("index" : Str), v)] = none by simp [List.lookup, e]]
    trivial
section
variable {X : Cx} {C fI : Addr} {B newId initId : String} {tail : List Value} {cn qn : Str}
/-- cn(e) -/
def tMk_index (C : Addr) (ta : TA) : L2.St → Hp → XK → Prop := fun σ H Q => ta σ H fun vs H1 => ∃ v, vs = [v] ∧ ∀ d, H1 d = none → Q (.ref C) (some d) (upd H1 d (.xd [(("index" : Str), v)]))
theorem pmk_index {a : Expr} {ta : TA} {p pos : Pos} {k : Nat} (fam : Fam B newId initId tail) (T : Err_index X.K X.mg newId tail cn qn C fI) (hr : Room k X.A) (ha : PA X [a] ta) (hg : Gl X cn)
    (he : starEach (a :: []) X.env = (false, eval a X.env) :: starEach [] X.env := by rfl) (hpl : (backTo pos (starEach [] X.env)).any (·.1) = false := by rfl) :
    PMk X (.Call (.Name cn p) [a] [] pos) (tMk_index C ta) := by
  intro pins s σ H Q I h
  refine wpAny_Call_Name_kw (ld_glob I hg T.gC ?_ T.nd)
  refine PySem.W.callWith_K (h₀ := X.base) I.ok.mod.kin T.kC (thn (ha.run pos pins s σ H _ I h) ?_) he hpl
  rintro us s1 ⟨vs, H1, I1, r1, v, rfl, q1⟩
  refine ⟨I1.kIn, ?_⟩
  cases r1 with
  | @cons _ v' _ us' rv rn =>
    cases rn
    show wpAny _ _ (call (.ref C) [v']) _ _ _
    have lim := I1.nolimit
    obtain ⟨hp, g, dr, tk, os⟩ := s1
    refine wpAny_call (made_index fam T I1.kIn lim (by have := hr.dp; omega) fun h' tk' e d M => ?_)
    show MkP X pins σ Q (.ref e) ⟨h', g, dr, tk', os⟩
    obtain ⟨oe, fv, hoe, hc, hd, hdat, h1⟩ := M.obj
    obtain ⟨G', g1, g2⟩ := restrict h' fun b => decide (b ≠ e)
    have gk : ∀ b, b ≠ e → G'.get? b = h'.get? b := fun b hb => g1 b (decide_eq_true hb)
    have ge : G'.get? e = none := g2 e (by simp)
    have old : ∀ b o, hp.get? b = some o → G'.get? b = some o := by
      intro b o z
      refine (gk b (Nat.ne_of_lt (Nat.lt_of_lt_of_le (Heap.lt_size z) M.new))).trans ?_
      exact M.keep b o z
    have ok : ObjOk X.prog X.w (upd H1 d (.xd [(("index" : Str), v)])) G' d (.xd [(("index" : Str), v)]) :=
      ⟨_, M.ns.at (fun o z => (gk d M.dne).trans z), fun f => rel_index rv f⟩
    have J : Inv X pins σ (upd H1 d (.xd [(("index" : Str), v)])) ⟨G', g, dr, tk', os⟩ := I1.laid (t' := tk') old M.dbig ok
    refine ⟨e, oe, fv, ⟨G', g, dr, tk', os⟩, _, .ref C, some d, rfl, J, ?_, ge, hoe, ⟨hc, hd⟩, hdat, h1, ?_, rfl, I1.bare, raises_own T.exC T.tyC, q1 d (I1.hok.fresh M.dbig)⟩
    · intro b o z
      by_cases hb : b = e
      · have z' : G'.get? b = some o := z
        rw [hb, ge] at z'
        cases z'
      · exact (gk b hb).symm.trans z
    · rw [upd_ne (Ne.symm M.dne)]
      exact I1.hok.fresh M.new
/-- raise cn(e) -/
def tRaise_index (C : Addr) (W : WX) (ta : TA) : TS := fun _ σ H => tMk_index C ta σ H fun cls d H' => W cls d σ H'
theorem ps_raise_index {a : Expr} {ta : TA} {W : WX} {p pos pos2 : Pos} {k : Nat} (hc : X.calm = true) (fam : Fam B newId initId tail) (T : Err_index X.K X.mg newId tail cn qn C fI) (hr : Room k X.A) (tk : Takes X W) (ha : PA X [a] ta) (hg : Gl X cn)
    (he : starEach (a :: []) X.env = (false, eval a X.env) :: starEach [] X.env := by rfl) (hpl : (backTo pos (starEach [] X.env)).any (·.1) = false := by rfl) :
    PS X (.Raise (some (.Call (.Name cn p) [a] [] pos)) none pos2) (tRaise_index C W ta) := ps_raise hc tk (pmk_index fam T hr ha hg he hpl)
/-- err.index, err the error that the suite holds (at a; its class cls, its dict d) -/
def tFld_index (C : Addr) (a : Addr) (cls : Value) (d : Option Addr) (te : TE) : TE := fun σ H Q => te σ H fun x H1 => x = .ref a ∧ cls = .ref C ∧ ∃ (dd : Addr) (v : V), d = some dd ∧ H1 dd = some (.xd [(("index" : Str), v)]) ∧ Q v H1
theorem pe_fld_index {a : Addr} {oe : Obj} {cls : Value} {d : Option Addr} {pn : List (Addr × Obj)} {e : Expr} {te : TE} {pos : Pos} (T : Err_index X.K X.mg newId tail cn qn C fI) (hz : Zc cls d oe) (hf : ∃ vs, oe.data = .fields vs) (he : PE (X.suite a ((a, oe) :: pn)) e te)
    (hb : attributeBase e "index" X.env (eval e X.env) = eval e X.env := by rfl) :
    PE (X.suite a ((a, oe) :: pn)) (.Attribute e "index" pos) (tFld_index C a cls d te) := by
  constructor
  intro pins s σ H Q I h
  refine attr_of hb (thn (he.run pins s σ H _ I h) ?_)
  rintro u s1 ⟨x, H1, I1, rx, rfl, rfl, dd, v, rfl, ea, q⟩
  cases rx
  obtain ⟨ha, _⟩ := I1.pin (a, oe) (List.mem_append_left _ List.mem_cons_self)
  obtain ⟨vs, hd⟩ := hf
  have ok : ObjOk X.prog X.w H1 s1.heap dd (.xd [(("index" : Str), v)]) := I1.hok dd _ ea
  obtain ⟨mA, hns, hr⟩ := ok
  obtain ⟨od, ho, hl⟩ := lookIn_ns hns
  have look : List.lookup ("index" : Str) [(("index" : Str), v)] = some v := by simp [List.lookup]
  obtain ⟨u, hu, ru⟩ := RelO.some_of (v := v) (o := mA "index") (by rw [← look]; exact hr "index")
  have J : PySem.W.InstAt s1.heap a oe C (some od) := ⟨ha, hz.1, by unfold PySem.W.notCls; rw [hd] <;> rfl, by rw [hz.2]; exact ho⟩
  exact HandSPX.exc_get I1.kIn J T.ga T.gg T.exC (PySem.W.findObj_own T.hdC T.noN rfl (by rw [hl, hu])) (handed_of ru) ⟨v, H1, I1.tok _, ru, q⟩
end
/-! ### isinstance of a caught error that has a dict; several clauses 'except x as n' -/
/-- isinstance(e, c), e the error of the suite: its class D, its dict d -/
def rIsD (K : PySem.W.Frag) (D a : Addr) (d : Option Addr) : List V → Hp → VK → Prop := fun xs H Q =>
  ∃ c u b dd fs, xs = [.ref a, c] ∧ ClsV c u ∧ d = some dd ∧ H dd = some (.xd fs) ∧ PySem.W.kitOne K (.ref D) u = some b ∧ Q (.bl b) H
def rIsDT (K : PySem.W.Frag) (D a : Addr) (d : Option Addr) : List V → Hp → VK → Prop := fun xs H Q =>
  ∃ tp cs us b dd fs, xs = [.ref a, .ref tp] ∧ H tp = some (.tup cs) ∧ Paired ClsV cs us ∧ d = some dd ∧ H dd = some (.xd fs) ∧ PySem.W.kitAny K (.ref D) us = some b ∧ Q (.bl b) H
section
variable {X : Cx} {a D : Addr} {d : Option Addr} {oe : Obj} {pn : List (Addr × Obj)}
theorem inst_of {pins : List (Addr × Obj)} {s : Shared} {σ : L2.St} {H : Hp} {dd : Addr} {fs : List (Str × V)} (hz : Zc (.ref D) (some dd) oe) (hf : ∃ vs, oe.data = .fields vs)
    (I : Inv (X.suite a ((a, oe) :: pn)) pins σ H s) (e : H dd = some (.xd fs)) : ∃ od, PySem.W.InstAt s.heap a oe D (some od) := by
  have here := (I.pin (a, oe) (List.mem_append_left _ List.mem_cons_self)).1
  have ok : ObjOk X.prog X.w H s.heap dd (.xd fs) := I.hok dd _ e
  obtain ⟨mA, ns, -⟩ := ok
  obtain ⟨od, ho, -⟩ := lookIn_ns ns
  refine ⟨od, here, hz.1, ?_, ?_⟩
  · obtain ⟨vs, hv⟩ := hf
    unfold PySem.W.notCls
    rw [hv] <;> rfl
  · rw [hz.2]; exact ho
theorem kit_exD {K : PySem.W.Frag} {od : Option Obj} (C : ExcC K D) : PySem.W.KitX K (.ref a) (.ref D) (fun h => PySem.W.InstAt h a oe D od) := by
  have known : (PySem.W.clsIn K D).isSome = true := by
    obtain ⟨cd, hc, _⟩ := PySem.W.any_some C.hd
    rw [hc] <;> rfl
  exact PySem.W.kitx_exc known C.hg C.hk C.hs C.ha C.hn C.ht C.hm
theorem call_isD (C : ExcC X.K D) (hz : Zc (.ref D) d oe) (hf : ∃ vs, oe.data = .fields vs) : CallR (X.suite a ((a, oe) :: pn)) (.builtin "isinstance") (rIsD X.K D a d) := by
  rintro pins s σ H _ us Q I r ⟨c, u, b, dd, fs, rfl, k, rfl, eH, e, q⟩
  obtain ⟨u1, u2, rfl, r1, r2⟩ := vals2 r
  cases k.eq r2
  cases (show u1 = Value.ref a from r1)
  obtain ⟨od, J⟩ := inst_of hz hf I eH
  refine PySem.W.kia_one (kit_exD C) I.kIn J e (by intro z; cases z) fun tk => ?_
  exact ⟨.bl b, H, I.tok tk, rfl, q⟩
theorem call_isDT (C : ExcC X.K D) (hz : Zc (.ref D) d oe) (hf : ∃ vs, oe.data = .fields vs) : CallR (X.suite a ((a, oe) :: pn)) (.builtin "isinstance") (rIsDT X.K D a d) := by
  rintro pins s σ H _ us Q I r ⟨tp, cs, ws, b, dd, fs, rfl, hT, k, rfl, eH, e, q⟩
  obtain ⟨u1, u2, rfl, r1, r2⟩ := vals2 r
  cases (show u2 = Value.ref tp from r2)
  cases (show u1 = Value.ref a from r1)
  obtain ⟨od, J⟩ := inst_of hz hf I eH
  have okT : ObjOk X.prog X.w H s.heap tp (.tup cs) := I.hok tp _ hT
  obtain ⟨-, its, rv, ⟨oc, od', dt, sl⟩, there, kind, n, data⟩ := okT
  dsimp only at kind data
  subst kind data
  cases ClsV.all k rv
  refine PySem.W.kia_tup (kit_exD C) I.kIn J there e (by intro z; cases z) fun tk => ?_
  exact ⟨.bl b, H, I.tok tk, rfl, q⟩
end
/-- an error of the body, landed in X: sI is the state without it, s the state with it -/
structure Down (X : Cx) (pins : List (Addr × Obj)) (σ : L2.St) (H : Hp) (cls : Value) (d : Option Addr) (a : Addr) (B : Heap) (sI s : Shared) : Prop where
  inv : Inv X pins σ H sI
  base : ∀ b o, sI.heap.get? b = some o → b ∉ frs X.stack → B.get? b = some o
  up : sI.heap.UpToSlots s.heap
  fly : HandSPX.FlyingZ B (X.env :: X.outer) a (Zc cls d) s.heap
  free : H a = none
  os : s.os = sI.os
  bare : AllBare s.gens
section
variable {X : Cx} {pins : List (Addr × Obj)} {σ : L2.St} {H : Hp} {cls : Value} {d : Option Addr} {a : Addr} {B : Heap} {sI s : Shared}
theorem Down.here (w : Down X pins σ H cls d a B sI s) : Inv X pins σ H s := w.inv.landed w.base w.fly.1 w.up w.os w.bare
theorem Down.moved (w : Down X pins σ H cls d a B sI s) {h' : Heap} (fl : HandSPX.FlyingZ B (X.env :: X.outer) a (Zc cls d) h') (up : s.heap.UpToSlots h') : Down X pins σ H cls d a B sI { s with heap := h' } :=
  { w with up := w.up.trans up, fly := fl }
theorem Down.apart (w : Down X pins σ H cls d a B sI s) : a ∉ (X.env :: X.outer).filterMap (·.frame) := by
  intro hm
  obtain ⟨oe, vs, he, -, hd⟩ := w.fly.there
  obtain ⟨-, o, e, no⟩ := w.fly.2.2.1.mem hm
  cases he.symm.trans e
  exact no vs hd
/-- the state, seen from the suite of a clause -/
theorem Down.suite (w : Down X pins σ H cls d a B sI s) (hf : X.env.frame = some X.env.locals) :
    ∃ oe, Zc cls d oe ∧ (∃ vs, oe.data = .fields vs) ∧ s.heap.get? a = some oe ∧ Inv (X.suite a ((a, oe) :: (X.pn ++ pins))) [] σ H s := by
  obtain ⟨oe, vs, he, hz, hd⟩ := w.fly.there
  have no := w.apart
  refine ⟨oe, hz, ⟨vs, hd⟩, he, w.here.suite he hd w.free ?_ ?_⟩
  · intro z
    subst z
    exact no (List.mem_filterMap.mpr ⟨X.env, .head _, hf⟩)
  · intro z
    obtain ⟨e, me, q⟩ := List.mem_filterMap.mp z
    exact no (List.mem_filterMap.mpr ⟨e, .tail _ me, q⟩)
/-- no clause is left: the error goes on -/
theorem Down.on {Wout : WX} {D : Ends} (w : Down X pins σ H cls d a B sI s) (hs : X.stack = X.env :: X.outer) (hf : X.env.frame = some X.env.locals) (tk : Takes X Wout) (q : Wout cls d σ H) :
    wpAny (model X.prog X.w) X.A (handleBy (.ref a) X.env []) (SP X pins D) X.xe s := by
  have go : wpAny (model X.prog X.w) X.A (setFlight (.ref a) X.env.frame) (fun _ s4 => wpAny (model X.prog X.w) X.A (throw (.ref a) : Sem Flow) (SP X pins D) X.xe s4) X.xe s := by
    rw [hf]
    refine HandSPX.setFlight_upZ w.fly fun h4 held up4 => wpAny_throw (tk _ _ ?_)
    refine ⟨a, B, sI, pins, σ, H, cls, d, rfl, w.inv, w.base, w.up.trans up4, .inr (.inr ?_), w.free, w.os, w.bare, q⟩
    rw [hs]
    exact held
  obtain ⟨-, -, -, oe, vs, T, -, -, he, -, hd, h1, -⟩ := id w.fly
  refine wpAny_handleBy_nil ?_
  unfold PySem.passOn
  refine wpAny_bind (wpAny_field he hd h1 ?_)
  have nn : ¬ (Value.ref T == Value.none) = true := by simp
  rw [if_neg nn]
  first
    | exact wpAny_bind go
    | exact wpAny_bind (wpAny_pure (wpAny_bind go))
/-- the first of the clauses: it is taken, or the next ones are asked -/
theorem Down.clause {D : Ends} {x n : Str} {c : Value} {i : Nat} {b₀ : Stmt} {body : List Stmt} {p p' : Pos} {rest : List ExceptHandler} {ts : Addr → Value → Option Addr → TS} {W : WX}
    (w : Down X pins σ H cls d a B sI s) (hf : X.env.frame = some X.env.locals) (hN : X.N.Nodup) (hi : X.N[i]? = some n) (hln : X.env.kindOf n = some .local) (hc : Names X x c)
    (hsu : ∀ (oe : Obj) (pn : List (Addr × Obj)), Zc cls d oe → (∃ vs, oe.data = .fields vs) → PSs (X.suite a ((a, oe) :: pn)) (b₀ :: body) (ts a cls d))
    (q : wAs X.K c i ts W D cls d σ H) (hr : W cls d σ H → wpAny (model X.prog X.w) X.A (handleBy (.ref a) X.env rest) (SP X pins D) X.xe s) :
    wpAny (model X.prog X.w) X.A (handleBy (.ref a) X.env (.ExceptHandler (some (.Name x p)) (some n) (b₀ :: body) p' :: rest)) (SP X pins D) X.xe s := by
  obtain ⟨b, is, yes, no⟩ := q
  obtain ⟨oe, hz, -, he, S⟩ := w.suite hf
  refine wpAny_handleBy_cons (codeAny_handlers_test ?_) (by intro z; cases z)
  have ty : PySem.W.Looks (model X.prog X.w) s.heap (typeOf (.ref a)) cls := by
    intro A Q E s' k q
    refine wpAny_typeOf_ref (k _ _ he) ?_
    rw [hz.1]
    exact q
  have match_ := PySem.W.exm_one (M := model X.prog X.w) w.here.kIn ty is
  have name_ : ∀ {Q E : Value → Shared → Prop}, Q c s → wpAny (model X.prog X.w) (X.A.mark (some (.ref a))) (eval (.Name x p) X.env) Q E s := by
    intro Q E q
    rcases hc with ⟨g, nd, m | ⟨m, v, nn⟩⟩
    · exact ld_glob (X := X.suite a _) S g m q nd
    · exact ld_blt (X := X.suite a _) S g m v q nn nd
  refine name_ (match_.here ?_)
  cases b with
  | false => exact hr (no rfl)
  | true =>
    refine codeAny_handlers_suite_as (HandSPX.lands_againZ w.fly fun h4 fl4 up4 => ?_)
    obtain ⟨oe4, hz4, hd4, -, S4⟩ := (w.moved fl4 up4).suite hf
    refine store_ok (X := X.suite a _) (v := .ref a) S4 hN hi (.inl hln) rfl (fun s5 S5 => ?_) (.inr hln)
    refine wpAny_mono ((hsu oe4 (X.pn ++ pins) hz4 hd4).run [] s5 _ H _ S5 (yes rfl a w.free)) (fun f s6 r => ?_) (by intro _ _ z; exact z.elim)
    have ok := w.inv.ok
    cases f with
    | ret u =>
      obtain ⟨v6, σ6, H6, S6, r6, q6⟩ := r
      exact gone_ok (S6.unsuite ok) hN hi hln fun s7 J7 => ⟨v6, _, _, J7, r6, q6⟩
    | next =>
      obtain ⟨σ6, H6, S6, q6⟩ := r
      exact gone_ok (S6.unsuite ok) hN hi hln fun s7 J7 => ⟨_, _, J7, q6⟩
    | brk =>
      obtain ⟨σ6, H6, S6, q6⟩ := r
      exact gone_ok (S6.unsuite ok) hN hi hln fun s7 J7 => ⟨_, _, J7, q6⟩
    | cont =>
      obtain ⟨σ6, H6, S6, q6⟩ := r
      exact gone_ok (S6.unsuite ok) hN hi hln fun s7 J7 => ⟨_, _, J7, q6⟩
end
/-- clauses 'except x as n', n in slot i, with what each does and what the one behind the last wishes -/
inductive Clauses (X : Cx) (n : Str) (i : Nat) (Wout : WX) : List ExceptHandler → (Ends → WX) → Prop
  | nil : Clauses X n i Wout [] (fun _ => Wout)
  | cons {x : Str} {c : Value} {ts : Addr → Value → Option Addr → TS} {b₀ : Stmt} {body : List Stmt} {p p' : Pos} {rest : List ExceptHandler} {W : Ends → WX} (hc : Names X x c)
      (hsu : ∀ (a : Addr) (oe : Obj) (cls : Value) (d : Option Addr) (pn : List (Addr × Obj)), Zc cls d oe → (∃ vs, oe.data = .fields vs) → PSs (X.suite a ((a, oe) :: pn)) (b₀ :: body) (ts a cls d))
      (r : Clauses X n i Wout rest W) : Clauses X n i Wout (.ExceptHandler (some (.Name x p)) (some n) (b₀ :: body) p' :: rest) (fun D => wAs X.K c i ts (W D) D)
section
variable {X : Cx} {n : Str} {i : Nat} {Wout : WX}
theorem Clauses.run {hds : List ExceptHandler} {W : Ends → WX} (k : Clauses X n i Wout hds W) (hs : X.stack = X.env :: X.outer) (hf : X.env.frame = some X.env.locals) (hN : X.N.Nodup) (hi : X.N[i]? = some n) (hln : X.env.kindOf n = some .local) (tk : Takes X Wout)
    {pins : List (Addr × Obj)} {σ : L2.St} {H : Hp} {cls : Value} {d : Option Addr} {a : Addr} {B : Heap} {sI s : Shared} {D : Ends} (w : Down X pins σ H cls d a B sI s) (q : W D cls d σ H) :
    wpAny (model X.prog X.w) X.A (handleBy (.ref a) X.env hds) (SP X pins D) X.xe s := by
  induction k with
  | nil => exact w.on hs hf tk q
  | cons hc hsu r ih => exact w.clause hf hN hi hln hc (fun oe pn => hsu a oe cls d pn) q ih
/-- try: body / except x1 as n: .. / except x2 as n: .. -/
theorem ps_tryA {body : List Stmt} {h₀ : ExceptHandler} {hds : List ExceptHandler} {pos : Pos} {tb : WX → TS} {W : Ends → WX} (hs : X.stack = X.env :: X.outer) (hf : X.env.frame = some X.env.locals) (hN : X.N.Nodup) (hi : X.N[i]? = some n) (hln : X.env.kindOf n = some .local)
    (tk : Takes X Wout) (hb : ∀ (W : WX) (pn : List (Addr × Obj)) (xe : Value → Shared → Prop), Takes (X.tr pn xe) W → PassesOwn (model X.prog X.w) X.A X.env xe → PSs (X.tr pn xe) body (tb W))
    (k : Clauses X n i Wout (h₀ :: hds) W) : PS X (.Try body (h₀ :: hds) [] [] pos) (fun D σ H => tb (W D) D σ H) := by
  constructor
  intro pins s σ H D I h
  have ok := I.ok
  let out : Value → Shared → Prop := fun e s₁ => wpAny (model X.prog X.w) X.A (noteFrame e X.env)
    (fun _ s₂ => wpAny (model X.prog X.w) X.A (setFlight e none) (fun _ s₃ => wpAny (model X.prog X.w) X.A (handleBy e X.env (h₀ :: hds)) (SP X pins D) X.xe s₃) X.xe s₂) X.xe s₁
  have tks : Takes (X.tr (X.pn ++ pins) out) (W D) := by
    rintro u s' ⟨a, B, sI, pins', σ', H', cls, d, rfl, J, nb, up, sky, na, os, ag, q⟩
    have fr : X.A.frames = some (X.env :: X.outer) := by rw [ok.frames, hs]
    have sky' := sky
    rw [show (X.tr (X.pn ++ pins) out).stack = X.env :: X.outer from hs] at sky'
    refine Sky.land (E₁ := X.xe) Zc.steady fr hf sky' fun h3 fl3 up3 => ?_
    exact k.run hs hf hN hi hln tk (sI := sI) (B := B) ⟨J.ofTry ok, nb, up.trans up3, fl3, na, os, ag⟩ q
  refine wpAny_Try_except (wpAny_mono ((hb (W D) (X.pn ++ pins) out tks PassesOwn.looking).run [] s σ H D (I.toTry _) h) ?_ fun _ _ he => he)
  · intro f s1 r
    cases f with
    | next =>
      obtain ⟨σ', H', J, q⟩ := r
      exact wpAny_execs_nil ⟨σ', H', J.ofTry ok, q⟩
    | ret u =>
      obtain ⟨v, σ', H', J, r', q⟩ := r
      exact ⟨v, σ', H', J.ofTry ok, r', q⟩
    | brk | cont =>
      obtain ⟨σ', H', J, q⟩ := r
      exact ⟨σ', H', J.ofTry ok, q⟩
end
section
variable {X : Cx} {a : Addr} {cls : Value} {d : Option Addr} {oe : Obj} {pn : List (Addr × Obj)}
/-- isinstance of the error of the suite, whatever its class is: an own one that says enough -/
def rIsX (K : PySem.W.Frag) (a : Addr) (cls : Value) (d : Option Addr) : List V → Hp → VK → Prop := fun xs H Q => ∃ D, cls = .ref D ∧ ExcC K D ∧ rIsD K D a d xs H Q
def rIsXT (K : PySem.W.Frag) (a : Addr) (cls : Value) (d : Option Addr) : List V → Hp → VK → Prop := fun xs H Q => ∃ D, cls = .ref D ∧ ExcC K D ∧ rIsDT K D a d xs H Q
theorem call_isX (hz : Zc cls d oe) (hf : ∃ vs, oe.data = .fields vs) : CallR (X.suite a ((a, oe) :: pn)) (.builtin "isinstance") (rIsX X.K a cls d) := by
  rintro pins s σ H xs us Q I r ⟨D, rfl, C, h⟩
  exact call_isD C hz hf pins s σ H xs us Q I r h
theorem call_isXT (hz : Zc cls d oe) (hf : ∃ vs, oe.data = .fields vs) : CallR (X.suite a ((a, oe) :: pn)) (.builtin "isinstance") (rIsXT X.K a cls d) := by
  rintro pins s σ H xs us Q I r ⟨D, rfl, C, h⟩
  exact call_isDT C hz hf pins s σ H xs us Q I r h
end
/-! ### reading a text: by parts, and by a stack -/
def leaf (c : Nat) : T := .node .nil ⟨#[c]⟩ .nil
def isLow (c : Nat) : Bool := decide (97 ≤ c) && decide (c ≤ 122)
inductive Rd where
  | err (i : Nat)
  | ok (t : T) (e : Nat)
def rdS (rd : Nat → Nat → Rd) (t : List Nat) (i room : Nat) : Rd := if t[i]? = some 45 then .ok .nil (i + 1) else rd i room
/-- the reading by parts; n bounds the room -/
def rdT (t : List Nat) : Nat → Nat → Nat → Rd
  | 0, i, _ => .err i
  | n + 1, i, room => match t[i]? with
    | none => .err i
    | some c => if room = 0 ∨ isLow c = false then .err i
      else if t[i + 1]? = some 40 then
        if room = 1 then .err (i + 1)
        else match rdS (rdT t n) t (i + 2) (room - 1) with
          | .err j => .err j
          | .ok l e => if t[e]? = some 44 then
              match (if l.isNil = true then rdT t n (e + 1) (room - 1 - l.size) else rdS (rdT t n) t (e + 1) (room - 1 - l.size)) with
              | .err j => .err j
              | .ok r e' => if t[e']? = some 41 then .ok (.node l ⟨#[c]⟩ r) (e' + 1) else .err e'
            else .err e
      else .ok (leaf c) (i + 1)
abbrev Stk := List (Nat × Option T)
inductive Ans where
  | bad (i : Nat)
  | tree (t : T)
def canMiss : Stk → Bool
  | [] => false
  | (_, none) :: _ => true
  | (_, some l) :: _ => !l.isNil
def T.lab : T → Nat
  | .nil => 0
  | .node _ x _ => x.cps.getD 0 0
/-- the reading by a stack -/
def go : List Nat → Nat → Stk → Option (T × Bool) → Nat → Ans
  | [], i, [], some (x, _), _ => .tree x
  | [], i, _, _, _ => .bad i
  | c :: cs, i, st, none, m =>
    if isLow c = true ∧ m < 12 then go cs (i + 1) st (some (leaf c, true)) (m + 1)
    else if c = 45 ∧ canMiss st = true then go cs (i + 1) st (some (.nil, false)) m
    else .bad i
  | c :: cs, i, st, some (x, f), m =>
    if c = 40 ∧ f = true ∧ m < 12 then go cs (i + 1) ((x.lab, none) :: st) none m
    else match c, st with
      | 44, (a, none) :: r => go cs (i + 1) ((a, some x) :: r) none m
      | 41, (a, some l) :: r => go cs (i + 1) r (some (.node l ⟨#[a]⟩ x, false)) m
      | _, _ => .bad i
theorem drop_some {t : List Nat} {i c : Nat} (h : t[i]? = some c) : t.drop i = c :: t.drop (i + 1) := by
  obtain ⟨h1, h2⟩ := List.getElem?_eq_some_iff.mp h
  rw [List.drop_eq_getElem_cons h1, h2]
theorem drop_none {t : List Nat} {i : Nat} (h : t[i]? = none) : t.drop i = [] := List.drop_eq_nil_of_le (List.getElem?_eq_none_iff.mp h)
theorem low_not {c : Nat} (h : isLow c = true) : c ≠ 40 ∧ c ≠ 41 ∧ c ≠ 44 ∧ c ≠ 45 := by
  unfold isLow at h
  rw [Bool.and_eq_true, decide_eq_true_eq, decide_eq_true_eq] at h
  omega
/-- the place behind is in the text, the tree is within the room -/
theorem rdT_ok (t : List Nat) : ∀ (n i room : Nat), i ≤ t.length → (∀ x e, rdT t n i room = .ok x e → e ≤ t.length ∧ 1 ≤ x.size ∧ x.size ≤ room ∧ x.lt)
    ∧ ∀ x e, rdS (rdT t n) t i room = .ok x e → e ≤ t.length ∧ x.size ≤ room ∧ x.lt
  | n, i, room, hi => by
    have hT : ∀ x e, rdT t n i room = .ok x e → e ≤ t.length ∧ 1 ≤ x.size ∧ x.size ≤ room ∧ x.lt := by
      intro x e h
      cases n with
      | zero => cases h
      | succ n =>
        unfold rdT at h
        split at h
        · cases h
        · rename_i c hc
          have hi1 : i + 1 ≤ t.length := (List.getElem?_eq_some_iff.mp hc).1
          split at h
          · cases h
          · rename_i hr
            have hr0 : room ≠ 0 := fun z => hr (.inl z)
            have hlow : isLow c = true := by
              cases q : isLow c with
              | true => rfl
              | false => exact absurd (.inr q) hr
            have hltr : Ltr ⟨#[c]⟩ := by
              unfold isLow at hlow
              rw [Bool.and_eq_true, decide_eq_true_eq, decide_eq_true_eq] at hlow
              exact ⟨c, hlow.1, hlow.2, rfl⟩
            have hnil : T.nil.lt := fun _ h => nomatch h
            have mk : ∀ l r : T, l.lt → r.lt → (T.node l ⟨#[c]⟩ r).lt := fun l r h1 h3 y hy => by
              rcases List.mem_append.mp hy with hy | hy
              · exact h1 y hy
              · rcases List.mem_cons.mp hy with rfl | hy
                · exact hltr
                · exact h3 y hy
            split at h
            · rename_i h40
              have hi2 : i + 2 ≤ t.length := (List.getElem?_eq_some_iff.mp h40).1
              split at h
              · cases h
              · split at h
                · cases h
                · rename_i l e1 hl
                  obtain ⟨a1, a2, a3⟩ := (rdT_ok t n (i + 2) (room - 1) hi2).2 _ _ hl
                  split at h
                  · rename_i h44
                    have he1 : e1 + 1 ≤ t.length := (List.getElem?_eq_some_iff.mp h44).1
                    split at h
                    · cases h
                    · rename_i r e2 hr2
                      have b : e2 ≤ t.length ∧ r.size ≤ room - 1 - l.size ∧ r.lt := by
                        split at hr2
                        · obtain ⟨q1, q2, q3, q4⟩ := (rdT_ok t n (e1 + 1) (room - 1 - l.size) he1).1 _ _ hr2
                          exact ⟨q1, q3, q4⟩
                        · exact (rdT_ok t n (e1 + 1) (room - 1 - l.size) he1).2 _ _ hr2
                      split at h
                      · rename_i h41
                        cases h
                        have he2 : e2 + 1 ≤ t.length := (List.getElem?_eq_some_iff.mp h41).1
                        refine ⟨he2, ?_, ?_, mk _ _ a3 b.2.2⟩
                        · show 1 ≤ l.size + 1 + r.size
                          omega
                        · show l.size + 1 + r.size ≤ room
                          omega
                      · cases h
                  · cases h
            · cases h
              refine ⟨hi1, Nat.le_refl _, by show 0 + 1 + 0 ≤ room; omega, mk _ _ hnil hnil⟩
    refine ⟨hT, fun x e h => ?_⟩
    unfold rdS at h
    split at h
    · rename_i h45
      cases h
      exact ⟨(List.getElem?_eq_some_iff.mp h45).1, Nat.zero_le _, fun _ h => nomatch h⟩
    · obtain ⟨q1, q2, q3, q4⟩ := hT x e h
      exact ⟨q1, q3, q4⟩
  termination_by n => n
/-- what the stack does behind a part that is read -/
def GoAs (t : List Nat) (st : Stk) (m : Nat) (i : Nat) : Rd → Prop
  | .err j => go (t.drop i) i st none m = .bad j
  | .ok x e => ∃ f : Bool, (f = true → t[e]? ≠ some 40) ∧ go (t.drop i) i st none m = go (t.drop e) e st (some (x, f)) (m + x.size)
theorem go_no {c : Nat} {cs : List Nat} {i : Nat} {st : Stk} {x : T} {f : Bool} {m : Nat} (h : ¬ (c = 40 ∧ f = true ∧ m < 12)) (h1 : c = 44 → ∀ a r, st ≠ (a, none) :: r) (h2 : c = 41 → ∀ a l r, st ≠ (a, some l) :: r) :
    go (c :: cs) i st (some (x, f)) m = .bad i := by
  unfold go
  rw [if_neg h]
  split
  · exact absurd rfl (h1 rfl _ _)
  · exact absurd rfl (h2 rfl _ _ _)
  · rfl
theorem go_end {t : List Nat} {e : Nat} {a : Nat} {o : Option T} {r : Stk} {x : T} {f : Bool} {m : Nat} (hf : f = true → t[e]? ≠ some 40) (h1 : o = none → t[e]? ≠ some 44) (h2 : o ≠ none → t[e]? ≠ some 41) :
    go (t.drop e) e ((a, o) :: r) (some (x, f)) m = .bad e := by
  cases h : t[e]? with
  | none => rw [drop_none h]; rfl
  | some c =>
    rw [drop_some h]
    refine go_no (fun z => hf z.2.1 (by rw [h, z.1])) (fun e1 a' r' e2 => ?_) (fun e1 a' l' r' e2 => ?_)
    · cases e2
      exact h1 rfl (by rw [h, e1])
    · cases e2
      exact h2 (fun z => nomatch z) (by rw [h, e1])
theorem go_rd (t : List Nat) : ∀ (n i room m : Nat) (st : Stk), room < n → room + m = 12 →
    ((canMiss st = false ∨ t[i]? ≠ some 45) → GoAs t st m i (rdT t n i room)) ∧ (canMiss st = true → GoAs t st m i (rdS (rdT t n) t i room))
  | 0, i, room, m, st, h, _ => absurd h (Nat.not_lt_zero _)
  | n + 1, i, room, m, st, hn, hm => by
    have hT : (canMiss st = false ∨ t[i]? ≠ some 45) → GoAs t st m i (rdT t (n + 1) i room) := by
      intro hs
      unfold rdT
      cases hc : t[i]? with
      | none =>
        show go (t.drop i) i st none m = .bad i
        rw [drop_none hc]
        cases st <;> rfl
      | some c =>
        dsimp only
        by_cases hr : room = 0 ∨ isLow c = false
        · rw [if_pos hr]
          show go (t.drop i) i st none m = .bad i
          rw [drop_some hc]
          unfold go
          rw [if_neg (fun z => hr.elim (fun q => by omega) fun q => by rw [q] at z; exact absurd z.1 Bool.false_ne_true), if_neg (fun z => by
            rcases hs with hs | hs
            · rw [hs] at z; exact absurd z.2 Bool.false_ne_true
            · exact hs (by rw [hc, z.1]))]
        · rw [if_neg hr]
          have hr0 : room ≠ 0 := fun z => hr (.inl z)
          have hlow : isLow c = true := by
            cases q : isLow c with
            | true => rfl
            | false => exact absurd (.inr q) hr
          have first : go (t.drop i) i st none m = go (t.drop (i + 1)) (i + 1) st (some (leaf c, true)) (m + 1) := by
            rw [drop_some hc]
            conv => lhs; unfold go
            rw [if_pos ⟨hlow, by omega⟩]
          by_cases h40 : t[i + 1]? = some 40
          · rw [if_pos h40]
            by_cases h1 : room = 1
            · rw [if_pos h1]
              show go (t.drop i) i st none m = .bad (i + 1)
              rw [first, drop_some h40]
              exact go_no (fun z => by omega) (fun z => by omega) (fun z => by omega)
            · rw [if_neg h1]
              have second : go (t.drop i) i st none m = go (t.drop (i + 2)) (i + 2) ((c, none) :: st) none (m + 1) := by
                rw [first, drop_some h40]
                conv => lhs; unfold go
                rw [if_pos ⟨rfl, rfl, by omega⟩]
                rfl
              have ih := (go_rd t n (i + 2) (room - 1) (m + 1) ((c, none) :: st) (by omega) (by omega)).2 rfl
              cases hl : rdS (rdT t n) t (i + 2) (room - 1) with
              | err j =>
                rw [hl] at ih
                show go (t.drop i) i st none m = .bad j
                rw [second]
                exact ih
              | ok l e =>
                rw [hl] at ih
                obtain ⟨f, hf, ih⟩ := ih
                have hi2 : i + 2 ≤ t.length := (List.getElem?_eq_some_iff.mp h40).1
                have hsz := (rdT_ok t n (i + 2) (room - 1) hi2).2 _ _ hl
                dsimp only
                by_cases h44 : t[e]? = some 44
                · rw [if_pos h44]
                  have third : go (t.drop i) i st none m = go (t.drop (e + 1)) (e + 1) ((c, some l) :: st) none (m + 1 + l.size) := by
                    rw [second, ih, drop_some h44]
                    conv => lhs; unfold go
                    rw [if_neg (fun z => by have := z.1; omega)]
                    rfl
                  have ih2 := go_rd t n (e + 1) (room - 1 - l.size) (m + 1 + l.size) ((c, some l) :: st) (by omega) (by omega)
                  have ih3 : GoAs t ((c, some l) :: st) (m + 1 + l.size) (e + 1) (if l.isNil = true then rdT t n (e + 1) (room - 1 - l.size) else rdS (rdT t n) t (e + 1) (room - 1 - l.size)) := by
                    by_cases hnl : l.isNil = true
                    · rw [if_pos hnl]
                      exact ih2.1 (.inl (by show (!l.isNil) = false; rw [hnl]; rfl))
                    · rw [if_neg hnl]
                      refine ih2.2 ?_
                      show (!l.isNil) = true
                      cases q : l.isNil with
                      | true => exact absurd q hnl
                      | false => rfl
                  cases hr2 : (if l.isNil = true then rdT t n (e + 1) (room - 1 - l.size) else rdS (rdT t n) t (e + 1) (room - 1 - l.size)) with
                  | err j =>
                    rw [hr2] at ih3
                    show go (t.drop i) i st none m = .bad j
                    rw [third]
                    exact ih3
                  | ok r e2 =>
                    rw [hr2] at ih3
                    obtain ⟨f2, hf2, ih3⟩ := ih3
                    dsimp only
                    by_cases h41 : t[e2]? = some 41
                    · rw [if_pos h41]
                      refine ⟨false, (fun z => nomatch z), ?_⟩
                      rw [third, ih3, drop_some h41]
                      conv => lhs; unfold go
                      rw [if_neg (fun z => by have := z.1; omega)]
                      show go _ _ st (some (T.node l ⟨#[c]⟩ r, false)) (m + 1 + l.size + r.size) = go _ _ _ _ (m + (l.size + 1 + r.size))
                      rw [show m + 1 + l.size + r.size = m + (l.size + 1 + r.size) by omega]
                    · rw [if_neg h41]
                      show go (t.drop i) i st none m = .bad e2
                      rw [third, ih3]
                      exact go_end hf2 (fun z => nomatch z) (fun _ => h41)
                · rw [if_neg h44]
                  show go (t.drop i) i st none m = .bad e
                  rw [second, ih]
                  exact go_end hf (fun _ => h44) (fun z => absurd rfl z)
          · rw [if_neg h40]
            exact ⟨true, fun _ => h40, first⟩
    refine ⟨hT, fun hs => ?_⟩
    unfold rdS
    by_cases h45 : t[i]? = some 45
    · rw [if_pos h45]
      refine ⟨false, fun z => (nomatch z), ?_⟩
      rw [drop_some h45]
      conv => lhs; unfold go
      rw [if_neg (fun z => by have := (low_not z.1).2.2.2; exact this rfl), if_pos ⟨rfl, hs⟩]
      rfl
    · rw [if_neg h45]
      exact hT (.inr h45)
/-- what parse_tree answers -/
def parsed (t : List Nat) : Ans := match rdT t 13 0 12 with
  | .err j => .bad j
  | .ok x e => if e < t.length then .bad e else .tree x
theorem parsed_eq (t : List Nat) : go t 0 [] none 0 = parsed t := by
  have h := (go_rd t 13 0 12 0 [] (by omega) rfl).1 (.inl rfl)
  unfold parsed
  cases q : rdT t 13 0 12 with
  | err j =>
    rw [q] at h
    exact h
  | ok x e =>
    rw [q] at h
    obtain ⟨f, hf, h⟩ := h
    have h : go t 0 [] none 0 = go (t.drop e) e [] (some (x, f)) (0 + x.size) := h
    rw [h]
    dsimp only
    by_cases he : e < t.length
    · rw [if_pos he]
      have hc := List.getElem?_eq_getElem he
      rw [drop_some hc]
      exact go_no (fun z => hf z.2.1 (by rw [hc, z.1])) (fun _ _ _ z => nomatch z) (fun _ _ _ _ z => nomatch z)
    · rw [if_neg he, List.drop_eq_nil_of_le (by omega)]
      rfl
/-! ### the reading of a text by the program -/
structure DfX (P : Program) (w : World) (K : PySem.W.Frag) (mg : Str → Option Value) (base : Heap) (k : Nat) (nm : Str) (ps : List Str) (sp : Sp) where
  f : Addr
  fd : FuncData
  ok : FnOk P w K mg base (L2.CX P w) k f fd ps sp
  b : Binds K fd ps []
  kp : PySem.W.keepIn K (.ref f) = true
  g : mg nm = some (.ref f)
theorem iteI {i j : Int} {A B : Prop} (h : i = j) (a : A) : if decide (V.int i = V.int j) = true then A else B := by
  rw [if_pos (decide_eq_true (congrArg V.int h))]; exact a
theorem iteJ {i j : Int} {A B : Prop} (h : i ≠ j) (b : B) : if decide (V.int i = V.int j) = true then A else B := by
  rw [if_neg (fun z => h (V.int.inj (of_decide_eq_true z)))]; exact b
def sg (t : List Nat) (i : Nat) : List Nat := (t.drop i).take 1
theorem sg_some {t : List Nat} {i c : Nat} (h : t[i]? = some c) : sg t i = [c] := by
  unfold sg
  rw [drop_some h]
  rfl
theorem sg_none {t : List Nat} {i : Nat} (h : t[i]? = none) : sg t i = [] := by
  unfold sg
  rw [drop_none h]
  rfl
theorem sg_eq {t : List Nat} {i c : Nat} {y : Str} (hy : y = tx [c]) : decide (V.str (tx (sg t i)) = V.str y) = decide (t[i]? = some c) := by
  subst hy
  cases h : t[i]? with
  | none =>
    rw [sg_none h, decide_eq_false (fun z => absurd (tx_inj (V.str.inj z)) (by simp)), decide_eq_false (fun z => nomatch z)]
  | some d =>
    rw [sg_some h]
    by_cases e : d = c
    · subst e
      rw [decide_eq_true rfl, decide_eq_true rfl]
    · rw [decide_eq_false (fun z => e (by have := tx_inj (V.str.inj z); injection this)), decide_eq_false (fun z => e (by injection z))]
theorem sg_ne {t : List Nat} {i c : Nat} {y : Str} (hy : y = tx [c]) : (!decide (V.str (tx (sg t i)) = V.str y)) = !decide (t[i]? = some c) := by rw [sg_eq hy]
theorem tx_sl (l : List Nat) (i j : Nat) (h : i ≤ j) : cutS (tx l) (some (i : Int)) (some (j : Int)) = tx ((l.drop i).take (j - i)) := by
  unfold cutS tx
  show (⟨_⟩ : Str) = ⟨_⟩
  rw [HT.sIx_nat, HT.sIx_nat]
  show (⟨((l.drop (min i l.length)).take (min j l.length - min i l.length)).toArray⟩ : Str) = _
  by_cases hi : i ≤ l.length
  · rw [Nat.min_eq_left hi]
    by_cases hj : j ≤ l.length
    · rw [Nat.min_eq_left hj]
    · rw [Nat.min_eq_right (by omega), List.take_of_length_le (by rw [List.length_drop]; omega), List.take_of_length_le (by rw [List.length_drop]; omega)]
  · rw [Nat.min_eq_right (show l.length ≤ i by omega), List.drop_eq_nil_of_le (Nat.le_refl _), List.drop_eq_nil_of_le (by omega), List.take_nil, List.take_nil]
def isLt : List Nat → Bool
  | [c] => isLow c
  | _ => false
def spSgn : Sp := fun vs H Q _ => ∃ (t : List Nat) (i : Nat), vs = [.str (tx t), .int (i : Int)] ∧ t.length ≤ 5000 ∧ Q (.str (tx (sg t i))) H
def spLow : Sp := fun vs H Q _ => ∃ l : List Nat, vs = [.str (tx l)] ∧ l.length ≤ 1 ∧ Q (.bl (isLt l)) H
def spSz (n : Nat) : Sp := fun vs H Q _ => ∃ (v : V) (t : T), vs = [v] ∧ TreeAt H v t ∧ t.size < n ∧ Q (.int (t.size : Int)) H
/-- what a reader does: an error with the place, or the tree and the place behind it -/
def RdTo (C : Addr) (H : Hp) (Q : VK) (E : XK) : Rd → Prop
  | .err i => ∀ (H' : Hp) (p : Addr), Same H H' → H' p = none → E (.ref C) (some p) (upd H' p (.xd [(("index" : Str), .int (i : Int))]))
  | .ok x e => ∀ (v : V) (p : Addr) (H' : Hp), Same H H' → TreeAt H' v x → H' p = some (.tup [v, .int (e : Int)]) → Q (.ref p) H'
def spRead (C : Addr) (n : Nat) : Sp := fun vs H Q E => ∃ (t : List Nat) (i room : Nat), vs = [.str (tx t), .int (i : Int), .int (room : Int)] ∧ t.length ≤ 5000 ∧ i ≤ t.length ∧ room < n ∧ n ≤ 13 ∧ RdTo C H Q E (rdT t n i room)
def spSideR (C : Addr) (n : Nat) : Sp := fun vs H Q E => ∃ (t : List Nat) (i room : Nat), vs = [.str (tx t), .int (i : Int), .int (room : Int)] ∧ t.length ≤ 5000 ∧ i ≤ t.length ∧ room < n ∧ n ≤ 13 ∧ RdTo C H Q E (rdS (rdT t n) t i room)
def lfR (t : List Nat) : Rd → Rd
  | .err i => .err i
  | .ok x e => if t[e]? = some 44 then .ok x e else .err e
def spLeftR (C : Addr) (n : Nat) : Sp := fun vs H Q E => ∃ (t : List Nat) (i room : Nat), vs = [.str (tx t), .int (i : Int), .int (room : Int)] ∧ t.length ≤ 5000 ∧ i ≤ t.length ∧ room < n ∧ n ≤ 13 ∧ RdTo C H Q E (lfR t (rdS (rdT t n) t i room))
section
variable {P : Program} {w : World} {K : PySem.W.Frag} {mg : Str → Option Value} {base : Heap} {f : Addr} {fd : FuncData} {C fI : Addr} {qn : Str}
theorem ok_sign {k : Nat} (F : Fun K "sign_at" "sign_at" s_sign_at f fd) : FnOk P w K mg base CX0 (k + 1) f fd ["text", "at"] spSgn := by
  refine F.ok sc_sign_at (fun vs H Q E h => ?_) (fun cdv A outer s H vs Q E hr h => ?_)
  · obtain ⟨t, i, rfl, _⟩ := h
    rfl
  obtain ⟨t, i, rfl, ht, q⟩ := h
  refine ⟨_, (pss_one (ps_ret (pe_slice sl_str (pv 0) (po_some (pv 1)) (po_some (pe_op op_add (pv 1) pe_int))))), ?_⟩
  refine ⟨_, rfl, _, rfl, _, rfl, _, rfl, _, _, rfl, rfl, _, rfl, _, rfl, Nat.le_trans (show (tx t).length ≤ 5000 from ht) (by decide), ?_⟩
  have e : (i : Int) + 1 = ((i + 1 : Nat) : Int) := by omega
  rw [e, tx_sl t i (i + 1) (by omega), show i + 1 - i = 1 by omega]
  exact q
theorem ok_low {k : Nat} (F : Fun K "is_letter" "is_letter" s_is_letter f fd) (M : Mgs mg) : FnOk P w K mg base CX0 (k + 1) f fd ["value"] spLow := by
  refine F.ok sc_is_letter (fun vs H Q E h => ?_) (fun cdv A outer s H vs Q E hr h => ?_)
  · obtain ⟨l, rfl, _⟩ := h
    rfl
  obtain ⟨l, rfl, hl, q⟩ := h
  refine ⟨_, (pss_one (ps_ret (pe_and (pe_callB call_isi rfl M.isi (by decide +kernel) (pa_cons (pv 0) (pa_cons (pe_bltn (v := .ty "str") rfl M.str (by decide +kernel) rfl) pa_nil))) (pe_and (pe_cmpR op_eq (pe_callB call_len_str rfl M.len PySem.boot_len (pa_cons (pv 0) pa_nil)) pe_int (nomark _)) (pe_one (pe_chain op_le_str op_le_str pe_str (pv 0) pe_str)))))), ?_⟩
  refine ⟨_, rfl, _, _, _, _, true, rfl, .ty _, .base (.str (tx l)), kit_ty (by decide +kernel), _, rfl, iteT ?_⟩
  refine ⟨_, rfl, tx l, rfl, small (by rw [tx_len]; omega), rfl, _, rfl, ?_⟩
  match l, hl, q with
  | [], _, q => exact iteF q
  | [c], _, q =>
    rw [show decide (V.int ((tx [c]).length : Nat) = V.int 1) = true from rfl]
    refine iteT ⟨_, rfl, _, _, rfl, rfl, _, rfl, ?_⟩
    have e1 : (!decide ((tx [c]).cps.toList < (Str.ofString "a").cps.toList)) = decide (97 ≤ c) := by
      rw [show (Str.ofString "a").cps.toList = [97] by decide +kernel, show (tx [c]).cps.toList = [c] from rfl]
      by_cases h : c < 97
      · rw [decide_eq_true (by simp [List.cons_lt_cons_iff, h]), decide_eq_false (by omega)]; rfl
      · rw [decide_eq_false (by simp [List.cons_lt_cons_iff, h]), decide_eq_true (by omega)]; rfl
    have e2 : (!decide ((Str.ofString "z").cps.toList < (tx [c]).cps.toList)) = decide (c ≤ 122) := by
      rw [show (Str.ofString "z").cps.toList = [122] by decide +kernel, show (tx [c]).cps.toList = [c] from rfl]
      by_cases h : 122 < c
      · rw [decide_eq_true (by simp [List.cons_lt_cons_iff, h]), decide_eq_false (by omega)]; rfl
      · rw [decide_eq_false (by simp [List.cons_lt_cons_iff, h]), decide_eq_true (by omega)]; rfl
    rw [e1]
    have q : Q (.bl (decide (97 ≤ c) && decide (c ≤ 122))) H := q
    by_cases h : 97 ≤ c
    · rw [decide_eq_true h] at q ⊢
      refine iteT ⟨_, _, rfl, rfl, ?_⟩
      rw [e2]
      exact q
    · rw [decide_eq_false h] at q ⊢
      exact iteF q
theorem ok_size (F : Fun K "size_of" "size_of" s_size_of f fd) (b : Binds K fd ["tree"] []) (g : mg "size_of" = some (.ref f)) : ∀ n : Nat, FnOk P w K mg base CX0 n f fd ["tree"] (spSz n)
  | 0 => by
    have no : ∀ vs H Q E, ¬ spSz 0 vs H Q E := fun vs H Q E h => by
      obtain ⟨v, t, _, _, h1, _⟩ := h
      omega
    exact ⟨fun vs H Q E h => absurd h (no vs H Q E), fun A outer s H args us vs Q E _ _ _ _ h => absurd h (no vs H Q E)⟩
  | n + 1 => by
    have Dself : Df P w K mg base n "size_of" ["tree"] (spSz n) := ⟨f, fd, ok_size F b g n, b, F.kp, g⟩
    refine F.ok sc_size_of (fun vs H Q E h => ?_) (fun cdv A outer s H vs Q E hr h => ?_)
    · obtain ⟨v, t, rfl, _⟩ := h
      rfl
    obtain ⟨v, t, rfl, hv, hn, q⟩ := h
    refine ⟨_, (pss_cons (ps_if (pt_cmpR op_isN (pv 0) pe_non (nomark _))
      (pss_one (ps_ret pe_int)) pss_nil)
    (pss_one (ps_ret (pe_op op_add (pe_op op_add (pe_call Dself.ok (hr.mono (by omega)) rfl Dself.g Dself.kp Dself.b .nil pass0 (pa_cons (pe_ix ix_tup (pv 0) pe_int (fun _ _ => rfl)) pa_nil)) pe_int) (pe_call Dself.ok (hr.mono (by omega)) rfl Dself.g Dself.kp Dself.b .nil pass0 (pa_cons (pe_ix ix_tup (pv 0) pe_int (fun _ _ => rfl)) pa_nil)))))), ?_⟩
    rcases hv.inv with ⟨rfl, rfl⟩ | ⟨a, l, r, x, tl, tr, rfl, rfl, ea, hl, hr'⟩
    · exact ⟨_, rfl, rfl, _, rfl, iteT q⟩
    · refine ⟨_, rfl, rfl, _, rfl, iteF ?_⟩
      have hz : tl.size + 1 + tr.size < n + 1 := hn
      refine ⟨_, rfl, a, _, 0, l, rfl, rfl, SqT.of ea, atI_nat (j := 0) rfl, l, tl, rfl, hl, by omega, _, _, rfl, rfl, _, rfl, a, _, 2, r, rfl, rfl, SqT.of ea, atI_nat (j := 2) rfl, r, tr, rfl, hr', by omega, _, _, rfl, rfl, ?_⟩
      have e : (tl.size : Int) + 1 + (tr.size : Int) = ((tl.size + 1 + tr.size : Nat) : Int) := by omega
      show Q (.int ((tl.size : Int) + 1 + (tr.size : Int))) H
      rw [e]
      exact q
/-! ### read_tree and its helpers -/
theorem ok_sideR (F : Fun K "read_side" "read_side" s_read_side f fd) {n k : Nat} (Dsign_at : Df P w K mg base 1 "sign_at" ["text", "at"] spSgn) (Dread_tree : DfX P w K mg base k "read_tree" ["text", "at", "room"] (spRead C n)) (hk : 1 ≤ k) : FnOk P w K mg base (L2.CX P w) (k + 1) f fd ["text", "at", "room"] (spSideR C n) := by
  refine F.okX sc_read_side (fun vs H Q E h => ?_) (fun cdv A outer s H vs Q E hr h => ?_)
  · obtain ⟨t, i, room, rfl, _⟩ := h
    rfl
  obtain ⟨t, i, room, rfl, ht, hi, hn, h13, q⟩ := h
  refine ⟨_, (pss_cons (ps_if (pt_cmpR op_eq (pe_call Dsign_at.ok (hr.mono (by omega)) rfl Dsign_at.g Dsign_at.kp Dsign_at.b .nil pass0 (pa_cons (pv 0) (pa_cons (pv 1) pa_nil))) pe_str (nomark _))
      (pss_one (ps_ret (pe_tup (pa_cons pe_non (pa_cons (pe_op op_add (pv 1) pe_int) pa_nil))))) pss_nil)
    (pss_one (ps_ret (pe_callS Dread_tree.ok (hr.mono (by omega)) rfl Dread_tree.g Dread_tree.kp Dread_tree.b (fun σ => passAt (takes_of rfl rfl rfl rfl) σ) (pa_cons (pv 0) (pa_cons (pv 1) (pa_cons (pv 2) pa_nil))))))), ?_⟩
  refine ⟨_, rfl, _, rfl, t, i, rfl, ht, rfl, _, rfl, ?_⟩
  rw [sg_eq (show Str.ofString "-" = tx [45] by decide +kernel)]
  unfold rdS at q
  by_cases h : t[i]? = some 45
  · rw [if_pos h] at q
    rw [decide_eq_true h]
    refine iteT ⟨_, rfl, _, _, rfl, rfl, (by show 2 ≤ sizeLine; decide), fun p np => ?_⟩
    have e : (i : Int) + 1 = ((i + 1 : Nat) : Int) := by omega
    refine q .non p _ (same_new np _) .nil ?_
    show upd H p (.tup [V.non, V.int ((i : Int) + 1)]) p = _
    rw [upd_same, e]
  · rw [if_neg h] at q
    rw [decide_eq_false h]
    exact iteF ⟨_, rfl, _, rfl, _, rfl, t, i, room, rfl, ht, hi, hn, h13, q⟩
theorem ok_leftR (F : Fun K "read_left" "read_left" s_read_left f fd) (hE : Err_index K mg "ValueError.__new__" veT "BadText" qn C fI) {n k : Nat} (Dsign_at : Df P w K mg base 1 "sign_at" ["text", "at"] spSgn) (Dread_side : DfX P w K mg base k "read_side" ["text", "at", "room"] (spSideR C n)) (hk : 1 ≤ k) :
    FnOk P w K mg base (L2.CX P w) (k + 1) f fd ["text", "at", "room"] (spLeftR C n) := by
  refine F.okX sc_read_left (fun vs H Q E h => ?_) (fun cdv A outer s H vs Q E hr h => ?_)
  · obtain ⟨t, i, room, rfl, _⟩ := h
    rfl
  obtain ⟨t, i, room, rfl, ht, hi, hn, h13, q⟩ := h
  refine ⟨_, (pss_cons (ps_asg (pe_callS Dread_side.ok (hr.mono (by omega)) rfl Dread_side.g Dread_side.kp Dread_side.b (fun σ => passAt (takes_of rfl rfl rfl rfl) σ) (pa_cons (pv 0) (pa_cons (pv 1) (pa_cons (pv 2) pa_nil)))) (pg_tup rfl (pgs_cons (pg_name (i := 3) sc_read_left.nd rfl (.inl rfl)) (pgs_cons (pg_name (i := 4) sc_read_left.nd rfl (.inl rfl)) pgs_nil))))
    (pss_cons (ps_if (pt_cmpR op_ne (pe_call Dsign_at.ok (hr.mono (by omega)) rfl Dsign_at.g Dsign_at.kp Dsign_at.b .nil pass0 (pa_cons (pv 0) (pa_cons (pv 4) pa_nil))) pe_str (nomark _))
      (pss_one (ps_raise_index rfl famV hE hr (takes_of rfl rfl rfl rfl) (pa_cons (pv 4) pa_nil) rfl)) pss_nil)
    (pss_one (ps_ret (pe_tup (pa_cons (pv 3) (pa_cons (pv 4) pa_nil))))))), ?_⟩
  refine ⟨_, rfl, _, rfl, _, rfl, t, i, room, rfl, ht, hi, hn, h13, ?_⟩
  have z := (rdT_ok t n i room hi).2
  cases hs : rdS (rdT t n) t i room with
  | err j =>
    rw [hs] at q
    exact q
  | ok x e =>
    rw [hs] at q z
    obtain ⟨z1, z2, z3⟩ := z x e rfl
    intro v p H1 s1 a1 ep
    refine ⟨p, _, rfl, SqT.of ep, rfl, v, _, rfl, .int (e : Int), _, rfl, rfl, ?_⟩
    refine ⟨_, rfl, _, rfl, t, e, rfl, ht, rfl, _, rfl, ?_⟩
    rw [sg_ne (show Str.ofString "," = tx [44] by decide +kernel)]
    by_cases h : t[e]? = some 44
    · rw [decide_eq_true h]
      refine iteF ⟨_, rfl, _, rfl, (by show 2 ≤ sizeLine; decide), fun r nr => ?_⟩
      have q1 := same_new nr (.tup [v, .int (e : Int)])
      have q' : RdTo C H Q E (if t[e]? = some 44 then .ok x e else .err e) := q
      rw [if_pos h] at q'
      exact q' v r _ (s1.trans q1) (a1.same q1) upd_same
    · rw [decide_eq_false h]
      have q' : RdTo C H Q E (if t[e]? = some 44 then .ok x e else .err e) := q
      rw [if_neg h] at q'
      exact iteT ⟨_, rfl, _, rfl, fun r nr => q' H1 r s1 nr⟩
theorem rd_err {t : List Nat} {n i room : Nat} (h : room = 0 ∨ isLt (sg t i) = false) : rdT t (n + 1) i room = .err i := by
  unfold rdT
  cases hc : t[i]? with
  | none => rfl
  | some c =>
    rw [sg_some hc] at h
    exact if_pos h
theorem rd_low {t : List Nat} {i : Nat} (h : isLt (sg t i) = true) : ∃ c, t[i]? = some c ∧ isLow c = true := by
  cases hc : t[i]? with
  | none =>
    rw [sg_none hc] at h
    exact absurd h Bool.false_ne_true
  | some c =>
    rw [sg_some hc] at h
    exact ⟨c, rfl, h⟩
theorem rd_leaf {t : List Nat} {n i room c : Nat} (h : room ≠ 0) (hc : t[i]? = some c) (hl : isLow c = true) (h40 : t[i + 1]? ≠ some 40) : rdT t (n + 1) i room = .ok (leaf c) (i + 1) := by
  unfold rdT
  rw [hc]
  dsimp only
  rw [if_neg (fun z => z.elim h fun z => by rw [hl] at z; cases z), if_neg h40]
theorem rd_full {t : List Nat} {n i c : Nat} (hc : t[i]? = some c) (hl : isLow c = true) (h40 : t[i + 1]? = some 40) : rdT t (n + 1) i 1 = .err (i + 1) := by
  unfold rdT
  rw [hc]
  dsimp only
  rw [if_neg (fun z => z.elim (fun z => by cases z) fun z => by rw [hl] at z; cases z), if_pos h40, if_pos rfl]
def rdR (t : List Nat) (n room c : Nat) : Rd → Rd
  | .err j => .err j
  | .ok l e => match (if l.isNil = true then rdT t n (e + 1) (room - 1 - l.size) else rdS (rdT t n) t (e + 1) (room - 1 - l.size)) with
    | .err j => .err j
    | .ok r e' => if t[e']? = some 41 then .ok (.node l ⟨#[c]⟩ r) (e' + 1) else .err e'
theorem rd_more {t : List Nat} {n i room c : Nat} (h0 : room ≠ 0) (h1 : room ≠ 1) (hc : t[i]? = some c) (hl : isLow c = true) (h40 : t[i + 1]? = some 40) :
    rdT t (n + 1) i room = rdR t n room c (lfR t (rdS (rdT t n) t (i + 2) (room - 1))) := by
  conv => lhs; unfold rdT
  rw [hc]
  dsimp only
  rw [if_neg (fun z => z.elim h0 fun z => by rw [hl] at z; cases z), if_pos h40, if_neg h1]
  cases rdS (rdT t n) t (i + 2) (room - 1) with
  | err j => rfl
  | ok l e =>
    show (if t[e]? = some 44 then _ else _) = rdR t n room c (if t[e]? = some 44 then .ok l e else .err e)
    by_cases h : t[e]? = some 44
    · rw [if_pos h, if_pos h]
      rfl
    · rw [if_neg h, if_neg h]
      rfl
theorem ok_read0 (F : Fun K "read_tree" "read_tree" s_read_tree f fd) (M : Mgs mg) (hE : Err_index K mg "ValueError.__new__" veT "BadText" qn C fI) {n k : Nat} (hk : 20 ≤ k) (Dsign_at : Df P w K mg base 1 "sign_at" ["text", "at"] spSgn) (Dis_letter : Df P w K mg base 1 "is_letter" ["value"] spLow)
    (Dsize_of : Df P w K mg base 20 "size_of" ["tree"] (spSz 20)) (Dread_tree : DfX P w K mg base k "read_tree" ["text", "at", "room"] (spRead C n)) (Dread_side : DfX P w K mg base (k + 1) "read_side" ["text", "at", "room"] (spSideR C n)) (Dread_left : DfX P w K mg base (k + 2) "read_left" ["text", "at", "room"] (spLeftR C n)) :
    FnOk P w K mg base (L2.CX P w) (k + 3) f fd ["text", "at", "room"] (spRead C (n + 1)) := by
  refine F.okX sc_read_tree (fun vs H Q E h => ?_) (fun cdv A outer s H vs Q E hr h => ?_)
  · obtain ⟨t, i, room, rfl, _⟩ := h
    rfl
  obtain ⟨t, i, room, rfl, ht, hi, hn, h13, q⟩ := h
  refine ⟨_, (pss_cons (ps_set (i := 3) sc_read_tree.nd rfl (.inl rfl) (pe_call Dsign_at.ok (hr.mono (by omega)) rfl Dsign_at.g Dsign_at.kp Dsign_at.b .nil pass0 (pa_cons (pv 0) (pa_cons (pv 1) pa_nil))))
    (pss_cons (ps_if (PW.pt (pw_or (pt_cmpR op_eq (pv 2) pe_int (nomark _)) (pw_or1 (pt_not (pt_val (pe_call Dis_letter.ok (hr.mono (by omega)) rfl Dis_letter.g Dis_letter.kp Dis_letter.b .nil pass0 (pa_cons (pv 3) pa_nil)))))))
      (pss_one (ps_raise_index rfl famV hE hr (takes_of rfl rfl rfl rfl) (pa_cons (pv 1) pa_nil) rfl)) pss_nil)
    (pss_cons (ps_if (pt_cmpR op_ne (pe_call Dsign_at.ok (hr.mono (by omega)) rfl Dsign_at.g Dsign_at.kp Dsign_at.b .nil pass0 (pa_cons (pv 0) (pa_cons (pe_op op_add (pv 1) pe_int) pa_nil))) pe_str (nomark _))
      (pss_one (ps_ret (pe_tup (pa_cons (pe_tup (pa_cons pe_non (pa_cons (pv 3) (pa_cons pe_non pa_nil)))) (pa_cons (pe_op op_add (pv 1) pe_int) pa_nil))))) pss_nil)
    (pss_cons (ps_if (pt_cmpR op_eq (pv 2) pe_int (nomark _))
      (pss_one (ps_raise_index rfl famV hE hr (takes_of rfl rfl rfl rfl) (pa_cons (pe_op op_add (pv 1) pe_int) pa_nil) rfl)) pss_nil)
    (pss_cons (ps_asg (pe_callS Dread_left.ok (hr.mono (by omega)) rfl Dread_left.g Dread_left.kp Dread_left.b (fun σ => passAt (takes_of rfl rfl rfl rfl) σ) (pa_cons (pv 0) (pa_cons (pe_op op_add (pv 1) pe_int) (pa_cons (pe_op op_sub (pv 2) pe_int) pa_nil)))) (pg_tup rfl (pgs_cons (pg_name (i := 4) sc_read_tree.nd rfl (.inl rfl)) (pgs_cons (pg_name (i := 5) sc_read_tree.nd rfl (.inl rfl)) pgs_nil))))
    (pss_cons (ps_set (i := 6) sc_read_tree.nd rfl (.inl rfl) (pe_op op_sub (pe_op op_sub (pv 2) pe_int) (pe_call Dsize_of.ok (hr.mono (by omega)) rfl Dsize_of.g Dsize_of.kp Dsize_of.b .nil pass0 (pa_cons (pv 4) pa_nil))))
    (pss_cons (ps_asg (pe_ifExp (pt_cmpR op_isN (pv 4) pe_non (nomark _)) (pe_callS Dread_tree.ok (hr.mono (by omega)) rfl Dread_tree.g Dread_tree.kp Dread_tree.b (fun σ => passAt (takes_of rfl rfl rfl rfl) σ) (pa_cons (pv 0) (pa_cons (pe_op op_add (pv 5) pe_int) (pa_cons (pv 6) pa_nil)))) (pe_callS Dread_side.ok (hr.mono (by omega)) rfl Dread_side.g Dread_side.kp Dread_side.b (fun σ => passAt (takes_of rfl rfl rfl rfl) σ) (pa_cons (pv 0) (pa_cons (pe_op op_add (pv 5) pe_int) (pa_cons (pv 6) pa_nil))))) (pg_tup rfl (pgs_cons (pg_name (i := 7) sc_read_tree.nd rfl (.inl rfl)) (pgs_cons (pg_name (i := 8) sc_read_tree.nd rfl (.inl rfl)) pgs_nil))))
    (pss_cons (ps_if (pt_cmpR op_ne (pe_call Dsign_at.ok (hr.mono (by omega)) rfl Dsign_at.g Dsign_at.kp Dsign_at.b .nil pass0 (pa_cons (pv 0) (pa_cons (pv 8) pa_nil))) pe_str (nomark _))
      (pss_one (ps_raise_index rfl famV hE hr (takes_of rfl rfl rfl rfl) (pa_cons (pv 8) pa_nil) rfl)) pss_nil)
    (pss_one (ps_ret (pe_tup (pa_cons (pe_tup (pa_cons (pv 4) (pa_cons (pv 3) (pa_cons (pv 7) pa_nil)))) (pa_cons (pe_op op_add (pv 8) pe_int) pa_nil))))))))))))), ?_⟩
  refine ⟨_, rfl, _, rfl, t, i, rfl, ht, _, rfl, rfl, _, rfl, ?_⟩
  by_cases h0 : room = 0
  · rw [rd_err (.inl h0)] at q
    exact iteI (by omega) ⟨_, rfl, _, rfl, fun p np => q H p (Same.refl H) np⟩
  refine iteJ (by omega) ⟨_, rfl, sg t i, rfl, Nat.le_trans (List.length_take_le _ _) (Nat.le_refl _), _, rfl, ?_⟩
  cases hlt : isLt (sg t i) with
  | false =>
    rw [rd_err (.inr hlt)] at q
    exact iteT ⟨_, rfl, _, rfl, fun p np => q H p (Same.refl H) np⟩
  | true =>
    obtain ⟨c, hc, hlow⟩ := rd_low hlt
    have hi1 : i + 1 ≤ t.length := (List.getElem?_eq_some_iff.mp hc).1
    have e1 : (i : Int) + 1 = ((i + 1 : Nat) : Int) := by omega
    refine iteF ⟨_, rfl, _, rfl, _, _, rfl, rfl, t, i + 1, (by show [V.str (tx t), V.int ((i : Int) + 1)] = _; rw [e1]), ht, rfl, _, rfl, ?_⟩
    rw [sg_ne (show Str.ofString "(" = tx [40] by decide +kernel)]
    by_cases h40 : t[i + 1]? = some 40
    · rw [decide_eq_true h40]
      refine iteF ⟨_, rfl, rfl, _, rfl, ?_⟩
      by_cases h1 : room = 1
      · subst h1
        rw [rd_full hc hlow h40] at q
        refine iteI rfl ⟨_, rfl, _, _, rfl, rfl, _, rfl, fun p np => ?_⟩
        have := q H p (Same.refl H) np
        rw [← e1] at this
        exact this
      · rw [rd_more h0 h1 hc hlow h40] at q
        have hi2 : i + 2 ≤ t.length := (List.getElem?_eq_some_iff.mp h40).1
        have e2 : (i : Int) + 2 = ((i + 2 : Nat) : Int) := by omega
        have e3 : (room : Int) - 1 = ((room - 1 : Nat) : Int) := by omega
        refine iteJ (by omega) ⟨_, rfl, _, rfl, _, _, rfl, rfl, _, rfl, _, _, rfl, rfl, t, i + 2, room - 1, (by show [V.str (tx t), V.int ((i : Int) + 2), V.int ((room : Int) - 1)] = _; rw [e2, e3]), ht, hi2, by omega, by omega, ?_⟩
        have zl : ∀ x e, lfR t (rdS (rdT t n) t (i + 2) (room - 1)) = .ok x e → t[e]? = some 44 ∧ x.size ≤ room - 1 := by
          intro x e h
          cases hs : rdS (rdT t n) t (i + 2) (room - 1) with
          | err j => rw [hs] at h; cases h
          | ok y e' =>
            rw [hs] at h
            have h : (if t[e']? = some 44 then Rd.ok y e' else .err e') = .ok x e := h
            by_cases h44 : t[e']? = some 44
            · rw [if_pos h44] at h
              cases h
              exact ⟨h44, ((rdT_ok t n (i + 2) (room - 1) hi2).2 _ _ hs).2.1⟩
            · rw [if_neg h44] at h
              cases h
        cases hl : lfR t (rdS (rdT t n) t (i + 2) (room - 1)) with
        | err j =>
          rw [hl] at q
          exact q
        | ok l e =>
          obtain ⟨h44, hls⟩ := zl l e hl
          have he1 : e + 1 ≤ t.length := (List.getElem?_eq_some_iff.mp h44).1
          rw [hl] at q
          intro vl p1 H1 s1 a1 ep1
          refine ⟨p1, _, rfl, SqT.of ep1, rfl, vl, _, rfl, .int (e : Int), _, rfl, rfl, ?_⟩
          refine ⟨_, rfl, _, _, rfl, rfl, _, rfl, vl, l, rfl, a1, by omega, _, _, rfl, rfl, ?_⟩
          have e4 : (room : Int) - 1 - (l.size : Int) = ((room - 1 - l.size : Nat) : Int) := by omega
          have e5 : (e : Int) + 1 = ((e + 1 : Nat) : Int) := by omega
          refine ⟨_, rfl, rfl, _, rfl, ?_⟩
          rcases a1.inv with ⟨rfl, rfl⟩ | ⟨al, l1, l2, lx, t1, t2, rfl, rfl, eal, hl1, hl2⟩
          · refine iteT ⟨_, rfl, _, rfl, _, _, rfl, rfl, _, rfl, t, e + 1, room - 1 - T.nil.size, (by show [V.str (tx t), V.int ((e : Int) + 1), V.int ((room : Int) - 1 - (T.nil.size : Int))] = _; rw [e5, e4]), ht, he1, by omega, by omega, ?_⟩
            cases hr2 : rdT t n (e + 1) (room - 1 - T.nil.size) with
            | err j =>
              rw [show rdR t n room c (.ok .nil e) = .err j by unfold rdR; dsimp only; rw [if_pos (show T.nil.isNil = true from rfl), hr2]] at q
              exact fun H2 p2 s2 np2 => q H2 p2 (s1.trans s2) np2
            | ok r e' =>
              intro vr p2 H2 s2 a2 ep2
              refine ⟨p2, _, rfl, SqT.of ep2, rfl, vr, _, rfl, .int (e' : Int), _, rfl, rfl, ?_⟩
              refine ⟨_, rfl, _, rfl, t, e', rfl, ht, rfl, _, rfl, ?_⟩
              rw [sg_ne (show Str.ofString ")" = tx [41] by decide +kernel)]
              have q' : RdTo C H Q E (if t[e']? = some 41 then .ok (.node .nil ⟨#[c]⟩ r) (e' + 1) else .err e') := by
                have z : rdR t n room c (.ok .nil e) = (if t[e']? = some 41 then .ok (.node .nil ⟨#[c]⟩ r) (e' + 1) else .err e') := by unfold rdR; dsimp only; rw [if_pos (show T.nil.isNil = true from rfl), hr2]
                rw [z] at q
                exact q
              by_cases h41 : t[e']? = some 41
              · rw [decide_eq_true h41]
                rw [if_pos h41] at q'
                refine iteF ⟨_, rfl, _, rfl, _, rfl, (by show 3 ≤ sizeLine; decide), fun p3 np3 => ?_⟩
                have q3 := same_new np3 (.tup [V.non, V.str (tx (sg t i)), vr])
                refine ⟨_, rfl, _, _, rfl, rfl, (by show 2 ≤ sizeLine; decide), fun p4 np4 => ?_⟩
                have q4 := same_new np4 (.tup [V.ref p3, V.int ((e' : Int) + 1)])
                refine q' (.ref p3) p4 _ ((s1.trans s2).trans (q3.trans q4)) (TreeAt.same q4 (.node (x := ⟨#[c]⟩) (by rw [upd_same, sg_some hc]; rfl) ((a1.same s2).same q3) (a2.same q3))) ?_
                rw [show ((e' + 1 : Nat) : Int) = (e' : Int) + 1 by omega]
                exact upd_same
              · rw [decide_eq_false h41]
                rw [if_neg h41] at q'
                exact iteT ⟨_, rfl, _, rfl, fun p3 np3 => q' H2 p3 (s1.trans s2) np3⟩
          · refine iteF ⟨_, rfl, _, rfl, _, _, rfl, rfl, _, rfl, t, e + 1, room - 1 - (T.node t1 lx t2).size, (by show [V.str (tx t), V.int ((e : Int) + 1), V.int ((room : Int) - 1 - ((T.node t1 lx t2).size : Int))] = _; rw [e5, e4]), ht, he1, by omega, by omega, ?_⟩
            cases hr2 : rdS (rdT t n) t (e + 1) (room - 1 - (T.node t1 lx t2).size) with
            | err j =>
              rw [show rdR t n room c (.ok (.node t1 lx t2) e) = .err j by unfold rdR; dsimp only; rw [if_neg (show ¬ (T.node t1 lx t2).isNil = true from fun z => nomatch z), hr2]] at q
              exact fun H2 p2 s2 np2 => q H2 p2 (s1.trans s2) np2
            | ok r e' =>
              intro vr p2 H2 s2 a2 ep2
              refine ⟨p2, _, rfl, SqT.of ep2, rfl, vr, _, rfl, .int (e' : Int), _, rfl, rfl, ?_⟩
              refine ⟨_, rfl, _, rfl, t, e', rfl, ht, rfl, _, rfl, ?_⟩
              rw [sg_ne (show Str.ofString ")" = tx [41] by decide +kernel)]
              have q' : RdTo C H Q E (if t[e']? = some 41 then .ok (.node (.node t1 lx t2) ⟨#[c]⟩ r) (e' + 1) else .err e') := by
                have z : rdR t n room c (.ok (.node t1 lx t2) e) = (if t[e']? = some 41 then .ok (.node (.node t1 lx t2) ⟨#[c]⟩ r) (e' + 1) else .err e') := by unfold rdR; dsimp only; rw [if_neg (show ¬ (T.node t1 lx t2).isNil = true from fun z => nomatch z), hr2]
                rw [z] at q
                exact q
              by_cases h41 : t[e']? = some 41
              · rw [decide_eq_true h41]
                rw [if_pos h41] at q'
                refine iteF ⟨_, rfl, _, rfl, _, rfl, (by show 3 ≤ sizeLine; decide), fun p3 np3 => ?_⟩
                have q3 := same_new np3 (.tup [V.ref al, V.str (tx (sg t i)), vr])
                refine ⟨_, rfl, _, _, rfl, rfl, (by show 2 ≤ sizeLine; decide), fun p4 np4 => ?_⟩
                have q4 := same_new np4 (.tup [V.ref p3, V.int ((e' : Int) + 1)])
                refine q' (.ref p3) p4 _ ((s1.trans s2).trans (q3.trans q4)) (TreeAt.same q4 (.node (x := ⟨#[c]⟩) (by rw [upd_same, sg_some hc]; rfl) ((a1.same s2).same q3) (a2.same q3))) ?_
                rw [show ((e' + 1 : Nat) : Int) = (e' : Int) + 1 by omega]
                exact upd_same
              · rw [decide_eq_false h41]
                rw [if_neg h41] at q'
                exact iteT ⟨_, rfl, _, rfl, fun p3 np3 => q' H2 p3 (s1.trans s2) np3⟩
    · rw [decide_eq_false h40]
      rw [rd_leaf h0 hc hlow h40] at q
      refine iteT ⟨_, rfl, (by show 3 ≤ sizeLine; decide), fun p np => ?_⟩
      have q1 := same_new np (.tup [V.non, V.str (tx (sg t i)), V.non])
      refine ⟨_, rfl, _, _, rfl, rfl, (by show 2 ≤ sizeLine; decide), fun p2 np2 => ?_⟩
      have q2 := same_new np2 (.tup [V.ref p, V.int ((i : Int) + 1)])
      refine q (.ref p) p2 _ (q1.trans q2) (TreeAt.same q2 (.node (x := ⟨#[c]⟩) (by rw [upd_same, sg_some hc]; rfl) .nil .nil)) ?_
      rw [← e1]
      exact upd_same
theorem ok_reads {f1 f2 f3 : Addr} {fd1 fd2 fd3 : FuncData} (F1 : Fun K "read_tree" "read_tree" s_read_tree f1 fd1) (b1 : Binds K fd1 ["text", "at", "room"] []) (g1 : mg "read_tree" = some (.ref f1)) (F2 : Fun K "read_side" "read_side" s_read_side f2 fd2) (b2 : Binds K fd2 ["text", "at", "room"] []) (g2 : mg "read_side" = some (.ref f2))
    (F3 : Fun K "read_left" "read_left" s_read_left f3 fd3) (b3 : Binds K fd3 ["text", "at", "room"] []) (g3 : mg "read_left" = some (.ref f3)) (M : Mgs mg) (hE : Err_index K mg "ValueError.__new__" veT "BadText" qn C fI)
    (Dsign_at : Df P w K mg base 1 "sign_at" ["text", "at"] spSgn) (Dis_letter : Df P w K mg base 1 "is_letter" ["value"] spLow) (Dsize_of : Df P w K mg base 20 "size_of" ["tree"] (spSz 20)) :
    ∀ n : Nat, FnOk P w K mg base (L2.CX P w) (20 + 3 * n) f1 fd1 ["text", "at", "room"] (spRead C n)
  | 0 => by
    have no : ∀ vs H Q E, ¬ spRead C 0 vs H Q E := fun vs H Q E h => by
      obtain ⟨t, i, room, _, _, _, h1, _⟩ := h
      omega
    exact ⟨fun vs H Q E h => absurd h (no vs H Q E), fun A outer s H args us vs Q E _ _ _ _ h => absurd h (no vs H Q E)⟩
  | n + 1 => by
    have DT : DfX P w K mg base (20 + 3 * n) "read_tree" ["text", "at", "room"] (spRead C n) := ⟨f1, fd1, ok_reads F1 b1 g1 F2 b2 g2 F3 b3 g3 M hE Dsign_at Dis_letter Dsize_of n, b1, F1.kp, g1⟩
    have DS : DfX P w K mg base (20 + 3 * n + 1) "read_side" ["text", "at", "room"] (spSideR C n) := ⟨f2, fd2, ok_sideR F2 Dsign_at DT (by omega), b2, F2.kp, g2⟩
    have DL : DfX P w K mg base (20 + 3 * n + 2) "read_left" ["text", "at", "room"] (spLeftR C n) := ⟨f3, fd3, ok_leftR F3 hE Dsign_at DS (by omega), b3, F3.kp, g3⟩
    exact ok_read0 F1 M hE (k := 20 + 3 * n) (by omega) Dsign_at Dis_letter Dsize_of DT DS DL
/-- parse_tree: of a text, or of a value that is none -/
def AnsTo (C : Addr) (H : Hp) (Q : VK) (E : XK) : Ans → Prop
  | .bad i => ∀ (H' : Hp) (p : Addr), Same H H' → H' p = none → E (.ref C) (some p) (upd H' p (.xd [(("index" : Str), .int (i : Int))]))
  | .tree x => ∀ (v : V) (H' : Hp), Same H H' → TreeAt H' v x → Q v H'
def spParse (K : PySem.W.Frag) (C : Addr) : Sp := fun vs H Q E => (∃ t : List Nat, vs = [.str (tx t)] ∧ t.length ≤ 5000 ∧ AnsTo C H Q E (parsed t)) ∨
  ∃ (v : V) (ty : String), vs = [v] ∧ TyX K H v (.type ty) ∧ kitB ty "str" = some false ∧ ∀ (H' : Hp) (p : Addr), Same H H' → H' p = none → E (.ref C) (some p) (upd H' p (.xd [(("index" : Str), .non)]))
theorem ok_parse {tM : Tok} (F : Fun K "parse_tree" "parse_tree" s_parse_tree f fd) (M : Mgs mg) (mMAX : mg "MAX_NODES" = some (.int 12 tM)) (hE : Err_index K mg "ValueError.__new__" veT "BadText" qn C fI) (Dread_tree : DfX P w K mg base 59 "read_tree" ["text", "at", "room"] (spRead C 13)) :
    FnOk P w K mg base (L2.CX P w) 60 f fd ["text"] (spParse K C) := by
  refine F.okX sc_parse_tree (fun vs H Q E h => ?_) (fun cdv A outer s H vs Q E hr h => ?_)
  · rcases h with ⟨t, rfl, _⟩ | ⟨v, ty, rfl, _⟩ <;> rfl
  refine ⟨_, (pss_cons (ps_if (pt_not (pt_val (pe_callB call_isi rfl M.isi (by decide +kernel) (pa_cons (pv 0) (pa_cons (pe_bltn (v := .ty "str") rfl M.str (by decide +kernel) rfl) pa_nil)))))
      (pss_one (ps_raise_index rfl famV hE hr (takes_of rfl rfl rfl rfl) (pa_cons pe_non pa_nil) rfl)) pss_nil)
    (pss_cons (ps_asg (pe_callS Dread_tree.ok (hr.mono (by omega)) rfl Dread_tree.g Dread_tree.kp Dread_tree.b (fun σ => passAt (takes_of rfl rfl rfl rfl) σ) (pa_cons (pv 0) (pa_cons pe_int (pa_cons (pe_glob (v := .int 12) rfl mMAX ⟨_, rfl⟩) pa_nil)))) (pg_tup rfl (pgs_cons (pg_name (i := 1) sc_parse_tree.nd rfl (.inl rfl)) (pgs_cons (pg_name (i := 2) sc_parse_tree.nd rfl (.inl rfl)) pgs_nil))))
    (pss_cons (ps_if (pt_cmpR op_lt (pv 2) (pe_callB call_len_str rfl M.len PySem.boot_len (pa_cons (pv 0) pa_nil)) (nomark _))
      (pss_one (ps_raise_index rfl famV hE hr (takes_of rfl rfl rfl rfl) (pa_cons (pv 2) pa_nil) rfl)) pss_nil)
    (pss_one (ps_ret (pv 1)))))), ?_⟩
  rcases h with ⟨t, rfl, ht, q⟩ | ⟨v, ty, rfl, hty, kt, q⟩
  · refine ⟨_, rfl, _, _, _, _, true, rfl, .ty _, .base (.str (tx t)), kit_ty (by decide +kernel), _, rfl, iteF ?_⟩
    refine ⟨_, rfl, t, 0, 12, rfl, ht, Nat.zero_le _, by omega, Nat.le_refl _, ?_⟩
    unfold parsed at q
    cases hrd : rdT t 13 0 12 with
    | err j =>
      rw [hrd] at q
      exact q
    | ok x e =>
      rw [hrd] at q
      intro v p H1 s1 a1 ep
      refine ⟨p, _, rfl, SqT.of ep, rfl, v, _, rfl, .int (e : Int), _, rfl, rfl, ?_⟩
      refine ⟨_, rfl, _, rfl, tx t, rfl, Nat.le_trans (show (tx t).length ≤ 5000 from ht) (by decide), _, _, rfl, rfl, _, rfl, ?_⟩
      have q' : AnsTo C H Q E (if e < t.length then .bad e else .tree x) := q
      by_cases he : e < t.length
      · rw [if_pos he] at q'
        rw [decide_eq_true (show (e : Int) < ((tx t).length : Nat) by rw [tx_len]; omega)]
        exact iteT ⟨_, rfl, _, rfl, fun p3 np3 => q' H1 p3 s1 np3⟩
      · rw [if_neg he] at q'
        rw [decide_eq_false (show ¬ (e : Int) < ((tx t).length : Nat) by rw [tx_len]; omega)]
        exact iteF ⟨_, rfl, q' v H1 s1 a1⟩
  · refine ⟨_, rfl, _, _, _, _, false, rfl, .ty _, hty, kit_ty kt, _, rfl, iteT ?_⟩
    exact ⟨_, rfl, fun p np => q H p (Same.refl H) np⟩
end
/-! ### enumerate of a text -/
section
variable {X : Cx}
/-- new pairs of the place and the sign -/
def IteS (x : Str) : It :=
  ⟨fun i _ => i < x.cps.size,
    fun i H v H' => ∃ (p : Addr) (c : Nat), v = .ref p ∧ H p = none ∧ H' = upd H p (.tup [.int (i : Nat), .str ⟨#[c]⟩]) ∧ x.cps[i]? = some c,
    fun i _ => i = x.cps.size⟩
theorem turn_enumS {P : Program} {w : World} {K : PySem.W.Frag} {elts : List Expr} {kk : Nat} {tpos : Pos} {x : Str} {t1 : Tok} {e it : Addr} (hne : e ≠ it) :
    Turn P w K (.Tuple elts kk tpos) (IteS x) [e, it] e (fun i h => (∃ old, IsEnum h e it ((i : Nat) : Int) old) ∧ h.IsStrIter it (strIterType x) x t1 i) where
  mem := by simp
  obj := fun i h st c hc => by
    obtain ⟨⟨old, he⟩, ⟨o1, e1, _, d1⟩⟩ := st
    have hc' : c = e ∨ c = it := by simpa using hc
    rcases hc' with q | q
    · rw [q]; exact ⟨_, he, fun v q2 => nomatch q2⟩
    · exact ⟨o1, by rw [q]; exact e1, fun v q => by rw [d1] at q; cases q⟩
  keep := fun i h h' st k => by
    obtain ⟨⟨old, he⟩, ⟨o1, e1, r1⟩⟩ := st
    exact ⟨⟨old, k e (by simp) _ he⟩, ⟨o1, k it (by simp) _ e1, r1⟩⟩
  item := by
    intro X hP hw hK hc i pins s σ H E I hf st hg
    subst hP hw hK
    obtain ⟨⟨old, he⟩, h1⟩ := st
    have quiet : X.A.in1.handled = none := I.ok.hd hc
    have zlt : e < s.heap.objs.size := Heap.lt_size he
    have hg' : i < x.cps.size := hg
    refine wpAny_pyNext_enum_itemC (Draws.text quiet it x t1) he h1 hg' hne (fun z => hne (List.mem_singleton.mp z)) fun u1 h' tk p1 eo j1 hT hsz hk => ?_
    obtain ⟨c, tc, ec, rfl⟩ := p1
    refine ⟨_, rfl, wpAny_letOwnedTupleGo_enum (s := { s with heap := h', toks := tk + 1 }) eo fun h'' z'' sb => ?_⟩
    have hT2 : h''.get? s.heap.objs.size = some { cls := .type "tuple", data := .seq #[.int i tk, .str ⟨#[c]⟩ tc] } := (sb.2 _ (Nat.ne_of_gt zlt)).trans hT
    have new : ObjOk X.prog X.w (upd H s.heap.objs.size (.tup [.int (i : Nat), .str ⟨#[c]⟩])) h'' s.heap.objs.size (.tup [.int (i : Nat), .str ⟨#[c]⟩]) :=
      ⟨by show 2 ≤ sizeLine; decide, [.int i tk, .str ⟨#[c]⟩ tc], .cons ⟨_, rfl⟩ (.cons ⟨_, rfl⟩ .nil), ⟨_, hT2, rfl, _, rfl⟩⟩
    have I1 : Inv X pins σ (upd H s.heap.objs.size (.tup [.int (i : Nat), .str ⟨#[c]⟩])) { s with heap := h'', toks := tk + 1 } :=
      I.turnedNew (t' := tk + 1) (ch := [e, it]) (fun c o hb q => (sb.2 c (fun z => hb (by simp [z]))).trans (hk c o (fun z => hb (by simp [z])) (fun z => hb (by simp [z])) q)) hf (Nat.le_refl _) new
    refine ⟨.ref s.heap.objs.size, _, I1, rfl, ⟨_, c, rfl, I.hok.fresh (Nat.le_refl _), rfl, ec⟩, ⟨⟨_, by rw [show ((i + 1 : Nat) : Int) = (i : Int) + 1 by omega]; exact z''⟩, ?_⟩, fun c hcm => ?_⟩
    · obtain ⟨o, e1, r⟩ := j1
      exact ⟨o, (sb.2 _ hne.symm).trans e1, r⟩
    · have lt : c < s.heap.objs.size := by
        have hc' : c = e ∨ c = it := by simpa using hcm
        rcases hc' with q | q
        · rw [q]; exact zlt
        · rw [q]; obtain ⟨_, e1, _⟩ := h1; exact Heap.lt_size e1
      rw [upd_ne (Nat.ne_of_lt lt)]
      exact (hf c hcm).1
  done := by
    intro X hP hw hK hc i pins s σ H E I hf st hg
    subst hP hw hK
    obtain ⟨⟨old, he⟩, h1⟩ := st
    have quiet : X.A.in1.handled = none := I.ok.hd hc
    have hg' : i = x.cps.size := hg
    subst hg'
    exact wpAny_pyNext_enum_endD (Draws.text quiet it x t1) he h1 fun h' hk => ⟨rfl, I.turnedL (t' := s.toks) (ch := [e, it]) (fun c o hb q => hk c o (fun z => hb (by simp [z])) q) hf⟩
  self := fun A i s Q E st h => by
    obtain ⟨⟨old, he⟩, _⟩ := st
    exact wpAny_pyIter_enum he h
def iEnumS (ta : TA) : TI := fun σ H R => ta σ H fun vs H1 => ∃ x : Str, vs = [.str x] ∧ R (IteS x) H1
theorem pi_enumS {e : Expr} {ta : TA} {p pos tpos : Pos} {elts : List Expr} {kk : Nat} (hg : Gl X "enumerate") (hm : X.mg "enumerate" = none) (ha : PA X [e] ta) (hs : starEach [e] X.env = [(false, eval e X.env)] := by rfl) :
    PI X (.Tuple elts kk tpos) (.Call (.Name "enumerate" p) [e] [] pos) (iEnumS ta) := by
  refine ⟨fun pins s σ H R I h => ?_⟩
  refine Call_ (ld_blt I hg hm boot_enumerate (PyProof.Rows.callWith_type1 (thn (ha.run pos pins s σ H _ I h) fun us s1 h1 => ?_) hs rfl))
  obtain ⟨vs, H1, I1, r1, x, rfl, q⟩ := h1
  obtain ⟨u, rfl, rx⟩ := vals1 r1
  obtain ⟨t, rfl⟩ := rx
  refine call_enumerate_str fun h' he hit hsz hk => wpAny_pyIter_enum he ?_
  have I2 : Inv X pins σ H1 { s1 with heap := h' } := I1.kept (t' := s1.toks) hk
  refine ⟨s1.heap.objs.size + 1, [s1.heap.objs.size + 1, s1.heap.objs.size], _, _, H1, rfl, I2, turn_enumS (t1 := t) (Nat.succ_ne_self _), ⟨⟨.none, he⟩, hit⟩, fun b hb => ?_, q⟩
  have e' : b = s1.heap.objs.size + 1 ∨ b = s1.heap.objs.size := by simpa using hb
  have hle : s1.heap.objs.size ≤ b := by
    rcases e' with z | z
    · rw [z]; exact Nat.le_add_right _ _
    · rw [z]; exact Nat.le_refl _
  exact I1.fpOk hle (I1.hok.fresh hle)
theorem walk_enumS {x : Str} {n : Nat} (hn : n = x.cps.size) : Walk (IteS x) n (fun _ => True) (fun i H v H' => ∃ (p : Addr) (c : Nat), v = .ref p ∧ H p = none ∧ H' = upd H p (.tup [.int (i : Nat), .str ⟨#[c]⟩]) ∧ x.cps[i]? = some c) :=
  ⟨fun i _ hi _ => by show i < x.cps.size; omega, fun _ _ => hn, fun _ _ _ _ _ _ q => q⟩
end
/-! ### _law_read -/
theorem op_neL {X : Cx} (hu : X.A.units < cLine) : OpR X (compareOp .NotEq) (fun x y H Q => ∃ a b xs, x = .ref a ∧ y = .ref b ∧ SqL X.K H a xs ∧ SqL X.K H b [] ∧ Q (.bl (!xs.isEmpty)) H) := by
  intro pins s σ H x y v u Q I rx ry h
  obtain ⟨a, b, xs, rfl, rfl, hx, hy, q⟩ := h
  cases rx
  cases ry
  obtain ⟨its, r1, t1, _⟩ := I.list hx
  obtain ⟨its2, r2, t2, _⟩ := I.list hy
  cases r2
  cases r1 with
  | nil =>
    have rc := SeqAt.RcNeAt.lists (A := X.A) (s := s) (items := ([] : List Value).toArray) (items2 := ([] : List Value).toArray) (e := fun _ => true) t1.isList t2.isList rfl hu (fun j h1 _ => absurd h1 (by simp))
    exact rc X.prog X.w X.xe _ ⟨.bl _, H, I, rfl, q⟩
  | cons _ _ =>
    have rc := SeqAt.RcNeAt.lists_lengths (A := X.A) (s := s) t1.isList t2.isList (by simp) hu
    exact rc X.prog X.w X.xe _ ⟨.bl _, H, I, rfl, q⟩
theorem op_eqL {X : Cx} (hu : X.A.units < cLine) : OpR X (compareOp .Eq) (fun x y H Q => ∃ a b xs, x = .ref a ∧ y = .ref b ∧ SqL X.K H a xs ∧ SqL X.K H b [] ∧ Q (.bl xs.isEmpty) H) := by
  intro pins s σ H x y v u Q I rx ry h
  obtain ⟨a, b, xs, rfl, rfl, hx, hy, q⟩ := h
  cases rx
  cases ry
  obtain ⟨its, r1, t1, _⟩ := I.list hx
  obtain ⟨its2, r2, t2, _⟩ := I.list hy
  cases r2
  cases r1 with
  | nil =>
    have rc := SeqAt.RcAt.lists (A := X.A) (s := s) (items := ([] : List Value).toArray) (items2 := ([] : List Value).toArray) (e := fun _ => true) t1.isList t2.isList rfl hu (fun j h1 _ => absurd h1 (by simp))
    exact rc X.prog X.w X.xe _ ⟨.bl _, H, I, rfl, q⟩
  | cons _ _ =>
    have rc := SeqAt.RcAt.lists_lengths (A := X.A) (s := s) t1.isList t2.isList (by simp) hu
    exact rc X.prog X.w X.xe _ ⟨.bl _, H, I, rfl, q⟩
theorem atI_last (xs : List V) (x : V) : atI (xs ++ [x]) (-1) = some x := by
  unfold atI ixN
  rw [List.length_append, List.length_singleton, if_neg (by omega), if_pos (by omega)]
  show (xs ++ [x])[((-1 : Int) + ((xs.length + 1 : Nat) : Int)).toNat]? = some x
  rw [show ((-1 : Int) + ((xs.length + 1 : Nat) : Int)).toNat = xs.length by omega]
  simp
def EntAt (H : Hp) (r : Addr) (a : Nat) : Option T → Prop
  | none => H r = some (.lst [.str ⟨#[a]⟩])
  | some l => ∃ v, H r = some (.lst [.str ⟨#[a]⟩, v]) ∧ TreeAt H v l
inductive StkAt (H : Hp) (A : Addr) : List V → Stk → Prop
  | nil : StkAt H A [] []
  | cons {vs : List V} {st : Stk} {r : Addr} {a : Nat} {o : Option T} : r ≠ A → EntAt H r a o → StkAt H A vs st → StkAt H A (vs ++ [.ref r]) ((a, o) :: st)
def DoneAt (H : Hp) (A : Addr) (v : V) : Option (T × Bool) → Prop
  | none => ∃ d, v = .ref d ∧ d ≠ A ∧ H d = some (.lst [])
  | some (x, f) => ∃ d vx, v = .ref d ∧ d ≠ A ∧ H d = some (.lst [vx, .bl f]) ∧ TreeAt H vx x ∧ (f = true → ∃ c, x = leaf c)
/-- all stands still but what is at A -/
def KeepA (A : Addr) (H H' : Hp) : Prop := ∀ b o, b ≠ A → H b = some o → H' b = some o
theorem KeepA.of {A : Addr} {H H' : Hp} (s : Same H H') : KeepA A H H' := fun b o _ e => s b o e
theorem KeepA.keepT {A : Addr} {H H' : Hp} {vs : List V} (k : KeepA A H H') (e : H A = some (.lst vs)) : KeepT H H' := fun b xs h => k b _ (fun z => by rw [z, e] at h; cases h) h
theorem EntAt.keep {A : Addr} {H H' : Hp} {vs : List V} (k : KeepA A H H') (e : H A = some (.lst vs)) {r : Addr} {a : Nat} {o : Option T} (hr : r ≠ A) (h : EntAt H r a o) : EntAt H' r a o := by
  cases o with
  | none => exact k _ _ hr h
  | some l =>
    obtain ⟨v, h1, h2⟩ := h
    exact ⟨v, k _ _ hr h1, h2.keep (k.keepT e)⟩
theorem StkAt.keep {A : Addr} {H H' : Hp} {ws : List V} (k : KeepA A H H') (e : H A = some (.lst ws)) {vs : List V} {st : Stk} (h : StkAt H A vs st) : StkAt H' A vs st := by
  induction h with
  | nil => exact .nil
  | cons hr he _ ih => exact .cons hr (he.keep k e hr) ih
theorem DoneAt.keep {A : Addr} {H H' : Hp} {ws : List V} (k : KeepA A H H') (e : H A = some (.lst ws)) {v : V} {dn : Option (T × Bool)} (h : DoneAt H A v dn) : DoneAt H' A v dn := by
  match dn, h with
  | none, h =>
    obtain ⟨d, h1, h2, h3⟩ := h
    exact ⟨d, h1, h2, k _ _ h2 h3⟩
  | some (x, f), h =>
    obtain ⟨d, vx, h1, h2, h3, h4, h5⟩ := h
    exact ⟨d, vx, h1, h2, k _ _ h2 h3, h4.keep (k.keepT e), h5⟩
structure LS (H0 H : Hp) (A : Addr) (vs : List V) (st : Stk) (dv : V) (dn : Option (T × Bool)) : Prop where
  a0 : H0 A = none
  ea : H A = some (.lst vs)
  s0 : Same H0 H
  sk : StkAt H A vs st
  dn : DoneAt H A dv dn
theorem LS.new {H0 H : Hp} {A : Addr} {vs : List V} {st : Stk} {dv : V} {dn : Option (T × Bool)} (h : LS H0 H A vs st dv dn) {p : Addr} (np : H p = none) (o : HO) : LS H0 (upd H p o) A vs st dv dn := by
  have s := same_new np o
  exact ⟨h.a0, s _ _ h.ea, h.s0.trans s, h.sk.keep (KeepA.of s) h.ea, h.dn.keep (KeepA.of s) h.ea⟩
theorem LS.ne {H0 H : Hp} {A : Addr} {vs : List V} {st : Stk} {dv : V} {dn : Option (T × Bool)} (h : LS H0 H A vs st dv dn) {p : Addr} (np : H p = none) : p ≠ A := fun z => by rw [z, h.ea] at np; cases np
theorem LS.done {H0 H : Hp} {A : Addr} {vs : List V} {st : Stk} {dv dv' : V} {dn dn' : Option (T × Bool)} (h : LS H0 H A vs st dv dn) (d : DoneAt H A dv' dn') : LS H0 H A vs st dv' dn' := ⟨h.a0, h.ea, h.s0, h.sk, d⟩
/-- the stack's list is put anew -/
theorem LS.put {H0 H : Hp} {A : Addr} {vs ws : List V} {st st' : Stk} {dv : V} {dn : Option (T × Bool)} (h : LS H0 H A vs st dv dn) (k : StkAt H A ws st') : LS H0 (upd H A (.lst ws)) A ws st' dv dn := by
  have s : KeepA A H (upd H A (.lst ws)) := fun b o hb e => by rw [upd_ne hb]; exact e
  refine ⟨h.a0, upd_same, fun b o e => ?_, k.keep s h.ea, h.dn.keep s h.ea⟩
  rw [upd_ne (ne_of_none e h.a0)]
  exact h.s0 b o e
theorem in_low {c : Nat} : inV (.str ⟨#[c]⟩) ((Str.ofString "abcdefghijklmnopqrstuvwxyz").cps.toList.map fun c => V.str ⟨#[c]⟩) = isLow c := by
  have e : (Str.ofString "abcdefghijklmnopqrstuvwxyz").cps.toList = List.range' 97 26 := by decide +kernel
  rw [e]
  unfold inV isLow
  rw [List.any_map]
  have h : (List.range' 97 26).any ((fun y => eqV y (.str ⟨#[c]⟩)) ∘ fun c => V.str ⟨#[c]⟩) = decide (c ∈ List.range' 97 26) := by
    rw [Bool.eq_iff_iff, List.any_eq_true, decide_eq_true_eq]
    constructor
    · rintro ⟨x, hx, h⟩
      have h : ((⟨#[x]⟩ : Str) == ⟨#[c]⟩) = true := h
      have h := eq_of_beq h
      injection h with h
      injection h with h
      injection h with h
      rw [← h]
      exact hx
    · intro h
      exact ⟨c, h, (beq_self_eq_true _ : ((⟨#[c]⟩ : Str) == ⟨#[c]⟩) = true)⟩
  rw [h, Bool.eq_iff_iff, decide_eq_true_eq, Bool.and_eq_true, decide_eq_true_eq, decide_eq_true_eq, List.mem_range'_1]
  omega
theorem go_low {c : Nat} {cs : List Nat} {i m : Nat} {st : Stk} (h : isLow c = true) (hm : m < 12) : go (c :: cs) i st none m = go cs (i + 1) st (some (leaf c, true)) (m + 1) := by
  conv => lhs; unfold go
  rw [if_pos ⟨h, hm⟩]
theorem go_dash {cs : List Nat} {i m : Nat} {st : Stk} (h : canMiss st = true) : go (45 :: cs) i st none m = go cs (i + 1) st (some (.nil, false)) m := by
  conv => lhs; unfold go
  rw [if_neg (fun z => (low_not z.1).2.2.2 rfl), if_pos ⟨rfl, h⟩]
theorem go_badN {c : Nat} {cs : List Nat} {i m : Nat} {st : Stk} (h : ¬ (isLow c = true ∧ m < 12)) (h2 : ¬ (c = 45 ∧ canMiss st = true)) : go (c :: cs) i st none m = .bad i := by
  unfold go
  rw [if_neg h, if_neg h2]
theorem go_open {cs : List Nat} {i m : Nat} {st : Stk} {x : T} (hm : m < 12) : go (40 :: cs) i st (some (x, true)) m = go cs (i + 1) ((x.lab, none) :: st) none m := by
  conv => lhs; unfold go
  rw [if_pos ⟨rfl, rfl, hm⟩]
theorem go_comma {cs : List Nat} {i m a : Nat} {st : Stk} {x : T} {f : Bool} : go (44 :: cs) i ((a, none) :: st) (some (x, f)) m = go cs (i + 1) ((a, some x) :: st) none m := by
  conv => lhs; unfold go
  rw [if_neg (fun z => by have := z.1; omega)]
  rfl
theorem go_close {cs : List Nat} {i m a : Nat} {st : Stk} {x l : T} {f : Bool} : go (41 :: cs) i ((a, some l) :: st) (some (x, f)) m = go cs (i + 1) st (some (.node l ⟨#[a]⟩ x, false)) m := by
  conv => lhs; unfold go
  rw [if_neg (fun z => by have := z.1; omega)]
  rfl
theorem sgn_eq {c d : Nat} {y : Str} (hy : y = tx [d]) : decide (V.str ⟨#[c]⟩ = V.str y) = decide (c = d) := by
  subst hy
  by_cases e : c = d
  · subst e
    rw [decide_eq_true rfl]
    exact decide_eq_true rfl
  · rw [decide_eq_false e]
    refine decide_eq_false fun z => e ?_
    have z : tx [c] = tx [d] := V.str.inj z
    have := tx_inj z
    injection this
theorem str_dash : Str.ofString "-" = tx [45] := by decide +kernel
theorem StkAt.len {H : Hp} {A : Addr} {vs : List V} {st : Stk} (h : StkAt H A vs st) : vs.length = st.length := by
  induction h with
  | nil => rfl
  | cons _ _ _ ih => rw [List.length_append, ih]; rfl
def ansD : Ans → PyData
  | .bad i => .list [.int (i : Int)]
  | .tree x => x.data
def spReadL (K : PySem.W.Frag) : Sp := fun vs H Q _ => ∃ t : List Nat, vs = [.str (tx t)] ∧ t.length ≤ 5000 ∧ ∀ (v : V) (H' : Hp), Same H H' → Dp K H' v (ansD (parsed t)) → Q v H'
section
variable {P : Program} {w : World} {K : PySem.W.Frag} {mg : Str → Option Value} {base : Heap} {f : Addr} {fd : FuncData}
theorem ok_lread {k : Nat} (F : Fun K "_law_read" "_law_read" s__law_read f fd) (M : Mgs mg) (menum : mg "enumerate" = none) : FnOk P w K mg base CX0 (k + 1) f fd ["_law_text_here"] (spReadL K) := by
  refine F.ok sc__law_read (fun vs H Q E h => ?_) (fun cdv A0 outer s H vs Q E hr h => ?_)
  · obtain ⟨t, rfl, _⟩ := h
    rfl
  obtain ⟨t, rfl, ht, q⟩ := h
  refine ⟨_, (pss_cons (ps_par3 (i := 1) (j := 2) (l := 3) (by rfl) sc__law_read.nd rfl rfl rfl (by decide) (by decide) (by decide) rfl rfl rfl (pa_cons (pe_lst pa_nil) (pa_cons (pe_lst pa_nil) (pa_cons pe_int pa_nil))) (by rfl))
    (pss_cons (ps_for PassesOwn.never rfl (pi_enumS rfl menum (pa_cons (pv 0) pa_nil)) (pg_tup rfl (pgs_cons (pg_name (i := 4) sc__law_read.nd rfl (.inl rfl)) (pgs_cons (pg_name (i := 5) sc__law_read.nd rfl (.inl rfl)) pgs_nil)))
      (pss_one (ps_if (pt_cmpR (op_eqL hr.units0) (pv 2) (pe_lst pa_nil) (nomark _))
      (pss_cons (ps_set (i := 6) sc__law_read.nd rfl (.inl rfl) (pe_and (pe_cmpR (op_neL hr.units0) (pv 1) (pe_lst pa_nil) (nomark _)) (pe_one (pe_or (pe_cmpR op_eq (pe_callB call_len_seq rfl M.len PySem.boot_len (pa_cons (pe_ix ix_list (pv 1) (pe_un un_neg pe_int) (fun _ _ => rfl)) pa_nil)) pe_int (nomark _)) (pe_one (pe_cmpR op_notN (pe_ix ix_list (pe_ix ix_list (pv 1) (pe_un un_neg pe_int) (fun _ _ => rfl)) pe_int (fun _ _ => rfl)) pe_non (nomark _)))))))
    (pss_one (ps_if (PW.pt (pw_and (pt_cmpR op_in_seq (pv 5) (pe_callTy (call_signs rfl) rfl M.list (by decide +kernel) (pa_cons pe_str pa_nil)) (by rfl)) (pw_and1 (pt_cmpR op_lt (pv 3) pe_int (nomark _)))))
      (pss_one (ps_par (i := 3) (j := 2) (by rfl) sc__law_read.nd rfl rfl (by decide) rfl rfl (pa_cons (pe_op op_add (pv 3) pe_int) (pa_cons (pe_lst (pa_cons (pe_tup (pa_cons pe_non (pa_cons (pv 5) (pa_cons pe_non pa_nil)))) (pa_cons pe_bl pa_nil))) pa_nil)) (by rfl))) (pss_one (ps_if (PW.pt (pw_and (pt_cmpR op_eq (pv 5) pe_str (nomark _)) (pw_and1 (pt_val (pv 6)))))
      (pss_one (ps_set (i := 2) sc__law_read.nd rfl (.inl rfl) (pe_lst (pa_cons pe_non (pa_cons pe_bl pa_nil))))) (pss_one (ps_ret (pe_lst (pa_cons (pv 4) pa_nil))))))))) (pss_one (ps_if (PW.pt (pw_and (pt_cmpR op_eq (pv 5) pe_str (nomark _)) (pw_and (pt_val (pe_ix ix_list (pv 2) pe_int (fun _ _ => rfl))) (pw_and1 (pt_cmpR op_lt (pv 3) pe_int (nomark _))))))
      (pss_cons (ps_expr (pe_bm PySem.F.plainAttrs_list PySem.F.slot_list_append PySem.F.type_list_append mt_append (pv 1) (pa_cons (pe_lst (pa_cons (pe_ix ix_tup (pe_ix ix_list (pv 2) pe_int (fun _ _ => rfl)) pe_int (fun _ _ => rfl)) pa_nil)) pa_nil)))
    (pss_one (ps_set (i := 2) sc__law_read.nd rfl (.inl rfl) (pe_lst pa_nil)))) (pss_one (ps_if (PW.pt (pw_and (pt_cmpR op_eq (pv 5) pe_str (nomark _)) (pw_and (pt_cmpR (op_neL hr.units0) (pv 1) (pe_lst pa_nil) (nomark _)) (pw_and1 (pt_cmpR op_eq (pe_callB call_len_seq rfl M.len PySem.boot_len (pa_cons (pe_ix ix_list (pv 1) (pe_un un_neg pe_int) (fun _ _ => rfl)) pa_nil)) pe_int (nomark _))))))
      (pss_cons (ps_expr (pe_bm PySem.F.plainAttrs_list PySem.F.slot_list_append PySem.F.type_list_append mt_append (pv 1) (pa_cons (pe_op op_cat (pe_bm0 PySem.F.plainAttrs_list PySem.F.slot_list_pop PySem.F.type_list_pop mt_pop (pv 1)) (pe_lst (pa_cons (pe_ix ix_list (pv 2) pe_int (fun _ _ => rfl)) pa_nil))) pa_nil)))
    (pss_one (ps_set (i := 2) sc__law_read.nd rfl (.inl rfl) (pe_lst pa_nil)))) (pss_one (ps_if (PW.pt (pw_and (pt_cmpR op_eq (pv 5) pe_str (nomark _)) (pw_and (pt_cmpR (op_neL hr.units0) (pv 1) (pe_lst pa_nil) (nomark _)) (pw_and1 (pt_cmpR op_eq (pe_callB call_len_seq rfl M.len PySem.boot_len (pa_cons (pe_ix ix_list (pv 1) (pe_un un_neg pe_int) (fun _ _ => rfl)) pa_nil)) pe_int (nomark _))))))
      (pss_cons (ps_asg (pe_bm0 PySem.F.plainAttrs_list PySem.F.slot_list_pop PySem.F.type_list_pop mt_pop (pv 1)) (pg_unl rfl (pgs_cons (pg_name (i := 7) sc__law_read.nd rfl (.inl rfl)) (pgs_cons (pg_name (i := 8) sc__law_read.nd rfl (.inl rfl)) pgs_nil))))
    (pss_one (ps_set (i := 2) sc__law_read.nd rfl (.inl rfl) (pe_lst (pa_cons (pe_tup (pa_cons (pv 8) (pa_cons (pv 7) (pa_cons (pe_ix ix_list (pv 2) pe_int (fun _ _ => rfl)) pa_nil)))) (pa_cons pe_bl pa_nil)))))) (pss_one (ps_ret (pe_lst (pa_cons (pv 4) pa_nil)))))))))))))
    (pss_one (ps_ret (pe_ifExp (PW.pt (pw_or (pt_cmpR (op_neL hr.units0) (pv 1) (pe_lst pa_nil) (nomark _)) (pw_or1 (pt_cmpR (op_eqL hr.units0) (pv 2) (pe_lst pa_nil) (nomark _))))) (pe_lst (pa_cons (pe_callB call_len_str rfl M.len PySem.boot_len (pa_cons (pv 0) pa_nil)) pa_nil)) (pe_ix ix_list (pv 2) pe_int (fun _ _ => rfl))))))), ?_⟩
  refine ⟨(by show 0 ≤ sizeLine; decide), fun A nA => ?_⟩
  refine ⟨(by show 0 ≤ sizeLine; decide), fun d nd => ?_⟩
  have hdA : d ≠ A := fun z => by rw [z, upd_same] at nd; cases nd
  have k1 := same_new nA (.lst [])
  have k2 := same_new nd (.lst [])
  have ls0 : LS H (upd (upd H A (.lst [])) d (.lst [])) A [] [] (.ref d) none := ⟨nA, k2 _ _ upd_same, k1.trans k2, .nil, ⟨d, rfl, hdA, upd_same⟩⟩
  refine ⟨_, _, _, rfl, ?_⟩
  refine ⟨_, rfl, tx t, rfl, ?_⟩
  refine for_it (walk_enumS (x := tx t) (n := t.length) rfl) (fun i σ H' => ∃ (y4 y5 y6 y7 y8 : Option V) (dv : V) (vs : List V) (st : Stk) (dn : Option (T × Bool)) (m : Nat), σ = [some (.str (tx t)), some (.ref A), some dv, some (.int (m : Int)), y4, y5, y6, y7, y8] ∧
      LS H H' A vs st dv dn ∧ vs.length ≤ i ∧ go t 0 [] none 0 = go (t.drop i) i st dn m) ⟨none, none, none, none, none, _, _, _, _, 0, rfl, ls0, Nat.le_refl _, rfl⟩ (fun _ _ _ _ _ => trivial) (fun i v σ H1 H2 hi hp hy => ?_) (fun σ H1 hp => ?_)
  · obtain ⟨y4, y5, y6, y7, y8, dv, vs, st, dn, m, rfl, ls, hvl, hgo⟩ := hp
    obtain ⟨p, c, rfl, np, rfl, hc⟩ := hy
    have hc : t[i]? = some c := by
      rw [show (tx t).cps[i]? = t[i]? by show t.toArray[i]? = _; simp] at hc
      exact hc
    rw [drop_some hc] at hgo
    have ls2 := ls.new np (.tup [.int (i : Nat), .str ⟨#[c]⟩])
    refine ⟨p, _, rfl, SqT.of upd_same, rfl, _, _, rfl, .str ⟨#[c]⟩, _, rfl, rfl, ?_⟩
    generalize upd H1 p (.tup [.int (i : Nat), .str ⟨#[c]⟩]) = H2 at ls2 ⊢
    cases dn with
    | none =>
      obtain ⟨d, rfl, hdA', ed⟩ := ls2.dn
      refine ⟨_, rfl, (by show 0 ≤ sizeLine; decide), fun p1 npp1 => ?_⟩
      have l0 := ls2.new npp1 (.lst [])
      refine ⟨d, p1, [], rfl, rfl, SqL.of (same_new npp1 _ _ _ ed), SqL.of upd_same, _, rfl, iteT ?_⟩
      generalize upd H2 p1 (.lst []) = H3 at l0 ⊢
      refine ⟨_, rfl, (by show 0 ≤ sizeLine; decide), fun p2 npp2 => ?_⟩
      have l1 := l0.new npp2 (.lst [])
      have ep2 := upd_same (H := H3) (a := p2) (o := .lst [])
      generalize upd H3 p2 (.lst []) = H4 at l1 ep2 ⊢
      refine ⟨A, p2, vs, rfl, rfl, SqL.of l1.ea, SqL.of ep2, _, rfl, ?_⟩
      cases l1.sk with
      | nil =>
        refine iteF ?_
        have cm1 : canMiss ([]) = false := rfl
        refine ⟨_, rfl, _, rfl, by decide +kernel, fun a1 na1 => ?_⟩
        have la1 := l1.new na1 (.lst ((Str.ofString "abcdefghijklmnopqrstuvwxyz").cps.toList.map fun c => V.str ⟨#[c]⟩))
        refine ⟨a1, _, rfl, .inl (SqL.of upd_same), rfl, (by decide +kernel), isLow c, congrArg V.bl in_low, ?_⟩
        generalize upd H4 a1 _ = I1 at la1 ⊢
        cases hlow : isLow c with
        | false =>
          refine iteF ?_
          have nlow : ¬ (isLow c = true ∧ m < 12) := fun z => by rw [hlow] at z; cases z.1
          refine ⟨_, rfl, rfl, _, rfl, ?_⟩
          rw [sgn_eq str_dash]
          by_cases h45 : c = 45
          · rw [decide_eq_true h45]
            refine iteT ⟨_, rfl, _, rfl, iteF ?_⟩
            refine ⟨_, rfl, (by show 1 ≤ sizeLine; decide), fun r2 nr2 => ?_⟩
            have lr2 := la1.new nr2 (.lst [.int (i : Int)])
            refine q (.ref r2) _ lr2.s0 ?_
            rw [← parsed_eq, hgo, go_badN nlow (fun z => by rw [cm1] at z; cases z.2)]
            exact .lst (SqL.of upd_same) (.cons (.int _) .nil)
          · rw [decide_eq_false h45]
            refine iteF ?_
            refine ⟨_, rfl, (by show 1 ≤ sizeLine; decide), fun r3 nr3 => ?_⟩
            have lr3 := la1.new nr3 (.lst [.int (i : Int)])
            refine q (.ref r3) _ lr3.s0 ?_
            rw [← parsed_eq, hgo, go_badN nlow (fun z => h45 z.1)]
            exact .lst (SqL.of upd_same) (.cons (.int _) .nil)
        | true =>
          refine iteT ⟨_, rfl, _, _, rfl, rfl, _, rfl, ?_⟩
          by_cases hm : m < 12
          · rw [decide_eq_true (show (m : Int) < 12 by omega)]
            refine iteT ⟨_, rfl, _, _, rfl, rfl, _, rfl, (by show 3 ≤ sizeLine; decide), fun pt npt => ?_⟩
            have lb1 := la1.new npt (.tup [.non, .str ⟨#[c]⟩, .non])
            refine ⟨(by show 2 ≤ sizeLine; decide), fun pd npd => ?_⟩
            have kd := same_new npd (.lst [.ref pt, .bl true])
            refine ⟨_, _, rfl, ?_⟩
            refine ⟨_, _, _, _, _, .ref pd, _, [], some (leaf c, true), m + 1, rfl, (lb1.new npd _).done ⟨pd, .ref pt, rfl, lb1.ne npd, upd_same, .node (kd _ _ upd_same) .nil .nil, fun _ => ⟨c, rfl⟩⟩, Nat.le_succ_of_le hvl, ?_⟩
            rw [hgo]
            exact go_low hlow hm
          · rw [decide_eq_false (show ¬ (m : Int) < 12 by omega)]
            refine iteF ?_
            have nlow : ¬ (isLow c = true ∧ m < 12) := fun z => hm z.2
            refine ⟨_, rfl, rfl, _, rfl, ?_⟩
            rw [sgn_eq str_dash]
            by_cases h45 : c = 45
            · rw [decide_eq_true h45]
              refine iteT ⟨_, rfl, _, rfl, iteF ?_⟩
              refine ⟨_, rfl, (by show 1 ≤ sizeLine; decide), fun r4 nr4 => ?_⟩
              have lr4 := la1.new nr4 (.lst [.int (i : Int)])
              refine q (.ref r4) _ lr4.s0 ?_
              rw [← parsed_eq, hgo, go_badN nlow (fun z => by rw [cm1] at z; cases z.2)]
              exact .lst (SqL.of upd_same) (.cons (.int _) .nil)
            · rw [decide_eq_false h45]
              refine iteF ?_
              refine ⟨_, rfl, (by show 1 ≤ sizeLine; decide), fun r5 nr5 => ?_⟩
              have lr5 := la1.new nr5 (.lst [.int (i : Int)])
              refine q (.ref r5) _ lr5.s0 ?_
              rw [← parsed_eq, hgo, go_badN nlow (fun z => h45 z.1)]
              exact .lst (SqL.of upd_same) (.cons (.int _) .nil)
      | @cons vs st r a o hr er sk =>
        rw [show (!(vs ++ [V.ref r]).isEmpty) = true by simp]
        cases o with
        | none =>
          have er' : H4 r = some (.lst [.str ⟨#[a]⟩]) := er
          refine iteT ⟨_, rfl, _, rfl, A, _, _, _, rfl, rfl, SqL.of l1.ea, atI_last _ _, r, _, rfl, .inl (SqL.of er'), rfl, _, rfl, iteT ?_⟩
          have cm6 : canMiss ((a, none) :: st) = true := rfl
          refine ⟨_, rfl, _, rfl, by decide +kernel, fun a6 na6 => ?_⟩
          have la6 := l1.new na6 (.lst ((Str.ofString "abcdefghijklmnopqrstuvwxyz").cps.toList.map fun c => V.str ⟨#[c]⟩))
          refine ⟨a6, _, rfl, .inl (SqL.of upd_same), rfl, (by decide +kernel), isLow c, congrArg V.bl in_low, ?_⟩
          generalize upd H4 a6 _ = I6 at la6 ⊢
          cases hlow : isLow c with
          | false =>
            refine iteF ?_
            have nlow : ¬ (isLow c = true ∧ m < 12) := fun z => by rw [hlow] at z; cases z.1
            refine ⟨_, rfl, rfl, _, rfl, ?_⟩
            rw [sgn_eq str_dash]
            by_cases h45 : c = 45
            · rw [decide_eq_true h45]
              refine iteT ⟨_, rfl, _, rfl, iteT ⟨(by show 2 ≤ sizeLine; decide), fun pd npd => ?_⟩⟩
              refine ⟨_, _, _, _, _, .ref pd, _, (a, none) :: st, some (.nil, false), m, rfl, (la6.new npd _).done ⟨pd, .non, rfl, la6.ne npd, upd_same, .nil, fun z => nomatch z⟩, Nat.le_succ_of_le hvl, ?_⟩
              rw [hgo, h45]
              exact go_dash cm6
            · rw [decide_eq_false h45]
              refine iteF ?_
              refine ⟨_, rfl, (by show 1 ≤ sizeLine; decide), fun r7 nr7 => ?_⟩
              have lr7 := la6.new nr7 (.lst [.int (i : Int)])
              refine q (.ref r7) _ lr7.s0 ?_
              rw [← parsed_eq, hgo, go_badN nlow (fun z => h45 z.1)]
              exact .lst (SqL.of upd_same) (.cons (.int _) .nil)
          | true =>
            refine iteT ⟨_, rfl, _, _, rfl, rfl, _, rfl, ?_⟩
            by_cases hm : m < 12
            · rw [decide_eq_true (show (m : Int) < 12 by omega)]
              refine iteT ⟨_, rfl, _, _, rfl, rfl, _, rfl, (by show 3 ≤ sizeLine; decide), fun pt npt => ?_⟩
              have lb6 := la6.new npt (.tup [.non, .str ⟨#[c]⟩, .non])
              refine ⟨(by show 2 ≤ sizeLine; decide), fun pd npd => ?_⟩
              have kd := same_new npd (.lst [.ref pt, .bl true])
              refine ⟨_, _, rfl, ?_⟩
              refine ⟨_, _, _, _, _, .ref pd, _, (a, none) :: st, some (leaf c, true), m + 1, rfl, (lb6.new npd _).done ⟨pd, .ref pt, rfl, lb6.ne npd, upd_same, .node (kd _ _ upd_same) .nil .nil, fun _ => ⟨c, rfl⟩⟩, Nat.le_succ_of_le hvl, ?_⟩
              rw [hgo]
              exact go_low hlow hm
            · rw [decide_eq_false (show ¬ (m : Int) < 12 by omega)]
              refine iteF ?_
              have nlow : ¬ (isLow c = true ∧ m < 12) := fun z => hm z.2
              refine ⟨_, rfl, rfl, _, rfl, ?_⟩
              rw [sgn_eq str_dash]
              by_cases h45 : c = 45
              · rw [decide_eq_true h45]
                refine iteT ⟨_, rfl, _, rfl, iteT ⟨(by show 2 ≤ sizeLine; decide), fun pd npd => ?_⟩⟩
                refine ⟨_, _, _, _, _, .ref pd, _, (a, none) :: st, some (.nil, false), m, rfl, (la6.new npd _).done ⟨pd, .non, rfl, la6.ne npd, upd_same, .nil, fun z => nomatch z⟩, Nat.le_succ_of_le hvl, ?_⟩
                rw [hgo, h45]
                exact go_dash cm6
              · rw [decide_eq_false h45]
                refine iteF ?_
                refine ⟨_, rfl, (by show 1 ≤ sizeLine; decide), fun r8 nr8 => ?_⟩
                have lr8 := la6.new nr8 (.lst [.int (i : Int)])
                refine q (.ref r8) _ lr8.s0 ?_
                rw [← parsed_eq, hgo, go_badN nlow (fun z => h45 z.1)]
                exact .lst (SqL.of upd_same) (.cons (.int _) .nil)
        | some l =>
          obtain ⟨vl, er', al⟩ := er
          refine iteT ⟨_, rfl, _, rfl, A, _, _, _, rfl, rfl, SqL.of l1.ea, atI_last _ _, r, _, rfl, .inl (SqL.of er'), rfl, _, rfl, iteF ?_⟩
          refine ⟨_, rfl, _, rfl, A, _, _, _, rfl, rfl, SqL.of l1.ea, atI_last _ _, r, _, 1, vl, rfl, rfl, SqL.of er', atI_nat (j := 1) rfl, rfl, ?_⟩
          rcases al.inv with ⟨rfl, rfl⟩ | ⟨a1, v1, v2, x1, t1, t2, rfl, rfl, e1, h1, h2⟩
          · rw [show (!decide (V.non = V.non)) = false by simp]
            have cm9 : canMiss ((a, some .nil) :: st) = false := rfl
            refine ⟨_, rfl, _, rfl, by decide +kernel, fun a9 na9 => ?_⟩
            have la9 := l1.new na9 (.lst ((Str.ofString "abcdefghijklmnopqrstuvwxyz").cps.toList.map fun c => V.str ⟨#[c]⟩))
            refine ⟨a9, _, rfl, .inl (SqL.of upd_same), rfl, (by decide +kernel), isLow c, congrArg V.bl in_low, ?_⟩
            generalize upd H4 a9 _ = I9 at la9 ⊢
            cases hlow : isLow c with
            | false =>
              refine iteF ?_
              have nlow : ¬ (isLow c = true ∧ m < 12) := fun z => by rw [hlow] at z; cases z.1
              refine ⟨_, rfl, rfl, _, rfl, ?_⟩
              rw [sgn_eq str_dash]
              by_cases h45 : c = 45
              · rw [decide_eq_true h45]
                refine iteT ⟨_, rfl, _, rfl, iteF ?_⟩
                refine ⟨_, rfl, (by show 1 ≤ sizeLine; decide), fun r10 nr10 => ?_⟩
                have lr10 := la9.new nr10 (.lst [.int (i : Int)])
                refine q (.ref r10) _ lr10.s0 ?_
                rw [← parsed_eq, hgo, go_badN nlow (fun z => by rw [cm9] at z; cases z.2)]
                exact .lst (SqL.of upd_same) (.cons (.int _) .nil)
              · rw [decide_eq_false h45]
                refine iteF ?_
                refine ⟨_, rfl, (by show 1 ≤ sizeLine; decide), fun r11 nr11 => ?_⟩
                have lr11 := la9.new nr11 (.lst [.int (i : Int)])
                refine q (.ref r11) _ lr11.s0 ?_
                rw [← parsed_eq, hgo, go_badN nlow (fun z => h45 z.1)]
                exact .lst (SqL.of upd_same) (.cons (.int _) .nil)
            | true =>
              refine iteT ⟨_, rfl, _, _, rfl, rfl, _, rfl, ?_⟩
              by_cases hm : m < 12
              · rw [decide_eq_true (show (m : Int) < 12 by omega)]
                refine iteT ⟨_, rfl, _, _, rfl, rfl, _, rfl, (by show 3 ≤ sizeLine; decide), fun pt npt => ?_⟩
                have lb9 := la9.new npt (.tup [.non, .str ⟨#[c]⟩, .non])
                refine ⟨(by show 2 ≤ sizeLine; decide), fun pd npd => ?_⟩
                have kd := same_new npd (.lst [.ref pt, .bl true])
                refine ⟨_, _, rfl, ?_⟩
                refine ⟨_, _, _, _, _, .ref pd, _, (a, some .nil) :: st, some (leaf c, true), m + 1, rfl, (lb9.new npd _).done ⟨pd, .ref pt, rfl, lb9.ne npd, upd_same, .node (kd _ _ upd_same) .nil .nil, fun _ => ⟨c, rfl⟩⟩, Nat.le_succ_of_le hvl, ?_⟩
                rw [hgo]
                exact go_low hlow hm
              · rw [decide_eq_false (show ¬ (m : Int) < 12 by omega)]
                refine iteF ?_
                have nlow : ¬ (isLow c = true ∧ m < 12) := fun z => hm z.2
                refine ⟨_, rfl, rfl, _, rfl, ?_⟩
                rw [sgn_eq str_dash]
                by_cases h45 : c = 45
                · rw [decide_eq_true h45]
                  refine iteT ⟨_, rfl, _, rfl, iteF ?_⟩
                  refine ⟨_, rfl, (by show 1 ≤ sizeLine; decide), fun r12 nr12 => ?_⟩
                  have lr12 := la9.new nr12 (.lst [.int (i : Int)])
                  refine q (.ref r12) _ lr12.s0 ?_
                  rw [← parsed_eq, hgo, go_badN nlow (fun z => by rw [cm9] at z; cases z.2)]
                  exact .lst (SqL.of upd_same) (.cons (.int _) .nil)
                · rw [decide_eq_false h45]
                  refine iteF ?_
                  refine ⟨_, rfl, (by show 1 ≤ sizeLine; decide), fun r13 nr13 => ?_⟩
                  have lr13 := la9.new nr13 (.lst [.int (i : Int)])
                  refine q (.ref r13) _ lr13.s0 ?_
                  rw [← parsed_eq, hgo, go_badN nlow (fun z => h45 z.1)]
                  exact .lst (SqL.of upd_same) (.cons (.int _) .nil)
          · rw [show (!decide (V.ref a1 = V.non)) = true by simp]
            have cm14 : canMiss ((a, some (.node t1 x1 t2)) :: st) = true := rfl
            refine ⟨_, rfl, _, rfl, by decide +kernel, fun a14 na14 => ?_⟩
            have la14 := l1.new na14 (.lst ((Str.ofString "abcdefghijklmnopqrstuvwxyz").cps.toList.map fun c => V.str ⟨#[c]⟩))
            refine ⟨a14, _, rfl, .inl (SqL.of upd_same), rfl, (by decide +kernel), isLow c, congrArg V.bl in_low, ?_⟩
            generalize upd H4 a14 _ = I14 at la14 ⊢
            cases hlow : isLow c with
            | false =>
              refine iteF ?_
              have nlow : ¬ (isLow c = true ∧ m < 12) := fun z => by rw [hlow] at z; cases z.1
              refine ⟨_, rfl, rfl, _, rfl, ?_⟩
              rw [sgn_eq str_dash]
              by_cases h45 : c = 45
              · rw [decide_eq_true h45]
                refine iteT ⟨_, rfl, _, rfl, iteT ⟨(by show 2 ≤ sizeLine; decide), fun pd npd => ?_⟩⟩
                refine ⟨_, _, _, _, _, .ref pd, _, (a, some (.node t1 x1 t2)) :: st, some (.nil, false), m, rfl, (la14.new npd _).done ⟨pd, .non, rfl, la14.ne npd, upd_same, .nil, fun z => nomatch z⟩, Nat.le_succ_of_le hvl, ?_⟩
                rw [hgo, h45]
                exact go_dash cm14
              · rw [decide_eq_false h45]
                refine iteF ?_
                refine ⟨_, rfl, (by show 1 ≤ sizeLine; decide), fun r15 nr15 => ?_⟩
                have lr15 := la14.new nr15 (.lst [.int (i : Int)])
                refine q (.ref r15) _ lr15.s0 ?_
                rw [← parsed_eq, hgo, go_badN nlow (fun z => h45 z.1)]
                exact .lst (SqL.of upd_same) (.cons (.int _) .nil)
            | true =>
              refine iteT ⟨_, rfl, _, _, rfl, rfl, _, rfl, ?_⟩
              by_cases hm : m < 12
              · rw [decide_eq_true (show (m : Int) < 12 by omega)]
                refine iteT ⟨_, rfl, _, _, rfl, rfl, _, rfl, (by show 3 ≤ sizeLine; decide), fun pt npt => ?_⟩
                have lb14 := la14.new npt (.tup [.non, .str ⟨#[c]⟩, .non])
                refine ⟨(by show 2 ≤ sizeLine; decide), fun pd npd => ?_⟩
                have kd := same_new npd (.lst [.ref pt, .bl true])
                refine ⟨_, _, rfl, ?_⟩
                refine ⟨_, _, _, _, _, .ref pd, _, (a, some (.node t1 x1 t2)) :: st, some (leaf c, true), m + 1, rfl, (lb14.new npd _).done ⟨pd, .ref pt, rfl, lb14.ne npd, upd_same, .node (kd _ _ upd_same) .nil .nil, fun _ => ⟨c, rfl⟩⟩, Nat.le_succ_of_le hvl, ?_⟩
                rw [hgo]
                exact go_low hlow hm
              · rw [decide_eq_false (show ¬ (m : Int) < 12 by omega)]
                refine iteF ?_
                have nlow : ¬ (isLow c = true ∧ m < 12) := fun z => hm z.2
                refine ⟨_, rfl, rfl, _, rfl, ?_⟩
                rw [sgn_eq str_dash]
                by_cases h45 : c = 45
                · rw [decide_eq_true h45]
                  refine iteT ⟨_, rfl, _, rfl, iteT ⟨(by show 2 ≤ sizeLine; decide), fun pd npd => ?_⟩⟩
                  refine ⟨_, _, _, _, _, .ref pd, _, (a, some (.node t1 x1 t2)) :: st, some (.nil, false), m, rfl, (la14.new npd _).done ⟨pd, .non, rfl, la14.ne npd, upd_same, .nil, fun z => nomatch z⟩, Nat.le_succ_of_le hvl, ?_⟩
                  rw [hgo, h45]
                  exact go_dash cm14
                · rw [decide_eq_false h45]
                  refine iteF ?_
                  refine ⟨_, rfl, (by show 1 ≤ sizeLine; decide), fun r16 nr16 => ?_⟩
                  have lr16 := la14.new nr16 (.lst [.int (i : Int)])
                  refine q (.ref r16) _ lr16.s0 ?_
                  rw [← parsed_eq, hgo, go_badN nlow (fun z => h45 z.1)]
                  exact .lst (SqL.of upd_same) (.cons (.int _) .nil)
    | some xf =>
      obtain ⟨x, f⟩ := xf
      obtain ⟨d, vx0, rfl, _, ed0, _, _⟩ := ls2.dn
      refine ⟨_, rfl, (by show 0 ≤ sizeLine; decide), fun p1 npp1 => ?_⟩
      have l0 := ls2.new npp1 (.lst [])
      refine ⟨d, p1, _, rfl, rfl, SqL.of (same_new npp1 _ _ _ ed0), SqL.of upd_same, _, rfl, iteF ?_⟩
      generalize upd H2 p1 (.lst []) = H3 at l0 ⊢
      obtain ⟨d', vx, hd', hdA', ed, ax, hxf⟩ := l0.dn
      cases hd'
      refine ⟨_, rfl, rfl, _, rfl, ?_⟩
      rw [sgn_eq str_par1]
      by_cases h40 : c = 40
      · rw [decide_eq_true h40]
        refine iteT ⟨_, rfl, d, _, 1, .bl f, rfl, rfl, SqL.of ed, atI_nat (j := 1) rfl, _, rfl, ?_⟩
        cases f with
        | false =>
          refine iteF ?_
          refine ⟨_, rfl, rfl, _, rfl, ?_⟩
          rw [sgn_eq str_com, decide_eq_false (fun z => by omega)]
          refine iteF ?_
          refine ⟨_, rfl, rfl, _, rfl, ?_⟩
          rw [sgn_eq str_par2, decide_eq_false (fun z => by omega)]
          refine iteF ?_
          refine ⟨_, rfl, (by show 1 ≤ sizeLine; decide), fun r17 nr17 => ?_⟩
          have lr17 := l0.new nr17 (.lst [.int (i : Int)])
          refine q (.ref r17) _ lr17.s0 ?_
          rw [← parsed_eq, hgo, go_no (c := c) (st := st) (x := x) (f := false) (m := m) (fun z => nomatch z.2.1) (fun z => by omega) (fun z => by omega)]
          exact .lst (SqL.of upd_same) (.cons (.int _) .nil)
        | true =>
          obtain ⟨c0, rfl⟩ := hxf rfl
          refine iteT ⟨_, rfl, _, _, rfl, rfl, _, rfl, ?_⟩
          by_cases hm : m < 12
          · rw [decide_eq_true (show (m : Int) < 12 by omega)]
            refine iteT ?_
            rcases ax.inv with ⟨_, hz⟩ | ⟨a1, v1, v2, x1, t1, t2, rfl, hz, e1, h1, h2⟩
            · cases hz
            cases hz
            refine ⟨_, rfl, .inl ⟨rfl, _, SqL.of l0.ea⟩, ?_⟩
            refine ⟨_, rfl, d, _, 0, .ref a1, rfl, rfl, SqL.of ed, atI_nat (j := 0) rfl, a1, _, 1, .str ⟨#[c0]⟩, rfl, rfl, SqT.of e1, atI_nat (j := 1) rfl, (by show 1 ≤ sizeLine; decide), fun pe npe => ?_⟩
            have le := l0.new npe (.lst [.str ⟨#[c0]⟩])
            have lp := le.put (.cons (a := c0) (o := none) (l0.ne npe) upd_same le.sk)
            refine ⟨A, vs, _, rfl, rfl, le.ea, Nat.lt_of_le_of_lt (show vs.length ≤ 5000 by omega) (by decide), ?_⟩
            refine ⟨(by show 0 ≤ sizeLine; decide), fun pd npd => ?_⟩
            refine ⟨_, _, _, _, _, .ref pd, _, (c0, none) :: st, none, m, rfl, (lp.new npd _).done ⟨pd, rfl, lp.ne npd, upd_same⟩, by rw [List.length_append, List.length_singleton]; omega, ?_⟩
            rw [hgo, h40]
            exact go_open hm
          · rw [decide_eq_false (show ¬ (m : Int) < 12 by omega)]
            refine iteF ?_
            refine ⟨_, rfl, rfl, _, rfl, ?_⟩
            rw [sgn_eq str_com, decide_eq_false (fun z => by omega)]
            refine iteF ?_
            refine ⟨_, rfl, rfl, _, rfl, ?_⟩
            rw [sgn_eq str_par2, decide_eq_false (fun z => by omega)]
            refine iteF ?_
            refine ⟨_, rfl, (by show 1 ≤ sizeLine; decide), fun r18 nr18 => ?_⟩
            have lr18 := l0.new nr18 (.lst [.int (i : Int)])
            refine q (.ref r18) _ lr18.s0 ?_
            rw [← parsed_eq, hgo, go_no (c := c) (st := st) (x := leaf c0) (f := true) (m := m) (fun z => hm z.2.2) (fun z => by omega) (fun z => by omega)]
            exact .lst (SqL.of upd_same) (.cons (.int _) .nil)
      rw [decide_eq_false h40]
      refine iteF ⟨_, rfl, rfl, _, rfl, ?_⟩
      rw [sgn_eq str_com]
      by_cases h44 : c = 44
      · rw [decide_eq_true h44]
        refine iteT ⟨_, rfl, (by show 0 ≤ sizeLine; decide), fun p2 npp2 => ?_⟩
        have l1 := l0.new npp2 (.lst [])
        have ep2 := upd_same (H := H3) (a := p2) (o := .lst [])
        generalize upd H3 p2 (.lst []) = H4 at l1 ep2 ⊢
        refine ⟨A, p2, vs, rfl, rfl, SqL.of l1.ea, SqL.of ep2, _, rfl, ?_⟩
        cases l1.sk with
        | nil =>
          refine iteF ?_
          refine ⟨_, rfl, rfl, _, rfl, ?_⟩
          rw [sgn_eq str_par2, decide_eq_false (fun z => by omega)]
          refine iteF ?_
          refine ⟨_, rfl, (by show 1 ≤ sizeLine; decide), fun r19 nr19 => ?_⟩
          have lr19 := l1.new nr19 (.lst [.int (i : Int)])
          refine q (.ref r19) _ lr19.s0 ?_
          rw [← parsed_eq, hgo, go_no (c := c) (st := []) (x := x) (f := f) (m := m) (fun z => h40 z.1) (fun _ _ _ z => nomatch z) (fun z => by omega)]
          exact .lst (SqL.of upd_same) (.cons (.int _) .nil)
        | @cons vs st r a o hr er sk =>
          rw [show (!(vs ++ [V.ref r]).isEmpty) = true by simp]
          have hvl' : vs.length + 1 ≤ i := by rw [List.length_append, List.length_singleton] at hvl; exact hvl
          cases o with
          | none =>
            have er' : H4 r = some (.lst [.str ⟨#[a]⟩]) := er
            refine iteT ⟨_, rfl, _, rfl, A, _, _, _, rfl, rfl, SqL.of l1.ea, atI_last _ _, r, _, rfl, .inl (SqL.of er'), rfl, _, rfl, iteT ?_⟩
            refine ⟨_, rfl, .inl ⟨rfl, _, SqL.of l1.ea⟩, ?_⟩
            refine ⟨_, rfl, .inl ⟨rfl, _, SqL.of l1.ea⟩, A, _, .ref r, rfl, rfl, l1.ea, by simp, ?_⟩
            rw [List.dropLast_concat]
            have lp := l1.put sk
            have er2 : (upd H4 A (.lst vs)) r = some (.lst [.str ⟨#[a]⟩]) := by rw [upd_ne hr]; exact er'
            generalize upd H4 A (.lst vs) = H5 at lp er2 ⊢
            obtain ⟨d', vx, hd', hdA', ed, ax, hxf⟩ := lp.dn
            cases hd'
            refine ⟨_, rfl, d, _, 0, vx, rfl, rfl, SqL.of ed, atI_nat (j := 0) rfl, (by show 1 ≤ sizeLine; decide), fun pl npl => ?_⟩
            have ll := lp.new npl (.lst [vx])
            have er3 := same_new npl (.lst [vx]) _ _ er2
            have ax2 := ax.same (same_new npl (.lst [vx]))
            have epl := upd_same (H := H5) (a := pl) (o := .lst [vx])
            generalize upd H5 pl (.lst [vx]) = H6 at ll er3 ax2 epl ⊢
            refine ⟨r, pl, _, _, rfl, rfl, er3, epl, (by show 1 + 1 ≤ sizeLine; decide), fun pc npc => ?_⟩
            have lc := ll.new npc (.lst ([.str ⟨#[a]⟩] ++ [vx]))
            have ax3 := ax2.same (same_new npc (.lst ([.str ⟨#[a]⟩] ++ [vx])))
            have lq := lc.put (.cons (a := a) (o := some x) (ll.ne npc) ⟨vx, upd_same, ax3⟩ lc.sk)
            refine ⟨A, vs, _, rfl, rfl, lc.ea, Nat.lt_of_le_of_lt (show vs.length ≤ 5000 by omega) (by decide), ?_⟩
            refine ⟨(by show 0 ≤ sizeLine; decide), fun pd npd => ?_⟩
            refine ⟨_, _, _, _, _, .ref pd, _, (a, some x) :: st, none, m, rfl, (lq.new npd _).done ⟨pd, rfl, lq.ne npd, upd_same⟩, by rw [List.length_append, List.length_singleton]; omega, ?_⟩
            rw [hgo, h44]
            exact go_comma
          | some l =>
            obtain ⟨vl, er', al⟩ := er
            refine iteT ⟨_, rfl, _, rfl, A, _, _, _, rfl, rfl, SqL.of l1.ea, atI_last _ _, r, _, rfl, .inl (SqL.of er'), rfl, _, rfl, iteF ?_⟩
            refine ⟨_, rfl, rfl, _, rfl, ?_⟩
            rw [sgn_eq str_par2, decide_eq_false (fun z => by omega)]
            refine iteF ?_
            refine ⟨_, rfl, (by show 1 ≤ sizeLine; decide), fun r20 nr20 => ?_⟩
            have lr20 := l1.new nr20 (.lst [.int (i : Int)])
            refine q (.ref r20) _ lr20.s0 ?_
            rw [← parsed_eq, hgo, go_no (c := c) (st := (a, some l) :: st) (x := x) (f := f) (m := m) (fun z => h40 z.1) (fun _ _ _ z => nomatch z) (fun z => by omega)]
            exact .lst (SqL.of upd_same) (.cons (.int _) .nil)
      rw [decide_eq_false h44]
      refine iteF ⟨_, rfl, rfl, _, rfl, ?_⟩
      rw [sgn_eq str_par2]
      by_cases h41 : c = 41
      · rw [decide_eq_true h41]
        refine iteT ⟨_, rfl, (by show 0 ≤ sizeLine; decide), fun p2 npp2 => ?_⟩
        have l1 := l0.new npp2 (.lst [])
        have ep2 := upd_same (H := H3) (a := p2) (o := .lst [])
        generalize upd H3 p2 (.lst []) = H4 at l1 ep2 ⊢
        refine ⟨A, p2, vs, rfl, rfl, SqL.of l1.ea, SqL.of ep2, _, rfl, ?_⟩
        cases l1.sk with
        | nil =>
          refine iteF ?_
          refine ⟨_, rfl, (by show 1 ≤ sizeLine; decide), fun r21 nr21 => ?_⟩
          have lr21 := l1.new nr21 (.lst [.int (i : Int)])
          refine q (.ref r21) _ lr21.s0 ?_
          rw [← parsed_eq, hgo, go_no (c := c) (st := []) (x := x) (f := f) (m := m) (fun z => h40 z.1) (fun _ _ _ z => nomatch z) (fun _ _ _ _ z => nomatch z)]
          exact .lst (SqL.of upd_same) (.cons (.int _) .nil)
        | @cons vs st r a o hr er sk =>
          rw [show (!(vs ++ [V.ref r]).isEmpty) = true by simp]
          have hvl' : vs.length + 1 ≤ i := by rw [List.length_append, List.length_singleton] at hvl; exact hvl
          cases o with
          | none =>
            have er' : H4 r = some (.lst [.str ⟨#[a]⟩]) := er
            refine iteT ⟨_, rfl, _, rfl, A, _, _, _, rfl, rfl, SqL.of l1.ea, atI_last _ _, r, _, rfl, .inl (SqL.of er'), rfl, _, rfl, iteF ?_⟩
            refine ⟨_, rfl, (by show 1 ≤ sizeLine; decide), fun r22 nr22 => ?_⟩
            have lr22 := l1.new nr22 (.lst [.int (i : Int)])
            refine q (.ref r22) _ lr22.s0 ?_
            rw [← parsed_eq, hgo, go_no (c := c) (st := (a, none) :: st) (x := x) (f := f) (m := m) (fun z => h40 z.1) (fun z => by omega) (fun _ _ _ _ z => nomatch z)]
            exact .lst (SqL.of upd_same) (.cons (.int _) .nil)
          | some l =>
            obtain ⟨vl, er', al⟩ := er
            refine iteT ⟨_, rfl, _, rfl, A, _, _, _, rfl, rfl, SqL.of l1.ea, atI_last _ _, r, _, rfl, .inl (SqL.of er'), rfl, _, rfl, iteT ?_⟩
            refine ⟨_, rfl, .inl ⟨rfl, _, SqL.of l1.ea⟩, A, _, .ref r, rfl, rfl, l1.ea, by simp, ?_⟩
            rw [List.dropLast_concat]
            have lp := l1.put sk
            have er2 : (upd H4 A (.lst vs)) r = some (.lst [.str ⟨#[a]⟩, vl]) := by rw [upd_ne hr]; exact er'
            have al2 : TreeAt (upd H4 A (.lst vs)) vl l := al.keep (KeepA.keepT (A := A) (fun b o hb e => by rw [upd_ne hb]; exact e) l1.ea)
            generalize upd H4 A (.lst vs) = H5 at lp er2 al2 ⊢
            obtain ⟨d', vx, hd', hdA', ed, ax, hxf⟩ := lp.dn
            cases hd'
            refine ⟨r, _, rfl, SqL.of er2, rfl, .str ⟨#[a]⟩, _, rfl, vl, _, rfl, rfl, ?_⟩
            refine ⟨_, rfl, _, rfl, _, rfl, d, _, 0, vx, rfl, rfl, SqL.of ed, atI_nat (j := 0) rfl, (by show 3 ≤ sizeLine; decide), fun pt npt => ?_⟩
            have k3 := same_new npt (.tup [vl, .str ⟨#[a]⟩, vx])
            have ll := lp.new npt (.tup [vl, .str ⟨#[a]⟩, vx])
            refine ⟨(by show 2 ≤ sizeLine; decide), fun pd npd => ?_⟩
            have k4 := same_new npd (.lst [.ref pt, .bl false])
            refine ⟨_, _, _, _, _, .ref pd, _, st, some (.node l ⟨#[a]⟩ x, false), m, rfl, (ll.new npd _).done ⟨pd, .ref pt, rfl, ll.ne npd, upd_same, .node (k4 _ _ upd_same) ((al2.same k3).same k4) ((ax.same k3).same k4), (fun z => nomatch z)⟩, by omega, ?_⟩
            rw [hgo, h41]
            exact go_close
      rw [decide_eq_false h41]
      refine iteF ?_
      refine ⟨_, rfl, (by show 1 ≤ sizeLine; decide), fun r23 nr23 => ?_⟩
      have lr23 := l0.new nr23 (.lst [.int (i : Int)])
      refine q (.ref r23) _ lr23.s0 ?_
      rw [← parsed_eq, hgo, go_no (fun z => h40 z.1) (fun z => absurd z h44) (fun z => absurd z h41)]
      exact .lst (SqL.of upd_same) (.cons (.int _) .nil)
  · obtain ⟨y4, y5, y6, y7, y8, dv, vs, st, dn, m, rfl, ls, hvl, hgo⟩ := hp
    rw [List.drop_eq_nil_of_le (Nat.le_refl _)] at hgo
    have lt : (tx t).length ≤ sizeLine := Nat.le_trans (show (tx t).length ≤ 5000 from ht) (by decide)
    have fin : ∀ H2 : Hp, (ansD (parsed t) = .list [.int (t.length : Int)]) → Same H H2 → ∀ r, H2 r = none → Q (.ref r) (upd H2 r (.lst [.int ((tx t).length : Int)])) := fun H2 e s2 r nr => by
      refine q _ _ (s2.trans (same_new nr _)) ?_
      rw [e]
      exact .lst (SqL.of upd_same) (.cons (.int _) .nil)
    refine ⟨_, rfl, (by show 0 ≤ sizeLine; decide), fun p1 np1 => ?_⟩
    have l0 := ls.new np1 (.lst [])
    have ep1 := upd_same (H := H1) (a := p1) (o := .lst [])
    generalize upd H1 p1 (.lst []) = H3 at l0 ep1 ⊢
    refine ⟨A, p1, vs, rfl, rfl, SqL.of l0.ea, SqL.of ep1, _, rfl, ?_⟩
    cases l0.sk with
    | @cons vs st r a o hr er sk =>
      rw [show (!(vs ++ [V.ref r]).isEmpty) = true by simp]
      refine iteT ⟨_, rfl, tx t, rfl, lt, (by show 1 ≤ sizeLine; decide), fun r nr => fin H3 ?_ l0.s0 r nr⟩
      rw [← parsed_eq, hgo]
      rfl
    | nil =>
      refine iteF ⟨_, rfl, (by show 0 ≤ sizeLine; decide), fun p2 np2 => ?_⟩
      have l1 := l0.new np2 (.lst [])
      have ep2 := upd_same (H := H3) (a := p2) (o := .lst [])
      generalize upd H3 p2 (.lst []) = H4 at l1 ep2 ⊢
      cases dn with
      | none =>
        obtain ⟨d, rfl, hdA', ed⟩ := l1.dn
        refine ⟨d, p2, _, rfl, rfl, SqL.of ed, SqL.of ep2, _, rfl, iteT ?_⟩
        refine ⟨_, rfl, tx t, rfl, lt, (by show 1 ≤ sizeLine; decide), fun r nr => fin H4 ?_ l1.s0 r nr⟩
        rw [← parsed_eq, hgo]
        rfl
      | some xf =>
        obtain ⟨x, f⟩ := xf
        obtain ⟨d, vx, rfl, hdA', ed, ax, hxf⟩ := l1.dn
        refine ⟨d, p2, _, rfl, rfl, SqL.of ed, SqL.of ep2, _, rfl, iteF ?_⟩
        refine ⟨_, rfl, d, _, 0, vx, rfl, rfl, SqL.of ed, atI_nat (j := 0) rfl, ?_⟩
        refine q vx H4 l1.s0 ?_
        rw [← parsed_eq, hgo]
        exact ax.dp
end
/-! ### values of any kind, and how they are shown -/
mutual
inductive DQ (D : Deck) (H : Hp) : V → PyData → Prop
  | non : DQ D H .non .none
  | bl (b : Bool) : DQ D H (.bl b) (.bool b)
  | int (i : Int) : DQ D H (.int i) (.int i)
  | str (x : Str) : DQ D H (.str x) (.str x)
  | lst {a : Addr} {xs : List V} {ds : List PyData} : Off D a → H a = some (.lst xs) → DQAll D H xs ds → DQ D H (.ref a) (.list ds)
  | tup {a : Addr} {xs : List V} {ds : List PyData} : Off D a → H a = some (.tup xs) → DQAll D H xs ds → DQ D H (.ref a) (.tuple ds)
  | emp {a : Addr} : Off D a → H a = some (.dK []) → DQ D H (.ref a) (.dict [])
inductive DQAll (D : Deck) (H : Hp) : List V → List PyData → Prop
  | nil : DQAll D H [] []
  | cons {v : V} {vs : List V} {d : PyData} {ds : List PyData} : DQ D H v d → DQAll D H vs ds → DQAll D H (v :: vs) (d :: ds)
end
mutual
theorem dq_sameD {D : Deck} {H H' : Hp} (s : SameD D H H') : ∀ {v : V} {d : PyData}, DQ D H v d → DQ D H' v d
  | _, _, .non => .non
  | _, _, .bl b => .bl b
  | _, _, .int i => .int i
  | _, _, .str x => .str x
  | _, _, .lst o e a => .lst o (s.at o e) (dqAll_sameD s a)
  | _, _, .tup o e a => .tup o (s.at o e) (dqAll_sameD s a)
  | _, _, .emp o e => .emp o (s.at o e)
theorem dqAll_sameD {D : Deck} {H H' : Hp} (s : SameD D H H') : ∀ {vs : List V} {ds : List PyData}, DQAll D H vs ds → DQAll D H' vs ds
  | _, _, .nil => .nil
  | _, _, .cons h a => .cons (dq_sameD s h) (dqAll_sameD s a)
end
theorem dq_same {D : Deck} {H H' : Hp} (s : Same H H') {v : V} {d : PyData} (h : DQ D H v d) : DQ D H' v d := dq_sameD (SameD.of s) h
theorem dqAll_same {D : Deck} {H H' : Hp} (s : Same H H') {v : List V} {d : List PyData} (h : DQAll D H v d) : DQAll D H' v d := dqAll_sameD (SameD.of s) h
theorem dqAll_len {D : Deck} {H : Hp} : ∀ {vs : List V} {ds : List PyData}, DQAll D H vs ds → vs.length = ds.length
  | _, _, .nil => rfl
  | _, _, .cons _ a => congrArg (· + 1) (dqAll_len a)
theorem dqAll_get {D : Deck} {H : Hp} : ∀ {vs : List V} {ds : List PyData} {i : Nat} {v : V}, DQAll D H vs ds → vs[i]? = some v → ∃ d, ds[i]? = some d ∧ DQ D H v d
  | _, _, _, _, .nil, h => by simp at h
  | _, _, 0, _, .cons h _, e => by
    cases e
    exact ⟨_, rfl, h⟩
  | _, _, i + 1, _, .cons _ a, e => dqAll_get (i := i) a e
theorem dqAll_app {D : Deck} {H : Hp} : ∀ {vs vs' : List V} {ds ds' : List PyData}, DQAll D H vs ds → DQAll D H vs' ds' → DQAll D H (vs ++ vs') (ds ++ ds')
  | _, _, _, _, .nil, h => h
  | _, _, _, _, .cons h a, h' => .cons h (dqAll_app a h')
def okInts : List Int := ((List.range 20).map fun n : Nat => ((n : Int) - 1)) ++ [(10 : Int) ^ 59]
mutual
def gd : PyData → Bool
  | .none => true
  | .bool _ => true
  | .int i => decide (i ∈ okInts)
  | .str x => decide (x.length ≤ 5000) && x.cps.toList.all (fun c => decide (c < 128))
  | .list xs => gds xs
  | .tuple xs => gds xs
  | .dict kvs => kvs.isEmpty
def gds : List PyData → Bool
  | [] => true
  | x :: xs => gd x && gds xs
end
mutual
def wt : PyData → Nat
  | .none => 4
  | .bool _ => 5
  | .int _ => 62
  | .str x => 10 * x.length + 2
  | .list xs => 3 + wts xs
  | .tuple xs => 3 + wts xs
  | .dict _ => 2
def wts : List PyData → Nat
  | [] => 0
  | x :: xs => wt x + 2 + wts xs
end
theorem gd_str {x : Str} (h : gd (.str x) = true) : x.length ≤ 5000 ∧ ∀ c ∈ x.cps.toList, c < 128 := by
  simp only [gd, Bool.and_eq_true, decide_eq_true_eq, List.all_eq_true] at h
  exact h
theorem reprText_le {x : Str} (h : gd (.str x) = true) : (reprText x).length ≤ 10 * x.length + 2 := by
  obtain ⟨h1, h2⟩ := gd_str h
  exact StrLaws.reprText_len x (fun c hc => Nat.lt_of_lt_of_le (h2 c hc) (by decide))
theorem okInts_all : okInts.all (fun i => decide ((Str.ofString (toString i)).length ≤ 62) && decide (i.natAbs.log2 < 1920)) = true := by decide +kernel
theorem int_show {i : Int} (h : gd (.int i) = true) : (Str.ofString (toString i)).length ≤ 62 ∧ i.natAbs.log2 < 1920 := by
  simp only [gd, decide_eq_true_eq] at h
  have := List.all_eq_true.mp okInts_all i h
  rw [Bool.and_eq_true, decide_eq_true_eq, decide_eq_true_eq] at this
  exact this
theorem listText_le (ts : List Str) : (listText ts).length ≤ piled ts + 3 := by
  have h := textFrom_len_le ts 0 "["
  have e : (listText ts).length = (textFrom 0 "[" ts).length + 1 := by
    show (textFrom 0 "[" ts ++ "]").length = _
    rw [strLen_append]
    rfl
  have z : ∀ l : List Str, (l.map (·.length)).sum + 2 * l.length = piled l := by
    intro l
    induction l with
    | nil => rfl
    | cons t l ih =>
      rw [piled_cons, List.map_cons, List.sum_cons, List.length_cons]
      omega
  have z2 := z ts
  have z3 : (("[" : String) : Str).length = 1 := rfl
  omega
mutual
theorem shown_le : ∀ d : PyData, gd d = true → d.shown.length ≤ wt d ∧ d.showable = true
  | .none, _ => by
    simp only [PyData.shown, wt, PyData.showable, and_true]
    decide +kernel
  | .bool b, _ => by
    simp only [PyData.shown, wt, PyData.showable, and_true]
    cases b <;> decide +kernel
  | .int i, h => by
    obtain ⟨h1, h2⟩ := int_show h
    simp only [PyData.shown, wt, PyData.showable, decide_eq_true_eq]
    exact ⟨h1, h2⟩
  | .str x, h => by
    have h1 := reprText_le h
    simp only [PyData.shown, wt, PyData.showable, and_true]
    exact h1
  | .list xs, h => by
    simp only [gd] at h
    obtain ⟨h1, h2⟩ := showns_le xs h
    simp only [PyData.shown, wt, PyData.showable]
    exact ⟨Nat.le_trans (listText_le _) (by omega), h2⟩
  | .tuple xs, h => by
    simp only [gd] at h
    obtain ⟨h1, h2⟩ := showns_le xs h
    simp only [PyData.shown, wt, PyData.showable]
    exact ⟨Nat.le_trans (fmt_text _) (by omega), h2⟩
  | .dict kvs, h => by
    simp only [gd] at h
    cases kvs with
    | nil =>
      simp only [PyData.shown, PyData.shownKv, wt, PyData.showable, PyData.showableKv, and_true]
      decide +kernel
    | cons p r => exact absurd h Bool.false_ne_true
theorem showns_le : ∀ ds : List PyData, gds ds = true → piled (PyData.shownAll ds) ≤ wts ds ∧ PyData.showableAll ds = true
  | [], _ => by
    simp only [PyData.shownAll, wts, PyData.showableAll, and_true]
    exact Nat.le_refl _
  | d :: ds, h => by
    simp only [gds, Bool.and_eq_true] at h
    obtain ⟨h1, h2⟩ := shown_le d h.1
    obtain ⟨h3, h4⟩ := showns_le ds h.2
    simp only [PyData.shownAll, wts, PyData.showableAll, h2, h4, Bool.and_self, and_true]
    rw [piled_cons]
    omega
end
/-! ### repr of such a value -/
section
variable {X : Cx} {pins : List (Addr × Obj)} {σ : L2.St} {H : Hp} {s : Shared} {D : Deck}
theorem obj_lst (I : Inv X pins σ H s) {a : Addr} {xs : List V} (e : H a = some (.lst xs)) : ∃ (its : List Value) (o : Obj) (n : Nat), Vals xs its ∧ s.heap.get? a = some o ∧ o.cls = .type "list" ∧ o.data = .seq its.toArray n := by
  obtain ⟨_, its, n, r, h⟩ := (show ObjOk X.prog X.w H s.heap a (.lst xs) from I.hok a _ e)
  exact ⟨its, _, n, r, h, rfl, rfl⟩
theorem obj_tup (I : Inv X pins σ H s) {a : Addr} {xs : List V} (e : H a = some (.tup xs)) : ∃ (its : List Value) (o : Obj) (n : Nat), Vals xs its ∧ s.heap.get? a = some o ∧ o.cls = .type "tuple" ∧ o.data = .seq its.toArray n := by
  obtain ⟨_, its, r, o, h1, h2, n, h3⟩ := (show ObjOk X.prog X.w H s.heap a (.tup xs) from I.hok a _ e)
  exact ⟨its, o, n, r, h1, h2, h3⟩
theorem obj_emp (I : Inv X pins σ H s) {a : Addr} (e : H a = some (.dK [])) : ∃ (o : Obj) (n : Nat), s.heap.get? a = some o ∧ o.cls = .type "dict" ∧ o.data = .dict #[] n ∧ (a == sysModules) = false := by
  obtain ⟨_, ne, vs, kv, o, es, ep, h1, ex, h2, _, ps, _⟩ := (show ObjOk X.prog X.w H s.heap a (.dK []) from I.hok a _ e)
  cases kv
  have hes : es = #[] := by
    cases hl : es.toList with
    | nil => exact Array.toList_eq_nil_iff.mp hl
    | cons e l =>
      rw [hl] at ps
      cases ps
  subst hes
  exact ⟨o, ep, h1, ex.1, h2, ne⟩
mutual
theorem dq_reads (I : Inv X pins σ H s) : ∀ (d : PyData) (v : V) (u : Value), DQ D H v d → RelV v u → ∃ as, Reads s.heap u d as
  | .none, _, _, h, r => by
    cases h
    cases r
    exact ⟨_, .none⟩
  | .bool b, _, _, h, r => by
    cases h
    cases r
    exact ⟨_, .bool b⟩
  | .int i, _, _, h, r => by
    cases h
    obtain ⟨t, rfl⟩ := r
    exact ⟨_, .int i t⟩
  | .str x, _, _, h, r => by
    cases h
    obtain ⟨t, rfl⟩ := r
    exact ⟨_, .str x t⟩
  | .list ds, _, _, h, r => by
    cases h with
    | lst o e al =>
      cases r
      obtain ⟨its, ob, n, rv, h1, h2, h3⟩ := obj_lst I e
      obtain ⟨as, ra⟩ := dq_readsAll I ds _ its al rv
      exact ⟨_, .list h1 h2 h3 ra⟩
  | .tuple ds, _, _, h, r => by
    cases h with
    | tup o e al =>
      cases r
      obtain ⟨its, ob, n, rv, h1, h2, h3⟩ := obj_tup I e
      obtain ⟨as, ra⟩ := dq_readsAll I ds _ its al rv
      exact ⟨_, .tuple h1 h2 h3 ra⟩
  | .dict kvs, _, _, h, r => by
    cases h with
    | emp o e =>
      cases r
      obtain ⟨ob, n, h1, h2, h3, _⟩ := obj_emp I e
      exact ⟨_, .dict h1 h2 h3 .nil .nil⟩
theorem dq_readsAll (I : Inv X pins σ H s) : ∀ (ds : List PyData) (vs : List V) (us : List Value), DQAll D H vs ds → Vals vs us → ∃ as, ReadsAll s.heap us ds as
  | [], _, _, h, r => by
    cases h
    cases r
    exact ⟨_, .nil⟩
  | d :: ds, _, _, h, r => by
    cases h with
    | cons h1 h2 =>
      cases r with
      | cons r1 r2 =>
        obtain ⟨as, q1⟩ := dq_reads I d _ _ h1 r1
        obtain ⟨bs, q2⟩ := dq_readsAll I ds _ _ h2 r2
        exact ⟨_, .cons q1 q2⟩
end
theorem entries0 {as : List Addr} {h₀ : Heap} {d : Nat} {prog : Program} {w : World} : ReprEntriesK prog w as h₀ d (#[] : Array DictEntry).toList [] := .nil
mutual
theorem dq_repr (I : Inv X pins σ H s) : ∀ (d : PyData) (v : V) (u : Value), DQ D H v d → RelV v u → gd d = true → wt d ≤ 1000000 → ∃ bs, ReadAtMost s.heap d.depth bs ∧ ReprK X.prog X.w bs s.heap d.depth u d.shown
  | .none, _, _, h, r, _, _ => by
    cases h
    cases r
    exact ⟨[], (fun _ z => nomatch z), by simp only [PyData.shown]; exact .of_is ReprIs.none _ _ _⟩
  | .bool b, _, _, h, r, _, _ => by
    cases h
    cases r
    exact ⟨[], (fun _ z => nomatch z), by simp only [PyData.shown]; exact .of_is (ReprIs.bool b) _ _ _⟩
  | .int i, _, _, h, r, g, _ => by
    cases h
    obtain ⟨t, rfl⟩ := r
    exact ⟨[], (fun _ z => nomatch z), by simp only [PyData.shown]; exact .of_is (ReprIs.int t (int_show g).2) _ _ _⟩
  | .str x, _, _, h, r, g, _ => by
    cases h
    obtain ⟨t, rfl⟩ := r
    have hx : (reprText x).length ≤ sizeLine := Nat.le_trans (reprText_le g) (Nat.le_trans (show 10 * x.length + 2 ≤ 50002 by have := (gd_str g).1; omega) (by decide))
    exact ⟨[], (fun _ z => nomatch z), by simp only [PyData.shown]; exact .of_is (ReprIs.str x t hx) _ _ _⟩
  | .list ds, _, _, h, r, g, z => by
    have rd := dq_reads I (.list ds) _ _ h r
    cases h with
    | @lst a xs _ o e al =>
      cases r
      simp only [gd] at g
      simp only [wt] at z
      obtain ⟨its, ob, n, rv, h1, h2, h3⟩ := obj_lst I e
      obtain ⟨bs, hb, hk⟩ := dq_reprAll I ds _ its al rv g (by omega)
      obtain ⟨as, rd⟩ := rd
      have hna : a ∉ bs := not_mem_of_deeper rd (by simp only [PyData.depth]; omega) hb
      refine ⟨a :: bs, ReadAtMost.cons rd (by simp only [PyData.depth]; omega) hb, ?_⟩
      simp only [PyData.depth, PyData.shown]
      cases its with
      | nil =>
        cases rv
        cases al
        simp only [PyData.shownAll, listText_nil]
        exact ReprK.listEmpty h1 h2 h3
      | cons y l => exact ReprK.list h1 h2 h3 hna (by simpa using hk.length_eq) (fun i w e => hk.item i w (by simpa using e))
  | .tuple ds, _, _, h, r, g, z => by
    have rd := dq_reads I (.tuple ds) _ _ h r
    cases h with
    | @tup a xs _ o e al =>
      cases r
      simp only [gd] at g
      simp only [wt] at z
      obtain ⟨its, ob, n, rv, h1, h2, h3⟩ := obj_tup I e
      obtain ⟨bs, hb, hk⟩ := dq_reprAll I ds _ its al rv g (by omega)
      obtain ⟨as, rd⟩ := rd
      have hna : a ∉ bs := not_mem_of_deeper rd (by simp only [PyData.depth]; omega) hb
      refine ⟨a :: bs, ReadAtMost.cons rd (by simp only [PyData.depth]; omega) hb, ?_⟩
      simp only [PyData.depth, PyData.shown]
      exact ReprK.tuple h1 h2 h3 hna hk
  | .dict kvs, _, _, h, r, _, _ => by
    have rd := dq_reads I (.dict kvs) _ _ h r
    cases h with
    | @emp a o e =>
      cases r
      obtain ⟨ob, n, h1, h2, h3, hs⟩ := obj_emp I e
      obtain ⟨as, rd⟩ := rd
      refine ⟨[a], ReadAtMost.cons rd (n := 0) (Nat.zero_le _) (fun _ z => nomatch z), ?_⟩
      simp only [PyData.depth, PyData.shown, PyData.shownKv, PyData.depthKv]
      exact ReprK.dict h1 h2 h3 hs (fun z => nomatch z) entries0
theorem dq_reprAll (I : Inv X pins σ H s) : ∀ (ds : List PyData) (vs : List V) (us : List Value), DQAll D H vs ds → Vals vs us → gds ds = true → wts ds ≤ 1000000 → ∃ bs, ReadAtMost s.heap (PyData.depthAll ds) bs ∧ ReprAllK X.prog X.w bs s.heap (PyData.depthAll ds) us (PyData.shownAll ds)
  | [], _, _, h, r, _, _ => by
    cases h
    cases r
    exact ⟨[], (fun _ z => nomatch z), by simp only [PyData.shownAll]; exact .nil⟩
  | d :: ds, _, _, h, r, g, z => by
    cases h with
    | cons h1 h2 =>
      cases r with
      | cons r1 r2 =>
        simp only [gds, Bool.and_eq_true] at g
        simp only [wts] at z
        obtain ⟨b1, hb1, k1⟩ := dq_repr I d _ _ h1 r1 g.1 (by omega)
        obtain ⟨b2, hb2, k2⟩ := dq_reprAll I ds _ _ h2 r2 g.2 (by omega)
        simp only [PyData.depthAll, PyData.shownAll]
        refine ⟨b1 ++ b2, (hb1.mono (Nat.le_max_left _ _)).append (hb2.mono (Nat.le_max_right _ _)), ?_⟩
        refine .cons ((k1.more ?_).level_le (Nat.le_max_left _ _)) (k2.more_le ?_ (Nat.le_max_right _ _))
        · intro b hb
          exact List.mem_append_left _ hb
        · intro b hb
          exact List.mem_append_right _ hb
end
end
theorem call_reprQ {X : Cx} (hg : X.A.guards = some []) (hu : X.A.units + 64 < cLine) : CallR X (.builtin "repr") (fun xs H Q => ∃ (v : V) (D : Deck) (d : PyData), xs = [v] ∧ DQ D H v d ∧ gd d = true ∧ wt d ≤ 1000000 ∧ d.depth ≤ 60 ∧ Q (.str d.shown) H) := by
  intro pins s σ H xs us Q I r h
  obtain ⟨v, D, d, rfl, hd, g, z, hz, q⟩ := h
  obtain ⟨u, rfl, rx⟩ := vals1 r
  obtain ⟨hl, _⟩ := shown_le d g
  have big : (1000000 : Nat) ≤ sizeLine := by decide
  have fits : d.shown.length ≤ sizeLine := by omega
  have fin : ∀ (h' : Heap) (t : Tok) (tk : Tok), (∀ b o, s.heap.get? b = some o → h'.get? b = some o) → EP X pins σ Q (.str d.shown t) { s with heap := h', toks := tk } := fun h' t tk hk => ⟨.str d.shown, H, I.kept (t' := tk) hk, ⟨t, rfl⟩, q⟩
  have nil0 : ∀ b ∈ ([] : List Addr), True := fun _ _ => trivial
  have key := dq_repr I d v u hd rx g z
  have rds := dq_reads I d v u hd rx
  cases hd with
  | non =>
    cases rx
    simp only [PyData.shown] at fin
    exact PySem.P.repr_of_none (fin s.heap _ _ fun _ _ e => e)
  | bl b =>
    cases rx
    simp only [PyData.shown] at fin
    exact PySem.P.repr_of_bool (fin s.heap _ _ fun _ _ e => e)
  | int i =>
    obtain ⟨t, rfl⟩ := rx
    simp only [PyData.shown] at fin
    exact PySem.P.repr_of_int (int_show g).2 (fin s.heap _ _ fun _ _ e => e)
  | str x =>
    obtain ⟨t, rfl⟩ := rx
    simp only [PyData.shown] at fin fits
    exact PySem.P.repr_of_str (fin s.heap _ _ fun _ _ e => e) fits
  | @lst a xs ds o e al =>
    cases rx
    simp only [gd] at g
    simp only [wt] at z
    simp only [PyData.shown] at fin fits
    simp only [PyData.depth] at hz
    obtain ⟨its, ob, n, rv, h1, h2, h3⟩ := obj_lst I e
    obtain ⟨bs, hb, hk⟩ := dq_reprAll I ds _ its al rv g (by omega)
    obtain ⟨as, rd⟩ := rds
    have hna : a ∉ bs := not_mem_of_deeper rd (by simp only [PyData.depth]; omega) hb
    refine call_repr_slot (by omega) ⟨ob, h1, h2⟩ F.slot_list_repr.toG ?_
    cases its with
    | nil =>
      cases rv
      cases al
      simp only [PyData.shownAll, listText_nil] at fin
      exact call_list_repr_empty ⟨ob, h1, h2⟩ h1 h3 ⟨_, _, rfl, fin s.heap _ _ fun _ _ e => e⟩
    | cons y l => exact call_list_reprK h1 h2 h3 hna (by simpa using hk.length_eq) (fun i w e => hk.item i w (by simpa using e)) hg (fun b _ => Clear.nil b) (by show X.A.units + 1 + (PyData.depthAll ds + 1) < cLine; omega) (fun _ _ e => e) (fun h' u tk hk => ⟨_, _, rfl, fin h' u tk hk⟩) fits
  | @tup a xs ds o e al =>
    cases rx
    simp only [gd] at g
    simp only [wt] at z
    simp only [PyData.shown] at fin fits
    simp only [PyData.depth] at hz
    obtain ⟨its, ob, n, rv, h1, h2, h3⟩ := obj_tup I e
    obtain ⟨bs, hb, hk⟩ := dq_reprAll I ds _ its al rv g (by omega)
    obtain ⟨as, rd⟩ := rds
    have hna : a ∉ bs := not_mem_of_deeper rd (by simp only [PyData.depth]; omega) hb
    refine call_repr_slot (by omega) ⟨ob, h1, h2⟩ F.slot_tuple_repr ?_
    exact call_tuple_reprK h1 h2 h3 hna hk hg (fun b _ => Clear.nil b) (by show X.A.units + 1 + (PyData.depthAll ds + 1) < cLine; omega) (fun _ _ e => e) (fun h' u tk hk => ⟨_, _, rfl, fin h' u tk hk⟩) fits
  | @emp a o e =>
    cases rx
    simp only [PyData.shown, PyData.shownKv] at fin fits
    obtain ⟨ob, n, h1, h2, h3, hs⟩ := obj_emp I e
    refine call_repr_slot (by omega) ⟨ob, h1, h2⟩ F.slot_dict_repr ?_
    exact call_dict_reprK h1 h2 h3 hs (as := []) (fun z => nomatch z) (d := 0) entries0 hg (fun b _ => Clear.nil b) (by show X.A.units + 1 + (0 + 1) < cLine; omega) (fun _ _ e => e) (fun h' u tk hk => ⟨_, _, rfl, fin h' u tk hk⟩) fits
theorem dq_ty {K : PySem.W.Frag} {D : Deck} {H : Hp} {v : V} {d : PyData} (h : DQ D H v d) : TyX K H v (.type (tyD d)) := by
  cases h with
  | non => exact .base .non
  | bl b => exact .base (.bl b)
  | int i => exact .base (.int i)
  | str x => exact .base (.str x)
  | lst _ e _ => exact .base (.lst e)
  | tup _ e _ => exact .base (.tup e)
  | emp _ e => exact .base (.dK e)
def isStrD : PyData → Bool
  | .str _ => true
  | _ => false
def isTupD : PyData → Bool
  | .tuple _ => true
  | _ => false
theorem kit_str (d : PyData) : kitB (tyD d) "str" = some (isStrD d) := by
  cases d <;> (simp only [tyD, isStrD]; decide +kernel)
theorem kit_tup (d : PyData) : kitB (tyD d) "tuple" = some (isTupD d) := by
  cases d <;> (simp only [tyD, isTupD]; decide +kernel)
theorem isStr_of {d : PyData} (h : isStrD d = true) : ∃ x, d = .str x := by
  cases d <;> first | exact ⟨_, rfl⟩ | exact absurd h Bool.false_ne_true
/-! ### _law_due, _law_told -/
/-- a text, or a value that is none -/
def ValK (v : V) (d : PyData) : Option (List Nat) → Prop
  | some t => v = .str (tx t) ∧ t.length ≤ 5000
  | none => isStrD d = false
def resD : Option (List Nat) → PyData
  | some t => ansD (parsed t)
  | none => .list [.none]
def spAns (K : PySem.W.Frag) : Sp := fun vs H Q _ => ∃ (v : V) (D : Deck) (d : PyData) (o : Option (List Nat)), vs = [v] ∧ DQ D H v d ∧ ValK v d o ∧ ∀ (r : V) (H' : Hp), Same H H' → Dp K H' r (resD o) → Q r H'
structure ErrC (K : PySem.W.Frag) (mg : Str → Option Value) (C : Addr) : Prop where
  x : ExcC K C
  gT : mg "BadText" = some (.ref C)
  w : ∃ CW, mg "WalkError" = some (.ref CW) ∧ PySem.W.exmOne K (.ref C) (.ref CW) = some true
  kV : PySem.W.kitOne K (.ref C) (.type "ValueError") = some true
  k11 : PySem.W.kitOne K (.ref C) (.ref C) = some true
  mV : mg "ValueError" = none
  more : ∃ c1 c2 c3 c4 c5 c6, mg "BadEdit" = some (.ref c1) ∧ mg "BadEdits" = some (.ref c2) ∧ mg "BadRow" = some (.ref c3) ∧ mg "BadTree" = some (.ref c4) ∧ mg "Rejected" = some (.ref c5) ∧ mg "TooLarge" = some (.ref c6) ∧ PySem.W.kitAny K (.ref C) [.ref c1, .ref c2, .ref c3, .ref c4, .ref c5, .ref c6] = some false
section
variable {P : Program} {w : World} {K : PySem.W.Frag} {mg : Str → Option Value} {base : Heap} {f : Addr} {fd : FuncData} {C fI : Addr} {qn : Str}
theorem ok_due {k : Nat} (F : Fun K "_law_due" "_law_due" s__law_due f fd) (M : Mgs mg) (D_law_read : Df P w K mg base (k + 1) "_law_read" ["_law_text_here"] (spReadL K)) : FnOk P w K mg base CX0 (k + 2) f fd ["_law_value"] (spAns K) := by
  refine F.ok sc__law_due (fun vs H Q E h => ?_) (fun cdv A0 outer s H vs Q E hr h => ?_)
  · obtain ⟨v, D, d, o, rfl, _⟩ := h
    rfl
  obtain ⟨v, D, d, o, rfl, hd, hv, q⟩ := h
  refine ⟨_, (pss_one (ps_ret (pe_ifExp (pt_val (pe_callB call_isi rfl M.isi (by decide +kernel) (pa_cons (pv 0) (pa_cons (pe_bltn (v := .ty "str") rfl M.str (by decide +kernel) rfl) pa_nil)))) (pe_call D_law_read.ok (hr.mono (by omega)) rfl D_law_read.g D_law_read.kp D_law_read.b .nil pass0 (pa_cons (pv 0) pa_nil)) (pe_lst (pa_cons pe_non pa_nil))))), ?_⟩
  cases o with
  | some t =>
    obtain ⟨rfl, ht⟩ := hv
    refine ⟨_, rfl, _, _, _, _, true, rfl, .ty _, .base (.str (tx t)), kit_ty (by decide +kernel), _, rfl, iteT ?_⟩
    exact ⟨_, rfl, t, rfl, ht, fun r H1 s1 h1 => q r H1 s1 h1⟩
  | none =>
    have kt : kitB (tyD d) "str" = some false := by rw [kit_str d]; exact congrArg some hv
    refine ⟨_, rfl, _, _, _, _, false, rfl, .ty _, dq_ty hd, kit_ty kt, _, rfl, iteF ?_⟩
    refine ⟨(by show 1 ≤ sizeLine; decide), fun r nr => ?_⟩
    exact q _ _ (same_new nr _) (.lst (SqL.of upd_same) (.cons .non .nil))
theorem ok_told (F : Fun K "_law_told" "_law_told" s__law_told f fd) (hE : Err_index K mg "ValueError.__new__" veT "BadText" qn C fI) (EC : ErrC K mg C) (M : Mgs mg) (Dparse_tree : DfX P w K mg base 60 "parse_tree" ["text"] (spParse K C)) :
    FnOk P w K mg base CX0 61 f fd ["_law_value"] (spAns K) := by
  refine F.ok sc__law_told (fun vs H Q E h => ?_) (fun cdv A0 outer s H vs Q E hr h => ?_)
  · obtain ⟨v, D, d, o, rfl, _⟩ := h
    rfl
  obtain ⟨v, D, d, o, rfl, hd, hv, q⟩ := h
  obtain ⟨CW, gW, e1⟩ := EC.w
  obtain ⟨c1, c2, c3, c4, c5, c6, g1, g2, g3, g4, g5, g6, kM⟩ := EC.more
  have bi : bootBuiltins "isinstance" = some (.builtin "isinstance") := by decide +kernel
  refine ⟨_, (pss_cons (ps_set (i := 1) sc__law_told.nd rfl (.inl rfl) (pe_lst (pa_cons pe_str pa_nil)))
    (pss_cons (ps_tryA (i := 2) (n := "error") (Wout := fun _ _ _ _ => False) rfl rfl sc__law_told.nd rfl rfl takes_none5
      (fun W pn xe tk _ => pss_one (ps_set (i := 1) sc__law_told.nd rfl (.inl rfl) (pe_callS Dparse_tree.ok (hr.mono (by omega)) rfl Dparse_tree.g Dparse_tree.kp Dparse_tree.b (fun σ => passAt tk σ) (pa_cons (pv 0) pa_nil))))
      (.cons ⟨rfl, by decide, .inl gW⟩ (fun a oe cls d pn hz hf => (pss_cons (ps_set (i := 3) sc__law_told.nd rfl (.inl rfl) (pe_callB (call_isXT hz hf) rfl M.isi bi (pa_cons (pv 2) (pa_cons (pe_tup (pa_cons (pe_glob (v := .ref c1) rfl g1 rfl) (pa_cons (pe_glob (v := .ref c2) rfl g2 rfl) (pa_cons (pe_glob (v := .ref c3) rfl g3 rfl) (pa_cons (pe_glob (v := .ref c4) rfl g4 rfl) (pa_cons (pe_glob (v := .ref c5) rfl g5 rfl) (pa_cons (pe_glob (v := .ref c6) rfl g6 rfl) pa_nil))))))) pa_nil))))
        (pss_one (ps_if (PW.pt (pw_and (pt_val (pe_callB (call_isX hz hf) rfl M.isi bi (pa_cons (pv 2) (pa_cons (pe_glob (v := .ref C) rfl EC.gT rfl) pa_nil)))) (pw_and (pt_val (pe_callB (call_isX hz hf) rfl M.isi bi (pa_cons (pv 2) (pa_cons (pe_bltn (v := .ty "ValueError") rfl EC.mV (by decide +kernel) rfl) pa_nil)))) (pw_and1 (pt_not (pt_val (pv 3)))))))
          (pss_one (ps_set (i := 1) sc__law_told.nd rfl (.inl rfl) (pe_lst (pa_cons (pe_fld_index hE hz hf (pv 2)) pa_nil)))) pss_nil)))) .nil))
    (pss_one (ps_ret (pv 1))))), ?_⟩
  refine ⟨(by show 1 ≤ sizeLine; decide), fun p0 np0 => ?_⟩
  have s0 := same_new np0 (.lst [V.str "other"])
  generalize upd H p0 (.lst [V.str "other"]) = H0 at s0 ⊢
  refine ⟨_, rfl, ?_⟩
  cases o with
  | some t =>
    obtain ⟨rfl, ht⟩ := hv
    refine .inl ⟨t, rfl, ht, ?_⟩
    cases hp : parsed t with
    | bad i =>
      intro H1 p s1 np
      refine ⟨true, e1, fun _ a0 na => ?_, fun z => nomatch z⟩
      have s2 := (s0.trans s1).trans (same_new np (.xd [(("index" : Str), .int (i : Int))]))
      have ep := upd_same (H := H1) (a := p) (o := .xd [(("index" : Str), .int (i : Int))])
      generalize upd H1 p (.xd [(("index" : Str), .int (i : Int))]) = H2 at s2 ep na ⊢
      refine ⟨_, rfl, (by show 6 ≤ sizeLine; decide), fun tp ntp => ?_⟩
      have s4 := s2.trans (same_new ntp (.tup [.ref c1, .ref c2, .ref c3, .ref c4, .ref c5, .ref c6]))
      have ep4 := (same_new ntp (.tup [.ref c1, .ref c2, .ref c3, .ref c4, .ref c5, .ref c6])) _ _ ep
      refine ⟨C, rfl, EC.x, tp, _, _, false, p, _, rfl, upd_same, .cons (.own _) (.cons (.own _) (.cons (.own _) (.cons (.own _) (.cons (.own _) (.cons (.own _) .nil))))), rfl, ep4, kM, ?_⟩
      refine ⟨_, rfl, C, rfl, EC.x, _, _, true, p, _, rfl, .own _, rfl, ep4, EC.k11, _, rfl, iteT ?_⟩
      refine ⟨_, rfl, C, rfl, EC.x, _, _, true, p, _, rfl, .ty _, rfl, ep4, EC.kV, _, rfl, iteT ?_⟩
      refine ⟨_, rfl, _, rfl, iteT ?_⟩
      refine ⟨_, rfl, rfl, rfl, p, _, rfl, ep4, (by show 1 ≤ sizeLine; decide), fun p2 np2 => ?_⟩
      refine ⟨_, rfl, q (.ref p2) _ (s4.trans (same_new np2 _)) ?_⟩
      show Dp K _ _ (ansD (parsed t))
      rw [hp]
      exact .lst (SqL.of upd_same) (.cons (.int _) .nil)
    | tree x =>
      intro v1 H1 s1 a1
      refine ⟨_, rfl, q v1 H1 (s0.trans s1) ?_⟩
      show Dp K H1 v1 (ansD (parsed t))
      rw [hp]
      exact a1.dp
  | none =>
    have kt : kitB (tyD d) "str" = some false := by rw [kit_str d]; exact congrArg some hv
    refine .inr ⟨v, _, rfl, dq_ty (dq_same s0 hd), kt, fun H1 p s1 np => ?_⟩
    refine ⟨true, e1, fun _ a0 na => ?_, fun z => nomatch z⟩
    have s2 := (s0.trans s1).trans (same_new np (.xd [(("index" : Str), .non)]))
    have ep := upd_same (H := H1) (a := p) (o := .xd [(("index" : Str), .non)])
    generalize upd H1 p (.xd [(("index" : Str), .non)]) = H2 at s2 ep na ⊢
    refine ⟨_, rfl, (by show 6 ≤ sizeLine; decide), fun tp ntp => ?_⟩
    have s4 := s2.trans (same_new ntp (.tup [.ref c1, .ref c2, .ref c3, .ref c4, .ref c5, .ref c6]))
    have ep4 := (same_new ntp (.tup [.ref c1, .ref c2, .ref c3, .ref c4, .ref c5, .ref c6])) _ _ ep
    refine ⟨C, rfl, EC.x, tp, _, _, false, p, _, rfl, upd_same, .cons (.own _) (.cons (.own _) (.cons (.own _) (.cons (.own _) (.cons (.own _) (.cons (.own _) .nil))))), rfl, ep4, kM, ?_⟩
    refine ⟨_, rfl, C, rfl, EC.x, _, _, true, p, _, rfl, .own _, rfl, ep4, EC.k11, _, rfl, iteT ?_⟩
    refine ⟨_, rfl, C, rfl, EC.x, _, _, true, p, _, rfl, .ty _, rfl, ep4, EC.kV, _, rfl, iteT ?_⟩
    refine ⟨_, rfl, _, rfl, iteT ?_⟩
    refine ⟨_, rfl, rfl, rfl, p, _, rfl, ep4, (by show 1 ≤ sizeLine; decide), fun p2 np2 => ?_⟩
    refine ⟨_, rfl, q (.ref p2) _ (s4.trans (same_new np2 _)) ?_⟩
    exact .lst (SqL.of upd_same) (.cons .non .nil)
end
/-! ### text * count, t[::-1], _law_bent -/
theorem foldl_cat (x : Array Nat) : ∀ (m : Nat) (a : Array Nat), (List.replicate m x).foldl (· ++ ·) a = a ++ (List.replicate m x.toList).flatten.toArray
  | 0, a => by simp
  | m + 1, a => by
    rw [List.replicate_succ, List.foldl_cons, foldl_cat x m, List.replicate_succ, List.flatten_cons]
    apply Array.ext'
    simp
theorem op_timesS {X : Cx} : OpR X (binaryOp .Mult) (fun x y H Q => ∃ (l : List Nat) (k : Int), x = .str (tx l) ∧ y = .int k ∧ 2 ≤ k ∧ k ≤ 1000 ∧ l.length ≤ 5000 ∧ Q (.str (tx (List.replicate k.toNat l).flatten)) H) := by
  intro pins s σ H x y v u Q I rx ry h
  obtain ⟨l, k, rfl, rfl, h1, h2, hz, q⟩ := h
  obtain ⟨t, rfl⟩ := rx
  obtain ⟨t', rfl⟩ := ry
  have hlen : (tx l).length = l.length := rfl
  have hq : (5000 : Int) ≤ (2 ^ 63 - 1) / k := (Int.le_ediv_iff_mul_le (by omega)).mpr (by omega)
  have hsz : (tx l).length * k.toNat ≤ 5000000 := by
    rw [hlen]
    exact Nat.le_trans (Nat.mul_le_mul hz (show k.toNat ≤ 1000 by omega)) (by decide)
  refine PySem.P.mul_str (by rw [decide_eq_false (by omega), decide_eq_false (by omega)]; rfl) (fun _ _ => by rw [hlen]; omega) (fun _ _ => by unfold Builtin.Str.tooLong; exact decide_eq_false (by have : (5000000 : Nat) ≤ sizeLine := (by decide); omega)) ?_
  rw [if_neg (show ¬ k < 1 by omega)]
  by_cases h0 : (k == 1 || (tx l).length == 0) = true
  · rw [if_pos h0]
    have hl : l = [] := by
      rw [Bool.or_eq_true, beq_iff_eq, beq_iff_eq] at h0
      rcases h0 with h0 | h0
      · omega
      · exact List.eq_nil_of_length_eq_zero h0
    subst hl
    have e : (List.replicate k.toNat ([] : List Nat)).flatten = [] := by simp
    rw [e] at q
    exact ⟨.str (tx []), H, I, ⟨t, rfl⟩, q⟩
  · rw [if_neg h0]
    have e : (⟨(List.replicate k.toNat (tx l).cps).foldl (· ++ ·) #[]⟩ : Str) = tx (List.replicate k.toNat l).flatten := by
      rw [foldl_cat]
      simp [tx]
    rw [e]
    have hfl : (tx (List.replicate k.toNat l).flatten).length ≤ sizeLine := by
      rw [tx_len]
      have : (List.replicate k.toNat l).flatten.length = k.toNat * l.length := by simp
      rw [this, Nat.mul_comm]
      exact Nat.le_trans hsz (by decide)
    exact ⟨hfl, .str _, H, I.tok _, ⟨_, rfl⟩, q⟩
def tRevS (te : TE) : TE := fun σ H Q => te σ H fun x H1 => ∃ z : Str, x = .str z ∧ z.length ≤ 1000 ∧ Q (.str ⟨z.cps.toList.reverse.toArray⟩) H1
theorem picked_rev (z : Str) (t : Tok) : ((slicePicked z none none (some (-1, t))).filterMap (z.cps[·]?)).toArray = z.cps.toList.reverse.toArray := by
  have e : slicePicked z none none (some (-1, t)) = sliceRange ((z.cps.size : Int) - 1) (-1) (-1) := rfl
  rw [e, PySem.W.krv_sliceRange, PySem.W.krv_range, List.filterMap_reverse, PySem.W.krv_all]
theorem pe_revS {X : Cx} {e : Expr} {te : TE} {k : Nat} {p1 p2 p3 pos : Pos} (he : PE X e te) : PE X (.Subscript e (.Slice none none (some (.UnaryOp .USub (.Constant (.int 1) k p1) p2)) p3) pos) (tRevS te) := by
  refine ⟨fun pins s σ H Q I h => ?_⟩
  refine Subscript_ (thn (he.run pins s σ H _ I h) fun v s1 ⟨x, H1, I1, r1, q1⟩ => ?_)
  obtain ⟨z, ex, hz, q⟩ := q1
  subst ex
  obtain ⟨tz, rfl⟩ := r1
  have hst : PO X (some (.UnaryOp .USub (.Constant (.int 1) k p1) p2)) (tPart (tUn (rU fun i => .int (-i)) (tC (.int 1)))) := po_some (pe_un un_neg pe_int)
  refine wpAny_Slice (thn (po_none.run pins s1 σ H1 (fun o H2 => o = none ∧ H2 = H1) I1 ⟨rfl, rfl⟩) fun vl s2 ⟨l, H2, I2, pl, el, e2⟩ => ?_)
  subst el e2
  refine thn (po_none.run pins s2 σ H2 (fun o H3 => o = none ∧ H3 = H2) I2 ⟨rfl, rfl⟩) fun vu s3 ⟨u, H3, I3, pu, eu, e3⟩ => ?_
  subst eu e3
  refine thn (hst.run pins s3 σ H3 (fun o H4 => o = some (-1) ∧ H4 = H3) I3 ⟨1, rfl, -1, rfl, rfl, rfl⟩) fun vs s4 ⟨o, H4, I4, ps, eo, e4⟩ => ?_
  subst eo e4
  have I5 : Inv X pins σ H4 { s4 with heap := s4.heap.push { cls := .type "slice", data := .fields #[vl, vu, vs] } } := I4.kept (t' := s4.toks) fun b ob q => Heap.get?_push_of_some _ q
  cases pl
  cases pu
  cases ps with
  | int _ t =>
    show wpAny (model X.prog X.w) X.A (subscriptTail e (.Slice none none (some (.UnaryOp .USub (.Constant (.int 1) k p1) p2)) p3) (.str z tz) (.ref s4.heap.objs.size)) (EP X pins σ Q) X.xe { s4 with heap := s4.heap.push { cls := .type "slice", data := .fields #[.none, .none, .int (-1) t] } }
    refine tail_any (ops := [.str z tz, .ref s4.heap.objs.size]) (typeIs_str _ _ _) (F.slot_str_getitem.lookup) ?_ (by with_unfolding_all rfl)
    refine wpAny_getItem_str_slice (l := none) (u := none) (st := some (-1, t)) ⟨_, Heap.get?_push_size _ rfl, rfl, rfl⟩ rfl ?_
    have e1 : sliceMade z tz none none (some (-1, t)) = .str ⟨z.cps.toList.reverse.toArray⟩ := by
      unfold sliceMade
      rw [picked_rev]
      rfl
    rw [e1]
    refine ⟨(by show z.cps.toList.reverse.toArray.size ≤ sizeLine; rw [List.size_toArray, List.length_reverse, Array.length_toList]; exact small hz), .str ⟨z.cps.toList.reverse.toArray⟩, H4, I5.kept (t' := s4.toks + 1) (fun _ _ e => e), ⟨_, rfl⟩, q⟩
/-- a text of at most n signs, all of them small -/
structure Sm (n : Nat) (x : Str) : Prop where
  len : x.length ≤ n
  sm : ∀ c ∈ x.cps.toList, c < 128
theorem Sm.le {m n : Nat} {x : Str} (h : Sm m x) (l : m ≤ n) : Sm n x := ⟨Nat.le_trans h.len l, h.sm⟩
theorem Sm.app {m n : Nat} {x y : Str} (h : Sm m x) (g : Sm n y) : Sm (m + n) (x ++ y) := by
  refine ⟨by rw [strLen_append]; exact Nat.add_le_add h.len g.len, fun c hc => ?_⟩
  have e : (x ++ y).cps.toList = x.cps.toList ++ y.cps.toList := by
    show (x.cps ++ y.cps).toList = _
    simp
  rw [e] at hc
  rcases List.mem_append.mp hc with hc | hc
  · exact h.sm c hc
  · exact g.sm c hc
theorem Sm.cut {n : Nat} {x : Str} (h : Sm n x) (lo hi : Option Int) : Sm n (cutS x lo hi) := by
  refine ⟨Nat.le_trans (cutS_length x lo hi) h.len, fun c hc => ?_⟩
  unfold cutS at hc
  exact h.sm c (List.mem_of_mem_drop (List.mem_of_mem_take hc))
theorem Sm.rev {n : Nat} {x : Str} (h : Sm n x) : Sm n ⟨x.cps.toList.reverse.toArray⟩ := by
  refine ⟨?_, fun c hc => h.sm c (List.mem_reverse.mp hc)⟩
  show x.cps.toList.reverse.toArray.size ≤ n
  rw [List.size_toArray, List.length_reverse, Array.length_toList]
  exact h.len
theorem Sm.two {n : Nat} {x : Str} (h : Sm n x) : Sm (n + n) (tx (List.replicate (2 : Int).toNat x.cps.toList).flatten) := by
  have e : (List.replicate (2 : Int).toNat x.cps.toList).flatten = x.cps.toList ++ x.cps.toList := by
    show x.cps.toList ++ (x.cps.toList ++ []) = _
    rw [List.append_nil]
  rw [e, ← tx_app]
  exact Sm.app h h
theorem sm_tx {n : Nat} {t : List Nat} (h : t.length ≤ n) (g : ∀ c ∈ t, c < 128) : Sm n (tx t) := ⟨h, g⟩
def TxOk (n : Nat) (t : List Nat) : Prop := t.length ≤ n ∧ ∀ c ∈ t, c < 128
def spBent : Sp := fun vs H Q _ => ∃ (D : Deck) (n : Nat) (t : List Nat), vs = [.ref D.dk, .str (tx t)] ∧ DeckOk H D n ∧ n ≤ 999990 ∧ t.length ≤ 900 ∧ (∀ c ∈ t, c < 128) ∧
  ∀ (t' : List Nat) (H' : Hp), TxOk (3 * t.length + 1) t' → DeckOk H' D (n + 3) → SameD D H H' → Q (.str (tx t')) H'
theorem six {j : Int} (h0 : 0 ≤ j) (h1 : j < 6) : j = ((0 : Nat) : Int) ∨ j = ((1 : Nat) : Int) ∨ j = ((2 : Nat) : Int) ∨ j = ((3 : Nat) : Int) ∨ j = ((4 : Nat) : Int) ∨ j = ((5 : Nat) : Int) := by omega
section
variable {P : Program} {w : World} {K : PySem.W.Frag} {mg : Str → Option Value} {base : Heap} {f : Addr} {fd : FuncData}
theorem ok_bent (F : Fun K "_law_bent" "_law_bent" s__law_bent f fd) (M : Mgs mg) (D_law_next : Df P w K mg base 1 "_law_next" ["_law_deck_here", "_law_many"] spNext) (D_law_one : Df P w K mg base 2 "_law_one" ["_law_deck_here", "_law_items"] spOne) :
    FnOk P w K mg base CX0 3 f fd ["_law_deck_here", "_law_text_here"] spBent := by
  refine F.ok sc__law_bent (fun vs H Q E h => ?_) (fun cdv A0 outer s H vs Q E hr h => ?_)
  · obtain ⟨D, n, t, rfl, _⟩ := h
    rfl
  obtain ⟨D, n, t, rfl, d, hn, ht, hc, q⟩ := h
  refine ⟨_, (pss_cons (ps_par3 (i := 2) (j := 3) (l := 4) (by rfl) sc__law_bent.nd rfl rfl rfl (by decide) (by decide) (by decide) rfl rfl rfl (pa_cons (pe_call D_law_next.ok (hr.mono (by omega)) rfl D_law_next.g D_law_next.kp D_law_next.b .nil pass0 (pa_cons (pv 0) (pa_cons (pe_op op_add (pe_callB call_len_str rfl M.len PySem.boot_len (pa_cons (pv 1) pa_nil)) pe_int) pa_nil))) (pa_cons (pe_call D_law_next.ok (hr.mono (by omega)) rfl D_law_next.g D_law_next.kp D_law_next.b .nil pass0 (pa_cons (pv 0) (pa_cons pe_int pa_nil))) (pa_cons (pe_call D_law_one.ok (hr.mono (by omega)) rfl D_law_one.g D_law_one.kp D_law_one.b .nil pass0 (pa_cons (pv 0) (pa_cons (pe_callTy (call_signs rfl) rfl M.list (by decide +kernel) (pa_cons pe_str pa_nil)) pa_nil))) pa_nil))) (by rfl))
    (pss_cons (ps_if (pt_cmpR op_lt (pv 3) pe_int (nomark _))
      (pss_one (ps_ret (pe_op op_add_str (pe_op op_add_str (pe_slice sl_str (pv 1) po_none (po_some (pv 2))) (pe_ix ix_list (pe_lst (pa_cons (pv 4) (pa_cons pe_str (pa_cons (pv 4) pa_nil)))) (pv 3) (fun _ _ => rfl))) (pe_slice sl_str (pv 1) (po_some (pe_op op_add (pv 2) (pe_callTy call_int1 rfl M.int (by decide +kernel) (pa_cons (pe_cmpR op_gt (pv 3) pe_int (nomark _)) pa_nil)))) po_none)))) pss_nil)
    (pss_one (ps_ret (pe_ix ix_list (pe_lst (pa_cons (pe_op op_add_str (pe_op op_add_str (pe_slice sl_str (pv 1) po_none (po_some (pv 2))) (pe_revS (pe_slice sl_str (pv 1) (po_some (pv 2)) (po_some (pe_op op_add (pv 2) pe_int))))) (pe_slice sl_str (pv 1) (po_some (pe_op op_add (pv 2) pe_int)) po_none)) (pa_cons (pe_slice sl_str (pv 1) po_none (po_some (pv 2))) (pa_cons (pe_op op_add_str (pe_slice sl_str (pv 1) po_none (po_some (pv 2))) (pe_op op_timesS (pe_slice sl_str (pv 1) (po_some (pv 2)) po_none) pe_int)) pa_nil)))) (pe_op op_sub (pv 3) pe_int) (fun _ _ => rfl)))))), ?_⟩
  have lt : (tx t).length ≤ sizeLine := Nat.le_trans (show (tx t).length ≤ 900 from ht) (by decide)
  refine ⟨_, rfl, _, rfl, tx t, rfl, lt, _, _, rfl, rfl, D, n, _, rfl, d, by omega, (by rw [tx_len]; omega), (by rw [tx_len]; omega), fun i H1 i0 i1 d1 s1 => ?_⟩
  refine ⟨_, rfl, D, n + 1, 6, rfl, d1, by omega, by decide, by decide, fun j H2 j0 j1 d2 s2 => ?_⟩
  refine ⟨_, rfl, _, rfl, by decide +kernel, fun la nla => ?_⟩
  have e16 : ((Str.ofString "abz(),,--A. ?0").cps.toList.map fun c => V.str ⟨#[c]⟩) = ((Str.ofString "abz(),,--A. ?0").cps.toList.map fun c => (⟨#[c]⟩ : Str)).map V.str := by rw [List.map_map]; rfl
  rw [e16] at *
  have q5 := same_new nla (.lst (((Str.ofString "abz(),,--A. ?0").cps.toList.map fun c => (⟨#[c]⟩ : Str)).map V.str))
  refine ⟨D, n + 2, la, _, rfl, d2.same q5, by omega, upd_same, d2.new nla, by decide +kernel, by decide +kernel, fun y H3 hy d3 s3 => ?_⟩
  obtain ⟨sc, hsc, rfl⟩ := List.mem_map.mp hy
  have hs128 : sc < 128 := by
    have : ∀ c ∈ (Str.ofString "abz(),,--A. ?0").cps.toList, c < 128 := by decide +kernel
    exact this sc hsc
  have sA := (s1.trans s2).trans ((SameD.of q5).trans s3)
  obtain ⟨at', rfl⟩ : ∃ a : Nat, i = (a : Int) := ⟨i.toNat, by omega⟩
  rw [tx_len] at i1
  have fin : ∀ (x : Str) (H' : Hp), Sm (3 * t.length + 1) x → Same H3 H' → Q (.str x) H' := fun x H' hx s4 => q x.cps.toList H' ⟨hx.len, hx.sm⟩ (d3.same s4) (sA.trans (SameD.of s4))
  have T := sm_tx (Nat.le_refl t.length) hc
  have hS : Sm 1 (⟨#[sc]⟩ : Str) := ⟨Nat.le_refl _, fun c hc => by
    rcases List.mem_singleton.mp (show c ∈ [sc] from hc) with rfl
    exact hs128⟩
  have hE : Sm 1 (Str.ofString "") := ⟨by decide +kernel, fun c hc => by
    rw [show (Str.ofString "").cps.toList = [] by decide +kernel] at hc
    cases hc⟩
  have big : ∀ {m : Nat} {x : Str}, Sm m x → m ≤ 4000 → x.length ≤ sizeLine := fun h g => Nat.le_trans h.len (Nat.le_trans g (by decide))
  have big2 : ∀ {m n : Nat} {x y : Str}, Sm m x → Sm n y → m + n ≤ 4000 → x.length + y.length ≤ sizeLine := fun h g k => Nat.le_trans (Nat.add_le_add h.len g.len) (Nat.le_trans k (by decide))
  refine ⟨_, _, _, rfl, ?_⟩
  refine ⟨_, rfl, _, _, rfl, rfl, _, rfl, ?_⟩
  rcases six j0 j1 with rfl | rfl | rfl | rfl | rfl | rfl
  · refine iteT ⟨_, rfl, _, rfl, _, rfl, tx t, rfl, lt, _, rfl, _, rfl, (by show 3 ≤ sizeLine; decide), fun pl npl => ?_⟩
    refine ⟨_, rfl, pl, _, _, _, rfl, rfl, SqL.of upd_same, atI_nat (j := 0) rfl, _, _, rfl, rfl, big2 (T.cut _ _) hS (by omega), ?_⟩
    refine ⟨_, rfl, _, rfl, _, rfl, _, _, rfl, rfl, .inr ⟨_, rfl, _, _, rfl, rfl, _, rfl, tx t, rfl, lt, _, _, rfl, rfl, big2 ((T.cut _ _).app hS) (T.cut _ _) (by omega), ?_⟩⟩
    exact fin _ _ ((((T.cut _ _).app hS).app (T.cut _ _)).le (by omega)) (same_new npl _)
  · refine iteT ⟨_, rfl, _, rfl, _, rfl, tx t, rfl, lt, _, rfl, _, rfl, (by show 3 ≤ sizeLine; decide), fun pl npl => ?_⟩
    refine ⟨_, rfl, pl, _, _, _, rfl, rfl, SqL.of upd_same, atI_nat (j := 1) rfl, _, _, rfl, rfl, big2 (T.cut _ _) hE (by omega), ?_⟩
    refine ⟨_, rfl, _, rfl, _, rfl, _, _, rfl, rfl, .inr ⟨_, rfl, _, _, rfl, rfl, _, rfl, tx t, rfl, lt, _, _, rfl, rfl, big2 ((T.cut _ _).app hE) (T.cut _ _) (by omega), ?_⟩⟩
    exact fin _ _ ((((T.cut _ _).app hE).app (T.cut _ _)).le (by omega)) (same_new npl _)
  · refine iteT ⟨_, rfl, _, rfl, _, rfl, tx t, rfl, lt, _, rfl, _, rfl, (by show 3 ≤ sizeLine; decide), fun pl npl => ?_⟩
    refine ⟨_, rfl, pl, _, _, _, rfl, rfl, SqL.of upd_same, atI_nat (j := 2) rfl, _, _, rfl, rfl, big2 (T.cut _ _) hS (by omega), ?_⟩
    refine ⟨_, rfl, _, rfl, _, rfl, _, _, rfl, rfl, .inr ⟨_, rfl, _, _, rfl, rfl, _, rfl, tx t, rfl, lt, _, _, rfl, rfl, big2 ((T.cut _ _).app hS) (T.cut _ _) (by omega), ?_⟩⟩
    exact fin _ _ ((((T.cut _ _).app hS).app (T.cut _ _)).le (by omega)) (same_new npl _)
  · refine iteF ⟨_, rfl, _, rfl, _, rfl, tx t, rfl, lt, _, rfl, _, rfl, _, rfl, _, rfl, _, _, rfl, rfl, _, rfl, tx t, rfl, lt, _, rfl, Nat.le_trans (T.cut _ _).len (by omega), _, _, rfl, rfl, big2 (T.cut _ _) (T.cut _ _).rev (by omega), ?_⟩
    refine ⟨_, rfl, _, rfl, _, _, rfl, rfl, _, rfl, tx t, rfl, lt, _, _, rfl, rfl, big2 ((T.cut _ _).app (T.cut _ _).rev) (T.cut _ _) (by omega), ?_⟩
    refine ⟨_, rfl, _, rfl, _, rfl, tx t, rfl, lt, ?_⟩
    refine ⟨_, rfl, _, rfl, _, rfl, tx t, rfl, lt, _, rfl, _, rfl, _, rfl, tx t, rfl, lt, (cutS (tx t) _ none).cps.toList, 2, rfl, rfl, by decide, by decide, Nat.le_trans (T.cut _ none).len (by omega), _, _, rfl, rfl, big2 (T.cut _ _) (T.cut _ none).two (by omega), ?_⟩
    refine ⟨(by show 3 ≤ sizeLine; decide), fun pl npl => ?_⟩
    refine ⟨_, rfl, _, _, rfl, rfl, pl, _, _, _, rfl, rfl, SqL.of upd_same, atI_nat (j := 0) rfl, ?_⟩
    exact fin _ _ ((((T.cut _ _).app (T.cut _ _).rev).app (T.cut _ _)).le (by omega)) (same_new npl _)
  · refine iteF ⟨_, rfl, _, rfl, _, rfl, tx t, rfl, lt, _, rfl, _, rfl, _, rfl, _, rfl, _, _, rfl, rfl, _, rfl, tx t, rfl, lt, _, rfl, Nat.le_trans (T.cut _ _).len (by omega), _, _, rfl, rfl, big2 (T.cut _ _) (T.cut _ _).rev (by omega), ?_⟩
    refine ⟨_, rfl, _, rfl, _, _, rfl, rfl, _, rfl, tx t, rfl, lt, _, _, rfl, rfl, big2 ((T.cut _ _).app (T.cut _ _).rev) (T.cut _ _) (by omega), ?_⟩
    refine ⟨_, rfl, _, rfl, _, rfl, tx t, rfl, lt, ?_⟩
    refine ⟨_, rfl, _, rfl, _, rfl, tx t, rfl, lt, _, rfl, _, rfl, _, rfl, tx t, rfl, lt, (cutS (tx t) _ none).cps.toList, 2, rfl, rfl, by decide, by decide, Nat.le_trans (T.cut _ none).len (by omega), _, _, rfl, rfl, big2 (T.cut _ _) (T.cut _ none).two (by omega), ?_⟩
    refine ⟨(by show 3 ≤ sizeLine; decide), fun pl npl => ?_⟩
    refine ⟨_, rfl, _, _, rfl, rfl, pl, _, _, _, rfl, rfl, SqL.of upd_same, atI_nat (j := 1) rfl, ?_⟩
    exact fin _ _ ((T.cut _ _).le (by omega)) (same_new npl _)
  · refine iteF ⟨_, rfl, _, rfl, _, rfl, tx t, rfl, lt, _, rfl, _, rfl, _, rfl, _, rfl, _, _, rfl, rfl, _, rfl, tx t, rfl, lt, _, rfl, Nat.le_trans (T.cut _ _).len (by omega), _, _, rfl, rfl, big2 (T.cut _ _) (T.cut _ _).rev (by omega), ?_⟩
    refine ⟨_, rfl, _, rfl, _, _, rfl, rfl, _, rfl, tx t, rfl, lt, _, _, rfl, rfl, big2 ((T.cut _ _).app (T.cut _ _).rev) (T.cut _ _) (by omega), ?_⟩
    refine ⟨_, rfl, _, rfl, _, rfl, tx t, rfl, lt, ?_⟩
    refine ⟨_, rfl, _, rfl, _, rfl, tx t, rfl, lt, _, rfl, _, rfl, _, rfl, tx t, rfl, lt, (cutS (tx t) _ none).cps.toList, 2, rfl, rfl, by decide, by decide, Nat.le_trans (T.cut _ none).len (by omega), _, _, rfl, rfl, big2 (T.cut _ _) (T.cut _ none).two (by omega), ?_⟩
    refine ⟨(by show 3 ≤ sizeLine; decide), fun pl npl => ?_⟩
    refine ⟨_, rfl, _, _, rfl, rfl, pl, _, _, _, rfl, rfl, SqL.of upd_same, atI_nat (j := 2) rfl, ?_⟩
    exact fin _ _ (((T.cut _ _).app (T.cut _ none).two).le (by omega)) (same_new npl _)
end
/-! ### _law_written -/
def smB (x : Str) : Bool := decide (x.length ≤ 100) && x.cps.toList.all fun c => decide (c < 128)
def smV : V → Bool
  | .str x => smB x
  | _ => false
theorem smB_of {x : Str} (h : smB x = true) : Sm 100 x := by
  unfold smB at h
  rw [Bool.and_eq_true, decide_eq_true_eq, List.all_eq_true] at h
  exact ⟨h.1, fun c hc => of_decide_eq_true (h.2 c hc)⟩
theorem smB_to {x : Str} (h : Sm 100 x) : smB x = true := by
  unfold smB
  rw [Bool.and_eq_true, decide_eq_true_eq, List.all_eq_true]
  exact ⟨h.len, fun c hc => decide_eq_true (h.sm c hc)⟩
theorem smV_of {v : V} (h : smV v = true) : ∃ x, v = .str x ∧ Sm 100 x := by
  cases v <;> first | exact ⟨_, rfl, smB_of h⟩ | exact absurd h Bool.false_ne_true
structure WS (N : Nat) (H H' : Hp) (a : Addr) (vs : List V) : Prop where
  s : Same H H'
  e : H' a = some (.lst vs)
  n : H a = none
  sm : vs.all smV = true
  len : vs.length ≤ N
theorem WS.keep {n : Nat} {H H' H2 : Hp} {a : Addr} {vs : List V} (w : WS n H H' a vs) (s : Same H' H2) : WS n H H2 a vs := ⟨w.s.trans s, s _ _ w.e, w.n, w.sm, w.len⟩
theorem none_of {H H' : Hp} (s : Same H H') {p : Addr} (n : H' p = none) : H p = none := by
  cases h : H p with
  | none => rfl
  | some o => rw [s _ _ h] at n; cases n
theorem WS.cat {n m : Nat} {H H1 H2 : Hp} {a r : Addr} {vs ws : List V} (w : WS n H H1 a vs) (s : Same H1 H2) (hs : ws.all smV = true) (hl : ws.length ≤ m) (nr : H2 r = none) : WS (n + m) H (upd H2 r (.lst (vs ++ ws))) r (vs ++ ws) :=
  ⟨w.s.trans (s.trans (same_new nr _)), upd_same, none_of (w.s.trans s) nr, by rw [List.all_append, w.sm, hs]; rfl, by rw [List.length_append]; exact Nat.add_le_add w.len hl⟩
abbrev wr1 : List V := [V.str "", V.str " ", V.str "a", V.str "A", V.str "ab", V.str "a ", V.str " a", V.str "-", V.str "(", V.str "a(", V.str "a()", V.str "a(-", V.str "a(-,", V.str "a(-,-)", V.str "a(-,b", V.str "a(-,b)"]
abbrev wr2 : List V := [V.str "a(b)", V.str "a(b,", V.str "a(b,)", V.str "a(b,-", V.str "a(b,-)", V.str "a(b,c)", V.str "a(b,c)d", V.str "a(b,c))", V.str "a(b,c,d)", V.str "a(b c)"]
abbrev wr3 : List V := [V.str "a(b", V.str "a(b, c)", V.str "a(-,b(-,c))", V.str "a(b(c,-),-)", V.str "a(b(c,-)-)", V.str "a(b(-,-),c)", V.str "a((b,c),d)", V.str "a[b,c]"]
def chn (k : Int) : Str := Txt.join (Str.ofString "(") ((cutS (Str.ofString "abcdefghijkl") none (some k)).cps.toList.map fun c => (⟨#[c]⟩ : Str)) ++ tx (List.replicate (k - 1).toNat (Str.ofString ",-)").cps.toList).flatten
abbrev wr4 : List V := [V.str (chn 11), V.str (chn 12)]
abbrev wr5 : List V := [V.str (chn 12 ++ Str.ofString ")"), V.str (cutS (chn 12) none (some 23) ++ Str.ofString "("), V.str (cutS (chn 12) none (some 23) ++ Str.ofString ",m"), V.str (cutS (chn 12) none (some 23) ++ Str.ofString ",-,")]
abbrev fullS : Str := Str.ofString "a(b(c(d,e),f(g,h)),i(j(k,l),-))"
abbrev wr6 : List V := [V.str fullS, V.str (cutS fullS none (some (-1)) ++ Str.ofString "m)"), V.str (cutS fullS none (some 27) ++ Str.ofString "(m"), V.str (cutS fullS none (some 28) ++ Str.ofString "m"), V.str (cutS fullS none (some 25)), V.str "1", V.str "a\n"]
abbrev wr7 : List V := [V.str (Txt.join (Str.ofString "(-,") ((Str.ofString "abcdefghijkl").cps.toList.map fun c => (⟨#[c]⟩ : Str)) ++ tx (List.replicate (11 : Int).toNat (Str.ofString ")").cps.toList).flatten)]
theorem map_sg (l : List Nat) : (l.map fun c => V.str ⟨#[c]⟩) = (l.map fun c => (⟨#[c]⟩ : Str)).map V.str := by rw [List.map_map]; rfl
def rJoin (K : PySem.W.Frag) : V → List V → Hp → VK → Prop := fun x xs H Q => ∃ a p, ∃ ys : List Str, x = .str a ∧ xs = [.ref p] ∧ (SqL K H p (ys.map V.str) ∨ SqT K H p (ys.map V.str)) ∧ (ys.map (·.length)).sum + ys.length * a.length ≤ 16777216 ∧ Q (.str (Txt.join a ys)) H
def spWritten : Sp := fun vs H Q _ => vs = [] ∧ ∀ (p : Addr) (xs : List V) (H' : Hp), WS 60 H H' p xs → Q (.ref p) H'
theorem smV2 {x y : Str} {m n : Nat} (h : Sm m x) (g : Sm n y) (k : m + n ≤ 100) : smV (.str (x ++ y)) = true := smB_to ((h.app g).le k)
section
variable {P : Program} {w : World} {K : PySem.W.Frag} {mg : Str → Option Value} {base : Heap} {f : Addr} {fd : FuncData}
theorem ok_written {k : Nat} (F : Fun K "_law_written" "_law_written" s__law_written f fd) (M : Mgs mg) : FnOk P w K mg base CX0 (k + 1) f fd [] spWritten := by
  refine F.ok sc__law_written (fun vs H Q E h => ?_) (fun cdv A0 outer s H vs Q E hr h => ?_)
  · obtain ⟨rfl, _⟩ := h
    rfl
  obtain ⟨rfl, q⟩ := h
  refine ⟨_, (pss_cons (ps_set (i := 0) sc__law_written.nd rfl (.inl rfl) (pe_lst (pa_cons pe_str (pa_cons pe_str (pa_cons pe_str (pa_cons pe_str (pa_cons pe_str (pa_cons pe_str (pa_cons pe_str (pa_cons pe_str (pa_cons pe_str (pa_cons pe_str (pa_cons pe_str (pa_cons pe_str (pa_cons pe_str (pa_cons pe_str (pa_cons pe_str (pa_cons pe_str pa_nil))))))))))))))))))
    (pss_cons (ps_set (i := 0) sc__law_written.nd rfl (.inl rfl) (pe_op op_cat (pv 0) (pe_lst (pa_cons pe_str (pa_cons pe_str (pa_cons pe_str (pa_cons pe_str (pa_cons pe_str (pa_cons pe_str (pa_cons pe_str (pa_cons pe_str (pa_cons pe_str (pa_cons pe_str pa_nil)))))))))))))
    (pss_cons (ps_set (i := 0) sc__law_written.nd rfl (.inl rfl) (pe_op op_cat (pv 0) (pe_lst (pa_cons pe_str (pa_cons pe_str (pa_cons pe_str (pa_cons pe_str (pa_cons pe_str (pa_cons pe_str (pa_cons pe_str (pa_cons pe_str pa_nil)))))))))))
    (pss_cons (ps_set (i := 1) sc__law_written.nd rfl (.inr rfl) pe_str)
    (pss_cons (ps_setLc (i := 3) (own := [("_law_k", 2)]) (g := gName 2) (tt := tYes) (by rfl) sc__law_written.nd rfl rfl (sw_true rfl rfl rfl (by decide +kernel)) (pi_tup (pe_tup (pa_cons pe_int (pa_cons pe_int pa_nil)))) (blkOk_by (N := ["_law_some", "_law_long", "_law_k", "_law_chains", "_law_full"]) (sc := defScope s__law_written) (by decide +kernel)) (fun _ _ _ _ _ => (pg_name (i := 2) sc__law_written.nd rfl (.inl rfl))) (fun _ _ _ _ _ => pts_nil) (fun _ _ _ _ _ => (pe_op op_add_str (show PE _ _ (tBM K _ _ _ _) from pe_bm PySem.F.plainAttrs_str PySem.F.slot_str_join PySem.F.type_str_join (show MtR _ "str.join" (rJoin K) from mt_join) pe_str (pa_cons (pe_callTy (call_signs rfl) rfl M.list (by decide +kernel) (pa_cons (pe_slice sl_str (pv 1) po_none (po_some (pv 2))) pa_nil)) pa_nil)) (pe_op op_timesS pe_str (pe_op op_sub (pv 2) pe_int)))))
    (pss_cons (ps_set (i := 0) sc__law_written.nd rfl (.inl rfl) (pe_op op_cat (pe_op op_cat (pv 0) (pv 3)) (pe_lst (pa_cons (pe_op op_add_str (pe_ix ix_list (pv 3) pe_int (fun _ _ => rfl)) pe_str) (pa_cons (pe_op op_add_str (pe_slice sl_str (pe_ix ix_list (pv 3) pe_int (fun _ _ => rfl)) po_none (po_some pe_int)) pe_str) (pa_cons (pe_op op_add_str (pe_slice sl_str (pe_ix ix_list (pv 3) pe_int (fun _ _ => rfl)) po_none (po_some pe_int)) pe_str) (pa_cons (pe_op op_add_str (pe_slice sl_str (pe_ix ix_list (pv 3) pe_int (fun _ _ => rfl)) po_none (po_some pe_int)) pe_str) pa_nil)))))))
    (pss_cons (ps_set (i := 4) sc__law_written.nd rfl (.inl rfl) pe_str)
    (pss_cons (ps_set (i := 0) sc__law_written.nd rfl (.inl rfl) (pe_op op_cat (pv 0) (pe_lst (pa_cons (pv 4) (pa_cons (pe_op op_add_str (pe_slice sl_str (pv 4) po_none (po_some (pe_un un_neg pe_int))) pe_str) (pa_cons (pe_op op_add_str (pe_slice sl_str (pv 4) po_none (po_some pe_int)) pe_str) (pa_cons (pe_op op_add_str (pe_slice sl_str (pv 4) po_none (po_some pe_int)) pe_str) (pa_cons (pe_slice sl_str (pv 4) po_none (po_some pe_int)) (pa_cons pe_str (pa_cons pe_str pa_nil))))))))))
    (pss_one (ps_ret (pe_op op_cat (pv 0) (pe_lst (pa_cons (pe_op op_add_str (pe_bm PySem.F.plainAttrs_str PySem.F.slot_str_join PySem.F.type_str_join mt_join pe_str (pa_cons (pe_callTy (call_signs rfl) rfl M.list (by decide +kernel) (pa_cons (pv 1) pa_nil)) pa_nil)) (pe_op op_timesS pe_str pe_int)) pa_nil))))))))))))), ?_⟩
  refine ⟨(by show 16 ≤ sizeLine; decide), fun a1 na1 => ?_⟩
  have w1 : WS 16 H (upd H a1 (.lst wr1)) a1 wr1 := ⟨same_new na1 _, upd_same, na1, by decide +kernel, Nat.le_refl _⟩
  generalize upd H a1 (.lst wr1) = H1 at w1 ⊢
  refine ⟨_, rfl, (by show 10 ≤ sizeLine; decide), fun p2 np2 => ?_⟩
  refine ⟨a1, p2, _, _, rfl, rfl, same_new np2 _ _ _ w1.e, upd_same, (by decide), fun a2 na2 => ?_⟩
  have w2 := w1.cat (m := 10) (ws := wr2) (same_new np2 (.lst wr2)) (by decide +kernel) (Nat.le_refl _) na2
  generalize upd (upd H1 p2 (.lst wr2)) a2 (.lst (wr1 ++ wr2)) = H2 at w2 ⊢
  refine ⟨_, rfl, (by show 8 ≤ sizeLine; decide), fun p3 np3 => ?_⟩
  refine ⟨a2, p3, _, _, rfl, rfl, same_new np3 _ _ _ w2.e, upd_same, (by decide), fun a3 na3 => ?_⟩
  have w3 := w2.cat (m := 8) (ws := wr3) (same_new np3 (.lst wr3)) (by decide +kernel) (Nat.le_refl _) na3
  generalize upd (upd H2 p3 (.lst wr3)) a3 (.lst ((wr1 ++ wr2) ++ wr3)) = H3 at w3 ⊢
  refine ⟨(by show 2 ≤ sizeLine; decide), fun tp ntp => ?_⟩
  have s4 := same_new ntp (.tup [V.int 11, V.int 12])
  have etp := upd_same (H := H3) (a := tp) (o := .tup [V.int 11, V.int 12])
  have w4 := w3.keep s4
  generalize upd H3 tp (.tup [V.int 11, V.int 12]) = H4 at w4 etp ⊢
  refine ⟨tp, rfl, ⟨_, SqT.of etp⟩, fun d1 nd1 => ?_⟩
  have s5 := same_new nd1 (.lst [])
  refine lc_tup (K := K) (a := tp) (xs := [V.int 11, V.int 12]) (fun i H' => Same H4 H' ∧ H' d1 = some (.lst (wr4.take i))) ⟨s5, upd_same⟩ (fun i H' _ hp => SqT.of (hp.1 _ _ etp)) (fun i x H' hx hp => ?_) (fun H5 hp => ?_)
  · obtain ⟨sm, hd⟩ := hp
    refine ⟨rfl, ?_⟩
    obtain ⟨k, rfl, hk, hi, ht⟩ : ∃ k : Int, x = .int k ∧ (k = 11 ∨ k = 12) ∧ i < 2 ∧ wr4.take (i + 1) = wr4.take i ++ [V.str (chn k)] := by
      match i, hx with
      | 0, hx => cases hx; exact ⟨11, rfl, .inl rfl, by decide, rfl⟩
      | 1, hx => cases hx; exact ⟨12, rfl, .inr rfl, by decide, rfl⟩
      | n + 2, hx => exact absurd hx (by simp)
    refine ⟨rfl, _, rfl, _, rfl, _, rfl, _, rfl, by decide +kernel, _, rfl, ?_, fun p np => ?_⟩
    · rcases hk with rfl | rfl <;> decide +kernel
    rw [map_sg]
    refine ⟨_, p, _, rfl, rfl, .inl (SqL.of upd_same), ?_, ?_⟩
    · rcases hk with rfl | rfl <;> decide +kernel
    refine ⟨_, rfl, _, _, rfl, rfl, (Str.ofString ",-)").cps.toList, k - 1, rfl, rfl, by rcases hk with rfl | rfl <;> decide, by rcases hk with rfl | rfl <;> decide, by decide +kernel, _, _, rfl, rfl, ?_, ?_⟩
    · rcases hk with rfl | rfl <;> decide +kernel
    have qp := same_new np (.lst (((cutS (Str.ofString "abcdefghijkl") none (some k)).cps.toList.map fun c => (⟨#[c]⟩ : Str)).map V.str))
    refine ⟨_, qp _ _ hd, ?_, fun b o e => ?_, ?_⟩
    · have : (wr4.take i).length ≤ 2 := List.length_take_le' _ _
      exact Nat.lt_of_le_of_lt this (by decide)
    · rw [upd_ne (ne_of_none e nd1)]
      exact qp _ _ (sm _ _ e)
    · rw [upd_same, ht]
      rfl
  obtain ⟨sm, hd⟩ := hp
  have hd : H5 d1 = some (.lst wr4) := hd
  have w5 := w4.keep sm
  -- the fifth
  refine ⟨_, rfl, _, rfl, a3, d1, _, _, rfl, rfl, w5.e, hd, by decide, fun a5 na5 => ?_⟩
  have w6 := w5.cat (m := 2) (ws := wr4) (Same.refl H5) (by decide +kernel) (Nat.le_refl _) na5
  have hd6 := same_new na5 (.lst (((wr1 ++ wr2) ++ wr3) ++ wr4)) _ _ hd
  generalize upd H5 a5 (.lst (((wr1 ++ wr2) ++ wr3) ++ wr4)) = H6 at w6 hd6 ⊢
  refine ⟨_, rfl, d1, _, 1, _, rfl, rfl, SqL.of hd6, atI_nat (j := 1) rfl, _, _, rfl, rfl, by decide +kernel, ?_⟩
  refine ⟨_, rfl, d1, _, 1, _, rfl, rfl, SqL.of hd6, atI_nat (j := 1) rfl, _, rfl, _, rfl, by decide +kernel, _, _, rfl, rfl, by decide +kernel, ?_⟩
  refine ⟨_, rfl, d1, _, 1, _, rfl, rfl, SqL.of hd6, atI_nat (j := 1) rfl, _, rfl, _, rfl, by decide +kernel, _, _, rfl, rfl, by decide +kernel, ?_⟩
  refine ⟨_, rfl, d1, _, 1, _, rfl, rfl, SqL.of hd6, atI_nat (j := 1) rfl, _, rfl, _, rfl, by decide +kernel, _, _, rfl, rfl, by decide +kernel, ?_⟩
  refine ⟨(by show 4 ≤ sizeLine; decide), fun p6 np6 => ?_⟩
  refine ⟨a5, p6, _, wr5, rfl, rfl, same_new np6 _ _ _ w6.e, upd_same, (by decide), fun a7 na7 => ?_⟩
  have w7 := w6.cat (m := 4) (ws := wr5) (same_new np6 (.lst wr5)) (by decide +kernel) (Nat.le_refl _) na7
  generalize upd (upd H6 p6 (.lst wr5)) a7 (.lst ((((wr1 ++ wr2) ++ wr3) ++ wr4) ++ wr5)) = H7 at w7 ⊢
  -- the full tree
  refine ⟨_, rfl, _, rfl, ?_⟩
  refine ⟨_, rfl, _, rfl, _, rfl, _, rfl, by decide +kernel, _, _, rfl, rfl, by decide +kernel, ?_⟩
  refine ⟨_, rfl, _, rfl, _, rfl, by decide +kernel, _, _, rfl, rfl, by decide +kernel, ?_⟩
  refine ⟨_, rfl, _, rfl, _, rfl, by decide +kernel, _, _, rfl, rfl, by decide +kernel, ?_⟩
  refine ⟨_, rfl, _, rfl, _, rfl, by decide +kernel, ?_⟩
  refine ⟨(by show 7 ≤ sizeLine; decide), fun p8 np8 => ?_⟩
  refine ⟨a7, p8, _, wr6, rfl, rfl, same_new np8 _ _ _ w7.e, upd_same, (by decide), fun a9 na9 => ?_⟩
  have w9 := w7.cat (m := 7) (ws := wr6) (same_new np8 (.lst wr6)) (by decide +kernel) (Nat.le_refl _) na9
  generalize upd (upd H7 p8 (.lst wr6)) a9 (.lst (((((wr1 ++ wr2) ++ wr3) ++ wr4) ++ wr5) ++ wr6)) = H9 at w9 ⊢
  -- the last
  refine ⟨_, rfl, rfl, _, rfl, _, rfl, by decide +kernel, fun p9 np9 => ?_⟩
  rw [map_sg]
  have w10 := w9.keep (same_new np9 (.lst (((Str.ofString "abcdefghijkl").cps.toList.map fun c => (⟨#[c]⟩ : Str)).map V.str)))
  refine ⟨_, p9, _, rfl, rfl, .inl (SqL.of upd_same), by decide +kernel, ?_⟩
  generalize upd H9 p9 (.lst (((Str.ofString "abcdefghijkl").cps.toList.map fun c => (⟨#[c]⟩ : Str)).map V.str)) = H10 at w10 ⊢
  refine ⟨(Str.ofString ")").cps.toList, 11, rfl, rfl, by decide, by decide, by decide +kernel, _, _, rfl, rfl, by decide +kernel, ?_⟩
  refine ⟨(by show 1 ≤ sizeLine; decide), fun p11 np11 => ?_⟩
  refine ⟨a9, p11, _, wr7, rfl, rfl, same_new np11 _ _ _ w10.e, upd_same, (by decide), fun a12 na12 => ?_⟩
  have w12 := w10.cat (m := 1) (ws := wr7) (same_new np11 (.lst wr7)) (by decide +kernel) (Nat.le_refl _) na12
  exact q a12 _ _ ⟨w12.s, w12.e, w12.n, w12.sm, Nat.le_trans w12.len (by decide)⟩
end
/-! ### xs[k::4] -/
theorem vals_pick {vs : List V} {us : List Value} (r : Vals vs us) : ∀ l : List Nat, Vals (l.filterMap (vs[·]?)) (l.filterMap (us.toArray[·]?))
  | [] => .nil
  | i :: l => by
    have h := vals_pick r l
    rw [List.filterMap_cons, List.filterMap_cons]
    cases e : vs[i]? with
    | none =>
      have hl := r.length
      have : us.toArray[i]? = none := by
        rw [Array.getElem?_eq_none_iff, List.size_toArray, ← hl]
        exact List.getElem?_eq_none_iff.mp e
      rw [this]
      exact h
    | some x =>
      obtain ⟨u, hu, ru⟩ := r.get e
      have : us.toArray[i]? = some u := by simpa using hu
      rw [this]
      exact .cons ru h
def tStep4 (K : PySem.W.Frag) (te : TE) (tl : TO) : TE := fun σ H Q => te σ H fun x H1 => ∃ a xs, x = .ref a ∧ SqL K H1 a xs ∧ tl σ H1 fun _ H2 => SqL K H2 a xs ∧ ∀ p ys, H2 p = none → (∀ y ∈ ys, y ∈ xs) → ys.length ≤ xs.length → Q (.ref p) (upd H2 p (.lst ys))
theorem pe_step4 {X : Cx} {e el : Expr} {te : TE} {tl : TO} {k : Nat} {p1 p3 pos : Pos} (he : PE X e te) (hl : PO X (some el) tl) : PE X (.Subscript e (.Slice (some el) none (some (.Constant (.int 4) k p1)) p3) pos) (tStep4 X.K te tl) := by
  refine ⟨fun pins s σ H Q I h => ?_⟩
  refine Subscript_ (thn (he.run pins s σ H _ I h) fun v s1 ⟨x, H1, I1, r1, q1⟩ => ?_)
  obtain ⟨a, xs, ex, _, q1⟩ := q1
  subst ex
  cases r1
  have hst : PO X (some (.Constant (.int 4) k p1)) (tPart (tC (.int 4))) := po_some pe_int
  refine wpAny_Slice (thn (hl.run pins s1 σ H1 _ I1 q1) fun vl s2 ⟨l, H2, I2, pl, hx, q⟩ => ?_)
  refine thn (po_none.run pins s2 σ H2 (fun o H3 => o = none ∧ H3 = H2) I2 ⟨rfl, rfl⟩) fun vu s3 ⟨u, H3, I3, pu, eu, e3⟩ => ?_
  subst eu e3
  refine thn (hst.run pins s3 σ H3 (fun o H4 => o = some 4 ∧ H4 = H3) I3 ⟨4, rfl, rfl, rfl⟩) fun vs s4 ⟨o, H4, I4, ps, eo, e4⟩ => ?_
  subst eo e4
  have I5 : Inv X pins σ H4 { s4 with heap := s4.heap.push { cls := .type "slice", data := .fields #[vl, vu, vs] } } := I4.kept (t' := s4.toks) fun b ob q => Heap.get?_push_of_some _ q
  obtain ⟨its, r, ht, hz⟩ := I5.list hx
  have hlen := r.length
  show wpAny (model X.prog X.w) X.A (subscriptTail e (.Slice (some el) none (some (.Constant (.int 4) k p1)) p3) (.ref a) (.ref s4.heap.objs.size)) (EP X pins σ Q) X.xe { s4 with heap := s4.heap.push { cls := .type "slice", data := .fields #[vl, vu, vs] } }
  refine tail_any (ops := [.ref a, .ref s4.heap.objs.size]) ht.isList.typeIs (PySem.slot_list_getitem.lookup) ?_ (by with_unfolding_all rfl)
  refine wpAny_getItem_list_slice ht.isList (Heap.IsSliceOf.new _ vl vu vs) pl pu ps (by decide) ?_ (by rw [List.size_toArray]; omega)
  have hsz := slicePick_size_le its.toArray l none (some 4)
  have rp := vals_pick r (sliceRange (sliceBounds l none (some 4) its.toArray.size).1 (sliceBounds l none (some 4) its.toArray.size).2.1 (sliceBounds l none (some 4) its.toArray.size).2.2)
  have hyl := rp.length
  have hle : ((sliceRange (sliceBounds l none (some 4) its.toArray.size).1 (sliceBounds l none (some 4) its.toArray.size).2.1 (sliceBounds l none (some 4) its.toArray.size).2.2).filterMap (xs[·]?)).length ≤ xs.length := by
    rw [hyl, hlen]
    unfold slicePick at hsz
    rw [List.size_toArray, List.size_toArray] at hsz
    exact hsz
  refine ⟨.ref _, _, I5.laid (t' := s4.toks) (o := .lst ((sliceRange (sliceBounds l none (some 4) its.toArray.size).1 (sliceBounds l none (some 4) its.toArray.size).2.1 (sliceBounds l none (some 4) its.toArray.size).2.2).filterMap (xs[·]?))) (fun b ob q => Heap.get?_push_of_some _ q) (Nat.le_refl _) ?_, rfl, q _ _ (I5.hok.fresh (Nat.le_refl _)) (fun y hy => ?_) hle⟩
  · exact ⟨Nat.le_trans hle hz, _, 0, rp, Heap.get?_push_size _ rfl⟩
  · obtain ⟨i, _, hi⟩ := List.mem_filterMap.mp hy
    exact List.mem_of_getElem? hi
/-! ### law -/
theorem cs_small : ∀ t : T, t.lt → ∀ c ∈ t.cs, c < 128
  | .nil, _, c, hc => by
    rcases List.mem_singleton.mp (show c ∈ [45] from hc) with rfl
    decide
  | .node l x r, h, c, hc => by
    obtain ⟨h1, hx0, h3⟩ := T.lt_node h
    have hx : ∀ c ∈ x.cps.toList, c < 128 := by
      obtain ⟨z, z1, z2, rfl⟩ := hx0
      intro c hc
      rcases List.mem_singleton.mp (show c ∈ [z] from hc) with rfl
      omega
    by_cases e : l = .nil ∧ r = .nil
    · obtain ⟨rfl, rfl⟩ := e
      rw [cs_leaf] at hc
      exact hx c hc
    · rw [cs_node _ e] at hc
      rcases List.mem_append.mp hc with hc | hc
      · exact hx c hc
      rcases List.mem_cons.mp hc with rfl | hc
      · decide
      rcases List.mem_append.mp hc with hc | hc
      · exact cs_small l h1 c hc
      rcases List.mem_cons.mp hc with rfl | hc
      · decide
      rcases List.mem_append.mp hc with hc | hc
      · exact cs_small r h3 c hc
      · rcases List.mem_singleton.mp hc with rfl
        decide
theorem bad_ok (j : Nat) : (ansD (.bad j)).depth ≤ 13 ∧ nar (ansD (.bad j)) = true := ⟨by simp only [ansD, PyData.depth, PyData.depthAll]; decide, by simp [ansD, nar, narAll]⟩
theorem res_ok (o : Option (List Nat)) : (resD o).depth ≤ 13 ∧ nar (resD o) = true := by
  cases o with
  | none => exact ⟨by simp only [resD, PyData.depth, PyData.depthAll]; decide, by simp [resD, nar, narAll]⟩
  | some t =>
    show (ansD (parsed t)).depth ≤ 13 ∧ nar (ansD (parsed t)) = true
    unfold parsed
    cases q : rdT t 13 0 12 with
    | err j => exact bad_ok j
    | ok x e =>
      dsimp only
      split
      · exact bad_ok e
      · have h := (rdT_ok t 13 0 12 (Nat.zero_le _)).1 _ _ q
        refine ⟨?_, T.nar_data x⟩
        show x.data.depth ≤ 13
        rw [T.data_deep]
        have := x.deep_le
        omega
/-- a value that is asked -/
def AskV (D : Deck) (H : Hp) (v : V) : Prop := ∃ d o, DQ D H v d ∧ ValK v d o ∧ gd d = true ∧ wt d ≤ 100000 ∧ d.depth ≤ 60
theorem AskV.sameD {D : Deck} {H H' : Hp} {v : V} (s : SameD D H H') (h : AskV D H v) : AskV D H' v := by
  obtain ⟨d, o, h, r⟩ := h
  exact ⟨d, o, dq_sameD s h, r⟩
def Asks (D : Deck) (H : Hp) (vs : List V) : Prop := ∀ v ∈ vs, AskV D H v
theorem Asks.sameD {D : Deck} {H H' : Hp} {vs : List V} (s : SameD D H H') (h : Asks D H vs) : Asks D H' vs := fun v hv => (h v hv).sameD s
theorem Asks.app {D : Deck} {H : Hp} {vs ws : List V} (h : Asks D H vs) (g : Asks D H ws) : Asks D H (vs ++ ws) := fun v hv => by
  rcases List.mem_append.mp hv with hv | hv
  · exact h v hv
  · exact g v hv
theorem Asks.cons {D : Deck} {H : Hp} {v : V} {vs : List V} (h : AskV D H v) (g : Asks D H vs) : Asks D H (v :: vs) := fun u hu => by
  rcases List.mem_cons.mp hu with rfl | hu
  · exact h
  · exact g u hu
theorem Asks.nil {D : Deck} {H : Hp} : Asks D H [] := fun _ h => nomatch h
theorem ask_sm {D : Deck} {H : Hp} {n : Nat} {x : Str} (h : Sm n x) (k : n ≤ 5000) : AskV D H (.str x) := by
  refine ⟨.str x, some x.cps.toList, .str _, ⟨rfl, Nat.le_trans h.len k⟩, ?_, ?_, by simp only [PyData.depth]; decide⟩
  · simp only [gd, Bool.and_eq_true, decide_eq_true_eq, List.all_eq_true]
    exact ⟨Nat.le_trans h.len k, h.sm⟩
  · simp only [wt]
    have := h.len
    omega
theorem ask_dq {D : Deck} {H : Hp} {v : V} {d : PyData} (h : DQ D H v d) (n : isStrD d = false) (g : gd d = true) (z : decide (wt d ≤ 100000) = true) (p : decide (d.depth ≤ 60) = true) : AskV D H v := ⟨d, none, h, n, g, of_decide_eq_true z, of_decide_eq_true p⟩
theorem pick4 {i : Nat} (h : i < 4) : ∃ lim : Nat, atI [V.int 12, V.int 12, V.int 5, V.int 3] (0 + (i : Int)) = some (.int (lim : Int)) ∧ 1 ≤ lim ∧ lim ≤ 12 := by
  have : i = 0 ∨ i = 1 ∨ i = 2 ∨ i = 3 := by omega
  rcases this with rfl | rfl | rfl | rfl
  · exact ⟨12, rfl, by decide, by decide⟩
  · exact ⟨12, rfl, by decide, by decide⟩
  · exact ⟨5, rfl, by decide, by decide⟩
  · exact ⟨3, rfl, by decide, by decide⟩
section
variable {P : Program} {w : World} {K : PySem.W.Frag} {mg : Str → Option Value} {base : Heap} {f : Addr} {fd : FuncData}
theorem run_law {s : Shared} {H : Hp} {a : Addr} {ns : List Int} (F : Fun K "law" "law" s_law f fd) (bd : BindsTo s fd ⟨[.ref a], []⟩ [("_law_script", .ref a)]) (en : Env0 P w K mg base callerA [] s H) (hS : SqL K H a (ns.map V.int))
    (M : Mgs mg) (mrepr : mg "repr" = none) (D_law_deck : Df P w K mg base 1 "_law_deck" ["_law_script"] (spDeck K)) (D_law_same : Df P w K mg base 20 "_law_same" ["_law_found", "_law_due_here"] (spSame K 20)) (D_law_tree : Df P w K mg base 29 "_law_tree" ["_law_deck_here", "_law_limit"] spTree)
    (D_law_next : Df P w K mg base 1 "_law_next" ["_law_deck_here", "_law_many"] spNext) (D_law_one : Df P w K mg base 2 "_law_one" ["_law_deck_here", "_law_items"] spOne) (D_law_text : Df P w K mg base 20 "_law_text" ["_law_tree_here"] (spTextL 20))
    (D_law_bent : Df P w K mg base 3 "_law_bent" ["_law_deck_here", "_law_text_here"] spBent) (D_law_written : Df P w K mg base 1 "_law_written" [] spWritten) (D_law_due : Df P w K mg base 2 "_law_due" ["_law_value"] (spAns K)) (D_law_told : Df P w K mg base 61 "_law_told" ["_law_value"] (spAns K)) :
    codeAny (model P w) callerA (.call (.ref f) ⟨[.ref a], []⟩) (CR CX0 [] P w H s (fun v _ => v = .bl true) fun _ _ _ => False) s := by
  refine enter_def (k := 62) (vs := [.ref a]) (us := [.ref a]) F sc_law ⟨rfl, by decide, by decide⟩ en bd (.cons rfl .nil) rfl fun cdv hr => ?_
  have hu := hr.units
  refine ⟨_, (pss_cons (ps_set (i := 1) sc_law.nd rfl (.inl rfl) (pe_call D_law_deck.ok (hr.mono (by omega)) rfl D_law_deck.g D_law_deck.kp D_law_deck.b .nil pass0 (pa_cons (pv 0) pa_nil)))
    (pss_cons (ps_for PassesOwn.never rfl (pi_range1 rfl M.range (pa_cons pe_int pa_nil)) (pg_name (i := 2) sc_law.nd rfl (.inl rfl))
      (pss_cons (ps_set (i := 3) sc_law.nd rfl (.inl rfl) (pe_call D_law_text.ok (hr.mono (by omega)) rfl D_law_text.g D_law_text.kp D_law_text.b .nil pass0 (pa_cons (pe_call D_law_tree.ok (hr.mono (by omega)) rfl D_law_tree.g D_law_tree.kp D_law_tree.b .nil pass0 (pa_cons (pv 1) (pa_cons (pe_ix ix_list (pe_lst (pa_cons pe_int (pa_cons pe_int (pa_cons pe_int (pa_cons pe_int pa_nil))))) (pv 2) (fun _ _ => rfl)) pa_nil))) pa_nil)))
    (pss_cons (ps_set (i := 4) sc_law.nd rfl (.inl rfl) (pe_lst (pa_cons (pv 3) (pa_cons (pe_slice sl_str (pv 3) po_none (po_some (pe_call D_law_next.ok (hr.mono (by omega)) rfl D_law_next.g D_law_next.kp D_law_next.b .nil pass0 (pa_cons (pv 1) (pa_cons (pe_op op_add (pe_callB call_len_str rfl M.len PySem.boot_len (pa_cons (pv 3) pa_nil)) pe_int) pa_nil))))) (pa_cons (pe_op op_add_str (pv 3) (pe_call D_law_one.ok (hr.mono (by omega)) rfl D_law_one.g D_law_one.kp D_law_one.b .nil pass0 (pa_cons (pv 1) (pa_cons (pe_callTy (call_signs rfl) rfl M.list (by decide +kernel) (pa_cons pe_str pa_nil)) pa_nil)))) pa_nil)))))
    (pss_cons (ps_for PassesOwn.never rfl (pi_range1 rfl M.range (pa_cons pe_int pa_nil)) (pg_name (i := 5) sc_law.nd rfl (.inl rfl))
      (pss_cons (ps_set (i := 6) sc_law.nd rfl (.inl rfl) (pe_call D_law_bent.ok (hr.mono (by omega)) rfl D_law_bent.g D_law_bent.kp D_law_bent.b .nil pass0 (pa_cons (pv 1) (pa_cons (pv 3) pa_nil))))
    (pss_cons (ps_set (i := 7) sc_law.nd rfl (.inl rfl) (pe_call D_law_bent.ok (hr.mono (by omega)) rfl D_law_bent.g D_law_bent.kp D_law_bent.b .nil pass0 (pa_cons (pv 1) (pa_cons (pv 6) pa_nil))))
    (pss_one (ps_set (i := 4) sc_law.nd rfl (.inl rfl) (pe_op op_cat (pv 4) (pe_lst (pa_cons (pv 6) (pa_cons (pv 7) (pa_cons (pe_call D_law_bent.ok (hr.mono (by omega)) rfl D_law_bent.g D_law_bent.kp D_law_bent.b .nil pass0 (pa_cons (pv 1) (pa_cons (pv 7) pa_nil))) pa_nil))))))))))
    (pss_cons (ps_set (i := 4) sc_law.nd rfl (.inl rfl) (pe_op op_cat (pe_op op_cat (pv 4) (pe_step4 (pe_call0 D_law_written.ok (hr.mono (by omega)) rfl D_law_written.g D_law_written.kp D_law_written.b .nil pass0) (po_some (pv 2)))) (pe_lst (pa_cons pe_non (pa_cons pe_int (pa_cons pe_bl (pa_cons (pe_lst (pa_cons pe_str pa_nil)) (pa_cons (pe_tup (pa_cons pe_str pa_nil)) (pa_cons (pe_tup (pa_cons pe_non (pa_cons pe_str (pa_cons pe_non pa_nil)))) (pa_cons pe_dnewK pa_nil))))))))))
    (pss_one (ps_for PassesOwn.never rfl (pi_list (pv 4)) (pg_name (i := 8) sc_law.nd rfl (.inl rfl))
      (pss_cons (ps_par (i := 9) (j := 10) (by rfl) sc_law.nd rfl rfl (by decide) rfl rfl (pa_cons (pe_callB (call_reprQ rfl hu) rfl mrepr (by decide +kernel) (pa_cons (pv 8) pa_nil)) (pa_cons (pe_call D_law_due.ok (hr.mono (by omega)) rfl D_law_due.g D_law_due.kp D_law_due.b .nil pass0 (pa_cons (pv 8) pa_nil)) pa_nil)) (by rfl))
    (pss_one (ps_if (PW.pt (pw_or (pt_not (pt_val (pe_call D_law_same.ok (hr.mono (by omega)) rfl D_law_same.g D_law_same.kp D_law_same.b .nil pass0 (pa_cons (pe_lst (pa_cons (pe_call D_law_told.ok (hr.mono (by omega)) rfl D_law_told.g D_law_told.kp D_law_told.b .nil pass0 (pa_cons (pv 8) pa_nil)) (pa_cons (pe_call D_law_told.ok (hr.mono (by omega)) rfl D_law_told.g D_law_told.kp D_law_told.b .nil pass0 (pa_cons (pv 8) pa_nil)) pa_nil))) (pa_cons (pe_lst (pa_cons (pv 10) (pa_cons (pv 10) pa_nil))) pa_nil))))) (pw_or1 (pt_cmpR op_ne (pe_callB (call_reprQ rfl hu) rfl mrepr (by decide +kernel) (pa_cons (pv 8) pa_nil)) (pv 9) (nomark _)))))
      (pss_one (ps_ret pe_bl)) pss_nil))))))))))
    (pss_one (ps_ret pe_bl)))), ?_⟩
  refine ⟨_, rfl, a, ns, rfl, hS, fun D H1 d1 s1 => ?_⟩
  refine ⟨4, rfl, by decide, by decide, ?_⟩
  refine for_range (lo := 0) (n := 4) (fun i σ H' => ∃ (y3 y4 y5 y6 y7 y8 y9 y10 : Option V) (y2 : Option V) (c : Nat), σ = [some (.ref a), some (.ref D.dk), y2, y3, y4, y5, y6, y7, y8, y9, y10] ∧ DeckOk H' D c ∧ c ≤ 200 * i) ⟨none, none, none, none, none, none, none, none, none, 0, rfl, d1, by omega⟩ (fun i σ H3 hi hp => ?_) (fun σ H3 hp => ?_)
  · obtain ⟨y3, y4, y5, y6, y7, y8, y9, y10, y2, c, rfl, d3, hc⟩ := hp
    obtain ⟨lim, hl, l1, l2⟩ := pick4 hi
    refine ⟨_, rfl, (by show 4 ≤ sizeLine; decide), fun pl npl => ?_⟩
    have k4 := same_new npl (.lst [.int 12, .int 12, .int 5, .int 3])
    refine ⟨_, rfl, pl, _, _, _, rfl, rfl, SqL.of upd_same, hl, D, c, lim, rfl, d3.same k4, by omega, l1, by omega, fun v t c4 H4 d4 hc4 s4 at4 t0 t1 tl => ?_⟩
    have td := t.deep_le
    have tlen := cs_len t tl
    have tsm := cs_small t tl
    refine ⟨v, t, rfl, at4, tl, by omega, by omega, ?_⟩
    have T0 : Sm 73 t.text := sm_tx (by omega) tsm
    have lt : t.text.length ≤ sizeLine := Nat.le_trans T0.len (by decide)
    have big2 : ∀ {m n : Nat} {x y : Str}, Sm m x → Sm n y → m + n ≤ 4000 → x.length + y.length ≤ sizeLine := fun h g k => Nat.le_trans (Nat.add_le_add h.len g.len) (Nat.le_trans k (by decide))
    have l73 : t.text.length ≤ 73 := T0.len
    refine ⟨_, rfl, _, rfl, _, rfl, _, rfl, t.text, rfl, lt, _, _, rfl, rfl, D, c4, _, rfl, d4, by omega, by omega, by omega, fun i5 H5 i50 i51 d5 s5 => ?_⟩
    refine ⟨_, rfl, _, rfl, lt, _, rfl, _, rfl, _, rfl, by decide +kernel, fun la nla => ?_⟩
    rw [map_sg] at *
    have q6 := same_new nla (.lst (((Str.ofString "a(),-").cps.toList.map fun c => (⟨#[c]⟩ : Str)).map V.str))
    refine ⟨D, c4 + 1, la, _, rfl, d5.same q6, by omega, upd_same, d5.new nla, by decide +kernel, by decide +kernel, fun y H7 hy d7 s7 => ?_⟩
    obtain ⟨sc, hsc, rfl⟩ := List.mem_map.mp hy
    have hs128 : sc < 128 := by
      have : ∀ c ∈ (Str.ofString "a(),-").cps.toList, c < 128 := by decide +kernel
      exact this sc hsc
    have hS1 : Sm 1 (⟨#[sc]⟩ : Str) := ⟨Nat.le_refl _, fun c hc => by
      rcases List.mem_singleton.mp (show c ∈ [sc] from hc) with rfl
      exact hs128⟩
    refine ⟨_, _, rfl, rfl, big2 T0 hS1 (by omega), (by show 3 ≤ sizeLine; decide), fun va nva => ?_⟩
    have k8 := same_new nva (.lst [.str t.text, .str (cutS t.text none (some i5)), .str (t.text ++ ⟨#[sc]⟩)])
    have d8 := d7.same k8
    have ov := d7.new nva
    have ev := upd_same (H := H7) (a := va) (o := .lst [.str t.text, .str (cutS t.text none (some i5)), .str (t.text ++ ⟨#[sc]⟩)])
    have as8 : Asks D (upd H7 va (.lst [.str t.text, .str (cutS t.text none (some i5)), .str (t.text ++ ⟨#[sc]⟩)])) [.str t.text, .str (cutS t.text none (some i5)), .str (t.text ++ ⟨#[sc]⟩)] :=
      Asks.cons (ask_sm T0 (by omega)) (Asks.cons (ask_sm (T0.cut _ _) (by omega)) (Asks.cons (ask_sm (T0.app hS1) (by omega)) Asks.nil))
    generalize upd H7 va (.lst [.str t.text, .str (cutS t.text none (some i5)), .str (t.text ++ ⟨#[sc]⟩)]) = H8 at d8 ev as8 ⊢
    refine ⟨9, rfl, by decide, by decide, ?_⟩
    refine for_range (lo := 0) (n := 9) (fun j σ H' => ∃ (z5 z6 z7 z8 z9 z10 : Option V) (vb : Addr) (vs : List V) (c' : Nat), σ = [some (.ref a), some (.ref D.dk), some (.int (0 + i)), some (.str t.text), some (.ref vb), z5, z6, z7, z8, z9, z10] ∧ H' vb = some (.lst vs) ∧ Off D vb ∧ Asks D H' vs ∧ vs.length ≤ 3 + 3 * j ∧ DeckOk H' D c' ∧ c' ≤ c4 + 2 + 9 * j)
      ⟨y5, y6, y7, y8, y9, y10, va, _, c4 + 2, rfl, ev, ov, as8, Nat.le_refl _, d8, Nat.le_refl _⟩ (fun j σ H9 hj hp => ?_) (fun σ H9 hp => ?_)
    · obtain ⟨z5, z6, z7, z8, z9, z10, vb, vs, c9, rfl, eb, ob, as9, hvl, d9, hc9⟩ := hp
      refine ⟨_, rfl, _, rfl, D, c9, t.cs, rfl, d9, by omega, by omega, tsm, fun t1 Ha ht1 da sa => ?_⟩
      refine ⟨_, rfl, _, rfl, D, c9 + 3, t1, rfl, da, by omega, by have := ht1.1; omega, ht1.2, fun t2 Hb ht2 db sb => ?_⟩
      refine ⟨_, rfl, _, rfl, _, rfl, _, rfl, _, rfl, D, c9 + 6, t2, rfl, db, by omega, by have := ht1.1; have := ht2.1; omega, ht2.2, fun t3 Hc ht3 dc sc3 => ?_⟩
      have b1 := ht1.1
      have b2 := ht2.1
      have b3 := ht3.1
      have sA := (sa.trans sb).trans sc3
      refine ⟨(by show 3 ≤ sizeLine; decide), fun pl2 npl2 => ?_⟩
      have kd := same_new npl2 (.lst [.str (tx t1), .str (tx t2), .str (tx t3)])
      refine ⟨vb, pl2, _, _, rfl, rfl, kd _ _ (sA.at ob eb), upd_same, (by show vs.length + 3 ≤ sizeLine; exact small (by omega)), fun pm npm => ?_⟩
      have ke := same_new npm (.lst (vs ++ [.str (tx t1), .str (tx t2), .str (tx t3)]))
      have dd := dc.same kd
      refine ⟨_, _, _, _, _, _, pm, _, c9 + 9, rfl, upd_same, dd.new npm, (Asks.app ((as9.sameD sA).sameD (SameD.of kd)) ?_).sameD (SameD.of ke), by rw [List.length_append]; show vs.length + 3 ≤ _; omega, dd.same ke, by omega⟩
      exact Asks.cons (ask_sm (sm_tx b1 ht1.2) (by omega)) (Asks.cons (ask_sm (sm_tx b2 ht2.2) (by omega)) (Asks.cons (ask_sm (sm_tx b3 ht3.2) (by omega)) Asks.nil))
    · obtain ⟨z5, z6, z7, z8, z9, z10, vb, vs, c9, rfl, eb, ob, as9, hvl, d9, hc9⟩ := hp
      refine ⟨_, rfl, rfl, fun wa xs Hd wd => ⟨wa, xs, rfl, SqL.of wd.e, _, rfl, _, rfl, SqL.of wd.e, fun pp ys npp hy hyl => ?_⟩⟩
      have wl := wd.len
      have kp := same_new npp (.lst ys)
      refine ⟨vb, pp, _, _, rfl, rfl, kp _ _ (wd.s _ _ eb), upd_same, small (by omega), fun pq npq => ?_⟩
      have kq := same_new npq (.lst (vs ++ ys))
      have sB := wd.s.trans (kp.trans kq)
      have dB := d9.same sB
      have eq := upd_same (H := upd Hd pp (.lst ys)) (a := pq) (o := .lst (vs ++ ys))
      have asB : Asks D (upd (upd Hd pp (.lst ys)) pq (.lst (vs ++ ys))) (vs ++ ys) := Asks.app (as9.sameD (SameD.of sB)) fun v hv => by
        obtain ⟨x, rfl, hx⟩ := smV_of (List.all_eq_true.mp wd.sm v (hy v hv))
        exact ask_sm hx (by omega)
      have hL0 : (vs ++ ys).length ≤ 100 := by rw [List.length_append]; omega
      generalize upd (upd Hd pp (.lst ys)) pq (.lst (vs ++ ys)) = He at dB eq asB ⊢
      generalize vs ++ ys = L0 at eq asB hL0 ⊢
      refine ⟨(by show 1 ≤ sizeLine; decide), fun p1 np1 => ?_⟩
      have m1 := same_new np1 (.lst [.str "a"])
      have d1' := dB.same m1
      have q1 : DQ D (upd He p1 (.lst [.str "a"])) (.ref p1) (.list [.str "a"]) := .lst (dB.new np1) upd_same (.cons (.str _) .nil)
      generalize upd He p1 (.lst [.str "a"]) = He1 at m1 d1' q1 ⊢
      refine ⟨(by show 1 ≤ sizeLine; decide), fun p2 np2 => ?_⟩
      have m2 := same_new np2 (.tup [.str "a"])
      have d2' := d1'.same m2
      have q2 : DQ D (upd He1 p2 (.tup [.str "a"])) (.ref p2) (.tuple [.str "a"]) := .tup (d1'.new np2) upd_same (.cons (.str _) .nil)
      generalize upd He1 p2 (.tup [.str "a"]) = He2 at m2 d2' q2 ⊢
      refine ⟨(by show 3 ≤ sizeLine; decide), fun p3 np3 => ?_⟩
      have m3 := same_new np3 (.tup [.non, .str "a", .non])
      have d3' := d2'.same m3
      have q3 : DQ D (upd He2 p3 (.tup [.non, .str "a", .non])) (.ref p3) (.tuple [.none, .str "a", .none]) := .tup (d2'.new np3) upd_same (.cons .non (.cons (.str _) (.cons .non .nil)))
      generalize upd He2 p3 (.tup [.non, .str "a", .non]) = He3 at m3 d3' q3 ⊢
      refine fun p4 np4 => ?_
      have m4 := same_new np4 (.dK [])
      have d4' := d3'.same m4
      have q4 : DQ D (upd He3 p4 (.dK [])) (.ref p4) (.dict []) := .emp (d3'.new np4) upd_same
      generalize upd He3 p4 (.dK []) = He4 at m4 d4' q4 ⊢
      refine ⟨(by show 7 ≤ sizeLine; decide), fun p5 np5 => ?_⟩
      have m5 := same_new np5 (.lst [.non, .int 5, .bl true, .ref p1, .ref p2, .ref p3, .ref p4])
      refine ⟨pq, p5, _, _, rfl, rfl, (m1.trans (m2.trans (m3.trans (m4.trans m5)))) _ _ eq, upd_same, small (by show L0.length + 7 ≤ 1000; omega), fun p6 np6 => ?_⟩
      have m6 := same_new np6 (.lst (L0 ++ [.non, .int 5, .bl true, .ref p1, .ref p2, .ref p3, .ref p4]))
      have m56 := m5.trans m6
      have dF := d4'.same m56
      have ef := upd_same (H := upd He4 p5 (.lst [.non, .int 5, .bl true, .ref p1, .ref p2, .ref p3, .ref p4])) (a := p6) (o := .lst (L0 ++ [.non, .int 5, .bl true, .ref p1, .ref p2, .ref p3, .ref p4]))
      have allF : Asks D _ (L0 ++ [.non, .int 5, .bl true, .ref p1, .ref p2, .ref p3, .ref p4]) := Asks.app (asB.sameD (SameD.of (m1.trans (m2.trans (m3.trans (m4.trans m56))))))
        (Asks.cons (ask_dq .non rfl (by decide +kernel) (by decide +kernel) (by decide +kernel)) (Asks.cons (ask_dq (.int 5) rfl (by decide +kernel) (by decide +kernel) (by decide +kernel)) (Asks.cons (ask_dq (.bl true) rfl (by decide +kernel) (by decide +kernel) (by decide +kernel))
        (Asks.cons (ask_dq (dq_same (m2.trans (m3.trans (m4.trans m56))) q1) rfl (by decide +kernel) (by decide +kernel) (by decide +kernel)) (Asks.cons (ask_dq (dq_same (m3.trans (m4.trans m56)) q2) rfl (by decide +kernel) (by decide +kernel) (by decide +kernel))
        (Asks.cons (ask_dq (dq_same (m4.trans m56) q3) rfl (by decide +kernel) (by decide +kernel) (by decide +kernel)) (Asks.cons (ask_dq (dq_same m56 q4) rfl (by decide +kernel) (by decide +kernel) (by decide +kernel)) Asks.nil)))))))
      generalize upd (upd He4 p5 (.lst [.non, .int 5, .bl true, .ref p1, .ref p2, .ref p3, .ref p4])) p6 (.lst (L0 ++ [.non, .int 5, .bl true, .ref p1, .ref p2, .ref p3, .ref p4])) = Hf at dF ef allF ⊢
      generalize L0 ++ [V.non, .int 5, .bl true, .ref p1, .ref p2, .ref p3, .ref p4] = L at ef allF ⊢
      refine ⟨_, rfl, p6, rfl, ⟨_, SqL.of ef⟩, ?_⟩
      refine for_list (K := K) (a := p6) (xs := L) (fun j σ H' => ∃ (z8 z9 z10 : Option V), σ = [some (.ref a), some (.ref D.dk), some (.int (0 + i)), some (.str t.text), some (.ref p6), z5, z6, z7, z8, z9, z10] ∧ Same Hf H') ⟨z8, z9, z10, rfl, Same.refl _⟩ (fun j σ H' _ hp => by obtain ⟨_, _, _, _, sm⟩ := hp; exact SqL.of (sm _ _ ef)) (fun j v σ H' hv hp => ?_) (fun σ H' hp => ?_)
      · obtain ⟨z8, z9, z10, rfl, sm⟩ := hp
        obtain ⟨d, o, hd, hk, hg, hz, hdp⟩ := (allF v (List.mem_of_getElem? hv)).sameD (SameD.of sm)
        obtain ⟨o1, o2⟩ := res_ok o
        refine ⟨_, rfl, v, D, d, rfl, hd, hg, by omega, hdp, ?_⟩
        refine ⟨_, rfl, v, D, d, o, rfl, hd, hk, fun r H1 s1 r1 => ?_⟩
        have hd1 := dq_same s1 hd
        refine ⟨_, _, rfl, _, rfl, v, D, d, o, rfl, hd1, hk, fun r2 H2 s2 r2' => ?_⟩
        have hd2 := dq_same s2 hd1
        refine ⟨_, rfl, v, D, d, o, rfl, hd2, hk, fun r3 H3 s3 r3' => ?_⟩
        have hd3 := dq_same s3 hd2
        refine ⟨(by show 2 ≤ sizeLine; decide), fun pl npl => ?_⟩
        have n1 := same_new npl (.lst [r2, r3])
        refine ⟨_, rfl, _, rfl, (by show 2 ≤ sizeLine; decide), fun pm npm => ?_⟩
        have n2 := same_new npm (.lst [r, r])
        have n12 := n1.trans n2
        refine ⟨.ref pl, .ref pm, .list [resD o, resD o], rfl, .lst (SqL.of (n2 _ _ upd_same)) (.cons (dp_same (s3.trans n12) r2') (.cons (dp_same n12 r3') .nil)), .lst (SqL.of upd_same) (.cons (dp_same (s2.trans (s3.trans n12)) r1) (.cons (dp_same (s2.trans (s3.trans n12)) r1) .nil)), by simp only [PyData.depth, PyData.depthAll]; omega, by simp only [nar, narAll, o2]; rfl, fun H6 s6 => ?_⟩
        refine ⟨_, rfl, iteF ?_⟩
        have hd6 := dq_same (n12.trans s6) hd3
        refine ⟨_, rfl, v, D, d, rfl, hd6, hg, by omega, hdp, _, rfl, rfl, _, rfl, iteNS rfl ?_⟩
        exact ⟨_, _, _, rfl, sm.trans (s1.trans (s2.trans (s3.trans (n12.trans s6))))⟩
      · obtain ⟨z8, z9, z10, rfl, sm⟩ := hp
        exact ⟨_, _, _, _, _, _, _, _, _, c9, rfl, dF.same sm, by omega⟩
  · exact rfl
end
/-! ### what the top has left -/
theorem all_mk {l : PySem.W.OpenLaw} {w : World} {K : PySem.W.Frag} {h : Heap} {mg : Str → Option Value} {fa f1 f2 f3 f4 f5 f6 f7 f8 f9 f10 f11 f12 f13 f14 f15 f16 f17 f18 f19 f20 f21 C_BadText C_WalkError C_BadEdit C_BadEdits C_BadRow C_BadTree C_Rejected C_TooLarge i_BadText : Addr} (X : K.In h) (G : h.Ns mainGlobals mg) (hfa : mg "law" = some (.ref fa))
    {od1 an1 od2 an2 od3 an3 od4 an4 od5 an5 od6 an6 od7 an7 od8 an8 od9 an9 od10 an10 od11 an11 od12 an12 od13 an13 od14 an14 od15 an15 od16 an16 od17 an17 od18 an18 od19 an19 od20 an20 od21 an21 : Option Addr} {sl1 sl2 sl3 sl4 sl5 sl6 sl7 sl8 sl9 sl10 sl11 sl12 sl13 sl14 sl15 sl16 sl17 sl18 sl19 sl20 sl21 : Array (Option Value)}
    {oc1 kV1 dc1 pm1 cd1 ct1 oc2 kV2 dc2 pm2 cd2 ct2 oc3 kV3 dc3 pm3 cd3 ct3 oc4 kV4 dc4 pm4 cd4 ct4 oc5 kV5 dc5 pm5 cd5 ct5 oc6 kV6 dc6 pm6 cd6 ct6 oc7 kV7 dc7 pm7 cd7 ct7 oc8 kV8 dc8 pm8 cd8 ct8 oc9 kV9 dc9 pm9 cd9 ct9 oc10 kV10 dc10 pm10 cd10 ct10 oc11 kV11 dc11 pm11 cd11 ct11 oc12 kV12 dc12 pm12 cd12 ct12 oc13 kV13 dc13 pm13 cd13 ct13 oc14 kV14 dc14 pm14 cd14 ct14 oc15 kV15 dc15 pm15 cd15 ct15 oc16 kV16 dc16 pm16 cd16 ct16 oc17 kV17 dc17 pm17 cd17 ct17 oc18 kV18 dc18 pm18 cd18 ct18 oc19 kV19 dc19 pm19 cd19 ct19 oc20 kV20 dc20 pm20 cd20 ct20 oc21 kV21 dc21 pm21 cd21 ct21 : Value} {t1 : Tok}
    {nm_BadText q_BadText : Str} {N_BadText : Addr} {bs_BadText sub_BadText : List Value} {sn_BadText : List Str} {ab_BadText : Bool} {col_BadText : Option Bool} {dd_BadText : Option Addr} {m0_BadText m1_BadText m2_BadText m3_BadText m5_BadText : Option Value}  {oc_BadText dc_BadText pm_BadText cd_BadText ct_BadText : Value} {od_BadText an_BadText : Option Addr} {sl_BadText : Array (Option Value)}
    (a_BadText : PySem.W.nsIn K mainGlobals "BadText" = some (some (.ref C_BadText)))
    (a_WalkError : PySem.W.nsIn K mainGlobals "WalkError" = some (some (.ref C_WalkError)))
    (a_BadEdit : PySem.W.nsIn K mainGlobals "BadEdit" = some (some (.ref C_BadEdit)))
    (a_BadEdits : PySem.W.nsIn K mainGlobals "BadEdits" = some (some (.ref C_BadEdits)))
    (a_BadRow : PySem.W.nsIn K mainGlobals "BadRow" = some (some (.ref C_BadRow)))
    (a_BadTree : PySem.W.nsIn K mainGlobals "BadTree" = some (some (.ref C_BadTree)))
    (a_Rejected : PySem.W.nsIn K mainGlobals "Rejected" = some (some (.ref C_Rejected)))
    (a_TooLarge : PySem.W.nsIn K mainGlobals "TooLarge" = some (some (.ref C_TooLarge)))
    (x_BadText : K.lookup C_BadText = some (excClassObj nm_BadText q_BadText C_BadText N_BadText bs_BadText (.ref C_WalkError :: [.type "ValueError", .type "Exception", .type "BaseException", .type "object"]) true sn_BadText sub_BadText ab_BadText col_BadText dd_BadText m0_BadText m1_BadText m2_BadText m3_BadText m5_BadText "ValueError.__new__"))
    (sa_BadText : PySem.W.findIn K (.ref C_BadText) "__setattr__" = some (some (.builtin "object.__setattr__")))
    (ga_BadText : PySem.W.findIn K (.ref C_BadText) "__getattribute__" = some (some (.builtin "BaseException.__getattribute__")))
    (gg_BadText : PySem.W.findIn K (.ref C_BadText) "__getattr__" = some none)
    (nb_BadText : PySem.W.findIn K (.ref C_BadText) "index" = some none)
    (ii_BadText : PySem.W.findIn K (.ref C_BadText) "__init__" = some (some (.ref i_BadText)))
    (ti_BadText : PySem.W.typeIn K (.ref i_BadText) = some (.type "function"))
    (li_BadText : K.lookup i_BadText = some ⟨oc_BadText, od_BadText, .func (PySem.W.fnOf "__init__" "BadText.__init__" (iA_index ⟨27, 17, 27, 21⟩ ⟨27, 23, 27, 28⟩) (iB_index ⟨28, 8, 28, 12⟩ ⟨28, 8, 28, 18⟩ ⟨28, 21, 28, 26⟩ ⟨28, 8, 28, 26⟩) iS_index .none .none dc_BadText pm_BadText an_BadText cd_BadText ct_BadText), sl_BadText⟩)
    (ci_BadText : PySem.W.codeIn K cd_BadText "BadText.__init__" = true)
    (kC_BadText : PySem.W.keepIn K (.ref C_BadText) = true)
    (eC_BadText : PySem.W.subIn K (.ref C_BadText) (.type "BaseException") = some true)
    (tC_BadText : PySem.W.typeIn K (.ref C_BadText) = some (.type "type"))
    (hC_BadText : PySem.W.hasDictIn K C_BadText = true)
    (h1_BadText : PySem.W.findIn K (.ref C_BadText) "__class__" = some (some (.builtin "object.__class__")))
    (h2_BadText : PySem.W.specialIn K (.builtin "object.__class__") "__get__" = some (some (.builtin "getset_descriptor.__get__")))
    (h3_BadText : PySem.W.takesIn K (.builtin "object.__class__") = some true)
    (h4_BadText : PySem.W.mroIn K C_BadText (.type "object") = some true)
    (e1 : PySem.W.exmOne K (.ref C_BadText) (.ref C_WalkError) = some true)
    (xV1 : PySem.W.kitOne K (.ref C_BadText) (.type "ValueError") = some true)
    (xM1 : PySem.W.kitAny K (.ref C_BadText) [.ref C_BadEdit, .ref C_BadEdits, .ref C_BadRow, .ref C_BadTree, .ref C_Rejected, .ref C_TooLarge] = some false)
    (a1 : PySem.W.nsIn K mainGlobals "is_letter" = some (some (.ref f1)))
    (l1 : K.lookup f1 = some ⟨oc1, od1, .func (PySem.W.fnOf "is_letter" "is_letter" (defArgs s_is_letter) (defBody s_is_letter) (defScope s_is_letter) .none kV1 dc1 pm1 an1 cd1 ct1), sl1⟩)
    (c1 : PySem.W.codeIn K cd1 "is_letter" = true)
    (k1 : PySem.W.keepIn K (.ref f1) = true)
    (a2 : PySem.W.nsIn K mainGlobals "size_of" = some (some (.ref f2)))
    (l2 : K.lookup f2 = some ⟨oc2, od2, .func (PySem.W.fnOf "size_of" "size_of" (defArgs s_size_of) (defBody s_size_of) (defScope s_size_of) .none kV2 dc2 pm2 an2 cd2 ct2), sl2⟩)
    (c2 : PySem.W.codeIn K cd2 "size_of" = true)
    (k2 : PySem.W.keepIn K (.ref f2) = true)
    (a3 : PySem.W.nsIn K mainGlobals "sign_at" = some (some (.ref f3)))
    (l3 : K.lookup f3 = some ⟨oc3, od3, .func (PySem.W.fnOf "sign_at" "sign_at" (defArgs s_sign_at) (defBody s_sign_at) (defScope s_sign_at) .none kV3 dc3 pm3 an3 cd3 ct3), sl3⟩)
    (c3 : PySem.W.codeIn K cd3 "sign_at" = true)
    (k3 : PySem.W.keepIn K (.ref f3) = true)
    (a4 : PySem.W.nsIn K mainGlobals "read_tree" = some (some (.ref f4)))
    (l4 : K.lookup f4 = some ⟨oc4, od4, .func (PySem.W.fnOf "read_tree" "read_tree" (defArgs s_read_tree) (defBody s_read_tree) (defScope s_read_tree) .none kV4 dc4 pm4 an4 cd4 ct4), sl4⟩)
    (c4 : PySem.W.codeIn K cd4 "read_tree" = true)
    (k4 : PySem.W.keepIn K (.ref f4) = true)
    (a5 : PySem.W.nsIn K mainGlobals "read_left" = some (some (.ref f5)))
    (l5 : K.lookup f5 = some ⟨oc5, od5, .func (PySem.W.fnOf "read_left" "read_left" (defArgs s_read_left) (defBody s_read_left) (defScope s_read_left) .none kV5 dc5 pm5 an5 cd5 ct5), sl5⟩)
    (c5 : PySem.W.codeIn K cd5 "read_left" = true)
    (k5 : PySem.W.keepIn K (.ref f5) = true)
    (a6 : PySem.W.nsIn K mainGlobals "read_side" = some (some (.ref f6)))
    (l6 : K.lookup f6 = some ⟨oc6, od6, .func (PySem.W.fnOf "read_side" "read_side" (defArgs s_read_side) (defBody s_read_side) (defScope s_read_side) .none kV6 dc6 pm6 an6 cd6 ct6), sl6⟩)
    (c6 : PySem.W.codeIn K cd6 "read_side" = true)
    (k6 : PySem.W.keepIn K (.ref f6) = true)
    (a7 : PySem.W.nsIn K mainGlobals "parse_tree" = some (some (.ref f7)))
    (l7 : K.lookup f7 = some ⟨oc7, od7, .func (PySem.W.fnOf "parse_tree" "parse_tree" (defArgs s_parse_tree) (defBody s_parse_tree) (defScope s_parse_tree) .none kV7 dc7 pm7 an7 cd7 ct7), sl7⟩)
    (c7 : PySem.W.codeIn K cd7 "parse_tree" = true)
    (k7 : PySem.W.keepIn K (.ref f7) = true)
    (a8 : PySem.W.nsIn K mainGlobals "_law_deck" = some (some (.ref f8)))
    (l8 : K.lookup f8 = some ⟨oc8, od8, .func (PySem.W.fnOf "_law_deck" "_law_deck" (defArgs s__law_deck) (defBody s__law_deck) (defScope s__law_deck) .none kV8 dc8 pm8 an8 cd8 ct8), sl8⟩)
    (c8 : PySem.W.codeIn K cd8 "_law_deck" = true)
    (k8 : PySem.W.keepIn K (.ref f8) = true)
    (a9 : PySem.W.nsIn K mainGlobals "_law_next" = some (some (.ref f9)))
    (l9 : K.lookup f9 = some ⟨oc9, od9, .func (PySem.W.fnOf "_law_next" "_law_next" (defArgs s__law_next) (defBody s__law_next) (defScope s__law_next) .none kV9 dc9 pm9 an9 cd9 ct9), sl9⟩)
    (c9 : PySem.W.codeIn K cd9 "_law_next" = true)
    (k9 : PySem.W.keepIn K (.ref f9) = true)
    (a10 : PySem.W.nsIn K mainGlobals "_law_one" = some (some (.ref f10)))
    (l10 : K.lookup f10 = some ⟨oc10, od10, .func (PySem.W.fnOf "_law_one" "_law_one" (defArgs s__law_one) (defBody s__law_one) (defScope s__law_one) .none kV10 dc10 pm10 an10 cd10 ct10), sl10⟩)
    (c10 : PySem.W.codeIn K cd10 "_law_one" = true)
    (k10 : PySem.W.keepIn K (.ref f10) = true)
    (a11 : PySem.W.nsIn K mainGlobals "_law_same" = some (some (.ref f11)))
    (l11 : K.lookup f11 = some ⟨oc11, od11, .func (PySem.W.fnOf "_law_same" "_law_same" (defArgs s__law_same) (defBody s__law_same) (defScope s__law_same) .none kV11 dc11 pm11 an11 cd11 ct11), sl11⟩)
    (c11 : PySem.W.codeIn K cd11 "_law_same" = true)
    (k11 : PySem.W.keepIn K (.ref f11) = true)
    (a12 : PySem.W.nsIn K mainGlobals "_law_letters" = some (some (.ref f12)))
    (l12 : K.lookup f12 = some ⟨oc12, od12, .func (PySem.W.fnOf "_law_letters" "_law_letters" (defArgs s__law_letters) (defBody s__law_letters) (defScope s__law_letters) .none kV12 dc12 pm12 an12 cd12 ct12), sl12⟩)
    (c12 : PySem.W.codeIn K cd12 "_law_letters" = true)
    (k12 : PySem.W.keepIn K (.ref f12) = true)
    (a13 : PySem.W.nsIn K mainGlobals "_law_grown" = some (some (.ref f13)))
    (l13 : K.lookup f13 = some ⟨oc13, od13, .func (PySem.W.fnOf "_law_grown" "_law_grown" (defArgs s__law_grown) (defBody s__law_grown) (defScope s__law_grown) .none kV13 dc13 pm13 an13 cd13 ct13), sl13⟩)
    (c13 : PySem.W.codeIn K cd13 "_law_grown" = true)
    (k13 : PySem.W.keepIn K (.ref f13) = true)
    (a14 : PySem.W.nsIn K mainGlobals "_law_tree" = some (some (.ref f14)))
    (l14 : K.lookup f14 = some ⟨oc14, od14, .func (PySem.W.fnOf "_law_tree" "_law_tree" (defArgs s__law_tree) (defBody s__law_tree) (defScope s__law_tree) .none kV14 dc14 pm14 an14 cd14 ct14), sl14⟩)
    (c14 : PySem.W.codeIn K cd14 "_law_tree" = true)
    (k14 : PySem.W.keepIn K (.ref f14) = true)
    (a15 : PySem.W.nsIn K mainGlobals "_law_text" = some (some (.ref f15)))
    (l15 : K.lookup f15 = some ⟨oc15, od15, .func (PySem.W.fnOf "_law_text" "_law_text" (defArgs s__law_text) (defBody s__law_text) (defScope s__law_text) .none kV15 dc15 pm15 an15 cd15 ct15), sl15⟩)
    (c15 : PySem.W.codeIn K cd15 "_law_text" = true)
    (k15 : PySem.W.keepIn K (.ref f15) = true)
    (a16 : PySem.W.nsIn K mainGlobals "_law_bent" = some (some (.ref f16)))
    (l16 : K.lookup f16 = some ⟨oc16, od16, .func (PySem.W.fnOf "_law_bent" "_law_bent" (defArgs s__law_bent) (defBody s__law_bent) (defScope s__law_bent) .none kV16 dc16 pm16 an16 cd16 ct16), sl16⟩)
    (c16 : PySem.W.codeIn K cd16 "_law_bent" = true)
    (k16 : PySem.W.keepIn K (.ref f16) = true)
    (a17 : PySem.W.nsIn K mainGlobals "_law_read" = some (some (.ref f17)))
    (l17 : K.lookup f17 = some ⟨oc17, od17, .func (PySem.W.fnOf "_law_read" "_law_read" (defArgs s__law_read) (defBody s__law_read) (defScope s__law_read) .none kV17 dc17 pm17 an17 cd17 ct17), sl17⟩)
    (c17 : PySem.W.codeIn K cd17 "_law_read" = true)
    (k17 : PySem.W.keepIn K (.ref f17) = true)
    (a18 : PySem.W.nsIn K mainGlobals "_law_told" = some (some (.ref f18)))
    (l18 : K.lookup f18 = some ⟨oc18, od18, .func (PySem.W.fnOf "_law_told" "_law_told" (defArgs s__law_told) (defBody s__law_told) (defScope s__law_told) .none kV18 dc18 pm18 an18 cd18 ct18), sl18⟩)
    (c18 : PySem.W.codeIn K cd18 "_law_told" = true)
    (k18 : PySem.W.keepIn K (.ref f18) = true)
    (a19 : PySem.W.nsIn K mainGlobals "_law_due" = some (some (.ref f19)))
    (l19 : K.lookup f19 = some ⟨oc19, od19, .func (PySem.W.fnOf "_law_due" "_law_due" (defArgs s__law_due) (defBody s__law_due) (defScope s__law_due) .none kV19 dc19 pm19 an19 cd19 ct19), sl19⟩)
    (c19 : PySem.W.codeIn K cd19 "_law_due" = true)
    (k19 : PySem.W.keepIn K (.ref f19) = true)
    (a20 : PySem.W.nsIn K mainGlobals "_law_written" = some (some (.ref f20)))
    (l20 : K.lookup f20 = some ⟨oc20, od20, .func (PySem.W.fnOf "_law_written" "_law_written" (defArgs s__law_written) (defBody s__law_written) (defScope s__law_written) .none kV20 dc20 pm20 an20 cd20 ct20), sl20⟩)
    (c20 : PySem.W.codeIn K cd20 "_law_written" = true)
    (k20 : PySem.W.keepIn K (.ref f20) = true)
    (a21 : PySem.W.nsIn K mainGlobals "law" = some (some (.ref f21)))
    (l21 : K.lookup f21 = some ⟨oc21, od21, .func (PySem.W.fnOf "law" "law" (defArgs s_law) (defBody s_law) (defScope s_law) .none kV21 dc21 pm21 an21 cd21 ct21), sl21⟩)
    (c21 : PySem.W.codeIn K cd21 "law" = true)
    (k21 : PySem.W.keepIn K (.ref f21) = true)
    (z1 : PySem.W.nsIn K mainGlobals "len" = some none)
    (z2 : PySem.W.nsIn K mainGlobals "isinstance" = some none)
    (z3 : PySem.W.nsIn K mainGlobals "list" = some none)
    (z4 : PySem.W.nsIn K mainGlobals "tuple" = some none)
    (z5 : PySem.W.nsIn K mainGlobals "str" = some none)
    (z6 : PySem.W.nsIn K mainGlobals "int" = some none)
    (z7 : PySem.W.nsIn K mainGlobals "bool" = some none)
    (z8 : PySem.W.nsIn K mainGlobals "range" = some none)
    (z9 : PySem.W.nsIn K mainGlobals "sorted" = some none)
    (z10 : PySem.W.nsIn K mainGlobals "abs" = some none)
    (z11 : PySem.W.nsIn K mainGlobals "repr" = some none)
    (z12 : PySem.W.nsIn K mainGlobals "enumerate" = some none)
    (z13 : PySem.W.nsIn K mainGlobals "ValueError" = some none)
    (v1 : PySem.W.nsIn K mainGlobals "MAX_NODES" = some (some (.int 12 t1)))
    : ∀ (base : Heap) (H : Hp) (s : Shared) (a : Addr) (ns : List Int), K.In base → base.Ns mainGlobals mg → Env0 l.prog w K mg base callerA [] s H → SqL K H a (ns.map V.int) → ns.length ≤ 63 →
      codeAny (model l.prog w) callerA (.call (.ref fa) ⟨[.ref a], []⟩) (CR CX0 [] l.prog w H s (fun v _ => v = .bl true) fun _ _ _ => False) s := by
  intro base H s a ns _ _ en hS hn
  have e := hfa.symm.trans (PySem.W.mg_of X G a21)
  cases e
  have gC_BadText := PySem.W.mg_of X G a_BadText
  have gC_WalkError := PySem.W.mg_of X G a_WalkError
  have gC_BadEdit := PySem.W.mg_of X G a_BadEdit
  have gC_BadEdits := PySem.W.mg_of X G a_BadEdits
  have gC_BadRow := PySem.W.mg_of X G a_BadRow
  have gC_BadTree := PySem.W.mg_of X G a_BadTree
  have gC_Rejected := PySem.W.mg_of X G a_Rejected
  have gC_TooLarge := PySem.W.mg_of X G a_TooLarge
  have F1 := fun_mk (st := s_is_letter) l1 c1 k1
  have g1 := PySem.W.mg_of X G a1
  have F2 := fun_mk (st := s_size_of) l2 c2 k2
  have g2 := PySem.W.mg_of X G a2
  have F3 := fun_mk (st := s_sign_at) l3 c3 k3
  have g3 := PySem.W.mg_of X G a3
  have F4 := fun_mk (st := s_read_tree) l4 c4 k4
  have g4 := PySem.W.mg_of X G a4
  have F5 := fun_mk (st := s_read_left) l5 c5 k5
  have g5 := PySem.W.mg_of X G a5
  have F6 := fun_mk (st := s_read_side) l6 c6 k6
  have g6 := PySem.W.mg_of X G a6
  have F7 := fun_mk (st := s_parse_tree) l7 c7 k7
  have g7 := PySem.W.mg_of X G a7
  have F8 := fun_mk (st := s__law_deck) l8 c8 k8
  have g8 := PySem.W.mg_of X G a8
  have F9 := fun_mk (st := s__law_next) l9 c9 k9
  have g9 := PySem.W.mg_of X G a9
  have F10 := fun_mk (st := s__law_one) l10 c10 k10
  have g10 := PySem.W.mg_of X G a10
  have F11 := fun_mk (st := s__law_same) l11 c11 k11
  have g11 := PySem.W.mg_of X G a11
  have F12 := fun_mk (st := s__law_letters) l12 c12 k12
  have g12 := PySem.W.mg_of X G a12
  have F13 := fun_mk (st := s__law_grown) l13 c13 k13
  have g13 := PySem.W.mg_of X G a13
  have F14 := fun_mk (st := s__law_tree) l14 c14 k14
  have g14 := PySem.W.mg_of X G a14
  have F15 := fun_mk (st := s__law_text) l15 c15 k15
  have g15 := PySem.W.mg_of X G a15
  have F16 := fun_mk (st := s__law_bent) l16 c16 k16
  have g16 := PySem.W.mg_of X G a16
  have F17 := fun_mk (st := s__law_read) l17 c17 k17
  have g17 := PySem.W.mg_of X G a17
  have F18 := fun_mk (st := s__law_told) l18 c18 k18
  have g18 := PySem.W.mg_of X G a18
  have F19 := fun_mk (st := s__law_due) l19 c19 k19
  have g19 := PySem.W.mg_of X G a19
  have F20 := fun_mk (st := s__law_written) l20 c20 k20
  have g20 := PySem.W.mg_of X G a20
  have F21 := fun_mk (st := s_law) l21 c21 k21
  have m_len := PySem.W.mg_none_of X G z1
  have m_isinstance := PySem.W.mg_none_of X G z2
  have m_list := PySem.W.mg_none_of X G z3
  have m_tuple := PySem.W.mg_none_of X G z4
  have m_str := PySem.W.mg_none_of X G z5
  have m_int := PySem.W.mg_none_of X G z6
  have m_bool := PySem.W.mg_none_of X G z7
  have m_range := PySem.W.mg_none_of X G z8
  have m_sorted := PySem.W.mg_none_of X G z9
  have m_abs := PySem.W.mg_none_of X G z10
  have m_repr := PySem.W.mg_none_of X G z11
  have m_enumerate := PySem.W.mg_none_of X G z12
  have m_ValueError := PySem.W.mg_none_of X G z13
  have m1 := PySem.W.mg_of X G v1
  have b1 := F1.binds (ps := ["value"]) fun _ _ _ _ _ _ us hl => match us, hl with | [_], _ => rfl
  have b2 := F2.binds (ps := ["tree"]) fun _ _ _ _ _ _ us hl => match us, hl with | [_], _ => rfl
  have b3 := F3.binds (ps := ["text", "at"]) fun _ _ _ _ _ _ us hl => match us, hl with | [_, _], _ => rfl
  have b4 := F4.binds (ps := ["text", "at", "room"]) fun _ _ _ _ _ _ us hl => match us, hl with | [_, _, _], _ => rfl
  have b5 := F5.binds (ps := ["text", "at", "room"]) fun _ _ _ _ _ _ us hl => match us, hl with | [_, _, _], _ => rfl
  have b6 := F6.binds (ps := ["text", "at", "room"]) fun _ _ _ _ _ _ us hl => match us, hl with | [_, _, _], _ => rfl
  have b7 := F7.binds (ps := ["text"]) fun _ _ _ _ _ _ us hl => match us, hl with | [_], _ => rfl
  have b8 := F8.binds (ps := ["_law_script"]) fun _ _ _ _ _ _ us hl => match us, hl with | [_], _ => rfl
  have b9 := F9.binds (ps := ["_law_deck_here", "_law_many"]) fun _ _ _ _ _ _ us hl => match us, hl with | [_, _], _ => rfl
  have b10 := F10.binds (ps := ["_law_deck_here", "_law_items"]) fun _ _ _ _ _ _ us hl => match us, hl with | [_, _], _ => rfl
  have b11 := F11.binds (ps := ["_law_found", "_law_due_here"]) fun _ _ _ _ _ _ us hl => match us, hl with | [_, _], _ => rfl
  have b12 := F12.binds (ps := ["_law_deck_here", "_law_size"]) fun _ _ _ _ _ _ us hl => match us, hl with | [_, _], _ => rfl
  have b13 := F13.binds (ps := ["_law_deck_here", "_law_size", "_law_way", "_law_letters_here"]) fun _ _ _ _ _ _ us hl => match us, hl with | [_, _, _, _], _ => rfl
  have b14 := F14.binds (ps := ["_law_deck_here", "_law_limit"]) fun _ _ _ _ _ _ us hl => match us, hl with | [_, _], _ => rfl
  have b15 := F15.binds (ps := ["_law_tree_here"]) fun _ _ _ _ _ _ us hl => match us, hl with | [_], _ => rfl
  have b16 := F16.binds (ps := ["_law_deck_here", "_law_text_here"]) fun _ _ _ _ _ _ us hl => match us, hl with | [_, _], _ => rfl
  have b17 := F17.binds (ps := ["_law_text_here"]) fun _ _ _ _ _ _ us hl => match us, hl with | [_], _ => rfl
  have b18 := F18.binds (ps := ["_law_value"]) fun _ _ _ _ _ _ us hl => match us, hl with | [_], _ => rfl
  have b19 := F19.binds (ps := ["_law_value"]) fun _ _ _ _ _ _ us hl => match us, hl with | [_], _ => rfl
  have b20 := F20.binds (ps := []) fun _ _ _ _ _ _ us hl => match us, hl with | [], _ => rfl
  have E_BadText : Err_index K mg "ValueError.__new__" veT "BadText" "BadText.__init__" C_BadText i_BadText :=
    { gC := gC_BadText, nd := by decide +kernel, cls := ⟨nm_BadText, q_BadText, N_BadText, bs_BadText, _, sn_BadText, sub_BadText, ab_BadText, col_BadText, dd_BadText, m0_BadText, m1_BadText, m2_BadText, m3_BadText, m5_BadText, x_BadText, by first | rfl | decide +kernel⟩, sa := sa_BadText, ga := ga_BadText, gg := gg_BadText, noN := nb_BadText, iC := ii_BadText, tC := ti_BadText, kC := kC_BadText, exC := eC_BadText, tyC := tC_BadText, hdC := hC_BadText,
      fn := ⟨_, _, _, _, _, _, _, _, _, _, _, _, _, _, li_BadText, ci_BadText⟩ }
  have X_BadText : ExcC K C_BadText := ⟨ga_BadText, gg_BadText, eC_BadText, hC_BadText, h1_BadText, h2_BadText, h3_BadText, h4_BadText⟩
  have M : Mgs mg := ⟨m_len, m_isinstance, m_list, m_tuple, m_str, m_int, m_bool, m_range⟩
  have x11 : PySem.W.kitOne K (.ref C_BadText) (.ref C_BadText) = some true := by unfold PySem.W.kitOne; rw [if_pos (by simp)]
  have EC : ErrC K mg C_BadText := ⟨X_BadText, gC_BadText, ⟨_, gC_WalkError, e1⟩, xV1, x11, m_ValueError, ⟨_, _, _, _, _, _, gC_BadEdit, gC_BadEdits, gC_BadRow, gC_BadTree, gC_Rejected, gC_TooLarge, xM1⟩⟩
  have Dis_letter : Df l.prog w K mg base 1 "is_letter" ["value"] spLow := ⟨f1, _, ok_low (k := 0) F1 M, b1, k1, g1⟩
  have Dsize_of : Df l.prog w K mg base 20 "size_of" ["tree"] (spSz 20) := ⟨f2, _, ok_size F2 b2 g2 20, b2, k2, g2⟩
  have Dsign_at : Df l.prog w K mg base 1 "sign_at" ["text", "at"] spSgn := ⟨f3, _, ok_sign (k := 0) F3, b3, k3, g3⟩
  have Dread_tree : DfX l.prog w K mg base 59 "read_tree" ["text", "at", "room"] (spRead C_BadText 13) := ⟨f4, _, ok_reads F4 b4 g4 F6 b6 g6 F5 b5 g5 M E_BadText Dsign_at Dis_letter Dsize_of 13, b4, k4, g4⟩
  have Dparse_tree : DfX l.prog w K mg base 60 "parse_tree" ["text"] (spParse K C_BadText) := ⟨f7, _, ok_parse F7 M m1 E_BadText Dread_tree, b7, k7, g7⟩
  have D_law_deck : Df l.prog w K mg base 1 "_law_deck" ["_law_script"] (spDeck K) := ⟨f8, _, ok_deck (k := 0) F8 m_len m_abs m_int, b8, k8, g8⟩
  have D_law_next : Df l.prog w K mg base 1 "_law_next" ["_law_deck_here", "_law_many"] spNext := ⟨f9, _, ok_next (k := 0) F9 m_len, b9, k9, g9⟩
  have D_law_one : Df l.prog w K mg base 2 "_law_one" ["_law_deck_here", "_law_items"] spOne := ⟨f10, _, ok_one F10 M D_law_next, b10, k10, g10⟩
  have D_law_same : Df l.prog w K mg base 20 "_law_same" ["_law_found", "_law_due_here"] (spSame K 20) := ⟨f11, _, ok_same F11 b11 g11 M 20, b11, k11, g11⟩
  have D_law_letters : Df l.prog w K mg base 2 "_law_letters" ["_law_deck_here", "_law_size"] spLett := ⟨f12, _, ok_lett (k := 1) F12 D_law_next.ok D_law_next.b D_law_next.kp D_law_next.g M m_sorted, b12, k12, g12⟩
  have D_law_grown : Df l.prog w K mg base 28 "_law_grown" ["_law_deck_here", "_law_size", "_law_way", "_law_letters_here"] (spGrown 27) := ⟨f13, _, ok_grown F13 b13 g13 D_law_next.ok D_law_next.b D_law_next.kp D_law_next.g 27, b13, k13, g13⟩
  have D_law_tree : Df l.prog w K mg base 29 "_law_tree" ["_law_deck_here", "_law_limit"] spTree := ⟨f14, _, ok_tree F14 D_law_next.ok D_law_next.b D_law_next.kp D_law_next.g D_law_letters.ok D_law_letters.b D_law_letters.kp D_law_letters.g D_law_grown.ok D_law_grown.b D_law_grown.kp D_law_grown.g, b14, k14, g14⟩
  have D_law_text : Df l.prog w K mg base 20 "_law_text" ["_law_tree_here"] (spTextL 20) := ⟨f15, _, ok_ltext F15 b15 g15 20, b15, k15, g15⟩
  have D_law_bent : Df l.prog w K mg base 3 "_law_bent" ["_law_deck_here", "_law_text_here"] spBent := ⟨f16, _, ok_bent F16 M D_law_next D_law_one, b16, k16, g16⟩
  have D_law_read : Df l.prog w K mg base 1 "_law_read" ["_law_text_here"] (spReadL K) := ⟨f17, _, ok_lread (k := 0) F17 M m_enumerate, b17, k17, g17⟩
  have D_law_due : Df l.prog w K mg base 2 "_law_due" ["_law_value"] (spAns K) := ⟨f19, _, ok_due (k := 0) F19 M D_law_read, b19, k19, g19⟩
  have D_law_told : Df l.prog w K mg base 61 "_law_told" ["_law_value"] (spAns K) := ⟨f18, _, ok_told F18 E_BadText EC M Dparse_tree, b18, k18, g18⟩
  have D_law_written : Df l.prog w K mg base 1 "_law_written" [] spWritten := ⟨f20, _, ok_written (k := 0) F20 M, b20, k20, g20⟩
  exact run_law F21 (.of_eq rfl) en hS M m_repr D_law_deck D_law_same D_law_tree D_law_next D_law_one D_law_text D_law_bent D_law_written D_law_due D_law_told
theorem walk_at {l : PySem.W.OpenLaw} {q : Program} {loose : List Str} {XP : (Str → Option Value) → Heap → Prop} {YP : World → Heap → Prop} {d : DefRec} {K : Params → PySem.W.Frag} (most : l.most = some 63) (noDf : d.params.defaults = [])
    (inK : ∀ (w : World) (h : Heap), YP w h → (K w.params).In h)
    (F : ∀ (w : World) (mg : Str → Option Value) (fa : Addr) (h : Heap), (K w.params).In h → h.Ns mainGlobals mg → mg d.name = some (.ref fa) →
      ∀ (base : Heap) (H : Hp) (s : Shared) (a : Addr) (ns : List Int), (K w.params).In base → base.Ns mainGlobals mg → Env0 l.prog w (K w.params) mg base callerA [] s H → SqL (K w.params) H a (ns.map V.int) → ns.length ≤ 63 →
        codeAny (model l.prog w) callerA (.call (.ref fa) ⟨[.ref a], []⟩) (CR CX0 [] l.prog w H s (fun v _ => v = .bl true) fun _ _ _ => False) s) :
    PySem.W.WalkO q loose XP YP l.row.toRowW d [] (fun f vs => PySem.call f vs) := by
  refine Att.attach_call most noDf ?_
  intro w s₀ s₁ mg mb fa o pm cd doc a vs ns G Y ho hd hcd hmg hobj hints hlen hg
  exact law_at (inK w _ Y) G.T.g G.T.b G.T.builtins G.T.nolimit hg hobj hints (Nat.le_trans hlen (by decide)) fun base H h1 h2 en hS => F w mg fa _ (inK w _ Y) G.T.g hmg base H s₁ a ns h1 h2 en hS hlen
end Tw
open PySem PySem.W PyProof.Rows
set_option maxRecDepth 100000 in
set_option maxHeartbeats 0 in
theorem PySem.Challenge.cw_treewalks_k72_other_texts_of_trees_holds : PySem.Challenge.rw_treewalks_k72_other_texts_of_trees.Holds := by
  w_on; o_law; k_head; (case hw => w_witness2)
  k_fill
  refine Tw.walk_at (l := PySem.Challenge.rw_treewalks_k72_other_texts_of_trees) rfl rfl (fun w h Y => by first | exact PySem.W.kIn_of Y | exact PySem.W.km_in_of Y) ?F
  case F =>
    intro w mg fa h KX G hmg
    refine' Tw.all_mk KX G hmg ?a_BadText ?a_WalkError ?a_BadEdit ?a_BadEdits ?a_BadRow ?a_BadTree ?a_Rejected ?a_TooLarge ?x_BadText ?sa_BadText ?ga_BadText ?gg_BadText ?nb_BadText ?ii_BadText ?ti_BadText ?li_BadText ?ci_BadText ?kC_BadText ?eC_BadText ?tC_BadText ?hC_BadText ?h1_BadText ?h2_BadText ?h3_BadText ?h4_BadText ?e1 ?xV1 ?xM1 ?a1 ?l1 ?c1 ?k1 ?a2 ?l2 ?c2 ?k2 ?a3 ?l3 ?c3 ?k3 ?a4 ?l4 ?c4 ?k4 ?a5 ?l5 ?c5 ?k5 ?a6 ?l6 ?c6 ?k6 ?a7 ?l7 ?c7 ?k7 ?a8 ?l8 ?c8 ?k8 ?a9 ?l9 ?c9 ?k9 ?a10 ?l10 ?c10 ?k10 ?a11 ?l11 ?c11 ?k11 ?a12 ?l12 ?c12 ?k12 ?a13 ?l13 ?c13 ?k13 ?a14 ?l14 ?c14 ?k14 ?a15 ?l15 ?c15 ?k15 ?a16 ?l16 ?c16 ?k16 ?a17 ?l17 ?c17 ?k17 ?a18 ?l18 ?c18 ?k18 ?a19 ?l19 ?c19 ?k19 ?a20 ?l20 ?c20 ?k20 ?a21 ?l21 ?c21 ?k21 ?z1 ?z2 ?z3 ?z4 ?z5 ?z6 ?z7 ?z8 ?z9 ?z10 ?z11 ?z12 ?z13 ?v1
    (case a_BadText => k_is)
    (case a_WalkError => k_is)
    (case a_BadEdit => k_is)
    (case a_BadEdits => k_is)
    (case a_BadRow => k_is)
    (case a_BadTree => k_is)
    (case a_Rejected => k_is)
    (case a_TooLarge => k_is)
    (case x_BadText => k_is)
    (case sa_BadText => k_is)
    (case ga_BadText => k_is)
    (case gg_BadText => k_is)
    (case nb_BadText => k_is)
    (case ii_BadText => k_is)
    (case ti_BadText => k_is)
    (case li_BadText => k_is)
    (case ci_BadText => k_is)
    (case kC_BadText => k_is)
    (case eC_BadText => k_is)
    (case tC_BadText => k_is)
    (case hC_BadText => k_is)
    (case h1_BadText => k_is)
    (case h2_BadText => k_is)
    (case h3_BadText => k_is)
    (case h4_BadText => k_is)
    (case e1 => first | k_is | rfl | decide +kernel)
    (case xV1 => first | k_is | rfl | decide +kernel)
    (case xM1 => first | k_is | rfl | decide +kernel)
    (case a1 => k_is)
    (case l1 => k_is)
    (case c1 => k_is)
    (case k1 => k_is)
    (case a2 => k_is)
    (case l2 => k_is)
    (case c2 => k_is)
    (case k2 => k_is)
    (case a3 => k_is)
    (case l3 => k_is)
    (case c3 => k_is)
    (case k3 => k_is)
    (case a4 => k_is)
    (case l4 => k_is)
    (case c4 => k_is)
    (case k4 => k_is)
    (case a5 => k_is)
    (case l5 => k_is)
    (case c5 => k_is)
    (case k5 => k_is)
    (case a6 => k_is)
    (case l6 => k_is)
    (case c6 => k_is)
    (case k6 => k_is)
    (case a7 => k_is)
    (case l7 => k_is)
    (case c7 => k_is)
    (case k7 => k_is)
    (case a8 => k_is)
    (case l8 => k_is)
    (case c8 => k_is)
    (case k8 => k_is)
    (case a9 => k_is)
    (case l9 => k_is)
    (case c9 => k_is)
    (case k9 => k_is)
    (case a10 => k_is)
    (case l10 => k_is)
    (case c10 => k_is)
    (case k10 => k_is)
    (case a11 => k_is)
    (case l11 => k_is)
    (case c11 => k_is)
    (case k11 => k_is)
    (case a12 => k_is)
    (case l12 => k_is)
    (case c12 => k_is)
    (case k12 => k_is)
    (case a13 => k_is)
    (case l13 => k_is)
    (case c13 => k_is)
    (case k13 => k_is)
    (case a14 => k_is)
    (case l14 => k_is)
    (case c14 => k_is)
    (case k14 => k_is)
    (case a15 => k_is)
    (case l15 => k_is)
    (case c15 => k_is)
    (case k15 => k_is)
    (case a16 => k_is)
    (case l16 => k_is)
    (case c16 => k_is)
    (case k16 => k_is)
    (case a17 => k_is)
    (case l17 => k_is)
    (case c17 => k_is)
    (case k17 => k_is)
    (case a18 => k_is)
    (case l18 => k_is)
    (case c18 => k_is)
    (case k18 => k_is)
    (case a19 => k_is)
    (case l19 => k_is)
    (case c19 => k_is)
    (case k19 => k_is)
    (case a20 => k_is)
    (case l20 => k_is)
    (case c20 => k_is)
    (case k20 => k_is)
    (case a21 => k_is)
    (case l21 => k_is)
    (case c21 => k_is)
    (case k21 => k_is)
    (case z1 => k_is)
    (case z2 => k_is)
    (case z3 => k_is)
    (case z4 => k_is)
    (case z5 => k_is)
    (case z6 => k_is)
    (case z7 => k_is)
    (case z8 => k_is)
    (case z9 => k_is)
    (case z10 => k_is)
    (case z11 => k_is)
    (case z12 => k_is)
    (case z13 => k_is)
    (case v1 => k_is)
