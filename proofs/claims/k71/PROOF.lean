import PyProof.Rows.All
import Wide.All
import OpenK.AllK
import Wide.FinOn
import HandS.ForMost
import HandS.ForExc
import HandS.Wide
import HandS.IsInst
import HandS.Flow
import HandS.FStrTup
import HandS.FStr
import HandS.NoneIn
import HandS.TupAny
import HandS.Style
import HandS.TryMany
import HandS.ExcIs
import HandS.ExcField
import HandS.ExcOwn
import KE.KExcInit
import KE.KExcIs
import HandS.Walk
import HandS.Zip
import KE.GoesZip
import KE.GoesMore
import HandS.Sort
import HandS.DictComp
import KE.KSortTupG
import KE.KSortTupUse
import PySem.Challenge.RW_treewalks_k71_texts_of_trees
set_option Elab.async false
set_option maxRecDepth 100000
set_option maxHeartbeats 4000000
namespace Tw
open PySem PySem.Spec PyProof.Rows L2
/-! ### trees as data -/
inductive T where
  | nil
  | node (l : T) (x : Str) (r : T)
def T.size : T → Nat
  | .nil => 0
  | .node l _ r => l.size + 1 + r.size
def T.deep : T → Nat
  | .nil => 0
  | .node l _ r => 1 + max l.deep r.deep
def T.mir : T → T
  | .nil => .nil
  | .node l x r => .node r.mir x l.mir
def T.data : T → PyData
  | .nil => .none
  | .node l x r => .tuple [l.data, .str x, r.data]
theorem T.deep_le : ∀ t : T, t.deep ≤ t.size
  | .nil => Nat.le_refl _
  | .node l _ r => by
    have h1 := l.deep_le
    have h2 := r.deep_le
    show 1 + max l.deep r.deep ≤ l.size + 1 + r.size
    omega
theorem T.mir_size : ∀ t : T, t.mir.size = t.size
  | .nil => rfl
  | .node l _ r => by
    have h1 := l.mir_size
    have h2 := r.mir_size
    show r.mir.size + 1 + l.mir.size = l.size + 1 + r.size
    omega
/-- the tree t lies at v -/
inductive TreeAt (H : Hp) : V → T → Prop
  | nil : TreeAt H .non .nil
  | node {a : Addr} {l r : V} {x : Str} {tl tr : T} : H a = some (.tup [l, .str x, r]) → TreeAt H l tl → TreeAt H r tr → TreeAt H (.ref a) (.node tl x tr)
/-- tuples stand still -/
def KeepT (H H' : Hp) : Prop := ∀ b xs, H b = some (.tup xs) → H' b = some (.tup xs)
theorem KeepT.refl (H : Hp) : KeepT H H := fun _ _ h => h
theorem KeepT.trans {H H1 H2 : Hp} (a : KeepT H H1) (b : KeepT H1 H2) : KeepT H H2 := fun c xs h => b c xs (a c xs h)
theorem Same.keepT {H H' : Hp} (h : Same H H') : KeepT H H' := fun b xs e => h b _ e
theorem TreeAt.keep {H H' : Hp} (k : KeepT H H') {v : V} {t : T} (h : TreeAt H v t) : TreeAt H' v t := by
  induction h with
  | nil => exact .nil
  | node e _ _ h1 h2 => exact .node (k _ _ e) h1 h2
theorem TreeAt.same {H H' : Hp} (k : Same H H') {v : V} {t : T} (h : TreeAt H v t) : TreeAt H' v t := h.keep (Tw.Same.keepT k)
theorem TreeAt.dp {K : PySem.W.Frag} {H : Hp} {v : V} {t : T} (h : TreeAt H v t) : Dp K H v t.data := by
  induction h with
  | nil => exact .non
  | node e _ _ h1 h2 => exact .tup (SqT.of e) (.cons h1 (.cons (.str _) (.cons h2 .nil)))
theorem TreeAt.inv {H : Hp} {v : V} {t : T} (h : TreeAt H v t) : (v = .non ∧ t = .nil) ∨ ∃ a l r x tl tr, v = .ref a ∧ t = .node tl x tr ∧ H a = some (.tup [l, .str x, r]) ∧ TreeAt H l tl ∧ TreeAt H r tr := by
  cases h with
  | nil => exact .inl ⟨rfl, rfl⟩
  | node e h1 h2 => exact .inr ⟨_, _, _, _, _, _, rfl, rfl, e, h1, h2⟩
theorem same_new {H : Hp} {p : Addr} (h : H p = none) (o : HO) : Same H (upd H p o) := fun b u q => by rw [upd_ne (ne_of_none q h)]; exact q
theorem small {n : Nat} (h : n ≤ 1000) : n ≤ sizeLine := Nat.le_of_lt (small1000 h)
/-- a def that stands at a name, with its promise -/
structure Df (P : Program) (w : World) (K : PySem.W.Frag) (mg : Str → Option Value) (base : Heap) (k : Nat) (nm : Str) (ps : List Str) (sp : Sp) where
  f : Addr
  fd : FuncData
  ok : FnOk P w K mg base CX0 k f fd ps sp
  b : Binds K fd ps []
  kp : PySem.W.keepIn K (.ref f) = true
  g : mg nm = some (.ref f)
/-! ### the text by places -/
def top (i : Nat) : Stmt := PySem.Challenge.pw_treewalks_k71_texts_of_trees.main.body.getD i (.Pass ⟨0, 0, 0, 0⟩)
abbrev s_mirrored : Stmt := top 1
abbrev s_tree_text : Stmt := top 3
abbrev s_side_text : Stmt := top 4
abbrev s__law_deck : Stmt := top 6
abbrev s__law_next : Stmt := top 7
abbrev s__law_one : Stmt := top 8
abbrev s__law_same : Stmt := top 9
abbrev s__law_letters : Stmt := top 10
abbrev s__law_grown : Stmt := top 11
abbrev s__law_tree : Stmt := top 12
abbrev s__law_text : Stmt := top 13
abbrev s_law : Stmt := top 14
theorem sc_mirrored : FnScope ["tree", "left", "label", "right"] ["tree"] (defScope s_mirrored) := ⟨rfl, rfl, rfl, by decide +kernel, rfl, by decide +kernel, by decide +kernel⟩
theorem sc_tree_text : FnScope ["tree", "left", "label", "right"] ["tree"] (defScope s_tree_text) := ⟨rfl, rfl, rfl, by decide +kernel, rfl, by decide +kernel, by decide +kernel⟩
theorem sc_side_text : FnScope ["side"] ["side"] (defScope s_side_text) := ⟨rfl, rfl, rfl, by decide +kernel, rfl, by decide +kernel, by decide +kernel⟩
theorem sc__law_deck : FnScope ["_law_script", "_law_cell", "_law_cells"] ["_law_script"] (defScope s__law_deck) := ⟨rfl, rfl, rfl, by decide +kernel, rfl, by decide +kernel, by decide +kernel⟩
theorem sc__law_next : FnScope ["_law_deck_here", "_law_many", "_law_cells", "_law_rests", "_law_count", "_law_index", "_law_digit", "_law_mixed"] ["_law_deck_here", "_law_many"] (defScope s__law_next) := ⟨rfl, rfl, rfl, by decide +kernel, rfl, by decide +kernel, by decide +kernel⟩
theorem sc__law_one : FnScope ["_law_deck_here", "_law_items"] ["_law_deck_here", "_law_items"] (defScope s__law_one) := ⟨rfl, rfl, rfl, by decide +kernel, rfl, by decide +kernel, by decide +kernel⟩
theorem sc__law_same : FnScope ["_law_found", "_law_due", "_law_k"] ["_law_found", "_law_due"] (defScope s__law_same) := ⟨rfl, rfl, rfl, by decide +kernel, rfl, by decide +kernel, by decide +kernel⟩
theorem sc__law_letters : FnScope ["_law_deck_here", "_law_size", "_law_way", "_law_some", "_law_k", "_law_found"] ["_law_deck_here", "_law_size"] (defScope s__law_letters) := ⟨rfl, rfl, rfl, by decide +kernel, rfl, by decide +kernel, by decide +kernel⟩
theorem sc__law_grown : FnScope ["_law_deck_here", "_law_size", "_law_way", "_law_letters_here", "_law_many", "_law_left"] ["_law_deck_here", "_law_size", "_law_way", "_law_letters_here"] (defScope s__law_grown) := ⟨rfl, rfl, rfl, by decide +kernel, rfl, by decide +kernel, by decide +kernel⟩
theorem sc__law_tree : FnScope ["_law_deck_here", "_law_limit", "_law_size", "_law_way"] ["_law_deck_here", "_law_limit"] (defScope s__law_tree) := ⟨rfl, rfl, rfl, by decide +kernel, rfl, by decide +kernel, by decide +kernel⟩
theorem sc__law_text : FnScope ["_law_tree_here"] ["_law_tree_here"] (defScope s__law_text) := ⟨rfl, rfl, rfl, by decide +kernel, rfl, by decide +kernel, by decide +kernel⟩
theorem sc_law : FnScope ["_law_script", "_law_deck_here", "_law_turn", "_law_tree_here", "_law_relabelled", "_law_others", "_law_other", "_law_kept", "_law_due", "_law_found"] ["_law_script"] (defScope s_law) := ⟨rfl, rfl, rfl, by decide +kernel, rfl, by decide +kernel, by decide +kernel⟩
abbrev sDeck : Stmt := s__law_deck
abbrev sNext : Stmt := s__law_next
abbrev sSame : Stmt := s__law_same
abbrev sLett : Stmt := s__law_letters
abbrev sGrown : Stmt := s__law_grown
abbrev sTree : Stmt := s__law_tree
/-! ### the deck -/
structure Deck where
  dk : Addr
  ca : Addr
  ra : Addr
structure DeckOk (H : Hp) (D : Deck) (n : Nat) : Prop where
  ex : ∃ cells rests : List Int, H D.dk = some (.lst [.ref D.ca, .ref D.ra, .int (n : Int)]) ∧ H D.ca = some (.lst (cells.map V.int)) ∧ H D.ra = some (.lst (rests.map V.int)) ∧ 0 < cells.length ∧ rests.length = cells.length ∧ cells.length ≤ 61
  dc : D.dk ≠ D.ca
  dr : D.dk ≠ D.ra
  cr : D.ca ≠ D.ra
/-- all stands still but the deck's list and its rests -/
def SameD (D : Deck) (H H' : Hp) : Prop := ∀ b o, b ≠ D.dk → b ≠ D.ra → H b = some o → H' b = some o
theorem SameD.refl (D : Deck) (H : Hp) : SameD D H H := fun _ _ _ _ h => h
theorem SameD.trans {D : Deck} {H H1 H2 : Hp} (a : SameD D H H1) (b : SameD D H1 H2) : SameD D H H2 := fun c o h1 h2 h => b c o h1 h2 (a c o h1 h2 h)
theorem SameD.of {D : Deck} {H H' : Hp} (h : Same H H') : SameD D H H' := fun b o _ _ e => h b o e
theorem DeckOk.lists {H : Hp} {D : Deck} {n : Nat} (d : DeckOk H D n) : (∃ xs, H D.dk = some (.lst xs)) ∧ (∃ xs, H D.ra = some (.lst xs)) := by
  obtain ⟨c, r, h1, _, h3, _⟩ := d.ex
  exact ⟨⟨_, h1⟩, ⟨_, h3⟩⟩
theorem SameD.keepT {D : Deck} {H H' : Hp} {n : Nat} (h : SameD D H H') (d : DeckOk H D n) : KeepT H H' := fun b xs e => by
  obtain ⟨⟨x1, h1⟩, ⟨x2, h2⟩⟩ := d.lists
  exact h b _ (ne_of e h1 (by intro z; cases z)) (ne_of e h2 (by intro z; cases z)) e
theorem SameD.free {D : Deck} {H H' : Hp} {n : Nat} (h : SameD D H H') (d : DeckOk H' D n) {p : Addr} (e : H' p = none) : H p = none := by
  obtain ⟨⟨x1, h1⟩, ⟨x2, h2⟩⟩ := d.lists
  have n1 : p ≠ D.dk := fun z => by rw [z, h1] at e; cases e
  have n2 : p ≠ D.ra := fun z => by rw [z, h2] at e; cases e
  cases q : H p with
  | none => rfl
  | some o =>
    rw [h p o n1 n2 q] at e
    cases e
theorem DeckOk.same {H H' : Hp} {D : Deck} {n : Nat} (d : DeckOk H D n) (h : Same H H') : DeckOk H' D n := by
  obtain ⟨c, r, h1, h2, h3, h4⟩ := d.ex
  exact ⟨⟨c, r, h _ _ h1, h _ _ h2, h _ _ h3, h4⟩, d.dc, d.dr, d.cr⟩
structure Off (D : Deck) (p : Addr) : Prop where
  dk : p ≠ D.dk
  ca : p ≠ D.ca
  ra : p ≠ D.ra
theorem DeckOk.new {H : Hp} {D : Deck} {n : Nat} (d : DeckOk H D n) {p : Addr} (e : H p = none) : Off D p := by
  obtain ⟨c, r, h1, h2, h3, _⟩ := d.ex
  refine ⟨fun z => ?_, fun z => ?_, fun z => ?_⟩
  · rw [z, h1] at e
    cases e
  · rw [z, h2] at e
    cases e
  · rw [z, h3] at e
    cases e
theorem DeckOk.put {H : Hp} {D : Deck} {n : Nat} (d : DeckOk H D n) {p : Addr} (f : Off D p) (o : HO) : DeckOk (upd H p o) D n := by
  obtain ⟨c, r, h1, h2, h3, h4⟩ := d.ex
  exact ⟨⟨c, r, by rw [upd_ne f.dk.symm]; exact h1, by rw [upd_ne f.ca.symm]; exact h2, by rw [upd_ne f.ra.symm]; exact h3, h4⟩, d.dc, d.dr, d.cr⟩
theorem SameD.put {D : Deck} {H H' : Hp} {p : Addr} (s : SameD D H H') (e : H p = none) (o : HO) : SameD D H (upd H' p o) := fun b u h1 h2 h => by
  rw [upd_ne (ne_of_none h e)]
  exact s b u h1 h2 h
theorem SameD.at {D : Deck} {H H' : Hp} {p : Addr} {o : HO} (s : SameD D H H') (f : Off D p) (e : H p = some o) : H' p = some o := s p o f.dk f.ra e
theorem at_map {α : Type} {f : α → V} {ns : List α} {i : Int} {v : α} (h0 : 0 ≤ i) (h : ns[i.toNat]? = some v) : atI (ns.map f) i = some (f v) := by
  have e : i = ((i.toNat : Nat) : Int) := by omega
  rw [e]
  exact atI_nat (by rw [List.getElem?_map, h]; rfl)
theorem rep_flat {α : Type} (a : α) : ∀ m : Nat, (List.replicate m [a]).flatten = List.replicate m a
  | 0 => rfl
  | m + 1 => by
    rw [List.replicate_succ, List.replicate_succ, List.flatten_cons, rep_flat a m]
    rfl
theorem at_int {ns : List Int} {i : Int} {v : Int} (h0 : 0 ≤ i) (h : ns[i.toNat]? = some v) : atI (ns.map V.int) i = some (.int v) := by
  have e : i = ((i.toNat : Nat) : Int) := by omega
  rw [e]
  exact atI_nat (by rw [List.getElem?_map, h]; rfl)
theorem ixN_nat {n : Nat} {i : Int} (h0 : 0 ≤ i) (h : i < n) : ixN n i = some i.toNat := by
  unfold ixN
  first
    | rw [if_pos h0, if_pos h]
    | (rw [if_pos h0]; rw [if_pos (by omega)])
    | simp [h0, h]
theorem mod1 (z : Int) : -(2 ^ 64) < z % 2305843009213693951 ∧ z % 2305843009213693951 < 2 ^ 64 := by
  have a := Int.emod_nonneg z (show (2305843009213693951 : Int) ≠ 0 by decide)
  have b := Int.emod_lt_of_pos z (show (0 : Int) < 2305843009213693951 by decide)
  omega
theorem mod2 (z : Int) : -(2 ^ 64) < z % 2305843009213693921 ∧ z % 2305843009213693921 < 2 ^ 64 := by
  have a := Int.emod_nonneg z (show (2305843009213693921 : Int) ≠ 0 by decide)
  have b := Int.emod_lt_of_pos z (show (0 : Int) < 2305843009213693921 by decide)
  omega
def spNext : Sp := fun vs H Q _ => ∃ (D : Deck) (n : Nat) (m : Int), vs = [.ref D.dk, .int m] ∧ DeckOk H D n ∧ n ≤ 1000000 ∧ 0 < m ∧ m ≤ 1000 ∧ ∀ (i : Int) (H' : Hp), 0 ≤ i → i < m → DeckOk H' D (n + 1) → SameD D H H' → Q (.int i) H'
theorem scNext : FnScope ["_law_deck_here", "_law_many", "_law_cells", "_law_rests", "_law_count", "_law_index", "_law_digit", "_law_mixed"] ["_law_deck_here", "_law_many"] (defScope sNext) := ⟨rfl, rfl, rfl, by decide +kernel, rfl, by decide +kernel, by decide +kernel⟩
section
variable {P : Program} {w : World} {K : PySem.W.Frag} {mg : Str → Option Value} {base : Heap} {f : Addr} {fd : FuncData}
theorem ok_next {k : Nat} (F : Fun K "_law_next" "_law_next" sNext f fd) (ml : mg "len" = none) : FnOk P w K mg base CX0 (k + 1) f fd ["_law_deck_here", "_law_many"] spNext := by
  refine F.ok scNext (fun vs H Q E h => ?_) (fun cdv A outer s H vs Q E hr h => ?_)
  · obtain ⟨D, n, m, rfl, _⟩ := h
    rfl
  obtain ⟨D, n, m, rfl, d, hn, m0, m1, q⟩ := h
  obtain ⟨cells, rests, e1, e2, e3, c0, cr, c1⟩ := d.ex
  refine ⟨_, pss_cons (ps_asg (pv 0) (pg_unl rfl (pgs_cons (pg_name (i := 2) scNext.nd rfl (.inl rfl)) (pgs_cons (pg_name (i := 3) scNext.nd rfl (.inl rfl)) (pgs_cons (pg_name (i := 4) scNext.nd rfl (.inl rfl)) pgs_nil)))))
    (pss_cons (ps_asg (pe_op op_add (pv 4) pe_int) (pg_sub (pv 0) pe_int set_list))
    (pss_cons (ps_set (i := 5) scNext.nd rfl (.inl rfl) (pe_op op_mod (pv 4) (pe_callB call_len_seq rfl ml PySem.boot_len (pa_cons (pv 2) pa_nil))))
    (pss_cons (ps_if (pt_cmpR op_gt (pe_ix ix_list (pv 3) (pv 5) (fun _ _ => rfl)) pe_int (nomark _))
      (pss_cons (ps_set (i := 6) scNext.nd rfl (.inl rfl) (pe_op op_mod (pe_ix ix_list (pv 3) (pv 5) (fun _ _ => rfl)) (pv 1)))
      (pss_cons (ps_asg (pe_op op_fdiv (pe_ix ix_list (pv 3) (pv 5) (fun _ _ => rfl)) (pv 1)) (pg_sub (pv 3) (pv 5) set_list))
      (pss_one (ps_ret (pv 6))))) pss_nil)
    (pss_cons (ps_set (i := 7) scNext.nd rfl (.inl rfl) (pe_op op_mul (pe_op op_add (pe_op op_add (pe_ix ix_list (pv 2) (pv 5) (fun _ _ => rfl)) (pe_op op_mul pe_int (pv 4))) pe_int) (pe_op op_add pe_int (pe_op op_mul pe_int (pv 4)))))
    (pss_cons (ps_set (i := 7) scNext.nd rfl (.inl rfl) (pe_op op_mod (pe_op op_add (pv 7) (pe_op op_mul pe_int (pv 4))) pe_int))
    (pss_cons (ps_set (i := 7) scNext.nd rfl (.inl rfl) (pe_op op_mod (pe_op op_add (pe_op op_mul (pv 7) (pv 7)) pe_int) pe_int))
    (pss_cons (ps_set (i := 7) scNext.nd rfl (.inl rfl) (pe_op op_mod (pe_op op_mul (pv 7) (pv 7)) pe_int))
    (pss_one (ps_ret (pe_op op_mod (pe_op op_fdiv (pv 7) pe_int) (pv 1))))))))))), ?_⟩
  -- the three parts
  refine ⟨_, rfl, D.dk, _, rfl, SqL.of e1, rfl, _, _, rfl, _, _, rfl, _, _, rfl, rfl, ?_⟩
  -- deck[2] = count + 1
  refine ⟨_, rfl, _, _, rfl, rfl, _, rfl, D.dk, _, _, 2, rfl, rfl, e1, rfl, ?_⟩
  have x2 : (upd H D.dk (.lst [.ref D.ca, .ref D.ra, .int ((n : Int) + 1)])) D.ca = some (.lst (cells.map V.int)) := by rw [upd_ne d.dc.symm]; exact e2
  have x3 : (upd H D.dk (.lst [.ref D.ca, .ref D.ra, .int ((n : Int) + 1)])) D.ra = some (.lst (rests.map V.int)) := by rw [upd_ne d.dr.symm]; exact e3
  have x1 : (upd H D.dk (.lst [.ref D.ca, .ref D.ra, .int ((n : Int) + 1)])) D.dk = some (.lst [.ref D.ca, .ref D.ra, .int ((n + 1 : Nat) : Int)]) := upd_same
  have sd : SameD D H (upd H D.dk (.lst [.ref D.ca, .ref D.ra, .int ((n : Int) + 1)])) := fun b o h1 _ e => by rw [upd_ne h1]; exact e
  have cl : ((cells.map V.int).length : Int) = (cells.length : Int) := by rw [List.length_map]
  have rl : ((rests.map V.int).length : Int) = (cells.length : Int) := by rw [List.length_map, cr]
  -- index
  refine ⟨_, rfl, _, rfl, D.ca, _, rfl, .inl (SqL.of x2), _, _, rfl, rfl, (by show (0 : Int) < ((cells.map V.int).length : Int); rw [cl]; omega), ?_⟩
  have i0 : 0 ≤ (n : Int) % ((cells.map V.int).length : Int) := Int.emod_nonneg _ (by rw [cl]; omega)
  have i1 : (n : Int) % ((cells.map V.int).length : Int) < (cells.length : Int) := by
    rw [cl]
    exact Int.emod_lt_of_pos _ (by omega)
  have l1 : ((n : Int) % ((cells.map V.int).length : Int)).toNat < rests.length := by omega
  have l2 : ((n : Int) % ((cells.map V.int).length : Int)).toNat < cells.length := by omega
  have a1 := at_int i0 (List.getElem?_eq_getElem l1)
  have a2 := at_int i0 (List.getElem?_eq_getElem l2)
  refine ⟨_, rfl, _, rfl, D.ra, _, _, _, rfl, rfl, SqL.of x3, a1, _, _, rfl, rfl, _, rfl, ite2 (fun _ => ?_) (fun _ => ?_)⟩
  · refine ⟨_, rfl, _, rfl, D.ra, _, _, _, rfl, rfl, SqL.of x3, a1, _, rfl, _, _, rfl, rfl, m0, ?_⟩
    refine ⟨_, rfl, _, rfl, D.ra, _, _, _, rfl, rfl, SqL.of x3, a1, _, rfl, _, _, rfl, rfl, ⟨m0, by omega⟩, ?_⟩
    refine ⟨_, rfl, _, rfl, D.ra, _, _, _, rfl, rfl, x3, ixN_nat i0 (by rw [rl]; exact i1), ?_⟩
    refine ⟨_, rfl, ?_⟩
    refine q _ _ (Int.emod_nonneg _ (by omega)) (Int.emod_lt_of_pos _ m0) ⟨⟨cells, rests.set ((n : Int) % ((cells.map V.int).length : Int)).toNat (rests[((n : Int) % ((cells.map V.int).length : Int)).toNat] / m), ?_, ?_, ?_, c0, ?_, c1⟩, d.dc, d.dr, d.cr⟩ ?_
    · rw [upd_ne d.dr]; exact x1
    · rw [upd_ne d.cr]; exact x2
    · rw [upd_same, List.map_set]
    · rw [List.length_set]; exact cr
    · exact sd.trans fun b o _ h2 e => by rw [upd_ne h2]; exact e
  · refine ⟨_, rfl, _, rfl, D.ca, _, _, _, rfl, rfl, SqL.of x2, a2, _, rfl, _, _, rfl, rfl, .inl ⟨by decide, by decide⟩, _, _, rfl, rfl, _, _, rfl, rfl, _, rfl, _, _, rfl, rfl, .inl ⟨by decide, by decide⟩, _, _, rfl, rfl, _, _, rfl, rfl, .inr ⟨by omega, by omega⟩, ?_⟩
    refine ⟨_, rfl, _, rfl, _, _, rfl, rfl, .inl ⟨by decide, by decide⟩, _, _, rfl, rfl, _, _, rfl, rfl, (show (0 : Int) < 2305843009213693951 by decide), ?_⟩
    refine ⟨_, rfl, _, rfl, _, _, rfl, rfl, .inl (mod1 _), _, _, rfl, rfl, _, _, rfl, rfl, (show (0 : Int) < 2305843009213693921 by decide), ?_⟩
    refine ⟨_, rfl, _, rfl, _, _, rfl, rfl, .inl (mod2 _), _, _, rfl, rfl, (show (0 : Int) < 2305843009213693951 by decide), ?_⟩
    refine ⟨_, rfl, _, _, rfl, rfl, ⟨by decide, by decide⟩, _, rfl, _, _, rfl, rfl, m0, ?_⟩
    exact q _ _ (Int.emod_nonneg _ (by omega)) (Int.emod_lt_of_pos _ m0) ⟨⟨cells, rests, x1, x2, x3, c0, cr, c1⟩, d.dc, d.dr, d.cr⟩ sd
end
/-! ### _law_deck -/
theorem cut_to (xs : List V) (k : Nat) : cutV xs none (some (k : Int)) = xs.take k := by
  unfold cutV
  rw [HT.sIx_nat, HT.sIx_none, List.drop_zero, Nat.sub_zero]
  rw [Nat.min_def]
  split
  · rfl
  · rw [List.take_of_length_le (Nat.le_refl _), List.take_of_length_le (by omega)]
theorem cut_from (xs : List V) (k : Nat) : cutV xs (some (k : Int)) none = xs.drop k := by
  unfold cutV
  rw [HT.sIx_nat, HT.sIx_none]
  by_cases h : k ≤ xs.length
  · rw [Nat.min_eq_left h, List.take_of_length_le (by rw [List.length_drop]; omega)]
  · rw [Nat.min_eq_right (by omega), List.drop_eq_nil_of_le (Nat.le_refl _), List.drop_eq_nil_of_le (by omega), List.take_nil]
theorem kept {σ : L2.St} {H : Hp} {A B : Hp → Prop} (h : A H) : tYes σ H (fun b H3 => if b = true then A H3 else B H3) := by
  show if true = true then A H else B H
  exact iteT h
theorem scDeck : FnScope ["_law_script", "_law_cells", "_law_cell"] ["_law_script"] (defScope sDeck) := ⟨rfl, rfl, rfl, by decide +kernel, rfl, by decide +kernel, by decide +kernel⟩
def spDeck (K : PySem.W.Frag) : Sp := fun vs H Q _ => ∃ (a : Addr) (ns : List Int), vs = [.ref a] ∧ SqL K H a (ns.map V.int) ∧ ∀ (D : Deck) (H' : Hp), DeckOk H' D 0 → Same H H' → Q (.ref D.dk) H'
section
variable {P : Program} {w : World} {K : PySem.W.Frag} {mg : Str → Option Value} {base : Heap} {f : Addr} {fd : FuncData}
theorem ok_deck {k : Nat} (F : Fun K "_law_deck" "_law_deck" sDeck f fd) (ml : mg "len" = none) (ma : mg "abs" = none) (mi : mg "int" = none) : FnOk P w K mg base CX0 (k + 1) f fd ["_law_script"] (spDeck K) := by
  refine F.ok scDeck (fun vs H Q E h => ?_) (fun cdv A outer s H vs Q E hr h => ?_)
  · obtain ⟨a, ns, rfl, _⟩ := h
    rfl
  obtain ⟨a, ns, rfl, hS, q⟩ := h
  refine ⟨_, pss_cons (ps_set (i := 1) scDeck.nd rfl (.inl rfl) (pe_op op_cat
      (pe_lc (own := [("_law_cell", 2)]) (g := gName 2) (tt := tYes) rfl scDeck.nd (pi_list (pe_slice sl_list (pv 0) po_none (po_some pe_int))) (blkOk_by (N := ["_law_script", "_law_cells", "_law_cell"]) (sc := defScope sDeck) (by decide +kernel))
        (fun _ _ _ _ _ => pg_name (i := 2) scDeck.nd rfl (Or.inl rfl)) (fun _ _ _ _ _ => pts_nil) (fun _ _ _ _ _ => pe_callB call_abs rfl ma (by decide +kernel) (pa_cons (pv 2) pa_nil)))
      (pe_op op_rep (pe_lst (pa_cons pe_int pa_nil)) (pe_callTy call_int1 rfl mi (by decide +kernel) (pa_cons (pe_cmpR op_eq (pe_callB call_len_seq rfl ml PySem.boot_len (pa_cons (pv 0) pa_nil)) pe_int (nomark _)) pa_nil)))))
    (pss_one (ps_ret (pe_lst (pa_cons (pv 1) (pa_cons
      (pe_lc (own := [("_law_cell", 2)]) (g := gName 2) (tt := tYes) rfl scDeck.nd (pi_list (pv 1)) (blkOk_by (N := ["_law_script", "_law_cells", "_law_cell"]) (sc := defScope sDeck) (by decide +kernel))
        (fun _ _ _ _ _ => pg_name (i := 2) scDeck.nd rfl (Or.inl rfl)) (fun _ _ _ _ _ => pts_nil)
        (fun _ _ _ _ _ => pe_op op_mul (pv 2) (pe_callTy call_int1 rfl mi (by decide +kernel) (pa_cons (pe_cmpR op_ge (pv 2) (pe_op op_pow pe_int pe_int) (nomark _)) pa_nil))))
      (pa_cons pe_int pa_nil)))))), ?_⟩
  refine ⟨.ref a, rfl, 61, rfl, a, ns.map V.int, rfl, hS, fun c nc => ?_⟩
  rw [show (61 : Int) = ((61 : Nat) : Int) from rfl, cut_to, ← List.map_take]
  have s1 := same_new nc (.lst ((ns.take 61).map V.int))
  refine ⟨c, rfl, ⟨_, SqL.of upd_same⟩, fun d1 n1 => ?_⟩
  have s2 := same_new n1 (.lst [])
  refine lc_list (K := K) (a := c) (xs := (ns.take 61).map V.int) (fun i H' => Same (upd H c (.lst ((ns.take 61).map V.int))) H' ∧ ∃ zs : List Int, zs.length = i ∧ H' d1 = some (.lst (zs.map V.int))) ⟨s2, [], rfl, upd_same⟩ (fun i H' _ hp => SqL.of (hp.1 _ _ upd_same)) (fun i x H' hx hp => ?_) (fun H1 hp => ?_)
  · obtain ⟨sm, zs, hz, hd⟩ := hp
    rw [List.getElem?_map] at hx
    obtain ⟨y, hy, rfl⟩ := Option.map_eq_some_iff.mp hx
    have hi : i < 61 := by
      have := (List.getElem?_eq_some_iff.mp hy).1
      rw [List.length_take] at this
      omega
    refine ⟨rfl, kept ?_⟩
    refine ⟨_, rfl, _, rfl, _, hd, by rw [List.length_map]; exact small1000 (by omega), fun b o e => ?_, zs ++ [if y < 0 then -y else y], by rw [List.length_append, hz]; rfl, ?_⟩
    · rw [upd_ne (ne_of_none e n1)]
      exact sm _ _ e
    · rw [upd_same, List.map_append]
      rfl
  obtain ⟨sm, zs, hz, hd⟩ := hp
  rw [List.length_map, List.length_take] at hz
  refine ⟨(by show 1 ≤ sizeLine; decide), fun z nz => ?_⟩
  have s3 := same_new nz (.lst [.int 0])
  have sH : Same H H1 := s1.trans sm
  refine ⟨.ref a, rfl, a, _, rfl, .inl ((sH.trans s3).seq hS), rfl, .inr ⟨_, rfl, z, _, _, rfl, rfl, upd_same, ?_, ?_, ?_, fun y ny => ?_⟩⟩
  · split <;> decide
  · split <;> decide
  · split <;> decide
  have s4 := same_new ny (.lst (List.replicate (Int.toNat (if decide (V.int ((ns.map V.int).length : Int) = V.int 0) = true then 1 else 0)) [V.int 0]).flatten)
  obtain ⟨ex, hex, hexl⟩ : ∃ ex : List Int, (List.replicate (Int.toNat (if decide (V.int ((ns.map V.int).length : Int) = V.int 0) = true then 1 else 0)) [V.int 0]).flatten = ex.map V.int ∧ 0 < zs.length + ex.length ∧ zs.length + ex.length ≤ 61 := by
    by_cases h0 : ns.length = 0
    · refine ⟨[0], ?_, ?_, ?_⟩
      · rw [show (decide (V.int ((ns.map V.int).length : Int) = V.int 0)) = true by rw [List.length_map, h0]; rfl]
        rfl
      · exact Nat.succ_pos _
      · rw [hz, h0]
        decide
    · refine ⟨[], ?_, ?_, ?_⟩
      · rw [show (decide (V.int ((ns.map V.int).length : Int) = V.int 0)) = false by
          apply decide_eq_false
          intro z
          have z' := V.int.inj z
          rw [List.length_map] at z'
          omega]
        rfl
      · rw [List.length_nil]; omega
      · rw [List.length_nil]; omega
  refine ⟨d1, y, _, _, rfl, rfl, (s3.trans s4) _ _ hd, upd_same, ?_, fun p np => ?_⟩
  · rw [hex, List.length_map, List.length_map]
    exact small (by omega)
  have s5 := same_new np (.lst (zs.map V.int ++ (List.replicate (Int.toNat (if decide (V.int ((ns.map V.int).length : Int) = V.int 0) = true then 1 else 0)) [V.int 0]).flatten))
  have s6 := sH.trans (s3.trans (s4.trans s5))
  -- the second list
  refine ⟨.ref p, rfl, .ref p, rfl, p, rfl, ⟨_, SqL.of upd_same⟩, fun r nr => ?_⟩
  rw [hex, ← List.map_append] at s5 s6 nr ⊢
  generalize hH2 : upd (upd (upd H1 z (.lst [.int 0])) y (.lst (ex.map V.int))) p (.lst ((zs ++ ex).map V.int)) = H2 at s5 s6 nr ⊢
  have ep : H2 p = some (.lst ((zs ++ ex).map V.int)) := by rw [← hH2]; exact upd_same
  have hpr : p ≠ r := ne_of_none ep nr
  refine lc_list (K := K) (a := p) (xs := (zs ++ ex).map V.int) (fun i H' => Same H2 H' ∧ ∃ ys : List Int, ys.length = i ∧ H' r = some (.lst (ys.map V.int))) ⟨same_new nr _, [], rfl, upd_same⟩ (fun i H' _ hp => SqL.of (hp.1 _ _ ep)) (fun i x H' hx hp => ?_) (fun H3 hp => ?_)
  · obtain ⟨sm, ys, hy, hd⟩ := hp
    rw [List.getElem?_map] at hx
    obtain ⟨v, hv, rfl⟩ := Option.map_eq_some_iff.mp hx
    have hi : i < 61 := by
      have := (List.getElem?_eq_some_iff.mp hv).1
      rw [List.length_append] at this
      omega
    refine ⟨rfl, kept ?_⟩
    refine ⟨_, rfl, _, rfl, _, _, rfl, rfl, ⟨by decide, by decide, by decide⟩, _, _, rfl, rfl, .inr ⟨_, rfl, _, _, rfl, rfl, .inr ?_, _, hd, by rw [List.length_map]; exact small1000 (by omega), fun b o e => ?_, ys ++ [v * (if decide (v ≥ (10 : Int) ^ Int.toNat 18) = true then 1 else 0)], by rw [List.length_append, hy]; rfl, ?_⟩⟩
    · split <;> decide
    · rw [upd_ne (ne_of_none e nr)]
      exact sm _ _ e
    · rw [upd_same, List.map_append]
      rfl
  · obtain ⟨sm, ys, hy, hd⟩ := hp
    refine ⟨(by show 3 ≤ sizeLine; decide), fun t nt => ?_⟩
    have s9 := same_new nt (.lst [.ref p, .ref r, .int 0])
    have ep3 := sm _ _ ep
    refine q ⟨t, p, r⟩ _ ⟨⟨zs ++ ex, ys, upd_same, s9 _ _ ep3, s9 _ _ hd, ?_, ?_, ?_⟩, (ne_of_none ep3 nt).symm, (ne_of_none hd nt).symm, hpr⟩ (s6.trans (sm.trans s9))
    · rw [List.length_append]; omega
    · rw [hy, List.length_map]
    · rw [List.length_append]; omega
end
/-! ### _law_same, of equal data -/
theorem sqT_same {K : PySem.W.Frag} {H H' : Hp} {a : Addr} {xs : List V} (e : Same H H') (h : SqT K H a xs) : SqT K H' a xs := by
  rcases h with (h | ⟨o, h⟩) | h
  · exact .inl (.inl (e _ _ h))
  · exact .inl (.inr ⟨o, e _ _ h⟩)
  · exact .inr h
mutual
theorem dp_same {K : PySem.W.Frag} {H H' : Hp} (e : Same H H') : ∀ {v : V} {d : PyData}, Dp K H v d → Dp K H' v d
  | _, _, .non => .non
  | _, _, .bl b => .bl b
  | _, _, .int i => .int i
  | _, _, .str x => .str x
  | _, _, .lst h a => .lst (e.seq h) (dpAll_same e a)
  | _, _, .tup h a => .tup (sqT_same e h) (dpAll_same e a)
theorem dpAll_same {K : PySem.W.Frag} {H H' : Hp} (e : Same H H') : ∀ {vs : List V} {ds : List PyData}, DpAll K H vs ds → DpAll K H' vs ds
  | _, _, .nil => .nil
  | _, _, .cons h a => .cons (dp_same e h) (dpAll_same e a)
end
theorem dpAll_len {K : PySem.W.Frag} {H : Hp} : ∀ {vs : List V} {ds : List PyData}, DpAll K H vs ds → vs.length = ds.length
  | _, _, .nil => rfl
  | _, _, .cons _ a => congrArg (· + 1) (dpAll_len a)
theorem dpAll_get {K : PySem.W.Frag} {H : Hp} : ∀ {vs : List V} {ds : List PyData} {i : Nat} {d : PyData}, DpAll K H vs ds → ds[i]? = some d → ∃ v, vs[i]? = some v ∧ Dp K H v d
  | _, _, _, _, .nil, h => by simp at h
  | _, _, 0, _, .cons h _, e => by
    cases e
    exact ⟨_, rfl, h⟩
  | _, _, i + 1, _, .cons _ a, e => dpAll_get (i := i) a e
def tyD : PyData → String
  | .none => "NoneType"
  | .bool _ => "bool"
  | .int _ => "int"
  | .str _ => "str"
  | .list _ => "list"
  | .tuple _ => "tuple"
  | .dict _ => "dict"
theorem dp_ty {K : PySem.W.Frag} {H : Hp} {v : V} {d : PyData} (h : Dp K H v d) : TyX K H v (.type (tyD d)) := by
  cases h with
  | non => exact .base .non
  | bl b => exact .base (.bl b)
  | int i => exact .base (.int i)
  | str x => exact .base (.str x)
  | lst h _ =>
    rcases h with (h | ⟨o, h⟩) | ⟨o, its, n, h, hc, _⟩
    · exact .base (.lst h)
    · exact .base (.frz h)
    · exact .kList h hc
  | tup h _ =>
    rcases h with (h | ⟨o, h⟩) | ⟨o, its, n, h, hc, _⟩
    · exact .base (.tup h)
    · exact .fTuple h
    · exact .kTuple h hc
theorem kit_lt {K : PySem.W.Frag} {a : String} {r s : Bool} (h1 : kitB a "list" = some r) (h2 : kitB a "tuple" = some s) : PySem.W.kitAny K (.type a) [.type "list", .type "tuple"] = some (r || s) := by
  refine kitAny_cons (kit_ty h1) (fun e => kitAny_cons (kit_ty h2) (fun e2 => ?_) fun e2 => ?_) fun e => ?_
  · rw [kitAny_nil, e, e2]; rfl
  · rw [e2, Bool.or_true]
  · rw [e, Bool.true_or]
theorem depth_get : ∀ {ds : List PyData} {i : Nat} {d : PyData}, ds[i]? = some d → d.depth ≤ PyData.depthAll ds
  | [], _, _, h => by simp at h
  | x :: xs, 0, _, h => by
    cases h
    simp only [PyData.depthAll]
    omega
  | x :: xs, i + 1, d, h => by
    have := depth_get (ds := xs) (i := i) h
    simp only [PyData.depthAll]
    omega
mutual
def nar : PyData → Bool
  | .list xs => decide (xs.length ≤ 1000000) && narAll xs
  | .tuple xs => decide (xs.length ≤ 1000000) && narAll xs
  | .dict _ => false
  | .none => true
  | .bool _ => true
  | .int _ => true
  | .str _ => true
def narAll : List PyData → Bool
  | [] => true
  | x :: xs => nar x && narAll xs
end
theorem nar_get : ∀ {ds : List PyData} {i : Nat} {d : PyData}, ds[i]? = some d → narAll ds = true → nar d = true
  | [], _, _, h, _ => by simp at h
  | x :: xs, 0, _, h, k => by
    cases h
    simp only [narAll, Bool.and_eq_true] at k
    exact k.1
  | x :: xs, i + 1, d, h, k => by
    simp only [narAll, Bool.and_eq_true] at k
    exact nar_get (ds := xs) (i := i) h k.2
theorem scSame : FnScope ["_law_found", "_law_due", "_law_k"] ["_law_found", "_law_due"] (defScope sSame) := ⟨rfl, rfl, rfl, by decide +kernel, rfl, by decide +kernel, by decide +kernel⟩
def spSame (K : PySem.W.Frag) (n : Nat) : Sp := fun vs H Q _ => ∃ (v v' : V) (d : PyData), vs = [v, v'] ∧ Dp K H v d ∧ Dp K H v' d ∧ d.depth < n ∧ nar d = true ∧ ∀ H', Same H H' → Q (.bl true) H'
structure Mgs (mg : Str → Option Value) : Prop where
  len : mg "len" = none
  isi : mg "isinstance" = none
  list : mg "list" = none
  tuple : mg "tuple" = none
  str : mg "str" = none
  int : mg "int" = none
  bool : mg "bool" = none
  range : mg "range" = none
theorem dp_two {K : PySem.W.Frag} {H : Hp} {v v' : V} {d : PyData} {n : Nat} (h : Dp K H v d) (h' : Dp K H v' d) (hd : d.depth < n + 1) (hn : nar d = true) :
    (∃ (p p' : Addr) (xs xs' : List V) (ds : List PyData) (bl : Bool) (ty : String), v = .ref p ∧ v' = .ref p' ∧ (SqL K H p xs ∨ SqT K H p xs) ∧ (SqL K H p' xs' ∨ SqT K H p' xs') ∧ DpAll K H xs ds ∧ DpAll K H xs' ds ∧
      TyX K H v (.type ty) ∧ TyX K H v' (.type ty) ∧ kitB ty "list" = some bl ∧ kitB ty "tuple" = some (!bl) ∧ PyData.depthAll ds < n ∧ ds.length ≤ 1000000 ∧ narAll ds = true) ∨ (v = v' ∧ (v = .non ∨ (∃ b, v = .bl b) ∨ (∃ i, v = .int i) ∨ ∃ x, v = .str x)) := by
  have t1 := dp_ty h
  have t2 := dp_ty h'
  cases h with
  | non =>
    cases h'
    exact .inr ⟨rfl, .inl rfl⟩
  | bl b =>
    cases h'
    exact .inr ⟨rfl, .inr (.inl ⟨b, rfl⟩)⟩
  | int b =>
    cases h'
    exact .inr ⟨rfl, .inr (.inr (.inl ⟨b, rfl⟩))⟩
  | str b =>
    cases h'
    exact .inr ⟨rfl, .inr (.inr (.inr ⟨b, rfl⟩))⟩
  | lst h a =>
    cases h' with
    | lst h' a' =>
      simp only [PyData.depth] at hd
      simp only [nar, Bool.and_eq_true, decide_eq_true_eq] at hn
      exact .inl ⟨_, _, _, _, _, true, "list", rfl, rfl, .inl h, .inl h', a, a', t1, t2, by decide +kernel, by decide +kernel, by omega, hn.1, hn.2⟩
  | tup h a =>
    cases h' with
    | tup h' a' =>
      simp only [PyData.depth] at hd
      simp only [nar, Bool.and_eq_true, decide_eq_true_eq] at hn
      exact .inl ⟨_, _, _, _, _, false, "tuple", rfl, rfl, .inr h, .inr h', a, a', t1, t2, by decide +kernel, by decide +kernel, by omega, hn.1, hn.2⟩
theorem seq_same {K : PySem.W.Frag} {H H' : Hp} {p : Addr} {xs : List V} (e : Same H H') (h : SqL K H p xs ∨ SqT K H p xs) : SqL K H' p xs ∨ SqT K H' p xs := h.elim (fun h => .inl (e.seq h)) fun h => .inr (sqT_same e h)
theorem seq_ix {K : PySem.W.Frag} {H : Hp} {p : Addr} {xs : List V} {i : Int} {v : V} {Q : VK} (h : SqL K H p xs ∨ SqT K H p xs) (a : atI xs i = some v) (q : Q v H) : rIx K (.ref p) (.int i) H Q :=
  h.elim (fun h => .inl ⟨p, xs, i, v, rfl, rfl, h, a, q⟩) fun h => .inr (.inl ⟨p, xs, i, v, rfl, rfl, h, a, q⟩)
theorem tyX_same {K : PySem.W.Frag} {H H' : Hp} {v : V} {d : PyData} (e : Same H H') (h : Dp K H v d) : TyX K H' v (.type (tyD d)) := dp_ty (dp_same e h)
section
variable {P : Program} {w : World} {K : PySem.W.Frag} {mg : Str → Option Value} {base : Heap} {f : Addr} {fd : FuncData}
theorem ok_same (F : Fun K "_law_same" "_law_same" sSame f fd) (b : Binds K fd ["_law_found", "_law_due"] []) (g : mg "_law_same" = some (.ref f)) (M : Mgs mg) : ∀ n : Nat, FnOk P w K mg base CX0 n f fd ["_law_found", "_law_due"] (spSame K n)
  | 0 => by
    have no : ∀ vs H Q E, ¬ spSame K 0 vs H Q E := fun vs H Q E h => by
      obtain ⟨v, t, d, _, _, _, h1, _, _⟩ := h
      omega
    exact ⟨fun vs H Q E h => absurd h (no vs H Q E), fun A outer s H args us vs Q E _ _ _ _ h => absurd h (no vs H Q E)⟩
  | n + 1 => by
    have G := ok_same F b g M n
    refine F.ok scSame (fun vs H Q E h => ?_) (fun cdv A outer s H vs Q E hr h => ?_)
    · obtain ⟨v, t, d, rfl, _⟩ := h
      rfl
    obtain ⟨v, v', d, rfl, hv, hv', hd, hna, q⟩ := h
    have bi : bootBuiltins "isinstance" = some (.builtin "isinstance") := by decide +kernel
    refine ⟨_, pss_cons (ps_if (pt_val (pe_callB call_isiT rfl M.isi bi (pa_cons (pv 1) (pa_cons (pe_tup (pa_cons (pe_bltn (v := .ty "list") rfl M.list (by decide +kernel) rfl) (pa_cons (pe_bltn (v := .ty "tuple") rfl M.tuple (by decide +kernel) rfl) pa_nil))) pa_nil))))
        (pss_cons (ps_if (PW.pt (pw_or (pt_cmpR op_ne (pe_callB call_isi rfl M.isi bi (pa_cons (pv 0) (pa_cons (pe_bltn (v := .ty "list") rfl M.list (by decide +kernel) rfl) pa_nil))) (pe_callB call_isi rfl M.isi bi (pa_cons (pv 1) (pa_cons (pe_bltn (v := .ty "list") rfl M.list (by decide +kernel) rfl) pa_nil))) (nomark _))
            (pw_or1 (pt_cmpR op_ne (pe_callB call_isi rfl M.isi bi (pa_cons (pv 0) (pa_cons (pe_bltn (v := .ty "tuple") rfl M.tuple (by decide +kernel) rfl) pa_nil))) (pe_callB call_isi rfl M.isi bi (pa_cons (pv 1) (pa_cons (pe_bltn (v := .ty "tuple") rfl M.tuple (by decide +kernel) rfl) pa_nil))) (nomark _))))) (pss_one (ps_ret pe_bl)) pss_nil)
        (pss_cons (ps_if (pt_cmpR op_ne (pe_callB call_len_seq rfl M.len PySem.boot_len (pa_cons (pv 0) pa_nil)) (pe_callB call_len_seq rfl M.len PySem.boot_len (pa_cons (pv 1) pa_nil)) (nomark _)) (pss_one (ps_ret pe_bl)) pss_nil)
        (pss_one (ps_ret (pe_cmpR (op_eqD hr.units) (pe_lc (own := [("_law_k", 2)]) (g := gName 2) rfl scSame.nd (pi_range1 rfl M.range (pa_cons (pe_callB call_len_seq rfl M.len PySem.boot_len (pa_cons (pv 1) pa_nil)) pa_nil)) (blkOk_by (N := ["_law_found", "_law_due", "_law_k"]) (sc := defScope sSame) (by decide +kernel))
            (fun _ _ _ _ _ => pg_name (i := 2) scSame.nd rfl (Or.inl rfl)) (fun _ _ _ _ _ => pts_one (pt_not (pt_val (pe_call G hr rfl g F.kp b .nil pass0 (pa_cons (pe_ix (show IxR _ (rIx K) from ix_seq) (pv 0) (pv 2) (fun _ _ => rfl)) (pa_cons (pe_ix (show IxR _ (rIx K) from ix_seq) (pv 1) (pv 2) (fun _ _ => rfl)) pa_nil)))))) (fun _ _ _ _ _ => pv 2))
          (pe_lst pa_nil) (nomark _)))))) pss_nil)
      (pss_cons (ps_if (pt_cmpR op_isN (pv 1) pe_non (nomark _)) (pss_one (ps_ret (pe_cmpR op_isN (pv 0) pe_non (nomark _)))) pss_nil)
      (pss_cons (ps_if (pt_val (pe_callB call_isi rfl M.isi bi (pa_cons (pv 1) (pa_cons (pe_bltn (v := .ty "str") rfl M.str (by decide +kernel) rfl) pa_nil)))) (pss_one (ps_ret (pe_and (pe_callB call_isi rfl M.isi bi (pa_cons (pv 0) (pa_cons (pe_bltn (v := .ty "str") rfl M.str (by decide +kernel) rfl) pa_nil))) (pe_one (pe_cmpR op_eq (pv 0) (pv 1) (nomark _)))))) pss_nil)
      (pss_one (ps_ret (pe_and (pe_callB call_isi rfl M.isi bi (pa_cons (pv 0) (pa_cons (pe_bltn (v := .ty "int") rfl M.int (by decide +kernel) rfl) pa_nil)))
        (pe_and (pe_cmpR op_eq (pe_callB call_isi rfl M.isi bi (pa_cons (pv 0) (pa_cons (pe_bltn (v := .ty "bool") rfl M.bool (by decide +kernel) rfl) pa_nil))) (pe_callB call_isi rfl M.isi bi (pa_cons (pv 1) (pa_cons (pe_bltn (v := .ty "bool") rfl M.bool (by decide +kernel) rfl) pa_nil))) (nomark _)) (pe_one (pe_cmpR op_eq (pv 0) (pv 1) (nomark _))))))))), ?_⟩
    refine ⟨v', rfl, (by show 2 ≤ sizeLine; decide), fun tp np => ?_⟩
    have s1 := same_new np (.tup [.ty "list", .ty "tuple"])
    have hw := dp_same s1 hv
    have hw' := dp_same s1 hv'
    have pr : Paired ClsV [V.ty "list", V.ty "tuple"] [Value.type "list", Value.type "tuple"] := .cons (.ty _) (.cons (.ty _) .nil)
    rcases dp_two hw hw' hd hna with ⟨p, p', xs, xs', ds, bl, ty, rfl, rfl, hq, hq', ha, ha', ht, ht', k1, k2, hdd, hwl, hwn⟩ | ⟨rfl, hk⟩
    · have ka : PySem.W.kitAny K (.type ty) [.type "list", .type "tuple"] = some true := by
        rw [kit_lt k1 k2]
        cases bl <;> rfl
      have hl := dpAll_len ha
      have hl' := dpAll_len ha'
      refine ⟨_, tp, _, _, _, true, rfl, upd_same, pr, ht', ka, _, rfl, iteT ?_⟩
      refine ⟨_, rfl, _, _, _, _, bl, rfl, .ty _, ht, kit_ty k1, _, rfl, _, _, _, _, bl, rfl, .ty _, ht', kit_ty k1, by cases bl <;> rfl, _, rfl, iteNS rfl ?_⟩
      refine ⟨_, rfl, _, _, _, _, !bl, rfl, .ty _, ht, kit_ty k2, _, rfl, _, _, _, _, !bl, rfl, .ty _, ht', kit_ty k2, by cases bl <;> rfl, _, rfl, iteNS rfl ?_⟩
      refine ⟨_, rfl, p, xs, rfl, hq, _, rfl, p', xs', rfl, hq', rfl, _, rfl, iteNS (by rw [hl, hl']) ?_⟩
      refine ⟨_, rfl, p', xs', rfl, hq', _, rfl, ?_, ?_, fun D nD => ?_⟩
      · omega
      · omega
      have s2 := same_new nD (.lst [])
      rw [Int.toNat_natCast]
      refine lc_range (lo := 0) (n := xs'.length) (fun i H' => Same (upd H tp (.tup [.ty "list", .ty "tuple"])) H' ∧ H' D = some (.lst [])) ⟨s2, upd_same⟩ (fun i H' hi hp => ?_) (fun H' hp => ?_)
      · obtain ⟨sm, eD⟩ := hp
        obtain ⟨di, edi⟩ : ∃ di, ds[i]? = some di := ⟨_, List.getElem?_eq_getElem (by omega)⟩
        obtain ⟨x, ex, hx⟩ := dpAll_get ha edi
        obtain ⟨x', ex', hx'⟩ := dpAll_get ha' edi
        have hdi := depth_get edi
        have e0 : (0 : Int) + (i : Int) = ((i : Nat) : Int) := by omega
        rw [e0]
        refine ⟨rfl, ?_⟩
        refine ⟨_, rfl, _, rfl, seq_ix (seq_same sm hq) (atI_nat ex) ⟨_, rfl, _, rfl, seq_ix (seq_same sm hq') (atI_nat ex') ⟨x, x', di, rfl, dp_same sm hx, dp_same sm hx', by omega, nar_get edi hwn, fun H'' s'' => ?_⟩⟩⟩
        exact ⟨_, rfl, iteF ⟨sm.trans s'', s'' _ _ eD⟩⟩
      · obtain ⟨sm, eD⟩ := hp
        refine ⟨(by show 0 ≤ sizeLine; decide), fun e ne => ?_⟩
        refine ⟨.list [], .list [], .lst (SqL.of ((same_new ne _) _ _ eD)) .nil, .lst (SqL.of upd_same) .nil, rfl, rfl, ?_⟩
        exact q _ (s1.trans (sm.trans (same_new ne _)))
    · have fin := q _ s1
      rcases hk with rfl | ⟨c, rfl⟩ | ⟨c, rfl⟩ | ⟨c, rfl⟩
      · refine ⟨_, tp, _, _, _, false, rfl, upd_same, pr, .base .non, kit_lt (r := false) (s := false) (by decide +kernel) (by decide +kernel), _, rfl, iteF ?_⟩
        refine ⟨_, rfl, rfl, _, rfl, iteT ?_⟩
        exact ⟨_, rfl, rfl, fin⟩
      · refine ⟨_, tp, _, _, _, false, rfl, upd_same, pr, .base (.bl c), kit_lt (r := false) (s := false) (by decide +kernel) (by decide +kernel), _, rfl, iteF ?_⟩
        refine ⟨_, rfl, rfl, _, rfl, iteF ?_⟩
        refine ⟨_, rfl, _, _, _, _, false, rfl, .ty _, .base (.bl c), kit_ty (by decide +kernel), _, rfl, iteF ?_⟩
        refine ⟨_, rfl, _, _, _, _, true, rfl, .ty _, .base (.bl c), kit_ty (by decide +kernel), _, rfl, iteT ?_⟩
        refine ⟨_, rfl, _, _, _, _, true, rfl, .ty _, .base (.bl c), kit_ty (by decide +kernel), _, rfl, _, _, _, _, true, rfl, .ty _, .base (.bl c), kit_ty (by decide +kernel), rfl, _, rfl, iteT ?_⟩
        refine ⟨_, rfl, _, rfl, by cases c <;> rfl, ?_⟩
        rw [decide_eq_true rfl]
        exact fin
      · refine ⟨_, tp, _, _, _, false, rfl, upd_same, pr, .base (.int c), kit_lt (r := false) (s := false) (by decide +kernel) (by decide +kernel), _, rfl, iteF ?_⟩
        refine ⟨_, rfl, rfl, _, rfl, iteF ?_⟩
        refine ⟨_, rfl, _, _, _, _, false, rfl, .ty _, .base (.int c), kit_ty (by decide +kernel), _, rfl, iteF ?_⟩
        refine ⟨_, rfl, _, _, _, _, true, rfl, .ty _, .base (.int c), kit_ty (by decide +kernel), _, rfl, iteT ?_⟩
        refine ⟨_, rfl, _, _, _, _, false, rfl, .ty _, .base (.int c), kit_ty (by decide +kernel), _, rfl, _, _, _, _, false, rfl, .ty _, .base (.int c), kit_ty (by decide +kernel), rfl, _, rfl, iteT ?_⟩
        refine ⟨_, rfl, _, rfl, rfl, ?_⟩
        rw [decide_eq_true rfl]
        exact fin
      · refine ⟨_, tp, _, _, _, false, rfl, upd_same, pr, .base (.str c), kit_lt (r := false) (s := false) (by decide +kernel) (by decide +kernel), _, rfl, iteF ?_⟩
        refine ⟨_, rfl, rfl, _, rfl, iteF ?_⟩
        refine ⟨_, rfl, _, _, _, _, true, rfl, .ty _, .base (.str c), kit_ty (by decide +kernel), _, rfl, iteT ?_⟩
        refine ⟨_, rfl, _, _, _, _, true, rfl, .ty _, .base (.str c), kit_ty (by decide +kernel), _, rfl, iteT ?_⟩
        refine ⟨_, rfl, _, rfl, rfl, ?_⟩
        rw [decide_eq_true rfl]
        exact fin
end
/-! ### list(text) -/
theorem vals_signs : ∀ (l : List Nat) (vs : List Value), vs.length = l.length → (∀ (j : Nat) (v : Value), vs[j]? = some v → ∃ c u, l[j]? = some c ∧ v = .str ⟨#[c]⟩ u) → Vals (l.map fun c => V.str ⟨#[c]⟩) vs
  | [], [], _, _ => .nil
  | [], _ :: _, h, _ => by simp at h
  | _ :: _, [], h, _ => by simp at h
  | c :: l, v :: vs, h, k => by
    obtain ⟨c', u, e, rfl⟩ := k 0 v rfl
    cases e
    exact .cons ⟨u, rfl⟩ (vals_signs l vs (by simpa using h) fun j v e => k (j + 1) v e)
theorem call_signs {X : Cx} (hc : X.calm = true) : CallR X (.type "list") (fun xs H Q => ∃ x : Str, xs = [.str x] ∧ x.cps.size ≤ 1000 ∧ ∀ p, H p = none → Q (.ref p) (upd H p (.lst (x.cps.toList.map fun c => V.str ⟨#[c]⟩)))) := by
  intro pins s σ H xs us Q I r h
  obtain ⟨x, rfl, hz, q⟩ := h
  obtain ⟨u, rfl, t, rfl⟩ := vals1 r
  have hz' : x.cps.size ≤ sizeLine := small hz
  refine call_list_str (I.ok.hd hc) x t (fun h' tk acc' c' hk hS hacc => ?_) hz'
  have hv : Vals (x.cps.toList.map fun c => V.str ⟨#[c]⟩) acc'.toList := vals_signs _ _ (by rw [Array.length_toList, Array.length_toList]; exact hacc.1) fun j v e => by
    obtain ⟨c, u, h1, h2⟩ := hacc.2 j v (by rw [← Array.getElem?_toList]; exact e)
    exact ⟨c, u, by rw [Array.getElem?_toList]; exact h1, h2⟩
  exact ⟨.ref s.heap.objs.size, _, I.laid (t' := tk) hk (Nat.le_refl _) (show ObjOk X.prog X.w _ h' _ (.lst _) from ⟨by rw [List.length_map, Array.length_toList]; exact hz', acc'.toList, c', hv, by rw [Array.toArray_toList]; exact hS⟩), rfl, q _ (I.hok.fresh (Nat.le_refl _))⟩
/-! ### _law_letters -/
theorem erase_map {α β : Type} (f : α → β) : ∀ (l : List α) (i : Nat), (l.map f).eraseIdx i = (l.eraseIdx i).map f
  | [], _ => rfl
  | _ :: _, 0 => rfl
  | x :: l, i + 1 => congrArg (f x :: ·) (erase_map f l i)
def Ltr (x : Str) : Prop := ∃ c : Nat, 97 ≤ c ∧ c ≤ 122 ∧ x = ⟨#[c]⟩
def abc : List Str := (List.range 26).map fun c => ⟨#[c + 97]⟩
theorem abc_ltr : ∀ x ∈ abc, Ltr x := fun x h => by
  unfold abc at h
  obtain ⟨c, hc, rfl⟩ := List.mem_map.mp h
  have := List.mem_range.mp hc
  exact ⟨c + 97, by omega, by omega, rfl⟩
theorem abc_is : ((Str.ofString "abcdefghijklmnopqrstuvwxyz").cps.toList.map fun c => V.str ⟨#[c]⟩) = abc.map V.str := by decide +kernel
theorem abc_len : abc.length = 26 := by decide +kernel
theorem scLett : FnScope ["_law_deck_here", "_law_size", "_law_way", "_law_some", "_law_found", "_law_k"] ["_law_deck_here", "_law_size"] (defScope sLett) := ⟨rfl, rfl, rfl, by decide +kernel, rfl, by decide +kernel, by decide +kernel⟩
def spLett : Sp := fun vs H Q _ => ∃ (D : Deck) (n m : Nat), vs = [.ref D.dk, .int (m : Int)] ∧ DeckOk H D n ∧ n + m + 1 ≤ 1000000 ∧ 1 ≤ m ∧ m ≤ 26 ∧ ∀ (p : Addr) (xs : List Str) (n' : Nat) (H' : Hp), DeckOk H' D n' → n' ≤ n + m + 1 → SameD D H H' →
  H' p = some (.lst (xs.map V.str)) → xs.length = m → (∀ x ∈ xs, Ltr x) → Off D p → Q (.ref p) H'
section
variable {P : Program} {w : World} {K : PySem.W.Frag} {mg : Str → Option Value} {base : Heap} {f fN : Addr} {fd fdN : FuncData}
theorem ok_lett {k : Nat} (F : Fun K "_law_letters" "_law_letters" sLett f fd) (G : FnOk P w K mg base CX0 k fN fdN ["_law_deck_here", "_law_many"] spNext) (bN : Binds K fdN ["_law_deck_here", "_law_many"] []) (kN : PySem.W.keepIn K (.ref fN) = true) (gN : mg "_law_next" = some (.ref fN)) (M : Mgs mg) (ms : mg "sorted" = none) :
    FnOk P w K mg base CX0 (k + 1) f fd ["_law_deck_here", "_law_size"] spLett := by
  refine F.ok scLett (fun vs H Q E h => ?_) (fun cdv A outer s H vs Q E hr h => ?_)
  · obtain ⟨D, n, m, rfl, _⟩ := h
    rfl
  obtain ⟨D, n, m, rfl, d, hn, m0, m1, q⟩ := h
  refine ⟨_, pss_cons (ps_asg (pe_tup (pa_cons (pe_call G hr rfl gN kN bN .nil pass0 (pa_cons (pv 0) (pa_cons pe_int pa_nil))) (pa_cons (pe_callTy (call_signs rfl) rfl M.list (by decide +kernel) (pa_cons pe_str pa_nil)) pa_nil))) (pg_tup rfl (pgs_cons (pg_name (i := 2) scLett.nd rfl (.inl rfl)) (pgs_cons (pg_name (i := 3) scLett.nd rfl (.inr rfl)) pgs_nil))))
    (pss_cons (ps_if (pt_cmpR op_eq (pv 2) pe_int (nomark _)) (pss_one (ps_ret (pe_op op_rep (pe_lst (pa_cons (pe_ix ix_list (pv 3) (pe_call G hr rfl gN kN bN .nil pass0 (pa_cons (pv 0) (pa_cons pe_int pa_nil))) (fun _ _ => rfl)) pa_nil)) (pv 1)))) pss_nil)
    (pss_cons (ps_if (pt_cmpR op_eq (pv 2) pe_int (nomark _)) (pss_one (ps_ret (pe_lc (own := [("_law_k", 5)]) (g := gName 5) (tt := tYes) rfl scLett.nd (pi_range1 rfl M.range (pa_cons (pv 1) pa_nil)) (blkOk_by (N := ["_law_deck_here", "_law_size", "_law_way", "_law_some", "_law_found", "_law_k"]) (sc := defScope sLett) (by decide +kernel))
        (fun _ _ _ _ _ => pg_name (i := 5) scLett.nd rfl (Or.inl rfl)) (fun _ _ _ _ _ => pts_nil) (fun _ _ _ _ _ => pe_ix (show IxR _ (rIxL K) from ix_list) (pv 3) (pe_call G hr rfl gN kN bN .nil pass0 (pa_cons (pv 0) (pa_cons pe_int pa_nil))) (fun _ _ => rfl))))) pss_nil)
    (pss_cons (ps_set (i := 4) scLett.nd rfl (.inl rfl) (pe_lst pa_nil))
    (pss_cons (ps_while PassesOwn.never (pt_cmpR op_lt (pe_callB call_len_seq rfl M.len PySem.boot_len (pa_cons (pv 4) pa_nil)) (pv 1) (nomark _))
      (pss_one (ps_expr (pe_bm PySem.F.plainAttrs_list PySem.F.slot_list_append PySem.F.type_list_append mt_append (pv 4) (pa_cons
        (pe_bm PySem.F.plainAttrs_list PySem.F.slot_list_pop PySem.F.type_list_pop mt_popAt (pv 3) (pa_cons (pe_call G hr rfl gN kN bN .nil pass0 (pa_cons (pv 0) (pa_cons (pe_callB call_len_seq rfl M.len PySem.boot_len (pa_cons (pv 3) pa_nil)) pa_nil))) pa_nil)) pa_nil)))))
    (pss_one (ps_ret (pe_ifExp (pt_cmpR op_eq (pv 2) pe_int (nomark _)) (pv 4) (pe_callB cr_sortedS rfl ms (by decide +kernel) (pa_cons (pv 4) pa_nil))))))))), ?_⟩
  refine ⟨_, rfl, D, n, 4, rfl, d, by omega, by decide, by decide, fun wy H1 w0 w1 d1 s1 => ?_⟩
  refine ⟨_, rfl, by decide +kernel, fun sa nsa => ⟨(by show 2 ≤ sizeLine; decide), fun tp ntp => ?_⟩⟩
  rw [abc_is] at ntp ⊢
  refine ⟨tp, _, rfl, SqT.of upd_same, rfl, _, _, rfl, _, _, rfl, rfl, ?_⟩
  have q1 := same_new nsa (.lst (abc.map V.str))
  have q2 := same_new ntp (.tup [.int wy, .ref sa])
  have d2 := (d1.same q1).same q2
  have sd : SameD D H (upd (upd H1 sa (.lst (abc.map V.str))) tp (.tup [.int wy, .ref sa])) := s1.trans (.of (q1.trans q2))
  have esa : (upd (upd H1 sa (.lst (abc.map V.str))) tp (.tup [.int wy, .ref sa])) sa = some (.lst (abc.map V.str)) := q2 _ _ upd_same
  have nsaH : H sa = none := s1.free d1 nsa
  have na := d1.new nsa
  generalize upd (upd H1 sa (.lst (abc.map V.str))) tp (.tup [.int wy, .ref sa]) = H2 at d2 sd esa
  have al := abc_len
  have abcI : ∀ i : Int, 0 ≤ i → i < 26 → ∃ x, atI (abc.map V.str) i = some (.str x) ∧ Ltr x := fun i h0 h1 => by
    have hl : i.toNat < abc.length := by omega
    exact ⟨abc[i.toNat], at_map h0 (List.getElem?_eq_getElem hl), abc_ltr _ (List.getElem_mem hl)⟩
  -- way == 2
  refine ⟨_, rfl, rfl, _, rfl, ite2 (fun _ => ?_) (fun _ => ?_)⟩
  · refine ⟨_, rfl, _, rfl, D, n + 1, 26, rfl, d2, by omega, by decide, by decide, fun i H3 i0 i1 d3 s3 => ?_⟩
    obtain ⟨x, hx, lx⟩ := abcI i i0 i1
    refine ⟨sa, _, _, _, rfl, rfl, SqL.of (s3.at na esa), hx, (by show 1 ≤ sizeLine; decide), fun l nl => ?_⟩
    refine ⟨_, rfl, l, _, _, rfl, rfl, upd_same, by omega, by omega, ?_, fun p np => ?_⟩
    · rw [Int.toNat_natCast]
      exact small (by show 1 * m ≤ 1000; omega)
    rw [Int.toNat_natCast]
    rw [rep_flat, ← List.map_replicate]
    have q3 := same_new nl (.lst [.str x])
    have q4 := same_new np (.lst ((List.replicate m x).map V.str))
    have d5 := (d3.same q3).same q4
    have nd := (d3.same q3).new np
    refine q p (List.replicate m x) (n + 1 + 1) _ d5 (by omega) (sd.trans (s3.trans (.of (q3.trans q4)))) upd_same (List.length_replicate) (fun y hy => ?_) nd
    rw [List.eq_of_mem_replicate hy]
    exact lx
  -- way == 3
  refine ⟨_, rfl, rfl, _, rfl, ite2 (fun _ => ?_) (fun _ => ?_)⟩
  · refine ⟨_, rfl, _, rfl, by omega, by omega, fun L nL => ?_⟩
    have nd := d2.new nL
    rw [Int.toNat_natCast]
    refine lc_range (lo := 0) (n := m) (fun i H' => ∃ n', DeckOk H' D n' ∧ n' ≤ n + 1 + i ∧ SameD D H2 H' ∧ ∃ xs : List Str, xs.length = i ∧ (∀ x ∈ xs, Ltr x) ∧ H' L = some (.lst (xs.map V.str))) ⟨n + 1, d2.same (same_new nL _), by omega, .of (same_new nL _), [], rfl, (fun _ h => nomatch h), upd_same⟩ (fun i H' hi hp => ?_) (fun H' hp => ?_)
    · obtain ⟨n', d', hn', s', xs, hxl, hxs, eL⟩ := hp
      refine ⟨rfl, kept ?_⟩
      refine ⟨_, rfl, _, rfl, D, n', 2, rfl, d', by omega, by decide, by decide, fun j H4 j0 j1 d4 s4 => ?_⟩
      obtain ⟨x, hx, lx⟩ := abcI j j0 (by omega)
      have e4 := s4.at nd eL
      refine ⟨sa, _, _, _, rfl, rfl, SqL.of (s4.at na (s'.at na esa)), hx, _, e4, by rw [List.length_map]; exact small1000 (by omega), n' + 1, d4.put nd _, by omega, (s'.trans s4).put nL _, xs ++ [x], by rw [List.length_append, hxl]; rfl, fun y hy => ?_, ?_⟩
      · rcases List.mem_append.mp hy with h | h
        · exact hxs y h
        · rw [List.mem_singleton.mp h]
          exact lx
      · rw [upd_same, List.map_append]
        rfl
    · obtain ⟨n', d', hn', s', xs, hxl, hxs, eL⟩ := hp
      exact q L xs n' H' d' (by omega) (sd.trans s') eL hxl hxs nd
  refine ⟨(by show 0 ≤ sizeLine; decide), fun fa nfa => ?_⟩
  have nf := d2.new nfa
  have nsf : sa ≠ fa := ne_of_none esa nfa
  have nfH : H fa = none := sd.free d2 nfa
  refine while_by (fun σ H' => σ = [some (.ref D.dk), some (.int (m : Int)), some (.int wy), some (.ref sa), some (.ref fa), none] ∧ ∃ (n' : Nat) (xs rest : List Str), DeckOk H' D n' ∧ n' ≤ n + 1 + xs.length ∧ SameD D H H' ∧ xs.length ≤ m ∧ xs.length + rest.length = 26 ∧ (∀ x ∈ xs, Ltr x) ∧ (∀ x ∈ rest, Ltr x) ∧ H' fa = some (.lst (xs.map V.str)) ∧ H' sa = some (.lst (rest.map V.str)))
    (fun σ H' => match H' fa with | some (.lst xs) => m - xs.length | _ => 0) ⟨rfl, n + 1, [], abc, d2.put nf _, by omega, sd.put nfH _, Nat.zero_le _, by rw [al]; rfl, (fun _ h => nomatch h), abc_ltr, upd_same, by rw [upd_ne nsf]; exact esa⟩ (fun σ H' hp => ?_) ?_
  · obtain ⟨rfl, n', xs, rest, d', hn', s', hm, h26, hxs, hrs, ef, es⟩ := hp
    refine ⟨_, rfl, fa, _, rfl, .inl (SqL.of ef), _, rfl, _, _, rfl, rfl, _, rfl, ite2 (fun c => ?_) (fun c => ?_)⟩
    · have c' : ((xs.map V.str).length : Int) < (m : Int) := of_decide_eq_true c
      rw [List.length_map] at c'
      refine ⟨.ref fa, rfl, .inl ⟨rfl, _, SqL.of ef⟩, .ref sa, rfl, .inl ⟨rfl, _, SqL.of es⟩, _, rfl, _, rfl, sa, _, rfl, .inl (SqL.of es), D, n', _, rfl, d', by omega, ?_, ?_, fun j H4 j0 j1 d4 s4 => ?_⟩
      · rw [List.length_map]; omega
      · rw [List.length_map]; omega
      rw [List.length_map] at j1
      have hj : j.toNat < rest.length := by omega
      have es4 := s4.at na es
      have ef4 := s4.at nf ef
      refine ⟨sa, _, j, j.toNat, .str rest[j.toNat], rfl, rfl, es4, by omega, by omega, ?_, ?_, ?_⟩
      · exact (ixN_seq (ixN_nat j0 (by rw [List.length_map]; omega))).1
      · rw [List.getElem?_map, List.getElem?_eq_getElem hj]; rfl
      have ef5 : (upd H4 sa (.lst ((rest.map V.str).eraseIdx j.toNat))) fa = some (.lst (xs.map V.str)) := by rw [upd_ne nsf.symm]; exact ef4
      refine ⟨fa, _, _, rfl, rfl, ef5, by rw [List.length_map]; exact small1000 (by omega), ?_⟩
      refine ⟨⟨rfl, n' + 1, xs ++ [rest[j.toNat]], rest.eraseIdx j.toNat, (d4.put na _).put nf _, ?_, ((s'.trans s4).put nsaH _).put nfH _, ?_, ?_, fun y hy => ?_, fun y hy => hrs y (List.mem_of_mem_eraseIdx hy), ?_, ?_⟩, ?_⟩
      · rw [List.length_append]
        show n' + 1 ≤ n + 1 + (xs.length + 1)
        omega
      · rw [List.length_append]
        show xs.length + 1 ≤ m
        omega
      · rw [List.length_append, List.length_eraseIdx_of_lt hj]
        show xs.length + 1 + (rest.length - 1) = 26
        omega
      · rcases List.mem_append.mp hy with h | h
        · exact hxs y h
        · rw [List.mem_singleton.mp h]
          exact hrs _ (List.getElem_mem hj)
      · rw [upd_same, List.map_append]
        rfl
      · rw [upd_ne nsf, upd_same, erase_map]
      · show (match (upd (upd H4 sa _) fa (.lst (xs.map V.str ++ [V.str rest[j.toNat]]))) fa with | some (.lst xs) => m - xs.length | _ => 0) < (match H' fa with | some (.lst xs) => m - xs.length | _ => 0)
        rw [upd_same, ef]
        show m - (xs.map V.str ++ [V.str rest[j.toNat]]).length < m - (xs.map V.str).length
        rw [List.length_append, List.length_map]
        show m - (xs.length + 1) < m - xs.length
        omega
    · have c' : ¬ ((xs.map V.str).length : Int) < (m : Int) := of_decide_eq_false (Bool.eq_false_iff.mpr c)
      rw [List.length_map] at c'
      have hlen : xs.length = m := by omega
      refine ⟨_, rfl, rfl, _, rfl, ite2 (fun _ => ?_) (fun _ => ?_)⟩
      · exact ⟨_, rfl, q fa xs n' H' d' (by omega) s' ef hlen hxs nf⟩
      · refine ⟨_, rfl, fa, xs, rfl, SqL.of ef, by omega, fun ys p pm _ np => ?_⟩
        exact q p ys n' _ (d'.same (same_new np _)) (by omega) (s'.trans (.of (same_new np _))) upd_same (by rw [pm.length_eq]; exact hlen) (fun x hx => hxs x (pm.mem_iff.mp hx)) (d'.new np)
  · intro σ H' Q1 Q2 hQ h
    obtain ⟨v, e, p, ys, e2, e3, v2, e4, i, j, e5, e6, k, e7, q7⟩ := h
    exact ⟨v, e, p, ys, e2, e3, v2, e4, i, j, e5, e6, k, e7, hQ _ _ q7⟩
end
/-! ### _law_grown -/
def T.btw : T → List Str
  | .nil => []
  | .node l x r => l.btw ++ x :: r.btw
theorem T.btw_len : ∀ t : T, t.btw.length = t.size
  | .nil => rfl
  | .node l x r => by
    have h1 := l.btw_len
    have h2 := r.btw_len
    show (l.btw ++ x :: r.btw).length = l.size + 1 + r.size
    rw [List.length_append, List.length_cons]
    omega
theorem scGrown : FnScope ["_law_deck_here", "_law_size", "_law_way", "_law_letters_here", "_law_many", "_law_left"] ["_law_deck_here", "_law_size", "_law_way", "_law_letters_here"] (defScope sGrown) := ⟨rfl, rfl, rfl, by decide +kernel, rfl, by decide +kernel, by decide +kernel⟩
def spGrown (n : Nat) : Sp := fun vs H Q _ => ∃ (D : Deck) (c : Nat) (way : Int) (p : Addr) (xs : List Str), vs = [.ref D.dk, .int (xs.length : Int), .int way, .ref p] ∧ DeckOk H D c ∧ c + xs.length ≤ 1000000 ∧ xs.length < n ∧ xs.length ≤ 1000 ∧ 0 ≤ way ∧ way ≤ 4 ∧
  H p = some (.lst (xs.map V.str)) ∧ Off D p ∧ ∀ (v : V) (t : T) (c' : Nat) (H' : Hp), DeckOk H' D c' → c' ≤ c + xs.length → SameD D H H' → TreeAt H' v t → t.btw = xs → Q v H'
theorem pick_many {z : Int} {i way : Int} (z1 : 1 ≤ z) (i0 : 0 ≤ i) (i1 : i < z) (w0 : 0 ≤ way) (w1 : way ≤ 4) : ∃ m : Nat, atI [V.int i, V.int (z - 1), V.int 0, V.int ((z - 1) * (z % 2)), V.int ((z - 1) / 2)] way = some (.int (m : Int)) ∧ (m : Int) < z := by
  have h : way = ((0 : Nat) : Int) ∨ way = ((1 : Nat) : Int) ∨ way = ((2 : Nat) : Int) ∨ way = ((3 : Nat) : Int) ∨ way = ((4 : Nat) : Int) := by omega
  rcases h with rfl | rfl | rfl | rfl | rfl
  · exact ⟨i.toNat, by rw [Int.toNat_of_nonneg i0]; exact atI_nat rfl, by omega⟩
  · exact ⟨(z - 1).toNat, by rw [Int.toNat_of_nonneg (by omega)]; exact atI_nat rfl, by omega⟩
  · exact ⟨0, atI_nat rfl, by omega⟩
  · have h2 : z % 2 = 0 ∨ z % 2 = 1 := by omega
    rcases h2 with e | e
    · exact ⟨0, by rw [e, Int.mul_zero]; exact atI_nat rfl, by omega⟩
    · exact ⟨(z - 1).toNat, by rw [e, Int.mul_one, Int.toNat_of_nonneg (by omega)]; exact atI_nat rfl, by omega⟩
  · exact ⟨((z - 1) / 2).toNat, by rw [Int.toNat_of_nonneg (by omega)]; exact atI_nat rfl, by omega⟩
section
variable {P : Program} {w : World} {K : PySem.W.Frag} {mg : Str → Option Value} {base : Heap} {f fN : Addr} {fd fdN : FuncData}
theorem ok_grown (F : Fun K "_law_grown" "_law_grown" sGrown f fd) (b : Binds K fd ["_law_deck_here", "_law_size", "_law_way", "_law_letters_here"] []) (g : mg "_law_grown" = some (.ref f))
    (GN : FnOk P w K mg base CX0 1 fN fdN ["_law_deck_here", "_law_many"] spNext) (bN : Binds K fdN ["_law_deck_here", "_law_many"] []) (kN : PySem.W.keepIn K (.ref fN) = true) (gN : mg "_law_next" = some (.ref fN)) :
    ∀ n : Nat, FnOk P w K mg base CX0 (n + 1) f fd ["_law_deck_here", "_law_size", "_law_way", "_law_letters_here"] (spGrown n)
  | 0 => by
    have no : ∀ vs H Q E, ¬ spGrown 0 vs H Q E := fun vs H Q E h => by
      obtain ⟨D, c, way, p, xs, _, _, _, h1, _⟩ := h
      omega
    exact ⟨fun vs H Q E h => absurd h (no vs H Q E), fun A outer s H args us vs Q E _ _ _ _ h => absurd h (no vs H Q E)⟩
  | n + 1 => by
    have G := ok_grown F b g GN bN kN gN n
    refine F.ok scGrown (fun vs H Q E h => ?_) (fun cdv A outer s H vs Q E hr h => ?_)
    · obtain ⟨D, c, way, p, xs, rfl, _⟩ := h
      rfl
    obtain ⟨D, c, way, p, xs, rfl, d, hc, hn, hx, w0, w1, ep, op, q⟩ := h
    have hr1 : Room 1 (A.deeper (envOfC "_law_grown" (defScope sGrown) s.heap.objs.size f cdv)) := hr.mono (by omega)
    refine ⟨_, pss_cons (ps_if (pt_cmpR op_eq (pv 1) pe_int (nomark _)) (pss_one (ps_ret pe_non)) pss_nil)
      (pss_cons (ps_set (i := 4) scGrown.nd rfl (.inl rfl) (pe_ix ix_list (pe_lst (pa_cons (pe_call GN hr1 rfl gN kN bN .nil pass0 (pa_cons (pv 0) (pa_cons (pv 1) pa_nil))) (pa_cons (pe_op op_sub (pv 1) pe_int) (pa_cons pe_int
          (pa_cons (pe_op op_mul (pe_op op_sub (pv 1) pe_int) (pe_op op_mod (pv 1) pe_int)) (pa_cons (pe_op op_fdiv (pe_op op_sub (pv 1) pe_int) pe_int) pa_nil)))))) (pv 2) (fun _ _ => rfl)))
      (pss_cons (ps_set (i := 5) scGrown.nd rfl (.inl rfl) (pe_call G hr rfl g F.kp b .nil pass0 (pa_cons (pv 0) (pa_cons (pv 4) (pa_cons (pv 2) (pa_cons (pe_slice sl_list (pv 3) po_none (po_some (pv 4))) pa_nil))))))
      (pss_one (ps_ret (pe_tup (pa_cons (pv 5) (pa_cons (pe_ix ix_list (pv 3) (pv 4) (fun _ _ => rfl)) (pa_cons
        (pe_call G hr rfl g F.kp b .nil pass0 (pa_cons (pv 0) (pa_cons (pe_op op_sub (pe_op op_sub (pv 1) pe_int) (pv 4)) (pa_cons (pv 2) (pa_cons (pe_slice sl_list (pv 3) (po_some (pe_op op_add (pv 4) pe_int)) po_none) pa_nil))))) pa_nil)))))))), ?_⟩
    refine ⟨_, rfl, rfl, _, rfl, ite2 (fun e => ?_) (fun e => ?_)⟩
    · have e0 : (xs.length : Int) = 0 := V.int.inj (of_decide_eq_true e)
      have ex : xs = [] := List.eq_nil_of_length_eq_zero (by omega)
      exact q .non .nil c H d (by omega) (SameD.refl D H) .nil (by rw [ex]; rfl)
    · have e0 : ¬ (xs.length : Int) = 0 := fun z => e (decide_eq_true (congrArg V.int z))
      have x1 : (1 : Int) ≤ (xs.length : Int) := by omega
      refine ⟨_, rfl, _, rfl, D, c, _, rfl, d, by omega, by omega, by omega, fun i H1 i0 i1 d1 s1 => ?_⟩
      refine ⟨_, rfl, _, _, rfl, rfl, _, rfl, _, _, rfl, rfl, _, rfl, _, _, rfl, rfl, (show (0 : Int) < 2 by decide), _, _, rfl, rfl, .inl ⟨by omega, by omega⟩, ?_⟩
      refine ⟨_, rfl, _, _, rfl, rfl, _, _, rfl, rfl, ⟨by decide, by decide⟩, (by show 5 ≤ sizeLine; decide), fun l nl => ?_⟩
      obtain ⟨m, hm, ml⟩ := pick_many x1 i0 i1 w0 w1
      refine ⟨_, rfl, l, _, _, _, rfl, rfl, SqL.of upd_same, hm, ?_⟩
      have q1 := same_new nl (.lst [V.int i, V.int ((xs.length : Int) - 1), V.int 0, V.int (((xs.length : Int) - 1) * ((xs.length : Int) % 2)), V.int (((xs.length : Int) - 1) / 2)])
      have d2 := d1.same q1
      have s2 := s1.trans (SameD.of q1)
      have ep2 := s2.at op ep
      -- left
      refine ⟨_, rfl, _, rfl, _, rfl, _, rfl, _, rfl, _, rfl, p, _, rfl, SqL.of ep2, fun p1 np1 => ?_⟩
      rw [cut_to, ← List.map_take] at *
      have lt : (xs.take m).length = m := by rw [List.length_take]; omega
      have q2 := same_new np1 (.lst ((xs.take m).map V.str))
      have d3 := d2.same q2
      have s3 := s2.trans (SameD.of q2)
      refine ⟨D, c + 1, way, p1, xs.take m, by rw [lt]; rfl, d3, by omega, by omega, by omega, w0, w1, upd_same, d2.new np1, fun v1 t1 c1 H3 d4 hc1 s4 at1 bt1 => ?_⟩
      have ep4 := (s3.trans s4).at op ep
      have hm' : m < xs.length := by omega
      have am : atI (xs.map V.str) ((m : Nat) : Int) = some (.str xs[m]) := at_map (by omega) (by rw [Int.toNat_natCast]; exact List.getElem?_eq_getElem hm')
      refine ⟨_, rfl, _, rfl, _, rfl, p, _, _, _, rfl, rfl, SqL.of ep4, am, ?_⟩
      refine ⟨_, rfl, _, rfl, _, _, rfl, rfl, _, rfl, _, _, rfl, rfl, _, rfl, _, rfl, _, rfl, _, _, rfl, rfl, _, rfl, p, _, rfl, SqL.of ep4, fun p2 np2 => ?_⟩
      have em : ((m : Nat) : Int) + 1 = ((m + 1 : Nat) : Int) := by omega
      rw [show cutV (xs.map V.str) (some (((m : Nat) : Int) + 1)) none = (xs.drop (m + 1)).map V.str by rw [em, cut_from, List.map_drop]]
      have ld : (xs.drop (m + 1)).length = xs.length - 1 - m := by rw [List.length_drop]; omega
      have ldi : (((xs.drop (m + 1)).length : Nat) : Int) = (xs.length : Int) - 1 - (m : Int) := by rw [ld]; omega
      have q3 := same_new np2 (.lst ((xs.drop (m + 1)).map V.str))
      have d5 := d4.same q3
      refine ⟨D, c1, way, p2, xs.drop (m + 1), by rw [ldi]; rfl, d5, by omega, by omega, by omega, w0, w1, upd_same, d4.new np2, fun v2 t2 c2 H4 d6 hc2 s5 at2 bt2 => ?_⟩
      refine ⟨(by show 3 ≤ sizeLine; decide), fun r nr => ?_⟩
      have q4 := same_new nr (.tup [v1, .str xs[m], v2])
      refine q (.ref r) (.node t1 xs[m] t2) c2 _ (d6.same q4) (by omega) (s3.trans (s4.trans ((SameD.of q3).trans (s5.trans (SameD.of q4))))) (.node upd_same ?_ (at2.same q4)) ?_
      · exact ((at1.same q3).keep (s5.keepT d5)).same q4
      · show t1.btw ++ xs[m] :: t2.btw = xs
        rw [bt1, bt2]
        rw [← List.drop_eq_getElem_cons hm', List.take_append_drop]
end
/-! ### _law_tree -/
theorem scTree : FnScope ["_law_deck_here", "_law_limit", "_law_size", "_law_way"] ["_law_deck_here", "_law_limit"] (defScope sTree) := ⟨rfl, rfl, rfl, by decide +kernel, rfl, by decide +kernel, by decide +kernel⟩
def spTree : Sp := fun vs H Q _ => ∃ (D : Deck) (n lim : Nat), vs = [.ref D.dk, .int (lim : Int)] ∧ DeckOk H D n ∧ n + 2 * lim + 10 ≤ 1000000 ∧ 1 ≤ lim ∧ lim ≤ 26 ∧
  ∀ (v : V) (t : T) (n' : Nat) (H' : Hp), DeckOk H' D n' → n' ≤ n + 2 * lim + 3 → SameD D H H' → TreeAt H' v t → 1 ≤ t.size → t.size ≤ lim → (∀ x ∈ t.btw, Ltr x) → Q v H'
theorem pick_way {i : Int} (i0 : 0 ≤ i) (i1 : i < 7) : ∃ z : Int, atI [V.int 0, V.int 0, V.int 0, V.int 1, V.int 2, V.int 3, V.int 4] i = some (.int z) ∧ 0 ≤ z ∧ z ≤ 4 := by
  have h : i = ((0 : Nat) : Int) ∨ i = ((1 : Nat) : Int) ∨ i = ((2 : Nat) : Int) ∨ i = ((3 : Nat) : Int) ∨ i = ((4 : Nat) : Int) ∨ i = ((5 : Nat) : Int) ∨ i = ((6 : Nat) : Int) := by omega
  rcases h with rfl | rfl | rfl | rfl | rfl | rfl | rfl
  · exact ⟨0, atI_nat rfl, by decide, by decide⟩
  · exact ⟨0, atI_nat rfl, by decide, by decide⟩
  · exact ⟨0, atI_nat rfl, by decide, by decide⟩
  · exact ⟨1, atI_nat rfl, by decide, by decide⟩
  · exact ⟨2, atI_nat rfl, by decide, by decide⟩
  · exact ⟨3, atI_nat rfl, by decide, by decide⟩
  · exact ⟨4, atI_nat rfl, by decide, by decide⟩
section
variable {P : Program} {w : World} {K : PySem.W.Frag} {mg : Str → Option Value} {base : Heap} {f fN fL fG : Addr} {fd fdN fdL fdG : FuncData}
theorem ok_tree (F : Fun K "_law_tree" "_law_tree" sTree f fd)
    (GN : FnOk P w K mg base CX0 1 fN fdN ["_law_deck_here", "_law_many"] spNext) (bN : Binds K fdN ["_law_deck_here", "_law_many"] []) (kN : PySem.W.keepIn K (.ref fN) = true) (gN : mg "_law_next" = some (.ref fN))
    (GL : FnOk P w K mg base CX0 2 fL fdL ["_law_deck_here", "_law_size"] spLett) (bL : Binds K fdL ["_law_deck_here", "_law_size"] []) (kL : PySem.W.keepIn K (.ref fL) = true) (gL : mg "_law_letters" = some (.ref fL))
    (GG : FnOk P w K mg base CX0 28 fG fdG ["_law_deck_here", "_law_size", "_law_way", "_law_letters_here"] (spGrown 27)) (bG : Binds K fdG ["_law_deck_here", "_law_size", "_law_way", "_law_letters_here"] []) (kG : PySem.W.keepIn K (.ref fG) = true) (gG : mg "_law_grown" = some (.ref fG)) :
    FnOk P w K mg base CX0 29 f fd ["_law_deck_here", "_law_limit"] spTree := by
  refine F.ok scTree (fun vs H Q E h => ?_) (fun cdv A outer s H vs Q E hr h => ?_)
  · obtain ⟨D, n, m, rfl, _⟩ := h
    rfl
  obtain ⟨D, n, lim, rfl, d, hn, l0, l1, q⟩ := h
  have hr1 : Room 1 (A.deeper (envOfC "_law_tree" (defScope sTree) s.heap.objs.size f cdv)) := hr.mono (by omega)
  have hr2 : Room 2 (A.deeper (envOfC "_law_tree" (defScope sTree) s.heap.objs.size f cdv)) := hr.mono (by omega)
  refine ⟨_, pss_cons (ps_par (i := 2) (j := 3) (by rfl) scTree.nd rfl rfl (by decide) rfl rfl (pa_cons (pe_op op_add pe_int (pe_call GN hr1 rfl gN kN bN .nil pass0 (pa_cons (pv 0) (pa_cons (pv 1) pa_nil))))
      (pa_cons (pe_ix ix_list (pe_lst (pa_cons pe_int (pa_cons pe_int (pa_cons pe_int (pa_cons pe_int (pa_cons pe_int (pa_cons pe_int (pa_cons pe_int pa_nil)))))))) (pe_call GN hr1 rfl gN kN bN .nil pass0 (pa_cons (pv 0) (pa_cons pe_int pa_nil))) (fun _ _ => rfl)) pa_nil)) (by rfl))
    (pss_one (ps_ret (pe_call GG hr rfl gG kG bG .nil pass0 (pa_cons (pv 0) (pa_cons (pv 2) (pa_cons (pv 3) (pa_cons (pe_call GL hr2 rfl gL kL bL .nil pass0 (pa_cons (pv 0) (pa_cons (pv 2) pa_nil))) pa_nil))))))), ?_⟩
  refine ⟨_, rfl, _, rfl, D, n, _, rfl, d, by omega, by omega, by omega, fun i H1 i0 i1 d1 s1 => ?_⟩
  refine ⟨_, _, rfl, rfl, (by show 7 ≤ sizeLine; decide), fun l nl => ?_⟩
  have q1 := same_new nl (.lst [V.int 0, V.int 0, V.int 0, V.int 1, V.int 2, V.int 3, V.int 4])
  refine ⟨_, rfl, D, n + 1, 7, rfl, d1.same q1, by omega, by decide, by decide, fun j H2 j0 j1 d2 s2 => ?_⟩
  obtain ⟨z, hz, z0, z4⟩ := pick_way j0 j1
  refine ⟨l, _, _, _, rfl, rfl, SqL.of (s2.at (d1.new nl) upd_same), hz, ?_⟩
  refine ⟨_, _, rfl, ?_⟩
  have ei : (1 : Int) + i = (((1 + i).toNat : Nat) : Int) := by omega
  have s3 := s1.trans ((SameD.of q1).trans s2)
  refine ⟨_, rfl, _, rfl, _, rfl, _, rfl, _, rfl, D, n + 2, (1 + i).toNat, by rw [← ei]; rfl, d2, by omega, by omega, by omega, fun p xs n3 H3 d3 hn3 s4 ep hxl hxs op => ?_⟩
  refine ⟨D, n3, z, p, xs, by rw [hxl, ← ei]; rfl, d3, by omega, by omega, by omega, z0, z4, ep, op, fun v t c' H4 d4 hc' s5 at4 bt => ?_⟩
  have hs := t.btw_len
  rw [bt] at hs
  exact q v t c' H4 d4 (by omega) (s3.trans (s4.trans s5)) at4 (by omega) (by omega) (by rw [bt]; exact hxs)
end
/-! ### a def entered at one caller -/
theorem enter_def {P : Program} {w : World} {K : PySem.W.Frag} {mg : Str → Option Value} {base : Heap} {f : Addr} {fd : FuncData} {N ps : List Str} {k : Nat} {x qual : Str} {st : Stmt} (F : Fun K x qual st f fd) (S : FnScope N ps (defScope st))
    {A : Around} {outer : List Env} {s : Shared} {H : Hp} {args : Args} {us : List Value} {vs : List V} {Q : VK} {E : XK}
    (room : Room (k + 1) A) (en : Env0 P w K mg base A outer s H) (bd : BindsTo s fd args (ps.zip us)) (rel : Vals vs us) (hln : vs.length = ps.length)
    (body : ∀ cdv : Value, Room k (A.deeper (envOfC qual (defScope st) s.heap.objs.size f cdv)) →
      ∃ t, PSs (cxOf CX0 P w K mg base N qual (defScope st) f cdv A outer s H E).nox (defBody st) t ∧ t { nx := fun _ H' => Q .non H', rt := Q } (start N vs) H) :
    codeAny (model P w) A (.call (.ref f) args) (CR CX0 outer P w H s Q E) s := by
  obtain ⟨oc, od, kV, doc, pm, an, cdv, ct, osl, rfl, look, code⟩ := F.ex
  have still : ∀ b o, base.get? b = some o → s.heap.get? b = some o := fun b o e => (en.bs b o e).1
  have inK : K.In s.heap := en.mod.kin.keeps still
  have noL : s.heap.NoLimit := en.mod.nolimit.keeps still
  have kinds : ∀ y ∈ ps.zip us, (defScope st).names.lookup y.1 = some .local ∨
      ((defScope st).names.lookup y.1 = some .cell ∧ ((cellsFrom (s.heap.objs.size + 1) (defScope st).names []).lookup y.1).isSome = true) := by
    rintro ⟨nm, u⟩ hy
    cases S.par nm (List.of_mem_zip hy).1 with
    | inl z => exact .inl z
    | inr z => exact .inr ⟨z, PySem.W.cellsFrom_some _ _ _ (.inl z)⟩
  have step := codeAny_call_function (prog := P) (w := w) (A := A) (s := s) room.depth (inK _ _ look) rfl S.co S.gen rfl (PySem.W.codeRec_of inK code)
    (R := CR CX0 outer P w H s Q E) (args := args)
  refine step (bd _ _ _ _ ?_)
  refine wpAny_newFunctionEnv_cells S.kind kinds ?_
  intro env isEnv s1 inC
  subst isEnv
  refine ⟨noL.keeps inC.toInCall.keep, codeAny_func ?_⟩
  obtain ⟨t, ht, hq⟩ := body cdv (room.deeper _)
  have J : Inv (cxOf CX0 P w K mg base N qual (defScope st) f cdv A outer s H E) [] (start N vs) H s1 := inv_start S room.hd en hln rel inC
  refine wpAny_mono (ht.nox.run [] s1 (start N vs) H _ J hq) ?_ ?_
  · intro fl s' done
    cases fl with
    | ret u =>
      obtain ⟨v, σ', H', I', rv, qv⟩ := done
      exact ⟨v, H', I'.os, I'.bare, I'.base, I'.hok, rv, qv⟩
    | next =>
      obtain ⟨σ', H', I', qv⟩ := done
      exact ⟨V.non, H', I'.os, I'.bare, I'.base, I'.hok, rfl, qv⟩
    | brk => exact done.elim fun _ z => z.elim fun _ z => z.2.elim
    | cont => exact done.elim fun _ z => z.elim fun _ z => z.2.elim
  · intro e s' z
    exact z
/-! ### the law's own call -/
theorem law_at {P : Program} {w : World} {K : PySem.W.Frag} {mg mb : Str → Option Value} {fa a : Addr} {s₁ : Shared} {vs : List Value} {ns : List Int}
    (inK : K.In s₁.heap) (gl : s₁.heap.Ns mainGlobals mg) (bl : s₁.heap.Ns builtinsNs mb) (isB : ∀ x : Str, x ≠ "__name__" → mb x = bootBuiltins x) (lim : s₁.heap.NoLimit) (gens : s₁.gens = #[])
    (obj : s₁.heap.get? a = some { cls := .type "list", data := .seq vs.toArray }) (hints : IntsAre vs ns) (few : ns.length ≤ sizeLine)
    (run : ∀ (base : Heap) (H : Hp), K.In base → base.Ns mainGlobals mg → Env0 P w K mg base callerA [] s₁ H → SqL K H a (ns.map V.int) →
      codeAny (model P w) callerA (.call (.ref fa) ⟨[.ref a], []⟩) (CR CX0 [] P w H s₁ (fun v _ => v = .bl true) fun _ _ _ => False) s₁) :
    codeAny (model P w) callerA (.call (.ref fa) ⟨[.ref a], []⟩) (fun r s' => r = .ok (.ret (.bool true)) ∧ OldK s₁.heap s'.heap ∧ s'.os = s₁.os ∧ AllBare s'.gens) s₁ := by
  have rel := vals_ints hints
  have lens := hints.length
  have found : ∃ H : Hp, Only H ∧ SqL K H a (ns.map V.int) ∧ HOk P w H s₁.heap ∧ (∀ b u, H b = some u → b = a ∧ K.lookup a = none) := by
    cases inText : K.lookup a with
    | some o =>
      have same := inK a o inText
      rw [obj] at same
      cases same
      have never : ∀ (u : HO), (none : Option HO) ≠ some u := fun u z => by cases z
      refine ⟨fun _ => none, fun _ => .inl rfl, ?_, (fun b u z => (never u z).elim), (fun b u z => (never u z).elim)⟩
      refine .inr ⟨_, vs.toArray, _, inText, rfl, rfl, rfl, ?_, ?_⟩
      · rw [List.size_toArray, lens]
        exact few
      · rw [List.toList_toArray]
        exact rel
    | none =>
      let here : HO := .frz { cls := .type "list", data := .seq vs.toArray } (.lst (ns.map V.int))
      have only : ∀ b u, (if b = a then some here else none) = some u → b = a ∧ u = here := fun b u z => by
        by_cases hb : b = a
        · rw [if_pos hb] at z
          exact ⟨hb, (Option.some.inj z).symm⟩
        · rw [if_neg hb] at z
          cases z
      refine ⟨fun b => if b = a then some here else none, fun b => ?_, .inl (.inr ⟨{ cls := .type "list", data := .seq vs.toArray }, if_pos rfl⟩), fun b u z => ?_, fun b u z => ⟨(only b u z).1, rfl⟩⟩
      · by_cases hb : b = a
        · exact .inr ⟨_, _, if_pos hb⟩
        · exact .inl (if_neg hb)
      · obtain ⟨rfl, rfl⟩ := only b u z
        exact ⟨obj, by rw [List.length_map]; exact few, vs, _, rel, obj⟩
  obtain ⟨H, hO, hS, hok, hA⟩ := found
  have under : ∀ {b : Addr} {o : Obj}, s₁.heap.get? b = some o → H b = none → (hidT s₁.heap H).get? b = some o := fun e z => hidT_get e z
  have notDict : ∀ {b : Addr} {o : Obj} {es : Array DictEntry} {ep : Nat}, s₁.heap.get? b = some o → o.data = .dict es ep → H b = none := by
    intro b o es ep e isD
    cases z : H b with
    | none => rfl
    | some u =>
      obtain ⟨rfl, _⟩ := hA b u z
      rw [obj] at e
      cases e
      cases isD
  have ns' : ∀ {b : Addr} {m : Str → Option Value}, s₁.heap.Ns b m → (hidT s₁.heap H).Ns b m := by
    rintro b m ⟨o, es, ep, e, isD, r⟩
    exact ⟨o, es, ep, under e (notDict e isD), isD, r⟩
  have inK' : K.In (hidT s₁.heap H) := by
    intro b o e
    refine under (inK b o e) ?_
    cases z : H b with
    | none => rfl
    | some u =>
      obtain ⟨rfl, no⟩ := hA b u z
      rw [no] at e
      cases e
  obtain ⟨mc, l1, l2⟩ := lim
  have env : Env0 P w K mg (hidT s₁.heap H) callerA [] s₁ H :=
    ⟨rfl, ⟨inK', ns' gl, ⟨mb, ns' bl, isB⟩, ⟨mc, ns' l1, l2⟩⟩, fun _ _ e => of_hidT e, Nat.le_of_eq (hidT_size _ _), trivial, (fun _ hb => nomatch hb), hok, .of_eq gens⟩
  refine codeAny_mono (run _ H inK' (ns' gl) env hS) ?_
  intro r s' h
  cases r with
  | error e => exact h.elim
  | ok fl =>
    cases fl with
    | next => exact h.elim
    | brk => exact h.elim
    | cont => exact h.elim
    | ret u =>
      obtain ⟨v, H', os, bare, un, hok', rv, isT⟩ := h
      subst isT
      cases rv
      refine ⟨rfl, OldK.of_keep ?_, os, bare⟩
      intro b o e
      cases z : H b with
      | none => exact un.keep b o e z (fun y => nomatch y) (fun y => nomatch y)
      | some u =>
        rcases hO b with y | ⟨ob, xs, y⟩
        · rw [z] at y
          cases y
        · have y2 := un.frzs b ob _ y
          obtain ⟨e1, _⟩ := hok b _ y
          obtain ⟨e2, _⟩ := hok' b _ y2
          rw [e] at e1
          cases e1
          exact e2
theorem T.data_deep : ∀ t : T, t.data.depth = t.deep
  | .nil => by simp only [T.data, PyData.depth, T.deep]
  | .node l x r => by
    have h1 := l.data_deep
    have h2 := r.data_deep
    simp only [T.data, PyData.depth, PyData.depthAll, T.deep, h1, h2]
    omega
def T.lt (t : T) : Prop := ∀ x ∈ t.btw, Ltr x
theorem strOk_ltr {x : Str} (h : Ltr x) : PyData.strOk x = true := by
  obtain ⟨c, h1, h2, rfl⟩ := h
  show (#[c] : Array Nat).all (· < 0x110000) = true
  rw [← Array.all_toList]
  show (decide (c < 0x110000) && true) = true
  rw [Bool.and_true, decide_eq_true_eq]
  omega
theorem T.lt_node {l r : T} {x : Str} (h : (T.node l x r).lt) : l.lt ∧ Ltr x ∧ r.lt :=
  ⟨fun y hy => h y (List.mem_append_left _ hy), h x (List.mem_append_right _ (List.mem_cons_self ..)), fun y hy => h y (List.mem_append_right _ (List.mem_cons_of_mem _ hy))⟩
theorem T.can : ∀ t : T, t.lt → t.data.canLay0 = true
  | .nil, _ => by simp only [T.data, PyData.canLay0]
  | .node l x r, h => by
    obtain ⟨h1, h2, h3⟩ := T.lt_node h
    simp only [T.data, PyData.canLay0, PyData.canLayAll0, l.can h1, r.can h3, strOk_ltr h2, Bool.and_self]
/-! ### repr of data -/
theorem call_reprD {X : Cx} (hg : X.A.guards = some []) (hu : X.A.units + 64 < cLine) : CallR X (.builtin "repr") (fun xs H Q => ∃ (a : Addr) (d : PyData), xs = [.ref a] ∧ Dp X.K H (.ref a) d ∧ d.showable = true ∧ d.hasDict = false ∧ d.depth ≤ 60 ∧ d.shown.length ≤ sizeLine ∧ Q (.str d.shown) H) := by
  intro pins s σ H xs us Q I r h
  obtain ⟨a, d, rfl, hd, hs, hn, hz, hl, q⟩ := h
  obtain ⟨u, rfl, rx⟩ := vals1 r
  cases rx
  obtain ⟨as, rd⟩ := Dp.reads I d _ _ hd rfl
  exact repr_of_reads' rd hs (PyData.noDict_hsm hn) hg (by omega) (fun _ _ e => e) (fun h' u tk hk => ⟨.str d.shown, H, I.kept (t' := tk) hk, ⟨u, rfl⟩, q⟩) hl
theorem T.showable : ∀ t : T, t.data.showable = true
  | .nil => by simp only [T.data, PyData.showable]
  | .node l x r => by simp only [T.data, PyData.showable, PyData.showableAll, l.showable, r.showable, Bool.and_self]
theorem T.noDict : ∀ t : T, t.data.hasDict = false
  | .nil => by simp only [T.data, PyData.hasDict]
  | .node l x r => by simp only [T.data, PyData.hasDict, PyData.hasDictAll, l.noDict, r.noDict, Bool.or_self]
theorem ltr_repr {x : Str} (h : Ltr x) : (reprText x).length ≤ 12 := by
  obtain ⟨c, h1, h2, rfl⟩ := h
  have := StrLaws.reprText_len ⟨#[c]⟩ (fun z hz => by
    have : z = c := by simpa using hz
    rw [this]
    exact Nat.lt_of_le_of_lt h2 (by decide))
  exact this
theorem T.shown_len : ∀ t : T, t.lt → t.data.shown.length ≤ 24 * t.size + 4
  | .nil, _ => by
    simp only [T.data, PyData.shown, T.size]
    decide +kernel
  | .node l x r, h => by
    obtain ⟨h1, h2, h3⟩ := T.lt_node h
    have a1 := l.shown_len h1
    have a2 := ltr_repr h2
    have a3 := r.shown_len h3
    simp only [T.data, PyData.shown, PyData.shownAll, T.size]
    refine Nat.le_trans (fmt_text _) ?_
    rw [piled_cons, piled_cons, piled_cons]
    have z : piled [] = 0 := rfl
    omega
theorem T.nar_data : ∀ t : T, nar t.data = true
  | .nil => by simp only [T.data, nar]
  | .node l x r => by
    simp only [T.data, nar, narAll, l.nar_data, r.nar_data, Bool.and_self, Bool.and_true, List.length_cons, List.length_nil]
    exact decide_eq_true (by omega)
theorem T.mir_deep : ∀ t : T, t.mir.deep = t.deep
  | .nil => rfl
  | .node l _ r => by
    have h1 := l.mir_deep
    have h2 := r.mir_deep
    show 1 + max r.mir.deep l.mir.deep = 1 + max l.deep r.deep
    omega
/-! ### texts of trees -/
def T.isNil : T → Bool
  | .nil => true
  | .node _ _ _ => false
def T.cs : T → List Nat
  | .nil => [45]
  | .node l x r => if (l.isNil && r.isNil) = true then x.cps.toList else x.cps.toList ++ 40 :: (l.cs ++ 44 :: (r.cs ++ [41]))
def tx (l : List Nat) : Str := ⟨l.toArray⟩
theorem tx_len (l : List Nat) : (tx l).length = l.length := rfl
theorem tx_app (a b : List Nat) : tx a ++ tx b = tx (a ++ b) := by
  show (⟨(tx a).cps ++ (tx b).cps⟩ : Str) = _
  simp [tx]
theorem tx_of (x : Str) : tx x.cps.toList = x := rfl
theorem tx_inj {a b : List Nat} (h : tx a = tx b) : a = b := congrArg (fun z : Str => z.cps.toList) h
def T.text (t : T) : Str := tx t.cs
theorem isNil_eq {t : T} : t.isNil = true ↔ t = .nil := by
  cases t with
  | nil => exact ⟨fun _ => rfl, fun _ => rfl⟩
  | node l x r => exact ⟨(fun h => nomatch h), (fun h => nomatch h)⟩
theorem cs_leaf (x : Str) : (T.node .nil x .nil).cs = x.cps.toList := rfl
theorem cs_node {l r : T} (x : Str) (h : ¬ (l = .nil ∧ r = .nil)) : (T.node l x r).cs = x.cps.toList ++ 40 :: (l.cs ++ 44 :: (r.cs ++ [41])) := by
  show (if (l.isNil && r.isNil) = true then _ else _) = _
  rw [if_neg]
  intro z
  rw [Bool.and_eq_true, isNil_eq, isNil_eq] at z
  exact h z
theorem ltr_len {x : Str} (h : Ltr x) : x.cps.toList.length = 1 := by
  obtain ⟨c, _, _, rfl⟩ := h
  rfl
theorem cs_len : ∀ t : T, t.lt → t.cs.length ≤ 6 * t.size + 1
  | .nil, _ => Nat.le_refl _
  | .node l x r, h => by
    obtain ⟨h1, h2, h3⟩ := T.lt_node h
    have a1 := cs_len l h1
    have a2 := cs_len r h3
    have a3 := ltr_len h2
    by_cases z : l = .nil ∧ r = .nil
    · obtain ⟨rfl, rfl⟩ := z
      rw [cs_leaf, a3]
      exact Nat.le_add_left ..
    · rw [cs_node x z]
      show _ ≤ 6 * (l.size + 1 + r.size) + 1
      simp only [List.length_append, List.length_cons, List.length_nil]
      omega
/-- the text is read in one way -/
theorem cs_inj : ∀ (t : T), t.lt → ∀ (u : T), u.lt → ∀ R S : List Nat, R.head? ≠ some 40 → S.head? ≠ some 40 → t.cs ++ R = u.cs ++ S → t = u ∧ R = S
  | .nil, _, .nil, _, R, S, _, _, e => ⟨rfl, by injection e⟩
  | .nil, _, .node l x r, h, R, S, _, _, e => by
    obtain ⟨_, ⟨c, c1, c2, rfl⟩, _⟩ := T.lt_node h
    exfalso
    by_cases z : l = .nil ∧ r = .nil
    · obtain ⟨rfl, rfl⟩ := z
      injection e with e1 _
      omega
    · rw [cs_node _ z] at e
      injection e with e1 _
      omega
  | .node l x r, h, .nil, _, R, S, _, _, e => by
    obtain ⟨_, ⟨c, c1, c2, rfl⟩, _⟩ := T.lt_node h
    exfalso
    by_cases z : l = .nil ∧ r = .nil
    · obtain ⟨rfl, rfl⟩ := z
      injection e with e1 _
      omega
    · rw [cs_node _ z] at e
      injection e with e1 _
      omega
  | .node l x r, h, .node l' x' r', h', R, S, hR, hS, e => by
    obtain ⟨h1, ⟨c, c1, c2, rfl⟩, h3⟩ := T.lt_node h
    obtain ⟨h1', ⟨c', c1', c2', rfl⟩, h3'⟩ := T.lt_node h'
    by_cases z : l = .nil ∧ r = .nil
    · obtain ⟨rfl, rfl⟩ := z
      by_cases z' : l' = .nil ∧ r' = .nil
      · obtain ⟨rfl, rfl⟩ := z'
        injection e with e1 e2
        exact ⟨by rw [e1], e2⟩
      · rw [cs_node _ z'] at e
        injection e with e1 e2
        exact absurd (by rw [show R = _ from e2]; rfl) hR
    · by_cases z' : l' = .nil ∧ r' = .nil
      · obtain ⟨rfl, rfl⟩ := z'
        rw [cs_node _ z] at e
        injection e with e1 e2
        exact absurd (by rw [show S = _ from e2.symm]; rfl) hS
      · rw [cs_node _ z, cs_node _ z'] at e
        have e' : c :: 40 :: (l.cs ++ (44 :: (r.cs ++ (41 :: R)))) = c' :: 40 :: (l'.cs ++ (44 :: (r'.cs ++ (41 :: S)))) := by
          simpa using e
        injection e' with e1 e2
        injection e2 with _ e3
        obtain ⟨rfl, e4⟩ := cs_inj l h1 l' h1' _ _ (by simp) (by simp) e3
        injection e4 with _ e5
        obtain ⟨rfl, e6⟩ := cs_inj r h3 r' h3' _ _ (by simp) (by simp) e5
        injection e6 with _ e7
        exact ⟨by rw [e1], e7⟩
theorem text_inj {t u : T} (ht : t.lt) (hu : u.lt) (h : t.text = u.text) : t = u :=
  (cs_inj t ht u hu [] [] (by simp) (by simp) (by rw [List.append_nil, List.append_nil]; exact tx_inj h)).1
theorem eqv_data : ∀ t u : T, PyData.eqv t.data u.data = true ↔ t = u
  | .nil, .nil => by simp [T.data, PyData.eqv]
  | .nil, .node l x r => by simp [T.data, PyData.eqv]
  | .node l x r, .nil => by simp [T.data, PyData.eqv]
  | .node l x r, .node l' x' r' => by
    have h1 := eqv_data l l'
    have h2 := eqv_data r r'
    simp only [T.data, PyData.eqv, PyData.eqvAll, Bool.and_eq_true, h1, h2, T.node.injEq]
    simp
theorem eqv_text {t u : T} (ht : t.lt) (hu : u.lt) : PyData.eqv t.data u.data = decide (V.str t.text = V.str u.text) := by
  by_cases h : t = u
  · subst h
    rw [(eqv_data t t).mpr rfl, decide_eq_true rfl]
  · have a : PyData.eqv t.data u.data = false := by
      cases e : PyData.eqv t.data u.data with
      | false => rfl
      | true => exact absurd ((eqv_data t u).mp e) h
    rw [a, decide_eq_false fun z => h (text_inj ht hu (V.str.inj z))]
section
variable {P : Program} {w : World} {K : PySem.W.Frag} {mg : Str → Option Value} {base : Heap} {f : Addr} {fd : FuncData}
/-! ### mirrored -/
def spMir (n : Nat) : Sp := fun vs H Q _ => ∃ (v : V) (t : T), vs = [v] ∧ TreeAt H v t ∧ t.deep < n ∧ ∀ H' v', Same H H' → TreeAt H' v' t.mir → Q v' H'
theorem ok_mir (F : Fun K "mirrored" "mirrored" s_mirrored f fd) (b : Binds K fd ["tree"] []) (g : mg "mirrored" = some (.ref f)) : ∀ n : Nat, FnOk P w K mg base CX0 n f fd ["tree"] (spMir n)
  | 0 => by
    have no : ∀ vs H Q E, ¬ spMir 0 vs H Q E := fun vs H Q E h => by
      obtain ⟨v, t, _, _, h1, _⟩ := h
      omega
    exact ⟨fun vs H Q E h => absurd h (no vs H Q E), fun A outer s H args us vs Q E _ _ _ _ h => absurd h (no vs H Q E)⟩
  | n + 1 => by
    have G := ok_mir F b g n
    refine F.ok sc_mirrored (fun vs H Q E h => ?_) (fun cdv A outer s H vs Q E hr h => ?_)
    · obtain ⟨v, t, rfl, _⟩ := h
      rfl
    obtain ⟨v, t, rfl, ht, hd, q⟩ := h
    refine ⟨_, pss_cons (ps_if (pt_cmpR op_isN (pv 0) pe_non (nomark _)) (pss_one (ps_ret pe_non)) pss_nil)
      (pss_cons (ps_asg (pv 0) (pg_tup rfl (pgs_cons (pg_name (i := 1) sc_mirrored.nd rfl (.inl rfl)) (pgs_cons (pg_name (i := 2) sc_mirrored.nd rfl (.inl rfl)) (pgs_cons (pg_name (i := 3) sc_mirrored.nd rfl (.inl rfl)) pgs_nil)))))
      (pss_one (ps_ret (pe_tup (pa_cons (pe_call G hr rfl g F.kp b .nil pass0 (pa_cons (pv 3) pa_nil)) (pa_cons (pv 2) (pa_cons (pe_call G hr rfl g F.kp b .nil pass0 (pa_cons (pv 1) pa_nil)) pa_nil))))))), ?_⟩
    rcases ht.inv with ⟨rfl, rfl⟩ | ⟨a, l, r, x, tl, tr, rfl, rfl, e, hl, hr'⟩
    · exact ⟨_, rfl, rfl, _, rfl, iteT (q H _ (Same.refl H) .nil)⟩
    · have hd' : 1 + max tl.deep tr.deep < n + 1 := hd
      refine ⟨_, rfl, rfl, _, rfl, iteF ?_⟩
      refine ⟨_, rfl, a, _, rfl, SqT.of e, rfl, l, _, rfl, .str x, _, rfl, r, _, rfl, rfl, ?_⟩
      refine ⟨r, rfl, r, tr, rfl, hr', by omega, fun H1 v1 s1 t1 => ?_⟩
      refine ⟨.str x, rfl, l, rfl, l, tl, rfl, hl.same s1, by omega, fun H2 v2 s2 t2 => ?_⟩
      refine ⟨(by show 3 ≤ sizeLine; decide), fun p hp => ?_⟩
      have s3 := same_new hp (.tup [v1, .str x, v2])
      exact q _ _ (s1.trans (s2.trans s3)) (.node upd_same (t1.same (s2.trans s3)) (t2.same s3))
end
/-! ### tree_text, side_text -/
theorem str_par1 : Str.ofString "(" = tx [40] := by decide +kernel
theorem str_par2 : Str.ofString ")" = tx [41] := by decide +kernel
theorem str_com : Str.ofString "," = tx [44] := by decide +kernel
def spText (n : Nat) : Sp := fun vs H Q _ => ∃ (v : V) (t : T), vs = [v] ∧ TreeAt H v t ∧ t ≠ .nil ∧ t.lt ∧ t.size ≤ 60 ∧ t.deep ≤ n ∧ Q (.str t.text) H
def spSide (n : Nat) : Sp := fun vs H Q _ => ∃ (v : V) (t : T), vs = [v] ∧ TreeAt H v t ∧ t.lt ∧ t.size ≤ 60 ∧ t.deep ≤ n ∧ Q (.str t.text) H
section
variable {P : Program} {w : World} {K : PySem.W.Frag} {mg : Str → Option Value} {base : Heap} {f : Addr} {fd : FuncData}
theorem ok_side (F : Fun K "side_text" "side_text" s_side_text f fd) {n k : Nat} (Dtree_text : Df P w K mg base k "tree_text" ["tree"] (spText n)) : FnOk P w K mg base CX0 (k + 1) f fd ["side"] (spSide n) := by
  refine F.ok sc_side_text (fun vs H Q E h => ?_) (fun cdv A outer s H vs Q E hr h => ?_)
  · obtain ⟨v, t, rfl, _⟩ := h
    rfl
  obtain ⟨v, t, rfl, hv, lt, ts, hn, q⟩ := h
  refine ⟨_, (pss_one (ps_ret (pe_ifExp (pt_cmpR op_isN (pv 0) pe_non (nomark _)) pe_str (pe_call Dtree_text.ok (hr.mono (by omega)) rfl Dtree_text.g Dtree_text.kp Dtree_text.b .nil pass0 (pa_cons (pv 0) pa_nil))))), ?_⟩
  rcases hv.inv with ⟨rfl, rfl⟩ | ⟨a, l, r, x, tl, tr, rfl, rfl, ea, hl, hr'⟩
  · refine ⟨_, rfl, rfl, _, rfl, iteT ?_⟩
    exact q
  · refine ⟨_, rfl, rfl, _, rfl, iteF ?_⟩
    exact ⟨_, rfl, _, _, rfl, hv, (fun z => nomatch z), lt, ts, hn, q⟩
theorem ok_text0 (F : Fun K "tree_text" "tree_text" s_tree_text f fd) {n k : Nat} (Dside_text : Df P w K mg base k "side_text" ["side"] (spSide n)) : FnOk P w K mg base CX0 (k + 1) f fd ["tree"] (spText (n + 1)) := by
  refine F.ok sc_tree_text (fun vs H Q E h => ?_) (fun cdv A outer s H vs Q E hr h => ?_)
  · obtain ⟨v, t, rfl, _⟩ := h
    rfl
  obtain ⟨v, t, rfl, hv, tn, lt, ts, hn, q⟩ := h
  refine ⟨_, (pss_cons (ps_asg (pv 0) (pg_tup rfl (pgs_cons (pg_name (i := 1) sc_tree_text.nd rfl (.inl rfl)) (pgs_cons (pg_name (i := 2) sc_tree_text.nd rfl (.inl rfl)) (pgs_cons (pg_name (i := 3) sc_tree_text.nd rfl (.inl rfl)) pgs_nil)))))
    (pss_cons (ps_if (PW.pt (pw_and (pt_cmpR op_isN (pv 1) pe_non (nomark _)) (pw_and1 (pt_cmpR op_isN (pv 3) pe_non (nomark _)))))
      (pss_one (ps_ret (pv 2))) pss_nil)
    (pss_one (ps_ret (pe_joined (PJ.cons (pe_fmt (pv 2)) (PJ.cons pe_str (PJ.cons (pe_fmt (pe_call Dside_text.ok (hr.mono (by omega)) rfl Dside_text.g Dside_text.kp Dside_text.b .nil pass0 (pa_cons (pv 1) pa_nil))) (PJ.cons pe_str (PJ.cons (pe_fmt (pe_call Dside_text.ok (hr.mono (by omega)) rfl Dside_text.g Dside_text.kp Dside_text.b .nil pass0 (pa_cons (pv 3) pa_nil))) (PJ.cons pe_str PJ.nil))))))))))), ?_⟩
  rcases hv.inv with ⟨rfl, rfl⟩ | ⟨a, l, r, x, tl, tr, rfl, rfl, ea, hl, hr'⟩
  · exact absurd rfl tn
  · refine ⟨_, rfl, a, _, rfl, SqT.of ea, rfl, l, _, rfl, .str x, _, rfl, r, _, rfl, rfl, ?_⟩
    obtain ⟨lt1, lt2, lt3⟩ := T.lt_node lt
    have hd : 1 + max tl.deep tr.deep ≤ n + 1 := hn
    have hz : tl.size + 1 + tr.size ≤ 60 := ts
    have c1 := cs_len tl lt1
    have c2 := cs_len tr lt3
    have c3 := ltr_len lt2
    have fin : ∀ (hnn : ¬ (tl = .nil ∧ tr = .nil)), Q (.str (((((Str.empty ++ x) ++ Str.ofString "(") ++ tl.text) ++ Str.ofString ",") ++ tr.text ++ Str.ofString ")")) H := fun hnn => by
      have e : ((((Str.empty ++ x) ++ Str.ofString "(") ++ tl.text) ++ Str.ofString ",") ++ tr.text ++ Str.ofString ")" = (T.node tl x tr).text := by
        unfold T.text
        rw [cs_node x hnn, show Str.empty = tx [] from rfl, str_par1, str_com, str_par2, ← tx_of x, tx_app, tx_app, tx_app, tx_app, tx_app, tx_app]
        simp [tx]
      rw [e]
      exact q
    have ln : ∀ l : List Nat, l.length ≤ 1000 → (tx l).length ≤ sizeLine := fun l h => small h
    have fmt : ∀ (hnn : ¬ (tl = .nil ∧ tr = .nil)), tRet (fun σ H Q => tJs [tFmt (tVar 2), tC (.str (Str.ofString "(")), tFmt (tCall (spSide n) [] E0 (tCons (tVar 1) tNil)), tC (.str (Str.ofString ",")), tFmt (tCall (spSide n) [] E0 (tCons (tVar 3) tNil)), tC (.str (Str.ofString ")"))] Str.empty σ H fun out H1 => Q (.str out) H1) { nx := fun x H' => Q V.non H', rt := Q } [some (.ref a), some l, some (.str x), some r] H := fun hnn => by
      have f := fin hnn
      rw [show Str.empty = tx [] from rfl, str_par1, str_com, str_par2] at f ⊢
      rw [← tx_of x] at f ⊢
      unfold T.text at f
      refine ⟨_, rfl, .inl ⟨_, rfl, ln _ (by omega), _, rfl, by rw [tx_app]; exact ln _ (by rw [List.nil_append]; omega), ?_⟩⟩
      refine ⟨_, rfl, by rw [tx_app, tx_app]; exact ln _ (by simp only [List.length_append, List.length_cons, List.length_nil]; omega), ?_⟩
      refine ⟨_, rfl, l, tl, rfl, hl, lt1, by omega, by omega, .inl ⟨_, rfl, ln _ (by omega), _, rfl, by unfold T.text; rw [tx_app, tx_app, tx_app]; exact ln _ (by simp only [List.length_append, List.length_cons, List.length_nil]; omega), ?_⟩⟩
      refine ⟨_, rfl, by unfold T.text; rw [tx_app, tx_app, tx_app, tx_app]; exact ln _ (by simp only [List.length_append, List.length_cons, List.length_nil]; omega), ?_⟩
      refine ⟨_, rfl, r, tr, rfl, hr', lt3, by omega, by omega, .inl ⟨_, rfl, ln _ (by omega), _, rfl, by unfold T.text; rw [tx_app, tx_app, tx_app, tx_app, tx_app]; exact ln _ (by simp only [List.length_append, List.length_cons, List.length_nil]; omega), ?_⟩⟩
      refine ⟨_, rfl, by unfold T.text; rw [tx_app, tx_app, tx_app, tx_app, tx_app, tx_app]; exact ln _ (by simp only [List.length_append, List.length_cons, List.length_nil]; omega), ?_⟩
      exact f
    rcases hl.inv with ⟨rfl, rfl⟩ | ⟨a1, l1, r1, x1, tl1, tr1, rfl, rfl, ea1, hl1, hr1⟩
    · refine ⟨_, rfl, rfl, _, rfl, iteT ?_⟩
      rcases hr'.inv with ⟨rfl, rfl⟩ | ⟨a2, l2, r2, x2, tl2, tr2, rfl, rfl, ea2, hl2, hr2⟩
      · refine ⟨_, rfl, rfl, _, rfl, iteT ?_⟩
        exact ⟨_, rfl, q⟩
      · refine ⟨_, rfl, rfl, _, rfl, iteF ?_⟩
        exact fmt (fun z => nomatch z.2)
    · refine ⟨_, rfl, rfl, _, rfl, iteF ?_⟩
      exact fmt (fun z => nomatch z.1)
theorem ok_texts {f1 f2 : Addr} {fd1 fd2 : FuncData} (F1 : Fun K "tree_text" "tree_text" s_tree_text f1 fd1) (b1 : Binds K fd1 ["tree"] []) (g1 : mg "tree_text" = some (.ref f1)) (F2 : Fun K "side_text" "side_text" s_side_text f2 fd2) (b2 : Binds K fd2 ["side"] []) (g2 : mg "side_text" = some (.ref f2)) :
    ∀ n : Nat, FnOk P w K mg base CX0 (2 * n) f1 fd1 ["tree"] (spText n)
  | 0 => by
    have no : ∀ vs H Q E, ¬ spText 0 vs H Q E := fun vs H Q E h => by
      obtain ⟨v, t, _, _, tn, _, _, h1, _⟩ := h
      cases t with
      | nil => exact tn rfl
      | node l x r =>
        have h2 : 1 + max l.deep r.deep ≤ 0 := h1
        omega
    exact ⟨fun vs H Q E h => absurd h (no vs H Q E), fun A outer s H args us vs Q E _ _ _ _ h => absurd h (no vs H Q E)⟩
  | n + 1 => ok_text0 F1 (n := n) (k := 2 * n + 1) ⟨f2, fd2, ok_side F2 ⟨f1, fd1, ok_texts F1 b1 g1 F2 b2 g2 n, b1, F1.kp, g1⟩, b2, F2.kp, g2⟩
/-! ### _law_text -/
def spTextL (n : Nat) : Sp := fun vs H Q _ => ∃ (v : V) (t : T), vs = [v] ∧ TreeAt H v t ∧ t.lt ∧ t.size ≤ 60 ∧ t.deep < n ∧ Q (.str t.text) H
theorem ok_ltext (F : Fun K "_law_text" "_law_text" s__law_text f fd) (b : Binds K fd ["_law_tree_here"] []) (g : mg "_law_text" = some (.ref f)) : ∀ n : Nat, FnOk P w K mg base CX0 n f fd ["_law_tree_here"] (spTextL n)
  | 0 => by
    have no : ∀ vs H Q E, ¬ spTextL 0 vs H Q E := fun vs H Q E h => by
      obtain ⟨v, t, _, _, _, _, h1, _⟩ := h
      omega
    exact ⟨fun vs H Q E h => absurd h (no vs H Q E), fun A outer s H args us vs Q E _ _ _ _ h => absurd h (no vs H Q E)⟩
  | n + 1 => by
    have Dself : Df P w K mg base n "_law_text" ["_law_tree_here"] (spTextL n) := ⟨f, fd, ok_ltext F b g n, b, F.kp, g⟩
    refine F.ok sc__law_text (fun vs H Q E h => ?_) (fun cdv A outer s H vs Q E hr h => ?_)
    · obtain ⟨v, t, rfl, _⟩ := h
      rfl
    obtain ⟨v, t, rfl, hv, lt, ts, hn, q⟩ := h
    refine ⟨_, (pss_cons (ps_if (pt_cmpR op_isN (pv 0) pe_non (nomark _))
      (pss_one (ps_ret pe_str)) pss_nil)
    (pss_cons (ps_if (PW.pt (pw_and (pt_cmpR op_isN (pe_ix ix_tup (pv 0) pe_int (fun _ _ => rfl)) pe_non (nomark _)) (pw_and1 (pt_cmpR op_isN (pe_ix ix_tup (pv 0) pe_int (fun _ _ => rfl)) pe_non (nomark _)))))
      (pss_one (ps_ret (pe_ix ix_tup (pv 0) pe_int (fun _ _ => rfl)))) pss_nil)
    (pss_one (ps_ret (pe_op op_add_str (pe_op op_add_str (pe_op op_add_str (pe_op op_add_str (pe_op op_add_str (pe_ix ix_tup (pv 0) pe_int (fun _ _ => rfl)) pe_str) (pe_call Dself.ok (hr.mono (by omega)) rfl Dself.g Dself.kp Dself.b .nil pass0 (pa_cons (pe_ix ix_tup (pv 0) pe_int (fun _ _ => rfl)) pa_nil))) pe_str) (pe_call Dself.ok (hr.mono (by omega)) rfl Dself.g Dself.kp Dself.b .nil pass0 (pa_cons (pe_ix ix_tup (pv 0) pe_int (fun _ _ => rfl)) pa_nil))) pe_str))))), ?_⟩
    rcases hv.inv with ⟨rfl, rfl⟩ | ⟨a, l, r, x, tl, tr, rfl, rfl, ea, hl, hr'⟩
    · refine ⟨_, rfl, rfl, _, rfl, iteT ?_⟩
      exact q
    · refine ⟨_, rfl, rfl, _, rfl, iteF ?_⟩
      obtain ⟨lt1, lt2, lt3⟩ := T.lt_node lt
      have hd : 1 + max tl.deep tr.deep < n + 1 := hn
      have hz : tl.size + 1 + tr.size ≤ 60 := ts
      have c1 := cs_len tl lt1
      have c2 := cs_len tr lt3
      have c3 := ltr_len lt2
      have ln : ∀ l m : List Nat, l.length + m.length ≤ 1000 → (tx l).length + (tx m).length ≤ sizeLine := fun l m h => small h
      have fmt : ¬ (tl = .nil ∧ tr = .nil) → tRet (tOp (fun x y H Q => ∃ i j, x = V.str i ∧ y = V.str j ∧ i.length + j.length ≤ sizeLine ∧ Q (V.str (i ++ j)) H) (tOp (fun x y H Q => ∃ i j, x = V.str i ∧ y = V.str j ∧ i.length + j.length ≤ sizeLine ∧ Q (V.str (i ++ j)) H) (tOp (fun x y H Q => ∃ i j, x = V.str i ∧ y = V.str j ∧ i.length + j.length ≤ sizeLine ∧ Q (V.str (i ++ j)) H) (tOp (fun x y H Q => ∃ i j, x = V.str i ∧ y = V.str j ∧ i.length + j.length ≤ sizeLine ∧ Q (V.str (i ++ j)) H) (tOp (fun x y H Q => ∃ i j, x = V.str i ∧ y = V.str j ∧ i.length + j.length ≤ sizeLine ∧ Q (V.str (i ++ j)) H)
          (tOp (rIxT K) (tVar 0) (tC (V.int 1))) (tC (V.str (Str.ofString "(")))) (tCall (spTextL n) [] E0 (tCons (tOp (rIxT K) (tVar 0) (tC (V.int 0))) tNil))) (tC (V.str (Str.ofString ",")))) (tCall (spTextL n) [] E0 (tCons (tOp (rIxT K) (tVar 0) (tC (V.int 2))) tNil))) (tC (V.str (Str.ofString ")")))) { nx := fun x H' => Q V.non H', rt := Q } [some (.ref a)] H := fun hnn => by
        have e : (((((x ++ Str.ofString "(") ++ tl.text) ++ Str.ofString ",") ++ tr.text) ++ Str.ofString ")") = (T.node tl x tr).text := by
          unfold T.text
          rw [cs_node x hnn, str_par1, str_com, str_par2, ← tx_of x, tx_app, tx_app, tx_app, tx_app, tx_app]
          simp [tx]
        rw [← e] at q
        rw [str_par1, str_com, str_par2] at q ⊢
        rw [← tx_of x] at q
        unfold T.text at q
        rw [← tx_of x] at ea
        refine ⟨_, rfl, a, _, 1, _, rfl, rfl, SqT.of ea, atI_nat (j := 1) rfl, _, _, rfl, rfl, ln _ _ (by simp only [List.length_append, List.length_cons, List.length_nil]; omega), ?_⟩
        rw [tx_app] at q ⊢
        refine ⟨_, rfl, a, _, 0, l, rfl, rfl, SqT.of ea, atI_nat (j := 0) rfl, l, tl, rfl, hl, lt1, by omega, by omega, _, _, rfl, rfl, ln _ _ (by simp only [List.length_append, List.length_cons, List.length_nil]; omega), ?_⟩
        unfold T.text
        rw [tx_app] at q ⊢
        refine ⟨_, _, rfl, rfl, ln _ _ (by simp only [List.length_append, List.length_cons, List.length_nil]; omega), ?_⟩
        rw [tx_app] at q ⊢
        refine ⟨_, rfl, a, _, 2, r, rfl, rfl, SqT.of ea, atI_nat (j := 2) rfl, r, tr, rfl, hr', lt3, by omega, by omega, _, _, rfl, rfl, ln _ _ (by simp only [List.length_append, List.length_cons, List.length_nil]; omega), ?_⟩
        unfold T.text
        rw [tx_app] at q ⊢
        exact ⟨_, _, rfl, rfl, ln _ _ (by simp only [List.length_append, List.length_cons, List.length_nil]; omega), q⟩
      refine ⟨_, rfl, a, _, 0, l, rfl, rfl, SqT.of ea, atI_nat (j := 0) rfl, rfl, ?_⟩
      rcases hl.inv with ⟨rfl, rfl⟩ | ⟨a1, l1, r1, x1, tl1, tr1, rfl, rfl, ea1, hl1, hr1⟩
      · refine ⟨_, rfl, iteT ?_⟩
        refine ⟨_, rfl, a, _, 2, r, rfl, rfl, SqT.of ea, atI_nat (j := 2) rfl, rfl, ?_⟩
        rcases hr'.inv with ⟨rfl, rfl⟩ | ⟨a2, l2, r2, x2, tl2, tr2, rfl, rfl, ea2, hl2, hr2⟩
        · refine ⟨_, rfl, iteT ?_⟩
          exact ⟨_, rfl, a, _, 1, _, rfl, rfl, SqT.of ea, atI_nat (j := 1) rfl, q⟩
        · refine ⟨_, rfl, iteF ?_⟩
          exact fmt (fun z => nomatch z.2)
      · refine ⟨_, rfl, iteF ?_⟩
        exact fmt (fun z => nomatch z.1)
/-! ### _law_one -/
def spOne : Sp := fun vs H Q _ => ∃ (D : Deck) (n : Nat) (p : Addr) (xs : List Str), vs = [.ref D.dk, .ref p] ∧ DeckOk H D n ∧ n ≤ 1000000 ∧ H p = some (.lst (xs.map V.str)) ∧ Off D p ∧ 0 < xs.length ∧ xs.length ≤ 1000 ∧
  ∀ (x : Str) (H' : Hp), x ∈ xs → DeckOk H' D (n + 1) → SameD D H H' → Q (.str x) H'
theorem ok_one (F : Fun K "_law_one" "_law_one" s__law_one f fd) (M : Mgs mg) (D_law_next : Df P w K mg base 1 "_law_next" ["_law_deck_here", "_law_many"] spNext) : FnOk P w K mg base CX0 2 f fd ["_law_deck_here", "_law_items"] spOne := by
  refine F.ok sc__law_one (fun vs H Q E h => ?_) (fun cdv A outer s H vs Q E hr h => ?_)
  · obtain ⟨D, n, p, xs, rfl, _⟩ := h
    rfl
  obtain ⟨D, n, p, xs, rfl, d, hn, ep, op, x0, x1, q⟩ := h
  refine ⟨_, (pss_one (ps_ret (pe_ix ix_list (pv 1) (pe_call D_law_next.ok (hr.mono (by omega)) rfl D_law_next.g D_law_next.kp D_law_next.b .nil pass0 (pa_cons (pv 0) (pa_cons (pe_callB call_len_seq rfl M.len PySem.boot_len (pa_cons (pv 1) pa_nil)) pa_nil))) (fun _ _ => rfl)))), ?_⟩
  refine ⟨_, rfl, _, rfl, _, rfl, p, _, rfl, .inl (SqL.of ep), D, n, _, rfl, d, hn, by rw [List.length_map]; omega, by rw [List.length_map]; omega, fun i H' i0 i1 d1 s1 => ?_⟩
  rw [List.length_map] at i1
  have hi : i.toNat < xs.length := by omega
  exact ⟨p, _, _, _, rfl, rfl, SqL.of (s1.at op ep), at_map i0 (List.getElem?_eq_getElem hi), q _ _ (List.getElem_mem hi) d1 s1⟩
end
/-! ### law -/
theorem T.shaped {t : T} (h : t.lt) (hd : t.deep ≤ 60) : SeqAt.shaped t.data = true := by
  unfold SeqAt.shaped
  simp only [t.can h, t.data_deep, Bool.true_and, decide_eq_true_eq]
  omega
theorem listText_leR (ts : List Str) : (listText ts).length ≤ piled ts + 3 := by
  have h := textFrom_len_le ts 0 "["
  have e : (listText ts).length = (textFrom 0 "[" ts).length + 1 := by
    show (textFrom 0 "[" ts ++ "]").length = _
    rw [strLen_append]
    rfl
  have z : ∀ l : List Str, (l.map (·.length)).sum + 2 * l.length = piled l := by
    intro l
    induction l with
    | nil => rfl
    | cons t l ih =>
      rw [piled_cons, List.map_cons, List.sum_cons, List.length_cons]
      omega
  have z2 := z ts
  have z3 : (("[" : String) : Str).length = 1 := rfl
  omega
def two (t u : T) : PyData := .list [t.data, u.data]
theorem two_ok {t u : T} (ht : t.lt) (hu : u.lt) (st : t.size ≤ 60) (su : u.size ≤ 60) : (two t u).showable = true ∧ (two t u).hasDict = false ∧ (two t u).depth ≤ 62 ∧ (two t u).shown.length ≤ sizeLine := by
  have a := t.shown_len ht
  have b := u.shown_len hu
  have c := t.deep_le
  have d := u.deep_le
  refine ⟨?_, ?_, ?_, ?_⟩
  · simp only [two, PyData.showable, PyData.showableAll, t.showable, u.showable, Bool.and_self]
  · simp only [two, PyData.hasDict, PyData.hasDictAll, t.noDict, u.noDict, Bool.or_self]
  · simp only [two, PyData.depth, PyData.depthAll, t.data_deep, u.data_deep]; omega
  · simp only [two, PyData.shown, PyData.shownAll]
    refine Nat.le_trans (listText_leR _) ?_
    rw [piled_cons, piled_cons]
    have z : piled [] = 0 := rfl
    show _ ≤ 16777216
    omega
abbrev abc3 : List Str := [⟨#[97]⟩, ⟨#[98]⟩, ⟨#[99]⟩]
theorem abc3_is : ((Str.ofString "abc").cps.toList.map fun c => V.str ⟨#[c]⟩) = abc3.map V.str := by decide +kernel
theorem abc3_ltr : ∀ x ∈ abc3, Ltr x := by
  intro x hx
  simp only [abc3, List.mem_cons, List.mem_nil_iff, or_false] at hx
  rcases hx with rfl | rfl | rfl
  · exact ⟨97, by decide, by decide, rfl⟩
  · exact ⟨98, by decide, by decide, rfl⟩
  · exact ⟨99, by decide, by decide, rfl⟩
theorem T.mir_lt : ∀ t : T, t.lt → t.mir.lt
  | .nil, h => h
  | .node l x r, h => by
    obtain ⟨h1, h2, h3⟩ := T.lt_node h
    have a := l.mir_lt h1
    have b := r.mir_lt h3
    intro y hy
    rcases List.mem_append.mp hy with hy | hy
    · exact b y hy
    · rcases List.mem_cons.mp hy with rfl | hy
      · exact h2
      · exact a y hy
theorem lt_mk {l r : T} {x : Str} (h1 : l.lt) (h2 : Ltr x) (h3 : r.lt) : (T.node l x r).lt := fun y hy => by
  rcases List.mem_append.mp hy with hy | hy
  · exact h1 y hy
  · rcases List.mem_cons.mp hy with rfl | hy
    · exact h2
    · exact h3 y hy
theorem lt_nil : T.nil.lt := fun _ h => nomatch h
structure Good (H : Hp) (v : V) (t : T) : Prop where
  at0 : TreeAt H v t
  ne : t ≠ .nil
  lt : t.lt
  sz : t.size ≤ 12
theorem Good.same {H H' : Hp} (k : Same H H') {v : V} {t : T} (h : Good H v t) : Good H' v t := ⟨h.at0.same k, h.ne, h.lt, h.sz⟩
theorem Good.keep {H H' : Hp} (k : KeepT H H') {v : V} {t : T} (h : Good H v t) : Good H' v t := ⟨h.at0.keep k, h.ne, h.lt, h.sz⟩
theorem str_q : Ltr (Str.ofString "q") := ⟨113, by decide, by decide, by decide +kernel⟩
section
variable {P : Program} {w : World} {K : PySem.W.Frag} {mg : Str → Option Value} {base : Heap} {f : Addr} {fd : FuncData}
theorem run_law {s : Shared} {H : Hp} {a : Addr} {ns : List Int} (F : Fun K "law" "law" s_law f fd) (bd : BindsTo s fd ⟨[.ref a], []⟩ [("_law_script", .ref a)]) (en : Env0 P w K mg base callerA [] s H) (hS : SqL K H a (ns.map V.int))
    (M : Mgs mg) (mrepr : mg "repr" = none) (D_law_deck : Df P w K mg base 1 "_law_deck" ["_law_script"] (spDeck K)) (D_law_same : Df P w K mg base 20 "_law_same" ["_law_found", "_law_due"] (spSame K 20)) (D_law_tree : Df P w K mg base 29 "_law_tree" ["_law_deck_here", "_law_limit"] spTree)
    (D_law_one : Df P w K mg base 2 "_law_one" ["_law_deck_here", "_law_items"] spOne) (Dmirrored : Df P w K mg base 20 "mirrored" ["tree"] (spMir 20)) (Dtree_text : Df P w K mg base 40 "tree_text" ["tree"] (spText 20)) (D_law_text : Df P w K mg base 20 "_law_text" ["_law_tree_here"] (spTextL 20)) :
    codeAny (model P w) callerA (.call (.ref f) ⟨[.ref a], []⟩) (CR CX0 [] P w H s (fun v _ => v = .bl true) fun _ _ _ => False) s := by
  refine enter_def (k := 42) (vs := [.ref a]) (us := [.ref a]) F sc_law ⟨rfl, by decide, by decide⟩ en bd (.cons rfl .nil) rfl fun cdv hr => ?_
  have hu := hr.units
  refine ⟨_, (pss_cons (ps_set (i := 1) sc_law.nd rfl (.inl rfl) (pe_call D_law_deck.ok (hr.mono (by omega)) rfl D_law_deck.g D_law_deck.kp D_law_deck.b .nil pass0 (pa_cons (pv 0) pa_nil)))
    (pss_cons (ps_if (pt_not (pt_val (pe_call D_law_same.ok (hr.mono (by omega)) rfl D_law_same.g D_law_same.kp D_law_same.b .nil pass0 (pa_cons (pe_call Dtree_text.ok (hr.mono (by omega)) rfl Dtree_text.g Dtree_text.kp Dtree_text.b .nil pass0 (pa_cons (pe_tup (pa_cons pe_non (pa_cons pe_str (pa_cons pe_non pa_nil)))) pa_nil)) (pa_cons pe_str pa_nil)))))
      (pss_one (ps_ret pe_bl)) pss_nil)
    (pss_cons (ps_for PassesOwn.never rfl (pi_range1 rfl M.range (pa_cons pe_int pa_nil)) (pg_name (i := 2) sc_law.nd rfl (.inl rfl))
      (pss_cons (ps_set (i := 3) sc_law.nd rfl (.inl rfl) (pe_call D_law_tree.ok (hr.mono (by omega)) rfl D_law_tree.g D_law_tree.kp D_law_tree.b .nil pass0 (pa_cons (pv 1) (pa_cons pe_int pa_nil))))
    (pss_cons (ps_set (i := 4) sc_law.nd rfl (.inl rfl) (pe_tup (pa_cons (pe_ix ix_tup (pv 3) pe_int (fun _ _ => rfl)) (pa_cons (pe_call D_law_one.ok (hr.mono (by omega)) rfl D_law_one.g D_law_one.kp D_law_one.b .nil pass0 (pa_cons (pv 1) (pa_cons (pe_callTy (call_signs rfl) rfl M.list (by decide +kernel) (pa_cons pe_str pa_nil)) pa_nil))) (pa_cons (pe_ix ix_tup (pv 3) pe_int (fun _ _ => rfl)) pa_nil)))))
    (pss_cons (ps_set (i := 5) sc_law.nd rfl (.inl rfl) (pe_lst (pa_cons (pv 3) (pa_cons (pv 4) (pa_cons (pe_call Dmirrored.ok (hr.mono (by omega)) rfl Dmirrored.g Dmirrored.kp Dmirrored.b .nil pass0 (pa_cons (pv 3) pa_nil)) (pa_cons (pe_call D_law_tree.ok (hr.mono (by omega)) rfl D_law_tree.g D_law_tree.kp D_law_tree.b .nil pass0 (pa_cons (pv 1) (pa_cons pe_int pa_nil))) (pa_cons (pe_call D_law_tree.ok (hr.mono (by omega)) rfl D_law_tree.g D_law_tree.kp D_law_tree.b .nil pass0 (pa_cons (pv 1) (pa_cons pe_int pa_nil))) pa_nil)))))))
    (pss_one (ps_for PassesOwn.never rfl (pi_list (pe_op op_cat (pv 5) (pe_lst (pa_cons (pe_tup (pa_cons pe_non (pa_cons (pe_ix ix_tup (pv 3) pe_int (fun _ _ => rfl)) (pa_cons (pe_ix ix_tup (pv 3) pe_int (fun _ _ => rfl)) pa_nil)))) (pa_cons (pe_tup (pa_cons (pe_ix ix_tup (pv 3) pe_int (fun _ _ => rfl)) (pa_cons (pe_ix ix_tup (pv 3) pe_int (fun _ _ => rfl)) (pa_cons pe_non pa_nil)))) pa_nil))))) (pg_name (i := 6) sc_law.nd rfl (.inl rfl))
      (pss_cons (ps_par (i := 7) (j := 8) (by rfl) sc_law.nd rfl rfl (by decide) rfl rfl (pa_cons (pe_callB (call_reprD rfl hu) rfl mrepr (by decide +kernel) (pa_cons (pe_lst (pa_cons (pv 3) (pa_cons (pv 6) pa_nil))) pa_nil)) (pa_cons (pe_lst (pa_cons (pe_call D_law_text.ok (hr.mono (by omega)) rfl D_law_text.g D_law_text.kp D_law_text.b .nil pass0 (pa_cons (pv 3) pa_nil)) (pa_cons (pe_call D_law_text.ok (hr.mono (by omega)) rfl D_law_text.g D_law_text.kp D_law_text.b .nil pass0 (pa_cons (pv 6) pa_nil)) pa_nil))) pa_nil)) (by rfl))
    (pss_cons (ps_set (i := 9) sc_law.nd rfl (.inl rfl) (pe_lst (pa_cons (pe_call Dtree_text.ok (hr.mono (by omega)) rfl Dtree_text.g Dtree_text.kp Dtree_text.b .nil pass0 (pa_cons (pv 3) pa_nil)) (pa_cons (pe_call Dtree_text.ok (hr.mono (by omega)) rfl Dtree_text.g Dtree_text.kp Dtree_text.b .nil pass0 (pa_cons (pv 6) pa_nil)) pa_nil))))
    (pss_cons (ps_if (PW.pt (pw_or (pt_not (pt_val (pe_call D_law_same.ok (hr.mono (by omega)) rfl D_law_same.g D_law_same.kp D_law_same.b .nil pass0 (pa_cons (pv 9) (pa_cons (pv 8) pa_nil))))) (pw_or1 (pt_cmpR op_ne (pe_cmpR op_eq (pe_ix ix_list (pv 9) pe_int (fun _ _ => rfl)) (pe_ix ix_list (pv 9) pe_int (fun _ _ => rfl)) (nomark _)) (pe_cmpR (op_eqD hr.units) (pv 3) (pv 6) (nomark _)) (nomark _)))))
      (pss_one (ps_ret pe_bl)) pss_nil)
    (pss_one (ps_if (PW.pt (pw_or (pt_cmpR op_ne (pe_callB (call_reprD rfl hu) rfl mrepr (by decide +kernel) (pa_cons (pe_lst (pa_cons (pv 3) (pa_cons (pv 6) pa_nil))) pa_nil)) (pv 7) (nomark _)) (pw_or1 (pt_cmpR op_ne (pe_call Dtree_text.ok (hr.mono (by omega)) rfl Dtree_text.g Dtree_text.kp Dtree_text.b .nil pass0 (pa_cons (pv 3) pa_nil)) (pe_ix ix_list (pv 8) pe_int (fun _ _ => rfl)) (nomark _)))))
      (pss_one (ps_ret pe_bl)) pss_nil)))))))))))
    (pss_one (ps_ret pe_bl))))), ?_⟩
  refine ⟨_, rfl, a, ns, rfl, hS, fun D H1 d1 s1 => ?_⟩
  refine ⟨(by show 3 ≤ sizeLine; decide), fun p0 np0 => ?_⟩
  have q0 := same_new np0 (.tup [.non, .str "q", .non])
  refine ⟨.ref p0, .node .nil "q" .nil, rfl, .node upd_same .nil .nil, (fun z => nomatch z), lt_mk lt_nil str_q lt_nil, by decide, by decide, ?_⟩
  refine ⟨_, _, .str "q", rfl, .str _, .str _, by simp only [PyData.depth]; decide, by simp only [nar], fun H2 s2 => ⟨_, rfl, iteF ?_⟩⟩
  refine ⟨10, rfl, by decide, by decide, ?_⟩
  refine for_range (lo := 0) (n := 10) (fun i σ H' => ∃ (y2 y3 y4 y5 y6 y7 y8 y9 : Option V) (c : Nat), σ = [some (.ref a), some (.ref D.dk), y2, y3, y4, y5, y6, y7, y8, y9] ∧ DeckOk H' D c ∧ c ≤ 100 * i) ⟨none, none, none, none, none, none, none, none, 0, rfl, (d1.same q0).same s2, by omega⟩ (fun i σ H3 hi hp => ?_) (fun σ H3 hp => ?_)
  · obtain ⟨y2, y3, y4, y5, y6, y7, y8, y9, c, rfl, d3, hc⟩ := hp
    refine ⟨_, rfl, D, c, 12, rfl, d3, by omega, by omega, by omega, fun v t c4 H4 d4 hc4 s4 at4 t0 t1 tl => ?_⟩
    have td := t.deep_le
    rcases at4.inv with ⟨_, rfl⟩ | ⟨ta, vl, vr, x, tL, tR, rfl, rfl, et, aL, aR⟩
    · exact absurd t0 (by show ¬ 1 ≤ 0; omega)
    have tz : tL.size + 1 + tR.size ≤ 12 := t1
    obtain ⟨l1, l2, l3⟩ := T.lt_node tl
    refine ⟨_, rfl, ta, _, 0, vl, rfl, rfl, SqT.of et, atI_nat (j := 0) rfl, ?_⟩
    refine ⟨_, rfl, _, rfl, by decide +kernel, fun la nla => ?_⟩
    rw [abc3_is] at *
    have q5 := same_new nla (.lst (abc3.map V.str))
    refine ⟨D, c4, la, abc3, rfl, d4.same q5, by omega, upd_same, d4.new nla, by decide, by decide, fun y H6 hy d6 s6 => ?_⟩
    have k6 := (Tw.Same.keepT q5).trans (s6.keepT (d4.same q5))
    refine ⟨_, rfl, ta, _, 2, vr, rfl, rfl, SqT.of (k6 _ _ et), atI_nat (j := 2) rfl, (by show 3 ≤ sizeLine; decide), fun pr npr => ?_⟩
    have q7 := same_new npr (.tup [vl, .str y, vr])
    have g1 : Good H4 (.ref ta) (.node tL x tR) := ⟨at4, (fun z => nomatch z), tl, t1⟩
    have g2 : Good (upd H6 pr (.tup [vl, .str y, vr])) (.ref pr) (.node tL y tR) := ⟨.node upd_same ((aL.keep k6).same q7) ((aR.keep k6).same q7), (fun z => nomatch z), lt_mk l1 (abc3_ltr y hy) l3, t1⟩
    have k7 := k6.trans (Tw.Same.keepT q7)
    have d7 := d6.same q7
    generalize upd H6 pr (.tup [vl, .str y, vr]) = H7 at g2 k7 d7 ⊢
    refine ⟨_, rfl, _, rfl, _, rfl, _, _, rfl, at4.keep k7, Nat.lt_of_le_of_lt td (by omega), fun H8 v8 s8 at8 => ?_⟩
    have g3 : Good H8 v8 (T.node tL x tR).mir := ⟨at8, (fun z => nomatch z), T.mir_lt _ tl, by rw [T.mir_size]; exact t1⟩
    refine ⟨_, rfl, D, c4 + 1, 3, rfl, d7.same s8, by omega, by omega, by omega, fun v9 t9 c9 H9 d9 hc9 s9 at9 t90 t91 tl9 => ?_⟩
    have k9 := s9.keepT (d7.same s8)
    have ne9 : t9 ≠ .nil := fun z => by rw [z] at t90; exact absurd t90 (by show ¬ 1 ≤ 0; omega)
    refine ⟨_, rfl, D, c9, 12, rfl, d9, by omega, by omega, by omega, fun v10 t10 c10 H10 d10 hc10 s10 at10 t100 t101 tl10 => ?_⟩
    have k10 := s10.keepT d9
    have ne10 : t10 ≠ .nil := fun z => by rw [z] at t100; exact absurd t100 (by show ¬ 1 ≤ 0; omega)
    refine ⟨(by show 5 ≤ sizeLine; decide), fun po npo => ?_⟩
    have q11 := same_new npo (.lst [.ref ta, .ref pr, v8, v9, v10])
    have kA := ((k7.trans (Tw.Same.keepT s8)).trans k9).trans k10
    have G1 := (g1.keep kA).same q11
    have G2 := (((g2.same s8).keep k9).keep k10).same q11
    have G3 := ((g3.keep k9).keep k10).same q11
    have G4 : Good _ v9 t9 := (Good.keep k10 ⟨at9, ne9, tl9, by omega⟩).same q11
    have G5 : Good _ v10 t10 := Good.same q11 ⟨at10, ne10, tl10, by omega⟩
    have d11 := d10.same q11
    have et11 := q11 _ _ (kA _ _ et)
    have aL11 := (aL.keep kA).same q11
    have aR11 := (aR.keep kA).same q11
    have epo := upd_same (H := H10) (a := po) (o := .lst [.ref ta, .ref pr, v8, v9, v10])
    generalize upd H10 po (.lst [.ref ta, .ref pr, v8, v9, v10]) = H11 at G1 G2 G3 G4 G5 d11 et11 aL11 aR11 epo ⊢
    refine ⟨_, rfl, _, rfl, ta, _, 1, .str x, rfl, rfl, SqT.of et11, atI_nat (j := 1) rfl, _, rfl, ta, _, 2, vr, rfl, rfl, SqT.of et11, atI_nat (j := 2) rfl, (by show 3 ≤ sizeLine; decide), fun r1 nr1 => ?_⟩
    have q12 := same_new nr1 (.tup [.non, .str x, vr])
    have G6 : Good _ (.ref r1) (.node .nil x tR) := ⟨.node upd_same .nil (aR11.same q12), (fun z => nomatch z), lt_mk lt_nil l2 l3, by show 0 + 1 + tR.size ≤ 12; omega⟩
    refine ⟨_, rfl, ta, _, 0, vl, rfl, rfl, SqT.of (q12 _ _ et11), atI_nat (j := 0) rfl, _, rfl, ta, _, 1, .str x, rfl, rfl, SqT.of (q12 _ _ et11), atI_nat (j := 1) rfl, (by show 3 ≤ sizeLine; decide), fun r2 nr2 => ?_⟩
    have q13 := same_new nr2 (.tup [vl, .str x, .non])
    have G7 : Good _ (.ref r2) (.node tL x .nil) := ⟨.node upd_same ((aL11.same q12).same q13) .nil, (fun z => nomatch z), lt_mk l1 l2 lt_nil, by show tL.size + 1 + 0 ≤ 12; omega⟩
    refine ⟨(by show 2 ≤ sizeLine; decide), fun r3 nr3 => ?_⟩
    have q14 := same_new nr3 (.lst [.ref r1, .ref r2])
    refine ⟨po, r3, _, _, rfl, rfl, q14 _ _ (q13 _ _ (q12 _ _ epo)), upd_same, (by show 5 + 2 ≤ sizeLine; decide), fun r nr => ?_⟩
    have q15 := same_new nr (.lst ([.ref ta, .ref pr, v8, v9, v10] ++ [.ref r1, .ref r2]))
    have sB := q12.trans (q13.trans (q14.trans q15))
    have er := upd_same (H := upd (upd (upd H11 r1 (.tup [.non, .str x, vr])) r2 (.tup [vl, .str x, .non])) r3 (.lst [.ref r1, .ref r2])) (a := r) (o := .lst ([.ref ta, .ref pr, v8, v9, v10] ++ [.ref r1, .ref r2]))
    have all : ∀ z ∈ [V.ref ta, .ref pr, v8, v9, v10] ++ [.ref r1, .ref r2], ∃ u, Good (upd (upd (upd (upd H11 r1 (.tup [.non, .str x, vr])) r2 (.tup [vl, .str x, .non])) r3 (.lst [.ref r1, .ref r2])) r (.lst ([.ref ta, .ref pr, v8, v9, v10] ++ [.ref r1, .ref r2]))) z u := by
      intro z hz
      simp only [List.cons_append, List.nil_append, List.mem_cons, List.mem_nil_iff, or_false] at hz
      rcases hz with rfl | rfl | rfl | rfl | rfl | rfl | rfl
      · exact ⟨_, G1.same sB⟩
      · exact ⟨_, G2.same sB⟩
      · exact ⟨_, G3.same sB⟩
      · exact ⟨_, G4.same sB⟩
      · exact ⟨_, G5.same sB⟩
      · exact ⟨_, G6.same (q13.trans (q14.trans q15))⟩
      · exact ⟨_, G7.same (q14.trans q15)⟩
    have g0 := G1.same sB
    have d15 := d11.same sB
    generalize upd (upd (upd (upd H11 r1 (.tup [.non, .str x, vr])) r2 (.tup [vl, .str x, .non])) r3 (.lst [.ref r1, .ref r2])) r (.lst ([.ref ta, .ref pr, v8, v9, v10] ++ [.ref r1, .ref r2])) = H15 at er all g0 d15 ⊢
    generalize hT : T.node tL x tR = t at g0
    have td := t.deep_le
    have tsz := g0.sz
    refine ⟨r, rfl, ⟨_, SqL.of er⟩, ?_⟩
    refine for_list (K := K) (a := r) (xs := [V.ref ta, .ref pr, v8, v9, v10] ++ [.ref r1, .ref r2]) (fun j σ H' => ∃ (z6 z7 z8 z9 : Option V), σ = [some (.ref a), some (.ref D.dk), some (.int (0 + i)), some (.ref ta), some (.ref pr), some (.ref po), z6, z7, z8, z9] ∧ Same H15 H') ⟨y6, y7, y8, y9, rfl, Same.refl _⟩ (fun j σ H' _ hp => by obtain ⟨_, _, _, _, _, sm⟩ := hp; exact SqL.of (sm _ _ er)) (fun j z σ H' hz hp => ?_) (fun σ H' hp => ?_)
    · obtain ⟨z6, z7, z8, z9, rfl, sm⟩ := hp
      obtain ⟨u, gu⟩ := all z (List.mem_of_getElem? hz)
      replace gu := gu.same sm
      have gt := g0.same sm
      have ud := u.deep_le
      have usz := gu.sz
      obtain ⟨w1, w2, w3, w4⟩ := two_ok gt.lt gu.lt (by omega) (by omega)
      have w3' : (two t u).depth ≤ 60 := by
        simp only [two, PyData.depth, PyData.depthAll, t.data_deep, u.data_deep]; omega
      refine ⟨_, rfl, _, rfl, (by show 2 ≤ sizeLine; decide), fun pl npl => ?_⟩
      have k16 := same_new npl (.lst [.ref ta, z])
      have gt6 := gt.same k16
      have gu6 := gu.same k16
      refine ⟨pl, two t u, rfl, .lst (SqL.of upd_same) (.cons gt6.at0.dp (.cons gu6.at0.dp .nil)), w1, w2, w3', w4, ?_⟩
      refine ⟨_, rfl, _, t, rfl, gt6.at0, gt.lt, by omega, by omega, _, rfl, _, u, rfl, gu6.at0, gu.lt, by omega, by omega, (by show 2 ≤ sizeLine; decide), fun pd npd => ?_⟩
      have k17 := same_new npd (.lst [.str t.text, .str u.text])
      have epd := upd_same (H := upd H' pl (.lst [.ref ta, z])) (a := pd) (o := .lst [.str t.text, .str u.text])
      have gt7 := gt6.same k17
      have gu7 := gu6.same k17
      have s17 := sm.trans (k16.trans k17)
      generalize upd (upd H' pl (.lst [.ref ta, z])) pd (.lst [.str t.text, .str u.text]) = H17 at epd gt7 gu7 s17 ⊢
      refine ⟨_, _, rfl, ?_⟩
      refine ⟨_, rfl, _, t, rfl, gt7.at0, gt.ne, gt.lt, by omega, by omega, _, rfl, _, u, rfl, gu7.at0, gu.ne, gu.lt, by omega, by omega, (by show 2 ≤ sizeLine; decide), fun pf npf => ?_⟩
      have k18 := same_new npf (.lst [.str t.text, .str u.text])
      have epf := upd_same (H := H17) (a := pf) (o := .lst [.str t.text, .str u.text])
      have epd8 := k18 _ _ epd
      have gt8 := gt7.same k18
      have gu8 := gu7.same k18
      have s18 := s17.trans k18
      generalize upd H17 pf (.lst [.str t.text, .str u.text]) = H18 at epf epd8 gt8 gu8 s18 ⊢
      refine ⟨_, rfl, _, rfl, .ref pf, .ref pd, .list [.str t.text, .str u.text], rfl, .lst (SqL.of epf) (.cons (.str _) (.cons (.str _) .nil)), .lst (SqL.of epd8) (.cons (.str _) (.cons (.str _) .nil)), by simp only [PyData.depth, PyData.depthAll]; decide, by simp [nar, narAll], fun H19 s19 => ⟨_, rfl, iteF ?_⟩⟩
      have gt9 := gt8.same s19
      have gu9 := gu8.same s19
      refine ⟨_, rfl, pf, _, 0, .str t.text, rfl, rfl, SqL.of (s19 _ _ epf), atI_nat (j := 0) rfl, _, rfl, pf, _, 1, .str u.text, rfl, rfl, SqL.of (s19 _ _ epf), atI_nat (j := 1) rfl, rfl, ?_⟩
      refine ⟨_, rfl, _, rfl, t.data, u.data, gt9.at0.dp, gu9.at0.dp, T.shaped gt.lt (by omega), T.shaped gu.lt (by omega), ?_⟩
      rw [eqv_text gt.lt gu.lt]
      refine ⟨rfl, _, rfl, iteNS rfl ?_⟩
      refine ⟨_, rfl, _, rfl, (by show 2 ≤ sizeLine; decide), fun pl2 npl2 => ?_⟩
      have k20 := same_new npl2 (.lst [.ref ta, z])
      have gt10 := gt9.same k20
      have gu10 := gu9.same k20
      refine ⟨pl2, two t u, rfl, .lst (SqL.of upd_same) (.cons gt10.at0.dp (.cons gu10.at0.dp .nil)), w1, w2, w3', w4, _, rfl, rfl, _, rfl, iteNS rfl ?_⟩
      refine ⟨_, rfl, _, t, rfl, gt10.at0, gt.ne, gt.lt, by omega, by omega, _, rfl, pd, _, 0, .str t.text, rfl, rfl, SqL.of (k20 _ _ (s19 _ _ epd8)), atI_nat (j := 0) rfl, rfl, _, rfl, iteNS rfl ?_⟩
      exact ⟨_, _, _, _, rfl, s18.trans (s19.trans k20)⟩
    · obtain ⟨z6, z7, z8, z9, rfl, sm⟩ := hp
      exact ⟨_, _, _, _, _, _, _, _, c10, rfl, d15.same sm, by omega⟩
  · exact rfl
end
/-! ### what the top has left -/
theorem all_mk {l : PySem.W.OpenLaw} {w : World} {K : PySem.W.Frag} {h : Heap} {mg : Str → Option Value} {fa f1 f2 f3 f4 f5 f6 f7 f8 f9 f10 f11 f12  : Addr} (X : K.In h) (G : h.Ns mainGlobals mg) (hfa : mg "law" = some (.ref fa))
    {od1 an1 od2 an2 od3 an3 od4 an4 od5 an5 od6 an6 od7 an7 od8 an8 od9 an9 od10 an10 od11 an11 od12 an12 : Option Addr} {sl1 sl2 sl3 sl4 sl5 sl6 sl7 sl8 sl9 sl10 sl11 sl12 : Array (Option Value)}
    {oc1 kV1 dc1 pm1 cd1 ct1 oc2 kV2 dc2 pm2 cd2 ct2 oc3 kV3 dc3 pm3 cd3 ct3 oc4 kV4 dc4 pm4 cd4 ct4 oc5 kV5 dc5 pm5 cd5 ct5 oc6 kV6 dc6 pm6 cd6 ct6 oc7 kV7 dc7 pm7 cd7 ct7 oc8 kV8 dc8 pm8 cd8 ct8 oc9 kV9 dc9 pm9 cd9 ct9 oc10 kV10 dc10 pm10 cd10 ct10 oc11 kV11 dc11 pm11 cd11 ct11 oc12 kV12 dc12 pm12 cd12 ct12 : Value}
    (a1 : PySem.W.nsIn K mainGlobals "mirrored" = some (some (.ref f1)))
    (l1 : K.lookup f1 = some ⟨oc1, od1, .func (PySem.W.fnOf "mirrored" "mirrored" (defArgs s_mirrored) (defBody s_mirrored) (defScope s_mirrored) .none kV1 dc1 pm1 an1 cd1 ct1), sl1⟩)
    (c1 : PySem.W.codeIn K cd1 "mirrored" = true)
    (k1 : PySem.W.keepIn K (.ref f1) = true)
    (a2 : PySem.W.nsIn K mainGlobals "tree_text" = some (some (.ref f2)))
    (l2 : K.lookup f2 = some ⟨oc2, od2, .func (PySem.W.fnOf "tree_text" "tree_text" (defArgs s_tree_text) (defBody s_tree_text) (defScope s_tree_text) .none kV2 dc2 pm2 an2 cd2 ct2), sl2⟩)
    (c2 : PySem.W.codeIn K cd2 "tree_text" = true)
    (k2 : PySem.W.keepIn K (.ref f2) = true)
    (a3 : PySem.W.nsIn K mainGlobals "side_text" = some (some (.ref f3)))
    (l3 : K.lookup f3 = some ⟨oc3, od3, .func (PySem.W.fnOf "side_text" "side_text" (defArgs s_side_text) (defBody s_side_text) (defScope s_side_text) .none kV3 dc3 pm3 an3 cd3 ct3), sl3⟩)
    (c3 : PySem.W.codeIn K cd3 "side_text" = true)
    (k3 : PySem.W.keepIn K (.ref f3) = true)
    (a4 : PySem.W.nsIn K mainGlobals "_law_deck" = some (some (.ref f4)))
    (l4 : K.lookup f4 = some ⟨oc4, od4, .func (PySem.W.fnOf "_law_deck" "_law_deck" (defArgs s__law_deck) (defBody s__law_deck) (defScope s__law_deck) .none kV4 dc4 pm4 an4 cd4 ct4), sl4⟩)
    (c4 : PySem.W.codeIn K cd4 "_law_deck" = true)
    (k4 : PySem.W.keepIn K (.ref f4) = true)
    (a5 : PySem.W.nsIn K mainGlobals "_law_next" = some (some (.ref f5)))
    (l5 : K.lookup f5 = some ⟨oc5, od5, .func (PySem.W.fnOf "_law_next" "_law_next" (defArgs s__law_next) (defBody s__law_next) (defScope s__law_next) .none kV5 dc5 pm5 an5 cd5 ct5), sl5⟩)
    (c5 : PySem.W.codeIn K cd5 "_law_next" = true)
    (k5 : PySem.W.keepIn K (.ref f5) = true)
    (a6 : PySem.W.nsIn K mainGlobals "_law_one" = some (some (.ref f6)))
    (l6 : K.lookup f6 = some ⟨oc6, od6, .func (PySem.W.fnOf "_law_one" "_law_one" (defArgs s__law_one) (defBody s__law_one) (defScope s__law_one) .none kV6 dc6 pm6 an6 cd6 ct6), sl6⟩)
    (c6 : PySem.W.codeIn K cd6 "_law_one" = true)
    (k6 : PySem.W.keepIn K (.ref f6) = true)
    (a7 : PySem.W.nsIn K mainGlobals "_law_same" = some (some (.ref f7)))
    (l7 : K.lookup f7 = some ⟨oc7, od7, .func (PySem.W.fnOf "_law_same" "_law_same" (defArgs s__law_same) (defBody s__law_same) (defScope s__law_same) .none kV7 dc7 pm7 an7 cd7 ct7), sl7⟩)
    (c7 : PySem.W.codeIn K cd7 "_law_same" = true)
    (k7 : PySem.W.keepIn K (.ref f7) = true)
    (a8 : PySem.W.nsIn K mainGlobals "_law_letters" = some (some (.ref f8)))
    (l8 : K.lookup f8 = some ⟨oc8, od8, .func (PySem.W.fnOf "_law_letters" "_law_letters" (defArgs s__law_letters) (defBody s__law_letters) (defScope s__law_letters) .none kV8 dc8 pm8 an8 cd8 ct8), sl8⟩)
    (c8 : PySem.W.codeIn K cd8 "_law_letters" = true)
    (k8 : PySem.W.keepIn K (.ref f8) = true)
    (a9 : PySem.W.nsIn K mainGlobals "_law_grown" = some (some (.ref f9)))
    (l9 : K.lookup f9 = some ⟨oc9, od9, .func (PySem.W.fnOf "_law_grown" "_law_grown" (defArgs s__law_grown) (defBody s__law_grown) (defScope s__law_grown) .none kV9 dc9 pm9 an9 cd9 ct9), sl9⟩)
    (c9 : PySem.W.codeIn K cd9 "_law_grown" = true)
    (k9 : PySem.W.keepIn K (.ref f9) = true)
    (a10 : PySem.W.nsIn K mainGlobals "_law_tree" = some (some (.ref f10)))
    (l10 : K.lookup f10 = some ⟨oc10, od10, .func (PySem.W.fnOf "_law_tree" "_law_tree" (defArgs s__law_tree) (defBody s__law_tree) (defScope s__law_tree) .none kV10 dc10 pm10 an10 cd10 ct10), sl10⟩)
    (c10 : PySem.W.codeIn K cd10 "_law_tree" = true)
    (k10 : PySem.W.keepIn K (.ref f10) = true)
    (a11 : PySem.W.nsIn K mainGlobals "_law_text" = some (some (.ref f11)))
    (l11 : K.lookup f11 = some ⟨oc11, od11, .func (PySem.W.fnOf "_law_text" "_law_text" (defArgs s__law_text) (defBody s__law_text) (defScope s__law_text) .none kV11 dc11 pm11 an11 cd11 ct11), sl11⟩)
    (c11 : PySem.W.codeIn K cd11 "_law_text" = true)
    (k11 : PySem.W.keepIn K (.ref f11) = true)
    (a12 : PySem.W.nsIn K mainGlobals "law" = some (some (.ref f12)))
    (l12 : K.lookup f12 = some ⟨oc12, od12, .func (PySem.W.fnOf "law" "law" (defArgs s_law) (defBody s_law) (defScope s_law) .none kV12 dc12 pm12 an12 cd12 ct12), sl12⟩)
    (c12 : PySem.W.codeIn K cd12 "law" = true)
    (k12 : PySem.W.keepIn K (.ref f12) = true)
    (z1 : PySem.W.nsIn K mainGlobals "len" = some none)
    (z2 : PySem.W.nsIn K mainGlobals "isinstance" = some none)
    (z3 : PySem.W.nsIn K mainGlobals "list" = some none)
    (z4 : PySem.W.nsIn K mainGlobals "tuple" = some none)
    (z5 : PySem.W.nsIn K mainGlobals "str" = some none)
    (z6 : PySem.W.nsIn K mainGlobals "int" = some none)
    (z7 : PySem.W.nsIn K mainGlobals "bool" = some none)
    (z8 : PySem.W.nsIn K mainGlobals "range" = some none)
    (z9 : PySem.W.nsIn K mainGlobals "sorted" = some none)
    (z10 : PySem.W.nsIn K mainGlobals "abs" = some none)
    (z11 : PySem.W.nsIn K mainGlobals "repr" = some none)
    : ∀ (base : Heap) (H : Hp) (s : Shared) (a : Addr) (ns : List Int), K.In base → base.Ns mainGlobals mg → Env0 l.prog w K mg base callerA [] s H → SqL K H a (ns.map V.int) → ns.length ≤ 63 →
      codeAny (model l.prog w) callerA (.call (.ref fa) ⟨[.ref a], []⟩) (CR CX0 [] l.prog w H s (fun v _ => v = .bl true) fun _ _ _ => False) s := by
  intro base H s a ns _ _ en hS hn
  have e := hfa.symm.trans (PySem.W.mg_of X G a12)
  cases e
  have F1 := fun_mk (st := s_mirrored) l1 c1 k1
  have g1 := PySem.W.mg_of X G a1
  have F2 := fun_mk (st := s_tree_text) l2 c2 k2
  have g2 := PySem.W.mg_of X G a2
  have F3 := fun_mk (st := s_side_text) l3 c3 k3
  have g3 := PySem.W.mg_of X G a3
  have F4 := fun_mk (st := s__law_deck) l4 c4 k4
  have g4 := PySem.W.mg_of X G a4
  have F5 := fun_mk (st := s__law_next) l5 c5 k5
  have g5 := PySem.W.mg_of X G a5
  have F6 := fun_mk (st := s__law_one) l6 c6 k6
  have g6 := PySem.W.mg_of X G a6
  have F7 := fun_mk (st := s__law_same) l7 c7 k7
  have g7 := PySem.W.mg_of X G a7
  have F8 := fun_mk (st := s__law_letters) l8 c8 k8
  have g8 := PySem.W.mg_of X G a8
  have F9 := fun_mk (st := s__law_grown) l9 c9 k9
  have g9 := PySem.W.mg_of X G a9
  have F10 := fun_mk (st := s__law_tree) l10 c10 k10
  have g10 := PySem.W.mg_of X G a10
  have F11 := fun_mk (st := s__law_text) l11 c11 k11
  have g11 := PySem.W.mg_of X G a11
  have F12 := fun_mk (st := s_law) l12 c12 k12
  have m_len := PySem.W.mg_none_of X G z1
  have m_isinstance := PySem.W.mg_none_of X G z2
  have m_list := PySem.W.mg_none_of X G z3
  have m_tuple := PySem.W.mg_none_of X G z4
  have m_str := PySem.W.mg_none_of X G z5
  have m_int := PySem.W.mg_none_of X G z6
  have m_bool := PySem.W.mg_none_of X G z7
  have m_range := PySem.W.mg_none_of X G z8
  have m_sorted := PySem.W.mg_none_of X G z9
  have m_abs := PySem.W.mg_none_of X G z10
  have m_repr := PySem.W.mg_none_of X G z11
  have b1 := F1.binds (ps := ["tree"]) fun _ _ _ _ _ _ us hl => match us, hl with | [_], _ => rfl
  have b2 := F2.binds (ps := ["tree"]) fun _ _ _ _ _ _ us hl => match us, hl with | [_], _ => rfl
  have b3 := F3.binds (ps := ["side"]) fun _ _ _ _ _ _ us hl => match us, hl with | [_], _ => rfl
  have b4 := F4.binds (ps := ["_law_script"]) fun _ _ _ _ _ _ us hl => match us, hl with | [_], _ => rfl
  have b5 := F5.binds (ps := ["_law_deck_here", "_law_many"]) fun _ _ _ _ _ _ us hl => match us, hl with | [_, _], _ => rfl
  have b6 := F6.binds (ps := ["_law_deck_here", "_law_items"]) fun _ _ _ _ _ _ us hl => match us, hl with | [_, _], _ => rfl
  have b7 := F7.binds (ps := ["_law_found", "_law_due"]) fun _ _ _ _ _ _ us hl => match us, hl with | [_, _], _ => rfl
  have b8 := F8.binds (ps := ["_law_deck_here", "_law_size"]) fun _ _ _ _ _ _ us hl => match us, hl with | [_, _], _ => rfl
  have b9 := F9.binds (ps := ["_law_deck_here", "_law_size", "_law_way", "_law_letters_here"]) fun _ _ _ _ _ _ us hl => match us, hl with | [_, _, _, _], _ => rfl
  have b10 := F10.binds (ps := ["_law_deck_here", "_law_limit"]) fun _ _ _ _ _ _ us hl => match us, hl with | [_, _], _ => rfl
  have b11 := F11.binds (ps := ["_law_tree_here"]) fun _ _ _ _ _ _ us hl => match us, hl with | [_], _ => rfl
  have M : Mgs mg := ⟨m_len, m_isinstance, m_list, m_tuple, m_str, m_int, m_bool, m_range⟩
  have Dmirrored : Df l.prog w K mg base 20 "mirrored" ["tree"] (spMir 20) := ⟨f1, _, ok_mir F1 b1 g1 20, b1, k1, g1⟩
  have Dtree_text : Df l.prog w K mg base 40 "tree_text" ["tree"] (spText 20) := ⟨f2, _, ok_texts F2 b2 g2 F3 b3 g3 20, b2, k2, g2⟩
  have D_law_deck : Df l.prog w K mg base 1 "_law_deck" ["_law_script"] (spDeck K) := ⟨f4, _, ok_deck (k := 0) F4 m_len m_abs m_int, b4, k4, g4⟩
  have D_law_next : Df l.prog w K mg base 1 "_law_next" ["_law_deck_here", "_law_many"] spNext := ⟨f5, _, ok_next (k := 0) F5 m_len, b5, k5, g5⟩
  have D_law_one : Df l.prog w K mg base 2 "_law_one" ["_law_deck_here", "_law_items"] spOne := ⟨f6, _, ok_one F6 M D_law_next, b6, k6, g6⟩
  have D_law_same : Df l.prog w K mg base 20 "_law_same" ["_law_found", "_law_due"] (spSame K 20) := ⟨f7, _, ok_same F7 b7 g7 M 20, b7, k7, g7⟩
  have D_law_letters : Df l.prog w K mg base 2 "_law_letters" ["_law_deck_here", "_law_size"] spLett := ⟨f8, _, ok_lett (k := 1) F8 D_law_next.ok D_law_next.b D_law_next.kp D_law_next.g M m_sorted, b8, k8, g8⟩
  have D_law_grown : Df l.prog w K mg base 28 "_law_grown" ["_law_deck_here", "_law_size", "_law_way", "_law_letters_here"] (spGrown 27) := ⟨f9, _, ok_grown F9 b9 g9 D_law_next.ok D_law_next.b D_law_next.kp D_law_next.g 27, b9, k9, g9⟩
  have D_law_tree : Df l.prog w K mg base 29 "_law_tree" ["_law_deck_here", "_law_limit"] spTree := ⟨f10, _, ok_tree F10 D_law_next.ok D_law_next.b D_law_next.kp D_law_next.g D_law_letters.ok D_law_letters.b D_law_letters.kp D_law_letters.g D_law_grown.ok D_law_grown.b D_law_grown.kp D_law_grown.g, b10, k10, g10⟩
  have D_law_text : Df l.prog w K mg base 20 "_law_text" ["_law_tree_here"] (spTextL 20) := ⟨f11, _, ok_ltext F11 b11 g11 20, b11, k11, g11⟩
  exact run_law F12 (.of_eq rfl) en hS M m_repr D_law_deck D_law_same D_law_tree D_law_one Dmirrored Dtree_text D_law_text
theorem walk_at {l : PySem.W.OpenLaw} {q : Program} {loose : List Str} {XP : (Str → Option Value) → Heap → Prop} {YP : World → Heap → Prop} {d : DefRec} {K : Params → PySem.W.Frag} (most : l.most = some 63) (noDf : d.params.defaults = [])
    (inK : ∀ (w : World) (h : Heap), YP w h → (K w.params).In h)
    (F : ∀ (w : World) (mg : Str → Option Value) (fa : Addr) (h : Heap), (K w.params).In h → h.Ns mainGlobals mg → mg d.name = some (.ref fa) →
      ∀ (base : Heap) (H : Hp) (s : Shared) (a : Addr) (ns : List Int), (K w.params).In base → base.Ns mainGlobals mg → Env0 l.prog w (K w.params) mg base callerA [] s H → SqL (K w.params) H a (ns.map V.int) → ns.length ≤ 63 →
        codeAny (model l.prog w) callerA (.call (.ref fa) ⟨[.ref a], []⟩) (CR CX0 [] l.prog w H s (fun v _ => v = .bl true) fun _ _ _ => False) s) :
    PySem.W.WalkO q loose XP YP l.row.toRowW d [] (fun f vs => PySem.call f vs) := by
  refine Att.attach_call most noDf ?_
  intro w s₀ s₁ mg mb fa o pm cd doc a vs ns G Y ho hd hcd hmg hobj hints hlen hg
  exact law_at (inK w _ Y) G.T.g G.T.b G.T.builtins G.T.nolimit hg hobj hints (Nat.le_trans hlen (by decide)) fun base H h1 h2 en hS => F w mg fa _ (inK w _ Y) G.T.g hmg base H s₁ a ns h1 h2 en hS hlen
end Tw
open PySem PySem.W PyProof.Rows
set_option maxRecDepth 100000 in
set_option maxHeartbeats 0 in
theorem PySem.Challenge.cw_treewalks_k71_texts_of_trees_holds : PySem.Challenge.rw_treewalks_k71_texts_of_trees.Holds := by
  w_on; o_law; k_head; (case hw => w_witness2)
  k_fill
  refine Tw.walk_at (l := PySem.Challenge.rw_treewalks_k71_texts_of_trees) rfl rfl (fun w h Y => by first | exact PySem.W.kIn_of Y | exact PySem.W.km_in_of Y) ?F
  case F =>
    intro w mg fa h KX G hmg
    refine' Tw.all_mk KX G hmg ?a1 ?l1 ?c1 ?k1 ?a2 ?l2 ?c2 ?k2 ?a3 ?l3 ?c3 ?k3 ?a4 ?l4 ?c4 ?k4 ?a5 ?l5 ?c5 ?k5 ?a6 ?l6 ?c6 ?k6 ?a7 ?l7 ?c7 ?k7 ?a8 ?l8 ?c8 ?k8 ?a9 ?l9 ?c9 ?k9 ?a10 ?l10 ?c10 ?k10 ?a11 ?l11 ?c11 ?k11 ?a12 ?l12 ?c12 ?k12 ?z1 ?z2 ?z3 ?z4 ?z5 ?z6 ?z7 ?z8 ?z9 ?z10 ?z11
    (case a1 => k_is)
    (case l1 => k_is)
    (case c1 => k_is)
    (case k1 => k_is)
    (case a2 => k_is)
    (case l2 => k_is)
    (case c2 => k_is)
    (case k2 => k_is)
    (case a3 => k_is)
    (case l3 => k_is)
    (case c3 => k_is)
    (case k3 => k_is)
    (case a4 => k_is)
    (case l4 => k_is)
    (case c4 => k_is)
    (case k4 => k_is)
    (case a5 => k_is)
    (case l5 => k_is)
    (case c5 => k_is)
    (case k5 => k_is)
    (case a6 => k_is)
    (case l6 => k_is)
    (case c6 => k_is)
    (case k6 => k_is)
    (case a7 => k_is)
    (case l7 => k_is)
    (case c7 => k_is)
    (case k7 => k_is)
    (case a8 => k_is)
    (case l8 => k_is)
    (case c8 => k_is)
    (case k8 => k_is)
    (case a9 => k_is)
    (case l9 => k_is)
    (case c9 => k_is)
    (case k9 => k_is)
    (case a10 => k_is)
    (case l10 => k_is)
    (case c10 => k_is)
    (case k10 => k_is)
    (case a11 => k_is)
    (case l11 => k_is)
    (case c11 => k_is)
    (case k11 => k_is)
    (case a12 => k_is)
    (case l12 => k_is)
    (case c12 => k_is)
    (case k12 => k_is)
    (case z1 => k_is)
    (case z2 => k_is)
    (case z3 => k_is)
    (case z4 => k_is)
    (case z5 => k_is)
    (case z6 => k_is)
    (case z7 => k_is)
    (case z8 => k_is)
    (case z9 => k_is)
    (case z10 => k_is)
    (case z11 => k_is)
