import PyProof.Rows.All
import Wide.All
import OpenK.AllK
import Wide.FinOn
import HandS.ForMost
import HandS.Wide
import HandS.IsInst
import HandS.Flow
import HandS.FStrTup
import HandS.NoneIn
import HandS.TupAny
import HandS.Style
import PySem.Challenge.RW_treewalks_k01_trees_judged
set_option Elab.async false
set_option maxRecDepth 100000
set_option maxHeartbeats 4000000
namespace Tw
open PySem PySem.Spec PyProof.Rows L2
/-! ### trees as data -/
inductive T where
  | nil
  | node (l : T) (x : Str) (r : T)
def T.size : T → Nat
  | .nil => 0
  | .node l _ r => l.size + 1 + r.size
def T.deep : T → Nat
  | .nil => 0
  | .node l _ r => 1 + max l.deep r.deep
def T.mir : T → T
  | .nil => .nil
  | .node l x r => .node r.mir x l.mir
def T.data : T → PyData
  | .nil => .none
  | .node l x r => .tuple [l.data, .str x, r.data]
theorem T.deep_le : ∀ t : T, t.deep ≤ t.size
  | .nil => Nat.le_refl _
  | .node l _ r => by
    have h1 := l.deep_le
    have h2 := r.deep_le
    show 1 + max l.deep r.deep ≤ l.size + 1 + r.size
    omega
theorem T.mir_size : ∀ t : T, t.mir.size = t.size
  | .nil => rfl
  | .node l _ r => by
    have h1 := l.mir_size
    have h2 := r.mir_size
    show r.mir.size + 1 + l.mir.size = l.size + 1 + r.size
    omega
/-- the tree t lies at v -/
inductive TreeAt (H : Hp) : V → T → Prop
  | nil : TreeAt H .non .nil
  | node {a : Addr} {l r : V} {x : Str} {tl tr : T} : H a = some (.tup [l, .str x, r]) → TreeAt H l tl → TreeAt H r tr → TreeAt H (.ref a) (.node tl x tr)
/-- tuples stand still -/
def KeepT (H H' : Hp) : Prop := ∀ b xs, H b = some (.tup xs) → H' b = some (.tup xs)
theorem KeepT.refl (H : Hp) : KeepT H H := fun _ _ h => h
theorem KeepT.trans {H H1 H2 : Hp} (a : KeepT H H1) (b : KeepT H1 H2) : KeepT H H2 := fun c xs h => b c xs (a c xs h)
theorem Same.keepT {H H' : Hp} (h : Same H H') : KeepT H H' := fun b xs e => h b _ e
theorem TreeAt.keep {H H' : Hp} (k : KeepT H H') {v : V} {t : T} (h : TreeAt H v t) : TreeAt H' v t := by
  induction h with
  | nil => exact .nil
  | node e _ _ h1 h2 => exact .node (k _ _ e) h1 h2
theorem TreeAt.same {H H' : Hp} (k : Same H H') {v : V} {t : T} (h : TreeAt H v t) : TreeAt H' v t := h.keep (Tw.Same.keepT k)
theorem TreeAt.dp {K : PySem.W.Frag} {H : Hp} {v : V} {t : T} (h : TreeAt H v t) : Dp K H v t.data := by
  induction h with
  | nil => exact .non
  | node e _ _ h1 h2 => exact .tup (SqT.of e) (.cons h1 (.cons (.str _) (.cons h2 .nil)))
theorem TreeAt.inv {H : Hp} {v : V} {t : T} (h : TreeAt H v t) : (v = .non ∧ t = .nil) ∨ ∃ a l r x tl tr, v = .ref a ∧ t = .node tl x tr ∧ H a = some (.tup [l, .str x, r]) ∧ TreeAt H l tl ∧ TreeAt H r tr := by
  cases h with
  | nil => exact .inl ⟨rfl, rfl⟩
  | node e h1 h2 => exact .inr ⟨_, _, _, _, _, _, rfl, rfl, e, h1, h2⟩
theorem same_new {H : Hp} {p : Addr} (h : H p = none) (o : HO) : Same H (upd H p o) := fun b u q => by rw [upd_ne (ne_of_none q h)]; exact q
theorem small {n : Nat} (h : n ≤ 1000) : n ≤ sizeLine := Nat.le_of_lt (small1000 h)
/-! ### the text by places -/
def top (i : Nat) : Stmt := PySem.Challenge.pw_treewalks_k01_trees_judged.main.body.getD i (.Pass ⟨0, 0, 0, 0⟩)
abbrev sLetter : Stmt := top 5
abbrev sNode : Stmt := top 7
abbrev sIsTree : Stmt := top 8
abbrev sDeck : Stmt := top 10
abbrev sNext : Stmt := top 11
abbrev sSame : Stmt := top 12
abbrev sLett : Stmt := top 13
abbrev sGrown : Stmt := top 14
abbrev sTree : Stmt := top 15
abbrev sOdd : Stmt := top 16
abbrev sCount : Stmt := top 17
abbrev sBent : Stmt := top 18
abbrev sLaw : Stmt := top 19

/-! ### the deck -/
structure Deck where
  dk : Addr
  ca : Addr
  ra : Addr
structure DeckOk (H : Hp) (D : Deck) (n : Nat) : Prop where
  ex : ∃ cells rests : List Int, H D.dk = some (.lst [.ref D.ca, .ref D.ra, .int (n : Int)]) ∧ H D.ca = some (.lst (cells.map V.int)) ∧ H D.ra = some (.lst (rests.map V.int)) ∧ 0 < cells.length ∧ rests.length = cells.length ∧ cells.length ≤ 61
  dc : D.dk ≠ D.ca
  dr : D.dk ≠ D.ra
  cr : D.ca ≠ D.ra
/-- all stands still but the deck's list and its rests -/
def SameD (D : Deck) (H H' : Hp) : Prop := ∀ b o, b ≠ D.dk → b ≠ D.ra → H b = some o → H' b = some o
theorem SameD.refl (D : Deck) (H : Hp) : SameD D H H := fun _ _ _ _ h => h
theorem SameD.trans {D : Deck} {H H1 H2 : Hp} (a : SameD D H H1) (b : SameD D H1 H2) : SameD D H H2 := fun c o h1 h2 h => b c o h1 h2 (a c o h1 h2 h)
theorem SameD.of {D : Deck} {H H' : Hp} (h : Same H H') : SameD D H H' := fun b o _ _ e => h b o e
theorem DeckOk.lists {H : Hp} {D : Deck} {n : Nat} (d : DeckOk H D n) : (∃ xs, H D.dk = some (.lst xs)) ∧ (∃ xs, H D.ra = some (.lst xs)) := by
  obtain ⟨c, r, h1, _, h3, _⟩ := d.ex
  exact ⟨⟨_, h1⟩, ⟨_, h3⟩⟩
theorem SameD.keepT {D : Deck} {H H' : Hp} {n : Nat} (h : SameD D H H') (d : DeckOk H D n) : KeepT H H' := fun b xs e => by
  obtain ⟨⟨x1, h1⟩, ⟨x2, h2⟩⟩ := d.lists
  exact h b _ (ne_of e h1 (by intro z; cases z)) (ne_of e h2 (by intro z; cases z)) e
theorem SameD.free {D : Deck} {H H' : Hp} {n : Nat} (h : SameD D H H') (d : DeckOk H' D n) {p : Addr} (e : H' p = none) : H p = none := by
  obtain ⟨⟨x1, h1⟩, ⟨x2, h2⟩⟩ := d.lists
  have n1 : p ≠ D.dk := fun z => by rw [z, h1] at e; cases e
  have n2 : p ≠ D.ra := fun z => by rw [z, h2] at e; cases e
  cases q : H p with
  | none => rfl
  | some o =>
    rw [h p o n1 n2 q] at e
    cases e
theorem DeckOk.same {H H' : Hp} {D : Deck} {n : Nat} (d : DeckOk H D n) (h : Same H H') : DeckOk H' D n := by
  obtain ⟨c, r, h1, h2, h3, h4⟩ := d.ex
  exact ⟨⟨c, r, h _ _ h1, h _ _ h2, h _ _ h3, h4⟩, d.dc, d.dr, d.cr⟩
structure Off (D : Deck) (p : Addr) : Prop where
  dk : p ≠ D.dk
  ca : p ≠ D.ca
  ra : p ≠ D.ra
theorem DeckOk.new {H : Hp} {D : Deck} {n : Nat} (d : DeckOk H D n) {p : Addr} (e : H p = none) : Off D p := by
  obtain ⟨c, r, h1, h2, h3, _⟩ := d.ex
  refine ⟨fun z => ?_, fun z => ?_, fun z => ?_⟩
  · rw [z, h1] at e
    cases e
  · rw [z, h2] at e
    cases e
  · rw [z, h3] at e
    cases e
theorem DeckOk.put {H : Hp} {D : Deck} {n : Nat} (d : DeckOk H D n) {p : Addr} (f : Off D p) (o : HO) : DeckOk (upd H p o) D n := by
  obtain ⟨c, r, h1, h2, h3, h4⟩ := d.ex
  exact ⟨⟨c, r, by rw [upd_ne f.dk.symm]; exact h1, by rw [upd_ne f.ca.symm]; exact h2, by rw [upd_ne f.ra.symm]; exact h3, h4⟩, d.dc, d.dr, d.cr⟩
theorem SameD.put {D : Deck} {H H' : Hp} {p : Addr} (s : SameD D H H') (e : H p = none) (o : HO) : SameD D H (upd H' p o) := fun b u h1 h2 h => by
  rw [upd_ne (ne_of_none h e)]
  exact s b u h1 h2 h
theorem SameD.at {D : Deck} {H H' : Hp} {p : Addr} {o : HO} (s : SameD D H H') (f : Off D p) (e : H p = some o) : H' p = some o := s p o f.dk f.ra e
theorem at_map {α : Type} {f : α → V} {ns : List α} {i : Int} {v : α} (h0 : 0 ≤ i) (h : ns[i.toNat]? = some v) : atI (ns.map f) i = some (f v) := by
  have e : i = ((i.toNat : Nat) : Int) := by omega
  rw [e]
  exact atI_nat (by rw [List.getElem?_map, h]; rfl)
theorem rep_flat {α : Type} (a : α) : ∀ m : Nat, (List.replicate m [a]).flatten = List.replicate m a
  | 0 => rfl
  | m + 1 => by
    rw [List.replicate_succ, List.replicate_succ, List.flatten_cons, rep_flat a m]
    rfl
theorem at_int {ns : List Int} {i : Int} {v : Int} (h0 : 0 ≤ i) (h : ns[i.toNat]? = some v) : atI (ns.map V.int) i = some (.int v) := by
  have e : i = ((i.toNat : Nat) : Int) := by omega
  rw [e]
  exact atI_nat (by rw [List.getElem?_map, h]; rfl)
theorem ixN_nat {n : Nat} {i : Int} (h0 : 0 ≤ i) (h : i < n) : ixN n i = some i.toNat := by
  unfold ixN
  first
    | rw [if_pos h0, if_pos h]
    | (rw [if_pos h0]; rw [if_pos (by omega)])
    | simp [h0, h]
theorem mod1 (z : Int) : -(2 ^ 64) < z % 2305843009213693951 ∧ z % 2305843009213693951 < 2 ^ 64 := by
  have a := Int.emod_nonneg z (show (2305843009213693951 : Int) ≠ 0 by decide)
  have b := Int.emod_lt_of_pos z (show (0 : Int) < 2305843009213693951 by decide)
  omega
theorem mod2 (z : Int) : -(2 ^ 64) < z % 2305843009213693921 ∧ z % 2305843009213693921 < 2 ^ 64 := by
  have a := Int.emod_nonneg z (show (2305843009213693921 : Int) ≠ 0 by decide)
  have b := Int.emod_lt_of_pos z (show (0 : Int) < 2305843009213693921 by decide)
  omega
def spNext : Sp := fun vs H Q _ => ∃ (D : Deck) (n : Nat) (m : Int), vs = [.ref D.dk, .int m] ∧ DeckOk H D n ∧ n ≤ 1000000 ∧ 0 < m ∧ m ≤ 1000 ∧ ∀ (i : Int) (H' : Hp), 0 ≤ i → i < m → DeckOk H' D (n + 1) → SameD D H H' → Q (.int i) H'
theorem scNext : FnScope ["_law_deck_here", "_law_many", "_law_cells", "_law_rests", "_law_count_here", "_law_index", "_law_digit", "_law_mixed"] ["_law_deck_here", "_law_many"] (defScope sNext) := ⟨rfl, rfl, rfl, by decide +kernel, rfl, by decide +kernel, by decide +kernel⟩
section
variable {P : Program} {w : World} {K : PySem.W.Frag} {mg : Str → Option Value} {base : Heap} {f : Addr} {fd : FuncData}
theorem ok_next {k : Nat} (F : Fun K "_law_next" "_law_next" sNext f fd) (ml : mg "len" = none) : FnOk P w K mg base CX0 (k + 1) f fd ["_law_deck_here", "_law_many"] spNext := by
  refine F.ok scNext (fun vs H Q E h => ?_) (fun cdv A outer s H vs Q E hr h => ?_)
  · obtain ⟨D, n, m, rfl, _⟩ := h
    rfl
  obtain ⟨D, n, m, rfl, d, hn, m0, m1, q⟩ := h
  obtain ⟨cells, rests, e1, e2, e3, c0, cr, c1⟩ := d.ex
  refine ⟨_, pss_cons (ps_asg (pv 0) (pg_unl rfl (pgs_cons (pg_name (i := 2) scNext.nd rfl (.inl rfl)) (pgs_cons (pg_name (i := 3) scNext.nd rfl (.inl rfl)) (pgs_cons (pg_name (i := 4) scNext.nd rfl (.inl rfl)) pgs_nil)))))
    (pss_cons (ps_asg (pe_op op_add (pv 4) pe_int) (pg_sub (pv 0) pe_int set_list))
    (pss_cons (ps_set (i := 5) scNext.nd rfl (.inl rfl) (pe_op op_mod (pv 4) (pe_callB call_len_seq rfl ml PySem.boot_len (pa_cons (pv 2) pa_nil))))
    (pss_cons (ps_if (pt_cmpR op_gt (pe_ix ix_list (pv 3) (pv 5) (fun _ _ => rfl)) pe_int (nomark _))
      (pss_cons (ps_set (i := 6) scNext.nd rfl (.inl rfl) (pe_op op_mod (pe_ix ix_list (pv 3) (pv 5) (fun _ _ => rfl)) (pv 1)))
      (pss_cons (ps_asg (pe_op op_fdiv (pe_ix ix_list (pv 3) (pv 5) (fun _ _ => rfl)) (pv 1)) (pg_sub (pv 3) (pv 5) set_list))
      (pss_one (ps_ret (pv 6))))) pss_nil)
    (pss_cons (ps_set (i := 7) scNext.nd rfl (.inl rfl) (pe_op op_mul (pe_op op_add (pe_op op_add (pe_ix ix_list (pv 2) (pv 5) (fun _ _ => rfl)) (pe_op op_mul pe_int (pv 4))) pe_int) (pe_op op_add pe_int (pe_op op_mul pe_int (pv 4)))))
    (pss_cons (ps_set (i := 7) scNext.nd rfl (.inl rfl) (pe_op op_mod (pe_op op_add (pv 7) (pe_op op_mul pe_int (pv 4))) pe_int))
    (pss_cons (ps_set (i := 7) scNext.nd rfl (.inl rfl) (pe_op op_mod (pe_op op_add (pe_op op_mul (pv 7) (pv 7)) pe_int) pe_int))
    (pss_cons (ps_set (i := 7) scNext.nd rfl (.inl rfl) (pe_op op_mod (pe_op op_mul (pv 7) (pv 7)) pe_int))
    (pss_one (ps_ret (pe_op op_mod (pe_op op_fdiv (pv 7) pe_int) (pv 1))))))))))), ?_⟩
  -- the three parts
  refine ⟨_, rfl, D.dk, _, rfl, SqL.of e1, rfl, _, _, rfl, _, _, rfl, _, _, rfl, rfl, ?_⟩
  -- deck[2] = count + 1
  refine ⟨_, rfl, _, _, rfl, rfl, _, rfl, D.dk, _, _, 2, rfl, rfl, e1, rfl, ?_⟩
  have x2 : (upd H D.dk (.lst [.ref D.ca, .ref D.ra, .int ((n : Int) + 1)])) D.ca = some (.lst (cells.map V.int)) := by rw [upd_ne d.dc.symm]; exact e2
  have x3 : (upd H D.dk (.lst [.ref D.ca, .ref D.ra, .int ((n : Int) + 1)])) D.ra = some (.lst (rests.map V.int)) := by rw [upd_ne d.dr.symm]; exact e3
  have x1 : (upd H D.dk (.lst [.ref D.ca, .ref D.ra, .int ((n : Int) + 1)])) D.dk = some (.lst [.ref D.ca, .ref D.ra, .int ((n + 1 : Nat) : Int)]) := upd_same
  have sd : SameD D H (upd H D.dk (.lst [.ref D.ca, .ref D.ra, .int ((n : Int) + 1)])) := fun b o h1 _ e => by rw [upd_ne h1]; exact e
  have cl : ((cells.map V.int).length : Int) = (cells.length : Int) := by rw [List.length_map]
  have rl : ((rests.map V.int).length : Int) = (cells.length : Int) := by rw [List.length_map, cr]
  -- index
  refine ⟨_, rfl, _, rfl, D.ca, _, rfl, .inl (SqL.of x2), _, _, rfl, rfl, (by show (0 : Int) < ((cells.map V.int).length : Int); rw [cl]; omega), ?_⟩
  have i0 : 0 ≤ (n : Int) % ((cells.map V.int).length : Int) := Int.emod_nonneg _ (by rw [cl]; omega)
  have i1 : (n : Int) % ((cells.map V.int).length : Int) < (cells.length : Int) := by
    rw [cl]
    exact Int.emod_lt_of_pos _ (by omega)
  have l1 : ((n : Int) % ((cells.map V.int).length : Int)).toNat < rests.length := by omega
  have l2 : ((n : Int) % ((cells.map V.int).length : Int)).toNat < cells.length := by omega
  have a1 := at_int i0 (List.getElem?_eq_getElem l1)
  have a2 := at_int i0 (List.getElem?_eq_getElem l2)
  refine ⟨_, rfl, _, rfl, D.ra, _, _, _, rfl, rfl, SqL.of x3, a1, _, _, rfl, rfl, _, rfl, ite2 (fun _ => ?_) (fun _ => ?_)⟩
  · refine ⟨_, rfl, _, rfl, D.ra, _, _, _, rfl, rfl, SqL.of x3, a1, _, rfl, _, _, rfl, rfl, m0, ?_⟩
    refine ⟨_, rfl, _, rfl, D.ra, _, _, _, rfl, rfl, SqL.of x3, a1, _, rfl, _, _, rfl, rfl, ⟨m0, by omega⟩, ?_⟩
    refine ⟨_, rfl, _, rfl, D.ra, _, _, _, rfl, rfl, x3, ixN_nat i0 (by rw [rl]; exact i1), ?_⟩
    refine ⟨_, rfl, ?_⟩
    refine q _ _ (Int.emod_nonneg _ (by omega)) (Int.emod_lt_of_pos _ m0) ⟨⟨cells, rests.set ((n : Int) % ((cells.map V.int).length : Int)).toNat (rests[((n : Int) % ((cells.map V.int).length : Int)).toNat] / m), ?_, ?_, ?_, c0, ?_, c1⟩, d.dc, d.dr, d.cr⟩ ?_
    · rw [upd_ne d.dr]; exact x1
    · rw [upd_ne d.cr]; exact x2
    · rw [upd_same, List.map_set]
    · rw [List.length_set]; exact cr
    · exact sd.trans fun b o _ h2 e => by rw [upd_ne h2]; exact e
  · refine ⟨_, rfl, _, rfl, D.ca, _, _, _, rfl, rfl, SqL.of x2, a2, _, rfl, _, _, rfl, rfl, .inl ⟨by decide, by decide⟩, _, _, rfl, rfl, _, _, rfl, rfl, _, rfl, _, _, rfl, rfl, .inl ⟨by decide, by decide⟩, _, _, rfl, rfl, _, _, rfl, rfl, .inr ⟨by omega, by omega⟩, ?_⟩
    refine ⟨_, rfl, _, rfl, _, _, rfl, rfl, .inl ⟨by decide, by decide⟩, _, _, rfl, rfl, _, _, rfl, rfl, (show (0 : Int) < 2305843009213693951 by decide), ?_⟩
    refine ⟨_, rfl, _, rfl, _, _, rfl, rfl, .inl (mod1 _), _, _, rfl, rfl, _, _, rfl, rfl, (show (0 : Int) < 2305843009213693921 by decide), ?_⟩
    refine ⟨_, rfl, _, rfl, _, _, rfl, rfl, .inl (mod2 _), _, _, rfl, rfl, (show (0 : Int) < 2305843009213693951 by decide), ?_⟩
    refine ⟨_, rfl, _, _, rfl, rfl, ⟨by decide, by decide⟩, _, rfl, _, _, rfl, rfl, m0, ?_⟩
    exact q _ _ (Int.emod_nonneg _ (by omega)) (Int.emod_lt_of_pos _ m0) ⟨⟨cells, rests, x1, x2, x3, c0, cr, c1⟩, d.dc, d.dr, d.cr⟩ sd
end

/-! ### _law_deck -/
theorem cut_to (xs : List V) (k : Nat) : cutV xs none (some (k : Int)) = xs.take k := by
  unfold cutV
  rw [HT.sIx_nat, HT.sIx_none, List.drop_zero, Nat.sub_zero]
  rw [Nat.min_def]
  split
  · rfl
  · rw [List.take_of_length_le (Nat.le_refl _), List.take_of_length_le (by omega)]
theorem cut_from (xs : List V) (k : Nat) : cutV xs (some (k : Int)) none = xs.drop k := by
  unfold cutV
  rw [HT.sIx_nat, HT.sIx_none]
  by_cases h : k ≤ xs.length
  · rw [Nat.min_eq_left h, List.take_of_length_le (by rw [List.length_drop]; omega)]
  · rw [Nat.min_eq_right (by omega), List.drop_eq_nil_of_le (Nat.le_refl _), List.drop_eq_nil_of_le (by omega), List.take_nil]
theorem kept {σ : L2.St} {H : Hp} {A B : Hp → Prop} (h : A H) : tYes σ H (fun b H3 => if b = true then A H3 else B H3) := by
  show if true = true then A H else B H
  exact iteT h
theorem scDeck : FnScope ["_law_script", "_law_cells", "_law_cell"] ["_law_script"] (defScope sDeck) := ⟨rfl, rfl, rfl, by decide +kernel, rfl, by decide +kernel, by decide +kernel⟩
def spDeck (K : PySem.W.Frag) : Sp := fun vs H Q _ => ∃ (a : Addr) (ns : List Int), vs = [.ref a] ∧ SqL K H a (ns.map V.int) ∧ ∀ (D : Deck) (H' : Hp), DeckOk H' D 0 → Same H H' → Q (.ref D.dk) H'
section
variable {P : Program} {w : World} {K : PySem.W.Frag} {mg : Str → Option Value} {base : Heap} {f : Addr} {fd : FuncData}
theorem ok_deck {k : Nat} (F : Fun K "_law_deck" "_law_deck" sDeck f fd) (ml : mg "len" = none) (ma : mg "abs" = none) (mi : mg "int" = none) : FnOk P w K mg base CX0 (k + 1) f fd ["_law_script"] (spDeck K) := by
  refine F.ok scDeck (fun vs H Q E h => ?_) (fun cdv A outer s H vs Q E hr h => ?_)
  · obtain ⟨a, ns, rfl, _⟩ := h
    rfl
  obtain ⟨a, ns, rfl, hS, q⟩ := h
  refine ⟨_, pss_cons (ps_set (i := 1) scDeck.nd rfl (.inl rfl) (pe_op op_cat
      (pe_lc (own := [("_law_cell", 2)]) (g := gName 2) (tt := tYes) rfl scDeck.nd (pi_list (pe_slice sl_list (pv 0) po_none (po_some pe_int))) (blkOk_by (N := ["_law_script", "_law_cells", "_law_cell"]) (sc := defScope sDeck) (by decide +kernel))
        (fun _ _ _ _ _ => pg_name (i := 2) scDeck.nd rfl (Or.inl rfl)) (fun _ _ _ _ _ => pts_nil) (fun _ _ _ _ _ => pe_callB call_abs rfl ma (by decide +kernel) (pa_cons (pv 2) pa_nil)))
      (pe_op op_rep (pe_lst (pa_cons pe_int pa_nil)) (pe_callTy call_int1 rfl mi (by decide +kernel) (pa_cons (pe_cmpR op_eq (pe_callB call_len_seq rfl ml PySem.boot_len (pa_cons (pv 0) pa_nil)) pe_int (nomark _)) pa_nil)))))
    (pss_one (ps_ret (pe_lst (pa_cons (pv 1) (pa_cons
      (pe_lc (own := [("_law_cell", 2)]) (g := gName 2) (tt := tYes) rfl scDeck.nd (pi_list (pv 1)) (blkOk_by (N := ["_law_script", "_law_cells", "_law_cell"]) (sc := defScope sDeck) (by decide +kernel))
        (fun _ _ _ _ _ => pg_name (i := 2) scDeck.nd rfl (Or.inl rfl)) (fun _ _ _ _ _ => pts_nil)
        (fun _ _ _ _ _ => pe_op op_mul (pv 2) (pe_callTy call_int1 rfl mi (by decide +kernel) (pa_cons (pe_cmpR op_ge (pv 2) (pe_op op_pow pe_int pe_int) (nomark _)) pa_nil))))
      (pa_cons pe_int pa_nil)))))), ?_⟩
  refine ⟨.ref a, rfl, 61, rfl, a, ns.map V.int, rfl, hS, fun c nc => ?_⟩
  rw [show (61 : Int) = ((61 : Nat) : Int) from rfl, cut_to, ← List.map_take]
  have s1 := same_new nc (.lst ((ns.take 61).map V.int))
  refine ⟨c, rfl, ⟨_, SqL.of upd_same⟩, fun d1 n1 => ?_⟩
  have s2 := same_new n1 (.lst [])
  refine lc_list (K := K) (a := c) (xs := (ns.take 61).map V.int) (fun i H' => Same (upd H c (.lst ((ns.take 61).map V.int))) H' ∧ ∃ zs : List Int, zs.length = i ∧ H' d1 = some (.lst (zs.map V.int))) ⟨s2, [], rfl, upd_same⟩ (fun i H' _ hp => SqL.of (hp.1 _ _ upd_same)) (fun i x H' hx hp => ?_) (fun H1 hp => ?_)
  · obtain ⟨sm, zs, hz, hd⟩ := hp
    rw [List.getElem?_map] at hx
    obtain ⟨y, hy, rfl⟩ := Option.map_eq_some_iff.mp hx
    have hi : i < 61 := by
      have := (List.getElem?_eq_some_iff.mp hy).1
      rw [List.length_take] at this
      omega
    refine ⟨rfl, kept ?_⟩
    refine ⟨_, rfl, _, rfl, _, hd, by rw [List.length_map]; exact small1000 (by omega), fun b o e => ?_, zs ++ [if y < 0 then -y else y], by rw [List.length_append, hz]; rfl, ?_⟩
    · rw [upd_ne (ne_of_none e n1)]
      exact sm _ _ e
    · rw [upd_same, List.map_append]
      rfl
  obtain ⟨sm, zs, hz, hd⟩ := hp
  rw [List.length_map, List.length_take] at hz
  refine ⟨(by show 1 ≤ sizeLine; decide), fun z nz => ?_⟩
  have s3 := same_new nz (.lst [.int 0])
  have sH : Same H H1 := s1.trans sm
  refine ⟨.ref a, rfl, a, _, rfl, .inl ((sH.trans s3).seq hS), rfl, .inr ⟨_, rfl, z, _, _, rfl, rfl, upd_same, ?_, ?_, ?_, fun y ny => ?_⟩⟩
  · split <;> decide
  · split <;> decide
  · split <;> decide
  have s4 := same_new ny (.lst (List.replicate (Int.toNat (if decide (V.int ((ns.map V.int).length : Int) = V.int 0) = true then 1 else 0)) [V.int 0]).flatten)
  obtain ⟨ex, hex, hexl⟩ : ∃ ex : List Int, (List.replicate (Int.toNat (if decide (V.int ((ns.map V.int).length : Int) = V.int 0) = true then 1 else 0)) [V.int 0]).flatten = ex.map V.int ∧ 0 < zs.length + ex.length ∧ zs.length + ex.length ≤ 61 := by
    by_cases h0 : ns.length = 0
    · refine ⟨[0], ?_, ?_, ?_⟩
      · rw [show (decide (V.int ((ns.map V.int).length : Int) = V.int 0)) = true by rw [List.length_map, h0]; rfl]
        rfl
      · exact Nat.succ_pos _
      · rw [hz, h0]
        decide
    · refine ⟨[], ?_, ?_, ?_⟩
      · rw [show (decide (V.int ((ns.map V.int).length : Int) = V.int 0)) = false by
          apply decide_eq_false
          intro z
          have z' := V.int.inj z
          rw [List.length_map] at z'
          omega]
        rfl
      · rw [List.length_nil]; omega
      · rw [List.length_nil]; omega
  refine ⟨d1, y, _, _, rfl, rfl, (s3.trans s4) _ _ hd, upd_same, ?_, fun p np => ?_⟩
  · rw [hex, List.length_map, List.length_map]
    exact small (by omega)
  have s5 := same_new np (.lst (zs.map V.int ++ (List.replicate (Int.toNat (if decide (V.int ((ns.map V.int).length : Int) = V.int 0) = true then 1 else 0)) [V.int 0]).flatten))
  have s6 := sH.trans (s3.trans (s4.trans s5))
  -- the second list
  refine ⟨.ref p, rfl, .ref p, rfl, p, rfl, ⟨_, SqL.of upd_same⟩, fun r nr => ?_⟩
  rw [hex, ← List.map_append] at s5 s6 nr ⊢
  generalize hH2 : upd (upd (upd H1 z (.lst [.int 0])) y (.lst (ex.map V.int))) p (.lst ((zs ++ ex).map V.int)) = H2 at s5 s6 nr ⊢
  have ep : H2 p = some (.lst ((zs ++ ex).map V.int)) := by rw [← hH2]; exact upd_same
  have hpr : p ≠ r := ne_of_none ep nr
  refine lc_list (K := K) (a := p) (xs := (zs ++ ex).map V.int) (fun i H' => Same H2 H' ∧ ∃ ys : List Int, ys.length = i ∧ H' r = some (.lst (ys.map V.int))) ⟨same_new nr _, [], rfl, upd_same⟩ (fun i H' _ hp => SqL.of (hp.1 _ _ ep)) (fun i x H' hx hp => ?_) (fun H3 hp => ?_)
  · obtain ⟨sm, ys, hy, hd⟩ := hp
    rw [List.getElem?_map] at hx
    obtain ⟨v, hv, rfl⟩ := Option.map_eq_some_iff.mp hx
    have hi : i < 61 := by
      have := (List.getElem?_eq_some_iff.mp hv).1
      rw [List.length_append] at this
      omega
    refine ⟨rfl, kept ?_⟩
    refine ⟨_, rfl, _, rfl, _, _, rfl, rfl, ⟨by decide, by decide, by decide⟩, _, _, rfl, rfl, .inr ⟨_, rfl, _, _, rfl, rfl, .inr ?_, _, hd, by rw [List.length_map]; exact small1000 (by omega), fun b o e => ?_, ys ++ [v * (if decide (v ≥ (10 : Int) ^ Int.toNat 18) = true then 1 else 0)], by rw [List.length_append, hy]; rfl, ?_⟩⟩
    · split <;> decide
    · rw [upd_ne (ne_of_none e nr)]
      exact sm _ _ e
    · rw [upd_same, List.map_append]
      rfl
  · obtain ⟨sm, ys, hy, hd⟩ := hp
    refine ⟨(by show 3 ≤ sizeLine; decide), fun t nt => ?_⟩
    have s9 := same_new nt (.lst [.ref p, .ref r, .int 0])
    have ep3 := sm _ _ ep
    refine q ⟨t, p, r⟩ _ ⟨⟨zs ++ ex, ys, upd_same, s9 _ _ ep3, s9 _ _ hd, ?_, ?_, ?_⟩, (ne_of_none ep3 nt).symm, (ne_of_none hd nt).symm, hpr⟩ (s6.trans (sm.trans s9))
    · rw [List.length_append]; omega
    · rw [hy, List.length_map]
    · rw [List.length_append]; omega
end

/-! ### _law_same, of equal data -/
theorem sqT_same {K : PySem.W.Frag} {H H' : Hp} {a : Addr} {xs : List V} (e : Same H H') (h : SqT K H a xs) : SqT K H' a xs := by
  rcases h with (h | ⟨o, h⟩) | h
  · exact .inl (.inl (e _ _ h))
  · exact .inl (.inr ⟨o, e _ _ h⟩)
  · exact .inr h
mutual
theorem dp_same {K : PySem.W.Frag} {H H' : Hp} (e : Same H H') : ∀ {v : V} {d : PyData}, Dp K H v d → Dp K H' v d
  | _, _, .non => .non
  | _, _, .bl b => .bl b
  | _, _, .int i => .int i
  | _, _, .str x => .str x
  | _, _, .lst h a => .lst (e.seq h) (dpAll_same e a)
  | _, _, .tup h a => .tup (sqT_same e h) (dpAll_same e a)
theorem dpAll_same {K : PySem.W.Frag} {H H' : Hp} (e : Same H H') : ∀ {vs : List V} {ds : List PyData}, DpAll K H vs ds → DpAll K H' vs ds
  | _, _, .nil => .nil
  | _, _, .cons h a => .cons (dp_same e h) (dpAll_same e a)
end
theorem dpAll_len {K : PySem.W.Frag} {H : Hp} : ∀ {vs : List V} {ds : List PyData}, DpAll K H vs ds → vs.length = ds.length
  | _, _, .nil => rfl
  | _, _, .cons _ a => congrArg (· + 1) (dpAll_len a)
theorem dpAll_get {K : PySem.W.Frag} {H : Hp} : ∀ {vs : List V} {ds : List PyData} {i : Nat} {d : PyData}, DpAll K H vs ds → ds[i]? = some d → ∃ v, vs[i]? = some v ∧ Dp K H v d
  | _, _, _, _, .nil, h => by simp at h
  | _, _, 0, _, .cons h _, e => by
    cases e
    exact ⟨_, rfl, h⟩
  | _, _, i + 1, _, .cons _ a, e => dpAll_get (i := i) a e
def tyD : PyData → String
  | .none => "NoneType"
  | .bool _ => "bool"
  | .int _ => "int"
  | .str _ => "str"
  | .list _ => "list"
  | .tuple _ => "tuple"
  | .dict _ => "dict"
theorem dp_ty {K : PySem.W.Frag} {H : Hp} {v : V} {d : PyData} (h : Dp K H v d) : TyX K H v (.type (tyD d)) := by
  cases h with
  | non => exact .base .non
  | bl b => exact .base (.bl b)
  | int i => exact .base (.int i)
  | str x => exact .base (.str x)
  | lst h _ =>
    rcases h with (h | ⟨o, h⟩) | ⟨o, its, n, h, hc, _⟩
    · exact .base (.lst h)
    · exact .base (.frz h)
    · exact .kList h hc
  | tup h _ =>
    rcases h with (h | ⟨o, h⟩) | ⟨o, its, n, h, hc, _⟩
    · exact .base (.tup h)
    · exact .fTuple h
    · exact .kTuple h hc
theorem kit_lt {K : PySem.W.Frag} {a : String} {r s : Bool} (h1 : kitB a "list" = some r) (h2 : kitB a "tuple" = some s) : PySem.W.kitAny K (.type a) [.type "list", .type "tuple"] = some (r || s) := by
  refine kitAny_cons (kit_ty h1) (fun e => kitAny_cons (kit_ty h2) (fun e2 => ?_) fun e2 => ?_) fun e => ?_
  · rw [kitAny_nil, e, e2]; rfl
  · rw [e2, Bool.or_true]
  · rw [e, Bool.true_or]
theorem depth_get : ∀ {ds : List PyData} {i : Nat} {d : PyData}, ds[i]? = some d → d.depth ≤ PyData.depthAll ds
  | [], _, _, h => by simp at h
  | x :: xs, 0, _, h => by
    cases h
    simp only [PyData.depthAll]
    omega
  | x :: xs, i + 1, d, h => by
    have := depth_get (ds := xs) (i := i) h
    simp only [PyData.depthAll]
    omega
mutual
def nar : PyData → Bool
  | .list xs => decide (xs.length ≤ 1000000) && narAll xs
  | .tuple xs => decide (xs.length ≤ 1000000) && narAll xs
  | .dict _ => false
  | .none => true
  | .bool _ => true
  | .int _ => true
  | .str _ => true
def narAll : List PyData → Bool
  | [] => true
  | x :: xs => nar x && narAll xs
end
theorem nar_get : ∀ {ds : List PyData} {i : Nat} {d : PyData}, ds[i]? = some d → narAll ds = true → nar d = true
  | [], _, _, h, _ => by simp at h
  | x :: xs, 0, _, h, k => by
    cases h
    simp only [narAll, Bool.and_eq_true] at k
    exact k.1
  | x :: xs, i + 1, d, h, k => by
    simp only [narAll, Bool.and_eq_true] at k
    exact nar_get (ds := xs) (i := i) h k.2
theorem scSame : FnScope ["_law_found", "_law_due", "_law_k"] ["_law_found", "_law_due"] (defScope sSame) := ⟨rfl, rfl, rfl, by decide +kernel, rfl, by decide +kernel, by decide +kernel⟩
def spSame (K : PySem.W.Frag) (n : Nat) : Sp := fun vs H Q _ => ∃ (v v' : V) (d : PyData), vs = [v, v'] ∧ Dp K H v d ∧ Dp K H v' d ∧ d.depth < n ∧ nar d = true ∧ ∀ H', Same H H' → Q (.bl true) H'
structure Mgs (mg : Str → Option Value) : Prop where
  len : mg "len" = none
  isi : mg "isinstance" = none
  list : mg "list" = none
  tuple : mg "tuple" = none
  str : mg "str" = none
  int : mg "int" = none
  bool : mg "bool" = none
  range : mg "range" = none
theorem dp_two {K : PySem.W.Frag} {H : Hp} {v v' : V} {d : PyData} {n : Nat} (h : Dp K H v d) (h' : Dp K H v' d) (hd : d.depth < n + 1) (hn : nar d = true) :
    (∃ (p p' : Addr) (xs xs' : List V) (ds : List PyData) (bl : Bool) (ty : String), v = .ref p ∧ v' = .ref p' ∧ (SqL K H p xs ∨ SqT K H p xs) ∧ (SqL K H p' xs' ∨ SqT K H p' xs') ∧ DpAll K H xs ds ∧ DpAll K H xs' ds ∧
      TyX K H v (.type ty) ∧ TyX K H v' (.type ty) ∧ kitB ty "list" = some bl ∧ kitB ty "tuple" = some (!bl) ∧ PyData.depthAll ds < n ∧ ds.length ≤ 1000000 ∧ narAll ds = true) ∨ (v = v' ∧ (v = .non ∨ (∃ b, v = .bl b) ∨ (∃ i, v = .int i) ∨ ∃ x, v = .str x)) := by
  have t1 := dp_ty h
  have t2 := dp_ty h'
  cases h with
  | non =>
    cases h'
    exact .inr ⟨rfl, .inl rfl⟩
  | bl b =>
    cases h'
    exact .inr ⟨rfl, .inr (.inl ⟨b, rfl⟩)⟩
  | int b =>
    cases h'
    exact .inr ⟨rfl, .inr (.inr (.inl ⟨b, rfl⟩))⟩
  | str b =>
    cases h'
    exact .inr ⟨rfl, .inr (.inr (.inr ⟨b, rfl⟩))⟩
  | lst h a =>
    cases h' with
    | lst h' a' =>
      simp only [PyData.depth] at hd
      simp only [nar, Bool.and_eq_true, decide_eq_true_eq] at hn
      exact .inl ⟨_, _, _, _, _, true, "list", rfl, rfl, .inl h, .inl h', a, a', t1, t2, by decide +kernel, by decide +kernel, by omega, hn.1, hn.2⟩
  | tup h a =>
    cases h' with
    | tup h' a' =>
      simp only [PyData.depth] at hd
      simp only [nar, Bool.and_eq_true, decide_eq_true_eq] at hn
      exact .inl ⟨_, _, _, _, _, false, "tuple", rfl, rfl, .inr h, .inr h', a, a', t1, t2, by decide +kernel, by decide +kernel, by omega, hn.1, hn.2⟩
theorem seq_same {K : PySem.W.Frag} {H H' : Hp} {p : Addr} {xs : List V} (e : Same H H') (h : SqL K H p xs ∨ SqT K H p xs) : SqL K H' p xs ∨ SqT K H' p xs := h.elim (fun h => .inl (e.seq h)) fun h => .inr (sqT_same e h)
theorem seq_ix {K : PySem.W.Frag} {H : Hp} {p : Addr} {xs : List V} {i : Int} {v : V} {Q : VK} (h : SqL K H p xs ∨ SqT K H p xs) (a : atI xs i = some v) (q : Q v H) : rIx K (.ref p) (.int i) H Q :=
  h.elim (fun h => .inl ⟨p, xs, i, v, rfl, rfl, h, a, q⟩) fun h => .inr (.inl ⟨p, xs, i, v, rfl, rfl, h, a, q⟩)
theorem tyX_same {K : PySem.W.Frag} {H H' : Hp} {v : V} {d : PyData} (e : Same H H') (h : Dp K H v d) : TyX K H' v (.type (tyD d)) := dp_ty (dp_same e h)
section
variable {P : Program} {w : World} {K : PySem.W.Frag} {mg : Str → Option Value} {base : Heap} {f : Addr} {fd : FuncData}
theorem ok_same (F : Fun K "_law_same" "_law_same" sSame f fd) (b : Binds K fd ["_law_found", "_law_due"] []) (g : mg "_law_same" = some (.ref f)) (M : Mgs mg) : ∀ n : Nat, FnOk P w K mg base CX0 n f fd ["_law_found", "_law_due"] (spSame K n)
  | 0 => by
    have no : ∀ vs H Q E, ¬ spSame K 0 vs H Q E := fun vs H Q E h => by
      obtain ⟨v, t, d, _, _, _, h1, _, _⟩ := h
      omega
    exact ⟨fun vs H Q E h => absurd h (no vs H Q E), fun A outer s H args us vs Q E _ _ _ _ h => absurd h (no vs H Q E)⟩
  | n + 1 => by
    have G := ok_same F b g M n
    refine F.ok scSame (fun vs H Q E h => ?_) (fun cdv A outer s H vs Q E hr h => ?_)
    · obtain ⟨v, t, d, rfl, _⟩ := h
      rfl
    obtain ⟨v, v', d, rfl, hv, hv', hd, hna, q⟩ := h
    have bi : bootBuiltins "isinstance" = some (.builtin "isinstance") := by decide +kernel
    refine ⟨_, pss_cons (ps_if (pt_val (pe_callB call_isiT rfl M.isi bi (pa_cons (pv 1) (pa_cons (pe_tup (pa_cons (pe_bltn (v := .ty "list") rfl M.list (by decide +kernel) rfl) (pa_cons (pe_bltn (v := .ty "tuple") rfl M.tuple (by decide +kernel) rfl) pa_nil))) pa_nil))))
        (pss_cons (ps_if (PW.pt (pw_or (pt_cmpR op_ne (pe_callB call_isi rfl M.isi bi (pa_cons (pv 0) (pa_cons (pe_bltn (v := .ty "list") rfl M.list (by decide +kernel) rfl) pa_nil))) (pe_callB call_isi rfl M.isi bi (pa_cons (pv 1) (pa_cons (pe_bltn (v := .ty "list") rfl M.list (by decide +kernel) rfl) pa_nil))) (nomark _))
            (pw_or1 (pt_cmpR op_ne (pe_callB call_isi rfl M.isi bi (pa_cons (pv 0) (pa_cons (pe_bltn (v := .ty "tuple") rfl M.tuple (by decide +kernel) rfl) pa_nil))) (pe_callB call_isi rfl M.isi bi (pa_cons (pv 1) (pa_cons (pe_bltn (v := .ty "tuple") rfl M.tuple (by decide +kernel) rfl) pa_nil))) (nomark _))))) (pss_one (ps_ret pe_bl)) pss_nil)
        (pss_cons (ps_if (pt_cmpR op_ne (pe_callB call_len_seq rfl M.len PySem.boot_len (pa_cons (pv 0) pa_nil)) (pe_callB call_len_seq rfl M.len PySem.boot_len (pa_cons (pv 1) pa_nil)) (nomark _)) (pss_one (ps_ret pe_bl)) pss_nil)
        (pss_one (ps_ret (pe_cmpR (op_eqD hr.units) (pe_lc (own := [("_law_k", 2)]) (g := gName 2) rfl scSame.nd (pi_range1 rfl M.range (pa_cons (pe_callB call_len_seq rfl M.len PySem.boot_len (pa_cons (pv 1) pa_nil)) pa_nil)) (blkOk_by (N := ["_law_found", "_law_due", "_law_k"]) (sc := defScope sSame) (by decide +kernel))
            (fun _ _ _ _ _ => pg_name (i := 2) scSame.nd rfl (Or.inl rfl)) (fun _ _ _ _ _ => pts_one (pt_not (pt_val (pe_call G hr rfl g F.kp b .nil pass0 (pa_cons (pe_ix (show IxR _ (rIx K) from ix_seq) (pv 0) (pv 2) (fun _ _ => rfl)) (pa_cons (pe_ix (show IxR _ (rIx K) from ix_seq) (pv 1) (pv 2) (fun _ _ => rfl)) pa_nil)))))) (fun _ _ _ _ _ => pv 2))
          (pe_lst pa_nil) (nomark _)))))) pss_nil)
      (pss_cons (ps_if (pt_cmpR op_isN (pv 1) pe_non (nomark _)) (pss_one (ps_ret (pe_cmpR op_isN (pv 0) pe_non (nomark _)))) pss_nil)
      (pss_cons (ps_if (pt_val (pe_callB call_isi rfl M.isi bi (pa_cons (pv 1) (pa_cons (pe_bltn (v := .ty "str") rfl M.str (by decide +kernel) rfl) pa_nil)))) (pss_one (ps_ret (pe_and (pe_callB call_isi rfl M.isi bi (pa_cons (pv 0) (pa_cons (pe_bltn (v := .ty "str") rfl M.str (by decide +kernel) rfl) pa_nil))) (pe_one (pe_cmpR op_eq (pv 0) (pv 1) (nomark _)))))) pss_nil)
      (pss_one (ps_ret (pe_and (pe_callB call_isi rfl M.isi bi (pa_cons (pv 0) (pa_cons (pe_bltn (v := .ty "int") rfl M.int (by decide +kernel) rfl) pa_nil)))
        (pe_and (pe_cmpR op_eq (pe_callB call_isi rfl M.isi bi (pa_cons (pv 0) (pa_cons (pe_bltn (v := .ty "bool") rfl M.bool (by decide +kernel) rfl) pa_nil))) (pe_callB call_isi rfl M.isi bi (pa_cons (pv 1) (pa_cons (pe_bltn (v := .ty "bool") rfl M.bool (by decide +kernel) rfl) pa_nil))) (nomark _)) (pe_one (pe_cmpR op_eq (pv 0) (pv 1) (nomark _))))))))), ?_⟩
    refine ⟨v', rfl, (by show 2 ≤ sizeLine; decide), fun tp np => ?_⟩
    have s1 := same_new np (.tup [.ty "list", .ty "tuple"])
    have hw := dp_same s1 hv
    have hw' := dp_same s1 hv'
    have pr : Paired ClsV [V.ty "list", V.ty "tuple"] [Value.type "list", Value.type "tuple"] := .cons (.ty _) (.cons (.ty _) .nil)
    rcases dp_two hw hw' hd hna with ⟨p, p', xs, xs', ds, bl, ty, rfl, rfl, hq, hq', ha, ha', ht, ht', k1, k2, hdd, hwl, hwn⟩ | ⟨rfl, hk⟩
    · have ka : PySem.W.kitAny K (.type ty) [.type "list", .type "tuple"] = some true := by
        rw [kit_lt k1 k2]
        cases bl <;> rfl
      have hl := dpAll_len ha
      have hl' := dpAll_len ha'
      refine ⟨_, tp, _, _, _, true, rfl, upd_same, pr, ht', ka, _, rfl, iteT ?_⟩
      refine ⟨_, rfl, _, _, _, _, bl, rfl, .ty _, ht, kit_ty k1, _, rfl, _, _, _, _, bl, rfl, .ty _, ht', kit_ty k1, by cases bl <;> rfl, _, rfl, iteNS rfl ?_⟩
      refine ⟨_, rfl, _, _, _, _, !bl, rfl, .ty _, ht, kit_ty k2, _, rfl, _, _, _, _, !bl, rfl, .ty _, ht', kit_ty k2, by cases bl <;> rfl, _, rfl, iteNS rfl ?_⟩
      refine ⟨_, rfl, p, xs, rfl, hq, _, rfl, p', xs', rfl, hq', rfl, _, rfl, iteNS (by rw [hl, hl']) ?_⟩
      refine ⟨_, rfl, p', xs', rfl, hq', _, rfl, ?_, ?_, fun D nD => ?_⟩
      · omega
      · omega
      have s2 := same_new nD (.lst [])
      rw [Int.toNat_natCast]
      refine lc_range (lo := 0) (n := xs'.length) (fun i H' => Same (upd H tp (.tup [.ty "list", .ty "tuple"])) H' ∧ H' D = some (.lst [])) ⟨s2, upd_same⟩ (fun i H' hi hp => ?_) (fun H' hp => ?_)
      · obtain ⟨sm, eD⟩ := hp
        obtain ⟨di, edi⟩ : ∃ di, ds[i]? = some di := ⟨_, List.getElem?_eq_getElem (by omega)⟩
        obtain ⟨x, ex, hx⟩ := dpAll_get ha edi
        obtain ⟨x', ex', hx'⟩ := dpAll_get ha' edi
        have hdi := depth_get edi
        have e0 : (0 : Int) + (i : Int) = ((i : Nat) : Int) := by omega
        rw [e0]
        refine ⟨rfl, ?_⟩
        refine ⟨_, rfl, _, rfl, seq_ix (seq_same sm hq) (atI_nat ex) ⟨_, rfl, _, rfl, seq_ix (seq_same sm hq') (atI_nat ex') ⟨x, x', di, rfl, dp_same sm hx, dp_same sm hx', by omega, nar_get edi hwn, fun H'' s'' => ?_⟩⟩⟩
        exact ⟨_, rfl, iteF ⟨sm.trans s'', s'' _ _ eD⟩⟩
      · obtain ⟨sm, eD⟩ := hp
        refine ⟨(by show 0 ≤ sizeLine; decide), fun e ne => ?_⟩
        refine ⟨.list [], .list [], .lst (SqL.of ((same_new ne _) _ _ eD)) .nil, .lst (SqL.of upd_same) .nil, rfl, rfl, ?_⟩
        exact q _ (s1.trans (sm.trans (same_new ne _)))
    · have fin := q _ s1
      rcases hk with rfl | ⟨c, rfl⟩ | ⟨c, rfl⟩ | ⟨c, rfl⟩
      · refine ⟨_, tp, _, _, _, false, rfl, upd_same, pr, .base .non, kit_lt (r := false) (s := false) (by decide +kernel) (by decide +kernel), _, rfl, iteF ?_⟩
        refine ⟨_, rfl, rfl, _, rfl, iteT ?_⟩
        exact ⟨_, rfl, rfl, fin⟩
      · refine ⟨_, tp, _, _, _, false, rfl, upd_same, pr, .base (.bl c), kit_lt (r := false) (s := false) (by decide +kernel) (by decide +kernel), _, rfl, iteF ?_⟩
        refine ⟨_, rfl, rfl, _, rfl, iteF ?_⟩
        refine ⟨_, rfl, _, _, _, _, false, rfl, .ty _, .base (.bl c), kit_ty (by decide +kernel), _, rfl, iteF ?_⟩
        refine ⟨_, rfl, _, _, _, _, true, rfl, .ty _, .base (.bl c), kit_ty (by decide +kernel), _, rfl, iteT ?_⟩
        refine ⟨_, rfl, _, _, _, _, true, rfl, .ty _, .base (.bl c), kit_ty (by decide +kernel), _, rfl, _, _, _, _, true, rfl, .ty _, .base (.bl c), kit_ty (by decide +kernel), rfl, _, rfl, iteT ?_⟩
        refine ⟨_, rfl, _, rfl, by cases c <;> rfl, ?_⟩
        rw [decide_eq_true rfl]
        exact fin
      · refine ⟨_, tp, _, _, _, false, rfl, upd_same, pr, .base (.int c), kit_lt (r := false) (s := false) (by decide +kernel) (by decide +kernel), _, rfl, iteF ?_⟩
        refine ⟨_, rfl, rfl, _, rfl, iteF ?_⟩
        refine ⟨_, rfl, _, _, _, _, false, rfl, .ty _, .base (.int c), kit_ty (by decide +kernel), _, rfl, iteF ?_⟩
        refine ⟨_, rfl, _, _, _, _, true, rfl, .ty _, .base (.int c), kit_ty (by decide +kernel), _, rfl, iteT ?_⟩
        refine ⟨_, rfl, _, _, _, _, false, rfl, .ty _, .base (.int c), kit_ty (by decide +kernel), _, rfl, _, _, _, _, false, rfl, .ty _, .base (.int c), kit_ty (by decide +kernel), rfl, _, rfl, iteT ?_⟩
        refine ⟨_, rfl, _, rfl, rfl, ?_⟩
        rw [decide_eq_true rfl]
        exact fin
      · refine ⟨_, tp, _, _, _, false, rfl, upd_same, pr, .base (.str c), kit_lt (r := false) (s := false) (by decide +kernel) (by decide +kernel), _, rfl, iteF ?_⟩
        refine ⟨_, rfl, rfl, _, rfl, iteF ?_⟩
        refine ⟨_, rfl, _, _, _, _, true, rfl, .ty _, .base (.str c), kit_ty (by decide +kernel), _, rfl, iteT ?_⟩
        refine ⟨_, rfl, _, _, _, _, true, rfl, .ty _, .base (.str c), kit_ty (by decide +kernel), _, rfl, iteT ?_⟩
        refine ⟨_, rfl, _, rfl, rfl, ?_⟩
        rw [decide_eq_true rfl]
        exact fin
end

/-! ### list(text) -/
theorem vals_signs : ∀ (l : List Nat) (vs : List Value), vs.length = l.length → (∀ (j : Nat) (v : Value), vs[j]? = some v → ∃ c u, l[j]? = some c ∧ v = .str ⟨#[c]⟩ u) → Vals (l.map fun c => V.str ⟨#[c]⟩) vs
  | [], [], _, _ => .nil
  | [], _ :: _, h, _ => by simp at h
  | _ :: _, [], h, _ => by simp at h
  | c :: l, v :: vs, h, k => by
    obtain ⟨c', u, e, rfl⟩ := k 0 v rfl
    cases e
    exact .cons ⟨u, rfl⟩ (vals_signs l vs (by simpa using h) fun j v e => k (j + 1) v e)
theorem call_signs {X : Cx} (hc : X.calm = true) : CallR X (.type "list") (fun xs H Q => ∃ x : Str, xs = [.str x] ∧ x.cps.size ≤ 1000 ∧ ∀ p, H p = none → Q (.ref p) (upd H p (.lst (x.cps.toList.map fun c => V.str ⟨#[c]⟩)))) := by
  intro pins s σ H xs us Q I r h
  obtain ⟨x, rfl, hz, q⟩ := h
  obtain ⟨u, rfl, t, rfl⟩ := vals1 r
  have hz' : x.cps.size ≤ sizeLine := small hz
  refine call_list_str (I.ok.hd hc) x t (fun h' tk acc' c' hk hS hacc => ?_) hz'
  have hv : Vals (x.cps.toList.map fun c => V.str ⟨#[c]⟩) acc'.toList := vals_signs _ _ (by rw [Array.length_toList, Array.length_toList]; exact hacc.1) fun j v e => by
    obtain ⟨c, u, h1, h2⟩ := hacc.2 j v (by rw [← Array.getElem?_toList]; exact e)
    exact ⟨c, u, by rw [Array.getElem?_toList]; exact h1, h2⟩
  exact ⟨.ref s.heap.objs.size, _, I.laid (t' := tk) hk (Nat.le_refl _) (show ObjOk X.prog X.w _ h' _ (.lst _) from ⟨by rw [List.length_map, Array.length_toList]; exact hz', acc'.toList, c', hv, by rw [Array.toArray_toList]; exact hS⟩), rfl, q _ (I.hok.fresh (Nat.le_refl _))⟩
/-! ### _law_letters -/
theorem erase_map {α β : Type} (f : α → β) : ∀ (l : List α) (i : Nat), (l.map f).eraseIdx i = (l.eraseIdx i).map f
  | [], _ => rfl
  | _ :: _, 0 => rfl
  | x :: l, i + 1 => congrArg (f x :: ·) (erase_map f l i)
def Ltr (x : Str) : Prop := ∃ c : Nat, 97 ≤ c ∧ c ≤ 122 ∧ x = ⟨#[c]⟩
def abc : List Str := (List.range 26).map fun c => ⟨#[c + 97]⟩
theorem abc_ltr : ∀ x ∈ abc, Ltr x := fun x h => by
  unfold abc at h
  obtain ⟨c, hc, rfl⟩ := List.mem_map.mp h
  have := List.mem_range.mp hc
  exact ⟨c + 97, by omega, by omega, rfl⟩
theorem abc_is : ((Str.ofString "abcdefghijklmnopqrstuvwxyz").cps.toList.map fun c => V.str ⟨#[c]⟩) = abc.map V.str := by decide +kernel
theorem abc_len : abc.length = 26 := by decide +kernel
theorem scLett : FnScope ["_law_deck_here", "_law_size", "_law_way", "_law_some", "_law_found", "_law_k"] ["_law_deck_here", "_law_size"] (defScope sLett) := ⟨rfl, rfl, rfl, by decide +kernel, rfl, by decide +kernel, by decide +kernel⟩
def spLett : Sp := fun vs H Q _ => ∃ (D : Deck) (n m : Nat), vs = [.ref D.dk, .int (m : Int)] ∧ DeckOk H D n ∧ n + m + 1 ≤ 1000000 ∧ 1 ≤ m ∧ m ≤ 26 ∧ ∀ (p : Addr) (xs : List Str) (n' : Nat) (H' : Hp), DeckOk H' D n' → n' ≤ n + m + 1 → SameD D H H' →
  H' p = some (.lst (xs.map V.str)) → xs.length = m → (∀ x ∈ xs, Ltr x) → Off D p → Q (.ref p) H'
section
variable {P : Program} {w : World} {K : PySem.W.Frag} {mg : Str → Option Value} {base : Heap} {f fN : Addr} {fd fdN : FuncData}
theorem ok_lett {k : Nat} (F : Fun K "_law_letters" "_law_letters" sLett f fd) (G : FnOk P w K mg base CX0 k fN fdN ["_law_deck_here", "_law_many"] spNext) (bN : Binds K fdN ["_law_deck_here", "_law_many"] []) (kN : PySem.W.keepIn K (.ref fN) = true) (gN : mg "_law_next" = some (.ref fN)) (M : Mgs mg) (ms : mg "sorted" = none) :
    FnOk P w K mg base CX0 (k + 1) f fd ["_law_deck_here", "_law_size"] spLett := by
  refine F.ok scLett (fun vs H Q E h => ?_) (fun cdv A outer s H vs Q E hr h => ?_)
  · obtain ⟨D, n, m, rfl, _⟩ := h
    rfl
  obtain ⟨D, n, m, rfl, d, hn, m0, m1, q⟩ := h
  refine ⟨_, pss_cons (ps_asg (pe_tup (pa_cons (pe_call G hr rfl gN kN bN .nil pass0 (pa_cons (pv 0) (pa_cons pe_int pa_nil))) (pa_cons (pe_callTy (call_signs rfl) rfl M.list (by decide +kernel) (pa_cons pe_str pa_nil)) pa_nil))) (pg_tup rfl (pgs_cons (pg_name (i := 2) scLett.nd rfl (.inl rfl)) (pgs_cons (pg_name (i := 3) scLett.nd rfl (.inr rfl)) pgs_nil))))
    (pss_cons (ps_if (pt_cmpR op_eq (pv 2) pe_int (nomark _)) (pss_one (ps_ret (pe_op op_rep (pe_lst (pa_cons (pe_ix ix_list (pv 3) (pe_call G hr rfl gN kN bN .nil pass0 (pa_cons (pv 0) (pa_cons pe_int pa_nil))) (fun _ _ => rfl)) pa_nil)) (pv 1)))) pss_nil)
    (pss_cons (ps_if (pt_cmpR op_eq (pv 2) pe_int (nomark _)) (pss_one (ps_ret (pe_lc (own := [("_law_k", 5)]) (g := gName 5) (tt := tYes) rfl scLett.nd (pi_range1 rfl M.range (pa_cons (pv 1) pa_nil)) (blkOk_by (N := ["_law_deck_here", "_law_size", "_law_way", "_law_some", "_law_found", "_law_k"]) (sc := defScope sLett) (by decide +kernel))
        (fun _ _ _ _ _ => pg_name (i := 5) scLett.nd rfl (Or.inl rfl)) (fun _ _ _ _ _ => pts_nil) (fun _ _ _ _ _ => pe_ix (show IxR _ (rIxL K) from ix_list) (pv 3) (pe_call G hr rfl gN kN bN .nil pass0 (pa_cons (pv 0) (pa_cons pe_int pa_nil))) (fun _ _ => rfl))))) pss_nil)
    (pss_cons (ps_set (i := 4) scLett.nd rfl (.inl rfl) (pe_lst pa_nil))
    (pss_cons (ps_while PassesOwn.never (pt_cmpR op_lt (pe_callB call_len_seq rfl M.len PySem.boot_len (pa_cons (pv 4) pa_nil)) (pv 1) (nomark _))
      (pss_one (ps_expr (pe_bm PySem.F.plainAttrs_list PySem.F.slot_list_append PySem.F.type_list_append mt_append (pv 4) (pa_cons
        (pe_bm PySem.F.plainAttrs_list PySem.F.slot_list_pop PySem.F.type_list_pop mt_popAt (pv 3) (pa_cons (pe_call G hr rfl gN kN bN .nil pass0 (pa_cons (pv 0) (pa_cons (pe_callB call_len_seq rfl M.len PySem.boot_len (pa_cons (pv 3) pa_nil)) pa_nil))) pa_nil)) pa_nil)))))
    (pss_one (ps_ret (pe_ifExp (pt_cmpR op_eq (pv 2) pe_int (nomark _)) (pv 4) (pe_callB cr_sortedS rfl ms (by decide +kernel) (pa_cons (pv 4) pa_nil))))))))), ?_⟩
  refine ⟨_, rfl, D, n, 4, rfl, d, by omega, by decide, by decide, fun wy H1 w0 w1 d1 s1 => ?_⟩
  refine ⟨_, rfl, by decide +kernel, fun sa nsa => ⟨(by show 2 ≤ sizeLine; decide), fun tp ntp => ?_⟩⟩
  rw [abc_is] at ntp ⊢
  refine ⟨tp, _, rfl, SqT.of upd_same, rfl, _, _, rfl, _, _, rfl, rfl, ?_⟩
  have q1 := same_new nsa (.lst (abc.map V.str))
  have q2 := same_new ntp (.tup [.int wy, .ref sa])
  have d2 := (d1.same q1).same q2
  have sd : SameD D H (upd (upd H1 sa (.lst (abc.map V.str))) tp (.tup [.int wy, .ref sa])) := s1.trans (.of (q1.trans q2))
  have esa : (upd (upd H1 sa (.lst (abc.map V.str))) tp (.tup [.int wy, .ref sa])) sa = some (.lst (abc.map V.str)) := q2 _ _ upd_same
  have nsaH : H sa = none := s1.free d1 nsa
  have na := d1.new nsa
  generalize upd (upd H1 sa (.lst (abc.map V.str))) tp (.tup [.int wy, .ref sa]) = H2 at d2 sd esa
  have al := abc_len
  have abcI : ∀ i : Int, 0 ≤ i → i < 26 → ∃ x, atI (abc.map V.str) i = some (.str x) ∧ Ltr x := fun i h0 h1 => by
    have hl : i.toNat < abc.length := by omega
    exact ⟨abc[i.toNat], at_map h0 (List.getElem?_eq_getElem hl), abc_ltr _ (List.getElem_mem hl)⟩
  -- way == 2
  refine ⟨_, rfl, rfl, _, rfl, ite2 (fun _ => ?_) (fun _ => ?_)⟩
  · refine ⟨_, rfl, _, rfl, D, n + 1, 26, rfl, d2, by omega, by decide, by decide, fun i H3 i0 i1 d3 s3 => ?_⟩
    obtain ⟨x, hx, lx⟩ := abcI i i0 i1
    refine ⟨sa, _, _, _, rfl, rfl, SqL.of (s3.at na esa), hx, (by show 1 ≤ sizeLine; decide), fun l nl => ?_⟩
    refine ⟨_, rfl, l, _, _, rfl, rfl, upd_same, by omega, by omega, ?_, fun p np => ?_⟩
    · rw [Int.toNat_natCast]
      exact small (by show 1 * m ≤ 1000; omega)
    rw [Int.toNat_natCast]
    rw [rep_flat, ← List.map_replicate]
    have q3 := same_new nl (.lst [.str x])
    have q4 := same_new np (.lst ((List.replicate m x).map V.str))
    have d5 := (d3.same q3).same q4
    have nd := (d3.same q3).new np
    refine q p (List.replicate m x) (n + 1 + 1) _ d5 (by omega) (sd.trans (s3.trans (.of (q3.trans q4)))) upd_same (List.length_replicate) (fun y hy => ?_) nd
    rw [List.eq_of_mem_replicate hy]
    exact lx
  -- way == 3
  refine ⟨_, rfl, rfl, _, rfl, ite2 (fun _ => ?_) (fun _ => ?_)⟩
  · refine ⟨_, rfl, _, rfl, by omega, by omega, fun L nL => ?_⟩
    have nd := d2.new nL
    rw [Int.toNat_natCast]
    refine lc_range (lo := 0) (n := m) (fun i H' => ∃ n', DeckOk H' D n' ∧ n' ≤ n + 1 + i ∧ SameD D H2 H' ∧ ∃ xs : List Str, xs.length = i ∧ (∀ x ∈ xs, Ltr x) ∧ H' L = some (.lst (xs.map V.str))) ⟨n + 1, d2.same (same_new nL _), by omega, .of (same_new nL _), [], rfl, (fun _ h => nomatch h), upd_same⟩ (fun i H' hi hp => ?_) (fun H' hp => ?_)
    · obtain ⟨n', d', hn', s', xs, hxl, hxs, eL⟩ := hp
      refine ⟨rfl, kept ?_⟩
      refine ⟨_, rfl, _, rfl, D, n', 2, rfl, d', by omega, by decide, by decide, fun j H4 j0 j1 d4 s4 => ?_⟩
      obtain ⟨x, hx, lx⟩ := abcI j j0 (by omega)
      have e4 := s4.at nd eL
      refine ⟨sa, _, _, _, rfl, rfl, SqL.of (s4.at na (s'.at na esa)), hx, _, e4, by rw [List.length_map]; exact small1000 (by omega), n' + 1, d4.put nd _, by omega, (s'.trans s4).put nL _, xs ++ [x], by rw [List.length_append, hxl]; rfl, fun y hy => ?_, ?_⟩
      · rcases List.mem_append.mp hy with h | h
        · exact hxs y h
        · rw [List.mem_singleton.mp h]
          exact lx
      · rw [upd_same, List.map_append]
        rfl
    · obtain ⟨n', d', hn', s', xs, hxl, hxs, eL⟩ := hp
      exact q L xs n' H' d' (by omega) (sd.trans s') eL hxl hxs nd
  refine ⟨(by show 0 ≤ sizeLine; decide), fun fa nfa => ?_⟩
  have nf := d2.new nfa
  have nsf : sa ≠ fa := ne_of_none esa nfa
  have nfH : H fa = none := sd.free d2 nfa
  refine while_by (fun σ H' => σ = [some (.ref D.dk), some (.int (m : Int)), some (.int wy), some (.ref sa), some (.ref fa), none] ∧ ∃ (n' : Nat) (xs rest : List Str), DeckOk H' D n' ∧ n' ≤ n + 1 + xs.length ∧ SameD D H H' ∧ xs.length ≤ m ∧ xs.length + rest.length = 26 ∧ (∀ x ∈ xs, Ltr x) ∧ (∀ x ∈ rest, Ltr x) ∧ H' fa = some (.lst (xs.map V.str)) ∧ H' sa = some (.lst (rest.map V.str)))
    (fun σ H' => match H' fa with | some (.lst xs) => m - xs.length | _ => 0) ⟨rfl, n + 1, [], abc, d2.put nf _, by omega, sd.put nfH _, Nat.zero_le _, by rw [al]; rfl, (fun _ h => nomatch h), abc_ltr, upd_same, by rw [upd_ne nsf]; exact esa⟩ (fun σ H' hp => ?_) ?_
  · obtain ⟨rfl, n', xs, rest, d', hn', s', hm, h26, hxs, hrs, ef, es⟩ := hp
    refine ⟨_, rfl, fa, _, rfl, .inl (SqL.of ef), _, rfl, _, _, rfl, rfl, _, rfl, ite2 (fun c => ?_) (fun c => ?_)⟩
    · have c' : ((xs.map V.str).length : Int) < (m : Int) := of_decide_eq_true c
      rw [List.length_map] at c'
      refine ⟨.ref fa, rfl, .inl ⟨rfl, _, SqL.of ef⟩, .ref sa, rfl, .inl ⟨rfl, _, SqL.of es⟩, _, rfl, _, rfl, sa, _, rfl, .inl (SqL.of es), D, n', _, rfl, d', by omega, ?_, ?_, fun j H4 j0 j1 d4 s4 => ?_⟩
      · rw [List.length_map]; omega
      · rw [List.length_map]; omega
      rw [List.length_map] at j1
      have hj : j.toNat < rest.length := by omega
      have es4 := s4.at na es
      have ef4 := s4.at nf ef
      refine ⟨sa, _, j, j.toNat, .str rest[j.toNat], rfl, rfl, es4, by omega, by omega, ?_, ?_, ?_⟩
      · exact (ixN_seq (ixN_nat j0 (by rw [List.length_map]; omega))).1
      · rw [List.getElem?_map, List.getElem?_eq_getElem hj]; rfl
      have ef5 : (upd H4 sa (.lst ((rest.map V.str).eraseIdx j.toNat))) fa = some (.lst (xs.map V.str)) := by rw [upd_ne nsf.symm]; exact ef4
      refine ⟨fa, _, _, rfl, rfl, ef5, by rw [List.length_map]; exact small1000 (by omega), ?_⟩
      refine ⟨⟨rfl, n' + 1, xs ++ [rest[j.toNat]], rest.eraseIdx j.toNat, (d4.put na _).put nf _, ?_, ((s'.trans s4).put nsaH _).put nfH _, ?_, ?_, fun y hy => ?_, fun y hy => hrs y (List.mem_of_mem_eraseIdx hy), ?_, ?_⟩, ?_⟩
      · rw [List.length_append]
        show n' + 1 ≤ n + 1 + (xs.length + 1)
        omega
      · rw [List.length_append]
        show xs.length + 1 ≤ m
        omega
      · rw [List.length_append, List.length_eraseIdx_of_lt hj]
        show xs.length + 1 + (rest.length - 1) = 26
        omega
      · rcases List.mem_append.mp hy with h | h
        · exact hxs y h
        · rw [List.mem_singleton.mp h]
          exact hrs _ (List.getElem_mem hj)
      · rw [upd_same, List.map_append]
        rfl
      · rw [upd_ne nsf, upd_same, erase_map]
      · show (match (upd (upd H4 sa _) fa (.lst (xs.map V.str ++ [V.str rest[j.toNat]]))) fa with | some (.lst xs) => m - xs.length | _ => 0) < (match H' fa with | some (.lst xs) => m - xs.length | _ => 0)
        rw [upd_same, ef]
        show m - (xs.map V.str ++ [V.str rest[j.toNat]]).length < m - (xs.map V.str).length
        rw [List.length_append, List.length_map]
        show m - (xs.length + 1) < m - xs.length
        omega
    · have c' : ¬ ((xs.map V.str).length : Int) < (m : Int) := of_decide_eq_false (Bool.eq_false_iff.mpr c)
      rw [List.length_map] at c'
      have hlen : xs.length = m := by omega
      refine ⟨_, rfl, rfl, _, rfl, ite2 (fun _ => ?_) (fun _ => ?_)⟩
      · exact ⟨_, rfl, q fa xs n' H' d' (by omega) s' ef hlen hxs nf⟩
      · refine ⟨_, rfl, fa, xs, rfl, SqL.of ef, by omega, fun ys p pm _ np => ?_⟩
        exact q p ys n' _ (d'.same (same_new np _)) (by omega) (s'.trans (.of (same_new np _))) upd_same (by rw [pm.length_eq]; exact hlen) (fun x hx => hxs x (pm.mem_iff.mp hx)) (d'.new np)
  · intro σ H' Q1 Q2 hQ h
    obtain ⟨v, e, p, ys, e2, e3, v2, e4, i, j, e5, e6, k, e7, q7⟩ := h
    exact ⟨v, e, p, ys, e2, e3, v2, e4, i, j, e5, e6, k, e7, hQ _ _ q7⟩
end

/-! ### _law_grown -/
def T.btw : T → List Str
  | .nil => []
  | .node l x r => l.btw ++ x :: r.btw
theorem T.btw_len : ∀ t : T, t.btw.length = t.size
  | .nil => rfl
  | .node l x r => by
    have h1 := l.btw_len
    have h2 := r.btw_len
    show (l.btw ++ x :: r.btw).length = l.size + 1 + r.size
    rw [List.length_append, List.length_cons]
    omega
theorem scGrown : FnScope ["_law_deck_here", "_law_size", "_law_way", "_law_letters_here", "_law_many", "_law_left"] ["_law_deck_here", "_law_size", "_law_way", "_law_letters_here"] (defScope sGrown) := ⟨rfl, rfl, rfl, by decide +kernel, rfl, by decide +kernel, by decide +kernel⟩
def spGrown (n : Nat) : Sp := fun vs H Q _ => ∃ (D : Deck) (c : Nat) (way : Int) (p : Addr) (xs : List Str), vs = [.ref D.dk, .int (xs.length : Int), .int way, .ref p] ∧ DeckOk H D c ∧ c + xs.length ≤ 1000000 ∧ xs.length < n ∧ xs.length ≤ 1000 ∧ 0 ≤ way ∧ way ≤ 4 ∧
  H p = some (.lst (xs.map V.str)) ∧ Off D p ∧ ∀ (v : V) (t : T) (c' : Nat) (H' : Hp), DeckOk H' D c' → c' ≤ c + xs.length → SameD D H H' → TreeAt H' v t → t.btw = xs → Q v H'
theorem pick_many {z : Int} {i way : Int} (z1 : 1 ≤ z) (i0 : 0 ≤ i) (i1 : i < z) (w0 : 0 ≤ way) (w1 : way ≤ 4) : ∃ m : Nat, atI [V.int i, V.int (z - 1), V.int 0, V.int ((z - 1) * (z % 2)), V.int ((z - 1) / 2)] way = some (.int (m : Int)) ∧ (m : Int) < z := by
  have h : way = ((0 : Nat) : Int) ∨ way = ((1 : Nat) : Int) ∨ way = ((2 : Nat) : Int) ∨ way = ((3 : Nat) : Int) ∨ way = ((4 : Nat) : Int) := by omega
  rcases h with rfl | rfl | rfl | rfl | rfl
  · exact ⟨i.toNat, by rw [Int.toNat_of_nonneg i0]; exact atI_nat rfl, by omega⟩
  · exact ⟨(z - 1).toNat, by rw [Int.toNat_of_nonneg (by omega)]; exact atI_nat rfl, by omega⟩
  · exact ⟨0, atI_nat rfl, by omega⟩
  · have h2 : z % 2 = 0 ∨ z % 2 = 1 := by omega
    rcases h2 with e | e
    · exact ⟨0, by rw [e, Int.mul_zero]; exact atI_nat rfl, by omega⟩
    · exact ⟨(z - 1).toNat, by rw [e, Int.mul_one, Int.toNat_of_nonneg (by omega)]; exact atI_nat rfl, by omega⟩
  · exact ⟨((z - 1) / 2).toNat, by rw [Int.toNat_of_nonneg (by omega)]; exact atI_nat rfl, by omega⟩
section
variable {P : Program} {w : World} {K : PySem.W.Frag} {mg : Str → Option Value} {base : Heap} {f fN : Addr} {fd fdN : FuncData}
theorem ok_grown (F : Fun K "_law_grown" "_law_grown" sGrown f fd) (b : Binds K fd ["_law_deck_here", "_law_size", "_law_way", "_law_letters_here"] []) (g : mg "_law_grown" = some (.ref f))
    (GN : FnOk P w K mg base CX0 1 fN fdN ["_law_deck_here", "_law_many"] spNext) (bN : Binds K fdN ["_law_deck_here", "_law_many"] []) (kN : PySem.W.keepIn K (.ref fN) = true) (gN : mg "_law_next" = some (.ref fN)) :
    ∀ n : Nat, FnOk P w K mg base CX0 (n + 1) f fd ["_law_deck_here", "_law_size", "_law_way", "_law_letters_here"] (spGrown n)
  | 0 => by
    have no : ∀ vs H Q E, ¬ spGrown 0 vs H Q E := fun vs H Q E h => by
      obtain ⟨D, c, way, p, xs, _, _, _, h1, _⟩ := h
      omega
    exact ⟨fun vs H Q E h => absurd h (no vs H Q E), fun A outer s H args us vs Q E _ _ _ _ h => absurd h (no vs H Q E)⟩
  | n + 1 => by
    have G := ok_grown F b g GN bN kN gN n
    refine F.ok scGrown (fun vs H Q E h => ?_) (fun cdv A outer s H vs Q E hr h => ?_)
    · obtain ⟨D, c, way, p, xs, rfl, _⟩ := h
      rfl
    obtain ⟨D, c, way, p, xs, rfl, d, hc, hn, hx, w0, w1, ep, op, q⟩ := h
    have hr1 : Room 1 (A.deeper (envOfC "_law_grown" (defScope sGrown) s.heap.objs.size f cdv)) := hr.mono (by omega)
    refine ⟨_, pss_cons (ps_if (pt_cmpR op_eq (pv 1) pe_int (nomark _)) (pss_one (ps_ret pe_non)) pss_nil)
      (pss_cons (ps_set (i := 4) scGrown.nd rfl (.inl rfl) (pe_ix ix_list (pe_lst (pa_cons (pe_call GN hr1 rfl gN kN bN .nil pass0 (pa_cons (pv 0) (pa_cons (pv 1) pa_nil))) (pa_cons (pe_op op_sub (pv 1) pe_int) (pa_cons pe_int
          (pa_cons (pe_op op_mul (pe_op op_sub (pv 1) pe_int) (pe_op op_mod (pv 1) pe_int)) (pa_cons (pe_op op_fdiv (pe_op op_sub (pv 1) pe_int) pe_int) pa_nil)))))) (pv 2) (fun _ _ => rfl)))
      (pss_cons (ps_set (i := 5) scGrown.nd rfl (.inl rfl) (pe_call G hr rfl g F.kp b .nil pass0 (pa_cons (pv 0) (pa_cons (pv 4) (pa_cons (pv 2) (pa_cons (pe_slice sl_list (pv 3) po_none (po_some (pv 4))) pa_nil))))))
      (pss_one (ps_ret (pe_tup (pa_cons (pv 5) (pa_cons (pe_ix ix_list (pv 3) (pv 4) (fun _ _ => rfl)) (pa_cons
        (pe_call G hr rfl g F.kp b .nil pass0 (pa_cons (pv 0) (pa_cons (pe_op op_sub (pe_op op_sub (pv 1) pe_int) (pv 4)) (pa_cons (pv 2) (pa_cons (pe_slice sl_list (pv 3) (po_some (pe_op op_add (pv 4) pe_int)) po_none) pa_nil))))) pa_nil)))))))), ?_⟩
    refine ⟨_, rfl, rfl, _, rfl, ite2 (fun e => ?_) (fun e => ?_)⟩
    · have e0 : (xs.length : Int) = 0 := V.int.inj (of_decide_eq_true e)
      have ex : xs = [] := List.eq_nil_of_length_eq_zero (by omega)
      exact q .non .nil c H d (by omega) (SameD.refl D H) .nil (by rw [ex]; rfl)
    · have e0 : ¬ (xs.length : Int) = 0 := fun z => e (decide_eq_true (congrArg V.int z))
      have x1 : (1 : Int) ≤ (xs.length : Int) := by omega
      refine ⟨_, rfl, _, rfl, D, c, _, rfl, d, by omega, by omega, by omega, fun i H1 i0 i1 d1 s1 => ?_⟩
      refine ⟨_, rfl, _, _, rfl, rfl, _, rfl, _, _, rfl, rfl, _, rfl, _, _, rfl, rfl, (show (0 : Int) < 2 by decide), _, _, rfl, rfl, .inl ⟨by omega, by omega⟩, ?_⟩
      refine ⟨_, rfl, _, _, rfl, rfl, _, _, rfl, rfl, ⟨by decide, by decide⟩, (by show 5 ≤ sizeLine; decide), fun l nl => ?_⟩
      obtain ⟨m, hm, ml⟩ := pick_many x1 i0 i1 w0 w1
      refine ⟨_, rfl, l, _, _, _, rfl, rfl, SqL.of upd_same, hm, ?_⟩
      have q1 := same_new nl (.lst [V.int i, V.int ((xs.length : Int) - 1), V.int 0, V.int (((xs.length : Int) - 1) * ((xs.length : Int) % 2)), V.int (((xs.length : Int) - 1) / 2)])
      have d2 := d1.same q1
      have s2 := s1.trans (SameD.of q1)
      have ep2 := s2.at op ep
      -- left
      refine ⟨_, rfl, _, rfl, _, rfl, _, rfl, _, rfl, _, rfl, p, _, rfl, SqL.of ep2, fun p1 np1 => ?_⟩
      rw [cut_to, ← List.map_take] at *
      have lt : (xs.take m).length = m := by rw [List.length_take]; omega
      have q2 := same_new np1 (.lst ((xs.take m).map V.str))
      have d3 := d2.same q2
      have s3 := s2.trans (SameD.of q2)
      refine ⟨D, c + 1, way, p1, xs.take m, by rw [lt]; rfl, d3, by omega, by omega, by omega, w0, w1, upd_same, d2.new np1, fun v1 t1 c1 H3 d4 hc1 s4 at1 bt1 => ?_⟩
      have ep4 := (s3.trans s4).at op ep
      have hm' : m < xs.length := by omega
      have am : atI (xs.map V.str) ((m : Nat) : Int) = some (.str xs[m]) := at_map (by omega) (by rw [Int.toNat_natCast]; exact List.getElem?_eq_getElem hm')
      refine ⟨_, rfl, _, rfl, _, rfl, p, _, _, _, rfl, rfl, SqL.of ep4, am, ?_⟩
      refine ⟨_, rfl, _, rfl, _, _, rfl, rfl, _, rfl, _, _, rfl, rfl, _, rfl, _, rfl, _, rfl, _, _, rfl, rfl, _, rfl, p, _, rfl, SqL.of ep4, fun p2 np2 => ?_⟩
      have em : ((m : Nat) : Int) + 1 = ((m + 1 : Nat) : Int) := by omega
      rw [show cutV (xs.map V.str) (some (((m : Nat) : Int) + 1)) none = (xs.drop (m + 1)).map V.str by rw [em, cut_from, List.map_drop]]
      have ld : (xs.drop (m + 1)).length = xs.length - 1 - m := by rw [List.length_drop]; omega
      have ldi : (((xs.drop (m + 1)).length : Nat) : Int) = (xs.length : Int) - 1 - (m : Int) := by rw [ld]; omega
      have q3 := same_new np2 (.lst ((xs.drop (m + 1)).map V.str))
      have d5 := d4.same q3
      refine ⟨D, c1, way, p2, xs.drop (m + 1), by rw [ldi]; rfl, d5, by omega, by omega, by omega, w0, w1, upd_same, d4.new np2, fun v2 t2 c2 H4 d6 hc2 s5 at2 bt2 => ?_⟩
      refine ⟨(by show 3 ≤ sizeLine; decide), fun r nr => ?_⟩
      have q4 := same_new nr (.tup [v1, .str xs[m], v2])
      refine q (.ref r) (.node t1 xs[m] t2) c2 _ (d6.same q4) (by omega) (s3.trans (s4.trans ((SameD.of q3).trans (s5.trans (SameD.of q4))))) (.node upd_same ?_ (at2.same q4)) ?_
      · exact ((at1.same q3).keep (s5.keepT d5)).same q4
      · show t1.btw ++ xs[m] :: t2.btw = xs
        rw [bt1, bt2]
        rw [← List.drop_eq_getElem_cons hm', List.take_append_drop]
end

/-! ### _law_tree -/
theorem scTree : FnScope ["_law_deck_here", "_law_limit", "_law_size", "_law_way"] ["_law_deck_here", "_law_limit"] (defScope sTree) := ⟨rfl, rfl, rfl, by decide +kernel, rfl, by decide +kernel, by decide +kernel⟩
def spTree : Sp := fun vs H Q _ => ∃ (D : Deck) (n lim : Nat), vs = [.ref D.dk, .int (lim : Int)] ∧ DeckOk H D n ∧ n + 2 * lim + 10 ≤ 1000000 ∧ 1 ≤ lim ∧ lim ≤ 26 ∧
  ∀ (v : V) (t : T) (n' : Nat) (H' : Hp), DeckOk H' D n' → n' ≤ n + 2 * lim + 3 → SameD D H H' → TreeAt H' v t → 1 ≤ t.size → t.size ≤ lim → (∀ x ∈ t.btw, Ltr x) → Q v H'
theorem pick_way {i : Int} (i0 : 0 ≤ i) (i1 : i < 7) : ∃ z : Int, atI [V.int 0, V.int 0, V.int 0, V.int 1, V.int 2, V.int 3, V.int 4] i = some (.int z) ∧ 0 ≤ z ∧ z ≤ 4 := by
  have h : i = ((0 : Nat) : Int) ∨ i = ((1 : Nat) : Int) ∨ i = ((2 : Nat) : Int) ∨ i = ((3 : Nat) : Int) ∨ i = ((4 : Nat) : Int) ∨ i = ((5 : Nat) : Int) ∨ i = ((6 : Nat) : Int) := by omega
  rcases h with rfl | rfl | rfl | rfl | rfl | rfl | rfl
  · exact ⟨0, atI_nat rfl, by decide, by decide⟩
  · exact ⟨0, atI_nat rfl, by decide, by decide⟩
  · exact ⟨0, atI_nat rfl, by decide, by decide⟩
  · exact ⟨1, atI_nat rfl, by decide, by decide⟩
  · exact ⟨2, atI_nat rfl, by decide, by decide⟩
  · exact ⟨3, atI_nat rfl, by decide, by decide⟩
  · exact ⟨4, atI_nat rfl, by decide, by decide⟩
section
variable {P : Program} {w : World} {K : PySem.W.Frag} {mg : Str → Option Value} {base : Heap} {f fN fL fG : Addr} {fd fdN fdL fdG : FuncData}
theorem ok_tree (F : Fun K "_law_tree" "_law_tree" sTree f fd)
    (GN : FnOk P w K mg base CX0 1 fN fdN ["_law_deck_here", "_law_many"] spNext) (bN : Binds K fdN ["_law_deck_here", "_law_many"] []) (kN : PySem.W.keepIn K (.ref fN) = true) (gN : mg "_law_next" = some (.ref fN))
    (GL : FnOk P w K mg base CX0 2 fL fdL ["_law_deck_here", "_law_size"] spLett) (bL : Binds K fdL ["_law_deck_here", "_law_size"] []) (kL : PySem.W.keepIn K (.ref fL) = true) (gL : mg "_law_letters" = some (.ref fL))
    (GG : FnOk P w K mg base CX0 28 fG fdG ["_law_deck_here", "_law_size", "_law_way", "_law_letters_here"] (spGrown 27)) (bG : Binds K fdG ["_law_deck_here", "_law_size", "_law_way", "_law_letters_here"] []) (kG : PySem.W.keepIn K (.ref fG) = true) (gG : mg "_law_grown" = some (.ref fG)) :
    FnOk P w K mg base CX0 29 f fd ["_law_deck_here", "_law_limit"] spTree := by
  refine F.ok scTree (fun vs H Q E h => ?_) (fun cdv A outer s H vs Q E hr h => ?_)
  · obtain ⟨D, n, m, rfl, _⟩ := h
    rfl
  obtain ⟨D, n, lim, rfl, d, hn, l0, l1, q⟩ := h
  have hr1 : Room 1 (A.deeper (envOfC "_law_tree" (defScope sTree) s.heap.objs.size f cdv)) := hr.mono (by omega)
  have hr2 : Room 2 (A.deeper (envOfC "_law_tree" (defScope sTree) s.heap.objs.size f cdv)) := hr.mono (by omega)
  refine ⟨_, pss_cons (ps_par (i := 2) (j := 3) (by rfl) scTree.nd rfl rfl (by decide) rfl rfl (pa_cons (pe_op op_add pe_int (pe_call GN hr1 rfl gN kN bN .nil pass0 (pa_cons (pv 0) (pa_cons (pv 1) pa_nil))))
      (pa_cons (pe_ix ix_list (pe_lst (pa_cons pe_int (pa_cons pe_int (pa_cons pe_int (pa_cons pe_int (pa_cons pe_int (pa_cons pe_int (pa_cons pe_int pa_nil)))))))) (pe_call GN hr1 rfl gN kN bN .nil pass0 (pa_cons (pv 0) (pa_cons pe_int pa_nil))) (fun _ _ => rfl)) pa_nil)) (by rfl))
    (pss_one (ps_ret (pe_call GG hr rfl gG kG bG .nil pass0 (pa_cons (pv 0) (pa_cons (pv 2) (pa_cons (pv 3) (pa_cons (pe_call GL hr2 rfl gL kL bL .nil pass0 (pa_cons (pv 0) (pa_cons (pv 2) pa_nil))) pa_nil))))))), ?_⟩
  refine ⟨_, rfl, _, rfl, D, n, _, rfl, d, by omega, by omega, by omega, fun i H1 i0 i1 d1 s1 => ?_⟩
  refine ⟨_, _, rfl, rfl, (by show 7 ≤ sizeLine; decide), fun l nl => ?_⟩
  have q1 := same_new nl (.lst [V.int 0, V.int 0, V.int 0, V.int 1, V.int 2, V.int 3, V.int 4])
  refine ⟨_, rfl, D, n + 1, 7, rfl, d1.same q1, by omega, by decide, by decide, fun j H2 j0 j1 d2 s2 => ?_⟩
  obtain ⟨z, hz, z0, z4⟩ := pick_way j0 j1
  refine ⟨l, _, _, _, rfl, rfl, SqL.of (s2.at (d1.new nl) upd_same), hz, ?_⟩
  refine ⟨_, _, rfl, ?_⟩
  have ei : (1 : Int) + i = (((1 + i).toNat : Nat) : Int) := by omega
  have s3 := s1.trans ((SameD.of q1).trans s2)
  refine ⟨_, rfl, _, rfl, _, rfl, _, rfl, _, rfl, D, n + 2, (1 + i).toNat, by rw [← ei]; rfl, d2, by omega, by omega, by omega, fun p xs n3 H3 d3 hn3 s4 ep hxl hxs op => ?_⟩
  refine ⟨D, n3, z, p, xs, by rw [hxl, ← ei]; rfl, d3, by omega, by omega, by omega, z0, z4, ep, op, fun v t c' H4 d4 hc' s5 at4 bt => ?_⟩
  have hs := t.btw_len
  rw [bt] at hs
  exact q v t c' H4 d4 (by omega) (s3.trans (s4.trans s5)) at4 (by omega) (by omega) (by rw [bt]; exact hxs)
end

/-! ### a def entered at one caller -/
theorem enter_def {P : Program} {w : World} {K : PySem.W.Frag} {mg : Str → Option Value} {base : Heap} {f : Addr} {fd : FuncData} {N ps : List Str} {k : Nat} {x qual : Str} {st : Stmt} (F : Fun K x qual st f fd) (S : FnScope N ps (defScope st))
    {A : Around} {outer : List Env} {s : Shared} {H : Hp} {args : Args} {us : List Value} {vs : List V} {Q : VK} {E : XK}
    (room : Room (k + 1) A) (en : Env0 P w K mg base A outer s H) (bd : BindsTo s fd args (ps.zip us)) (rel : Vals vs us) (hln : vs.length = ps.length)
    (body : ∀ cdv : Value, Room k (A.deeper (envOfC qual (defScope st) s.heap.objs.size f cdv)) →
      ∃ t, PSs (cxOf CX0 P w K mg base N qual (defScope st) f cdv A outer s H E).nox (defBody st) t ∧ t { nx := fun _ H' => Q .non H', rt := Q } (start N vs) H) :
    codeAny (model P w) A (.call (.ref f) args) (CR CX0 outer P w H s Q E) s := by
  obtain ⟨oc, od, kV, doc, pm, an, cdv, ct, osl, rfl, look, code⟩ := F.ex
  have still : ∀ b o, base.get? b = some o → s.heap.get? b = some o := fun b o e => (en.bs b o e).1
  have inK : K.In s.heap := en.mod.kin.keeps still
  have noL : s.heap.NoLimit := en.mod.nolimit.keeps still
  have kinds : ∀ y ∈ ps.zip us, (defScope st).names.lookup y.1 = some .local ∨
      ((defScope st).names.lookup y.1 = some .cell ∧ ((cellsFrom (s.heap.objs.size + 1) (defScope st).names []).lookup y.1).isSome = true) := by
    rintro ⟨nm, u⟩ hy
    cases S.par nm (List.of_mem_zip hy).1 with
    | inl z => exact .inl z
    | inr z => exact .inr ⟨z, PySem.W.cellsFrom_some _ _ _ (.inl z)⟩
  have step := codeAny_call_function (prog := P) (w := w) (A := A) (s := s) room.depth (inK _ _ look) rfl S.co S.gen rfl (PySem.W.codeRec_of inK code)
    (R := CR CX0 outer P w H s Q E) (args := args)
  refine step (bd _ _ _ _ ?_)
  refine wpAny_newFunctionEnv_cells S.kind kinds ?_
  intro env isEnv s1 inC
  subst isEnv
  refine ⟨noL.keeps inC.toInCall.keep, codeAny_func ?_⟩
  obtain ⟨t, ht, hq⟩ := body cdv (room.deeper _)
  have J : Inv (cxOf CX0 P w K mg base N qual (defScope st) f cdv A outer s H E) [] (start N vs) H s1 := inv_start S room.hd en hln rel inC
  refine wpAny_mono (ht.nox.run [] s1 (start N vs) H _ J hq) ?_ ?_
  · intro fl s' done
    cases fl with
    | ret u =>
      obtain ⟨v, σ', H', I', rv, qv⟩ := done
      exact ⟨v, H', I'.os, I'.bare, I'.base, I'.hok, rv, qv⟩
    | next =>
      obtain ⟨σ', H', I', qv⟩ := done
      exact ⟨V.non, H', I'.os, I'.bare, I'.base, I'.hok, rfl, qv⟩
    | brk => exact done.elim fun _ z => z.elim fun _ z => z.2.elim
    | cont => exact done.elim fun _ z => z.elim fun _ z => z.2.elim
  · intro e s' z
    exact z
/-! ### the law's own call -/
theorem law_at {P : Program} {w : World} {K : PySem.W.Frag} {mg mb : Str → Option Value} {fa a : Addr} {s₁ : Shared} {vs : List Value} {ns : List Int}
    (inK : K.In s₁.heap) (gl : s₁.heap.Ns mainGlobals mg) (bl : s₁.heap.Ns builtinsNs mb) (isB : ∀ x : Str, x ≠ "__name__" → mb x = bootBuiltins x) (lim : s₁.heap.NoLimit) (gens : s₁.gens = #[])
    (obj : s₁.heap.get? a = some { cls := .type "list", data := .seq vs.toArray }) (hints : IntsAre vs ns) (few : ns.length ≤ sizeLine)
    (run : ∀ (base : Heap) (H : Hp), K.In base → base.Ns mainGlobals mg → Env0 P w K mg base callerA [] s₁ H → SqL K H a (ns.map V.int) →
      codeAny (model P w) callerA (.call (.ref fa) ⟨[.ref a], []⟩) (CR CX0 [] P w H s₁ (fun v _ => v = .bl true) fun _ _ _ => False) s₁) :
    codeAny (model P w) callerA (.call (.ref fa) ⟨[.ref a], []⟩) (fun r s' => r = .ok (.ret (.bool true)) ∧ OldK s₁.heap s'.heap ∧ s'.os = s₁.os ∧ AllBare s'.gens) s₁ := by
  have rel := vals_ints hints
  have lens := hints.length
  have found : ∃ H : Hp, Only H ∧ SqL K H a (ns.map V.int) ∧ HOk P w H s₁.heap ∧ (∀ b u, H b = some u → b = a ∧ K.lookup a = none) := by
    cases inText : K.lookup a with
    | some o =>
      have same := inK a o inText
      rw [obj] at same
      cases same
      have never : ∀ (u : HO), (none : Option HO) ≠ some u := fun u z => by cases z
      refine ⟨fun _ => none, fun _ => .inl rfl, ?_, (fun b u z => (never u z).elim), (fun b u z => (never u z).elim)⟩
      refine .inr ⟨_, vs.toArray, _, inText, rfl, rfl, rfl, ?_, ?_⟩
      · rw [List.size_toArray, lens]
        exact few
      · rw [List.toList_toArray]
        exact rel
    | none =>
      let here : HO := .frz { cls := .type "list", data := .seq vs.toArray } (.lst (ns.map V.int))
      have only : ∀ b u, (if b = a then some here else none) = some u → b = a ∧ u = here := fun b u z => by
        by_cases hb : b = a
        · rw [if_pos hb] at z
          exact ⟨hb, (Option.some.inj z).symm⟩
        · rw [if_neg hb] at z
          cases z
      refine ⟨fun b => if b = a then some here else none, fun b => ?_, .inl (.inr ⟨{ cls := .type "list", data := .seq vs.toArray }, if_pos rfl⟩), fun b u z => ?_, fun b u z => ⟨(only b u z).1, rfl⟩⟩
      · by_cases hb : b = a
        · exact .inr ⟨_, _, if_pos hb⟩
        · exact .inl (if_neg hb)
      · obtain ⟨rfl, rfl⟩ := only b u z
        exact ⟨obj, by rw [List.length_map]; exact few, vs, _, rel, obj⟩
  obtain ⟨H, hO, hS, hok, hA⟩ := found
  have under : ∀ {b : Addr} {o : Obj}, s₁.heap.get? b = some o → H b = none → (hidT s₁.heap H).get? b = some o := fun e z => hidT_get e z
  have notDict : ∀ {b : Addr} {o : Obj} {es : Array DictEntry} {ep : Nat}, s₁.heap.get? b = some o → o.data = .dict es ep → H b = none := by
    intro b o es ep e isD
    cases z : H b with
    | none => rfl
    | some u =>
      obtain ⟨rfl, _⟩ := hA b u z
      rw [obj] at e
      cases e
      cases isD
  have ns' : ∀ {b : Addr} {m : Str → Option Value}, s₁.heap.Ns b m → (hidT s₁.heap H).Ns b m := by
    rintro b m ⟨o, es, ep, e, isD, r⟩
    exact ⟨o, es, ep, under e (notDict e isD), isD, r⟩
  have inK' : K.In (hidT s₁.heap H) := by
    intro b o e
    refine under (inK b o e) ?_
    cases z : H b with
    | none => rfl
    | some u =>
      obtain ⟨rfl, no⟩ := hA b u z
      rw [no] at e
      cases e
  obtain ⟨mc, l1, l2⟩ := lim
  have env : Env0 P w K mg (hidT s₁.heap H) callerA [] s₁ H :=
    ⟨rfl, ⟨inK', ns' gl, ⟨mb, ns' bl, isB⟩, ⟨mc, ns' l1, l2⟩⟩, fun _ _ e => of_hidT e, Nat.le_of_eq (hidT_size _ _), trivial, (fun _ hb => nomatch hb), hok, .of_eq gens⟩
  refine codeAny_mono (run _ H inK' (ns' gl) env hS) ?_
  intro r s' h
  cases r with
  | error e => exact h.elim
  | ok fl =>
    cases fl with
    | next => exact h.elim
    | brk => exact h.elim
    | cont => exact h.elim
    | ret u =>
      obtain ⟨v, H', os, bare, un, hok', rv, isT⟩ := h
      subst isT
      cases rv
      refine ⟨rfl, OldK.of_keep ?_, os, bare⟩
      intro b o e
      cases z : H b with
      | none => exact un.keep b o e z (fun y => nomatch y) (fun y => nomatch y)
      | some u =>
        rcases hO b with y | ⟨ob, xs, y⟩
        · rw [z] at y
          cases y
        · have y2 := un.frzs b ob _ y
          obtain ⟨e1, _⟩ := hok b _ y
          obtain ⟨e2, _⟩ := hok' b _ y2
          rw [e] at e1
          cases e1
          exact e2

/-! ### t[::-1] -/
section
variable {prog : Program} {w : World} {A : Around} {E : Value → Shared → Prop} {s : Shared}
open HT in
theorem back_bounds {sl : Addr} {vl vu vs : Value} {n : Nat} {Q : Int × Int × Nat → Shared → Prop} (hs : s.heap.IsSliceOf sl vl vu vs) (pl : IsPart vl none) (pu : IsPart vu none) (ps : IsPart vs (some (-1)))
    (h : Q ((n : Int) - 1, -1, n) s) : wpAny (model prog w) A (Builtin.Slice.sliceApplied (.ref sl) (pure (n : Int))) Q E s := by
  obtain ⟨ob, isOb, isCl, isDt⟩ := id hs
  unfold Builtin.Slice.sliceApplied Builtin.Slice.sliceFields
  refine wpAny_bind (wpAny_bind (wpAny_field isOb isDt (x := vl) rfl (wpAny_bind (wpAny_field isOb isDt (x := vu) rfl (wpAny_bind (wpAny_field isOb isDt (x := vs) rfl (wpAny_pure ?_)))))))
  refine wpAny_bind (slicePart_ ps ?_)
  show wpAny _ _ (if ((-1 : Int) == 0) = true then _ else _) _ _ s
  rw [if_neg (by decide)]
  refine wpAny_bind (slicePart_ pl (wpAny_bind (slicePart_ pu (wpAny_bind (wpAny_pure ?_)))))
  have e : Builtin.Slice.slicePlaces ((n : Int) - 1) (-1) (-1) = n := by
    unfold Builtin.Slice.slicePlaces
    rw [if_neg (by decide)]
    by_cases h0 : (n : Int) - 1 > -1
    · rw [if_pos h0, show (- -1 : Int) = 1 by decide, Int.ediv_one]
      omega
    · rw [if_neg h0]
      omega
  show wpAny _ _ (pure ((n : Int) - 1, (-1 : Int), Builtin.Slice.slicePlaces ((n : Int) - 1) (-1) (-1))) _ _ s
  rw [e]
  exact wpAny_pure h
theorem fm_congr {α β : Type} {f g : α → Option β} : ∀ (l : List α), (∀ k ∈ l, f k = g k) → l.filterMap f = l.filterMap g
  | [], _ => rfl
  | x :: l, h => by
    rw [List.filterMap_cons, List.filterMap_cons, h x (List.mem_cons_self ..), fm_congr l fun k hk => h k (List.mem_cons_of_mem _ hk)]
theorem back_pick (xs : Array Value) : ((List.range xs.size).filterMap fun (k : Nat) => xs[((xs.size : Int) - 1 + (k : Int) * (-1)).toNat]?).toArray = xs.toList.reverse.toArray := by
  congr 1
  have e1 : ((List.range xs.size).filterMap fun (k : Nat) => xs[((xs.size : Int) - 1 + (k : Int) * (-1)).toNat]?) = ((List.range xs.size).map fun k => xs.size - 1 - k).filterMap (xs[·]?) := by
    rw [List.filterMap_map]
    refine fm_congr _ fun k hk => ?_
    have := List.mem_range.mp hk
    show xs[((xs.size : Int) - 1 + (k : Int) * (-1)).toNat]? = xs[xs.size - 1 - k]?
    rw [show ((xs.size : Int) - 1 + (k : Int) * (-1)).toNat = xs.size - 1 - k by omega]
  rw [e1, PySem.W.krv_range, List.filterMap_reverse, PySem.W.krv_all]
open HT in
theorem getItem_back {t sl : Addr} {items : Array Value} {vl vu vs : Value} {Q : Value → Shared → Prop} (ht : IsTup s.heap t items) (hs : s.heap.IsSliceOf sl vl vu vs) (pl : IsPart vl none) (pu : IsPart vu none) (ps : IsPart vs (some (-1)))
    (h : Q (.ref s.heap.objs.size) { s with heap := s.heap.push { cls := .type "tuple", data := .seq items.toList.reverse.toArray } }) (hsz : items.size ≤ sizeLine) : wpAny (model prog w) A (getItem (.ref t) (.ref sl)) Q E s := by
  obtain ⟨ob, isOb, isCl, isDt⟩ := id hs
  have isSl : s.TypeIs (.ref sl) "slice" := ⟨ob, isOb, isCl⟩
  have fits : sizeOk (.seq items.toList.reverse.toArray) := by
    show items.toList.reverse.toArray.size ≤ sizeLine
    rw [List.size_toArray, List.length_reverse, Array.length_toList]
    exact hsz
  unfold getItem
  refine wpAny_holding ?_
  refine wpAny_bind (wpAny_sequenceKey ht.typeIs (by decide) ?_)
  have body : wpAny (model prog w) A.in1 (Builtin.«tuple.__getitem__» ⟨[.ref t, .ref sl], []⟩) (fun fin s' => ∃ v, fin = Fin.done (Flow.ret v) ∧ Q v s') E s := by
    show wpAny _ _ (Builtin.Tuple.tupleItemsOf (.ref t) >>= _) _ _ s
    refine wpAny_bind (tupleItemsOf_ ht (wpAny_bind (wpAny_typeOf isSl ?_)))
    rw [if_pos (by decide)]
    refine wpAny_bind (back_bounds hs pl pu ps ?_)
    have off : ¬ ((((items.size : Int) - 1) == 0 && (-1 : Int) == 1 && items.size == items.size) = true) := by
      rw [show ((-1 : Int) == 1) = false by decide, Bool.and_false, Bool.false_and]
      exact Bool.false_ne_true
    show wpAny _ _ (if (((items.size : Int) - 1) == 0 && (-1 : Int) == 1 && items.size == items.size) = true then _ else _) _ _ s
    rw [if_neg off, back_pick]
    first
      | exact wpAny_bind (m := Builtin.Tuple.tupleExact _) (wpAny_newObj_type (wpAny_pure ⟨_, rfl, h⟩) fits)
      | exact wpAny_bind (m := Builtin.Tuple.tupleExact _) (wpAny_newObj_type (wpAny_bind (wpAny_pure (wpAny_pure ⟨_, rfl, h⟩))) fits)
      | exact wpAny_bind (wpAny_bind (m := Builtin.Tuple.tupleExact _) (wpAny_newObj_type (wpAny_pure (wpAny_pure ⟨_, rfl, h⟩)) fits))
      | exact wpAny_bind (wpAny_bind (m := Builtin.Tuple.tupleExact _) (wpAny_newObj_type (wpAny_pure ⟨_, rfl, h⟩) fits))
  refine wpAny_bind (wpAny_callSpecial?_slot (name := Str.ofString "__getitem__") ht.typeIs PyProof.Rows.slot_tuple_getitem ?_)
  refine wpAny_call_entry PyProof.Rows.slot_tuple_getitem ht.typeIs entry_tuple_getitem (wpAny_mono body (fun fin s' z => ?_) fun _ _ z => z) (args_tuple_getitem _ _)
  obtain ⟨v, e, q⟩ := z
  exact ⟨v, e, wpAny_pure q⟩
end
/-- t[::-1], t a tuple -/
def tRevT (K : PySem.W.Frag) (te : TE) : TE := fun σ H Q => te σ H fun x H1 => ∃ a xs, x = .ref a ∧ SqT K H1 a xs ∧ ∀ p, H1 p = none → Q (.ref p) (upd H1 p (.tup xs.reverse))
theorem pe_revT {X : Cx} {e : Expr} {te : TE} {k : Nat} {p1 p2 p3 pos : Pos} (he : PE X e te) : PE X (.Subscript e (.Slice none none (some (.UnaryOp .USub (.Constant (.int 1) k p1) p2)) p3) pos) (tRevT X.K te) := by
  constructor
  intro pins s σ H Q I h
  refine Subscript_ (thn (he.run pins s σ H _ I h) ?_)
  rintro v s1 ⟨x, H1, I1, r1, a, xs, rfl, hx, q⟩
  cases r1
  have minus : PO X (some (.UnaryOp .USub (.Constant (.int 1) k p1) p2)) (tPart (tUn (rU fun i => .int (-i)) (tC (.int 1)))) := po_some (pe_un un_neg pe_int)
  refine wpAny_Slice (thn (po_none.run pins s1 σ H1 (fun o H2 => o = none ∧ H2 = H1) I1 ⟨rfl, rfl⟩) ?_)
  rintro vl s2 ⟨l, H2, I2, pl, rfl, rfl⟩
  refine thn (po_none.run pins s2 σ H2 (fun o H3 => o = none ∧ H3 = H2) I2 ⟨rfl, rfl⟩) ?_
  rintro vu s3 ⟨u, H3, I3, pu, rfl, rfl⟩
  refine thn (minus.run pins s3 σ H3 (fun o H4 => o = some (-1) ∧ H4 = H3) I3 ⟨1, rfl, -1, rfl, rfl, rfl⟩) ?_
  rintro vs s4 ⟨o, H4, I4, ps, rfl, rfl⟩
  have J : Inv X pins σ H4 { s4 with heap := s4.heap.push { cls := .type "slice", data := .fields #[vl, vu, vs] } } := I4.kept (t' := s4.toks) fun _ _ z => Heap.get?_push_of_some _ z
  obtain ⟨its, r, ht, hz⟩ := J.tuple hx
  have lens := r.length
  show wpAny (model X.prog X.w) X.A (subscriptTail e (.Slice none none (some (.UnaryOp .USub (.Constant (.int 1) k p1) p2)) p3) (.ref a) (.ref s4.heap.objs.size)) _ X.xe _
  refine tail_any (ops := [.ref a, .ref s4.heap.objs.size]) ht.typeIs (PyProof.Rows.slot_tuple_getitem.lookup) ?_ (by with_unfolding_all rfl)
  refine getItem_back ht (Heap.IsSliceOf.new _ vl vu vs) pl pu ps ?_ (by rw [List.size_toArray]; omega)
  refine ⟨.ref _, _, J.laid (t' := s4.toks) (o := .tup xs.reverse) (fun _ _ z => Heap.get?_push_of_some _ z) (Nat.le_refl _) ?_, rfl, q _ (J.hok.fresh (Nat.le_refl _))⟩
  exact ⟨by rw [List.length_reverse]; exact hz, _, r.reverse, ⟨_, Heap.get?_push_size _ rfl, rfl, _, rfl⟩⟩

/-! ### values of any kind, and how they are shown -/
mutual
inductive DQ (D : Deck) (H : Hp) : V → PyData → Prop
  | non : DQ D H .non .none
  | bl (b : Bool) : DQ D H (.bl b) (.bool b)
  | int (i : Int) : DQ D H (.int i) (.int i)
  | str (x : Str) : DQ D H (.str x) (.str x)
  | lst {a : Addr} {xs : List V} {ds : List PyData} : Off D a → H a = some (.lst xs) → DQAll D H xs ds → DQ D H (.ref a) (.list ds)
  | tup {a : Addr} {xs : List V} {ds : List PyData} : Off D a → H a = some (.tup xs) → DQAll D H xs ds → DQ D H (.ref a) (.tuple ds)
  | emp {a : Addr} : Off D a → H a = some (.dK []) → DQ D H (.ref a) (.dict [])
inductive DQAll (D : Deck) (H : Hp) : List V → List PyData → Prop
  | nil : DQAll D H [] []
  | cons {v : V} {vs : List V} {d : PyData} {ds : List PyData} : DQ D H v d → DQAll D H vs ds → DQAll D H (v :: vs) (d :: ds)
end
mutual
theorem dq_sameD {D : Deck} {H H' : Hp} (s : SameD D H H') : ∀ {v : V} {d : PyData}, DQ D H v d → DQ D H' v d
  | _, _, .non => .non
  | _, _, .bl b => .bl b
  | _, _, .int i => .int i
  | _, _, .str x => .str x
  | _, _, .lst o e a => .lst o (s.at o e) (dqAll_sameD s a)
  | _, _, .tup o e a => .tup o (s.at o e) (dqAll_sameD s a)
  | _, _, .emp o e => .emp o (s.at o e)
theorem dqAll_sameD {D : Deck} {H H' : Hp} (s : SameD D H H') : ∀ {vs : List V} {ds : List PyData}, DQAll D H vs ds → DQAll D H' vs ds
  | _, _, .nil => .nil
  | _, _, .cons h a => .cons (dq_sameD s h) (dqAll_sameD s a)
end
theorem dq_same {D : Deck} {H H' : Hp} (s : Same H H') {v : V} {d : PyData} (h : DQ D H v d) : DQ D H' v d := dq_sameD (SameD.of s) h
theorem dqAll_same {D : Deck} {H H' : Hp} (s : Same H H') {v : List V} {d : List PyData} (h : DQAll D H v d) : DQAll D H' v d := dqAll_sameD (SameD.of s) h
theorem dqAll_len {D : Deck} {H : Hp} : ∀ {vs : List V} {ds : List PyData}, DQAll D H vs ds → vs.length = ds.length
  | _, _, .nil => rfl
  | _, _, .cons _ a => congrArg (· + 1) (dqAll_len a)
theorem dqAll_get {D : Deck} {H : Hp} : ∀ {vs : List V} {ds : List PyData} {i : Nat} {v : V}, DQAll D H vs ds → vs[i]? = some v → ∃ d, ds[i]? = some d ∧ DQ D H v d
  | _, _, _, _, .nil, h => by simp at h
  | _, _, 0, _, .cons h _, e => by
    cases e
    exact ⟨_, rfl, h⟩
  | _, _, i + 1, _, .cons _ a, e => dqAll_get (i := i) a e
theorem dqAll_app {D : Deck} {H : Hp} : ∀ {vs vs' : List V} {ds ds' : List PyData}, DQAll D H vs ds → DQAll D H vs' ds' → DQAll D H (vs ++ vs') (ds ++ ds')
  | _, _, _, _, .nil, h => h
  | _, _, _, _, .cons h a, h' => .cons h (dqAll_app a h')
theorem TreeAt.dq {D : Deck} {H : Hp} {n : Nat} (d : DeckOk H D n) {v : V} {t : T} (h : TreeAt H v t) : DQ D H v t.data := by
  obtain ⟨c, r, h1, h2, h3, _⟩ := d.ex
  induction h with
  | nil => exact .non
  | node e _ _ i1 i2 => exact .tup ⟨ne_of e h1 (by intro z; cases z), ne_of e h2 (by intro z; cases z), ne_of e h3 (by intro z; cases z)⟩ e (.cons i1 (.cons (.str _) (.cons i2 .nil)))
def okInts : List Int := [-1, 0, 1, 12, 100000000000000000000000000000]
mutual
def gd : PyData → Bool
  | .none => true
  | .bool _ => true
  | .int i => decide (i ∈ okInts)
  | .str x => decide (x.length ≤ 2) && x.cps.toList.all (· < 128)
  | .list xs => gds xs
  | .tuple xs => gds xs
  | .dict kvs => kvs.isEmpty
def gds : List PyData → Bool
  | [] => true
  | x :: xs => gd x && gds xs
end
mutual
def wt : PyData → Nat
  | .none => 4
  | .bool _ => 5
  | .int _ => 31
  | .str _ => 22
  | .list xs => 3 + wts xs
  | .tuple xs => 3 + wts xs
  | .dict _ => 2
def wts : List PyData → Nat
  | [] => 0
  | x :: xs => wt x + 2 + wts xs
end
theorem gd_str {x : Str} (h : gd (.str x) = true) : x.length ≤ 2 ∧ ∀ c ∈ x.cps.toList, c < 128 := by
  simp only [gd, Bool.and_eq_true, decide_eq_true_eq, List.all_eq_true] at h
  exact h
theorem reprText_le {x : Str} (h : gd (.str x) = true) : (reprText x).length ≤ 22 := by
  obtain ⟨h1, h2⟩ := gd_str h
  have := StrLaws.reprText_len x (fun c hc => Nat.lt_of_lt_of_le (h2 c hc) (by decide))
  omega
theorem int_show {i : Int} (h : gd (.int i) = true) : (Str.ofString (toString i)).length ≤ 31 ∧ i.natAbs.log2 < 1920 := by
  simp only [gd, decide_eq_true_eq] at h
  unfold okInts at h
  rcases List.mem_cons.mp h with rfl | h
  · decide +kernel
  rcases List.mem_cons.mp h with rfl | h
  · decide +kernel
  rcases List.mem_cons.mp h with rfl | h
  · decide +kernel
  rcases List.mem_cons.mp h with rfl | h
  · decide +kernel
  rcases List.mem_cons.mp h with rfl | h
  · decide +kernel
  · exact nomatch h
theorem listText_le (ts : List Str) : (listText ts).length ≤ piled ts + 3 := by
  have h := textFrom_len_le ts 0 "["
  have e : (listText ts).length = (textFrom 0 "[" ts).length + 1 := by
    show (textFrom 0 "[" ts ++ "]").length = _
    rw [strLen_append]
    rfl
  have z : ∀ l : List Str, (l.map (·.length)).sum + 2 * l.length = piled l := by
    intro l
    induction l with
    | nil => rfl
    | cons t l ih =>
      rw [piled_cons, List.map_cons, List.sum_cons, List.length_cons]
      omega
  have z2 := z ts
  have z3 : (("[" : String) : Str).length = 1 := rfl
  omega
mutual
theorem shown_le : ∀ d : PyData, gd d = true → d.shown.length ≤ wt d ∧ d.showable = true
  | .none, _ => by
    simp only [PyData.shown, wt, PyData.showable, and_true]
    decide +kernel
  | .bool b, _ => by
    simp only [PyData.shown, wt, PyData.showable, and_true]
    cases b <;> decide +kernel
  | .int i, h => by
    obtain ⟨h1, h2⟩ := int_show h
    simp only [PyData.shown, wt, PyData.showable, decide_eq_true_eq]
    exact ⟨h1, h2⟩
  | .str x, h => by
    have h1 := reprText_le h
    simp only [PyData.shown, wt, PyData.showable, and_true]
    exact h1
  | .list xs, h => by
    simp only [gd] at h
    obtain ⟨h1, h2⟩ := showns_le xs h
    simp only [PyData.shown, wt, PyData.showable]
    exact ⟨Nat.le_trans (listText_le _) (by omega), h2⟩
  | .tuple xs, h => by
    simp only [gd] at h
    obtain ⟨h1, h2⟩ := showns_le xs h
    simp only [PyData.shown, wt, PyData.showable]
    exact ⟨Nat.le_trans (fmt_text _) (by omega), h2⟩
  | .dict kvs, h => by
    simp only [gd] at h
    cases kvs with
    | nil =>
      simp only [PyData.shown, PyData.shownKv, wt, PyData.showable, PyData.showableKv, and_true]
      decide +kernel
    | cons p r => exact absurd h Bool.false_ne_true
theorem showns_le : ∀ ds : List PyData, gds ds = true → piled (PyData.shownAll ds) ≤ wts ds ∧ PyData.showableAll ds = true
  | [], _ => by
    simp only [PyData.shownAll, wts, PyData.showableAll, and_true]
    exact Nat.le_refl _
  | d :: ds, h => by
    simp only [gds, Bool.and_eq_true] at h
    obtain ⟨h1, h2⟩ := shown_le d h.1
    obtain ⟨h3, h4⟩ := showns_le ds h.2
    simp only [PyData.shownAll, wts, PyData.showableAll, h2, h4, Bool.and_self, and_true]
    rw [piled_cons]
    omega
end

/-! ### repr of such a value -/
section
variable {X : Cx} {pins : List (Addr × Obj)} {σ : L2.St} {H : Hp} {s : Shared} {D : Deck}
theorem obj_lst (I : Inv X pins σ H s) {a : Addr} {xs : List V} (e : H a = some (.lst xs)) : ∃ (its : List Value) (o : Obj) (n : Nat), Vals xs its ∧ s.heap.get? a = some o ∧ o.cls = .type "list" ∧ o.data = .seq its.toArray n := by
  obtain ⟨_, its, n, r, h⟩ := (show ObjOk X.prog X.w H s.heap a (.lst xs) from I.hok a _ e)
  exact ⟨its, _, n, r, h, rfl, rfl⟩
theorem obj_tup (I : Inv X pins σ H s) {a : Addr} {xs : List V} (e : H a = some (.tup xs)) : ∃ (its : List Value) (o : Obj) (n : Nat), Vals xs its ∧ s.heap.get? a = some o ∧ o.cls = .type "tuple" ∧ o.data = .seq its.toArray n := by
  obtain ⟨_, its, r, o, h1, h2, n, h3⟩ := (show ObjOk X.prog X.w H s.heap a (.tup xs) from I.hok a _ e)
  exact ⟨its, o, n, r, h1, h2, h3⟩
theorem obj_emp (I : Inv X pins σ H s) {a : Addr} (e : H a = some (.dK [])) : ∃ (o : Obj) (n : Nat), s.heap.get? a = some o ∧ o.cls = .type "dict" ∧ o.data = .dict #[] n ∧ (a == sysModules) = false := by
  obtain ⟨_, ne, vs, kv, o, es, ep, h1, ex, h2, _, ps, _⟩ := (show ObjOk X.prog X.w H s.heap a (.dK []) from I.hok a _ e)
  cases kv
  have hes : es = #[] := by
    cases hl : es.toList with
    | nil => exact Array.toList_eq_nil_iff.mp hl
    | cons e l =>
      rw [hl] at ps
      cases ps
  subst hes
  exact ⟨o, ep, h1, ex.1, h2, ne⟩
mutual
theorem dq_reads (I : Inv X pins σ H s) : ∀ (d : PyData) (v : V) (u : Value), DQ D H v d → RelV v u → ∃ as, Reads s.heap u d as
  | .none, _, _, h, r => by
    cases h
    cases r
    exact ⟨_, .none⟩
  | .bool b, _, _, h, r => by
    cases h
    cases r
    exact ⟨_, .bool b⟩
  | .int i, _, _, h, r => by
    cases h
    obtain ⟨t, rfl⟩ := r
    exact ⟨_, .int i t⟩
  | .str x, _, _, h, r => by
    cases h
    obtain ⟨t, rfl⟩ := r
    exact ⟨_, .str x t⟩
  | .list ds, _, _, h, r => by
    cases h with
    | lst o e al =>
      cases r
      obtain ⟨its, ob, n, rv, h1, h2, h3⟩ := obj_lst I e
      obtain ⟨as, ra⟩ := dq_readsAll I ds _ its al rv
      exact ⟨_, .list h1 h2 h3 ra⟩
  | .tuple ds, _, _, h, r => by
    cases h with
    | tup o e al =>
      cases r
      obtain ⟨its, ob, n, rv, h1, h2, h3⟩ := obj_tup I e
      obtain ⟨as, ra⟩ := dq_readsAll I ds _ its al rv
      exact ⟨_, .tuple h1 h2 h3 ra⟩
  | .dict kvs, _, _, h, r => by
    cases h with
    | emp o e =>
      cases r
      obtain ⟨ob, n, h1, h2, h3, _⟩ := obj_emp I e
      exact ⟨_, .dict h1 h2 h3 .nil .nil⟩
theorem dq_readsAll (I : Inv X pins σ H s) : ∀ (ds : List PyData) (vs : List V) (us : List Value), DQAll D H vs ds → Vals vs us → ∃ as, ReadsAll s.heap us ds as
  | [], _, _, h, r => by
    cases h
    cases r
    exact ⟨_, .nil⟩
  | d :: ds, _, _, h, r => by
    cases h with
    | cons h1 h2 =>
      cases r with
      | cons r1 r2 =>
        obtain ⟨as, q1⟩ := dq_reads I d _ _ h1 r1
        obtain ⟨bs, q2⟩ := dq_readsAll I ds _ _ h2 r2
        exact ⟨_, .cons q1 q2⟩
end
theorem entries0 {as : List Addr} {h₀ : Heap} {d : Nat} {prog : Program} {w : World} : ReprEntriesK prog w as h₀ d (#[] : Array DictEntry).toList [] := .nil
mutual
theorem dq_repr (I : Inv X pins σ H s) : ∀ (d : PyData) (v : V) (u : Value), DQ D H v d → RelV v u → gd d = true → wt d ≤ 1000000 → ∃ bs, ReadAtMost s.heap d.depth bs ∧ ReprK X.prog X.w bs s.heap d.depth u d.shown
  | .none, _, _, h, r, _, _ => by
    cases h
    cases r
    exact ⟨[], (fun _ z => nomatch z), by simp only [PyData.shown]; exact .of_is ReprIs.none _ _ _⟩
  | .bool b, _, _, h, r, _, _ => by
    cases h
    cases r
    exact ⟨[], (fun _ z => nomatch z), by simp only [PyData.shown]; exact .of_is (ReprIs.bool b) _ _ _⟩
  | .int i, _, _, h, r, g, _ => by
    cases h
    obtain ⟨t, rfl⟩ := r
    exact ⟨[], (fun _ z => nomatch z), by simp only [PyData.shown]; exact .of_is (ReprIs.int t (int_show g).2) _ _ _⟩
  | .str x, _, _, h, r, g, _ => by
    cases h
    obtain ⟨t, rfl⟩ := r
    have hx : (reprText x).length ≤ sizeLine := small (Nat.le_trans (reprText_le g) (by decide))
    exact ⟨[], (fun _ z => nomatch z), by simp only [PyData.shown]; exact .of_is (ReprIs.str x t hx) _ _ _⟩
  | .list ds, _, _, h, r, g, z => by
    have rd := dq_reads I (.list ds) _ _ h r
    cases h with
    | @lst a xs _ o e al =>
      cases r
      simp only [gd] at g
      simp only [wt] at z
      obtain ⟨its, ob, n, rv, h1, h2, h3⟩ := obj_lst I e
      obtain ⟨bs, hb, hk⟩ := dq_reprAll I ds _ its al rv g (by omega)
      obtain ⟨as, rd⟩ := rd
      have hna : a ∉ bs := not_mem_of_deeper rd (by simp only [PyData.depth]; omega) hb
      refine ⟨a :: bs, ReadAtMost.cons rd (by simp only [PyData.depth]; omega) hb, ?_⟩
      simp only [PyData.depth, PyData.shown]
      cases its with
      | nil =>
        cases rv
        cases al
        simp only [PyData.shownAll, listText_nil]
        exact ReprK.listEmpty h1 h2 h3
      | cons y l => exact ReprK.list h1 h2 h3 hna (by simpa using hk.length_eq) (fun i w e => hk.item i w (by simpa using e))
  | .tuple ds, _, _, h, r, g, z => by
    have rd := dq_reads I (.tuple ds) _ _ h r
    cases h with
    | @tup a xs _ o e al =>
      cases r
      simp only [gd] at g
      simp only [wt] at z
      obtain ⟨its, ob, n, rv, h1, h2, h3⟩ := obj_tup I e
      obtain ⟨bs, hb, hk⟩ := dq_reprAll I ds _ its al rv g (by omega)
      obtain ⟨as, rd⟩ := rd
      have hna : a ∉ bs := not_mem_of_deeper rd (by simp only [PyData.depth]; omega) hb
      refine ⟨a :: bs, ReadAtMost.cons rd (by simp only [PyData.depth]; omega) hb, ?_⟩
      simp only [PyData.depth, PyData.shown]
      exact ReprK.tuple h1 h2 h3 hna hk
  | .dict kvs, _, _, h, r, _, _ => by
    have rd := dq_reads I (.dict kvs) _ _ h r
    cases h with
    | @emp a o e =>
      cases r
      obtain ⟨ob, n, h1, h2, h3, hs⟩ := obj_emp I e
      obtain ⟨as, rd⟩ := rd
      refine ⟨[a], ReadAtMost.cons rd (n := 0) (Nat.zero_le _) (fun _ z => nomatch z), ?_⟩
      simp only [PyData.depth, PyData.shown, PyData.shownKv, PyData.depthKv]
      exact ReprK.dict h1 h2 h3 hs (fun z => nomatch z) entries0
theorem dq_reprAll (I : Inv X pins σ H s) : ∀ (ds : List PyData) (vs : List V) (us : List Value), DQAll D H vs ds → Vals vs us → gds ds = true → wts ds ≤ 1000000 → ∃ bs, ReadAtMost s.heap (PyData.depthAll ds) bs ∧ ReprAllK X.prog X.w bs s.heap (PyData.depthAll ds) us (PyData.shownAll ds)
  | [], _, _, h, r, _, _ => by
    cases h
    cases r
    exact ⟨[], (fun _ z => nomatch z), by simp only [PyData.shownAll]; exact .nil⟩
  | d :: ds, _, _, h, r, g, z => by
    cases h with
    | cons h1 h2 =>
      cases r with
      | cons r1 r2 =>
        simp only [gds, Bool.and_eq_true] at g
        simp only [wts] at z
        obtain ⟨b1, hb1, k1⟩ := dq_repr I d _ _ h1 r1 g.1 (by omega)
        obtain ⟨b2, hb2, k2⟩ := dq_reprAll I ds _ _ h2 r2 g.2 (by omega)
        simp only [PyData.depthAll, PyData.shownAll]
        refine ⟨b1 ++ b2, (hb1.mono (Nat.le_max_left _ _)).append (hb2.mono (Nat.le_max_right _ _)), ?_⟩
        refine .cons ((k1.more ?_).level_le (Nat.le_max_left _ _)) (k2.more_le ?_ (Nat.le_max_right _ _))
        · intro b hb
          exact List.mem_append_left _ hb
        · intro b hb
          exact List.mem_append_right _ hb
end
end
theorem call_reprQ {X : Cx} (hg : X.A.guards = some []) (hu : X.A.units + 64 < cLine) : CallR X (.builtin "repr") (fun xs H Q => ∃ (v : V) (D : Deck) (d : PyData), xs = [v] ∧ DQ D H v d ∧ gd d = true ∧ wt d ≤ 1000000 ∧ d.depth ≤ 60 ∧ Q (.str d.shown) H) := by
  intro pins s σ H xs us Q I r h
  obtain ⟨v, D, d, rfl, hd, g, z, hz, q⟩ := h
  obtain ⟨u, rfl, rx⟩ := vals1 r
  obtain ⟨hl, _⟩ := shown_le d g
  have big : (1000000 : Nat) ≤ sizeLine := by decide
  have fits : d.shown.length ≤ sizeLine := by omega
  have fin : ∀ (h' : Heap) (t : Tok) (tk : Tok), (∀ b o, s.heap.get? b = some o → h'.get? b = some o) → EP X pins σ Q (.str d.shown t) { s with heap := h', toks := tk } := fun h' t tk hk => ⟨.str d.shown, H, I.kept (t' := tk) hk, ⟨t, rfl⟩, q⟩
  have nil0 : ∀ b ∈ ([] : List Addr), True := fun _ _ => trivial
  have key := dq_repr I d v u hd rx g z
  have rds := dq_reads I d v u hd rx
  cases hd with
  | non =>
    cases rx
    simp only [PyData.shown] at fin
    exact PySem.P.repr_of_none (fin s.heap _ _ fun _ _ e => e)
  | bl b =>
    cases rx
    simp only [PyData.shown] at fin
    exact PySem.P.repr_of_bool (fin s.heap _ _ fun _ _ e => e)
  | int i =>
    obtain ⟨t, rfl⟩ := rx
    simp only [PyData.shown] at fin
    exact PySem.P.repr_of_int (int_show g).2 (fin s.heap _ _ fun _ _ e => e)
  | str x =>
    obtain ⟨t, rfl⟩ := rx
    simp only [PyData.shown] at fin fits
    exact PySem.P.repr_of_str (fin s.heap _ _ fun _ _ e => e) fits
  | @lst a xs ds o e al =>
    cases rx
    simp only [gd] at g
    simp only [wt] at z
    simp only [PyData.shown] at fin fits
    simp only [PyData.depth] at hz
    obtain ⟨its, ob, n, rv, h1, h2, h3⟩ := obj_lst I e
    obtain ⟨bs, hb, hk⟩ := dq_reprAll I ds _ its al rv g (by omega)
    obtain ⟨as, rd⟩ := rds
    have hna : a ∉ bs := not_mem_of_deeper rd (by simp only [PyData.depth]; omega) hb
    refine call_repr_slot (by omega) ⟨ob, h1, h2⟩ F.slot_list_repr.toG ?_
    cases its with
    | nil =>
      cases rv
      cases al
      simp only [PyData.shownAll, listText_nil] at fin
      exact call_list_repr_empty ⟨ob, h1, h2⟩ h1 h3 ⟨_, _, rfl, fin s.heap _ _ fun _ _ e => e⟩
    | cons y l => exact call_list_reprK h1 h2 h3 hna (by simpa using hk.length_eq) (fun i w e => hk.item i w (by simpa using e)) hg (fun b _ => Clear.nil b) (by show X.A.units + 1 + (PyData.depthAll ds + 1) < cLine; omega) (fun _ _ e => e) (fun h' u tk hk => ⟨_, _, rfl, fin h' u tk hk⟩) fits
  | @tup a xs ds o e al =>
    cases rx
    simp only [gd] at g
    simp only [wt] at z
    simp only [PyData.shown] at fin fits
    simp only [PyData.depth] at hz
    obtain ⟨its, ob, n, rv, h1, h2, h3⟩ := obj_tup I e
    obtain ⟨bs, hb, hk⟩ := dq_reprAll I ds _ its al rv g (by omega)
    obtain ⟨as, rd⟩ := rds
    have hna : a ∉ bs := not_mem_of_deeper rd (by simp only [PyData.depth]; omega) hb
    refine call_repr_slot (by omega) ⟨ob, h1, h2⟩ F.slot_tuple_repr ?_
    exact call_tuple_reprK h1 h2 h3 hna hk hg (fun b _ => Clear.nil b) (by show X.A.units + 1 + (PyData.depthAll ds + 1) < cLine; omega) (fun _ _ e => e) (fun h' u tk hk => ⟨_, _, rfl, fin h' u tk hk⟩) fits
  | @emp a o e =>
    cases rx
    simp only [PyData.shown, PyData.shownKv] at fin fits
    obtain ⟨ob, n, h1, h2, h3, hs⟩ := obj_emp I e
    refine call_repr_slot (by omega) ⟨ob, h1, h2⟩ F.slot_dict_repr ?_
    exact call_dict_reprK h1 h2 h3 hs (as := []) (fun z => nomatch z) (d := 0) entries0 hg (fun b _ => Clear.nil b) (by show X.A.units + 1 + (0 + 1) < cLine; omega) (fun _ _ e => e) (fun h' u tk hk => ⟨_, _, rfl, fin h' u tk hk⟩) fits

/-! ### is_letter, is_node -/
theorem dq_ty {K : PySem.W.Frag} {D : Deck} {H : Hp} {v : V} {d : PyData} (h : DQ D H v d) : TyX K H v (.type (tyD d)) := by
  cases h with
  | non => exact .base .non
  | bl b => exact .base (.bl b)
  | int i => exact .base (.int i)
  | str x => exact .base (.str x)
  | lst _ e _ => exact .base (.lst e)
  | tup _ e _ => exact .base (.tup e)
  | emp _ e => exact .base (.dK e)
def isStrD : PyData → Bool
  | .str _ => true
  | _ => false
def isTupD : PyData → Bool
  | .tuple _ => true
  | _ => false
theorem kit_str (d : PyData) : kitB (tyD d) "str" = some (isStrD d) := by
  cases d <;> (simp only [tyD, isStrD]; decide +kernel)
theorem kit_tup (d : PyData) : kitB (tyD d) "tuple" = some (isTupD d) := by
  cases d <;> (simp only [tyD, isTupD]; decide +kernel)
def isL : PyData → Bool
  | .str x => decide (x.length = 1) && (!decide (x.cps.toList < [97]) && !decide ([122] < x.cps.toList))
  | _ => false
def isN : PyData → Bool
  | .tuple [_, m, _] => isL m
  | _ => false
theorem scLetter : FnScope ["value"] ["value"] (defScope sLetter) := ⟨rfl, rfl, rfl, by decide +kernel, rfl, by decide +kernel, by decide +kernel⟩
theorem scNode : FnScope ["value"] ["value"] (defScope sNode) := ⟨rfl, rfl, rfl, by decide +kernel, rfl, by decide +kernel, by decide +kernel⟩
def spAsk (f : PyData → Bool) : Sp := fun vs H Q _ => ∃ (v : V) (D : Deck) (d : PyData), vs = [v] ∧ DQ D H v d ∧ gd d = true ∧ Q (.bl (f d)) H
section
variable {P : Program} {w : World} {K : PySem.W.Frag} {mg : Str → Option Value} {base : Heap} {f fL : Addr} {fd fdL : FuncData}
theorem ok_letter {k : Nat} (F : Fun K "is_letter" "is_letter" sLetter f fd) (M : Mgs mg) : FnOk P w K mg base CX0 (k + 1) f fd ["value"] (spAsk isL) := by
  refine F.ok scLetter (fun vs H Q E h => ?_) (fun cdv A outer s H vs Q E hr h => ?_)
  · obtain ⟨v, D, d, rfl, _⟩ := h
    rfl
  obtain ⟨v, D, d, rfl, hd, g, q⟩ := h
  have bi : bootBuiltins "isinstance" = some (.builtin "isinstance") := by decide +kernel
  refine ⟨_, pss_one (ps_ret (pe_and (pe_callB call_isi rfl M.isi bi (pa_cons (pv 0) (pa_cons (pe_bltn (v := .ty "str") rfl M.str (by decide +kernel) rfl) pa_nil)))
    (pe_and (pe_cmpR op_eq (pe_callB call_len_str rfl M.len PySem.boot_len (pa_cons (pv 0) pa_nil)) pe_int (nomark _)) (pe_one (pe_chain op_le_str op_le_str pe_str (pv 0) pe_str))))), ?_⟩
  refine ⟨_, rfl, _, _, _, _, isStrD d, rfl, .ty _, dq_ty hd, kit_ty (kit_str d), _, rfl, ?_⟩
  cases hd with
  | str x =>
    refine iteT ?_
    obtain ⟨h1, _⟩ := gd_str g
    refine ⟨_, rfl, x, rfl, small (by omega), rfl, _, rfl, ite2 (fun e => ?_) (fun e => ?_)⟩
    · have e1 : (x.length : Int) = 1 := V.int.inj (of_decide_eq_true e)
      have e2 : decide (x.length = 1) = true := decide_eq_true (by omega)
      have qe : isL (.str x) = (!decide (x.cps.toList < [97]) && !decide ([122] < x.cps.toList)) := by
        show (decide (x.length = 1) && _) = _
        rw [e2, Bool.true_and]
      rw [qe] at q
      refine ⟨_, rfl, _, x, rfl, rfl, _, rfl, ?_⟩
      rw [show (Str.ofString "a").cps.toList = [97] by decide +kernel]
      cases h97 : decide (x.cps.toList < [97]) with
      | true =>
        rw [h97] at q
        exact iteF q
      | false =>
        rw [h97] at q
        refine iteT ⟨x, _, rfl, rfl, ?_⟩
        rw [show (Str.ofString "z").cps.toList = [122] by decide +kernel]
        exact q
    · have e1 : ¬ (x.length : Int) = 1 := fun z => e (decide_eq_true (congrArg V.int z))
      have qe : isL (.str x) = false := by
        show (decide (x.length = 1) && _) = _
        rw [decide_eq_false (by omega), Bool.false_and]
      rw [qe] at q
      exact q
  | non => exact iteF q
  | bl b => exact iteF q
  | int i => exact iteF q
  | lst _ _ _ => exact iteF q
  | tup _ _ _ => exact iteF q
  | emp _ _ => exact iteF q
theorem ok_node {k : Nat} (F : Fun K "is_node" "is_node" sNode f fd) (GL : FnOk P w K mg base CX0 k fL fdL ["value"] (spAsk isL)) (bL : Binds K fdL ["value"] []) (kL : PySem.W.keepIn K (.ref fL) = true) (gL : mg "is_letter" = some (.ref fL)) (M : Mgs mg) : FnOk P w K mg base CX0 (k + 1) f fd ["value"] (spAsk isN) := by
  refine F.ok scNode (fun vs H Q E h => ?_) (fun cdv A outer s H vs Q E hr h => ?_)
  · obtain ⟨v, D, d, rfl, _⟩ := h
    rfl
  obtain ⟨v, D, d, rfl, hd, g, q⟩ := h
  have bi : bootBuiltins "isinstance" = some (.builtin "isinstance") := by decide +kernel
  refine ⟨_, pss_one (ps_ret (pe_and (pe_callB call_isi rfl M.isi bi (pa_cons (pv 0) (pa_cons (pe_bltn (v := .ty "tuple") rfl M.tuple (by decide +kernel) rfl) pa_nil)))
    (pe_and (pe_cmpR op_eq (pe_callB call_len_seq rfl M.len PySem.boot_len (pa_cons (pv 0) pa_nil)) pe_int (nomark _)) (pe_one (pe_call GL hr rfl gL kL bL .nil pass0 (pa_cons (pe_ix ix_tup (pv 0) pe_int (fun _ _ => rfl)) pa_nil)))))), ?_⟩
  refine ⟨_, rfl, _, _, _, _, isTupD d, rfl, .ty _, dq_ty hd, kit_ty (kit_tup d), _, rfl, ?_⟩
  cases hd with
  | @tup a xs ds o e al =>
    refine iteT ?_
    have hl := dqAll_len al
    refine ⟨_, rfl, a, xs, rfl, .inr (SqT.of e), rfl, _, rfl, ite2 (fun c => ?_) (fun c => ?_)⟩
    · have c' : (xs.length : Int) = 3 := V.int.inj (of_decide_eq_true c)
      cases al with
      | nil => exact absurd c' (by show ¬ (0 : Int) = 3; omega)
      | cons d1 al =>
      cases al with
      | nil => exact absurd c' (by show ¬ (1 : Int) = 3; omega)
      | cons d2 al =>
      cases al with
      | nil => exact absurd c' (by show ¬ (2 : Int) = 3; omega)
      | cons d3 al =>
      cases al with
      | cons _ _ => exact absurd c' (by simp; omega)
      | nil =>
        simp only [gd, gds, Bool.and_eq_true] at g
        exact ⟨_, rfl, a, _, 1, _, rfl, rfl, SqT.of e, atI_nat (j := 1) rfl, _, D, _, rfl, d2, g.2.1, q⟩
    · have c' : ¬ (xs.length : Int) = 3 := fun z => c (decide_eq_true (congrArg V.int z))
      have e2 : isN (.tuple ds) = false := by
        match ds, hl with
        | [], _ => rfl
        | [_], _ => rfl
        | [_, _], _ => rfl
        | [_, _, _], hl => exact absurd hl (by intro z; exact c' (by rw [z]; rfl))
        | _ :: _ :: _ :: _ :: _, _ => rfl
      rw [e2] at q
      exact q
  | non => exact iteF q
  | bl b => exact iteF q
  | int i => exact iteF q
  | lst _ _ _ => exact iteF q
  | str _ => exact iteF q
  | emp _ _ => exact iteF q
end

/-! ### how many nodes -/
def cntD : PyData → Int
  | .none => 0
  | .tuple [l, m, r] => if isL m = true ∧ 0 ≤ cntD l ∧ 0 ≤ cntD r then cntD l + 1 + cntD r else -1
  | _ => -1
theorem cnt_tup (l m r : PyData) : cntD (.tuple [l, m, r]) = if isL m = true ∧ 0 ≤ cntD l ∧ 0 ≤ cntD r then cntD l + 1 + cntD r else -1 := by
  rw [cntD]
theorem cnt_not {d : PyData} (h : isN d = false) : cntD d ≤ 0 := by
  match d, h with
  | .none, _ => rw [cntD]; exact Int.le_refl _
  | .tuple [l, m, r], h =>
    have h' : isL m = false := h
    rw [cnt_tup, if_neg (by rw [h']; exact fun z => Bool.false_ne_true z.1)]
    decide
  | .tuple [], _ => rw [cntD] <;> first | decide | (intros; simp_all)
  | .tuple [_], _ => rw [cntD] <;> first | decide | (intros; simp_all)
  | .tuple [_, _], _ => rw [cntD] <;> first | decide | (intros; simp_all)
  | .tuple (_ :: _ :: _ :: _ :: _), _ => rw [cntD] <;> first | decide | (intros; simp_all)
  | .bool _, _ => rw [cntD] <;> first | decide | (intros; simp_all)
  | .int _, _ => rw [cntD] <;> first | decide | (intros; simp_all)
  | .str _, _ => rw [cntD] <;> first | decide | (intros; simp_all)
  | .list _, _ => rw [cntD] <;> first | decide | (intros; simp_all)
  | .dict _, _ => rw [cntD] <;> first | decide | (intros; simp_all)
theorem cnt_none : cntD .none = 0 := by rw [cntD]
theorem cnt_pos {d : PyData} (h : d ≠ .none) (h0 : 0 ≤ cntD d) : 0 < cntD d := by
  cases hN : isN d with
  | true =>
    match d, hN with
    | .tuple [l, m, r], _ =>
      rw [cnt_tup] at h0 ⊢
      split
      · rename_i z
        omega
      · rename_i z
        rw [if_neg z] at h0
        exact absurd h0 (by decide)
  | false =>
    have h1 := cnt_not hN
    have h2 : cntD d = 0 := by omega
    exfalso
    match d, hN, h with
    | .none, _, h => exact h rfl
    | .tuple [l, m, r], hN, _ =>
      have h' : isL m = false := hN
      rw [cnt_tup, if_neg (by rw [h']; exact fun z => Bool.false_ne_true z.1)] at h2
      exact absurd h2 (by decide)
    | .tuple [], _, _ => rw [cntD] at h2 <;> first | exact absurd h2 (by decide) | (intros; simp_all)
    | .tuple [_], _, _ => rw [cntD] at h2 <;> first | exact absurd h2 (by decide) | (intros; simp_all)
    | .tuple [_, _], _, _ => rw [cntD] at h2 <;> first | exact absurd h2 (by decide) | (intros; simp_all)
    | .tuple (_ :: _ :: _ :: _ :: _), _, _ => rw [cntD] at h2 <;> first | exact absurd h2 (by decide) | (intros; simp_all)
    | .bool _, _, _ => rw [cntD] at h2 <;> first | exact absurd h2 (by decide) | (intros; simp_all)
    | .int _, _, _ => rw [cntD] at h2 <;> first | exact absurd h2 (by decide) | (intros; simp_all)
    | .str _, _, _ => rw [cntD] at h2 <;> first | exact absurd h2 (by decide) | (intros; simp_all)
    | .list _, _, _ => rw [cntD] at h2 <;> first | exact absurd h2 (by decide) | (intros; simp_all)
    | .dict _, _, _ => rw [cntD] at h2 <;> first | exact absurd h2 (by decide) | (intros; simp_all)
def isT (d : PyData) : Bool := decide (0 < cntD d ∧ cntD d < 13)
/-- all of them are trees, and there are few nodes -/
def okW (ws : List PyData) (c : Nat) : Prop := (∀ d ∈ ws, 0 < cntD d) ∧ (c : Int) + (ws.map cntD).sum ≤ 12
theorem sum_pos : ∀ ws : List PyData, (∀ d ∈ ws, 0 < cntD d) → 0 ≤ (ws.map cntD).sum
  | [], _ => Int.le_refl _
  | d :: ws, h => by
    have h1 := h d (List.mem_cons_self ..)
    have h2 := sum_pos ws fun e he => h e (List.mem_cons_of_mem _ he)
    rw [List.map_cons, List.sum_cons]
    omega
theorem okW_app {ws : List PyData} {p : PyData} {c : Nat} : okW (ws ++ [p]) c ↔ (∀ d ∈ ws, 0 < cntD d) ∧ 0 < cntD p ∧ (c : Int) + (ws.map cntD).sum + cntD p ≤ 12 := by
  unfold okW
  rw [List.map_append, List.sum_append]
  constructor
  · rintro ⟨h1, h2⟩
    have h2' : (c : Int) + ((ws.map cntD).sum + (cntD p + 0)) ≤ 12 := h2
    exact ⟨fun d hd => h1 d (List.mem_append_left _ hd), h1 p (List.mem_append_right _ (List.mem_singleton.mpr rfl)), by omega⟩
  · rintro ⟨h1, h2, h3⟩
    refine ⟨fun d hd => ?_, ?_⟩
    · rcases List.mem_append.mp hd with z | z
      · exact h1 d z
      · rw [List.mem_singleton.mp z]
        exact h2
    · show (c : Int) + ((ws.map cntD).sum + (cntD p + 0)) ≤ 12
      omega
def keepD : PyData → List PyData
  | .none => []
  | d => [d]
theorem keepD_or (d : PyData) : (d = .none ∧ keepD d = []) ∨ (d ≠ .none ∧ keepD d = [d]) := by
  cases d <;> first | exact .inl ⟨rfl, rfl⟩ | exact .inr ⟨by simp, rfl⟩
theorem okW_node {ws : List PyData} {l m r : PyData} {c : Nat} (hm : isL m = true) : okW (ws ++ (keepD l ++ keepD r)) (c + 1) ↔ okW (ws ++ [.tuple [l, m, r]]) c := by
  rw [okW_app, cnt_tup]
  have side : ∀ x : PyData, (∀ d ∈ keepD x, 0 < cntD d) ↔ 0 ≤ cntD x := by
    intro x
    rcases keepD_or x with ⟨rfl, e⟩ | ⟨hx, e⟩
    · rw [e, cnt_none]
      exact ⟨fun _ => Int.le_refl _, fun _ d hd => nomatch hd⟩
    · rw [e]
      exact ⟨fun h => Int.le_of_lt (h x (List.mem_singleton.mpr rfl)), fun h d hd => by rw [List.mem_singleton.mp hd]; exact cnt_pos hx h⟩
  have sums : ∀ x : PyData, ((keepD x).map cntD).sum = cntD x := by
    intro x
    rcases keepD_or x with ⟨rfl, e⟩ | ⟨hx, e⟩
    · rw [e, cnt_none]
      rfl
    · rw [e]
      show cntD x + 0 = cntD x
      omega
  unfold okW
  rw [List.map_append, List.sum_append, List.map_append, List.sum_append, sums, sums]
  constructor
  · rintro ⟨h1, h2⟩
    have hl := (side l).mp fun d hd => h1 d (List.mem_append_right _ (List.mem_append_left _ hd))
    have hr := (side r).mp fun d hd => h1 d (List.mem_append_right _ (List.mem_append_right _ hd))
    rw [if_pos ⟨hm, hl, hr⟩]
    exact ⟨fun d hd => h1 d (List.mem_append_left _ hd), by omega, by omega⟩
  · rintro ⟨h1, h2, h3⟩
    by_cases z : isL m = true ∧ 0 ≤ cntD l ∧ 0 ≤ cntD r
    · rw [if_pos z] at h2 h3
      refine ⟨fun d hd => ?_, by omega⟩
      rcases List.mem_append.mp hd with y | y
      · exact h1 d y
      · rcases List.mem_append.mp y with y | y
        · exact (side l).mpr z.2.1 d y
        · exact (side r).mpr z.2.2 d y
    · rw [if_neg z] at h2
      exact absurd h2 (by decide)

/-! ### is_tree -/
theorem scIsTree : FnScope ["value", "count", "waiting", "part", "side"] ["value"] (defScope sIsTree) := ⟨rfl, rfl, rfl, by decide +kernel, rfl, by decide +kernel, by decide +kernel⟩
def spIsTree : Sp := fun vs H Q _ => ∃ (v : V) (D : Deck) (d : PyData), vs = [v] ∧ DQ D H v d ∧ gd d = true ∧ ∀ H', Same H H' → Q (.bl (isT d)) H'
def keepV : V → List V
  | .non => []
  | v => [v]
theorem keep_step {xs : List V} {j : Nat} {x : V} (h : xs[j]? = some x) : (xs.take (j + 1)).flatMap keepV = (xs.take j).flatMap keepV ++ keepV x := by
  rw [List.take_add_one, h, List.flatMap_append]
  congr 1
  show keepV x ++ [] = keepV x
  rw [List.append_nil]
theorem keep_len : ∀ xs : List V, (xs.flatMap keepV).length ≤ xs.length
  | [] => Nat.le_refl _
  | x :: xs => by
    have h := keep_len xs
    have h1 : (keepV x).length ≤ 1 := by cases x <;> first | exact Nat.zero_le _ | exact Nat.le_refl _
    rw [List.flatMap_cons, List.length_append, List.length_cons]
    omega
theorem dq_keep {D : Deck} {H : Hp} {v : V} {d : PyData} (h : DQ D H v d) : DQAll D H (keepV v) (keepD d) := by
  cases h with
  | non => exact .nil
  | bl b => exact .cons (.bl b) .nil
  | int i => exact .cons (.int i) .nil
  | str x => exact .cons (.str x) .nil
  | lst o e a => exact .cons (.lst o e a) .nil
  | tup o e a => exact .cons (.tup o e a) .nil
  | emp o e => exact .cons (.emp o e) .nil
theorem gds_app : ∀ {a b : List PyData}, gds (a ++ b) = (gds a && gds b)
  | [], b => by simp only [List.nil_append, gds, Bool.true_and]
  | d :: a, b => by
    have h := gds_app (a := a) (b := b)
    simp only [List.cons_append, gds, h, Bool.and_assoc]
theorem gds_keep {d : PyData} (h : gd d = true) : gds (keepD d) = true := by
  rcases keepD_or d with ⟨_, e⟩ | ⟨_, e⟩
  · rw [e]; simp only [gds]
  · rw [e]; simp only [gds, h, Bool.and_self]
theorem dqAll_last {D : Deck} {H : Hp} {vs : List V} {ds : List PyData} (h : DQAll D H vs ds) (hne : vs ≠ []) : ∃ v d ds', vs[vs.length - 1]? = some v ∧ ds = ds' ++ [d] ∧ DQ D H v d ∧ DQAll D H vs.dropLast ds' := by
  match vs, ds, h with
  | [], _, _ => exact absurd rfl hne
  | [v], _, .cons h1 .nil => exact ⟨v, _, [], rfl, rfl, h1, .nil⟩
  | v :: w :: vs, _, .cons (d := d) h1 h2 =>
    obtain ⟨x, e, ds', a1, a2, a3, a4⟩ := dqAll_last h2 (by simp)
    refine ⟨x, e, d :: ds', ?_, by rw [a2]; rfl, a3, .cons h1 a4⟩
    show (w :: vs)[(w :: vs).length - 1]? = some x
    exact a1
def toGo (σ : L2.St) : Nat := match σ[1]? with
  | some (some (V.int c)) => (13 - c).toNat
  | _ => 0
section
variable {P : Program} {w : World} {K : PySem.W.Frag} {mg : Str → Option Value} {base : Heap} {f fN : Addr} {fd fdN : FuncData}
theorem ok_isTree {k : Nat} {tk : Tok} (F : Fun K "is_tree" "is_tree" sIsTree f fd) (GN : FnOk P w K mg base CX0 k fN fdN ["value"] (spAsk isN)) (bN : Binds K fdN ["value"] []) (kN : PySem.W.keepIn K (.ref fN) = true) (gN : mg "is_node" = some (.ref fN)) (mN : mg "MAX_NODES" = some (.int 12 tk)) :
    FnOk P w K mg base CX0 (k + 1) f fd ["value"] spIsTree := by
  refine F.ok scIsTree (fun vs H Q E h => ?_) (fun cdv A outer s H vs Q E hr h => ?_)
  · obtain ⟨v, D, d, rfl, _⟩ := h
    rfl
  obtain ⟨v, D, d, rfl, hd, g, q⟩ := h
  refine ⟨_, pss_cons (ps_set (i := 1) scIsTree.nd rfl (.inl rfl) pe_int)
    (pss_cons (ps_set (i := 2) scIsTree.nd rfl (.inl rfl) (pe_lst (pa_cons (pv 0) pa_nil)))
    (pss_cons (ps_while PassesOwn.never (pt_truth (pv 2) (by intro _; rfl))
      (pss_cons (ps_set (i := 3) scIsTree.nd rfl (.inl rfl) (pe_bm0 PySem.F.plainAttrs_list PySem.F.slot_list_pop PySem.F.type_list_pop mt_pop (pv 2)))
      (pss_cons (ps_aug (i := 1) scIsTree.nd rfl (.inl rfl) pe_int ip_add)
      (pss_cons (ps_if (PW.pt (pw_or (pt_cmpR op_gt (pv 1) (pe_glob (v := .int 12) rfl mN ⟨_, rfl⟩) (nomark _)) (pw_or1 (pt_not (pt_val (pe_call GN hr rfl gN kN bN .nil pass0 (pa_cons (pv 3) pa_nil))))))) (pss_one (ps_ret pe_bl)) pss_nil)
      (pss_one (ps_expr (pe_bm PySem.F.plainAttrs_list PySem.F.slot_list_extend PySem.F.type_list_extend mt_extend (pv 2) (pa_cons
        (pe_lc (own := [("side", 4)]) (g := gName 4) rfl scIsTree.nd (pi_tup (pe_tup (pa_cons (pe_ix ix_tup (pv 3) pe_int (fun _ _ => rfl)) (pa_cons (pe_ix ix_tup (pv 3) pe_int (fun _ _ => rfl)) pa_nil)))) (blkOk_by (N := ["value", "count", "waiting", "part", "side"]) (sc := defScope sIsTree) (by decide +kernel))
          (fun _ _ _ _ _ => pg_name (i := 4) scIsTree.nd rfl (Or.inl rfl)) (fun _ _ _ _ _ => pts_one (pt_cmpR op_notN (pv 4) pe_non (nomark _))) (fun _ _ _ _ _ => pv 4)) pa_nil))))))))
    (pss_one (ps_ret pe_bl)))), ?_⟩
  refine ⟨_, rfl, (by show 1 ≤ sizeLine; decide), fun wa nw => ?_⟩
  have q0 := same_new nw (.lst [v])
  refine while_by (c := fun σ H' Q' => tVar 2 σ H' fun x H2 => ∃ k, TruV K x H2 k ∧ Q' k H2) (fun σ H' => ∃ (c : Nat) (y3 : Option V) (ws : List V) (ds : List PyData), σ = [some v, some (.int (c : Int)), some (.ref wa), y3, none] ∧ Same H H' ∧ H' wa = some (.lst ws) ∧ DQAll D H ws ds ∧ gds ds = true ∧ c ≤ 12 ∧ ws.length ≤ 2 * c + 1 ∧ (isT d = true ↔ okW ds c))
    (fun σ _ => toGo σ)
    ?_ (fun σ H' hp => ?_) ?_
  · refine ⟨0, none, [v], [d], rfl, q0, upd_same, .cons hd .nil, by simp only [gds, g, Bool.and_self], by omega, by show 1 ≤ 1; omega, ?_⟩
    unfold isT okW
    rw [decide_eq_true_eq]
    constructor
    · rintro ⟨h1, h2⟩
      refine ⟨fun e he => by rw [List.mem_singleton.mp he]; exact h1, ?_⟩
      show ((0 : Nat) : Int) + (cntD d + 0) ≤ 12
      omega
    · rintro ⟨h1, h2⟩
      have h3 := h1 d (List.mem_singleton.mpr rfl)
      have h2' : ((0 : Nat) : Int) + (cntD d + 0) ≤ 12 := h2
      exact ⟨h3, by omega⟩
  · obtain ⟨c, y3, ws, ds, rfl, sm, ew, al, gw, hc, hl, hT⟩ := hp
    refine ⟨_, rfl, !ws.isEmpty, .inl ⟨ws, SqL.of ew, rfl⟩, ?_⟩
    cases ws with
    | nil =>
      refine iteF ?_
      cases al
      have t : isT d = true := hT.mpr ⟨(fun _ z => nomatch z), (by show (c : Int) + 0 ≤ 12; omega)⟩
      have := q H' sm
      rw [t] at this
      exact this
    | cons w0 ws0 =>
      refine iteT ?_
      obtain ⟨p, dp, ds', ep, rfl, hp, al'⟩ := dqAll_last al (by simp)
      rw [gds_app, Bool.and_eq_true] at gw
      have gp : gd dp = true := by
        have := gw.2
        simp only [gds, Bool.and_true] at this
        exact this
      refine ⟨.ref wa, rfl, .inl ⟨rfl, _, SqL.of ew⟩, wa, _, p, rfl, rfl, ew, ep, ?_⟩
      refine ⟨_, rfl, _, _, rfl, rfl, ?_⟩
      have sm2 : Same H (upd H' wa (.lst (w0 :: ws0).dropLast)) := fun b o z => by
        rw [upd_ne (ne_of_none z nw)]
        exact sm _ _ z
      have ew2 : (upd H' wa (.lst (w0 :: ws0).dropLast)) wa = some (.lst (w0 :: ws0).dropLast) := upd_same
      generalize upd H' wa (.lst (w0 :: ws0).dropLast) = H2 at sm2 ew2 ⊢
      refine ⟨_, rfl, _, _, rfl, rfl, _, rfl, ite2 (fun e => ?_) (fun e => ?_)⟩
      · have e' : (c : Int) + 1 > 12 := of_decide_eq_true e
        have t : isT d = false := by
          rw [Bool.eq_false_iff]
          intro z
          obtain ⟨h1, h2, h3⟩ := okW_app.mp (hT.mp z)
          have := sum_pos ds' h1
          omega
        have := q H2 sm2
        rw [t] at this
        exact iteT this
      · have e' : ¬ (c : Int) + 1 > 12 := of_decide_eq_false (Bool.eq_false_iff.mpr e)
        refine ⟨_, rfl, p, D, dp, rfl, dq_same sm2 hp, gp, _, rfl, ?_⟩
        cases hN : isN dp with
        | false =>
          refine iteT ?_
          have t : isT d = false := by
            rw [Bool.eq_false_iff]
            intro z
            obtain ⟨h1, h2, h3⟩ := okW_app.mp (hT.mp z)
            have := cnt_not hN
            omega
          have := q H2 sm2
          rw [t] at this
          exact this
        | true =>
          refine iteF ?_
          obtain ⟨dl, dm, dr, rfl⟩ : ∃ dl dm dr, dp = .tuple [dl, dm, dr] := by
            match dp, hN with
            | .tuple [l, m, r], _ => exact ⟨l, m, r, rfl⟩
          cases hp with
          | @tup a _ _ o e3 al3 =>
          cases al3 with
          | @cons vl _ _ _ hl' al3 =>
          cases al3 with
          | @cons vm _ _ _ hm' al3 =>
          cases al3 with
          | @cons vr _ _ _ hr' al3 =>
          cases al3 with
          | nil =>
            have hm : isL dm = true := hN
            have e3' := sm2 _ _ e3
            refine ⟨.ref wa, rfl, .inl ⟨rfl, _, SqL.of ew2⟩, _, rfl, a, _, 0, vl, rfl, rfl, SqT.of e3', atI_nat (j := 0) rfl, _, rfl, a, _, 2, vr, rfl, rfl, SqT.of e3', atI_nat (j := 2) rfl, (by show 2 ≤ sizeLine; decide), fun tp ntp => ?_⟩
            have q6 := same_new ntp (.tup [vl, vr])
            refine ⟨tp, rfl, ⟨_, SqT.of upd_same⟩, fun L nL => ?_⟩
            have q7 := same_new nL (.lst [])
            refine lc_tup (K := K) (a := tp) (xs := [vl, vr]) (fun j H'' => Same (upd H2 tp (.tup [vl, vr])) H'' ∧ H'' L = some (.lst ((([vl, vr] : List V).take j).flatMap keepV))) ⟨q7, upd_same⟩ (fun j H'' _ hp => SqT.of (hp.1 _ _ upd_same)) (fun j x H'' hx hp => ?_) (fun H'' hp => ?_)
            · obtain ⟨s7, eL⟩ := hp
              refine ⟨rfl, _, rfl, rfl, _, rfl, ?_⟩
              by_cases hxn : x = .non
              · refine iteNS hxn ⟨s7, ?_⟩
                rw [keep_step hx, hxn]
                show _ = some (HO.lst (_ ++ []))
                rw [List.append_nil]
                exact eL
              · rw [decide_eq_false hxn]
                refine iteT ⟨x, rfl, _, eL, ?_, fun b o z => ?_, ?_⟩
                · have := keep_len (([vl, vr] : List V).take j)
                  have h2 : (([vl, vr] : List V).take j).length ≤ 2 := by rw [List.length_take]; exact Nat.min_le_right _ _
                  exact small1000 (by omega)
                · rw [upd_ne (ne_of_none z nL)]
                  exact s7 _ _ z
                · rw [upd_same, keep_step hx]
                  cases x <;> first | rfl | exact absurd rfl hxn
            · obtain ⟨s7, eL⟩ := hp
              have s8 : Same H2 H'' := q6.trans s7
              have eL' : H'' L = some (.lst (keepV vl ++ keepV vr)) := by
                rw [eL]
                show some (HO.lst (keepV vl ++ (keepV vr ++ []))) = _
                rw [List.append_nil]
              have k1 : (keepV vl).length ≤ 1 := by cases vl <;> first | exact Nat.zero_le _ | exact Nat.le_refl _
              have k2 : (keepV vr).length ≤ 1 := by cases vr <;> first | exact Nat.zero_le _ | exact Nat.le_refl _
              have dl' : (w0 :: ws0).dropLast.length = ws0.length := by rw [List.length_dropLast]; rfl
              have hl2 : ws0.length + 1 ≤ 2 * c + 1 := hl
              refine ⟨wa, L, _, _, rfl, rfl, s8 _ _ ew2, eL', ?_, ?_⟩
              · rw [List.length_append, dl']
                exact small (by omega)
              simp only [gd, gds, Bool.and_true, Bool.and_eq_true] at gp
              refine ⟨⟨c + 1, some (.ref a), _, ds' ++ (keepD dl ++ keepD dr), rfl, fun b o z => ?_, upd_same, dqAll_app al' (dqAll_app (dq_keep hl') (dq_keep hr')), ?_, by omega, ?_, ?_⟩, ?_⟩
              · rw [upd_ne (ne_of_none z nw)]
                exact s8 _ _ (sm2 _ _ z)
              · rw [gds_app, gds_app, gw.1, gds_keep gp.1, gds_keep gp.2.2]
                rfl
              · rw [List.length_append, List.length_append, dl']
                omega
              · exact hT.trans (okW_node hm).symm
              · show (13 - ((c : Int) + 1)).toNat < (13 - (c : Int)).toNat
                omega
  · intro σ H' Q1 Q2 hQ h
    obtain ⟨v', e, k', t, q'⟩ := h
    exact ⟨v', e, k', t, hQ _ _ q'⟩
end

/-! ### _law_count -/
theorem cnt_m1 {d : PyData} (h : isTupD d = false) (h0 : d ≠ .none) : cntD d = -1 := by
  match d, h, h0 with
  | .none, _, h0 => exact absurd rfl h0
  | .bool _, _, _ => rw [cntD] <;> (intros; simp_all)
  | .int _, _, _ => rw [cntD] <;> (intros; simp_all)
  | .str _, _, _ => rw [cntD] <;> (intros; simp_all)
  | .list _, _, _ => rw [cntD] <;> (intros; simp_all)
  | .dict _, _, _ => rw [cntD] <;> (intros; simp_all)
theorem cnt_len {ds : List PyData} (h : ds.length ≠ 3) : cntD (.tuple ds) = -1 := by
  match ds, h with
  | [], _ => rw [cntD] <;> (intros; simp_all)
  | [_], _ => rw [cntD] <;> (intros; simp_all)
  | [_, _], _ => rw [cntD] <;> (intros; simp_all)
  | [_, _, _], h => exact absurd rfl h
  | _ :: _ :: _ :: _ :: _, _ => rw [cntD] <;> (intros; simp_all)
theorem isL_iff {x : Str} : isL (.str x) = true ↔ x ∈ abc := by
  have one : x.length = 1 ↔ ∃ c, x = ⟨#[c]⟩ := by
    constructor
    · intro h
      obtain ⟨⟨l⟩⟩ := x
      match l, h with
      | [c], _ => exact ⟨c, rfl⟩
      | [], h => exact absurd h (by decide)
      | _ :: _ :: _, h => exact absurd h (by show ¬ (_ + 1 + 1) = 1; omega)
    · rintro ⟨c, rfl⟩
      rfl
  have lt1 : ∀ a b : Nat, ([a] < [b]) ↔ a < b := fun a b => by
    rw [List.cons_lt_cons_iff]
    constructor
    · rintro (h | ⟨_, h⟩)
      · exact h
      · exact absurd h (List.not_lt_nil _)
    · exact .inl
  unfold abc
  rw [List.mem_map]
  show (decide (x.length = 1) && (!decide (x.cps.toList < [97]) && !decide ([122] < x.cps.toList))) = true ↔ _
  simp only [Bool.and_eq_true, decide_eq_true_eq, Bool.not_eq_true', decide_eq_false_iff_not]
  constructor
  · rintro ⟨h1, h2, h3⟩
    obtain ⟨c, rfl⟩ := one.mp h1
    have h2' : ¬ ([c] < [97]) := h2
    have h3' : ¬ ([122] < [c]) := h3
    rw [lt1] at h2' h3'
    exact ⟨c - 97, List.mem_range.mpr (by omega), by rw [show c - 97 + 97 = c by omega]⟩
  · rintro ⟨c, hc, rfl⟩
    have := List.mem_range.mp hc
    refine ⟨rfl, ?_, ?_⟩
    · show ¬ ([c + 97] < [97])
      rw [lt1]
      omega
    · show ¬ ([122] < [c + 97])
      rw [lt1]
      omega
theorem inV_abc {x : Str} : inV (.str x) (abc.map V.str) = isL (.str x) := by
  rw [Bool.eq_iff_iff, isL_iff]
  unfold inV
  rw [List.any_eq_true]
  constructor
  · rintro ⟨y, hy, e⟩
    obtain ⟨z, hz, rfl⟩ := List.mem_map.mp hy
    have : z = x := by simpa [eqV] using e
    rw [← this]
    exact hz
  · intro h
    exact ⟨.str x, List.mem_map.mpr ⟨x, h, rfl⟩, by simp [eqV]⟩
theorem flat_abc : (abc.map V.str).all flatV = true := by decide +kernel
theorem scCount : FnScope ["_law_value", "_law_left", "_law_right"] ["_law_value"] (defScope sCount) := ⟨rfl, rfl, rfl, by decide +kernel, rfl, by decide +kernel, by decide +kernel⟩
def spCount (n : Nat) : Sp := fun vs H Q _ => ∃ (v : V) (D : Deck) (d : PyData), vs = [v] ∧ DQ D H v d ∧ gd d = true ∧ d.depth < n ∧ ∀ H', Same H H' → Q (.int (cntD d)) H'
theorem isStr_of {d : PyData} (h : isStrD d = true) : ∃ x, d = .str x := by
  cases d <;> first | exact ⟨_, rfl⟩ | exact absurd h Bool.false_ne_true
theorem isL_str {d : PyData} (h : isStrD d = false) : isL d = false := by
  cases d <;> first | rfl | exact absurd h (by simp [isStrD])
section
variable {P : Program} {w : World} {K : PySem.W.Frag} {mg : Str → Option Value} {base : Heap} {f : Addr} {fd : FuncData}
theorem ok_count (F : Fun K "_law_count" "_law_count" sCount f fd) (b : Binds K fd ["_law_value"] []) (g0 : mg "_law_count" = some (.ref f)) (M : Mgs mg) : ∀ n : Nat, FnOk P w K mg base CX0 n f fd ["_law_value"] (spCount n)
  | 0 => by
    have no : ∀ vs H Q E, ¬ spCount 0 vs H Q E := fun vs H Q E h => by
      obtain ⟨v, D, d, _, _, _, h1, _⟩ := h
      omega
    exact ⟨fun vs H Q E h => absurd h (no vs H Q E), fun A outer s H args us vs Q E _ _ _ _ h => absurd h (no vs H Q E)⟩
  | n + 1 => by
    have G := ok_count F b g0 M n
    refine F.ok scCount (fun vs H Q E h => ?_) (fun cdv A outer s H vs Q E hr h => ?_)
    · obtain ⟨v, D, d, rfl, _⟩ := h
      rfl
    obtain ⟨v, D, d, rfl, hd, g, hn, q⟩ := h
    have bi : bootBuiltins "isinstance" = some (.builtin "isinstance") := by decide +kernel
    refine ⟨_, pss_cons (ps_if (pt_cmpR op_isN (pv 0) pe_non (nomark _)) (pss_one (ps_ret pe_int)) pss_nil)
      (pss_cons (ps_if (PW.pt (pw_or (pt_not (pt_val (pe_callB call_isi rfl M.isi bi (pa_cons (pv 0) (pa_cons (pe_bltn (v := .ty "tuple") rfl M.tuple (by decide +kernel) rfl) pa_nil)))))
          (pw_or (pt_cmpR op_ne (pe_callB call_len_seq rfl M.len PySem.boot_len (pa_cons (pv 0) pa_nil)) pe_int (nomark _))
          (pw_or1 (pt_not (pt_val (pe_callB call_isi rfl M.isi bi (pa_cons (pe_ix ix_tup (pv 0) pe_int (fun _ _ => rfl)) (pa_cons (pe_bltn (v := .ty "str") rfl M.str (by decide +kernel) rfl) pa_nil))))))))) (pss_one (ps_ret (pe_un un_neg pe_int))) pss_nil)
      (pss_cons (ps_par (i := 1) (j := 2) (by rfl) scCount.nd rfl rfl (by decide) rfl rfl (pa_cons (pe_call G hr rfl g0 F.kp b .nil pass0 (pa_cons (pe_ix ix_tup (pv 0) pe_int (fun _ _ => rfl)) pa_nil)) (pa_cons (pe_call G hr rfl g0 F.kp b .nil pass0 (pa_cons (pe_ix ix_tup (pv 0) pe_int (fun _ _ => rfl)) pa_nil)) pa_nil)) (by rfl))
      (pss_cons (ps_if (PW.pt (pw_or (pt_cmpR op_lt (pv 1) pe_int (nomark _)) (pw_or (pt_cmpR op_lt (pv 2) pe_int (nomark _)) (pw_or1 (pt_cmpR op_notIn_seq (pe_ix ix_tup (pv 0) pe_int (fun _ _ => rfl)) (pe_callTy (call_signs rfl) rfl M.list (by decide +kernel) (pa_cons pe_str pa_nil)) (by rfl)))))) (pss_one (ps_ret (pe_un un_neg pe_int))) pss_nil)
      (pss_one (ps_ret (pe_op op_add (pe_op op_add (pv 1) pe_int) (pv 2))))))), ?_⟩
    have isi := fun (v : V) (d : PyData) (h : DQ D H v d) => dq_ty (K := K) h
    by_cases hnon : d = .none
    · subst hnon
      cases hd
      have q' := q H (Same.refl H)
      rw [cnt_none] at q'
      exact ⟨_, rfl, rfl, _, rfl, iteT q'⟩
    have vne : decide (v = .non) = false := by
      apply decide_eq_false
      intro z
      subst z
      cases hd
      exact hnon rfl
    refine ⟨_, rfl, rfl, _, rfl, ?_⟩
    rw [vne]
    refine iteF ?_
    refine ⟨_, rfl, _, _, _, _, isTupD d, rfl, .ty _, dq_ty hd, kit_ty (kit_tup d), _, rfl, ?_⟩
    cases ht : isTupD d with
    | false =>
      have q' := q H (Same.refl H)
      rw [cnt_m1 ht hnon] at q'
      exact iteT (iteT ⟨1, rfl, q'⟩)
    | true =>
      refine iteF ?_
      cases hd with
      | non => exact absurd ht (by decide)
      | bl b => exact absurd ht (by simp [isTupD])
      | int i => exact absurd ht (by simp [isTupD])
      | str x => exact absurd ht (by simp [isTupD])
      | lst _ _ _ => exact absurd ht (by simp [isTupD])
      | emp _ _ => exact absurd ht (by simp [isTupD])
      | @tup a xs ds o e al =>
        have hl := dqAll_len al
        refine ⟨_, rfl, a, xs, rfl, .inr (SqT.of e), rfl, _, rfl, ?_⟩
        by_cases h3 : xs.length = 3
        · rw [h3]
          refine iteF ?_
          cases al with
          | nil => exact absurd h3 (by show ¬ 0 = 3; omega)
          | @cons vl _ dl _ h1 al =>
          cases al with
          | nil => exact absurd h3 (by show ¬ 1 = 3; omega)
          | @cons vm _ dm _ h2 al =>
          cases al with
          | nil => exact absurd h3 (by show ¬ 2 = 3; omega)
          | @cons vr _ dr _ h3' al =>
          cases al with
          | cons _ _ => exact absurd h3 (by show ¬ _ + 1 + 1 + 1 + 1 = 3; omega)
          | nil =>
            simp only [gd, gds, Bool.and_true, Bool.and_eq_true] at g
            simp only [PyData.depth, PyData.depthAll] at hn
            refine ⟨_, rfl, a, _, 1, vm, rfl, rfl, SqT.of e, atI_nat (j := 1) rfl, _, _, _, _, isStrD dm, rfl, .ty _, dq_ty h2, kit_ty (kit_str dm), _, rfl, ?_⟩
            cases hs : isStrD dm with
            | false =>
              have q' := q H (Same.refl H)
              rw [cnt_tup, if_neg (by rw [isL_str hs]; exact fun z => Bool.false_ne_true z.1)] at q'
              exact iteT ⟨1, rfl, q'⟩
            | true =>
              refine iteF ?_
              obtain ⟨x, rfl⟩ := isStr_of hs
              cases h2
              refine ⟨_, rfl, a, _, 0, vl, rfl, rfl, SqT.of e, atI_nat (j := 0) rfl, vl, D, dl, rfl, h1, g.1, by omega, fun H1 s1 => ?_⟩
              refine ⟨_, rfl, a, _, 2, vr, rfl, rfl, SqT.of (s1 _ _ e), atI_nat (j := 2) rfl, vr, D, dr, rfl, dq_same s1 h3', g.2.2, by omega, fun H2 s2 => ?_⟩
              have s12 := s1.trans s2
              refine ⟨_, _, rfl, ?_⟩
              refine ⟨_, rfl, _, _, rfl, rfl, _, rfl, ite2 (fun c1 => ?_) (fun c1 => ?_)⟩
              · have c1' : cntD dl < 0 := of_decide_eq_true c1
                have q' := q H2 s12
                rw [cnt_tup, if_neg (fun z => by omega)] at q'
                exact iteT ⟨1, rfl, q'⟩
              have c1' : ¬ cntD dl < 0 := of_decide_eq_false (Bool.eq_false_iff.mpr c1)
              refine ⟨_, rfl, _, _, rfl, rfl, _, rfl, ite2 (fun c2 => ?_) (fun c2 => ?_)⟩
              · have c2' : cntD dr < 0 := of_decide_eq_true c2
                have q' := q H2 s12
                rw [cnt_tup, if_neg (fun z => by omega)] at q'
                exact iteT ⟨1, rfl, q'⟩
              have c2' : ¬ cntD dr < 0 := of_decide_eq_false (Bool.eq_false_iff.mpr c2)
              refine ⟨_, rfl, a, _, 1, .str x, rfl, rfl, SqT.of (s12 _ _ e), atI_nat (j := 1) rfl, _, rfl, by decide +kernel, fun p np => ?_⟩
              rw [abc_is]
              have q3 := same_new np (.lst (abc.map V.str))
              have q' := q _ (s12.trans q3)
              refine ⟨p, _, rfl, .inl (SqL.of upd_same), rfl, flat_abc, _, rfl, ?_⟩
              show if (!inV (.str x) (abc.map V.str)) = true then _ else _
              rw [inV_abc]
              rw [cnt_tup] at q'
              cases hL : isL (.str x) with
              | false =>
                rw [if_neg (by rw [hL]; exact fun z => Bool.false_ne_true z.1)] at q'
                exact iteT ⟨1, rfl, q'⟩
              | true =>
                rw [if_pos ⟨hL, by omega, by omega⟩] at q'
                exact iteF ⟨_, rfl, _, _, rfl, rfl, _, rfl, _, _, rfl, rfl, q'⟩
        · have q' := q H (Same.refl H)
          rw [cnt_len (by omega)] at q'
          have nz : ¬ (V.int (xs.length : Int) = V.int 3) := fun z => h3 (by have := V.int.inj z; omega)
          rw [decide_eq_false nz]
          exact iteT (iteT ⟨1, rfl, q'⟩)
end

/-! ### _law_odd -/
/-- a value that may be shown: light, not deep -/
def Gd (D : Deck) (H : Hp) (W B : Nat) (v : V) : Prop := ∃ d : PyData, DQ D H v d ∧ gd d = true ∧ wt d ≤ W ∧ d.depth ≤ B
theorem Gd.sameD {D : Deck} {H H' : Hp} {W B : Nat} {v : V} (s : SameD D H H') (h : Gd D H W B v) : Gd D H' W B v := by
  obtain ⟨d, h1, h2⟩ := h
  exact ⟨d, dq_sameD s h1, h2⟩
theorem Gd.same {D : Deck} {H H' : Hp} {W B : Nat} {v : V} (s : Same H H') (h : Gd D H W B v) : Gd D H' W B v := h.sameD (SameD.of s)
theorem Gd.mono {D : Deck} {H : Hp} {W B W' B' : Nat} {v : V} (h : Gd D H W B v) (hw : W ≤ W') (hb : B ≤ B') : Gd D H W' B' v := by
  obtain ⟨d, h1, h2, h3, h4⟩ := h
  exact ⟨d, h1, h2, Nat.le_trans h3 hw, Nat.le_trans h4 hb⟩
theorem dq_newT {D : Deck} {H : Hp} {n : Nat} (dk : DeckOk H D n) {p : Addr} (np : H p = none) {xs : List V} {ds : List PyData} (al : DQAll D H xs ds) : DQ D (upd H p (.tup xs)) (.ref p) (.tuple ds) := .tup (dk.new np) upd_same (dqAll_same (same_new np _) al)
theorem dq_newL {D : Deck} {H : Hp} {n : Nat} (dk : DeckOk H D n) {p : Addr} (np : H p = none) {xs : List V} {ds : List PyData} (al : DQAll D H xs ds) : DQ D (upd H p (.lst xs)) (.ref p) (.list ds) := .lst (dk.new np) upd_same (dqAll_same (same_new np _) al)
theorem dq_newE {D : Deck} {H : Hp} {n : Nat} (dk : DeckOk H D n) {p : Addr} (np : H p = none) : DQ D (upd H p (.dK [])) (.ref p) (.dict []) := .emp (dk.new np) upd_same
theorem scOdd : FnScope ["_law_deck_here", "_law_some"] ["_law_deck_here"] (defScope sOdd) := ⟨rfl, rfl, rfl, by decide +kernel, rfl, by decide +kernel, by decide +kernel⟩
def spOdd : Sp := fun vs H Q _ => ∃ (D : Deck) (n : Nat), vs = [.ref D.dk] ∧ DeckOk H D n ∧ n ≤ 1000000 ∧ ∀ (v : V) (H' : Hp), DeckOk H' D (n + 1) → SameD D H H' → Gd D H' 200 2 v → Q v H'
def odds : List PyData := [.none, .bool true, .bool false, .int (-1), .int 0, .int 1, .int 12, .int ((10 : Int) ^ Int.toNat 29), .str "", .str "a", .str "l", .str "A", .str "ab", .tuple [], .list [], .dict [], .tuple [.int 0], .list [.int 0], .tuple [.list [.int 0]], .tuple [.dict []],
  .tuple [.none, .str "a", .none], .tuple [.none, .str "a"], .list [.none, .str "a", .none], .tuple [.none, .str "a", .none, .none]]
theorem odds_ok : odds.all (fun d => gd d && decide (wt d ≤ 200) && decide (d.depth ≤ 2)) = true := by decide +kernel
section
variable {P : Program} {w : World} {K : PySem.W.Frag} {mg : Str → Option Value} {base : Heap} {f fN : Addr} {fd fdN : FuncData}
theorem ok_odd {k : Nat} (F : Fun K "_law_odd" "_law_odd" sOdd f fd) (GN : FnOk P w K mg base CX0 k fN fdN ["_law_deck_here", "_law_many"] spNext) (bN : Binds K fdN ["_law_deck_here", "_law_many"] []) (kN : PySem.W.keepIn K (.ref fN) = true) (gN : mg "_law_next" = some (.ref fN)) :
    FnOk P w K mg base CX0 (k + 1) f fd ["_law_deck_here"] spOdd := by
  refine F.ok scOdd (fun vs H Q E h => ?_) (fun cdv A outer s H vs Q E hr h => ?_)
  · obtain ⟨D, n, rfl, _⟩ := h
    rfl
  obtain ⟨D, n, rfl, d0, hn, q⟩ := h
  refine ⟨_, pss_cons (ps_set (i := 1) scOdd.nd rfl (.inl rfl) (pe_lst (pa_cons pe_non (pa_cons pe_bl (pa_cons pe_bl (pa_cons (pe_un un_neg pe_int) (pa_cons pe_int (pa_cons pe_int (pa_cons pe_int (pa_cons (pe_op op_pow pe_int pe_int)
      (pa_cons pe_str (pa_cons pe_str (pa_cons pe_str (pa_cons pe_str (pa_cons pe_str (pa_cons (pe_tup pa_nil) (pa_cons (pe_lst pa_nil) (pa_cons pe_dnewK (pa_cons (pe_tup (pa_cons pe_int pa_nil)) (pa_cons (pe_lst (pa_cons pe_int pa_nil)) (pa_cons (pe_tup (pa_cons (pe_lst (pa_cons pe_int pa_nil)) pa_nil)) (pa_cons (pe_tup (pa_cons pe_dnewK pa_nil)) pa_nil))))))))))))))))))))))
    (pss_one (ps_ret (pe_ix ix_list (pe_op op_cat (pv 1) (pe_lst (pa_cons (pe_tup (pa_cons pe_non (pa_cons pe_str (pa_cons pe_non pa_nil)))) (pa_cons (pe_tup (pa_cons pe_non (pa_cons pe_str pa_nil))) (pa_cons (pe_lst (pa_cons pe_non (pa_cons pe_str (pa_cons pe_non pa_nil)))) (pa_cons (pe_tup (pa_cons pe_non (pa_cons pe_str (pa_cons pe_non (pa_cons pe_non pa_nil))))) pa_nil))))))
      (pe_call GN hr rfl gN kN bN .nil pass0 (pa_cons (pv 0) (pa_cons pe_int pa_nil))) (fun _ _ => rfl)))), ?_⟩
  refine ⟨1, rfl, _, _, rfl, rfl, ⟨by decide, by decide, by decide⟩, ?_⟩
  refine ⟨(by show 0 ≤ sizeLine; decide), fun p1 n1 => ?_⟩
  have q1 := same_new n1 (.tup []); have d1 := d0.same q1
  refine ⟨(by show 0 ≤ sizeLine; decide), fun p2 n2 => ?_⟩
  have q2 := same_new n2 (.lst []); have d2 := d1.same q2
  refine fun p3 n3 => ?_
  have q3 := same_new n3 (.dK []); have d3 := d2.same q3
  refine ⟨(by show 1 ≤ sizeLine; decide), fun p4 n4 => ?_⟩
  have q4 := same_new n4 (.tup [.int 0]); have d4 := d3.same q4
  refine ⟨(by show 1 ≤ sizeLine; decide), fun p5 n5 => ?_⟩
  have q5 := same_new n5 (.lst [.int 0]); have d5 := d4.same q5
  refine ⟨(by show 1 ≤ sizeLine; decide), fun p6 n6 => ?_⟩
  have q6 := same_new n6 (.lst [.int 0]); have d6 := d5.same q6
  refine ⟨(by show 1 ≤ sizeLine; decide), fun p7 n7 => ?_⟩
  have q7 := same_new n7 (.tup [.ref p6]); have d7 := d6.same q7
  refine fun p8 n8 => ?_
  have q8 := same_new n8 (.dK []); have d8 := d7.same q8
  refine ⟨(by show 1 ≤ sizeLine; decide), fun p9 n9 => ?_⟩
  have q9 := same_new n9 (.tup [.ref p8]); have d9 := d8.same q9
  refine ⟨(by show 20 ≤ sizeLine; decide), fun L nL => ?_⟩
  have qL := same_new nL (.lst [.non, .bl true, .bl false, .int (-1), .int 0, .int 1, .int 12, .int ((10 : Int) ^ Int.toNat 29), .str "", .str "a", .str "l", .str "A", .str "ab", .ref p1, .ref p2, .ref p3, .ref p4, .ref p5, .ref p7, .ref p9]); have dL := d9.same qL
  have a1 := dq_newT d0 n1 .nil
  have a2 := dq_newL d1 n2 .nil
  have a3 := dq_newE d2 n3
  have a4 := dq_newT d3 n4 (.cons (.int 0) .nil)
  have a5 := dq_newL d4 n5 (.cons (.int 0) .nil)
  have a6 := dq_newL d5 n6 (.cons (.int 0) .nil)
  have a7 := dq_newT d6 n7 (.cons a6 .nil)
  have a8 := dq_newE d7 n8
  have a9 := dq_newT d8 n9 (.cons a8 .nil)
  refine ⟨_, rfl, (by show 3 ≤ sizeLine; decide), fun p10 n10 => ?_⟩
  have q10 := same_new n10 (.tup [.non, .str "a", .non]); have d10 := dL.same q10
  refine ⟨(by show 2 ≤ sizeLine; decide), fun p11 n11 => ?_⟩
  have q11 := same_new n11 (.tup [.non, .str "a"]); have d11 := d10.same q11
  refine ⟨(by show 3 ≤ sizeLine; decide), fun p12 n12 => ?_⟩
  have q12 := same_new n12 (.lst [.non, .str "a", .non]); have d12 := d11.same q12
  refine ⟨(by show 4 ≤ sizeLine; decide), fun p13 n13 => ?_⟩
  have q13 := same_new n13 (.tup [.non, .str "a", .non, .non]); have d13 := d12.same q13
  refine ⟨(by show 4 ≤ sizeLine; decide), fun L2 nL2 => ?_⟩
  have qM := same_new nL2 (.lst [.ref p10, .ref p11, .ref p12, .ref p13]); have dM := d13.same qM
  have b10 := dq_newT dL n10 (.cons .non (.cons (.str "a") (.cons .non .nil)))
  have b11 := dq_newT d10 n11 (.cons .non (.cons (.str "a") .nil))
  have b12 := dq_newL d11 n12 (.cons .non (.cons (.str "a") (.cons .non .nil)))
  have b13 := dq_newT d12 n13 (.cons .non (.cons (.str "a") (.cons .non (.cons .non .nil))))
  have r13 := q13.trans qM
  have r12 := q12.trans r13
  have r11 := q11.trans r12
  have r10 := q10.trans r11
  have rL := qL.trans r10
  have r9 := q9.trans rL
  have r8 := q8.trans r9
  have r7 := q7.trans r8
  have r6 := q6.trans r7
  have r5 := q5.trans r6
  have r4 := q4.trans r5
  have r3 := q3.trans r4
  have r2 := q2.trans r3
  have r1 := q1.trans r2
  refine ⟨L, L2, _, _, rfl, rfl, r10 _ _ upd_same, upd_same, (by show 24 ≤ sizeLine; decide), fun L3 nL3 => ?_⟩
  have qN := same_new nL3 (.lst ([.non, .bl true, .bl false, .int (-1), .int 0, .int 1, .int 12, .int ((10 : Int) ^ Int.toNat 29), .str "", .str "a", .str "l", .str "A", .str "ab", .ref p1, .ref p2, .ref p3, .ref p4, .ref p5, .ref p7, .ref p9] ++ [.ref p10, .ref p11, .ref p12, .ref p13]))
  have dN := dM.same qN
  have oN := dM.new nL3
  have sall := SameD.of (D := D) (r1.trans qN)
  have dall : DQAll D _ ([.non, .bl true, .bl false, .int (-1), .int 0, .int 1, .int 12, .int ((10 : Int) ^ Int.toNat 29), .str "", .str "a", .str "l", .str "A", .str "ab", .ref p1, .ref p2, .ref p3, .ref p4, .ref p5, .ref p7, .ref p9] ++ [.ref p10, .ref p11, .ref p12, .ref p13]) odds :=
    .cons .non (.cons (.bl true) (.cons (.bl false) (.cons (.int _) (.cons (.int _) (.cons (.int _) (.cons (.int _) (.cons (.int _) (.cons (.str _) (.cons (.str _) (.cons (.str _) (.cons (.str _) (.cons (.str _)
      (.cons (dq_same (r2.trans qN) a1) (.cons (dq_same (r3.trans qN) a2) (.cons (dq_same (r4.trans qN) a3) (.cons (dq_same (r5.trans qN) a4) (.cons (dq_same (r6.trans qN) a5) (.cons (dq_same (r8.trans qN) a7) (.cons (dq_same (rL.trans qN) a9)
      (.cons (dq_same (r11.trans qN) b10) (.cons (dq_same (r12.trans qN) b11) (.cons (dq_same (r13.trans qN) b12) (.cons (dq_same (qM.trans qN) b13) .nil)))))))))))))))))))))))
  refine ⟨_, rfl, D, n, 24, rfl, dN, hn, by decide, by decide, fun i H' i0 i1 d' s' => ?_⟩
  have hlen := dqAll_len dall
  obtain ⟨v, hv⟩ : ∃ v, ([.non, .bl true, .bl false, .int (-1), .int 0, .int 1, .int 12, .int ((10 : Int) ^ Int.toNat 29), .str "", .str "a", .str "l", .str "A", .str "ab", .ref p1, .ref p2, .ref p3, .ref p4, .ref p5, .ref p7, .ref p9] ++ [.ref p10, .ref p11, .ref p12, .ref p13] : List V)[i.toNat]? = some v :=
    ⟨_, List.getElem?_eq_getElem (by show i.toNat < 24; omega)⟩
  obtain ⟨d, ed, hd⟩ := dqAll_get dall hv
  have ok := List.all_eq_true.mp odds_ok d (List.mem_of_getElem? ed)
  simp only [Bool.and_eq_true, decide_eq_true_eq] at ok
  have ei : i = ((i.toNat : Nat) : Int) := by omega
  refine ⟨L3, _, _, v, rfl, rfl, SqL.of (s'.at oN upd_same), by rw [ei]; exact atI_nat hv, ?_⟩
  exact q v H' d' (sall.trans s') ⟨d, dq_sameD s' hd, ok.1.1, ok.1.2, ok.2⟩
end

/-! ### t != () -/
theorem op_neE {X : Cx} (hu : X.A.units < cLine) : OpR X (compareOp .NotEq) (fun x y H Q => ∃ a b xs, x = .ref a ∧ y = .ref b ∧ SqT X.K H a xs ∧ SqT X.K H b [] ∧ Q (.bl (!xs.isEmpty)) H) := by
  intro pins s σ H x y v u Q I rx ry h
  obtain ⟨a, b, xs, rfl, rfl, hx, hy, q⟩ := h
  cases rx
  cases ry
  obtain ⟨its, r1, t1, _⟩ := I.tuple hx
  obtain ⟨its2, r2, t2, _⟩ := I.tuple hy
  cases r2
  have rc := SeqAt.RcNeAt.tuples (A := X.A) (s := s) (items := its.toArray) (items2 := ([] : List Value).toArray) (e := fun _ => true) t1 t2 hu (fun j _ h2 => absurd h2 (by simp))
  refine rc X.prog X.w X.xe _ ?_
  have e : (!((List.range (min its.toArray.size ([] : List Value).toArray.size)).all (fun _ => true) && its.toArray.size == ([] : List Value).toArray.size)) = !xs.isEmpty := by
    cases r1 with
    | nil => rfl
    | cons _ _ => simp
  rw [e]
  exact ⟨.bl _, H, I, rfl, q⟩
theorem cut_whole {xs : List V} {lo hi : Option Int} (h : HT.sIx xs.length 0 lo = 0 ∧ HT.sIx xs.length xs.length hi = xs.length) : cutV xs lo hi = xs := by
  unfold cutV
  rw [h.1, h.2, List.drop_zero, Nat.sub_zero, List.take_length]
theorem slA_of {K : PySem.W.Frag} {D : Deck} {H : Hp} {n : Nat} (dk : DeckOk H D n) {a : Addr} {xs : List V} {lo hi : Option Int} {Q : VK} (hx : H a = some (.tup xs)) (oa : Off D a)
    (q : ∀ (p : Addr) (H' : Hp), Same H H' → H' p = some (.tup (cutV xs lo hi)) → Off D p → Q (.ref p) H') : rSlA K (.ref a) lo hi H Q :=
  ⟨a, xs, rfl, SqT.of hx, fun hw => q a H (Same.refl H) (by rw [cut_whole hw]; exact hx) oa, fun _ p np => q p _ (same_new np _) upd_same (dk.new np)⟩
theorem catA_of {K : PySem.W.Frag} {D : Deck} {H : Hp} {n : Nat} (dk : DeckOk H D n) {a b : Addr} {xs ys : List V} {Q : VK} (hx : H a = some (.tup xs)) (oa : Off D a) (hy : H b = some (.tup ys)) (ob : Off D b) (hz : xs.length + ys.length ≤ sizeLine)
    (q : ∀ (p : Addr) (H' : Hp), Same H H' → H' p = some (.tup (xs ++ ys)) → Off D p → Q (.ref p) H') : rCatA K (.ref a) (.ref b) H Q :=
  ⟨a, b, xs, ys, rfl, rfl, SqT.of hx, SqT.of hy, hz, fun e => q b H (Same.refl H) (by rw [e]; exact hy) ob, fun _ e => q a H (Same.refl H) (by rw [e, List.append_nil]; exact hx) oa, fun _ _ p np => q p _ (same_new np _) upd_same (dk.new np)⟩
/-! ### weights of changed tuples -/
theorem wts_app : ∀ a b : List PyData, wts (a ++ b) = wts a + wts b
  | [], b => by simp only [List.nil_append, wts, Nat.zero_add]
  | d :: a, b => by
    have h := wts_app a b
    simp only [List.cons_append, wts, h]
    omega
theorem wts_take : ∀ (a : List PyData) (k : Nat), wts (a.take k) + wts (a.drop k) = wts a := fun a k => by
  rw [← wts_app, List.take_append_drop]
theorem depthAll_app : ∀ a b : List PyData, PyData.depthAll (a ++ b) = max (PyData.depthAll a) (PyData.depthAll b)
  | [], b => by simp only [List.nil_append, PyData.depthAll]; omega
  | d :: a, b => by
    have h := depthAll_app a b
    simp only [List.cons_append, PyData.depthAll, h]
    omega
theorem depthAll_parts (a : List PyData) (k : Nat) : PyData.depthAll (a.take k) ≤ PyData.depthAll a ∧ PyData.depthAll (a.drop k) ≤ PyData.depthAll a := by
  have h := depthAll_app (a.take k) (a.drop k)
  rw [List.take_append_drop] at h
  omega
theorem gds_parts {a : List PyData} (k : Nat) (h : gds a = true) : gds (a.take k) = true ∧ gds (a.drop k) = true := by
  rw [← List.take_append_drop k a, gds_app, Bool.and_eq_true] at h
  exact h
theorem rev_ok : ∀ a : List PyData, wts a.reverse = wts a ∧ PyData.depthAll a.reverse = PyData.depthAll a ∧ gds a.reverse = gds a
  | [] => ⟨rfl, rfl, rfl⟩
  | d :: a => by
    obtain ⟨h1, h2, h3⟩ := rev_ok a
    rw [List.reverse_cons, wts_app, depthAll_app, gds_app, h1, h2, h3]
    simp only [wts, PyData.depthAll, gds, Bool.and_true]
    refine ⟨by omega, by omega, Bool.and_comm _ _⟩
theorem wts_len : ∀ a : List PyData, 2 * a.length ≤ wts a
  | [] => Nat.zero_le _
  | d :: a => by
    have h := wts_len a
    simp only [wts, List.length_cons]
    omega
theorem dqAll_take {D : Deck} {H : Hp} : ∀ {vs : List V} {ds : List PyData} (k : Nat), DQAll D H vs ds → DQAll D H (vs.take k) (ds.take k) ∧ DQAll D H (vs.drop k) (ds.drop k)
  | _, _, 0, h => ⟨.nil, h⟩
  | _, _, _ + 1, .nil => ⟨.nil, .nil⟩
  | _, _, k + 1, .cons h a => ⟨.cons h (dqAll_take k a).1, (dqAll_take k a).2⟩
theorem dqAll_rev {D : Deck} {H : Hp} : ∀ {vs : List V} {ds : List PyData}, DQAll D H vs ds → DQAll D H vs.reverse ds.reverse
  | _, _, .nil => .nil
  | _, _, .cons h a => by
    rw [List.reverse_cons, List.reverse_cons]
    exact dqAll_app (dqAll_rev a) (.cons h .nil)
theorem wt_get : ∀ {ds : List PyData} {i : Nat} {d : PyData}, ds[i]? = some d → wt d + 2 + wts (ds.take i) + wts (ds.drop (i + 1)) = wts ds
  | [], _, _, h => by simp at h
  | x :: xs, 0, _, h => by
    cases h
    simp only [List.take_zero, wts, List.drop_succ_cons, List.drop_zero, Nat.add_zero]
  | x :: xs, i + 1, d, h => by
    have := wt_get (ds := xs) (i := i) h
    simp only [List.take_succ_cons, wts, List.drop_succ_cons]
    omega
theorem gd_get : ∀ {ds : List PyData} {i : Nat} {d : PyData}, ds[i]? = some d → gds ds = true → gd d = true
  | [], _, _, h, _ => by simp at h
  | x :: xs, 0, _, h, k => by
    cases h
    simp only [gds, Bool.and_eq_true] at k
    exact k.1
  | x :: xs, i + 1, d, h, k => by
    simp only [gds, Bool.and_eq_true] at k
    exact gd_get (ds := xs) (i := i) h k.2

/-! ### _law_bent -/
theorem at_at {xs : List V} {i : Int} {v : V} (h0 : 0 ≤ i) (h : xs[i.toNat]? = some v) : atI xs i = some v := by
  have e : i = ((i.toNat : Nat) : Int) := by omega
  rw [e]
  exact atI_nat h
theorem scBent : FnScope ["_law_deck_here", "_law_value", "_law_k", "_law_course"] ["_law_deck_here", "_law_value"] (defScope sBent) := ⟨rfl, rfl, rfl, by decide +kernel, rfl, by decide +kernel, by decide +kernel⟩
def spBent (N : Nat) : Sp := fun vs H Q _ => ∃ (D : Deck) (n : Nat) (v : V) (d : PyData), vs = [.ref D.dk, v] ∧ DeckOk H D n ∧ n + 2 * d.depth + 10 ≤ 1000000 ∧ DQ D H v d ∧ gd d = true ∧ wt d ≤ 1200 ∧ d.depth < N ∧
  ∀ (v' : V) (n' : Nat) (H' : Hp), DeckOk H' D n' → n' ≤ n + 2 * d.depth + 3 → SameD D H H' → Gd D H' (2 * wt d + 250) (d.depth + 2) v' → Q v' H'
section
variable {P : Program} {w : World} {K : PySem.W.Frag} {mg : Str → Option Value} {base : Heap} {f fN fO : Addr} {fd fdN fdO : FuncData}
theorem ok_bent (F : Fun K "_law_bent" "_law_bent" sBent f fd) (b : Binds K fd ["_law_deck_here", "_law_value"] []) (g0 : mg "_law_bent" = some (.ref f))
    (GN : FnOk P w K mg base CX0 1 fN fdN ["_law_deck_here", "_law_many"] spNext) (bN : Binds K fdN ["_law_deck_here", "_law_many"] []) (kN : PySem.W.keepIn K (.ref fN) = true) (gN : mg "_law_next" = some (.ref fN))
    (GO : FnOk P w K mg base CX0 2 fO fdO ["_law_deck_here"] spOdd) (bO : Binds K fdO ["_law_deck_here"] []) (kO : PySem.W.keepIn K (.ref fO) = true) (gO : mg "_law_odd" = some (.ref fO)) (M : Mgs mg) :
    ∀ n : Nat, FnOk P w K mg base CX0 (n + 2) f fd ["_law_deck_here", "_law_value"] (spBent n)
  | 0 => by
    have no : ∀ vs H Q E, ¬ spBent 0 vs H Q E := fun vs H Q E h => by
      obtain ⟨D, n, v, d, _, _, _, _, _, _, h1, _⟩ := h
      omega
    exact ⟨fun vs H Q E h => absurd h (no vs H Q E), fun A outer s H args us vs Q E _ _ _ _ h => absurd h (no vs H Q E)⟩
  | N + 1 => by
    have G := ok_bent F b g0 GN bN kN gN GO bO kO gO M N
    refine F.ok scBent (fun vs H Q E h => ?_) (fun cdv A outer s H vs Q E hr h => ?_)
    · obtain ⟨D, n, v, d, rfl, _⟩ := h
      rfl
    obtain ⟨D, n, v, d, rfl, dk, hn, hd, g, hw, hN, q⟩ := h
    have hr1 : Room 1 (A.deeper (envOfC "_law_bent" (defScope sBent) s.heap.objs.size f cdv)) := hr.mono (by omega)
    have hr2 : Room 2 (A.deeper (envOfC "_law_bent" (defScope sBent) s.heap.objs.size f cdv)) := hr.mono (by omega)
    have hu := hr.units
    have bi : bootBuiltins "isinstance" = some (.builtin "isinstance") := by decide +kernel
    have big : (100000 : Nat) ≤ sizeLine := by decide
    refine ⟨_, pss_cons (ps_if (PW.pt (pw_and (pt_val (pe_callB call_isi rfl M.isi bi (pa_cons (pv 1) (pa_cons (pe_bltn (v := .ty "tuple") rfl M.tuple (by decide +kernel) rfl) pa_nil))))
          (pw_and (pt_cmpR (op_neE hr.units0) (pv 1) (pe_tup pa_nil) (nomark _)) (pw_and1 (pt_cmpR op_gt (pe_call GN hr1 rfl gN kN bN .nil pass0 (pa_cons (pv 0) (pa_cons pe_int pa_nil))) pe_int (nomark _))))))
        (pss_cons (ps_set (i := 2) scBent.nd rfl (.inl rfl) (pe_call GN hr1 rfl gN kN bN .nil pass0 (pa_cons (pv 0) (pa_cons (pe_callB call_len_seq rfl M.len PySem.boot_len (pa_cons (pv 1) pa_nil)) pa_nil))))
        (pss_one (ps_ret (pe_op op_catA (pe_op op_catA (pe_slice sl_tupA (pv 1) po_none (po_some (pv 2))) (pe_tup (pa_cons (pe_call G hr rfl g0 F.kp b .nil pass0 (pa_cons (pv 0) (pa_cons (pe_ix ix_tup (pv 1) (pv 2) (fun _ _ => rfl)) pa_nil))) pa_nil))) (pe_slice sl_tupA (pv 1) (po_some (pe_op op_add (pv 2) pe_int)) po_none))))) pss_nil)
      (pss_cons (ps_set (i := 3) scBent.nd rfl (.inl rfl) (pe_call GN hr1 rfl gN kN bN .nil pass0 (pa_cons (pv 0) (pa_cons pe_int pa_nil))))
      (pss_cons (ps_if (PW.pt (pw_and (pt_val (pe_callB call_isi rfl M.isi bi (pa_cons (pv 1) (pa_cons (pe_bltn (v := .ty "tuple") rfl M.tuple (by decide +kernel) rfl) pa_nil)))) (pw_and1 (pt_cmpR op_lt (pv 3) pe_int (nomark _)))))
        (pss_one (ps_ret (pe_ix ix_list (pe_lst (pa_cons (pe_callTy call_list_of rfl M.list (by decide +kernel) (pa_cons (pv 1) pa_nil)) (pa_cons (pe_slice sl_tupA (pv 1) (po_some pe_int) po_none) (pa_cons (pe_op op_catA (pv 1) (pe_slice sl_tupA (pv 1) po_none (po_some pe_int))) (pa_cons (pe_revT (pv 1)) pa_nil))))) (pv 3) (fun _ _ => rfl)))) pss_nil)
      (pss_one (ps_ret (pe_call GO hr2 rfl gO kO bO .nil pass0 (pa_cons (pv 0) pa_nil)))))), ?_⟩
    refine ⟨_, rfl, _, _, _, _, isTupD d, rfl, .ty _, dq_ty hd, kit_ty (kit_tup d), _, rfl, ?_⟩
    have odd : ∀ (H1 : Hp) (n1 : Nat), DeckOk H1 D n1 → n1 ≤ n + 2 → SameD D H H1 → ∀ (v' : V) (H' : Hp), DeckOk H' D (n1 + 1) → SameD D H1 H' → Gd D H' 200 2 v' → Q v' H' := fun H1 n1 d1 h1 s1 v' H' d' s' gv => q v' (n1 + 1) H' d' (by omega) (s1.trans s') (gv.mono (by omega) (by omega))
    have hd0 := hd
    cases hd with
    | @tup a xs ds o e al =>
      refine iteT ?_
      have hl := dqAll_len al
      simp only [wt] at hw
      have hwl := wts_len ds
      simp only [gd] at g
      refine ⟨_, rfl, (by show 0 ≤ sizeLine; decide), fun e0 ne0 => ?_⟩
      have qe := same_new ne0 (.tup [])
      have de := dk.same qe
      have ee := qe _ _ e
      refine ⟨a, e0, xs, rfl, rfl, SqT.of ee, SqT.of upd_same, _, rfl, ?_⟩
      generalize upd H e0 (.tup []) = H0 at qe de ee ⊢
      have rest0 : ∀ (H2 : Hp) (n2 : Nat), DeckOk H2 D n2 → n2 ≤ n + 2 → SameD D H H2 → ∀ (L : Addr) (p0 p1 p3 p4 : Addr) (i : Int), 0 ≤ i → i < 4 → H2 L = some (.lst [.ref p0, .ref p1, .ref p3, .ref p4]) → DQ D H2 (.ref p0) (.list ds) → DQ D H2 (.ref p1) (.tuple (ds.drop 1)) → DQ D H2 (.ref p3) (.tuple (ds ++ ds.take 1)) → DQ D H2 (.ref p4) (.tuple ds.reverse) →
          ∃ v', atI [V.ref p0, V.ref p1, V.ref p3, V.ref p4] i = some v' ∧ Q v' H2 := by
        intro H2 n2 d2 hn2 s2 L p0 p1 p3 p4 i i0 i1 eL f0 f1 f3 f4
        obtain ⟨r1, r2, r3⟩ := rev_ok ds
        have t1 := wts_take ds 1
        have t2 := depthAll_parts ds 1
        have t3 := gds_parts 1 g
        have fin : ∀ (v' : V) (d' : PyData), DQ D H2 v' d' → gd d' = true → wt d' ≤ 2 * (3 + wts ds) + 250 → d'.depth ≤ (PyData.tuple ds).depth + 2 → Q v' H2 := fun v' d' h1 h2 h3 h4 => q v' n2 H2 d2 (by omega) s2 ⟨d', h1, h2, by simp only [wt]; exact h3, h4⟩
        have h : i = ((0 : Nat) : Int) ∨ i = ((1 : Nat) : Int) ∨ i = ((2 : Nat) : Int) ∨ i = ((3 : Nat) : Int) := by omega
        rcases h with rfl | rfl | rfl | rfl
        · exact ⟨_, atI_nat rfl, fin _ _ f0 (by simp only [gd]; exact g) (by simp only [wt]; omega) (by simp only [PyData.depth]; omega)⟩
        · exact ⟨_, atI_nat rfl, fin _ _ f1 (by simp only [gd]; exact t3.2) (by simp only [wt]; omega) (by simp only [PyData.depth]; omega)⟩
        · exact ⟨_, atI_nat rfl, fin _ _ f3 (by simp only [gd]; rw [gds_app, g, t3.1]; rfl) (by simp only [wt]; rw [wts_app]; omega) (by simp only [PyData.depth]; rw [depthAll_app]; omega)⟩
        · exact ⟨_, atI_nat rfl, fin _ _ f4 (by simp only [gd]; rw [r3]; exact g) (by simp only [wt]; rw [r1]; omega) (by simp only [PyData.depth]; rw [r2]; omega)⟩
      by_cases hxs : xs = []
      rotate_left
      · have he : xs.isEmpty = false := by cases xs <;> first | rfl | exact absurd rfl hxs
        rw [he]
        refine iteT ?_
        have x1 : 1 ≤ xs.length := by
          cases xs with
          | nil => exact absurd rfl hxs
          | cons _ _ => exact Nat.succ_pos _
        refine ⟨_, rfl, D, n, 3, rfl, de, by omega, by decide, by decide, fun i H1 i0 i1 d1 s1' => ?_⟩
        have s1 := (SameD.of qe).trans s1'
        have e1 := s1.at o e
        refine ⟨_, _, rfl, rfl, _, rfl, ite2 (fun _ => ?_) (fun _ => ?_)⟩
        · -- one part of it
          refine ⟨_, rfl, _, rfl, a, xs, rfl, .inr (SqT.of e1), D, n + 1, _, rfl, d1, by omega, by omega, by omega, fun j H2 j0 j1 d2 s2 => ?_⟩
          have e2 := s2.at o e1
          have hj : j.toNat < xs.length := by omega
          have ej : j = ((j.toNat : Nat) : Int) := by omega
          obtain ⟨dj, edj, hdj⟩ := dqAll_get al (List.getElem?_eq_getElem hj)
          have wj := wt_get edj
          have gj := gd_get edj g
          have pj := depth_get edj
          simp only [PyData.depth] at hN hn q
          refine ⟨_, rfl, _, rfl, j, rfl, slA_of d2 e2 o fun p1 H3 t3 x1' o1 => ?_⟩
          rw [ej, cut_to] at x1'
          have d3 := d2.same t3
          refine ⟨_, rfl, _, rfl, _, rfl, a, xs, j, xs[j.toNat], rfl, rfl, SqT.of (t3 _ _ e2), at_at j0 (List.getElem?_eq_getElem hj), ?_⟩
          have s3 := s1.trans (s2.trans (SameD.of t3))
          refine ⟨D, n + 1 + 1, xs[j.toNat], dj, rfl, d3, by omega, dq_sameD s3 hdj, gj, by omega, by omega, fun v' n' H4 d4 hn' s4 gv => ?_⟩
          obtain ⟨d', hd', gd', wd', pd'⟩ := gv
          refine ⟨(by show 1 ≤ sizeLine; decide), fun p2 np2 => ?_⟩
          have q2 := same_new np2 (.tup [v'])
          have d5 := d4.same q2
          have o2 := d4.new np2
          have k1 : (xs.take j.toNat).length ≤ xs.length := by rw [List.length_take]; omega
          refine catA_of d5 (q2 _ _ (s4.at o1 x1')) o1 upd_same o2 (by show (xs.take j.toNat).length + 1 ≤ sizeLine; omega) fun p3 H6 t6 x3 o3 => ?_
          have d6 := d5.same t6
          have s6 := s3.trans (s4.trans (SameD.of (q2.trans t6)))
          have e6 := s6.at o e
          refine ⟨_, rfl, _, rfl, _, _, rfl, rfl, _, rfl, ?_⟩
          dsimp only [tNoPart]
          refine slA_of d6 e6 o fun p4 H7 t7 x4 o4 => ?_
          rw [show cutV xs (some (j + 1)) none = xs.drop (j.toNat + 1) by rw [show j + 1 = ((j.toNat + 1 : Nat) : Int) by omega, cut_from]] at x4
          have d7 := d6.same t7
          have k2 : (xs.drop (j.toNat + 1)).length ≤ xs.length := by rw [List.length_drop]; omega
          refine catA_of d7 (t7 _ _ x3) o3 x4 o4 (by rw [List.length_append]; show (xs.take j.toNat).length + 1 + _ ≤ sizeLine; omega) fun p5 H8 t8 x5 o5 => ?_
          have s8 := s6.trans (SameD.of (t7.trans t8))
          have al8 := dqAll_sameD s8 al
          have parts := dqAll_take j.toNat al8
          have parts2 := dqAll_take (j.toNat + 1) al8
          have hv8 : DQ D H8 v' d' := dq_same ((q2.trans t6).trans (t7.trans t8)) hd'
          have f5 : DQ D H8 (.ref p5) (.tuple ((ds.take j.toNat ++ [d']) ++ ds.drop (j.toNat + 1))) := .tup o5 x5 (dqAll_app (dqAll_app parts.1 (.cons hv8 .nil)) parts2.2)
          have u1 := depthAll_parts ds j.toNat
          have u2 := depthAll_parts ds (j.toNat + 1)
          have u3 := gds_parts j.toNat g
          have u4 := gds_parts (j.toNat + 1) g
          refine q _ n' H8 (d7.same t8) (by omega) s8 ⟨_, f5, ?_, ?_, ?_⟩
          · simp only [gd]
            rw [gds_app, gds_app, u3.1, u4.2]
            simp only [gds, gd', Bool.and_self]
          · simp only [wt]
            rw [wts_app, wts_app]
            simp only [wts]
            omega
          · simp only [PyData.depth]
            rw [depthAll_app, depthAll_app]
            simp only [PyData.depthAll]
            omega
        · have hn1 : n + 1 ≤ n + 1 := Nat.le_refl _
          refine ⟨_, rfl, D, _, 6, rfl, d1, by omega, by decide, by decide, fun i H2 i0 i1 d2 s2 => ?_⟩
          have e2 := s2.at o e1
          have s12 := s1.trans s2
          have al2 := dqAll_sameD s12 al
          refine ⟨_, rfl, _, _, _, _, true, rfl, .ty _, dq_ty (DQ.tup o e2 al2), kit_ty (by simp only [tyD]; decide +kernel), _, rfl, iteT ?_⟩
          refine ⟨_, rfl, _, _, rfl, rfl, _, rfl, ite2 (fun c => ?_) (fun c => ?_)⟩
          · have c' : i < 4 := of_decide_eq_true c
            refine ⟨_, rfl, a, xs, rfl, .inr (SqT.of e2), fun pl nl => ?_⟩
            have ql := same_new nl (.lst xs)
            have d3 := d2.same ql
            have f0 := dq_newL d2 nl al2
            refine ⟨_, rfl, 1, rfl, ?_⟩
            dsimp only [tNoPart]
            refine slA_of d3 (ql _ _ e2) o fun p1 H3 t3 x1 o1 => ?_
            rw [show cutV xs (some 1) none = xs.drop 1 from cut_from xs 1] at x1
            have d4 := d3.same t3
            have e4 := t3 _ _ (ql _ _ e2)
            refine ⟨_, rfl, _, rfl, 1, rfl, slA_of d4 e4 o fun p2 H4 t4 x2 o2 => ?_⟩
            rw [show cutV xs none (some 1) = xs.take 1 from cut_to xs 1] at x2
            have d5 := d4.same t4
            have e5 := t4 _ _ e4
            refine catA_of d5 e5 o x2 o2 (by rw [List.length_take]; omega) fun p3 H5 t5 x3 o3 => ?_
            have d6 := d5.same t5
            have e6 := t5 _ _ e5
            refine ⟨_, rfl, a, xs, rfl, SqT.of e6, fun p4 np4 => ?_⟩
            have q4 := same_new np4 (.tup xs.reverse)
            have d7 := d6.same q4
            have al6 := dqAll_sameD (SameD.of (D := D) (((ql.trans t3).trans t4).trans t5)) al2
            have f4 := dq_newT d6 np4 (dqAll_rev al6)
            refine ⟨(by show 4 ≤ sizeLine; decide), fun L nL => ?_⟩
            have qL := same_new nL (.lst [.ref pl, .ref p1, .ref p3, .ref p4])
            have alx := fun (X' : Hp) (z : SameD D H2 X') => dqAll_sameD z al2
            have g1 := SameD.of (D := D) (ql.trans t3)
            have g3 := g1.trans (SameD.of (t4.trans t5))
            have f1 : DQ D H3 (.ref p1) (.tuple (ds.drop 1)) := .tup o1 x1 (dqAll_take 1 (alx _ g1)).2
            have f3 : DQ D H5 (.ref p3) (.tuple (ds ++ ds.take 1)) := .tup o3 x3 (dqAll_app (alx _ g3) (dqAll_take 1 (alx _ g3)).1)
            have z4 := q4.trans qL
            have z3 := t5.trans z4
            have z1 := (t4.trans t5).trans z4
            have z0 := t3.trans z1
            obtain ⟨v', hv, fin⟩ := rest0 _ _ (d7.same qL) (by omega) (s12.trans (g3.trans (SameD.of z4))) L pl p1 p3 p4 i i0 c' upd_same (dq_same z0 f0) (dq_same z1 f1) (dq_same z4 f3) (dq_same qL f4)
            exact ⟨_, rfl, L, _, i, v', rfl, rfl, SqL.of upd_same, hv, fin⟩
          · exact ⟨_, rfl, D, _, rfl, d2, by omega, odd _ _ d2 (by omega) s12⟩
      · have he : xs.isEmpty = true := by rw [hxs]; rfl
        rw [he]
        refine iteF ?_
        have s1 := SameD.of (D := D) qe
        have e1 := ee
        have d1 := de
        have hn1 : n ≤ n + 1 := Nat.le_succ _
        refine ⟨_, rfl, D, _, 6, rfl, d1, by omega, by decide, by decide, fun i H2 i0 i1 d2 s2 => ?_⟩
        have e2 := s2.at o e1
        have s12 := s1.trans s2
        have al2 := dqAll_sameD s12 al
        refine ⟨_, rfl, _, _, _, _, true, rfl, .ty _, dq_ty (DQ.tup o e2 al2), kit_ty (by simp only [tyD]; decide +kernel), _, rfl, iteT ?_⟩
        refine ⟨_, rfl, _, _, rfl, rfl, _, rfl, ite2 (fun c => ?_) (fun c => ?_)⟩
        · have c' : i < 4 := of_decide_eq_true c
          refine ⟨_, rfl, a, xs, rfl, .inr (SqT.of e2), fun pl nl => ?_⟩
          have ql := same_new nl (.lst xs)
          have d3 := d2.same ql
          have f0 := dq_newL d2 nl al2
          refine ⟨_, rfl, 1, rfl, ?_⟩
          dsimp only [tNoPart]
          refine slA_of d3 (ql _ _ e2) o fun p1 H3 t3 x1 o1 => ?_
          rw [show cutV xs (some 1) none = xs.drop 1 from cut_from xs 1] at x1
          have d4 := d3.same t3
          have e4 := t3 _ _ (ql _ _ e2)
          refine ⟨_, rfl, _, rfl, 1, rfl, slA_of d4 e4 o fun p2 H4 t4 x2 o2 => ?_⟩
          rw [show cutV xs none (some 1) = xs.take 1 from cut_to xs 1] at x2
          have d5 := d4.same t4
          have e5 := t4 _ _ e4
          refine catA_of d5 e5 o x2 o2 (by rw [List.length_take]; omega) fun p3 H5 t5 x3 o3 => ?_
          have d6 := d5.same t5
          have e6 := t5 _ _ e5
          refine ⟨_, rfl, a, xs, rfl, SqT.of e6, fun p4 np4 => ?_⟩
          have q4 := same_new np4 (.tup xs.reverse)
          have d7 := d6.same q4
          have al6 := dqAll_sameD (SameD.of (D := D) (((ql.trans t3).trans t4).trans t5)) al2
          have f4 := dq_newT d6 np4 (dqAll_rev al6)
          refine ⟨(by show 4 ≤ sizeLine; decide), fun L nL => ?_⟩
          have qL := same_new nL (.lst [.ref pl, .ref p1, .ref p3, .ref p4])
          have alx := fun (X' : Hp) (z : SameD D H2 X') => dqAll_sameD z al2
          have g1 := SameD.of (D := D) (ql.trans t3)
          have g3 := g1.trans (SameD.of (t4.trans t5))
          have f1 : DQ D H3 (.ref p1) (.tuple (ds.drop 1)) := .tup o1 x1 (dqAll_take 1 (alx _ g1)).2
          have f3 : DQ D H5 (.ref p3) (.tuple (ds ++ ds.take 1)) := .tup o3 x3 (dqAll_app (alx _ g3) (dqAll_take 1 (alx _ g3)).1)
          have z4 := q4.trans qL
          have z3 := t5.trans z4
          have z1 := (t4.trans t5).trans z4
          have z0 := t3.trans z1
          obtain ⟨v', hv, fin⟩ := rest0 _ _ (d7.same qL) (by omega) (s12.trans (g3.trans (SameD.of z4))) L pl p1 p3 p4 i i0 c' upd_same (dq_same z0 f0) (dq_same z1 f1) (dq_same z4 f3) (dq_same qL f4)
          exact ⟨_, rfl, L, _, i, v', rfl, rfl, SqL.of upd_same, hv, fin⟩
        · exact ⟨_, rfl, D, _, rfl, d2, by omega, odd _ _ d2 (by omega) s12⟩
    | non =>
      refine iteF ?_
      refine ⟨_, rfl, D, n, 6, rfl, dk, by omega, by decide, by decide, fun i H1 i0 i1 d1 s1 => ?_⟩
      refine ⟨_, rfl, _, _, _, _, false, rfl, .ty _, dq_ty (dq_sameD s1 hd0), kit_ty (by simp only [tyD]; decide +kernel), _, rfl, iteF (iteF ?_)⟩
      exact ⟨_, rfl, D, n + 1, rfl, d1, by omega, odd H1 (n + 1) d1 (by omega) s1⟩
    | bl _ =>
      refine iteF ?_
      refine ⟨_, rfl, D, n, 6, rfl, dk, by omega, by decide, by decide, fun i H1 i0 i1 d1 s1 => ?_⟩
      refine ⟨_, rfl, _, _, _, _, false, rfl, .ty _, dq_ty (dq_sameD s1 hd0), kit_ty (by simp only [tyD]; decide +kernel), _, rfl, iteF (iteF ?_)⟩
      exact ⟨_, rfl, D, n + 1, rfl, d1, by omega, odd H1 (n + 1) d1 (by omega) s1⟩
    | int _ =>
      refine iteF ?_
      refine ⟨_, rfl, D, n, 6, rfl, dk, by omega, by decide, by decide, fun i H1 i0 i1 d1 s1 => ?_⟩
      refine ⟨_, rfl, _, _, _, _, false, rfl, .ty _, dq_ty (dq_sameD s1 hd0), kit_ty (by simp only [tyD]; decide +kernel), _, rfl, iteF (iteF ?_)⟩
      exact ⟨_, rfl, D, n + 1, rfl, d1, by omega, odd H1 (n + 1) d1 (by omega) s1⟩
    | str _ =>
      refine iteF ?_
      refine ⟨_, rfl, D, n, 6, rfl, dk, by omega, by decide, by decide, fun i H1 i0 i1 d1 s1 => ?_⟩
      refine ⟨_, rfl, _, _, _, _, false, rfl, .ty _, dq_ty (dq_sameD s1 hd0), kit_ty (by simp only [tyD]; decide +kernel), _, rfl, iteF (iteF ?_)⟩
      exact ⟨_, rfl, D, n + 1, rfl, d1, by omega, odd H1 (n + 1) d1 (by omega) s1⟩
    | lst _ _ _ =>
      refine iteF ?_
      refine ⟨_, rfl, D, n, 6, rfl, dk, by omega, by decide, by decide, fun i H1 i0 i1 d1 s1 => ?_⟩
      refine ⟨_, rfl, _, _, _, _, false, rfl, .ty _, dq_ty (dq_sameD s1 hd0), kit_ty (by simp only [tyD]; decide +kernel), _, rfl, iteF (iteF ?_)⟩
      exact ⟨_, rfl, D, n + 1, rfl, d1, by omega, odd H1 (n + 1) d1 (by omega) s1⟩
    | emp _ _ =>
      refine iteF ?_
      refine ⟨_, rfl, D, n, 6, rfl, dk, by omega, by decide, by decide, fun i H1 i0 i1 d1 s1 => ?_⟩
      refine ⟨_, rfl, _, _, _, _, false, rfl, .ty _, dq_ty (dq_sameD s1 hd0), kit_ty (by simp only [tyD]; decide +kernel), _, rfl, iteF (iteF ?_)⟩
      exact ⟨_, rfl, D, n + 1, rfl, d1, by omega, odd H1 (n + 1) d1 (by omega) s1⟩
end

/-! ### law -/
theorem scLaw : FnScope ["_law_script", "_law_deck_here", "_law_chain", "_law_other", "_law_values", "_law_k", "_law_turn", "_law_tree_here", "_law_once", "_law_value", "_law_kept", "_law_due"] ["_law_script"] (defScope sLaw) := ⟨rfl, rfl, rfl, by decide +kernel, rfl, by decide +kernel, by decide +kernel⟩
structure At (P : Program) (w : World) (K : PySem.W.Frag) (mg : Str → Option Value) (base : Heap) (k : Nat) (x : Str) (ps : List Str) (sp : Sp) : Prop where
  ex : ∃ (f : Addr) (fd : FuncData), FnOk P w K mg base CX0 k f fd ps sp ∧ Binds K fd ps [] ∧ PySem.W.keepIn K (.ref f) = true ∧ mg x = some (.ref f)
theorem gd_node {D : Deck} {H : Hp} {n W B W' B' : Nat} (dk : DeckOk H D n) {p : Addr} (np : H p = none) {a c : V} {x : Str} (ha : Gd D H W B a) (hx : gd (.str x) = true) (hc : Gd D H W' B' c) : Gd D (upd H p (.tup [a, .str x, c])) (W + W' + 31) (max B B' + 1) (.ref p) := by
  obtain ⟨d1, a1, a2, a3, a4⟩ := ha
  obtain ⟨d2, b1, b2, b3, b4⟩ := hc
  refine ⟨.tuple [d1, .str x, d2], dq_newT dk np (.cons a1 (.cons (.str x) (.cons b1 .nil))), ?_, ?_, ?_⟩
  · simp only [gd, gds] at hx ⊢
    rw [a2, b2, hx]
    rfl
  · simp only [wt, wts]
    omega
  · simp only [PyData.depth, PyData.depthAll]
    omega
theorem gd_non {D : Deck} {H : Hp} : Gd D H 4 0 .non := ⟨.none, .non, by simp only [gd], by simp only [wt]; exact Nat.le_refl _, by simp only [PyData.depth]; exact Nat.le_refl _⟩
theorem gd_ltr {x : Str} (h : Ltr x) : gd (.str x) = true := by
  obtain ⟨c, h1, h2, rfl⟩ := h
  simp only [gd, Bool.and_eq_true, decide_eq_true_eq]
  refine ⟨by show 1 ≤ 2; omega, ?_⟩
  show (decide (c < 128) && true) = true
  rw [Bool.and_true, decide_eq_true_eq]
  omega
def T.lt (t : T) : Prop := ∀ x ∈ t.btw, Ltr x
theorem T.lt_node {l r : T} {x : Str} (h : (T.node l x r).lt) : l.lt ∧ Ltr x ∧ r.lt :=
  ⟨fun y hy => h y (List.mem_append_left _ hy), h x (List.mem_append_right _ (List.mem_cons_self ..)), fun y hy => h y (List.mem_append_right _ (List.mem_cons_of_mem _ hy))⟩
theorem T.facts : ∀ t : T, t.lt → gd t.data = true ∧ wt t.data ≤ 35 * t.size + 4 ∧ t.data.depth = t.deep
  | .nil, _ => by
    simp only [T.data, gd, wt, PyData.depth, T.deep, T.size]
    exact ⟨trivial, by omega, trivial⟩
  | .node l x r, h => by
    obtain ⟨h1, h2, h3⟩ := T.lt_node h
    obtain ⟨a1, a2, a3⟩ := l.facts h1
    obtain ⟨b1, b2, b3⟩ := r.facts h3
    have c1 := gd_ltr h2
    refine ⟨?_, ?_, ?_⟩
    · simp only [T.data, gd, gds, a1, b1, Bool.and_true, Bool.true_and] at c1 ⊢
      exact c1
    · simp only [T.data, wt, wts, T.size]
      omega
    · simp only [T.data, PyData.depth, PyData.depthAll, T.deep, a3, b3]
      omega
theorem gd_s {x : Str} (h : gd (.str x) = true) {D : Deck} {H : Hp} : Gd D H 22 0 (.str x) := ⟨.str x, .str x, h, by simp only [wt]; exact Nat.le_refl _, by simp only [PyData.depth]; exact Nat.le_refl _⟩
theorem DeckOk.offT {D : Deck} {H : Hp} {n : Nat} (d : DeckOk H D n) {a : Addr} {xs : List V} (e : H a = some (.tup xs)) : Off D a := by
  obtain ⟨c, r, h1, h2, h3, _⟩ := d.ex
  exact ⟨ne_of e h1 (by intro z; cases z), ne_of e h2 (by intro z; cases z), ne_of e h3 (by intro z; cases z)⟩
def AllGd (D : Deck) (H : Hp) (vs : List V) : Prop := ∀ v ∈ vs, Gd D H 3000 40 v
theorem AllGd.sameD {D : Deck} {H H' : Hp} {vs : List V} (s : SameD D H H') (h : AllGd D H vs) : AllGd D H' vs := fun v hv => (h v hv).sameD s
theorem AllGd.app {D : Deck} {H : Hp} {a b : List V} (h : AllGd D H a) (h' : AllGd D H b) : AllGd D H (a ++ b) := fun v hv => (List.mem_append.mp hv).elim (h v) (h' v)
theorem AllGd.nil {D : Deck} {H : Hp} : AllGd D H [] := fun _ hv => nomatch hv
theorem AllGd.cons {D : Deck} {H : Hp} {v : V} {vs : List V} {W B : Nat} (h : Gd D H W B v) (hw : W ≤ 3000) (hb : B ≤ 40) (t : AllGd D H vs) : AllGd D H (v :: vs) := fun x hx => by
  rcases List.mem_cons.mp hx with rfl | z
  · exact h.mono hw hb
  · exact t x z
theorem dqAll_all {D : Deck} {H : Hp} : ∀ {vs : List V} {ds : List PyData}, DQAll D H vs ds → ds.all (fun d => gd d && decide (wt d ≤ 3000) && decide (d.depth ≤ 40)) = true → AllGd D H vs
  | _, _, .nil, _ => .nil
  | _, _, .cons h a, e => by
    simp only [List.all_cons, Bool.and_eq_true, decide_eq_true_eq] at e
    exact .cons (W := 3000) (B := 40) ⟨_, h, e.1.1.1, e.1.1.2, e.1.2⟩ (Nat.le_refl _) (Nat.le_refl _) (dqAll_all a (by simpa using e.2))
def vals0 : List PyData := [.none, .tuple [], .str "a", .tuple [.str "a"], .tuple [.none, .none, .none], .tuple [.str "a", .str "a", .str "a"], .tuple [.none, .bool true, .none], .tuple [.none, .str "a", .tuple []]]
theorem vals0_ok : vals0.all (fun d => gd d && decide (wt d ≤ 3000) && decide (d.depth ≤ 40)) = true := by decide +kernel
theorem gdz : gd (.str "z") = true := by decide +kernel
theorem gda : gd (.str "a") = true := by decide +kernel
theorem gdb : gd (.str "b") = true := by decide +kernel
theorem gdB : gd (.str "B") = true := by decide +kernel
section
variable {P : Program} {w : World} {K : PySem.W.Frag} {mg : Str → Option Value} {base : Heap} {f : Addr} {fd : FuncData}
theorem run_law {s : Shared} {H : Hp} {a : Addr} {ns : List Int} {t1 t2 t3 t4 : Tok} (F : Fun K "law" "law" sLaw f fd) (bd : BindsTo s fd ⟨[.ref a], []⟩ [("_law_script", .ref a)]) (en : Env0 P w K mg base callerA [] s H) (hS : SqL K H a (ns.map V.int))
    (M : Mgs mg) (mrepr : mg "repr" = none) (m1 : mg "MAX_NODES" = some (.int 12 t1)) (m2 : mg "MAX_ENTRIES" = some (.int 20 t2)) (m3 : mg "EDITS" = some (.int 60 t3)) (m4 : mg "BATCH" = some (.int 20 t4))
    (ADeck : At P w K mg base 1 "_law_deck" ["_law_script"] (spDeck K)) (ASame : At P w K mg base 20 "_law_same" ["_law_found", "_law_due"] (spSame K 20)) (ATree : At P w K mg base 29 "_law_tree" ["_law_deck_here", "_law_limit"] spTree)
    (ABent : At P w K mg base 32 "_law_bent" ["_law_deck_here", "_law_value"] (spBent 30)) (AOdd : At P w K mg base 2 "_law_odd" ["_law_deck_here"] spOdd) (ACount : At P w K mg base 45 "_law_count" ["_law_value"] (spCount 45)) (AIs : At P w K mg base 3 "is_tree" ["value"] spIsTree) :
    codeAny (model P w) callerA (.call (.ref f) ⟨[.ref a], []⟩) (CR CX0 [] P w H s (fun v _ => v = .bl true) fun _ _ _ => False) s := by
  obtain ⟨f1, fd1, G1, b1, k1, g1⟩ := ADeck.ex
  obtain ⟨f2, fd2, G2, b2, k2, g2⟩ := ASame.ex
  obtain ⟨f3, fd3, G3, b3, k3, g3⟩ := ATree.ex
  obtain ⟨f4, fd4, G4, b4, k4, g4⟩ := ABent.ex
  obtain ⟨f5, fd5, G5, b5, k5, g5⟩ := AOdd.ex
  obtain ⟨f6, fd6, G6, b6, k6, g6⟩ := ACount.ex
  obtain ⟨f7, fd7, G7, b7, k7, g7⟩ := AIs.ex
  refine enter_def (k := 45) (vs := [.ref a]) (us := [.ref a]) F scLaw ⟨rfl, by decide, by decide⟩ en bd (.cons rfl .nil) rfl fun cdv hr => ?_
  have r1 := hr.mono (show 1 ≤ 45 by decide)
  have r2 := hr.mono (show 2 ≤ 45 by decide)
  have r3 := hr.mono (show 3 ≤ 45 by decide)
  have r20 := hr.mono (show 20 ≤ 45 by decide)
  have r29 := hr.mono (show 29 ≤ 45 by decide)
  have r32 := hr.mono (show 32 ≤ 45 by decide)
  have hu := hr.units
  refine ⟨_, pss_cons (ps_par3 (i := 1) (j := 2) (l := 3) (by rfl) scLaw.nd rfl rfl rfl (by decide) (by decide) (by decide) rfl rfl rfl (pa_cons (pe_call G1 r1 rfl g1 k1 b1 .nil pass0 (pa_cons (pv 0) pa_nil)) (pa_cons pe_non (pa_cons pe_non pa_nil))) (by rfl))
    (pss_cons (ps_set (i := 4) scLaw.nd rfl (.inl rfl) (pe_lst (pa_cons pe_non (pa_cons (pe_tup pa_nil) (pa_cons pe_str (pa_cons (pe_tup (pa_cons pe_str pa_nil)) (pa_cons (pe_tup (pa_cons pe_non (pa_cons pe_non (pa_cons pe_non pa_nil)))) (pa_cons (pe_tup (pa_cons pe_str (pa_cons pe_str (pa_cons pe_str pa_nil)))) (pa_cons (pe_tup (pa_cons pe_non (pa_cons pe_bl (pa_cons pe_non pa_nil)))) (pa_cons (pe_tup (pa_cons pe_non (pa_cons pe_str (pa_cons (pe_tup pa_nil) pa_nil)))) pa_nil))))))))))
    (pss_cons (ps_for PassesOwn.never rfl (pi_range1 rfl M.range (pa_cons pe_int pa_nil)) (pg_name (i := 5) scLaw.nd rfl (.inl rfl))
      (pss_cons (ps_par (i := 2) (j := 3) (by rfl) scLaw.nd rfl rfl (by decide) rfl rfl (pa_cons (pe_tup (pa_cons (pv 2) (pa_cons pe_str (pa_cons pe_non pa_nil)))) (pa_cons (pe_tup (pa_cons pe_non (pa_cons pe_str (pa_cons (pv 3) pa_nil)))) pa_nil)) (by rfl))
      (pss_one (ps_set (i := 4) scLaw.nd rfl (.inl rfl) (pe_op op_cat (pv 4) (pe_lst (pa_cons (pv 2) (pa_cons (pv 3) pa_nil))))))))
    (pss_cons (ps_for PassesOwn.never rfl (pi_range1 rfl M.range (pa_cons pe_int pa_nil)) (pg_name (i := 6) scLaw.nd rfl (.inl rfl))
      (pss_cons (ps_set (i := 7) scLaw.nd rfl (.inl rfl) (pe_call G3 r29 rfl g3 k3 b3 .nil pass0 (pa_cons (pv 1) (pa_cons pe_int pa_nil))))
      (pss_cons (ps_set (i := 8) scLaw.nd rfl (.inl rfl) (pe_call G4 r32 rfl g4 k4 b4 .nil pass0 (pa_cons (pv 1) (pa_cons (pv 7) pa_nil))))
      (pss_cons (ps_set (i := 4) scLaw.nd rfl (.inl rfl) (pe_op op_cat (pv 4) (pe_lst (pa_cons (pv 7) (pa_cons (pv 8) (pa_cons (pe_call G4 r32 rfl g4 k4 b4 .nil pass0 (pa_cons (pv 1) (pa_cons (pv 8) pa_nil))) (pa_cons (pe_call G4 r32 rfl g4 k4 b4 .nil pass0 (pa_cons (pv 1) (pa_cons (pv 7) pa_nil))) (pa_cons (pe_callTy call_list_of rfl M.list (by decide +kernel) (pa_cons (pv 7) pa_nil)) (pa_cons (pe_call G5 r2 rfl g5 k5 b5 .nil pass0 (pa_cons (pv 1) pa_nil)) pa_nil)))))))))
      (pss_one (ps_set (i := 4) scLaw.nd rfl (.inl rfl) (pe_op op_cat (pv 4) (pe_lst (pa_cons (pe_tup (pa_cons (pv 7) (pa_cons pe_str (pa_cons (pv 7) pa_nil)))) (pa_cons (pe_tup (pa_cons (pv 7) (pa_cons pe_str (pa_cons pe_non pa_nil)))) (pa_cons (pe_tup (pa_cons pe_non (pa_cons pe_str (pa_cons (pv 7) pa_nil)))) (pa_cons (pe_tup (pa_cons pe_non (pa_cons pe_str (pa_cons (pe_callTy call_list_of rfl M.list (by decide +kernel) (pa_cons (pv 7) pa_nil)) pa_nil)))) pa_nil))))))))))))
    (pss_cons (ps_for PassesOwn.never rfl (pi_list (pv 4)) (pg_name (i := 9) scLaw.nd rfl (.inl rfl))
      (pss_cons (ps_par (i := 10) (j := 11) (by rfl) scLaw.nd rfl rfl (by decide) rfl rfl (pa_cons (pe_callB (call_reprQ rfl hu) rfl mrepr (by decide +kernel) (pa_cons (pv 9) pa_nil)) (pa_cons (pe_chain op_lt op_lt pe_int (pe_call G6 hr rfl g6 k6 b6 .nil pass0 (pa_cons (pv 9) pa_nil)) pe_int) pa_nil)) (by rfl))
      (pss_one (ps_if (PW.pt (pw_or (pt_not (pt_val (pe_call G2 r20 rfl g2 k2 b2 .nil pass0 (pa_cons (pe_lst (pa_cons (pe_call G7 r3 rfl g7 k7 b7 .nil pass0 (pa_cons (pv 9) pa_nil)) (pa_cons (pe_call G7 r3 rfl g7 k7 b7 .nil pass0 (pa_cons (pv 9) pa_nil)) pa_nil))) (pa_cons (pe_lst (pa_cons (pv 11) (pa_cons (pv 11) pa_nil))) pa_nil)))))
          (pw_or1 (pt_cmpR op_ne (pe_callB (call_reprQ rfl hu) rfl mrepr (by decide +kernel) (pa_cons (pv 9) pa_nil)) (pv 10) (nomark _))))) (pss_one (ps_ret pe_bl)) pss_nil))))
    (pss_one (ps_ret (pe_call G2 r20 rfl g2 k2 b2 .nil pass0 (pa_cons (pe_lst (pa_cons (pe_glob (v := .int 12) rfl m1 ⟨_, rfl⟩) (pa_cons (pe_glob (v := .int 20) rfl m2 ⟨_, rfl⟩) (pa_cons (pe_glob (v := .int 60) rfl m3 ⟨_, rfl⟩) (pa_cons (pe_glob (v := .int 20) rfl m4 ⟨_, rfl⟩) pa_nil))))) (pa_cons (pe_lst (pa_cons pe_int (pa_cons pe_int (pa_cons pe_int (pa_cons pe_int pa_nil))))) pa_nil))))))))), ?_⟩
  -- deck, chain, other
  refine ⟨_, rfl, a, ns, rfl, hS, fun D H1 d1 s1 => ⟨_, _, _, rfl, ?_⟩⟩
  -- the first values
  refine ⟨(by show 0 ≤ sizeLine; decide), fun p1 n1 => ?_⟩
  have q1 := same_new n1 (.tup []); have e1 := d1.same q1
  refine ⟨(by show 1 ≤ sizeLine; decide), fun p2 n2 => ?_⟩
  have q2 := same_new n2 (.tup [.str "a"]); have e2 := e1.same q2
  refine ⟨(by show 3 ≤ sizeLine; decide), fun p3 n3 => ?_⟩
  have q3 := same_new n3 (.tup [.non, .non, .non]); have e3 := e2.same q3
  refine ⟨(by show 3 ≤ sizeLine; decide), fun p4 n4 => ?_⟩
  have q4 := same_new n4 (.tup [.str "a", .str "a", .str "a"]); have e4 := e3.same q4
  refine ⟨(by show 3 ≤ sizeLine; decide), fun p5 n5 => ?_⟩
  have q5 := same_new n5 (.tup [.non, .bl true, .non]); have e5 := e4.same q5
  refine ⟨(by show 0 ≤ sizeLine; decide), fun p6 n6 => ?_⟩
  have q6 := same_new n6 (.tup []); have e6 := e5.same q6
  refine ⟨(by show 3 ≤ sizeLine; decide), fun p7 n7 => ?_⟩
  have q7 := same_new n7 (.tup [.non, .str "a", .ref p6]); have e7 := e6.same q7
  refine ⟨(by show 8 ≤ sizeLine; decide), fun va nva => ?_⟩
  have q8 := same_new nva (.lst [.non, .ref p1, .str "a", .ref p2, .ref p3, .ref p4, .ref p5, .ref p7]); have e8 := e7.same q8
  have ov := e7.new nva
  have c1 := dq_newT d1 n1 .nil
  have c2 := dq_newT e1 n2 (.cons (.str "a") .nil)
  have c3 := dq_newT e2 n3 (.cons .non (.cons .non (.cons .non .nil)))
  have c4 := dq_newT e3 n4 (.cons (.str "a") (.cons (.str "a") (.cons (.str "a") .nil)))
  have c5 := dq_newT e4 n5 (.cons .non (.cons (.bl true) (.cons .non .nil)))
  have c6 := dq_newT e5 n6 .nil
  have c7 := dq_newT e6 n7 (.cons .non (.cons (.str "a") (.cons c6 .nil)))
  have r7 := q7.trans q8
  have r6 := q6.trans r7
  have r5 := q5.trans r6
  have r4 := q4.trans r5
  have r3 := q3.trans r4
  have r2 := q2.trans r3
  have all0 : AllGd D _ _ := dqAll_all (ds := vals0) (.cons .non (.cons (dq_same r2 c1) (.cons (.str "a") (.cons (dq_same r3 c2) (.cons (dq_same r4 c3) (.cons (dq_same r5 c4) (.cons (dq_same r6 c5) (.cons (dq_same q8 c7) .nil)))))))) vals0_ok
  -- chains
  refine ⟨13, rfl, by decide, by decide, ?_⟩
  refine for_range (lo := 0) (n := 13) (fun i σ H' => ∃ (vc vo : V) (va : Addr) (y5 : Option V) (vs : List V), σ = [some (.ref a), some (.ref D.dk), some vc, some vo, some (.ref va), y5, none, none, none, none, none, none] ∧ DeckOk H' D 0 ∧ Gd D H' (4 + 35 * i) i vc ∧ Gd D H' (4 + 35 * i) i vo ∧ H' va = some (.lst vs) ∧ AllGd D H' vs ∧ vs.length ≤ 8 + 2 * i ∧ Off D va)
    ⟨.non, .non, va, none, _, rfl, e8, gd_non, gd_non, upd_same, all0, by show 8 ≤ 8 + 2 * 0; omega, ov⟩ (fun i σ H' hi hp => ?_) (fun σ H' hp => ?_)
  · obtain ⟨vc, vo, va, y5, vs, rfl, d, gc, go, ev, al, hl, ov⟩ := hp
    refine ⟨_, rfl, (by show 3 ≤ sizeLine; decide), fun x1 m1 => ?_⟩
    have t1 := same_new m1 (.tup [vc, .str "z", .non]); have f1 := d.same t1
    refine ⟨_, rfl, (by show 3 ≤ sizeLine; decide), fun x2 m2 => ⟨_, _, rfl, ?_⟩⟩
    have t2 := same_new m2 (.tup [.non, .str "a", vo]); have f2 := f1.same t2
    have g1 := (gd_node d m1 gc gdz gd_non).same t2
    have g2 := gd_node f1 m2 gd_non gda (go.same t1)
    refine ⟨_, rfl, _, rfl, _, rfl, (by show 2 ≤ sizeLine; decide), fun L nL => ?_⟩
    have t3 := same_new nL (.lst [.ref x1, .ref x2]); have f3 := f2.same t3
    refine ⟨va, L, _, _, rfl, rfl, t3 _ _ (t2 _ _ (t1 _ _ ev)), upd_same, ?_, fun p np => ?_⟩
    · exact small (by show vs.length + 2 ≤ 1000; omega)
    have t4 := same_new np (.lst (vs ++ [.ref x1, .ref x2]))
    have t34 := t3.trans t4
    refine ⟨.ref x1, .ref x2, p, _, _, rfl, f3.same t4, (g1.same t34).mono (by omega) (by omega), (g2.same t34).mono (by omega) (by omega), upd_same, (al.sameD (SameD.of ((t1.trans t2).trans t34))).app (.cons (g1.same t34) (by omega) (by omega) (.cons (g2.same t34) (by omega) (by omega) .nil)), ?_, f3.new np⟩
    rw [List.length_append]
    show vs.length + 2 ≤ 8 + 2 * (i + 1)
    omega
  obtain ⟨vc, vo, va, y5, vs, rfl, d, _, _, ev, al, hl, ov⟩ := hp
  -- trees
  refine ⟨6, rfl, by decide, by decide, ?_⟩
  refine for_range (lo := 0) (n := 6) (fun i σ H' => ∃ (va : Addr) (y2 y3 y5 y6 y7 y8 : Option V) (vs : List V) (c : Nat), σ = [some (.ref a), some (.ref D.dk), y2, y3, some (.ref va), y5, y6, y7, y8, none, none, none] ∧ DeckOk H' D c ∧ c ≤ 120 * i ∧ H' va = some (.lst vs) ∧ AllGd D H' vs ∧ vs.length ≤ 34 + 10 * i ∧ Off D va)
    ⟨va, _, _, _, none, none, none, vs, 0, rfl, d, by omega, ev, al, by omega, ov⟩ (fun i σ H' hi hp => ?_) (fun σ H' hp => ?_)
  · obtain ⟨va, y2, y3, y5, y6, y7, y8, vs, c, rfl, d, hc, ev, al, hl, ov⟩ := hp
    refine ⟨_, rfl, D, c, 12, rfl, d, by omega, by omega, by omega, fun v t c1 H1 d1 hc1 s1 at1 t0 t1 tl => ?_⟩
    obtain ⟨tg, tw, td⟩ := t.facts tl
    have tdl := t.deep_le
    have dq1 := at1.dq d1
    have gt : Gd D H1 424 12 v := ⟨t.data, dq1, tg, by omega, by omega⟩
    rcases at1.inv with ⟨_, rfl⟩ | ⟨ta, vl, vr, x, tL, tR, rfl, ht, et, hL, hR⟩
    · exact absurd t0 (by show ¬ 1 ≤ 0; omega)
    have ot : Off D ta := d1.offT et
    have gl : ∀ {X : Hp} {m : Nat} {p : Addr}, DeckOk X D m → SameD D H1 X → X p = none → Gd D (upd X p (.lst [vl, .str x, vr])) 424 12 (.ref p) := by
      intro X m p dX sX np
      subst ht
      refine ⟨.list [tL.data, .str x, tR.data], dq_newL dX np (.cons (dq_sameD sX (hL.dq d1)) (.cons (.str x) (.cons (dq_sameD sX (hR.dq d1)) .nil))), ?_, ?_, ?_⟩
      · simp only [T.data, gd] at tg ⊢
        exact tg
      · have tw' : wt (T.node tL x tR).data ≤ 424 := by omega
        simp only [T.data, wt] at tw' ⊢
        exact tw'
      · have td' : (T.node tL x tR).data.depth ≤ 12 := by omega
        simp only [T.data, PyData.depth] at td' ⊢
        exact td'
    refine ⟨_, rfl, _, rfl, D, c1, _, t.data, rfl, d1, by omega, dq1, tg, by omega, by omega, fun vo c2 H2 d2 hc2 s2 go => ?_⟩
    obtain ⟨dO, h1, h2, h3, h4⟩ := go
    refine ⟨_, rfl, _, rfl, _, rfl, _, rfl, _, rfl, D, c2, vo, dO, rfl, d2, by omega, h1, h2, by omega, by omega, fun v3 c3 H3 d3 hc3 s3 g3 => ?_⟩
    have z13 := s2.trans s3
    refine ⟨_, rfl, _, rfl, D, c3, _, t.data, rfl, d3, by omega, dq_sameD z13 dq1, tg, by omega, by omega, fun v4 c4 H4 d4 hc4 s4 g4 => ?_⟩
    have z14 := z13.trans s4
    refine ⟨_, rfl, ta, _, rfl, .inr (SqT.of (z14.at ot et)), fun p5 m5 => ?_⟩
    have w5 := same_new m5 (.lst [vl, .str x, vr]); have d5 := d4.same w5
    have g5 := gl d4 z14 m5
    refine ⟨_, rfl, D, c4, rfl, d5, by omega, fun v6 H6 d6 s6 g6 => ?_⟩
    have z46 := (SameD.of (D := D) w5).trans s6
    have z36 := s4.trans z46
    have z26 := s3.trans z36
    have z16 := s2.trans z26
    refine ⟨(by show 6 ≤ sizeLine; decide), fun L nL => ?_⟩
    have wL := same_new nL (.lst [.ref ta, vo, v3, v4, .ref p5, v6]); have dL := d6.same wL
    have evL := wL _ _ (z16.at ov (s1.at ov ev))
    refine ⟨va, L, _, _, rfl, rfl, evL, upd_same, small (by show vs.length + 6 ≤ 1000; omega), fun pa np => ?_⟩
    have wp := same_new np (.lst (vs ++ [.ref ta, vo, v3, v4, .ref p5, v6])); have dp := dL.same wp
    have op := dL.new np
    have wLp := SameD.of (D := D) (wL.trans wp)
    have gO : Gd D H2 1100 14 vo := ⟨dO, h1, h2, by omega, by omega⟩
    have all1 : AllGd D _ (vs ++ [.ref ta, vo, v3, v4, .ref p5, v6]) := (al.sameD (s1.trans (z16.trans wLp))).app (.cons (gt.sameD (z16.trans wLp)) (by omega) (by omega) (.cons (gO.sameD (z26.trans wLp)) (by omega) (by omega) (.cons (g3.sameD (z36.trans wLp)) (by omega) (by omega) (.cons (g4.sameD (z46.trans wLp)) (by omega) (by omega) (.cons ((g5.sameD s6).sameD wLp) (by omega) (by omega) (.cons (g6.sameD wLp) (by omega) (by omega) .nil))))))
    have z1p := z16.trans wLp
    have etp := z1p.at ot et
    have gtp := gt.sameD z1p
    have evp : _ = some (HO.lst (vs ++ [.ref ta, vo, v3, v4, .ref p5, v6])) := upd_same (H := upd H6 L (.lst [.ref ta, vo, v3, v4, .ref p5, v6])) (a := pa) (o := .lst (vs ++ [.ref ta, vo, v3, v4, .ref p5, v6]))
    generalize upd (upd H6 L (.lst [.ref ta, vo, v3, v4, .ref p5, v6])) pa (.lst (vs ++ [.ref ta, vo, v3, v4, .ref p5, v6])) = HP at all1 z1p etp gtp evp dp ⊢
    refine ⟨_, rfl, _, rfl, _, rfl, (by show 3 ≤ sizeLine; decide), fun x1 m1 => ?_⟩
    have k1 := same_new m1 (.tup [.ref ta, .str "b", .ref ta]); have j1 := dp.same k1
    have u1 := gd_node dp m1 gtp gdb gtp
    refine ⟨_, rfl, (by show 3 ≤ sizeLine; decide), fun x2 m2 => ?_⟩
    have k2 := same_new m2 (.tup [.ref ta, .str "b", .non]); have j2 := j1.same k2
    have u2 := gd_node j1 m2 (gtp.same k1) gdb gd_non
    refine ⟨_, rfl, (by show 3 ≤ sizeLine; decide), fun x3 m3 => ?_⟩
    have k3 := same_new m3 (.tup [.non, .str "B", .ref ta]); have j3 := j2.same k3
    have u3 := gd_node j2 m3 gd_non gdB ((gtp.same k1).same k2)
    have k13 := (k1.trans k2).trans k3
    refine ⟨_, rfl, ta, _, rfl, .inr (SqT.of (k13 _ _ etp)), fun x4 m4 => ?_⟩
    have k4 := same_new m4 (.lst [vl, .str x, vr]); have j4 := j3.same k4
    have u4 := gl j3 (z1p.trans (SameD.of k13)) m4
    refine ⟨(by show 3 ≤ sizeLine; decide), fun x5 m5' => ?_⟩
    have k5 := same_new m5' (.tup [.non, .str "b", .ref x4]); have j5 := j4.same k5
    have u5 := gd_node j4 m5' gd_non gdb u4
    refine ⟨(by show 4 ≤ sizeLine; decide), fun L2 nL2 => ?_⟩
    have k6 := same_new nL2 (.lst [.ref x1, .ref x2, .ref x3, .ref x5]); have j6 := j5.same k6
    have k46 := (k4.trans k5).trans k6
    have k36 := k3.trans k46
    have k26 := k2.trans k36
    have k16 := k1.trans k26
    refine ⟨pa, L2, _, _, rfl, rfl, k16 _ _ evp, upd_same, small (by rw [List.length_append]; show vs.length + 6 + 4 ≤ 1000; omega), fun pb nb => ?_⟩
    have k7 := same_new nb (.lst ((vs ++ [.ref ta, vo, v3, v4, .ref p5, v6]) ++ [.ref x1, .ref x2, .ref x3, .ref x5]))
    refine ⟨pb, y2, y3, y5, _, _, _, _, c4 + 1, rfl, j6.same k7, by omega, upd_same, (all1.sameD (SameD.of (k16.trans k7))).app (.cons (u1.same (k26.trans k7)) (by omega) (by omega) (.cons (u2.same (k36.trans k7)) (by omega) (by omega) (.cons (u3.same (k46.trans k7)) (by omega) (by omega) (.cons (u5.same (k6.trans k7)) (by omega) (by omega) .nil)))), ?_, j6.new nb⟩
    rw [List.length_append, List.length_append]
    show vs.length + 6 + 4 ≤ 34 + 10 * (i + 1)
    omega
  obtain ⟨va, y2, y3, y5, y6, y7, y8, vs, c, rfl, d, _, ev, al, hl, ov⟩ := hp
  refine ⟨_, rfl, va, rfl, ⟨_, SqL.of ev⟩, ?_⟩
  refine for_list (K := K) (a := va) (xs := vs) (fun i σ H'' => ∃ (y9 y10 y11 : Option V), σ = [some (.ref a), some (.ref D.dk), y2, y3, some (.ref va), y5, y6, y7, y8, y9, y10, y11] ∧ Same H' H'') ⟨none, none, none, rfl, Same.refl _⟩ (fun i σ H'' _ hp => ?_) (fun i x σ H'' hx hp => ?_) (fun σ H'' hp => ?_)
  · obtain ⟨_, _, _, _, sm⟩ := hp
    exact SqL.of (sm _ _ ev)
  · obtain ⟨y9, y10, y11, rfl, s4⟩ := hp
    obtain ⟨dd, h1, h2, h3, h4⟩ := al x (List.mem_of_getElem? hx)
    refine ⟨_, rfl, x, D, dd, rfl, dq_same s4 h1, h2, by omega, by omega, ?_⟩
    refine ⟨_, rfl, x, D, dd, rfl, dq_same s4 h1, h2, by omega, fun H5 s5 => ?_⟩
    refine ⟨_, _, rfl, rfl, _, rfl, ite2 (fun c1 => ?_) (fun c1 => ?_)⟩
    · have c1' : 0 < cntD dd := of_decide_eq_true c1
      refine ⟨_, _, rfl, rfl, ?_⟩
      have hb : isT dd = decide (cntD dd < 13) := by
        unfold isT
        rw [decide_eq_decide]
        exact ⟨fun z => z.2, fun z => ⟨c1', z⟩⟩
      refine ⟨_, _, rfl, ?_⟩
      refine ⟨_, rfl, x, D, dd, rfl, dq_same (s4.trans s5) h1, h2, fun H6 s6 => ?_⟩
      have r6 := (s4.trans s5).trans s6
      refine ⟨_, rfl, x, D, dd, rfl, dq_same r6 h1, h2, fun H7 s7 => ?_⟩
      have r7 := r6.trans s7
      refine ⟨(by show 2 ≤ sizeLine; decide), fun pf nf => ?_⟩
      have w1 := same_new nf (.lst [.bl (isT dd), .bl (isT dd)])
      refine ⟨_, rfl, _, rfl, (by show 2 ≤ sizeLine; decide), fun pd npd => ?_⟩
      have w2 := same_new npd (.lst [.bl (decide (cntD dd < 13)), .bl (decide (cntD dd < 13))])
      refine ⟨.ref pf, .ref pd, .list [.bool (isT dd), .bool (isT dd)], rfl, .lst (SqL.of (w2 _ _ upd_same)) (.cons (.bl _) (.cons (.bl _) .nil)), .lst (SqL.of upd_same) (.cons (by rw [hb]; exact Dp.bl _) (.cons (by rw [hb]; exact Dp.bl _) .nil)), by simp only [PyData.depth, PyData.depthAll]; decide, by simp only [nar, narAll, List.length_cons, List.length_nil]; exact (by decide : (decide (0 + 1 + 1 ≤ 1000000) && (true && (true && true))) = true), fun H8 s8 => ⟨_, rfl, iteF ?_⟩⟩
      have r8 := r7.trans ((w1.trans w2).trans s8)
      refine ⟨_, rfl, x, D, dd, rfl, dq_same r8 h1, h2, by omega, by omega, _, rfl, rfl, _, rfl, iteNS rfl ?_⟩
      exact ⟨_, _, _, rfl, r8⟩
    · have c1' : ¬ 0 < cntD dd := of_decide_eq_false (Bool.eq_false_iff.mpr c1)
      have hb : isT dd = false := by
        unfold isT
        exact decide_eq_false fun z => c1' z.1
      refine ⟨_, _, rfl, ?_⟩
      refine ⟨_, rfl, x, D, dd, rfl, dq_same (s4.trans s5) h1, h2, fun H6 s6 => ?_⟩
      have r6 := (s4.trans s5).trans s6
      refine ⟨_, rfl, x, D, dd, rfl, dq_same r6 h1, h2, fun H7 s7 => ?_⟩
      have r7 := r6.trans s7
      refine ⟨(by show 2 ≤ sizeLine; decide), fun pf nf => ?_⟩
      have w1 := same_new nf (.lst [.bl (isT dd), .bl (isT dd)])
      refine ⟨_, rfl, _, rfl, (by show 2 ≤ sizeLine; decide), fun pd npd => ?_⟩
      have w2 := same_new npd (.lst [.bl false, .bl false])
      refine ⟨.ref pf, .ref pd, .list [.bool (isT dd), .bool (isT dd)], rfl, .lst (SqL.of (w2 _ _ upd_same)) (.cons (.bl _) (.cons (.bl _) .nil)), .lst (SqL.of upd_same) (.cons (by rw [hb]; exact Dp.bl _) (.cons (by rw [hb]; exact Dp.bl _) .nil)), by simp only [PyData.depth, PyData.depthAll]; decide, by simp only [nar, narAll, List.length_cons, List.length_nil]; exact (by decide : (decide (0 + 1 + 1 ≤ 1000000) && (true && (true && true))) = true), fun H8 s8 => ⟨_, rfl, iteF ?_⟩⟩
      have r8 := r7.trans ((w1.trans w2).trans s8)
      refine ⟨_, rfl, x, D, dd, rfl, dq_same r8 h1, h2, by omega, by omega, _, rfl, rfl, _, rfl, iteNS rfl ?_⟩
      exact ⟨_, _, _, rfl, r8⟩
  · obtain ⟨y9, y10, y11, rfl, s4⟩ := hp
    refine ⟨(by show 4 ≤ sizeLine; decide), fun pf nf => ⟨(by show 4 ≤ sizeLine; decide), fun pd npd => ?_⟩⟩
    have w2 := same_new npd (.lst [.int 12, .int 20, .int 60, .int 20])
    have da : ∀ {X : Hp}, DpAll K X [V.int 12, V.int 20, V.int 60, V.int 20] [.int 12, .int 20, .int 60, .int 20] := .cons (.int _) (.cons (.int _) (.cons (.int _) (.cons (.int _) .nil)))
    exact ⟨.ref pf, .ref pd, .list [.int 12, .int 20, .int 60, .int 20], rfl, .lst (SqL.of (w2 _ _ upd_same)) da, .lst (SqL.of upd_same) da, by simp only [PyData.depth, PyData.depthAll]; decide, by simp only [nar, narAll]; decide, fun _ _ => rfl⟩
end

/-! ### what the top has left -/
theorem all_mk {l : PySem.W.OpenLaw} {w : World} {K : PySem.W.Frag} {h : Heap} {mg : Str → Option Value} {fa f1 f2 f3 f4 f5 f6 f7 f8 f9 f10 f11 f12 f13 : Addr} (X : K.In h) (G : h.Ns mainGlobals mg) (hfa : mg "law" = some (.ref fa))
    {od1 an1 od2 an2 od3 an3 od4 an4 od5 an5 od6 an6 od7 an7 od8 an8 od9 an9 od10 an10 od11 an11 od12 an12 od13 an13 : Option Addr} {sl1 sl2 sl3 sl4 sl5 sl6 sl7 sl8 sl9 sl10 sl11 sl12 sl13 : Array (Option Value)}
    {oc1 kV1 dc1 pm1 cd1 ct1 oc2 kV2 dc2 pm2 cd2 ct2 oc3 kV3 dc3 pm3 cd3 ct3 oc4 kV4 dc4 pm4 cd4 ct4 oc5 kV5 dc5 pm5 cd5 ct5 oc6 kV6 dc6 pm6 cd6 ct6 oc7 kV7 dc7 pm7 cd7 ct7 oc8 kV8 dc8 pm8 cd8 ct8 oc9 kV9 dc9 pm9 cd9 ct9 oc10 kV10 dc10 pm10 cd10 ct10 oc11 kV11 dc11 pm11 cd11 ct11 oc12 kV12 dc12 pm12 cd12 ct12 oc13 kV13 dc13 pm13 cd13 ct13 : Value} {t1 t2 t3 t4 : Tok}
    (a1 : PySem.W.nsIn K mainGlobals "is_letter" = some (some (.ref f1)))
    (l1 : K.lookup f1 = some ⟨oc1, od1, .func (PySem.W.fnOf "is_letter" "is_letter" (defArgs sLetter) (defBody sLetter) (defScope sLetter) .none kV1 dc1 pm1 an1 cd1 ct1), sl1⟩)
    (c1 : PySem.W.codeIn K cd1 "is_letter" = true) (k1 : PySem.W.keepIn K (.ref f1) = true)
    (a2 : PySem.W.nsIn K mainGlobals "is_node" = some (some (.ref f2)))
    (l2 : K.lookup f2 = some ⟨oc2, od2, .func (PySem.W.fnOf "is_node" "is_node" (defArgs sNode) (defBody sNode) (defScope sNode) .none kV2 dc2 pm2 an2 cd2 ct2), sl2⟩)
    (c2 : PySem.W.codeIn K cd2 "is_node" = true) (k2 : PySem.W.keepIn K (.ref f2) = true)
    (a3 : PySem.W.nsIn K mainGlobals "is_tree" = some (some (.ref f3)))
    (l3 : K.lookup f3 = some ⟨oc3, od3, .func (PySem.W.fnOf "is_tree" "is_tree" (defArgs sIsTree) (defBody sIsTree) (defScope sIsTree) .none kV3 dc3 pm3 an3 cd3 ct3), sl3⟩)
    (c3 : PySem.W.codeIn K cd3 "is_tree" = true) (k3 : PySem.W.keepIn K (.ref f3) = true)
    (a4 : PySem.W.nsIn K mainGlobals "_law_deck" = some (some (.ref f4)))
    (l4 : K.lookup f4 = some ⟨oc4, od4, .func (PySem.W.fnOf "_law_deck" "_law_deck" (defArgs sDeck) (defBody sDeck) (defScope sDeck) .none kV4 dc4 pm4 an4 cd4 ct4), sl4⟩)
    (c4 : PySem.W.codeIn K cd4 "_law_deck" = true) (k4 : PySem.W.keepIn K (.ref f4) = true)
    (a5 : PySem.W.nsIn K mainGlobals "_law_next" = some (some (.ref f5)))
    (l5 : K.lookup f5 = some ⟨oc5, od5, .func (PySem.W.fnOf "_law_next" "_law_next" (defArgs sNext) (defBody sNext) (defScope sNext) .none kV5 dc5 pm5 an5 cd5 ct5), sl5⟩)
    (c5 : PySem.W.codeIn K cd5 "_law_next" = true) (k5 : PySem.W.keepIn K (.ref f5) = true)
    (a6 : PySem.W.nsIn K mainGlobals "_law_same" = some (some (.ref f6)))
    (l6 : K.lookup f6 = some ⟨oc6, od6, .func (PySem.W.fnOf "_law_same" "_law_same" (defArgs sSame) (defBody sSame) (defScope sSame) .none kV6 dc6 pm6 an6 cd6 ct6), sl6⟩)
    (c6 : PySem.W.codeIn K cd6 "_law_same" = true) (k6 : PySem.W.keepIn K (.ref f6) = true)
    (a7 : PySem.W.nsIn K mainGlobals "_law_letters" = some (some (.ref f7)))
    (l7 : K.lookup f7 = some ⟨oc7, od7, .func (PySem.W.fnOf "_law_letters" "_law_letters" (defArgs sLett) (defBody sLett) (defScope sLett) .none kV7 dc7 pm7 an7 cd7 ct7), sl7⟩)
    (c7 : PySem.W.codeIn K cd7 "_law_letters" = true) (k7 : PySem.W.keepIn K (.ref f7) = true)
    (a8 : PySem.W.nsIn K mainGlobals "_law_grown" = some (some (.ref f8)))
    (l8 : K.lookup f8 = some ⟨oc8, od8, .func (PySem.W.fnOf "_law_grown" "_law_grown" (defArgs sGrown) (defBody sGrown) (defScope sGrown) .none kV8 dc8 pm8 an8 cd8 ct8), sl8⟩)
    (c8 : PySem.W.codeIn K cd8 "_law_grown" = true) (k8 : PySem.W.keepIn K (.ref f8) = true)
    (a9 : PySem.W.nsIn K mainGlobals "_law_tree" = some (some (.ref f9)))
    (l9 : K.lookup f9 = some ⟨oc9, od9, .func (PySem.W.fnOf "_law_tree" "_law_tree" (defArgs sTree) (defBody sTree) (defScope sTree) .none kV9 dc9 pm9 an9 cd9 ct9), sl9⟩)
    (c9 : PySem.W.codeIn K cd9 "_law_tree" = true) (k9 : PySem.W.keepIn K (.ref f9) = true)
    (a10 : PySem.W.nsIn K mainGlobals "_law_odd" = some (some (.ref f10)))
    (l10 : K.lookup f10 = some ⟨oc10, od10, .func (PySem.W.fnOf "_law_odd" "_law_odd" (defArgs sOdd) (defBody sOdd) (defScope sOdd) .none kV10 dc10 pm10 an10 cd10 ct10), sl10⟩)
    (c10 : PySem.W.codeIn K cd10 "_law_odd" = true) (k10 : PySem.W.keepIn K (.ref f10) = true)
    (a11 : PySem.W.nsIn K mainGlobals "_law_count" = some (some (.ref f11)))
    (l11 : K.lookup f11 = some ⟨oc11, od11, .func (PySem.W.fnOf "_law_count" "_law_count" (defArgs sCount) (defBody sCount) (defScope sCount) .none kV11 dc11 pm11 an11 cd11 ct11), sl11⟩)
    (c11 : PySem.W.codeIn K cd11 "_law_count" = true) (k11 : PySem.W.keepIn K (.ref f11) = true)
    (a12 : PySem.W.nsIn K mainGlobals "_law_bent" = some (some (.ref f12)))
    (l12 : K.lookup f12 = some ⟨oc12, od12, .func (PySem.W.fnOf "_law_bent" "_law_bent" (defArgs sBent) (defBody sBent) (defScope sBent) .none kV12 dc12 pm12 an12 cd12 ct12), sl12⟩)
    (c12 : PySem.W.codeIn K cd12 "_law_bent" = true) (k12 : PySem.W.keepIn K (.ref f12) = true)
    (a13 : PySem.W.nsIn K mainGlobals "law" = some (some (.ref f13)))
    (l13 : K.lookup f13 = some ⟨oc13, od13, .func (PySem.W.fnOf "law" "law" (defArgs sLaw) (defBody sLaw) (defScope sLaw) .none kV13 dc13 pm13 an13 cd13 ct13), sl13⟩)
    (c13 : PySem.W.codeIn K cd13 "law" = true) (k13 : PySem.W.keepIn K (.ref f13) = true)
    (z1 : PySem.W.nsIn K mainGlobals "len" = some none)
    (z2 : PySem.W.nsIn K mainGlobals "isinstance" = some none)
    (z3 : PySem.W.nsIn K mainGlobals "list" = some none)
    (z4 : PySem.W.nsIn K mainGlobals "tuple" = some none)
    (z5 : PySem.W.nsIn K mainGlobals "str" = some none)
    (z6 : PySem.W.nsIn K mainGlobals "int" = some none)
    (z7 : PySem.W.nsIn K mainGlobals "bool" = some none)
    (z8 : PySem.W.nsIn K mainGlobals "range" = some none)
    (z9 : PySem.W.nsIn K mainGlobals "sorted" = some none)
    (z10 : PySem.W.nsIn K mainGlobals "abs" = some none)
    (z11 : PySem.W.nsIn K mainGlobals "repr" = some none)
    (v1 : PySem.W.nsIn K mainGlobals "MAX_NODES" = some (some (.int 12 t1)))
    (v2 : PySem.W.nsIn K mainGlobals "MAX_ENTRIES" = some (some (.int 20 t2)))
    (v3 : PySem.W.nsIn K mainGlobals "EDITS" = some (some (.int 60 t3)))
    (v4 : PySem.W.nsIn K mainGlobals "BATCH" = some (some (.int 20 t4)))
    : ∀ (base : Heap) (H : Hp) (s : Shared) (a : Addr) (ns : List Int), K.In base → base.Ns mainGlobals mg → Env0 l.prog w K mg base callerA [] s H → SqL K H a (ns.map V.int) →
      codeAny (model l.prog w) callerA (.call (.ref fa) ⟨[.ref a], []⟩) (CR CX0 [] l.prog w H s (fun v _ => v = .bl true) fun _ _ _ => False) s := by
  intro base H s a ns _ _ en hS
  have e := hfa.symm.trans (PySem.W.mg_of X G a13)
  cases e
  have F1 := fun_mk (st := sLetter) l1 c1 k1
  have g1 := PySem.W.mg_of X G a1
  have F2 := fun_mk (st := sNode) l2 c2 k2
  have g2 := PySem.W.mg_of X G a2
  have F3 := fun_mk (st := sIsTree) l3 c3 k3
  have g3 := PySem.W.mg_of X G a3
  have F4 := fun_mk (st := sDeck) l4 c4 k4
  have g4 := PySem.W.mg_of X G a4
  have F5 := fun_mk (st := sNext) l5 c5 k5
  have g5 := PySem.W.mg_of X G a5
  have F6 := fun_mk (st := sSame) l6 c6 k6
  have g6 := PySem.W.mg_of X G a6
  have F7 := fun_mk (st := sLett) l7 c7 k7
  have g7 := PySem.W.mg_of X G a7
  have F8 := fun_mk (st := sGrown) l8 c8 k8
  have g8 := PySem.W.mg_of X G a8
  have F9 := fun_mk (st := sTree) l9 c9 k9
  have g9 := PySem.W.mg_of X G a9
  have F10 := fun_mk (st := sOdd) l10 c10 k10
  have g10 := PySem.W.mg_of X G a10
  have F11 := fun_mk (st := sCount) l11 c11 k11
  have g11 := PySem.W.mg_of X G a11
  have F12 := fun_mk (st := sBent) l12 c12 k12
  have g12 := PySem.W.mg_of X G a12
  have F13 := fun_mk (st := sLaw) l13 c13 k13
  have m_len := PySem.W.mg_none_of X G z1
  have m_isinstance := PySem.W.mg_none_of X G z2
  have m_list := PySem.W.mg_none_of X G z3
  have m_tuple := PySem.W.mg_none_of X G z4
  have m_str := PySem.W.mg_none_of X G z5
  have m_int := PySem.W.mg_none_of X G z6
  have m_bool := PySem.W.mg_none_of X G z7
  have m_range := PySem.W.mg_none_of X G z8
  have m_sorted := PySem.W.mg_none_of X G z9
  have m_abs := PySem.W.mg_none_of X G z10
  have m_repr := PySem.W.mg_none_of X G z11
  have m1 := PySem.W.mg_of X G v1
  have m2 := PySem.W.mg_of X G v2
  have m3 := PySem.W.mg_of X G v3
  have m4 := PySem.W.mg_of X G v4
  have b1 := F1.binds (ps := ["value"]) fun _ _ _ _ _ _ us hl => match us, hl with | [_], _ => rfl
  have b2 := F2.binds (ps := ["value"]) fun _ _ _ _ _ _ us hl => match us, hl with | [_], _ => rfl
  have b3 := F3.binds (ps := ["value"]) fun _ _ _ _ _ _ us hl => match us, hl with | [_], _ => rfl
  have b4 := F4.binds (ps := ["_law_script"]) fun _ _ _ _ _ _ us hl => match us, hl with | [_], _ => rfl
  have b5 := F5.binds (ps := ["_law_deck_here", "_law_many"]) fun _ _ _ _ _ _ us hl => match us, hl with | [_, _], _ => rfl
  have b6 := F6.binds (ps := ["_law_found", "_law_due"]) fun _ _ _ _ _ _ us hl => match us, hl with | [_, _], _ => rfl
  have b7 := F7.binds (ps := ["_law_deck_here", "_law_size"]) fun _ _ _ _ _ _ us hl => match us, hl with | [_, _], _ => rfl
  have b8 := F8.binds (ps := ["_law_deck_here", "_law_size", "_law_way", "_law_letters_here"]) fun _ _ _ _ _ _ us hl => match us, hl with | [_, _, _, _], _ => rfl
  have b9 := F9.binds (ps := ["_law_deck_here", "_law_limit"]) fun _ _ _ _ _ _ us hl => match us, hl with | [_, _], _ => rfl
  have b10 := F10.binds (ps := ["_law_deck_here"]) fun _ _ _ _ _ _ us hl => match us, hl with | [_], _ => rfl
  have b11 := F11.binds (ps := ["_law_value"]) fun _ _ _ _ _ _ us hl => match us, hl with | [_], _ => rfl
  have b12 := F12.binds (ps := ["_law_deck_here", "_law_value"]) fun _ _ _ _ _ _ us hl => match us, hl with | [_, _], _ => rfl
  have M : Mgs mg := ⟨m_len, m_isinstance, m_list, m_tuple, m_str, m_int, m_bool, m_range⟩
  have G1 := ok_letter (P := l.prog) (w := w) (mg := mg) (base := base) (k := 0) F1 M
  have G2 := ok_node (P := l.prog) (w := w) (base := base) (k := 1) F2 G1 b1 k1 g1 M
  have G3 := ok_isTree (P := l.prog) (w := w) (base := base) (k := 2) F3 G2 b2 k2 g2 m1
  have G4 := ok_deck (P := l.prog) (w := w) (mg := mg) (base := base) (k := 0) F4 m_len m_abs m_int
  have G5 := ok_next (P := l.prog) (w := w) (mg := mg) (base := base) (k := 0) F5 m_len
  have G6 := ok_same (P := l.prog) (w := w) (base := base) F6 b6 g6 M 20
  have G7 := ok_lett (P := l.prog) (w := w) (base := base) (k := 1) F7 G5 b5 k5 g5 M m_sorted
  have G8 := ok_grown (P := l.prog) (w := w) (base := base) F8 b8 g8 G5 b5 k5 g5 27
  have G9 := ok_tree (P := l.prog) (w := w) (base := base) F9 G5 b5 k5 g5 G7 b7 k7 g7 G8 b8 k8 g8
  have G10 := ok_odd (P := l.prog) (w := w) (base := base) (k := 1) F10 G5 b5 k5 g5
  have G11 := ok_count (P := l.prog) (w := w) (base := base) F11 b11 g11 M 45
  have G12 := ok_bent (P := l.prog) (w := w) (base := base) F12 b12 g12 G5 b5 k5 g5 G10 b10 k10 g10 M 30
  exact run_law F13 (.of_eq rfl) en hS M m_repr m1 m2 m3 m4 ⟨_, _, G4, b4, k4, g4⟩ ⟨_, _, G6, b6, k6, g6⟩ ⟨_, _, G9, b9, k9, g9⟩ ⟨_, _, G12, b12, k12, g12⟩ ⟨_, _, G10, b10, k10, g10⟩ ⟨_, _, G11, b11, k11, g11⟩ ⟨_, _, G3, b3, k3, g3⟩
theorem walk_at {l : PySem.W.OpenLaw} {q : Program} {loose : List Str} {XP : (Str → Option Value) → Heap → Prop} {YP : World → Heap → Prop} {d : DefRec} {K : Params → PySem.W.Frag} (most : l.most = some 63) (noDf : d.params.defaults = [])
    (inK : ∀ (w : World) (h : Heap), YP w h → (K w.params).In h)
    (F : ∀ (w : World) (mg : Str → Option Value) (fa : Addr) (h : Heap), (K w.params).In h → h.Ns mainGlobals mg → mg d.name = some (.ref fa) →
      ∀ (base : Heap) (H : Hp) (s : Shared) (a : Addr) (ns : List Int), (K w.params).In base → base.Ns mainGlobals mg → Env0 l.prog w (K w.params) mg base callerA [] s H → SqL (K w.params) H a (ns.map V.int) →
        codeAny (model l.prog w) callerA (.call (.ref fa) ⟨[.ref a], []⟩) (CR CX0 [] l.prog w H s (fun v _ => v = .bl true) fun _ _ _ => False) s) :
    PySem.W.WalkO q loose XP YP l.row.toRowW d [] (fun f vs => PySem.call f vs) := by
  refine Att.attach_call most noDf ?_
  intro w s₀ s₁ mg mb fa o pm cd doc a vs ns G Y ho hd hcd hmg hobj hints hlen hg
  exact law_at (inK w _ Y) G.T.g G.T.b G.T.builtins G.T.nolimit hg hobj hints (Nat.le_trans hlen (by decide)) fun base H h1 h2 en hS => F w mg fa _ (inK w _ Y) G.T.g hmg base H s₁ a ns h1 h2 en hS
end Tw
open PySem PySem.W PyProof.Rows
set_option maxRecDepth 100000 in
set_option maxHeartbeats 0 in
theorem PySem.Challenge.cw_treewalks_k01_trees_judged_holds : PySem.Challenge.rw_treewalks_k01_trees_judged.Holds := by
  w_on; o_law; k_head; (case hw => w_witness2)
  k_fill
  refine Tw.walk_at (l := PySem.Challenge.rw_treewalks_k01_trees_judged) rfl rfl (fun w h Y => PySem.W.kIn_of Y) ?F
  case F =>
    intro w mg fa h KX G hmg
    refine' Tw.all_mk KX G hmg ?a1 ?l1 ?c1 ?k1 ?a2 ?l2 ?c2 ?k2 ?a3 ?l3 ?c3 ?k3 ?a4 ?l4 ?c4 ?k4 ?a5 ?l5 ?c5 ?k5 ?a6 ?l6 ?c6 ?k6 ?a7 ?l7 ?c7 ?k7 ?a8 ?l8 ?c8 ?k8 ?a9 ?l9 ?c9 ?k9 ?a10 ?l10 ?c10 ?k10 ?a11 ?l11 ?c11 ?k11 ?a12 ?l12 ?c12 ?k12 ?a13 ?l13 ?c13 ?k13 ?z1 ?z2 ?z3 ?z4 ?z5 ?z6 ?z7 ?z8 ?z9 ?z10 ?z11 ?v1 ?v2 ?v3 ?v4
    (case a1 => k_is); (case l1 => k_is); (case c1 => k_is); (case k1 => k_is)
    (case a2 => k_is); (case l2 => k_is); (case c2 => k_is); (case k2 => k_is)
    (case a3 => k_is); (case l3 => k_is); (case c3 => k_is); (case k3 => k_is)
    (case a4 => k_is); (case l4 => k_is); (case c4 => k_is); (case k4 => k_is)
    (case a5 => k_is); (case l5 => k_is); (case c5 => k_is); (case k5 => k_is)
    (case a6 => k_is); (case l6 => k_is); (case c6 => k_is); (case k6 => k_is)
    (case a7 => k_is); (case l7 => k_is); (case c7 => k_is); (case k7 => k_is)
    (case a8 => k_is); (case l8 => k_is); (case c8 => k_is); (case k8 => k_is)
    (case a9 => k_is); (case l9 => k_is); (case c9 => k_is); (case k9 => k_is)
    (case a10 => k_is); (case l10 => k_is); (case c10 => k_is); (case k10 => k_is)
    (case a11 => k_is); (case l11 => k_is); (case c11 => k_is); (case k11 => k_is)
    (case a12 => k_is); (case l12 => k_is); (case c12 => k_is); (case k12 => k_is)
    (case a13 => k_is); (case l13 => k_is); (case c13 => k_is); (case k13 => k_is)
    (case z1 => k_is)
    (case z2 => k_is)
    (case z3 => k_is)
    (case z4 => k_is)
    (case z5 => k_is)
    (case z6 => k_is)
    (case z7 => k_is)
    (case z8 => k_is)
    (case z9 => k_is)
    (case z10 => k_is)
    (case z11 => k_is)
    (case v1 => k_is)
    (case v2 => k_is)
    (case v3 => k_is)
    (case v4 => k_is)
#print axioms PySem.Challenge.cw_treewalks_k01_trees_judged_holds
