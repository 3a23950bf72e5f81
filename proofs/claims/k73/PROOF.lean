import PyProof.Rows.All
import Wide.All
import OpenK.AllK
import Wide.FinOn
import HandS.ForMost
import HandS.ForExc
import HandS.Wide
import HandS.IsInst
import HandS.Flow
import HandS.FStrTup
import HandS.FStr
import HandS.NoneIn
import HandS.TupAny
import HandS.Style
import HandS.TryMany
import HandS.ExcIs
import HandS.ExcField
import HandS.ExcOwn
import KE.KExcInit
import KE.KExcIs
import HandS.Walk
import HandS.Zip
import HandS.Star
import HandS.Style
import PyProof.Rows.SortShellAny
import KE.GoesZip
import KE.GoesEnum
import KE.GoesMore
import KE.SortKeyHeap
import HandS.Lambda
import HandS.EndTab
import PyProof.CollectStr
import PyProof.P3Eq
import HandS.Sort
import HandS.Set
import HandS.SetFor
import HandS.Strs
import HandS.SetTxt0
import HandS.TupSets
import HandS.DictComp
import KE.KSortTupG
import KE.KSortTupUse
import HandS.More
import HandS.Replace
import HandS.ClsMeth
import HandS.Defaults
import HandS.CallSlots
import HandS.Property
import PySem.Challenge.RW_treewalks_k73_whole_texts_there_and_back
set_option Elab.async false
set_option maxRecDepth 100000
set_option maxHeartbeats 4000000
namespace Tw
open PySem PySem.Spec PyProof.Rows L2
/-! ### trees as data -/
inductive T where
  | nil
  | node (l : T) (x : Str) (r : T)
def T.size : T → Nat
  | .nil => 0
  | .node l _ r => l.size + 1 + r.size
def T.deep : T → Nat
  | .nil => 0
  | .node l _ r => 1 + max l.deep r.deep
def T.mir : T → T
  | .nil => .nil
  | .node l x r => .node r.mir x l.mir
def T.data : T → PyData
  | .nil => .none
  | .node l x r => .tuple [l.data, .str x, r.data]
theorem T.deep_le : ∀ t : T, t.deep ≤ t.size
  | .nil => Nat.le_refl _
  | .node l _ r => by
    have h1 := l.deep_le
    have h2 := r.deep_le
    show 1 + max l.deep r.deep ≤ l.size + 1 + r.size
    omega
theorem T.mir_size : ∀ t : T, t.mir.size = t.size
  | .nil => rfl
  | .node l _ r => by
    have h1 := l.mir_size
    have h2 := r.mir_size
    show r.mir.size + 1 + l.mir.size = l.size + 1 + r.size
    omega
/-- the tree t lies at v -/
inductive TreeAt (H : Hp) : V → T → Prop
  | nil : TreeAt H .non .nil
  | node {a : Addr} {l r : V} {x : Str} {tl tr : T} : H a = some (.tup [l, .str x, r]) → TreeAt H l tl → TreeAt H r tr → TreeAt H (.ref a) (.node tl x tr)
/-- tuples stand still -/
def KeepT (H H' : Hp) : Prop := ∀ b xs, H b = some (.tup xs) → H' b = some (.tup xs)
theorem KeepT.refl (H : Hp) : KeepT H H := fun _ _ h => h
theorem KeepT.trans {H H1 H2 : Hp} (a : KeepT H H1) (b : KeepT H1 H2) : KeepT H H2 := fun c xs h => b c xs (a c xs h)
theorem Same.keepT {H H' : Hp} (h : Same H H') : KeepT H H' := fun b xs e => h b _ e
theorem TreeAt.keep {H H' : Hp} (k : KeepT H H') {v : V} {t : T} (h : TreeAt H v t) : TreeAt H' v t := by
  induction h with
  | nil => exact .nil
  | node e _ _ h1 h2 => exact .node (k _ _ e) h1 h2
theorem TreeAt.same {H H' : Hp} (k : Same H H') {v : V} {t : T} (h : TreeAt H v t) : TreeAt H' v t := h.keep (Tw.Same.keepT k)
theorem TreeAt.dp {K : PySem.W.Frag} {H : Hp} {v : V} {t : T} (h : TreeAt H v t) : Dp K H v t.data := by
  induction h with
  | nil => exact .non
  | node e _ _ h1 h2 => exact .tup (SqT.of e) (.cons h1 (.cons (.str _) (.cons h2 .nil)))
theorem TreeAt.inv {H : Hp} {v : V} {t : T} (h : TreeAt H v t) : (v = .non ∧ t = .nil) ∨ ∃ a l r x tl tr, v = .ref a ∧ t = .node tl x tr ∧ H a = some (.tup [l, .str x, r]) ∧ TreeAt H l tl ∧ TreeAt H r tr := by
  cases h with
  | nil => exact .inl ⟨rfl, rfl⟩
  | node e h1 h2 => exact .inr ⟨_, _, _, _, _, _, rfl, rfl, e, h1, h2⟩
theorem same_new {H : Hp} {p : Addr} (h : H p = none) (o : HO) : Same H (upd H p o) := fun b u q => by rw [upd_ne (ne_of_none q h)]; exact q
theorem small {n : Nat} (h : n ≤ 1000) : n ≤ sizeLine := Nat.le_of_lt (small1000 h)
/-- a def that stands at a name, with its promise -/
structure Df (P : Program) (w : World) (K : PySem.W.Frag) (mg : Str → Option Value) (base : Heap) (k : Nat) (nm : Str) (ps : List Str) (sp : Sp) where
  f : Addr
  fd : FuncData
  ok : FnOk P w K mg base CX0 k f fd ps sp
  b : Binds K fd ps []
  kp : PySem.W.keepIn K (.ref f) = true
  g : mg nm = some (.ref f)
/-! ### the text by places -/
def top (i : Nat) : Stmt := PySem.Challenge.pw_treewalks_k73_whole_texts_there_and_back.main.body.getD i (.Pass ⟨0, 0, 0, 0⟩)
abbrev s__wall : Stmt := top 0
abbrev s_is_letter : Stmt := top 20
abbrev s_is_whole_number : Stmt := top 21
abbrev s_is_index : Stmt := top 22
abbrev s_is_node : Stmt := top 24
abbrev s_is_tree : Stmt := top 25
abbrev s_size_of : Stmt := top 26
abbrev s_part_at : Stmt := top 27
abbrev s_is_open : Stmt := top 28
abbrev s_replaced : Stmt := top 29
abbrev s_with_part : Stmt := top 30
abbrev s_mirrored : Stmt := top 31
abbrev s_joined : Stmt := top 32
abbrev s_tree_text : Stmt := top 34
abbrev s_side_text : Stmt := top 35
abbrev s_parse_tree : Stmt := top 36
abbrev s_sign_at : Stmt := top 37
abbrev s_read_tree : Stmt := top 38
abbrev s_read_left : Stmt := top 39
abbrev s_read_side : Stmt := top 40
abbrev s_node_at : Stmt := top 42
abbrev s_with_node : Stmt := top 43
abbrev s_without_node : Stmt := top 44
abbrev s_with_label : Stmt := top 45
abbrev s_turned : Stmt := top 46
abbrev s_has_form_of_edit : Stmt := top 49
abbrev s_edited : Stmt := top 50
abbrev s__law_deck : Stmt := top 54
abbrev s__law_next : Stmt := top 55
abbrev s__law_one : Stmt := top 56
abbrev s__law_same : Stmt := top 57
abbrev s__law_letters : Stmt := top 58
abbrev s__law_grown : Stmt := top 59
abbrev s__law_tree : Stmt := top 60
abbrev s__law_bent : Stmt := top 61
abbrev s__law_tried : Stmt := top 62
abbrev s__law_is_beginning : Stmt := top 63
abbrev s__law_right : Stmt := top 64
abbrev s__law_joined_right : Stmt := top 65
abbrev s_law : Stmt := top 66
abbrev s_TooLarge___init__ : Stmt := inClass (top 5) 0
abbrev s_TooMany___init__ : Stmt := inClass (top 6) 0
abbrev s_NotOpen___init__ : Stmt := inClass (top 8) 0
abbrev s_NoLabel___init__ : Stmt := inClass (top 9) 0
abbrev s_BadEdit___init__ : Stmt := inClass (top 13) 0
abbrev s_Rejected___init__ : Stmt := inClass (top 14) 0
abbrev s_BadText___init__ : Stmt := inClass (top 16) 0
abbrev s_NoPath___init__ : Stmt := inClass (top 17) 0
abbrev s_NoVersion___init__ : Stmt := inClass (top 18) 0
abbrev s_Desk___init__ : Stmt := inClass (top 52) 2
abbrev s_Desk_read : Stmt := inClass (top 52) 3
abbrev s_Desk_is_edit : Stmt := inClass (top 52) 4
abbrev s_Desk_put : Stmt := inClass (top 52) 5
abbrev s_Desk_cut : Stmt := inClass (top 52) 6
abbrev s_Desk_label : Stmt := inClass (top 52) 7
abbrev s_Desk_turn : Stmt := inClass (top 52) 8
abbrev s_Desk_undo : Stmt := inClass (top 52) 9
abbrev s_Desk_run : Stmt := inClass (top 52) 10
abbrev s_Desk_version : Stmt := inClass (top 52) 11
abbrev s_Desk_size : Stmt := inClass (top 52) 12
abbrev s_Desk_first : Stmt := inClass (top 52) 13
abbrev s_Desk_between : Stmt := inClass (top 52) 14
abbrev s_Desk_last : Stmt := inClass (top 52) 15
abbrev s_Desk_tree : Stmt := inClass (top 52) 16
abbrev s_Desk_edits : Stmt := inClass (top 52) 17
abbrev s_Desk_history : Stmt := inClass (top 52) 18
abbrev s_Desk___len__ : Stmt := inClass (top 52) 19
abbrev s_Desk___str__ : Stmt := inClass (top 52) 20
abbrev s_Desk___eq__ : Stmt := inClass (top 52) 21
abbrev s_Desk_check_free : Stmt := inClass (top 52) 22
abbrev s_Desk_check_tree : Stmt := inClass (top 52) 23
abbrev s_Desk_checked_batch : Stmt := inClass (top 52) 24
abbrev s_Desk_take : Stmt := inClass (top 52) 25
abbrev s_Desk_could_take : Stmt := inClass (top 52) 26
abbrev s_Desk_called : Stmt := inClass (top 52) 27
abbrev s_Desk_told : Stmt := inClass (top 52) 28
theorem sc__wall : FnScope ["k"] ["k"] (defScope s__wall) := ⟨rfl, rfl, rfl, by decide +kernel, rfl, by decide +kernel, by decide +kernel⟩
theorem sc_is_letter : FnScope ["value"] ["value"] (defScope s_is_letter) := ⟨rfl, rfl, rfl, by decide +kernel, rfl, by decide +kernel, by decide +kernel⟩
theorem sc_is_whole_number : FnScope ["value"] ["value"] (defScope s_is_whole_number) := ⟨rfl, rfl, rfl, by decide +kernel, rfl, by decide +kernel, by decide +kernel⟩
theorem sc_is_index : FnScope ["value", "many"] ["value", "many"] (defScope s_is_index) := ⟨rfl, rfl, rfl, by decide +kernel, rfl, by decide +kernel, by decide +kernel⟩
theorem sc_is_node : FnScope ["value"] ["value"] (defScope s_is_node) := ⟨rfl, rfl, rfl, by decide +kernel, rfl, by decide +kernel, by decide +kernel⟩
theorem sc_is_tree : FnScope ["value", "count", "waiting", "part", "side"] ["value"] (defScope s_is_tree) := ⟨rfl, rfl, rfl, by decide +kernel, rfl, by decide +kernel, by decide +kernel⟩
theorem sc_size_of : FnScope ["tree"] ["tree"] (defScope s_size_of) := ⟨rfl, rfl, rfl, by decide +kernel, rfl, by decide +kernel, by decide +kernel⟩
theorem sc_part_at : FnScope ["tree", "path", "part", "step"] ["tree", "path"] (defScope s_part_at) := ⟨rfl, rfl, rfl, by decide +kernel, rfl, by decide +kernel, by decide +kernel⟩
theorem sc_is_open : FnScope ["tree", "path"] ["tree", "path"] (defScope s_is_open) := ⟨rfl, rfl, rfl, by decide +kernel, rfl, by decide +kernel, by decide +kernel⟩
theorem sc_replaced : FnScope ["tree", "path", "part", "old"] ["tree", "path", "part"] (defScope s_replaced) := ⟨rfl, rfl, rfl, by decide +kernel, rfl, by decide +kernel, by decide +kernel⟩
theorem sc_with_part : FnScope ["tree", "path", "part", "left", "label", "right"] ["tree", "path", "part"] (defScope s_with_part) := ⟨rfl, rfl, rfl, by decide +kernel, rfl, by decide +kernel, by decide +kernel⟩
theorem sc_mirrored : FnScope ["tree", "left", "label", "right"] ["tree"] (defScope s_mirrored) := ⟨rfl, rfl, rfl, by decide +kernel, rfl, by decide +kernel, by decide +kernel⟩
theorem sc_tree_text : FnScope ["tree", "left", "label", "right"] ["tree"] (defScope s_tree_text) := ⟨rfl, rfl, rfl, by decide +kernel, rfl, by decide +kernel, by decide +kernel⟩
theorem sc_side_text : FnScope ["side"] ["side"] (defScope s_side_text) := ⟨rfl, rfl, rfl, by decide +kernel, rfl, by decide +kernel, by decide +kernel⟩
theorem sc_parse_tree : FnScope ["text", "tree", "behind"] ["text"] (defScope s_parse_tree) := ⟨rfl, rfl, rfl, by decide +kernel, rfl, by decide +kernel, by decide +kernel⟩
theorem sc_sign_at : FnScope ["text", "at"] ["text", "at"] (defScope s_sign_at) := ⟨rfl, rfl, rfl, by decide +kernel, rfl, by decide +kernel, by decide +kernel⟩
theorem sc_read_tree : FnScope ["text", "at", "room", "label", "left", "comma", "rest", "right", "end"] ["text", "at", "room"] (defScope s_read_tree) := ⟨rfl, rfl, rfl, by decide +kernel, rfl, by decide +kernel, by decide +kernel⟩
theorem sc_read_left : FnScope ["text", "at", "room", "left", "comma"] ["text", "at", "room"] (defScope s_read_left) := ⟨rfl, rfl, rfl, by decide +kernel, rfl, by decide +kernel, by decide +kernel⟩
theorem sc_read_side : FnScope ["text", "at", "room"] ["text", "at", "room"] (defScope s_read_side) := ⟨rfl, rfl, rfl, by decide +kernel, rfl, by decide +kernel, by decide +kernel⟩
theorem sc_node_at : FnScope ["tree", "path", "part"] ["tree", "path"] (defScope s_node_at) := ⟨rfl, rfl, rfl, by decide +kernel, rfl, by decide +kernel, by decide +kernel⟩
theorem sc_with_node : FnScope ["tree", "path", "label"] ["tree", "path", "label"] (defScope s_with_node) := ⟨rfl, rfl, rfl, by decide +kernel, rfl, by decide +kernel, by decide +kernel⟩
theorem sc_without_node : FnScope ["tree", "path"] ["tree", "path"] (defScope s_without_node) := ⟨rfl, rfl, rfl, by decide +kernel, rfl, by decide +kernel, by decide +kernel⟩
theorem sc_with_label : FnScope ["tree", "path", "label", "left", "old", "right"] ["tree", "path", "label"] (defScope s_with_label) := ⟨rfl, rfl, rfl, by decide +kernel, rfl, by decide +kernel, by decide +kernel⟩
theorem sc_turned : FnScope ["tree", "path"] ["tree", "path"] (defScope s_turned) := ⟨rfl, rfl, rfl, by decide +kernel, rfl, by decide +kernel, by decide +kernel⟩
theorem sc_has_form_of_edit : FnScope ["value"] ["value"] (defScope s_has_form_of_edit) := ⟨rfl, rfl, rfl, by decide +kernel, rfl, by decide +kernel, by decide +kernel⟩
theorem sc_edited : FnScope ["tree", "edit", "word", "rest", "action"] ["tree", "edit"] (defScope s_edited) := ⟨rfl, rfl, rfl, by decide +kernel, rfl, by decide +kernel, by decide +kernel⟩
theorem sc__law_deck : FnScope ["_law_script", "_law_cell", "_law_cells"] ["_law_script"] (defScope s__law_deck) := ⟨rfl, rfl, rfl, by decide +kernel, rfl, by decide +kernel, by decide +kernel⟩
theorem sc__law_next : FnScope ["_law_deck_here", "_law_many", "_law_cells", "_law_rests", "_law_count", "_law_index", "_law_digit", "_law_mixed"] ["_law_deck_here", "_law_many"] (defScope s__law_next) := ⟨rfl, rfl, rfl, by decide +kernel, rfl, by decide +kernel, by decide +kernel⟩
theorem sc__law_one : FnScope ["_law_deck_here", "_law_items"] ["_law_deck_here", "_law_items"] (defScope s__law_one) := ⟨rfl, rfl, rfl, by decide +kernel, rfl, by decide +kernel, by decide +kernel⟩
theorem sc__law_same : FnScope ["_law_found", "_law_due", "_law_k"] ["_law_found", "_law_due"] (defScope s__law_same) := ⟨rfl, rfl, rfl, by decide +kernel, rfl, by decide +kernel, by decide +kernel⟩
theorem sc__law_letters : FnScope ["_law_deck_here", "_law_size", "_law_way", "_law_some", "_law_k", "_law_found"] ["_law_deck_here", "_law_size"] (defScope s__law_letters) := ⟨rfl, rfl, rfl, by decide +kernel, rfl, by decide +kernel, by decide +kernel⟩
theorem sc__law_grown : FnScope ["_law_deck_here", "_law_size", "_law_way", "_law_letters_here", "_law_many", "_law_left"] ["_law_deck_here", "_law_size", "_law_way", "_law_letters_here"] (defScope s__law_grown) := ⟨rfl, rfl, rfl, by decide +kernel, rfl, by decide +kernel, by decide +kernel⟩
theorem sc__law_tree : FnScope ["_law_deck_here", "_law_limit", "_law_size", "_law_way"] ["_law_deck_here", "_law_limit"] (defScope s__law_tree) := ⟨rfl, rfl, rfl, by decide +kernel, rfl, by decide +kernel, by decide +kernel⟩
theorem sc__law_bent : FnScope ["_law_deck_here", "_law_text", "_law_at", "_law_course", "_law_sign"] ["_law_deck_here", "_law_text"] (defScope s__law_bent) := ⟨rfl, rfl, rfl, by decide +kernel, rfl, by decide +kernel, by decide +kernel⟩
theorem sc__law_tried : FnScope ["_law_value", "_law_is_desk", "error"] ["_law_value", "_law_is_desk"] (defScope s__law_tried) := ⟨rfl, rfl, rfl, by decide +kernel, rfl, by decide +kernel, by decide +kernel⟩
theorem sc__law_is_beginning : FnScope ["_law_text", "_law_found"] ["_law_text"] (defScope s__law_is_beginning) := ⟨rfl, rfl, rfl, by decide +kernel, rfl, by decide +kernel, by decide +kernel⟩
theorem sc__law_right : FnScope ["_law_deck_here", "_law_value", "_law_found", "_law_place", "_law_tails", "_law_tail"] ["_law_deck_here", "_law_value"] (defScope s__law_right) := ⟨rfl, rfl, rfl, by decide +kernel, rfl, by decide +kernel, by decide +kernel⟩
theorem sc__law_joined_right : FnScope ["_law_deck_here", "_law_one_here", "_law_other", "_law_label", "_law_part", "_law_words", "_law_due"] ["_law_deck_here", "_law_one_here", "_law_other"] (defScope s__law_joined_right) := ⟨rfl, rfl, rfl, by decide +kernel, rfl, by decide +kernel, by decide +kernel⟩
theorem sc_law : FnScope ["_law_script", "_law_deck_here", "_law_turn", "_law_tree_here", "_law_text", "_law_some", "_law_k", "_law_once", "_law_twice", "_law_value"] ["_law_script"] (defScope s_law) := ⟨rfl, rfl, rfl, by decide +kernel, rfl, by decide +kernel, by decide +kernel⟩
theorem sc_TooLarge___init__ : FnScope ["self", "limit"] ["self", "limit"] (defScope s_TooLarge___init__) := ⟨rfl, rfl, rfl, by decide +kernel, rfl, by decide +kernel, by decide +kernel⟩
theorem sc_TooMany___init__ : FnScope ["self", "limit"] ["self", "limit"] (defScope s_TooMany___init__) := ⟨rfl, rfl, rfl, by decide +kernel, rfl, by decide +kernel, by decide +kernel⟩
theorem sc_NotOpen___init__ : FnScope ["self", "path"] ["self", "path"] (defScope s_NotOpen___init__) := ⟨rfl, rfl, rfl, by decide +kernel, rfl, by decide +kernel, by decide +kernel⟩
theorem sc_NoLabel___init__ : FnScope ["self", "letter"] ["self", "letter"] (defScope s_NoLabel___init__) := ⟨rfl, rfl, rfl, by decide +kernel, rfl, by decide +kernel, by decide +kernel⟩
theorem sc_BadEdit___init__ : FnScope ["self", "index"] ["self", "index"] (defScope s_BadEdit___init__) := ⟨rfl, rfl, rfl, by decide +kernel, rfl, by decide +kernel, by decide +kernel⟩
theorem sc_Rejected___init__ : FnScope ["self", "index"] ["self", "index"] (defScope s_Rejected___init__) := ⟨rfl, rfl, rfl, by decide +kernel, rfl, by decide +kernel, by decide +kernel⟩
theorem sc_BadText___init__ : FnScope ["self", "index"] ["self", "index"] (defScope s_BadText___init__) := ⟨rfl, rfl, rfl, by decide +kernel, rfl, by decide +kernel, by decide +kernel⟩
theorem sc_NoPath___init__ : FnScope ["self", "value"] ["self", "value"] (defScope s_NoPath___init__) := ⟨rfl, rfl, rfl, by decide +kernel, rfl, by decide +kernel, by decide +kernel⟩
theorem sc_NoVersion___init__ : FnScope ["self", "value"] ["self", "value"] (defScope s_NoVersion___init__) := ⟨rfl, rfl, rfl, by decide +kernel, rfl, by decide +kernel, by decide +kernel⟩
theorem sc_Desk___init__ : FnScope ["self", "tree"] ["self", "tree"] (defScope s_Desk___init__) := ⟨rfl, rfl, rfl, by decide +kernel, rfl, by decide +kernel, by decide +kernel⟩
theorem sc_Desk_read : FnScope ["cls", "text"] ["cls", "text"] (defScope s_Desk_read) := ⟨rfl, rfl, rfl, by decide +kernel, rfl, by decide +kernel, by decide +kernel⟩
theorem sc_Desk_is_edit : FnScope ["value"] ["value"] (defScope s_Desk_is_edit) := ⟨rfl, rfl, rfl, by decide +kernel, rfl, by decide +kernel, by decide +kernel⟩
theorem sc_Desk_put : FnScope ["self", "path", "label"] ["self", "path", "label"] (defScope s_Desk_put) := ⟨rfl, rfl, rfl, by decide +kernel, rfl, by decide +kernel, by decide +kernel⟩
theorem sc_Desk_cut : FnScope ["self", "path"] ["self", "path"] (defScope s_Desk_cut) := ⟨rfl, rfl, rfl, by decide +kernel, rfl, by decide +kernel, by decide +kernel⟩
theorem sc_Desk_label : FnScope ["self", "path", "label"] ["self", "path", "label"] (defScope s_Desk_label) := ⟨rfl, rfl, rfl, by decide +kernel, rfl, by decide +kernel, by decide +kernel⟩
theorem sc_Desk_turn : FnScope ["self", "path"] ["self", "path"] (defScope s_Desk_turn) := ⟨rfl, rfl, rfl, by decide +kernel, rfl, by decide +kernel, by decide +kernel⟩
theorem sc_Desk_undo : FnScope ["self"] ["self"] (defScope s_Desk_undo) := ⟨rfl, rfl, rfl, by decide +kernel, rfl, by decide +kernel, by decide +kernel⟩
theorem sc_Desk_version : FnScope ["self"] ["self"] (defScope s_Desk_version) := ⟨rfl, rfl, rfl, by decide +kernel, rfl, by decide +kernel, by decide +kernel⟩
theorem sc_Desk_size : FnScope ["self"] ["self"] (defScope s_Desk_size) := ⟨rfl, rfl, rfl, by decide +kernel, rfl, by decide +kernel, by decide +kernel⟩
theorem sc_Desk_first : FnScope ["self"] ["self"] (defScope s_Desk_first) := ⟨rfl, rfl, rfl, by decide +kernel, rfl, by decide +kernel, by decide +kernel⟩
theorem sc_Desk_between : FnScope ["self"] ["self"] (defScope s_Desk_between) := ⟨rfl, rfl, rfl, by decide +kernel, rfl, by decide +kernel, by decide +kernel⟩
theorem sc_Desk_last : FnScope ["self"] ["self"] (defScope s_Desk_last) := ⟨rfl, rfl, rfl, by decide +kernel, rfl, by decide +kernel, by decide +kernel⟩
theorem sc_Desk_edits : FnScope ["self"] ["self"] (defScope s_Desk_edits) := ⟨rfl, rfl, rfl, by decide +kernel, rfl, by decide +kernel, by decide +kernel⟩
theorem sc_Desk_history : FnScope ["self"] ["self"] (defScope s_Desk_history) := ⟨rfl, rfl, rfl, by decide +kernel, rfl, by decide +kernel, by decide +kernel⟩
theorem sc_Desk___len__ : FnScope ["self"] ["self"] (defScope s_Desk___len__) := ⟨rfl, rfl, rfl, by decide +kernel, rfl, by decide +kernel, by decide +kernel⟩
theorem sc_Desk___str__ : FnScope ["self"] ["self"] (defScope s_Desk___str__) := ⟨rfl, rfl, rfl, by decide +kernel, rfl, by decide +kernel, by decide +kernel⟩
theorem sc_Desk___eq__ : FnScope ["self", "other"] ["self", "other"] (defScope s_Desk___eq__) := ⟨rfl, rfl, rfl, by decide +kernel, rfl, by decide +kernel, by decide +kernel⟩
theorem sc_Desk_check_free : FnScope ["self"] ["self"] (defScope s_Desk_check_free) := ⟨rfl, rfl, rfl, by decide +kernel, rfl, by decide +kernel, by decide +kernel⟩
theorem sc_Desk_check_tree : FnScope ["self", "tree"] ["self", "tree"] (defScope s_Desk_check_tree) := ⟨rfl, rfl, rfl, by decide +kernel, rfl, by decide +kernel, by decide +kernel⟩
theorem sc_Desk_checked_batch : FnScope ["self", "edits", "index", "edit"] ["self", "edits"] (defScope s_Desk_checked_batch) := ⟨rfl, rfl, rfl, by decide +kernel, rfl, by decide +kernel, by decide +kernel⟩
theorem sc_Desk_take : FnScope ["self", "edit", "tree"] ["self", "edit"] (defScope s_Desk_take) := ⟨rfl, rfl, rfl, by decide +kernel, rfl, by decide +kernel, by decide +kernel⟩
theorem sc_Desk_could_take : FnScope ["self", "edit"] ["self", "edit"] (defScope s_Desk_could_take) := ⟨rfl, rfl, rfl, by decide +kernel, rfl, by decide +kernel, by decide +kernel⟩
theorem sc_Desk_called : FnScope ["self", "edit"] ["self", "edit"] (defScope s_Desk_called) := ⟨rfl, rfl, rfl, by decide +kernel, rfl, by decide +kernel, by decide +kernel⟩
theorem sc_Desk_told : FnScope ["self", "name"] ["self", "name"] (defScope s_Desk_told) := ⟨rfl, rfl, rfl, by decide +kernel, rfl, by decide +kernel, by decide +kernel⟩
abbrev sDeck : Stmt := s__law_deck
abbrev sNext : Stmt := s__law_next
abbrev sSame : Stmt := s__law_same
abbrev sLett : Stmt := s__law_letters
abbrev sGrown : Stmt := s__law_grown
abbrev sTree : Stmt := s__law_tree
/-! ### the deck -/
structure Deck where
  dk : Addr
  ca : Addr
  ra : Addr
structure DeckOk (H : Hp) (D : Deck) (n : Nat) : Prop where
  ex : ∃ cells rests : List Int, H D.dk = some (.lst [.ref D.ca, .ref D.ra, .int (n : Int)]) ∧ H D.ca = some (.lst (cells.map V.int)) ∧ H D.ra = some (.lst (rests.map V.int)) ∧ 0 < cells.length ∧ rests.length = cells.length ∧ cells.length ≤ 61
  dc : D.dk ≠ D.ca
  dr : D.dk ≠ D.ra
  cr : D.ca ≠ D.ra
/-- all stands still but the deck's list and its rests -/
def SameD (D : Deck) (H H' : Hp) : Prop := ∀ b o, b ≠ D.dk → b ≠ D.ra → H b = some o → H' b = some o
theorem SameD.refl (D : Deck) (H : Hp) : SameD D H H := fun _ _ _ _ h => h
theorem SameD.trans {D : Deck} {H H1 H2 : Hp} (a : SameD D H H1) (b : SameD D H1 H2) : SameD D H H2 := fun c o h1 h2 h => b c o h1 h2 (a c o h1 h2 h)
theorem SameD.of {D : Deck} {H H' : Hp} (h : Same H H') : SameD D H H' := fun b o _ _ e => h b o e
theorem DeckOk.lists {H : Hp} {D : Deck} {n : Nat} (d : DeckOk H D n) : (∃ xs, H D.dk = some (.lst xs)) ∧ (∃ xs, H D.ra = some (.lst xs)) := by
  obtain ⟨c, r, h1, _, h3, _⟩ := d.ex
  exact ⟨⟨_, h1⟩, ⟨_, h3⟩⟩
theorem SameD.keepT {D : Deck} {H H' : Hp} {n : Nat} (h : SameD D H H') (d : DeckOk H D n) : KeepT H H' := fun b xs e => by
  obtain ⟨⟨x1, h1⟩, ⟨x2, h2⟩⟩ := d.lists
  exact h b _ (ne_of e h1 (by intro z; cases z)) (ne_of e h2 (by intro z; cases z)) e
theorem SameD.free {D : Deck} {H H' : Hp} {n : Nat} (h : SameD D H H') (d : DeckOk H' D n) {p : Addr} (e : H' p = none) : H p = none := by
  obtain ⟨⟨x1, h1⟩, ⟨x2, h2⟩⟩ := d.lists
  have n1 : p ≠ D.dk := fun z => by rw [z, h1] at e; cases e
  have n2 : p ≠ D.ra := fun z => by rw [z, h2] at e; cases e
  cases q : H p with
  | none => rfl
  | some o =>
    rw [h p o n1 n2 q] at e
    cases e
theorem DeckOk.same {H H' : Hp} {D : Deck} {n : Nat} (d : DeckOk H D n) (h : Same H H') : DeckOk H' D n := by
  obtain ⟨c, r, h1, h2, h3, h4⟩ := d.ex
  exact ⟨⟨c, r, h _ _ h1, h _ _ h2, h _ _ h3, h4⟩, d.dc, d.dr, d.cr⟩
structure Off (D : Deck) (p : Addr) : Prop where
  dk : p ≠ D.dk
  ca : p ≠ D.ca
  ra : p ≠ D.ra
theorem DeckOk.new {H : Hp} {D : Deck} {n : Nat} (d : DeckOk H D n) {p : Addr} (e : H p = none) : Off D p := by
  obtain ⟨c, r, h1, h2, h3, _⟩ := d.ex
  refine ⟨fun z => ?_, fun z => ?_, fun z => ?_⟩
  · rw [z, h1] at e
    cases e
  · rw [z, h2] at e
    cases e
  · rw [z, h3] at e
    cases e
theorem DeckOk.put {H : Hp} {D : Deck} {n : Nat} (d : DeckOk H D n) {p : Addr} (f : Off D p) (o : HO) : DeckOk (upd H p o) D n := by
  obtain ⟨c, r, h1, h2, h3, h4⟩ := d.ex
  exact ⟨⟨c, r, by rw [upd_ne f.dk.symm]; exact h1, by rw [upd_ne f.ca.symm]; exact h2, by rw [upd_ne f.ra.symm]; exact h3, h4⟩, d.dc, d.dr, d.cr⟩
theorem SameD.put {D : Deck} {H H' : Hp} {p : Addr} (s : SameD D H H') (e : H p = none) (o : HO) : SameD D H (upd H' p o) := fun b u h1 h2 h => by
  rw [upd_ne (ne_of_none h e)]
  exact s b u h1 h2 h
theorem SameD.at {D : Deck} {H H' : Hp} {p : Addr} {o : HO} (s : SameD D H H') (f : Off D p) (e : H p = some o) : H' p = some o := s p o f.dk f.ra e
theorem at_map {α : Type} {f : α → V} {ns : List α} {i : Int} {v : α} (h0 : 0 ≤ i) (h : ns[i.toNat]? = some v) : atI (ns.map f) i = some (f v) := by
  have e : i = ((i.toNat : Nat) : Int) := by omega
  rw [e]
  exact atI_nat (by rw [List.getElem?_map, h]; rfl)
theorem rep_flat {α : Type} (a : α) : ∀ m : Nat, (List.replicate m [a]).flatten = List.replicate m a
  | 0 => rfl
  | m + 1 => by
    rw [List.replicate_succ, List.replicate_succ, List.flatten_cons, rep_flat a m]
    rfl
theorem at_int {ns : List Int} {i : Int} {v : Int} (h0 : 0 ≤ i) (h : ns[i.toNat]? = some v) : atI (ns.map V.int) i = some (.int v) := by
  have e : i = ((i.toNat : Nat) : Int) := by omega
  rw [e]
  exact atI_nat (by rw [List.getElem?_map, h]; rfl)
theorem ixN_nat {n : Nat} {i : Int} (h0 : 0 ≤ i) (h : i < n) : ixN n i = some i.toNat := by
  unfold ixN
  first
    | rw [if_pos h0, if_pos h]
    | (rw [if_pos h0]; rw [if_pos (by omega)])
    | simp [h0, h]
theorem mod1 (z : Int) : -(2 ^ 64) < z % 2305843009213693951 ∧ z % 2305843009213693951 < 2 ^ 64 := by
  have a := Int.emod_nonneg z (show (2305843009213693951 : Int) ≠ 0 by decide)
  have b := Int.emod_lt_of_pos z (show (0 : Int) < 2305843009213693951 by decide)
  omega
theorem mod2 (z : Int) : -(2 ^ 64) < z % 2305843009213693921 ∧ z % 2305843009213693921 < 2 ^ 64 := by
  have a := Int.emod_nonneg z (show (2305843009213693921 : Int) ≠ 0 by decide)
  have b := Int.emod_lt_of_pos z (show (0 : Int) < 2305843009213693921 by decide)
  omega
def spNext : Sp := fun vs H Q _ => ∃ (D : Deck) (n : Nat) (m : Int), vs = [.ref D.dk, .int m] ∧ DeckOk H D n ∧ n ≤ 1000000 ∧ 0 < m ∧ m ≤ 1000 ∧ ∀ (i : Int) (H' : Hp), 0 ≤ i → i < m → DeckOk H' D (n + 1) → SameD D H H' → Q (.int i) H'
theorem scNext : FnScope ["_law_deck_here", "_law_many", "_law_cells", "_law_rests", "_law_count", "_law_index", "_law_digit", "_law_mixed"] ["_law_deck_here", "_law_many"] (defScope sNext) := ⟨rfl, rfl, rfl, by decide +kernel, rfl, by decide +kernel, by decide +kernel⟩
section
variable {P : Program} {w : World} {K : PySem.W.Frag} {mg : Str → Option Value} {base : Heap} {f : Addr} {fd : FuncData}
theorem ok_next {k : Nat} (F : Fun K "_law_next" "_law_next" sNext f fd) (ml : mg "len" = none) : FnOk P w K mg base CX0 (k + 1) f fd ["_law_deck_here", "_law_many"] spNext := by
  refine F.ok scNext (fun vs H Q E h => ?_) (fun cdv A outer s H vs Q E hr h => ?_)
  · obtain ⟨D, n, m, rfl, _⟩ := h
    rfl
  obtain ⟨D, n, m, rfl, d, hn, m0, m1, q⟩ := h
  obtain ⟨cells, rests, e1, e2, e3, c0, cr, c1⟩ := d.ex
  refine ⟨_, pss_cons (ps_asg (pv 0) (pg_unl rfl (pgs_cons (pg_name (i := 2) scNext.nd rfl (.inl rfl)) (pgs_cons (pg_name (i := 3) scNext.nd rfl (.inl rfl)) (pgs_cons (pg_name (i := 4) scNext.nd rfl (.inl rfl)) pgs_nil)))))
    (pss_cons (ps_asg (pe_op op_add (pv 4) pe_int) (pg_sub (pv 0) pe_int set_list))
    (pss_cons (ps_set (i := 5) scNext.nd rfl (.inl rfl) (pe_op op_mod (pv 4) (pe_callB call_len_seq rfl ml PySem.boot_len (pa_cons (pv 2) pa_nil))))
    (pss_cons (ps_if (pt_cmpR op_gt (pe_ix ix_list (pv 3) (pv 5) (fun _ _ => rfl)) pe_int (nomark _))
      (pss_cons (ps_set (i := 6) scNext.nd rfl (.inl rfl) (pe_op op_mod (pe_ix ix_list (pv 3) (pv 5) (fun _ _ => rfl)) (pv 1)))
      (pss_cons (ps_asg (pe_op op_fdiv (pe_ix ix_list (pv 3) (pv 5) (fun _ _ => rfl)) (pv 1)) (pg_sub (pv 3) (pv 5) set_list))
      (pss_one (ps_ret (pv 6))))) pss_nil)
    (pss_cons (ps_set (i := 7) scNext.nd rfl (.inl rfl) (pe_op op_mul (pe_op op_add (pe_op op_add (pe_ix ix_list (pv 2) (pv 5) (fun _ _ => rfl)) (pe_op op_mul pe_int (pv 4))) pe_int) (pe_op op_add pe_int (pe_op op_mul pe_int (pv 4)))))
    (pss_cons (ps_set (i := 7) scNext.nd rfl (.inl rfl) (pe_op op_mod (pe_op op_add (pv 7) (pe_op op_mul pe_int (pv 4))) pe_int))
    (pss_cons (ps_set (i := 7) scNext.nd rfl (.inl rfl) (pe_op op_mod (pe_op op_add (pe_op op_mul (pv 7) (pv 7)) pe_int) pe_int))
    (pss_cons (ps_set (i := 7) scNext.nd rfl (.inl rfl) (pe_op op_mod (pe_op op_mul (pv 7) (pv 7)) pe_int))
    (pss_one (ps_ret (pe_op op_mod (pe_op op_fdiv (pv 7) pe_int) (pv 1))))))))))), ?_⟩
  -- the three parts
  refine ⟨_, rfl, D.dk, _, rfl, SqL.of e1, rfl, _, _, rfl, _, _, rfl, _, _, rfl, rfl, ?_⟩
  -- deck[2] = count + 1
  refine ⟨_, rfl, _, _, rfl, rfl, _, rfl, D.dk, _, _, 2, rfl, rfl, e1, rfl, ?_⟩
  have x2 : (upd H D.dk (.lst [.ref D.ca, .ref D.ra, .int ((n : Int) + 1)])) D.ca = some (.lst (cells.map V.int)) := by rw [upd_ne d.dc.symm]; exact e2
  have x3 : (upd H D.dk (.lst [.ref D.ca, .ref D.ra, .int ((n : Int) + 1)])) D.ra = some (.lst (rests.map V.int)) := by rw [upd_ne d.dr.symm]; exact e3
  have x1 : (upd H D.dk (.lst [.ref D.ca, .ref D.ra, .int ((n : Int) + 1)])) D.dk = some (.lst [.ref D.ca, .ref D.ra, .int ((n + 1 : Nat) : Int)]) := upd_same
  have sd : SameD D H (upd H D.dk (.lst [.ref D.ca, .ref D.ra, .int ((n : Int) + 1)])) := fun b o h1 _ e => by rw [upd_ne h1]; exact e
  have cl : ((cells.map V.int).length : Int) = (cells.length : Int) := by rw [List.length_map]
  have rl : ((rests.map V.int).length : Int) = (cells.length : Int) := by rw [List.length_map, cr]
  -- index
  refine ⟨_, rfl, _, rfl, D.ca, _, rfl, .inl (SqL.of x2), _, _, rfl, rfl, (by show (0 : Int) < ((cells.map V.int).length : Int); rw [cl]; omega), ?_⟩
  have i0 : 0 ≤ (n : Int) % ((cells.map V.int).length : Int) := Int.emod_nonneg _ (by rw [cl]; omega)
  have i1 : (n : Int) % ((cells.map V.int).length : Int) < (cells.length : Int) := by
    rw [cl]
    exact Int.emod_lt_of_pos _ (by omega)
  have l1 : ((n : Int) % ((cells.map V.int).length : Int)).toNat < rests.length := by omega
  have l2 : ((n : Int) % ((cells.map V.int).length : Int)).toNat < cells.length := by omega
  have a1 := at_int i0 (List.getElem?_eq_getElem l1)
  have a2 := at_int i0 (List.getElem?_eq_getElem l2)
  refine ⟨_, rfl, _, rfl, D.ra, _, _, _, rfl, rfl, SqL.of x3, a1, _, _, rfl, rfl, _, rfl, ite2 (fun _ => ?_) (fun _ => ?_)⟩
  · refine ⟨_, rfl, _, rfl, D.ra, _, _, _, rfl, rfl, SqL.of x3, a1, _, rfl, _, _, rfl, rfl, m0, ?_⟩
    refine ⟨_, rfl, _, rfl, D.ra, _, _, _, rfl, rfl, SqL.of x3, a1, _, rfl, _, _, rfl, rfl, ⟨m0, by omega⟩, ?_⟩
    refine ⟨_, rfl, _, rfl, D.ra, _, _, _, rfl, rfl, x3, ixN_nat i0 (by rw [rl]; exact i1), ?_⟩
    refine ⟨_, rfl, ?_⟩
    refine q _ _ (Int.emod_nonneg _ (by omega)) (Int.emod_lt_of_pos _ m0) ⟨⟨cells, rests.set ((n : Int) % ((cells.map V.int).length : Int)).toNat (rests[((n : Int) % ((cells.map V.int).length : Int)).toNat] / m), ?_, ?_, ?_, c0, ?_, c1⟩, d.dc, d.dr, d.cr⟩ ?_
    · rw [upd_ne d.dr]; exact x1
    · rw [upd_ne d.cr]; exact x2
    · rw [upd_same, List.map_set]
    · rw [List.length_set]; exact cr
    · exact sd.trans fun b o _ h2 e => by rw [upd_ne h2]; exact e
  · refine ⟨_, rfl, _, rfl, D.ca, _, _, _, rfl, rfl, SqL.of x2, a2, _, rfl, _, _, rfl, rfl, .inl ⟨by decide, by decide⟩, _, _, rfl, rfl, _, _, rfl, rfl, _, rfl, _, _, rfl, rfl, .inl ⟨by decide, by decide⟩, _, _, rfl, rfl, _, _, rfl, rfl, .inr ⟨by omega, by omega⟩, ?_⟩
    refine ⟨_, rfl, _, rfl, _, _, rfl, rfl, .inl ⟨by decide, by decide⟩, _, _, rfl, rfl, _, _, rfl, rfl, (show (0 : Int) < 2305843009213693951 by decide), ?_⟩
    refine ⟨_, rfl, _, rfl, _, _, rfl, rfl, .inl (mod1 _), _, _, rfl, rfl, _, _, rfl, rfl, (show (0 : Int) < 2305843009213693921 by decide), ?_⟩
    refine ⟨_, rfl, _, rfl, _, _, rfl, rfl, .inl (mod2 _), _, _, rfl, rfl, (show (0 : Int) < 2305843009213693951 by decide), ?_⟩
    refine ⟨_, rfl, _, _, rfl, rfl, ⟨by decide, by decide⟩, _, rfl, _, _, rfl, rfl, m0, ?_⟩
    exact q _ _ (Int.emod_nonneg _ (by omega)) (Int.emod_lt_of_pos _ m0) ⟨⟨cells, rests, x1, x2, x3, c0, cr, c1⟩, d.dc, d.dr, d.cr⟩ sd
end
/-! ### _law_deck -/
theorem cut_to (xs : List V) (k : Nat) : cutV xs none (some (k : Int)) = xs.take k := by
  unfold cutV
  rw [HT.sIx_nat, HT.sIx_none, List.drop_zero, Nat.sub_zero]
  rw [Nat.min_def]
  split
  · rfl
  · rw [List.take_of_length_le (Nat.le_refl _), List.take_of_length_le (by omega)]
theorem cut_from (xs : List V) (k : Nat) : cutV xs (some (k : Int)) none = xs.drop k := by
  unfold cutV
  rw [HT.sIx_nat, HT.sIx_none]
  by_cases h : k ≤ xs.length
  · rw [Nat.min_eq_left h, List.take_of_length_le (by rw [List.length_drop]; omega)]
  · rw [Nat.min_eq_right (by omega), List.drop_eq_nil_of_le (Nat.le_refl _), List.drop_eq_nil_of_le (by omega), List.take_nil]
theorem kept {σ : L2.St} {H : Hp} {A B : Hp → Prop} (h : A H) : tYes σ H (fun b H3 => if b = true then A H3 else B H3) := by
  show if true = true then A H else B H
  exact iteT h
theorem scDeck : FnScope ["_law_script", "_law_cells", "_law_cell"] ["_law_script"] (defScope sDeck) := ⟨rfl, rfl, rfl, by decide +kernel, rfl, by decide +kernel, by decide +kernel⟩
def spDeck (K : PySem.W.Frag) : Sp := fun vs H Q _ => ∃ (a : Addr) (ns : List Int), vs = [.ref a] ∧ SqL K H a (ns.map V.int) ∧ ∀ (D : Deck) (H' : Hp), DeckOk H' D 0 → Same H H' → Q (.ref D.dk) H'
section
variable {P : Program} {w : World} {K : PySem.W.Frag} {mg : Str → Option Value} {base : Heap} {f : Addr} {fd : FuncData}
theorem ok_deck {k : Nat} (F : Fun K "_law_deck" "_law_deck" sDeck f fd) (ml : mg "len" = none) (ma : mg "abs" = none) (mi : mg "int" = none) : FnOk P w K mg base CX0 (k + 1) f fd ["_law_script"] (spDeck K) := by
  refine F.ok scDeck (fun vs H Q E h => ?_) (fun cdv A outer s H vs Q E hr h => ?_)
  · obtain ⟨a, ns, rfl, _⟩ := h
    rfl
  obtain ⟨a, ns, rfl, hS, q⟩ := h
  refine ⟨_, pss_cons (ps_set (i := 1) scDeck.nd rfl (.inl rfl) (pe_op op_cat
      (pe_lc (own := [("_law_cell", 2)]) (g := gName 2) (tt := tYes) rfl scDeck.nd (pi_list (pe_slice sl_list (pv 0) po_none (po_some pe_int))) (blkOk_by (N := ["_law_script", "_law_cells", "_law_cell"]) (sc := defScope sDeck) (by decide +kernel))
        (fun _ _ _ _ _ => pg_name (i := 2) scDeck.nd rfl (Or.inl rfl)) (fun _ _ _ _ _ => pts_nil) (fun _ _ _ _ _ => pe_callB call_abs rfl ma (by decide +kernel) (pa_cons (pv 2) pa_nil)))
      (pe_op op_rep (pe_lst (pa_cons pe_int pa_nil)) (pe_callTy call_int1 rfl mi (by decide +kernel) (pa_cons (pe_cmpR op_eq (pe_callB call_len_seq rfl ml PySem.boot_len (pa_cons (pv 0) pa_nil)) pe_int (nomark _)) pa_nil)))))
    (pss_one (ps_ret (pe_lst (pa_cons (pv 1) (pa_cons
      (pe_lc (own := [("_law_cell", 2)]) (g := gName 2) (tt := tYes) rfl scDeck.nd (pi_list (pv 1)) (blkOk_by (N := ["_law_script", "_law_cells", "_law_cell"]) (sc := defScope sDeck) (by decide +kernel))
        (fun _ _ _ _ _ => pg_name (i := 2) scDeck.nd rfl (Or.inl rfl)) (fun _ _ _ _ _ => pts_nil)
        (fun _ _ _ _ _ => pe_op op_mul (pv 2) (pe_callTy call_int1 rfl mi (by decide +kernel) (pa_cons (pe_cmpR op_ge (pv 2) (pe_op op_pow pe_int pe_int) (nomark _)) pa_nil))))
      (pa_cons pe_int pa_nil)))))), ?_⟩
  refine ⟨.ref a, rfl, 61, rfl, a, ns.map V.int, rfl, hS, fun c nc => ?_⟩
  rw [show (61 : Int) = ((61 : Nat) : Int) from rfl, cut_to, ← List.map_take]
  have s1 := same_new nc (.lst ((ns.take 61).map V.int))
  refine ⟨c, rfl, ⟨_, SqL.of upd_same⟩, fun d1 n1 => ?_⟩
  have s2 := same_new n1 (.lst [])
  refine lc_list (K := K) (a := c) (xs := (ns.take 61).map V.int) (fun i H' => Same (upd H c (.lst ((ns.take 61).map V.int))) H' ∧ ∃ zs : List Int, zs.length = i ∧ H' d1 = some (.lst (zs.map V.int))) ⟨s2, [], rfl, upd_same⟩ (fun i H' _ hp => SqL.of (hp.1 _ _ upd_same)) (fun i x H' hx hp => ?_) (fun H1 hp => ?_)
  · obtain ⟨sm, zs, hz, hd⟩ := hp
    rw [List.getElem?_map] at hx
    obtain ⟨y, hy, rfl⟩ := Option.map_eq_some_iff.mp hx
    have hi : i < 61 := by
      have := (List.getElem?_eq_some_iff.mp hy).1
      rw [List.length_take] at this
      omega
    refine ⟨rfl, kept ?_⟩
    refine ⟨_, rfl, _, rfl, _, hd, by rw [List.length_map]; exact small1000 (by omega), fun b o e => ?_, zs ++ [if y < 0 then -y else y], by rw [List.length_append, hz]; rfl, ?_⟩
    · rw [upd_ne (ne_of_none e n1)]
      exact sm _ _ e
    · rw [upd_same, List.map_append]
      rfl
  obtain ⟨sm, zs, hz, hd⟩ := hp
  rw [List.length_map, List.length_take] at hz
  refine ⟨(by show 1 ≤ sizeLine; decide), fun z nz => ?_⟩
  have s3 := same_new nz (.lst [.int 0])
  have sH : Same H H1 := s1.trans sm
  refine ⟨.ref a, rfl, a, _, rfl, .inl ((sH.trans s3).seq hS), rfl, .inr ⟨_, rfl, z, _, _, rfl, rfl, upd_same, ?_, ?_, ?_, fun y ny => ?_⟩⟩
  · split <;> decide
  · split <;> decide
  · split <;> decide
  have s4 := same_new ny (.lst (List.replicate (Int.toNat (if decide (V.int ((ns.map V.int).length : Int) = V.int 0) = true then 1 else 0)) [V.int 0]).flatten)
  obtain ⟨ex, hex, hexl⟩ : ∃ ex : List Int, (List.replicate (Int.toNat (if decide (V.int ((ns.map V.int).length : Int) = V.int 0) = true then 1 else 0)) [V.int 0]).flatten = ex.map V.int ∧ 0 < zs.length + ex.length ∧ zs.length + ex.length ≤ 61 := by
    by_cases h0 : ns.length = 0
    · refine ⟨[0], ?_, ?_, ?_⟩
      · rw [show (decide (V.int ((ns.map V.int).length : Int) = V.int 0)) = true by rw [List.length_map, h0]; rfl]
        rfl
      · exact Nat.succ_pos _
      · rw [hz, h0]
        decide
    · refine ⟨[], ?_, ?_, ?_⟩
      · rw [show (decide (V.int ((ns.map V.int).length : Int) = V.int 0)) = false by
          apply decide_eq_false
          intro z
          have z' := V.int.inj z
          rw [List.length_map] at z'
          omega]
        rfl
      · rw [List.length_nil]; omega
      · rw [List.length_nil]; omega
  refine ⟨d1, y, _, _, rfl, rfl, (s3.trans s4) _ _ hd, upd_same, ?_, fun p np => ?_⟩
  · rw [hex, List.length_map, List.length_map]
    exact small (by omega)
  have s5 := same_new np (.lst (zs.map V.int ++ (List.replicate (Int.toNat (if decide (V.int ((ns.map V.int).length : Int) = V.int 0) = true then 1 else 0)) [V.int 0]).flatten))
  have s6 := sH.trans (s3.trans (s4.trans s5))
  -- the second list
  refine ⟨.ref p, rfl, .ref p, rfl, p, rfl, ⟨_, SqL.of upd_same⟩, fun r nr => ?_⟩
  rw [hex, ← List.map_append] at s5 s6 nr ⊢
  generalize hH2 : upd (upd (upd H1 z (.lst [.int 0])) y (.lst (ex.map V.int))) p (.lst ((zs ++ ex).map V.int)) = H2 at s5 s6 nr ⊢
  have ep : H2 p = some (.lst ((zs ++ ex).map V.int)) := by rw [← hH2]; exact upd_same
  have hpr : p ≠ r := ne_of_none ep nr
  refine lc_list (K := K) (a := p) (xs := (zs ++ ex).map V.int) (fun i H' => Same H2 H' ∧ ∃ ys : List Int, ys.length = i ∧ H' r = some (.lst (ys.map V.int))) ⟨same_new nr _, [], rfl, upd_same⟩ (fun i H' _ hp => SqL.of (hp.1 _ _ ep)) (fun i x H' hx hp => ?_) (fun H3 hp => ?_)
  · obtain ⟨sm, ys, hy, hd⟩ := hp
    rw [List.getElem?_map] at hx
    obtain ⟨v, hv, rfl⟩ := Option.map_eq_some_iff.mp hx
    have hi : i < 61 := by
      have := (List.getElem?_eq_some_iff.mp hv).1
      rw [List.length_append] at this
      omega
    refine ⟨rfl, kept ?_⟩
    refine ⟨_, rfl, _, rfl, _, _, rfl, rfl, ⟨by decide, by decide, by decide⟩, _, _, rfl, rfl, .inr ⟨_, rfl, _, _, rfl, rfl, .inr ?_, _, hd, by rw [List.length_map]; exact small1000 (by omega), fun b o e => ?_, ys ++ [v * (if decide (v ≥ (10 : Int) ^ Int.toNat 18) = true then 1 else 0)], by rw [List.length_append, hy]; rfl, ?_⟩⟩
    · split <;> decide
    · rw [upd_ne (ne_of_none e nr)]
      exact sm _ _ e
    · rw [upd_same, List.map_append]
      rfl
  · obtain ⟨sm, ys, hy, hd⟩ := hp
    refine ⟨(by show 3 ≤ sizeLine; decide), fun t nt => ?_⟩
    have s9 := same_new nt (.lst [.ref p, .ref r, .int 0])
    have ep3 := sm _ _ ep
    refine q ⟨t, p, r⟩ _ ⟨⟨zs ++ ex, ys, upd_same, s9 _ _ ep3, s9 _ _ hd, ?_, ?_, ?_⟩, (ne_of_none ep3 nt).symm, (ne_of_none hd nt).symm, hpr⟩ (s6.trans (sm.trans s9))
    · rw [List.length_append]; omega
    · rw [hy, List.length_map]
    · rw [List.length_append]; omega
end
/-! ### _law_same, of equal data -/
theorem sqT_same {K : PySem.W.Frag} {H H' : Hp} {a : Addr} {xs : List V} (e : Same H H') (h : SqT K H a xs) : SqT K H' a xs := by
  rcases h with (h | ⟨o, h⟩) | h
  · exact .inl (.inl (e _ _ h))
  · exact .inl (.inr ⟨o, e _ _ h⟩)
  · exact .inr h
mutual
theorem dp_same {K : PySem.W.Frag} {H H' : Hp} (e : Same H H') : ∀ {v : V} {d : PyData}, Dp K H v d → Dp K H' v d
  | _, _, .non => .non
  | _, _, .bl b => .bl b
  | _, _, .int i => .int i
  | _, _, .str x => .str x
  | _, _, .lst h a => .lst (e.seq h) (dpAll_same e a)
  | _, _, .tup h a => .tup (sqT_same e h) (dpAll_same e a)
theorem dpAll_same {K : PySem.W.Frag} {H H' : Hp} (e : Same H H') : ∀ {vs : List V} {ds : List PyData}, DpAll K H vs ds → DpAll K H' vs ds
  | _, _, .nil => .nil
  | _, _, .cons h a => .cons (dp_same e h) (dpAll_same e a)
end
theorem dpAll_len {K : PySem.W.Frag} {H : Hp} : ∀ {vs : List V} {ds : List PyData}, DpAll K H vs ds → vs.length = ds.length
  | _, _, .nil => rfl
  | _, _, .cons _ a => congrArg (· + 1) (dpAll_len a)
theorem dpAll_get {K : PySem.W.Frag} {H : Hp} : ∀ {vs : List V} {ds : List PyData} {i : Nat} {d : PyData}, DpAll K H vs ds → ds[i]? = some d → ∃ v, vs[i]? = some v ∧ Dp K H v d
  | _, _, _, _, .nil, h => by simp at h
  | _, _, 0, _, .cons h _, e => by
    cases e
    exact ⟨_, rfl, h⟩
  | _, _, i + 1, _, .cons _ a, e => dpAll_get (i := i) a e
def tyD : PyData → String
  | .none => "NoneType"
  | .bool _ => "bool"
  | .int _ => "int"
  | .str _ => "str"
  | .list _ => "list"
  | .tuple _ => "tuple"
  | .dict _ => "dict"
theorem dp_ty {K : PySem.W.Frag} {H : Hp} {v : V} {d : PyData} (h : Dp K H v d) : TyX K H v (.type (tyD d)) := by
  cases h with
  | non => exact .base .non
  | bl b => exact .base (.bl b)
  | int i => exact .base (.int i)
  | str x => exact .base (.str x)
  | lst h _ =>
    rcases h with (h | ⟨o, h⟩) | ⟨o, its, n, h, hc, _⟩
    · exact .base (.lst h)
    · exact .base (.frz h)
    · exact .kList h hc
  | tup h _ =>
    rcases h with (h | ⟨o, h⟩) | ⟨o, its, n, h, hc, _⟩
    · exact .base (.tup h)
    · exact .fTuple h
    · exact .kTuple h hc
theorem kit_lt {K : PySem.W.Frag} {a : String} {r s : Bool} (h1 : kitB a "list" = some r) (h2 : kitB a "tuple" = some s) : PySem.W.kitAny K (.type a) [.type "list", .type "tuple"] = some (r || s) := by
  refine kitAny_cons (kit_ty h1) (fun e => kitAny_cons (kit_ty h2) (fun e2 => ?_) fun e2 => ?_) fun e => ?_
  · rw [kitAny_nil, e, e2]; rfl
  · rw [e2, Bool.or_true]
  · rw [e, Bool.true_or]
theorem depth_get : ∀ {ds : List PyData} {i : Nat} {d : PyData}, ds[i]? = some d → d.depth ≤ PyData.depthAll ds
  | [], _, _, h => by simp at h
  | x :: xs, 0, _, h => by
    cases h
    simp only [PyData.depthAll]
    omega
  | x :: xs, i + 1, d, h => by
    have := depth_get (ds := xs) (i := i) h
    simp only [PyData.depthAll]
    omega
mutual
def nar : PyData → Bool
  | .list xs => decide (xs.length ≤ 1000000) && narAll xs
  | .tuple xs => decide (xs.length ≤ 1000000) && narAll xs
  | .dict _ => false
  | .none => true
  | .bool _ => true
  | .int _ => true
  | .str _ => true
def narAll : List PyData → Bool
  | [] => true
  | x :: xs => nar x && narAll xs
end
theorem nar_get : ∀ {ds : List PyData} {i : Nat} {d : PyData}, ds[i]? = some d → narAll ds = true → nar d = true
  | [], _, _, h, _ => by simp at h
  | x :: xs, 0, _, h, k => by
    cases h
    simp only [narAll, Bool.and_eq_true] at k
    exact k.1
  | x :: xs, i + 1, d, h, k => by
    simp only [narAll, Bool.and_eq_true] at k
    exact nar_get (ds := xs) (i := i) h k.2
theorem scSame : FnScope ["_law_found", "_law_due", "_law_k"] ["_law_found", "_law_due"] (defScope sSame) := ⟨rfl, rfl, rfl, by decide +kernel, rfl, by decide +kernel, by decide +kernel⟩
def spSame (K : PySem.W.Frag) (n : Nat) : Sp := fun vs H Q _ => ∃ (v v' : V) (d : PyData), vs = [v, v'] ∧ Dp K H v d ∧ Dp K H v' d ∧ d.depth < n ∧ nar d = true ∧ ∀ H', Same H H' → Q (.bl true) H'
structure Mgs (mg : Str → Option Value) : Prop where
  len : mg "len" = none
  isi : mg "isinstance" = none
  list : mg "list" = none
  tuple : mg "tuple" = none
  str : mg "str" = none
  int : mg "int" = none
  bool : mg "bool" = none
  range : mg "range" = none
theorem dp_two {K : PySem.W.Frag} {H : Hp} {v v' : V} {d : PyData} {n : Nat} (h : Dp K H v d) (h' : Dp K H v' d) (hd : d.depth < n + 1) (hn : nar d = true) :
    (∃ (p p' : Addr) (xs xs' : List V) (ds : List PyData) (bl : Bool) (ty : String), v = .ref p ∧ v' = .ref p' ∧ (SqL K H p xs ∨ SqT K H p xs) ∧ (SqL K H p' xs' ∨ SqT K H p' xs') ∧ DpAll K H xs ds ∧ DpAll K H xs' ds ∧
      TyX K H v (.type ty) ∧ TyX K H v' (.type ty) ∧ kitB ty "list" = some bl ∧ kitB ty "tuple" = some (!bl) ∧ PyData.depthAll ds < n ∧ ds.length ≤ 1000000 ∧ narAll ds = true) ∨ (v = v' ∧ (v = .non ∨ (∃ b, v = .bl b) ∨ (∃ i, v = .int i) ∨ ∃ x, v = .str x)) := by
  have t1 := dp_ty h
  have t2 := dp_ty h'
  cases h with
  | non =>
    cases h'
    exact .inr ⟨rfl, .inl rfl⟩
  | bl b =>
    cases h'
    exact .inr ⟨rfl, .inr (.inl ⟨b, rfl⟩)⟩
  | int b =>
    cases h'
    exact .inr ⟨rfl, .inr (.inr (.inl ⟨b, rfl⟩))⟩
  | str b =>
    cases h'
    exact .inr ⟨rfl, .inr (.inr (.inr ⟨b, rfl⟩))⟩
  | lst h a =>
    cases h' with
    | lst h' a' =>
      simp only [PyData.depth] at hd
      simp only [nar, Bool.and_eq_true, decide_eq_true_eq] at hn
      exact .inl ⟨_, _, _, _, _, true, "list", rfl, rfl, .inl h, .inl h', a, a', t1, t2, by decide +kernel, by decide +kernel, by omega, hn.1, hn.2⟩
  | tup h a =>
    cases h' with
    | tup h' a' =>
      simp only [PyData.depth] at hd
      simp only [nar, Bool.and_eq_true, decide_eq_true_eq] at hn
      exact .inl ⟨_, _, _, _, _, false, "tuple", rfl, rfl, .inr h, .inr h', a, a', t1, t2, by decide +kernel, by decide +kernel, by omega, hn.1, hn.2⟩
theorem seq_same {K : PySem.W.Frag} {H H' : Hp} {p : Addr} {xs : List V} (e : Same H H') (h : SqL K H p xs ∨ SqT K H p xs) : SqL K H' p xs ∨ SqT K H' p xs := h.elim (fun h => .inl (e.seq h)) fun h => .inr (sqT_same e h)
theorem seq_ix {K : PySem.W.Frag} {H : Hp} {p : Addr} {xs : List V} {i : Int} {v : V} {Q : VK} (h : SqL K H p xs ∨ SqT K H p xs) (a : atI xs i = some v) (q : Q v H) : rIx K (.ref p) (.int i) H Q :=
  h.elim (fun h => .inl ⟨p, xs, i, v, rfl, rfl, h, a, q⟩) fun h => .inr (.inl ⟨p, xs, i, v, rfl, rfl, h, a, q⟩)
theorem tyX_same {K : PySem.W.Frag} {H H' : Hp} {v : V} {d : PyData} (e : Same H H') (h : Dp K H v d) : TyX K H' v (.type (tyD d)) := dp_ty (dp_same e h)
section
variable {P : Program} {w : World} {K : PySem.W.Frag} {mg : Str → Option Value} {base : Heap} {f : Addr} {fd : FuncData}
theorem ok_same (F : Fun K "_law_same" "_law_same" sSame f fd) (b : Binds K fd ["_law_found", "_law_due"] []) (g : mg "_law_same" = some (.ref f)) (M : Mgs mg) : ∀ n : Nat, FnOk P w K mg base CX0 n f fd ["_law_found", "_law_due"] (spSame K n)
  | 0 => by
    have no : ∀ vs H Q E, ¬ spSame K 0 vs H Q E := fun vs H Q E h => by
      obtain ⟨v, t, d, _, _, _, h1, _, _⟩ := h
      omega
    exact ⟨fun vs H Q E h => absurd h (no vs H Q E), fun A outer s H args us vs Q E _ _ _ _ h => absurd h (no vs H Q E)⟩
  | n + 1 => by
    have G := ok_same F b g M n
    refine F.ok scSame (fun vs H Q E h => ?_) (fun cdv A outer s H vs Q E hr h => ?_)
    · obtain ⟨v, t, d, rfl, _⟩ := h
      rfl
    obtain ⟨v, v', d, rfl, hv, hv', hd, hna, q⟩ := h
    have bi : bootBuiltins "isinstance" = some (.builtin "isinstance") := by decide +kernel
    refine ⟨_, pss_cons (ps_if (pt_val (pe_callB call_isiT rfl M.isi bi (pa_cons (pv 1) (pa_cons (pe_tup (pa_cons (pe_bltn (v := .ty "list") rfl M.list (by decide +kernel) rfl) (pa_cons (pe_bltn (v := .ty "tuple") rfl M.tuple (by decide +kernel) rfl) pa_nil))) pa_nil))))
        (pss_cons (ps_if (PW.pt (pw_or (pt_cmpR op_ne (pe_callB call_isi rfl M.isi bi (pa_cons (pv 0) (pa_cons (pe_bltn (v := .ty "list") rfl M.list (by decide +kernel) rfl) pa_nil))) (pe_callB call_isi rfl M.isi bi (pa_cons (pv 1) (pa_cons (pe_bltn (v := .ty "list") rfl M.list (by decide +kernel) rfl) pa_nil))) (nomark _))
            (pw_or1 (pt_cmpR op_ne (pe_callB call_isi rfl M.isi bi (pa_cons (pv 0) (pa_cons (pe_bltn (v := .ty "tuple") rfl M.tuple (by decide +kernel) rfl) pa_nil))) (pe_callB call_isi rfl M.isi bi (pa_cons (pv 1) (pa_cons (pe_bltn (v := .ty "tuple") rfl M.tuple (by decide +kernel) rfl) pa_nil))) (nomark _))))) (pss_one (ps_ret pe_bl)) pss_nil)
        (pss_cons (ps_if (pt_cmpR op_ne (pe_callB call_len_seq rfl M.len PySem.boot_len (pa_cons (pv 0) pa_nil)) (pe_callB call_len_seq rfl M.len PySem.boot_len (pa_cons (pv 1) pa_nil)) (nomark _)) (pss_one (ps_ret pe_bl)) pss_nil)
        (pss_one (ps_ret (pe_cmpR (op_eqD hr.units) (pe_lc (own := [("_law_k", 2)]) (g := gName 2) rfl scSame.nd (pi_range1 rfl M.range (pa_cons (pe_callB call_len_seq rfl M.len PySem.boot_len (pa_cons (pv 1) pa_nil)) pa_nil)) (blkOk_by (N := ["_law_found", "_law_due", "_law_k"]) (sc := defScope sSame) (by decide +kernel))
            (fun _ _ _ _ _ => pg_name (i := 2) scSame.nd rfl (Or.inl rfl)) (fun _ _ _ _ _ => pts_one (pt_not (pt_val (pe_call G hr rfl g F.kp b .nil pass0 (pa_cons (pe_ix (show IxR _ (rIx K) from ix_seq) (pv 0) (pv 2) (fun _ _ => rfl)) (pa_cons (pe_ix (show IxR _ (rIx K) from ix_seq) (pv 1) (pv 2) (fun _ _ => rfl)) pa_nil)))))) (fun _ _ _ _ _ => pv 2))
          (pe_lst pa_nil) (nomark _)))))) pss_nil)
      (pss_cons (ps_if (pt_cmpR op_isN (pv 1) pe_non (nomark _)) (pss_one (ps_ret (pe_cmpR op_isN (pv 0) pe_non (nomark _)))) pss_nil)
      (pss_cons (ps_if (pt_val (pe_callB call_isi rfl M.isi bi (pa_cons (pv 1) (pa_cons (pe_bltn (v := .ty "str") rfl M.str (by decide +kernel) rfl) pa_nil)))) (pss_one (ps_ret (pe_and (pe_callB call_isi rfl M.isi bi (pa_cons (pv 0) (pa_cons (pe_bltn (v := .ty "str") rfl M.str (by decide +kernel) rfl) pa_nil))) (pe_one (pe_cmpR op_eq (pv 0) (pv 1) (nomark _)))))) pss_nil)
      (pss_one (ps_ret (pe_and (pe_callB call_isi rfl M.isi bi (pa_cons (pv 0) (pa_cons (pe_bltn (v := .ty "int") rfl M.int (by decide +kernel) rfl) pa_nil)))
        (pe_and (pe_cmpR op_eq (pe_callB call_isi rfl M.isi bi (pa_cons (pv 0) (pa_cons (pe_bltn (v := .ty "bool") rfl M.bool (by decide +kernel) rfl) pa_nil))) (pe_callB call_isi rfl M.isi bi (pa_cons (pv 1) (pa_cons (pe_bltn (v := .ty "bool") rfl M.bool (by decide +kernel) rfl) pa_nil))) (nomark _)) (pe_one (pe_cmpR op_eq (pv 0) (pv 1) (nomark _))))))))), ?_⟩
    refine ⟨v', rfl, (by show 2 ≤ sizeLine; decide), fun tp np => ?_⟩
    have s1 := same_new np (.tup [.ty "list", .ty "tuple"])
    have hw := dp_same s1 hv
    have hw' := dp_same s1 hv'
    have pr : Paired ClsV [V.ty "list", V.ty "tuple"] [Value.type "list", Value.type "tuple"] := .cons (.ty _) (.cons (.ty _) .nil)
    rcases dp_two hw hw' hd hna with ⟨p, p', xs, xs', ds, bl, ty, rfl, rfl, hq, hq', ha, ha', ht, ht', k1, k2, hdd, hwl, hwn⟩ | ⟨rfl, hk⟩
    · have ka : PySem.W.kitAny K (.type ty) [.type "list", .type "tuple"] = some true := by
        rw [kit_lt k1 k2]
        cases bl <;> rfl
      have hl := dpAll_len ha
      have hl' := dpAll_len ha'
      refine ⟨_, tp, _, _, _, true, rfl, upd_same, pr, ht', ka, _, rfl, iteT ?_⟩
      refine ⟨_, rfl, _, _, _, _, bl, rfl, .ty _, ht, kit_ty k1, _, rfl, _, _, _, _, bl, rfl, .ty _, ht', kit_ty k1, by cases bl <;> rfl, _, rfl, iteNS rfl ?_⟩
      refine ⟨_, rfl, _, _, _, _, !bl, rfl, .ty _, ht, kit_ty k2, _, rfl, _, _, _, _, !bl, rfl, .ty _, ht', kit_ty k2, by cases bl <;> rfl, _, rfl, iteNS rfl ?_⟩
      refine ⟨_, rfl, p, xs, rfl, hq, _, rfl, p', xs', rfl, hq', rfl, _, rfl, iteNS (by rw [hl, hl']) ?_⟩
      refine ⟨_, rfl, p', xs', rfl, hq', _, rfl, ?_, ?_, fun D nD => ?_⟩
      · omega
      · omega
      have s2 := same_new nD (.lst [])
      rw [Int.toNat_natCast]
      refine lc_range (lo := 0) (n := xs'.length) (fun i H' => Same (upd H tp (.tup [.ty "list", .ty "tuple"])) H' ∧ H' D = some (.lst [])) ⟨s2, upd_same⟩ (fun i H' hi hp => ?_) (fun H' hp => ?_)
      · obtain ⟨sm, eD⟩ := hp
        obtain ⟨di, edi⟩ : ∃ di, ds[i]? = some di := ⟨_, List.getElem?_eq_getElem (by omega)⟩
        obtain ⟨x, ex, hx⟩ := dpAll_get ha edi
        obtain ⟨x', ex', hx'⟩ := dpAll_get ha' edi
        have hdi := depth_get edi
        have e0 : (0 : Int) + (i : Int) = ((i : Nat) : Int) := by omega
        rw [e0]
        refine ⟨rfl, ?_⟩
        refine ⟨_, rfl, _, rfl, seq_ix (seq_same sm hq) (atI_nat ex) ⟨_, rfl, _, rfl, seq_ix (seq_same sm hq') (atI_nat ex') ⟨x, x', di, rfl, dp_same sm hx, dp_same sm hx', by omega, nar_get edi hwn, fun H'' s'' => ?_⟩⟩⟩
        exact ⟨_, rfl, iteF ⟨sm.trans s'', s'' _ _ eD⟩⟩
      · obtain ⟨sm, eD⟩ := hp
        refine ⟨(by show 0 ≤ sizeLine; decide), fun e ne => ?_⟩
        refine ⟨.list [], .list [], .lst (SqL.of ((same_new ne _) _ _ eD)) .nil, .lst (SqL.of upd_same) .nil, rfl, rfl, ?_⟩
        exact q _ (s1.trans (sm.trans (same_new ne _)))
    · have fin := q _ s1
      rcases hk with rfl | ⟨c, rfl⟩ | ⟨c, rfl⟩ | ⟨c, rfl⟩
      · refine ⟨_, tp, _, _, _, false, rfl, upd_same, pr, .base .non, kit_lt (r := false) (s := false) (by decide +kernel) (by decide +kernel), _, rfl, iteF ?_⟩
        refine ⟨_, rfl, rfl, _, rfl, iteT ?_⟩
        exact ⟨_, rfl, rfl, fin⟩
      · refine ⟨_, tp, _, _, _, false, rfl, upd_same, pr, .base (.bl c), kit_lt (r := false) (s := false) (by decide +kernel) (by decide +kernel), _, rfl, iteF ?_⟩
        refine ⟨_, rfl, rfl, _, rfl, iteF ?_⟩
        refine ⟨_, rfl, _, _, _, _, false, rfl, .ty _, .base (.bl c), kit_ty (by decide +kernel), _, rfl, iteF ?_⟩
        refine ⟨_, rfl, _, _, _, _, true, rfl, .ty _, .base (.bl c), kit_ty (by decide +kernel), _, rfl, iteT ?_⟩
        refine ⟨_, rfl, _, _, _, _, true, rfl, .ty _, .base (.bl c), kit_ty (by decide +kernel), _, rfl, _, _, _, _, true, rfl, .ty _, .base (.bl c), kit_ty (by decide +kernel), rfl, _, rfl, iteT ?_⟩
        refine ⟨_, rfl, _, rfl, by cases c <;> rfl, ?_⟩
        rw [decide_eq_true rfl]
        exact fin
      · refine ⟨_, tp, _, _, _, false, rfl, upd_same, pr, .base (.int c), kit_lt (r := false) (s := false) (by decide +kernel) (by decide +kernel), _, rfl, iteF ?_⟩
        refine ⟨_, rfl, rfl, _, rfl, iteF ?_⟩
        refine ⟨_, rfl, _, _, _, _, false, rfl, .ty _, .base (.int c), kit_ty (by decide +kernel), _, rfl, iteF ?_⟩
        refine ⟨_, rfl, _, _, _, _, true, rfl, .ty _, .base (.int c), kit_ty (by decide +kernel), _, rfl, iteT ?_⟩
        refine ⟨_, rfl, _, _, _, _, false, rfl, .ty _, .base (.int c), kit_ty (by decide +kernel), _, rfl, _, _, _, _, false, rfl, .ty _, .base (.int c), kit_ty (by decide +kernel), rfl, _, rfl, iteT ?_⟩
        refine ⟨_, rfl, _, rfl, rfl, ?_⟩
        rw [decide_eq_true rfl]
        exact fin
      · refine ⟨_, tp, _, _, _, false, rfl, upd_same, pr, .base (.str c), kit_lt (r := false) (s := false) (by decide +kernel) (by decide +kernel), _, rfl, iteF ?_⟩
        refine ⟨_, rfl, rfl, _, rfl, iteF ?_⟩
        refine ⟨_, rfl, _, _, _, _, true, rfl, .ty _, .base (.str c), kit_ty (by decide +kernel), _, rfl, iteT ?_⟩
        refine ⟨_, rfl, _, _, _, _, true, rfl, .ty _, .base (.str c), kit_ty (by decide +kernel), _, rfl, iteT ?_⟩
        refine ⟨_, rfl, _, rfl, rfl, ?_⟩
        rw [decide_eq_true rfl]
        exact fin
end
/-! ### list(text) -/
theorem vals_signs : ∀ (l : List Nat) (vs : List Value), vs.length = l.length → (∀ (j : Nat) (v : Value), vs[j]? = some v → ∃ c u, l[j]? = some c ∧ v = .str ⟨#[c]⟩ u) → Vals (l.map fun c => V.str ⟨#[c]⟩) vs
  | [], [], _, _ => .nil
  | [], _ :: _, h, _ => by simp at h
  | _ :: _, [], h, _ => by simp at h
  | c :: l, v :: vs, h, k => by
    obtain ⟨c', u, e, rfl⟩ := k 0 v rfl
    cases e
    exact .cons ⟨u, rfl⟩ (vals_signs l vs (by simpa using h) fun j v e => k (j + 1) v e)
theorem call_signs {X : Cx} (hc : X.calm = true) : CallR X (.type "list") (fun xs H Q => ∃ x : Str, xs = [.str x] ∧ x.cps.size ≤ 1000 ∧ ∀ p, H p = none → Q (.ref p) (upd H p (.lst (x.cps.toList.map fun c => V.str ⟨#[c]⟩)))) := by
  intro pins s σ H xs us Q I r h
  obtain ⟨x, rfl, hz, q⟩ := h
  obtain ⟨u, rfl, t, rfl⟩ := vals1 r
  have hz' : x.cps.size ≤ sizeLine := small hz
  refine call_list_str (I.ok.hd hc) x t (fun h' tk acc' c' hk hS hacc => ?_) hz'
  have hv : Vals (x.cps.toList.map fun c => V.str ⟨#[c]⟩) acc'.toList := vals_signs _ _ (by rw [Array.length_toList, Array.length_toList]; exact hacc.1) fun j v e => by
    obtain ⟨c, u, h1, h2⟩ := hacc.2 j v (by rw [← Array.getElem?_toList]; exact e)
    exact ⟨c, u, by rw [Array.getElem?_toList]; exact h1, h2⟩
  exact ⟨.ref s.heap.objs.size, _, I.laid (t' := tk) hk (Nat.le_refl _) (show ObjOk X.prog X.w _ h' _ (.lst _) from ⟨by rw [List.length_map, Array.length_toList]; exact hz', acc'.toList, c', hv, by rw [Array.toArray_toList]; exact hS⟩), rfl, q _ (I.hok.fresh (Nat.le_refl _))⟩
/-! ### _law_letters -/
theorem erase_map {α β : Type} (f : α → β) : ∀ (l : List α) (i : Nat), (l.map f).eraseIdx i = (l.eraseIdx i).map f
  | [], _ => rfl
  | _ :: _, 0 => rfl
  | x :: l, i + 1 => congrArg (f x :: ·) (erase_map f l i)
def Ltr (x : Str) : Prop := ∃ c : Nat, 97 ≤ c ∧ c ≤ 122 ∧ x = ⟨#[c]⟩
def abc : List Str := (List.range 26).map fun c => ⟨#[c + 97]⟩
theorem abc_ltr : ∀ x ∈ abc, Ltr x := fun x h => by
  unfold abc at h
  obtain ⟨c, hc, rfl⟩ := List.mem_map.mp h
  have := List.mem_range.mp hc
  exact ⟨c + 97, by omega, by omega, rfl⟩
theorem abc_is : ((Str.ofString "abcdefghijklmnopqrstuvwxyz").cps.toList.map fun c => V.str ⟨#[c]⟩) = abc.map V.str := by decide +kernel
theorem abc_len : abc.length = 26 := by decide +kernel
theorem scLett : FnScope ["_law_deck_here", "_law_size", "_law_way", "_law_some", "_law_found", "_law_k"] ["_law_deck_here", "_law_size"] (defScope sLett) := ⟨rfl, rfl, rfl, by decide +kernel, rfl, by decide +kernel, by decide +kernel⟩
def spLett : Sp := fun vs H Q _ => ∃ (D : Deck) (n m : Nat), vs = [.ref D.dk, .int (m : Int)] ∧ DeckOk H D n ∧ n + m + 1 ≤ 1000000 ∧ 1 ≤ m ∧ m ≤ 26 ∧ ∀ (p : Addr) (xs : List Str) (n' : Nat) (H' : Hp), DeckOk H' D n' → n' ≤ n + m + 1 → SameD D H H' →
  H' p = some (.lst (xs.map V.str)) → xs.length = m → (∀ x ∈ xs, Ltr x) → Off D p → Q (.ref p) H'
section
variable {P : Program} {w : World} {K : PySem.W.Frag} {mg : Str → Option Value} {base : Heap} {f fN : Addr} {fd fdN : FuncData}
theorem ok_lett {k : Nat} (F : Fun K "_law_letters" "_law_letters" sLett f fd) (G : FnOk P w K mg base CX0 k fN fdN ["_law_deck_here", "_law_many"] spNext) (bN : Binds K fdN ["_law_deck_here", "_law_many"] []) (kN : PySem.W.keepIn K (.ref fN) = true) (gN : mg "_law_next" = some (.ref fN)) (M : Mgs mg) (ms : mg "sorted" = none) :
    FnOk P w K mg base CX0 (k + 1) f fd ["_law_deck_here", "_law_size"] spLett := by
  refine F.ok scLett (fun vs H Q E h => ?_) (fun cdv A outer s H vs Q E hr h => ?_)
  · obtain ⟨D, n, m, rfl, _⟩ := h
    rfl
  obtain ⟨D, n, m, rfl, d, hn, m0, m1, q⟩ := h
  refine ⟨_, pss_cons (ps_asg (pe_tup (pa_cons (pe_call G hr rfl gN kN bN .nil pass0 (pa_cons (pv 0) (pa_cons pe_int pa_nil))) (pa_cons (pe_callTy (call_signs rfl) rfl M.list (by decide +kernel) (pa_cons pe_str pa_nil)) pa_nil))) (pg_tup rfl (pgs_cons (pg_name (i := 2) scLett.nd rfl (.inl rfl)) (pgs_cons (pg_name (i := 3) scLett.nd rfl (.inr rfl)) pgs_nil))))
    (pss_cons (ps_if (pt_cmpR op_eq (pv 2) pe_int (nomark _)) (pss_one (ps_ret (pe_op op_rep (pe_lst (pa_cons (pe_ix ix_list (pv 3) (pe_call G hr rfl gN kN bN .nil pass0 (pa_cons (pv 0) (pa_cons pe_int pa_nil))) (fun _ _ => rfl)) pa_nil)) (pv 1)))) pss_nil)
    (pss_cons (ps_if (pt_cmpR op_eq (pv 2) pe_int (nomark _)) (pss_one (ps_ret (pe_lc (own := [("_law_k", 5)]) (g := gName 5) (tt := tYes) rfl scLett.nd (pi_range1 rfl M.range (pa_cons (pv 1) pa_nil)) (blkOk_by (N := ["_law_deck_here", "_law_size", "_law_way", "_law_some", "_law_found", "_law_k"]) (sc := defScope sLett) (by decide +kernel))
        (fun _ _ _ _ _ => pg_name (i := 5) scLett.nd rfl (Or.inl rfl)) (fun _ _ _ _ _ => pts_nil) (fun _ _ _ _ _ => pe_ix (show IxR _ (rIxL K) from ix_list) (pv 3) (pe_call G hr rfl gN kN bN .nil pass0 (pa_cons (pv 0) (pa_cons pe_int pa_nil))) (fun _ _ => rfl))))) pss_nil)
    (pss_cons (ps_set (i := 4) scLett.nd rfl (.inl rfl) (pe_lst pa_nil))
    (pss_cons (ps_while PassesOwn.never (pt_cmpR op_lt (pe_callB call_len_seq rfl M.len PySem.boot_len (pa_cons (pv 4) pa_nil)) (pv 1) (nomark _))
      (pss_one (ps_expr (pe_bm PySem.F.plainAttrs_list PySem.F.slot_list_append PySem.F.type_list_append mt_append (pv 4) (pa_cons
        (pe_bm PySem.F.plainAttrs_list PySem.F.slot_list_pop PySem.F.type_list_pop mt_popAt (pv 3) (pa_cons (pe_call G hr rfl gN kN bN .nil pass0 (pa_cons (pv 0) (pa_cons (pe_callB call_len_seq rfl M.len PySem.boot_len (pa_cons (pv 3) pa_nil)) pa_nil))) pa_nil)) pa_nil)))))
    (pss_one (ps_ret (pe_ifExp (pt_cmpR op_eq (pv 2) pe_int (nomark _)) (pv 4) (pe_callB cr_sortedS rfl ms (by decide +kernel) (pa_cons (pv 4) pa_nil))))))))), ?_⟩
  refine ⟨_, rfl, D, n, 4, rfl, d, by omega, by decide, by decide, fun wy H1 w0 w1 d1 s1 => ?_⟩
  refine ⟨_, rfl, by decide +kernel, fun sa nsa => ⟨(by show 2 ≤ sizeLine; decide), fun tp ntp => ?_⟩⟩
  rw [abc_is] at ntp ⊢
  refine ⟨tp, _, rfl, SqT.of upd_same, rfl, _, _, rfl, _, _, rfl, rfl, ?_⟩
  have q1 := same_new nsa (.lst (abc.map V.str))
  have q2 := same_new ntp (.tup [.int wy, .ref sa])
  have d2 := (d1.same q1).same q2
  have sd : SameD D H (upd (upd H1 sa (.lst (abc.map V.str))) tp (.tup [.int wy, .ref sa])) := s1.trans (.of (q1.trans q2))
  have esa : (upd (upd H1 sa (.lst (abc.map V.str))) tp (.tup [.int wy, .ref sa])) sa = some (.lst (abc.map V.str)) := q2 _ _ upd_same
  have nsaH : H sa = none := s1.free d1 nsa
  have na := d1.new nsa
  generalize upd (upd H1 sa (.lst (abc.map V.str))) tp (.tup [.int wy, .ref sa]) = H2 at d2 sd esa
  have al := abc_len
  have abcI : ∀ i : Int, 0 ≤ i → i < 26 → ∃ x, atI (abc.map V.str) i = some (.str x) ∧ Ltr x := fun i h0 h1 => by
    have hl : i.toNat < abc.length := by omega
    exact ⟨abc[i.toNat], at_map h0 (List.getElem?_eq_getElem hl), abc_ltr _ (List.getElem_mem hl)⟩
  -- way == 2
  refine ⟨_, rfl, rfl, _, rfl, ite2 (fun _ => ?_) (fun _ => ?_)⟩
  · refine ⟨_, rfl, _, rfl, D, n + 1, 26, rfl, d2, by omega, by decide, by decide, fun i H3 i0 i1 d3 s3 => ?_⟩
    obtain ⟨x, hx, lx⟩ := abcI i i0 i1
    refine ⟨sa, _, _, _, rfl, rfl, SqL.of (s3.at na esa), hx, (by show 1 ≤ sizeLine; decide), fun l nl => ?_⟩
    refine ⟨_, rfl, l, _, _, rfl, rfl, upd_same, by omega, by omega, ?_, fun p np => ?_⟩
    · rw [Int.toNat_natCast]
      exact small (by show 1 * m ≤ 1000; omega)
    rw [Int.toNat_natCast]
    rw [rep_flat, ← List.map_replicate]
    have q3 := same_new nl (.lst [.str x])
    have q4 := same_new np (.lst ((List.replicate m x).map V.str))
    have d5 := (d3.same q3).same q4
    have nd := (d3.same q3).new np
    refine q p (List.replicate m x) (n + 1 + 1) _ d5 (by omega) (sd.trans (s3.trans (.of (q3.trans q4)))) upd_same (List.length_replicate) (fun y hy => ?_) nd
    rw [List.eq_of_mem_replicate hy]
    exact lx
  -- way == 3
  refine ⟨_, rfl, rfl, _, rfl, ite2 (fun _ => ?_) (fun _ => ?_)⟩
  · refine ⟨_, rfl, _, rfl, by omega, by omega, fun L nL => ?_⟩
    have nd := d2.new nL
    rw [Int.toNat_natCast]
    refine lc_range (lo := 0) (n := m) (fun i H' => ∃ n', DeckOk H' D n' ∧ n' ≤ n + 1 + i ∧ SameD D H2 H' ∧ ∃ xs : List Str, xs.length = i ∧ (∀ x ∈ xs, Ltr x) ∧ H' L = some (.lst (xs.map V.str))) ⟨n + 1, d2.same (same_new nL _), by omega, .of (same_new nL _), [], rfl, (fun _ h => nomatch h), upd_same⟩ (fun i H' hi hp => ?_) (fun H' hp => ?_)
    · obtain ⟨n', d', hn', s', xs, hxl, hxs, eL⟩ := hp
      refine ⟨rfl, kept ?_⟩
      refine ⟨_, rfl, _, rfl, D, n', 2, rfl, d', by omega, by decide, by decide, fun j H4 j0 j1 d4 s4 => ?_⟩
      obtain ⟨x, hx, lx⟩ := abcI j j0 (by omega)
      have e4 := s4.at nd eL
      refine ⟨sa, _, _, _, rfl, rfl, SqL.of (s4.at na (s'.at na esa)), hx, _, e4, by rw [List.length_map]; exact small1000 (by omega), n' + 1, d4.put nd _, by omega, (s'.trans s4).put nL _, xs ++ [x], by rw [List.length_append, hxl]; rfl, fun y hy => ?_, ?_⟩
      · rcases List.mem_append.mp hy with h | h
        · exact hxs y h
        · rw [List.mem_singleton.mp h]
          exact lx
      · rw [upd_same, List.map_append]
        rfl
    · obtain ⟨n', d', hn', s', xs, hxl, hxs, eL⟩ := hp
      exact q L xs n' H' d' (by omega) (sd.trans s') eL hxl hxs nd
  refine ⟨(by show 0 ≤ sizeLine; decide), fun fa nfa => ?_⟩
  have nf := d2.new nfa
  have nsf : sa ≠ fa := ne_of_none esa nfa
  have nfH : H fa = none := sd.free d2 nfa
  refine while_by (fun σ H' => σ = [some (.ref D.dk), some (.int (m : Int)), some (.int wy), some (.ref sa), some (.ref fa), none] ∧ ∃ (n' : Nat) (xs rest : List Str), DeckOk H' D n' ∧ n' ≤ n + 1 + xs.length ∧ SameD D H H' ∧ xs.length ≤ m ∧ xs.length + rest.length = 26 ∧ (∀ x ∈ xs, Ltr x) ∧ (∀ x ∈ rest, Ltr x) ∧ H' fa = some (.lst (xs.map V.str)) ∧ H' sa = some (.lst (rest.map V.str)))
    (fun σ H' => match H' fa with | some (.lst xs) => m - xs.length | _ => 0) ⟨rfl, n + 1, [], abc, d2.put nf _, by omega, sd.put nfH _, Nat.zero_le _, by rw [al]; rfl, (fun _ h => nomatch h), abc_ltr, upd_same, by rw [upd_ne nsf]; exact esa⟩ (fun σ H' hp => ?_) ?_
  · obtain ⟨rfl, n', xs, rest, d', hn', s', hm, h26, hxs, hrs, ef, es⟩ := hp
    refine ⟨_, rfl, fa, _, rfl, .inl (SqL.of ef), _, rfl, _, _, rfl, rfl, _, rfl, ite2 (fun c => ?_) (fun c => ?_)⟩
    · have c' : ((xs.map V.str).length : Int) < (m : Int) := of_decide_eq_true c
      rw [List.length_map] at c'
      refine ⟨.ref fa, rfl, .inl ⟨rfl, _, SqL.of ef⟩, .ref sa, rfl, .inl ⟨rfl, _, SqL.of es⟩, _, rfl, _, rfl, sa, _, rfl, .inl (SqL.of es), D, n', _, rfl, d', by omega, ?_, ?_, fun j H4 j0 j1 d4 s4 => ?_⟩
      · rw [List.length_map]; omega
      · rw [List.length_map]; omega
      rw [List.length_map] at j1
      have hj : j.toNat < rest.length := by omega
      have es4 := s4.at na es
      have ef4 := s4.at nf ef
      refine ⟨sa, _, j, j.toNat, .str rest[j.toNat], rfl, rfl, es4, by omega, by omega, ?_, ?_, ?_⟩
      · exact (ixN_seq (ixN_nat j0 (by rw [List.length_map]; omega))).1
      · rw [List.getElem?_map, List.getElem?_eq_getElem hj]; rfl
      have ef5 : (upd H4 sa (.lst ((rest.map V.str).eraseIdx j.toNat))) fa = some (.lst (xs.map V.str)) := by rw [upd_ne nsf.symm]; exact ef4
      refine ⟨fa, _, _, rfl, rfl, ef5, by rw [List.length_map]; exact small1000 (by omega), ?_⟩
      refine ⟨⟨rfl, n' + 1, xs ++ [rest[j.toNat]], rest.eraseIdx j.toNat, (d4.put na _).put nf _, ?_, ((s'.trans s4).put nsaH _).put nfH _, ?_, ?_, fun y hy => ?_, fun y hy => hrs y (List.mem_of_mem_eraseIdx hy), ?_, ?_⟩, ?_⟩
      · rw [List.length_append]
        show n' + 1 ≤ n + 1 + (xs.length + 1)
        omega
      · rw [List.length_append]
        show xs.length + 1 ≤ m
        omega
      · rw [List.length_append, List.length_eraseIdx_of_lt hj]
        show xs.length + 1 + (rest.length - 1) = 26
        omega
      · rcases List.mem_append.mp hy with h | h
        · exact hxs y h
        · rw [List.mem_singleton.mp h]
          exact hrs _ (List.getElem_mem hj)
      · rw [upd_same, List.map_append]
        rfl
      · rw [upd_ne nsf, upd_same, erase_map]
      · show (match (upd (upd H4 sa _) fa (.lst (xs.map V.str ++ [V.str rest[j.toNat]]))) fa with | some (.lst xs) => m - xs.length | _ => 0) < (match H' fa with | some (.lst xs) => m - xs.length | _ => 0)
        rw [upd_same, ef]
        show m - (xs.map V.str ++ [V.str rest[j.toNat]]).length < m - (xs.map V.str).length
        rw [List.length_append, List.length_map]
        show m - (xs.length + 1) < m - xs.length
        omega
    · have c' : ¬ ((xs.map V.str).length : Int) < (m : Int) := of_decide_eq_false (Bool.eq_false_iff.mpr c)
      rw [List.length_map] at c'
      have hlen : xs.length = m := by omega
      refine ⟨_, rfl, rfl, _, rfl, ite2 (fun _ => ?_) (fun _ => ?_)⟩
      · exact ⟨_, rfl, q fa xs n' H' d' (by omega) s' ef hlen hxs nf⟩
      · refine ⟨_, rfl, fa, xs, rfl, SqL.of ef, by omega, fun ys p pm _ np => ?_⟩
        exact q p ys n' _ (d'.same (same_new np _)) (by omega) (s'.trans (.of (same_new np _))) upd_same (by rw [pm.length_eq]; exact hlen) (fun x hx => hxs x (pm.mem_iff.mp hx)) (d'.new np)
  · intro σ H' Q1 Q2 hQ h
    obtain ⟨v, e, p, ys, e2, e3, v2, e4, i, j, e5, e6, k, e7, q7⟩ := h
    exact ⟨v, e, p, ys, e2, e3, v2, e4, i, j, e5, e6, k, e7, hQ _ _ q7⟩
end
/-! ### _law_grown -/
def T.btw : T → List Str
  | .nil => []
  | .node l x r => l.btw ++ x :: r.btw
theorem T.btw_len : ∀ t : T, t.btw.length = t.size
  | .nil => rfl
  | .node l x r => by
    have h1 := l.btw_len
    have h2 := r.btw_len
    show (l.btw ++ x :: r.btw).length = l.size + 1 + r.size
    rw [List.length_append, List.length_cons]
    omega
theorem scGrown : FnScope ["_law_deck_here", "_law_size", "_law_way", "_law_letters_here", "_law_many", "_law_left"] ["_law_deck_here", "_law_size", "_law_way", "_law_letters_here"] (defScope sGrown) := ⟨rfl, rfl, rfl, by decide +kernel, rfl, by decide +kernel, by decide +kernel⟩
def spGrown (n : Nat) : Sp := fun vs H Q _ => ∃ (D : Deck) (c : Nat) (way : Int) (p : Addr) (xs : List Str), vs = [.ref D.dk, .int (xs.length : Int), .int way, .ref p] ∧ DeckOk H D c ∧ c + xs.length ≤ 1000000 ∧ xs.length < n ∧ xs.length ≤ 1000 ∧ 0 ≤ way ∧ way ≤ 4 ∧
  H p = some (.lst (xs.map V.str)) ∧ Off D p ∧ ∀ (v : V) (t : T) (c' : Nat) (H' : Hp), DeckOk H' D c' → c' ≤ c + xs.length → SameD D H H' → TreeAt H' v t → t.btw = xs → Q v H'
theorem pick_many {z : Int} {i way : Int} (z1 : 1 ≤ z) (i0 : 0 ≤ i) (i1 : i < z) (w0 : 0 ≤ way) (w1 : way ≤ 4) : ∃ m : Nat, atI [V.int i, V.int (z - 1), V.int 0, V.int ((z - 1) * (z % 2)), V.int ((z - 1) / 2)] way = some (.int (m : Int)) ∧ (m : Int) < z := by
  have h : way = ((0 : Nat) : Int) ∨ way = ((1 : Nat) : Int) ∨ way = ((2 : Nat) : Int) ∨ way = ((3 : Nat) : Int) ∨ way = ((4 : Nat) : Int) := by omega
  rcases h with rfl | rfl | rfl | rfl | rfl
  · exact ⟨i.toNat, by rw [Int.toNat_of_nonneg i0]; exact atI_nat rfl, by omega⟩
  · exact ⟨(z - 1).toNat, by rw [Int.toNat_of_nonneg (by omega)]; exact atI_nat rfl, by omega⟩
  · exact ⟨0, atI_nat rfl, by omega⟩
  · have h2 : z % 2 = 0 ∨ z % 2 = 1 := by omega
    rcases h2 with e | e
    · exact ⟨0, by rw [e, Int.mul_zero]; exact atI_nat rfl, by omega⟩
    · exact ⟨(z - 1).toNat, by rw [e, Int.mul_one, Int.toNat_of_nonneg (by omega)]; exact atI_nat rfl, by omega⟩
  · exact ⟨((z - 1) / 2).toNat, by rw [Int.toNat_of_nonneg (by omega)]; exact atI_nat rfl, by omega⟩
section
variable {P : Program} {w : World} {K : PySem.W.Frag} {mg : Str → Option Value} {base : Heap} {f fN : Addr} {fd fdN : FuncData}
theorem ok_grown (F : Fun K "_law_grown" "_law_grown" sGrown f fd) (b : Binds K fd ["_law_deck_here", "_law_size", "_law_way", "_law_letters_here"] []) (g : mg "_law_grown" = some (.ref f))
    (GN : FnOk P w K mg base CX0 1 fN fdN ["_law_deck_here", "_law_many"] spNext) (bN : Binds K fdN ["_law_deck_here", "_law_many"] []) (kN : PySem.W.keepIn K (.ref fN) = true) (gN : mg "_law_next" = some (.ref fN)) :
    ∀ n : Nat, FnOk P w K mg base CX0 (n + 1) f fd ["_law_deck_here", "_law_size", "_law_way", "_law_letters_here"] (spGrown n)
  | 0 => by
    have no : ∀ vs H Q E, ¬ spGrown 0 vs H Q E := fun vs H Q E h => by
      obtain ⟨D, c, way, p, xs, _, _, _, h1, _⟩ := h
      omega
    exact ⟨fun vs H Q E h => absurd h (no vs H Q E), fun A outer s H args us vs Q E _ _ _ _ h => absurd h (no vs H Q E)⟩
  | n + 1 => by
    have G := ok_grown F b g GN bN kN gN n
    refine F.ok scGrown (fun vs H Q E h => ?_) (fun cdv A outer s H vs Q E hr h => ?_)
    · obtain ⟨D, c, way, p, xs, rfl, _⟩ := h
      rfl
    obtain ⟨D, c, way, p, xs, rfl, d, hc, hn, hx, w0, w1, ep, op, q⟩ := h
    have hr1 : Room 1 (A.deeper (envOfC "_law_grown" (defScope sGrown) s.heap.objs.size f cdv)) := hr.mono (by omega)
    refine ⟨_, pss_cons (ps_if (pt_cmpR op_eq (pv 1) pe_int (nomark _)) (pss_one (ps_ret pe_non)) pss_nil)
      (pss_cons (ps_set (i := 4) scGrown.nd rfl (.inl rfl) (pe_ix ix_list (pe_lst (pa_cons (pe_call GN hr1 rfl gN kN bN .nil pass0 (pa_cons (pv 0) (pa_cons (pv 1) pa_nil))) (pa_cons (pe_op op_sub (pv 1) pe_int) (pa_cons pe_int
          (pa_cons (pe_op op_mul (pe_op op_sub (pv 1) pe_int) (pe_op op_mod (pv 1) pe_int)) (pa_cons (pe_op op_fdiv (pe_op op_sub (pv 1) pe_int) pe_int) pa_nil)))))) (pv 2) (fun _ _ => rfl)))
      (pss_cons (ps_set (i := 5) scGrown.nd rfl (.inl rfl) (pe_call G hr rfl g F.kp b .nil pass0 (pa_cons (pv 0) (pa_cons (pv 4) (pa_cons (pv 2) (pa_cons (pe_slice sl_list (pv 3) po_none (po_some (pv 4))) pa_nil))))))
      (pss_one (ps_ret (pe_tup (pa_cons (pv 5) (pa_cons (pe_ix ix_list (pv 3) (pv 4) (fun _ _ => rfl)) (pa_cons
        (pe_call G hr rfl g F.kp b .nil pass0 (pa_cons (pv 0) (pa_cons (pe_op op_sub (pe_op op_sub (pv 1) pe_int) (pv 4)) (pa_cons (pv 2) (pa_cons (pe_slice sl_list (pv 3) (po_some (pe_op op_add (pv 4) pe_int)) po_none) pa_nil))))) pa_nil)))))))), ?_⟩
    refine ⟨_, rfl, rfl, _, rfl, ite2 (fun e => ?_) (fun e => ?_)⟩
    · have e0 : (xs.length : Int) = 0 := V.int.inj (of_decide_eq_true e)
      have ex : xs = [] := List.eq_nil_of_length_eq_zero (by omega)
      exact q .non .nil c H d (by omega) (SameD.refl D H) .nil (by rw [ex]; rfl)
    · have e0 : ¬ (xs.length : Int) = 0 := fun z => e (decide_eq_true (congrArg V.int z))
      have x1 : (1 : Int) ≤ (xs.length : Int) := by omega
      refine ⟨_, rfl, _, rfl, D, c, _, rfl, d, by omega, by omega, by omega, fun i H1 i0 i1 d1 s1 => ?_⟩
      refine ⟨_, rfl, _, _, rfl, rfl, _, rfl, _, _, rfl, rfl, _, rfl, _, _, rfl, rfl, (show (0 : Int) < 2 by decide), _, _, rfl, rfl, .inl ⟨by omega, by omega⟩, ?_⟩
      refine ⟨_, rfl, _, _, rfl, rfl, _, _, rfl, rfl, ⟨by decide, by decide⟩, (by show 5 ≤ sizeLine; decide), fun l nl => ?_⟩
      obtain ⟨m, hm, ml⟩ := pick_many x1 i0 i1 w0 w1
      refine ⟨_, rfl, l, _, _, _, rfl, rfl, SqL.of upd_same, hm, ?_⟩
      have q1 := same_new nl (.lst [V.int i, V.int ((xs.length : Int) - 1), V.int 0, V.int (((xs.length : Int) - 1) * ((xs.length : Int) % 2)), V.int (((xs.length : Int) - 1) / 2)])
      have d2 := d1.same q1
      have s2 := s1.trans (SameD.of q1)
      have ep2 := s2.at op ep
      -- left
      refine ⟨_, rfl, _, rfl, _, rfl, _, rfl, _, rfl, _, rfl, p, _, rfl, SqL.of ep2, fun p1 np1 => ?_⟩
      rw [cut_to, ← List.map_take] at *
      have lt : (xs.take m).length = m := by rw [List.length_take]; omega
      have q2 := same_new np1 (.lst ((xs.take m).map V.str))
      have d3 := d2.same q2
      have s3 := s2.trans (SameD.of q2)
      refine ⟨D, c + 1, way, p1, xs.take m, by rw [lt]; rfl, d3, by omega, by omega, by omega, w0, w1, upd_same, d2.new np1, fun v1 t1 c1 H3 d4 hc1 s4 at1 bt1 => ?_⟩
      have ep4 := (s3.trans s4).at op ep
      have hm' : m < xs.length := by omega
      have am : atI (xs.map V.str) ((m : Nat) : Int) = some (.str xs[m]) := at_map (by omega) (by rw [Int.toNat_natCast]; exact List.getElem?_eq_getElem hm')
      refine ⟨_, rfl, _, rfl, _, rfl, p, _, _, _, rfl, rfl, SqL.of ep4, am, ?_⟩
      refine ⟨_, rfl, _, rfl, _, _, rfl, rfl, _, rfl, _, _, rfl, rfl, _, rfl, _, rfl, _, rfl, _, _, rfl, rfl, _, rfl, p, _, rfl, SqL.of ep4, fun p2 np2 => ?_⟩
      have em : ((m : Nat) : Int) + 1 = ((m + 1 : Nat) : Int) := by omega
      rw [show cutV (xs.map V.str) (some (((m : Nat) : Int) + 1)) none = (xs.drop (m + 1)).map V.str by rw [em, cut_from, List.map_drop]]
      have ld : (xs.drop (m + 1)).length = xs.length - 1 - m := by rw [List.length_drop]; omega
      have ldi : (((xs.drop (m + 1)).length : Nat) : Int) = (xs.length : Int) - 1 - (m : Int) := by rw [ld]; omega
      have q3 := same_new np2 (.lst ((xs.drop (m + 1)).map V.str))
      have d5 := d4.same q3
      refine ⟨D, c1, way, p2, xs.drop (m + 1), by rw [ldi]; rfl, d5, by omega, by omega, by omega, w0, w1, upd_same, d4.new np2, fun v2 t2 c2 H4 d6 hc2 s5 at2 bt2 => ?_⟩
      refine ⟨(by show 3 ≤ sizeLine; decide), fun r nr => ?_⟩
      have q4 := same_new nr (.tup [v1, .str xs[m], v2])
      refine q (.ref r) (.node t1 xs[m] t2) c2 _ (d6.same q4) (by omega) (s3.trans (s4.trans ((SameD.of q3).trans (s5.trans (SameD.of q4))))) (.node upd_same ?_ (at2.same q4)) ?_
      · exact ((at1.same q3).keep (s5.keepT d5)).same q4
      · show t1.btw ++ xs[m] :: t2.btw = xs
        rw [bt1, bt2]
        rw [← List.drop_eq_getElem_cons hm', List.take_append_drop]
end
/-! ### _law_tree -/
theorem scTree : FnScope ["_law_deck_here", "_law_limit", "_law_size", "_law_way"] ["_law_deck_here", "_law_limit"] (defScope sTree) := ⟨rfl, rfl, rfl, by decide +kernel, rfl, by decide +kernel, by decide +kernel⟩
def spTree : Sp := fun vs H Q _ => ∃ (D : Deck) (n lim : Nat), vs = [.ref D.dk, .int (lim : Int)] ∧ DeckOk H D n ∧ n + 2 * lim + 10 ≤ 1000000 ∧ 1 ≤ lim ∧ lim ≤ 26 ∧
  ∀ (v : V) (t : T) (n' : Nat) (H' : Hp), DeckOk H' D n' → n' ≤ n + 2 * lim + 3 → SameD D H H' → TreeAt H' v t → 1 ≤ t.size → t.size ≤ lim → (∀ x ∈ t.btw, Ltr x) → Q v H'
theorem pick_way {i : Int} (i0 : 0 ≤ i) (i1 : i < 7) : ∃ z : Int, atI [V.int 0, V.int 0, V.int 0, V.int 1, V.int 2, V.int 3, V.int 4] i = some (.int z) ∧ 0 ≤ z ∧ z ≤ 4 := by
  have h : i = ((0 : Nat) : Int) ∨ i = ((1 : Nat) : Int) ∨ i = ((2 : Nat) : Int) ∨ i = ((3 : Nat) : Int) ∨ i = ((4 : Nat) : Int) ∨ i = ((5 : Nat) : Int) ∨ i = ((6 : Nat) : Int) := by omega
  rcases h with rfl | rfl | rfl | rfl | rfl | rfl | rfl
  · exact ⟨0, atI_nat rfl, by decide, by decide⟩
  · exact ⟨0, atI_nat rfl, by decide, by decide⟩
  · exact ⟨0, atI_nat rfl, by decide, by decide⟩
  · exact ⟨1, atI_nat rfl, by decide, by decide⟩
  · exact ⟨2, atI_nat rfl, by decide, by decide⟩
  · exact ⟨3, atI_nat rfl, by decide, by decide⟩
  · exact ⟨4, atI_nat rfl, by decide, by decide⟩
section
variable {P : Program} {w : World} {K : PySem.W.Frag} {mg : Str → Option Value} {base : Heap} {f fN fL fG : Addr} {fd fdN fdL fdG : FuncData}
theorem ok_tree (F : Fun K "_law_tree" "_law_tree" sTree f fd)
    (GN : FnOk P w K mg base CX0 1 fN fdN ["_law_deck_here", "_law_many"] spNext) (bN : Binds K fdN ["_law_deck_here", "_law_many"] []) (kN : PySem.W.keepIn K (.ref fN) = true) (gN : mg "_law_next" = some (.ref fN))
    (GL : FnOk P w K mg base CX0 2 fL fdL ["_law_deck_here", "_law_size"] spLett) (bL : Binds K fdL ["_law_deck_here", "_law_size"] []) (kL : PySem.W.keepIn K (.ref fL) = true) (gL : mg "_law_letters" = some (.ref fL))
    (GG : FnOk P w K mg base CX0 28 fG fdG ["_law_deck_here", "_law_size", "_law_way", "_law_letters_here"] (spGrown 27)) (bG : Binds K fdG ["_law_deck_here", "_law_size", "_law_way", "_law_letters_here"] []) (kG : PySem.W.keepIn K (.ref fG) = true) (gG : mg "_law_grown" = some (.ref fG)) :
    FnOk P w K mg base CX0 29 f fd ["_law_deck_here", "_law_limit"] spTree := by
  refine F.ok scTree (fun vs H Q E h => ?_) (fun cdv A outer s H vs Q E hr h => ?_)
  · obtain ⟨D, n, m, rfl, _⟩ := h
    rfl
  obtain ⟨D, n, lim, rfl, d, hn, l0, l1, q⟩ := h
  have hr1 : Room 1 (A.deeper (envOfC "_law_tree" (defScope sTree) s.heap.objs.size f cdv)) := hr.mono (by omega)
  have hr2 : Room 2 (A.deeper (envOfC "_law_tree" (defScope sTree) s.heap.objs.size f cdv)) := hr.mono (by omega)
  refine ⟨_, pss_cons (ps_par (i := 2) (j := 3) (by rfl) scTree.nd rfl rfl (by decide) rfl rfl (pa_cons (pe_op op_add pe_int (pe_call GN hr1 rfl gN kN bN .nil pass0 (pa_cons (pv 0) (pa_cons (pv 1) pa_nil))))
      (pa_cons (pe_ix ix_list (pe_lst (pa_cons pe_int (pa_cons pe_int (pa_cons pe_int (pa_cons pe_int (pa_cons pe_int (pa_cons pe_int (pa_cons pe_int pa_nil)))))))) (pe_call GN hr1 rfl gN kN bN .nil pass0 (pa_cons (pv 0) (pa_cons pe_int pa_nil))) (fun _ _ => rfl)) pa_nil)) (by rfl))
    (pss_one (ps_ret (pe_call GG hr rfl gG kG bG .nil pass0 (pa_cons (pv 0) (pa_cons (pv 2) (pa_cons (pv 3) (pa_cons (pe_call GL hr2 rfl gL kL bL .nil pass0 (pa_cons (pv 0) (pa_cons (pv 2) pa_nil))) pa_nil))))))), ?_⟩
  refine ⟨_, rfl, _, rfl, D, n, _, rfl, d, by omega, by omega, by omega, fun i H1 i0 i1 d1 s1 => ?_⟩
  refine ⟨_, _, rfl, rfl, (by show 7 ≤ sizeLine; decide), fun l nl => ?_⟩
  have q1 := same_new nl (.lst [V.int 0, V.int 0, V.int 0, V.int 1, V.int 2, V.int 3, V.int 4])
  refine ⟨_, rfl, D, n + 1, 7, rfl, d1.same q1, by omega, by decide, by decide, fun j H2 j0 j1 d2 s2 => ?_⟩
  obtain ⟨z, hz, z0, z4⟩ := pick_way j0 j1
  refine ⟨l, _, _, _, rfl, rfl, SqL.of (s2.at (d1.new nl) upd_same), hz, ?_⟩
  refine ⟨_, _, rfl, ?_⟩
  have ei : (1 : Int) + i = (((1 + i).toNat : Nat) : Int) := by omega
  have s3 := s1.trans ((SameD.of q1).trans s2)
  refine ⟨_, rfl, _, rfl, _, rfl, _, rfl, _, rfl, D, n + 2, (1 + i).toNat, by rw [← ei]; rfl, d2, by omega, by omega, by omega, fun p xs n3 H3 d3 hn3 s4 ep hxl hxs op => ?_⟩
  refine ⟨D, n3, z, p, xs, by rw [hxl, ← ei]; rfl, d3, by omega, by omega, by omega, z0, z4, ep, op, fun v t c' H4 d4 hc' s5 at4 bt => ?_⟩
  have hs := t.btw_len
  rw [bt] at hs
  exact q v t c' H4 d4 (by omega) (s3.trans (s4.trans s5)) at4 (by omega) (by omega) (by rw [bt]; exact hxs)
end
/-! ### a def entered at one caller -/
theorem enter_def {P : Program} {w : World} {K : PySem.W.Frag} {mg : Str → Option Value} {base : Heap} {f : Addr} {fd : FuncData} {N ps : List Str} {k : Nat} {x qual : Str} {st : Stmt} (F : Fun K x qual st f fd) (S : FnScope N ps (defScope st))
    {A : Around} {outer : List Env} {s : Shared} {H : Hp} {args : Args} {us : List Value} {vs : List V} {Q : VK} {E : XK}
    (room : Room (k + 1) A) (en : Env0 P w K mg base A outer s H) (bd : BindsTo s fd args (ps.zip us)) (rel : Vals vs us) (hln : vs.length = ps.length)
    (body : ∀ cdv : Value, Room k (A.deeper (envOfC qual (defScope st) s.heap.objs.size f cdv)) →
      ∃ t, PSs (cxOf CX0 P w K mg base N qual (defScope st) f cdv A outer s H E).nox (defBody st) t ∧ t { nx := fun _ H' => Q .non H', rt := Q } (start N vs) H) :
    codeAny (model P w) A (.call (.ref f) args) (CR CX0 outer P w H s Q E) s := by
  obtain ⟨oc, od, kV, doc, pm, an, cdv, ct, osl, rfl, look, code⟩ := F.ex
  have still : ∀ b o, base.get? b = some o → s.heap.get? b = some o := fun b o e => (en.bs b o e).1
  have inK : K.In s.heap := en.mod.kin.keeps still
  have noL : s.heap.NoLimit := en.mod.nolimit.keeps still
  have kinds : ∀ y ∈ ps.zip us, (defScope st).names.lookup y.1 = some .local ∨
      ((defScope st).names.lookup y.1 = some .cell ∧ ((cellsFrom (s.heap.objs.size + 1) (defScope st).names []).lookup y.1).isSome = true) := by
    rintro ⟨nm, u⟩ hy
    cases S.par nm (List.of_mem_zip hy).1 with
    | inl z => exact .inl z
    | inr z => exact .inr ⟨z, PySem.W.cellsFrom_some _ _ _ (.inl z)⟩
  have step := codeAny_call_function (prog := P) (w := w) (A := A) (s := s) room.depth (inK _ _ look) rfl S.co S.gen rfl (PySem.W.codeRec_of inK code)
    (R := CR CX0 outer P w H s Q E) (args := args)
  refine step (bd _ _ _ _ ?_)
  refine wpAny_newFunctionEnv_cells S.kind kinds ?_
  intro env isEnv s1 inC
  subst isEnv
  refine ⟨noL.keeps inC.toInCall.keep, codeAny_func ?_⟩
  obtain ⟨t, ht, hq⟩ := body cdv (room.deeper _)
  have J : Inv (cxOf CX0 P w K mg base N qual (defScope st) f cdv A outer s H E) [] (start N vs) H s1 := inv_start S room.hd en hln rel inC
  refine wpAny_mono (ht.nox.run [] s1 (start N vs) H _ J hq) ?_ ?_
  · intro fl s' done
    cases fl with
    | ret u =>
      obtain ⟨v, σ', H', I', rv, qv⟩ := done
      exact ⟨v, H', I'.os, I'.bare, I'.base, I'.hok, rv, qv⟩
    | next =>
      obtain ⟨σ', H', I', qv⟩ := done
      exact ⟨V.non, H', I'.os, I'.bare, I'.base, I'.hok, rfl, qv⟩
    | brk => exact done.elim fun _ z => z.elim fun _ z => z.2.elim
    | cont => exact done.elim fun _ z => z.elim fun _ z => z.2.elim
  · intro e s' z
    exact z
/-! ### the law's own call -/
theorem law_at {P : Program} {w : World} {K : PySem.W.Frag} {mg mb : Str → Option Value} {fa a : Addr} {s₁ : Shared} {vs : List Value} {ns : List Int}
    (inK : K.In s₁.heap) (gl : s₁.heap.Ns mainGlobals mg) (bl : s₁.heap.Ns builtinsNs mb) (isB : ∀ x : Str, x ≠ "__name__" → mb x = bootBuiltins x) (lim : s₁.heap.NoLimit) (gens : s₁.gens = #[])
    (obj : s₁.heap.get? a = some { cls := .type "list", data := .seq vs.toArray }) (hints : IntsAre vs ns) (few : ns.length ≤ sizeLine)
    (run : ∀ (base : Heap) (H : Hp), K.In base → base.Ns mainGlobals mg → Env0 P w K mg base callerA [] s₁ H → SqL K H a (ns.map V.int) →
      codeAny (model P w) callerA (.call (.ref fa) ⟨[.ref a], []⟩) (CR CX0 [] P w H s₁ (fun v _ => v = .bl true) fun _ _ _ => False) s₁) :
    codeAny (model P w) callerA (.call (.ref fa) ⟨[.ref a], []⟩) (fun r s' => r = .ok (.ret (.bool true)) ∧ OldK s₁.heap s'.heap ∧ s'.os = s₁.os ∧ AllBare s'.gens) s₁ := by
  have rel := vals_ints hints
  have lens := hints.length
  have found : ∃ H : Hp, Only H ∧ SqL K H a (ns.map V.int) ∧ HOk P w H s₁.heap ∧ (∀ b u, H b = some u → b = a ∧ K.lookup a = none) := by
    cases inText : K.lookup a with
    | some o =>
      have same := inK a o inText
      rw [obj] at same
      cases same
      have never : ∀ (u : HO), (none : Option HO) ≠ some u := fun u z => by cases z
      refine ⟨fun _ => none, fun _ => .inl rfl, ?_, (fun b u z => (never u z).elim), (fun b u z => (never u z).elim)⟩
      refine .inr ⟨_, vs.toArray, _, inText, rfl, rfl, rfl, ?_, ?_⟩
      · rw [List.size_toArray, lens]
        exact few
      · rw [List.toList_toArray]
        exact rel
    | none =>
      let here : HO := .frz { cls := .type "list", data := .seq vs.toArray } (.lst (ns.map V.int))
      have only : ∀ b u, (if b = a then some here else none) = some u → b = a ∧ u = here := fun b u z => by
        by_cases hb : b = a
        · rw [if_pos hb] at z
          exact ⟨hb, (Option.some.inj z).symm⟩
        · rw [if_neg hb] at z
          cases z
      refine ⟨fun b => if b = a then some here else none, fun b => ?_, .inl (.inr ⟨{ cls := .type "list", data := .seq vs.toArray }, if_pos rfl⟩), fun b u z => ?_, fun b u z => ⟨(only b u z).1, rfl⟩⟩
      · by_cases hb : b = a
        · exact .inr ⟨_, _, if_pos hb⟩
        · exact .inl (if_neg hb)
      · obtain ⟨rfl, rfl⟩ := only b u z
        exact ⟨obj, by rw [List.length_map]; exact few, vs, _, rel, obj⟩
  obtain ⟨H, hO, hS, hok, hA⟩ := found
  have under : ∀ {b : Addr} {o : Obj}, s₁.heap.get? b = some o → H b = none → (hidT s₁.heap H).get? b = some o := fun e z => hidT_get e z
  have notDict : ∀ {b : Addr} {o : Obj} {es : Array DictEntry} {ep : Nat}, s₁.heap.get? b = some o → o.data = .dict es ep → H b = none := by
    intro b o es ep e isD
    cases z : H b with
    | none => rfl
    | some u =>
      obtain ⟨rfl, _⟩ := hA b u z
      rw [obj] at e
      cases e
      cases isD
  have ns' : ∀ {b : Addr} {m : Str → Option Value}, s₁.heap.Ns b m → (hidT s₁.heap H).Ns b m := by
    rintro b m ⟨o, es, ep, e, isD, r⟩
    exact ⟨o, es, ep, under e (notDict e isD), isD, r⟩
  have inK' : K.In (hidT s₁.heap H) := by
    intro b o e
    refine under (inK b o e) ?_
    cases z : H b with
    | none => rfl
    | some u =>
      obtain ⟨rfl, no⟩ := hA b u z
      rw [no] at e
      cases e
  obtain ⟨mc, l1, l2⟩ := lim
  have env : Env0 P w K mg (hidT s₁.heap H) callerA [] s₁ H :=
    ⟨rfl, ⟨inK', ns' gl, ⟨mb, ns' bl, isB⟩, ⟨mc, ns' l1, l2⟩⟩, fun _ _ e => of_hidT e, Nat.le_of_eq (hidT_size _ _), trivial, (fun _ hb => nomatch hb), hok, .of_eq gens⟩
  refine codeAny_mono (run _ H inK' (ns' gl) env hS) ?_
  intro r s' h
  cases r with
  | error e => exact h.elim
  | ok fl =>
    cases fl with
    | next => exact h.elim
    | brk => exact h.elim
    | cont => exact h.elim
    | ret u =>
      obtain ⟨v, H', os, bare, un, hok', rv, isT⟩ := h
      subst isT
      cases rv
      refine ⟨rfl, OldK.of_keep ?_, os, bare⟩
      intro b o e
      cases z : H b with
      | none => exact un.keep b o e z (fun y => nomatch y) (fun y => nomatch y)
      | some u =>
        rcases hO b with y | ⟨ob, xs, y⟩
        · rw [z] at y
          cases y
        · have y2 := un.frzs b ob _ y
          obtain ⟨e1, _⟩ := hok b _ y
          obtain ⟨e2, _⟩ := hok' b _ y2
          rw [e] at e1
          cases e1
          exact e2
theorem T.data_deep : ∀ t : T, t.data.depth = t.deep
  | .nil => by simp only [T.data, PyData.depth, T.deep]
  | .node l x r => by
    have h1 := l.data_deep
    have h2 := r.data_deep
    simp only [T.data, PyData.depth, PyData.depthAll, T.deep, h1, h2]
    omega
def T.lt (t : T) : Prop := ∀ x ∈ t.btw, Ltr x
theorem strOk_ltr {x : Str} (h : Ltr x) : PyData.strOk x = true := by
  obtain ⟨c, h1, h2, rfl⟩ := h
  show (#[c] : Array Nat).all (· < 0x110000) = true
  rw [← Array.all_toList]
  show (decide (c < 0x110000) && true) = true
  rw [Bool.and_true, decide_eq_true_eq]
  omega
theorem T.lt_node {l r : T} {x : Str} (h : (T.node l x r).lt) : l.lt ∧ Ltr x ∧ r.lt :=
  ⟨fun y hy => h y (List.mem_append_left _ hy), h x (List.mem_append_right _ (List.mem_cons_self ..)), fun y hy => h y (List.mem_append_right _ (List.mem_cons_of_mem _ hy))⟩
theorem T.can : ∀ t : T, t.lt → t.data.canLay0 = true
  | .nil, _ => by simp only [T.data, PyData.canLay0]
  | .node l x r, h => by
    obtain ⟨h1, h2, h3⟩ := T.lt_node h
    simp only [T.data, PyData.canLay0, PyData.canLayAll0, l.can h1, r.can h3, strOk_ltr h2, Bool.and_self]
/-! ### repr of data -/
theorem call_reprD {X : Cx} (hg : X.A.guards = some []) (hu : X.A.units + 64 < cLine) : CallR X (.builtin "repr") (fun xs H Q => ∃ (a : Addr) (d : PyData), xs = [.ref a] ∧ Dp X.K H (.ref a) d ∧ d.showable = true ∧ d.hasDict = false ∧ d.depth ≤ 60 ∧ d.shown.length ≤ sizeLine ∧ Q (.str d.shown) H) := by
  intro pins s σ H xs us Q I r h
  obtain ⟨a, d, rfl, hd, hs, hn, hz, hl, q⟩ := h
  obtain ⟨u, rfl, rx⟩ := vals1 r
  cases rx
  obtain ⟨as, rd⟩ := Dp.reads I d _ _ hd rfl
  exact repr_of_reads' rd hs (PyData.noDict_hsm hn) hg (by omega) (fun _ _ e => e) (fun h' u tk hk => ⟨.str d.shown, H, I.kept (t' := tk) hk, ⟨u, rfl⟩, q⟩) hl
theorem T.showable : ∀ t : T, t.data.showable = true
  | .nil => by simp only [T.data, PyData.showable]
  | .node l x r => by simp only [T.data, PyData.showable, PyData.showableAll, l.showable, r.showable, Bool.and_self]
theorem T.noDict : ∀ t : T, t.data.hasDict = false
  | .nil => by simp only [T.data, PyData.hasDict]
  | .node l x r => by simp only [T.data, PyData.hasDict, PyData.hasDictAll, l.noDict, r.noDict, Bool.or_self]
theorem ltr_repr {x : Str} (h : Ltr x) : (reprText x).length ≤ 12 := by
  obtain ⟨c, h1, h2, rfl⟩ := h
  have := StrLaws.reprText_len ⟨#[c]⟩ (fun z hz => by
    have : z = c := by simpa using hz
    rw [this]
    exact Nat.lt_of_le_of_lt h2 (by decide))
  exact this
theorem T.shown_len : ∀ t : T, t.lt → t.data.shown.length ≤ 24 * t.size + 4
  | .nil, _ => by
    simp only [T.data, PyData.shown, T.size]
    decide +kernel
  | .node l x r, h => by
    obtain ⟨h1, h2, h3⟩ := T.lt_node h
    have a1 := l.shown_len h1
    have a2 := ltr_repr h2
    have a3 := r.shown_len h3
    simp only [T.data, PyData.shown, PyData.shownAll, T.size]
    refine Nat.le_trans (fmt_text _) ?_
    rw [piled_cons, piled_cons, piled_cons]
    have z : piled [] = 0 := rfl
    omega
theorem T.nar_data : ∀ t : T, nar t.data = true
  | .nil => by simp only [T.data, nar]
  | .node l x r => by
    simp only [T.data, nar, narAll, l.nar_data, r.nar_data, Bool.and_self, Bool.and_true, List.length_cons, List.length_nil]
    exact decide_eq_true (by omega)
theorem T.mir_deep : ∀ t : T, t.mir.deep = t.deep
  | .nil => rfl
  | .node l _ r => by
    have h1 := l.mir_deep
    have h2 := r.mir_deep
    show 1 + max r.mir.deep l.mir.deep = 1 + max l.deep r.deep
    omega
/-! ### texts of trees -/
def T.isNil : T → Bool
  | .nil => true
  | .node _ _ _ => false
def T.cs : T → List Nat
  | .nil => [45]
  | .node l x r => if (l.isNil && r.isNil) = true then x.cps.toList else x.cps.toList ++ 40 :: (l.cs ++ 44 :: (r.cs ++ [41]))
def tx (l : List Nat) : Str := ⟨l.toArray⟩
theorem tx_len (l : List Nat) : (tx l).length = l.length := rfl
theorem tx_app (a b : List Nat) : tx a ++ tx b = tx (a ++ b) := by
  show (⟨(tx a).cps ++ (tx b).cps⟩ : Str) = _
  simp [tx]
theorem tx_of (x : Str) : tx x.cps.toList = x := rfl
theorem tx_inj {a b : List Nat} (h : tx a = tx b) : a = b := congrArg (fun z : Str => z.cps.toList) h
def T.text (t : T) : Str := tx t.cs
theorem isNil_eq {t : T} : t.isNil = true ↔ t = .nil := by
  cases t with
  | nil => exact ⟨fun _ => rfl, fun _ => rfl⟩
  | node l x r => exact ⟨(fun h => nomatch h), (fun h => nomatch h)⟩
theorem cs_leaf (x : Str) : (T.node .nil x .nil).cs = x.cps.toList := rfl
theorem cs_node {l r : T} (x : Str) (h : ¬ (l = .nil ∧ r = .nil)) : (T.node l x r).cs = x.cps.toList ++ 40 :: (l.cs ++ 44 :: (r.cs ++ [41])) := by
  show (if (l.isNil && r.isNil) = true then _ else _) = _
  rw [if_neg]
  intro z
  rw [Bool.and_eq_true, isNil_eq, isNil_eq] at z
  exact h z
theorem ltr_len {x : Str} (h : Ltr x) : x.cps.toList.length = 1 := by
  obtain ⟨c, _, _, rfl⟩ := h
  rfl
theorem cs_len : ∀ t : T, t.lt → t.cs.length ≤ 6 * t.size + 1
  | .nil, _ => Nat.le_refl _
  | .node l x r, h => by
    obtain ⟨h1, h2, h3⟩ := T.lt_node h
    have a1 := cs_len l h1
    have a2 := cs_len r h3
    have a3 := ltr_len h2
    by_cases z : l = .nil ∧ r = .nil
    · obtain ⟨rfl, rfl⟩ := z
      rw [cs_leaf, a3]
      exact Nat.le_add_left ..
    · rw [cs_node x z]
      show _ ≤ 6 * (l.size + 1 + r.size) + 1
      simp only [List.length_append, List.length_cons, List.length_nil]
      omega
/-- the text is read in one way -/
theorem cs_inj : ∀ (t : T), t.lt → ∀ (u : T), u.lt → ∀ R S : List Nat, R.head? ≠ some 40 → S.head? ≠ some 40 → t.cs ++ R = u.cs ++ S → t = u ∧ R = S
  | .nil, _, .nil, _, R, S, _, _, e => ⟨rfl, by injection e⟩
  | .nil, _, .node l x r, h, R, S, _, _, e => by
    obtain ⟨_, ⟨c, c1, c2, rfl⟩, _⟩ := T.lt_node h
    exfalso
    by_cases z : l = .nil ∧ r = .nil
    · obtain ⟨rfl, rfl⟩ := z
      injection e with e1 _
      omega
    · rw [cs_node _ z] at e
      injection e with e1 _
      omega
  | .node l x r, h, .nil, _, R, S, _, _, e => by
    obtain ⟨_, ⟨c, c1, c2, rfl⟩, _⟩ := T.lt_node h
    exfalso
    by_cases z : l = .nil ∧ r = .nil
    · obtain ⟨rfl, rfl⟩ := z
      injection e with e1 _
      omega
    · rw [cs_node _ z] at e
      injection e with e1 _
      omega
  | .node l x r, h, .node l' x' r', h', R, S, hR, hS, e => by
    obtain ⟨h1, ⟨c, c1, c2, rfl⟩, h3⟩ := T.lt_node h
    obtain ⟨h1', ⟨c', c1', c2', rfl⟩, h3'⟩ := T.lt_node h'
    by_cases z : l = .nil ∧ r = .nil
    · obtain ⟨rfl, rfl⟩ := z
      by_cases z' : l' = .nil ∧ r' = .nil
      · obtain ⟨rfl, rfl⟩ := z'
        injection e with e1 e2
        exact ⟨by rw [e1], e2⟩
      · rw [cs_node _ z'] at e
        injection e with e1 e2
        exact absurd (by rw [show R = _ from e2]; rfl) hR
    · by_cases z' : l' = .nil ∧ r' = .nil
      · obtain ⟨rfl, rfl⟩ := z'
        rw [cs_node _ z] at e
        injection e with e1 e2
        exact absurd (by rw [show S = _ from e2.symm]; rfl) hS
      · rw [cs_node _ z, cs_node _ z'] at e
        have e' : c :: 40 :: (l.cs ++ (44 :: (r.cs ++ (41 :: R)))) = c' :: 40 :: (l'.cs ++ (44 :: (r'.cs ++ (41 :: S)))) := by
          simpa using e
        injection e' with e1 e2
        injection e2 with _ e3
        obtain ⟨rfl, e4⟩ := cs_inj l h1 l' h1' _ _ (by simp) (by simp) e3
        injection e4 with _ e5
        obtain ⟨rfl, e6⟩ := cs_inj r h3 r' h3' _ _ (by simp) (by simp) e5
        injection e6 with _ e7
        exact ⟨by rw [e1], e7⟩
theorem text_inj {t u : T} (ht : t.lt) (hu : u.lt) (h : t.text = u.text) : t = u :=
  (cs_inj t ht u hu [] [] (by simp) (by simp) (by rw [List.append_nil, List.append_nil]; exact tx_inj h)).1
theorem eqv_data : ∀ t u : T, PyData.eqv t.data u.data = true ↔ t = u
  | .nil, .nil => by simp [T.data, PyData.eqv]
  | .nil, .node l x r => by simp [T.data, PyData.eqv]
  | .node l x r, .nil => by simp [T.data, PyData.eqv]
  | .node l x r, .node l' x' r' => by
    have h1 := eqv_data l l'
    have h2 := eqv_data r r'
    simp only [T.data, PyData.eqv, PyData.eqvAll, Bool.and_eq_true, h1, h2, T.node.injEq]
    simp
theorem eqv_text {t u : T} (ht : t.lt) (hu : u.lt) : PyData.eqv t.data u.data = decide (V.str t.text = V.str u.text) := by
  by_cases h : t = u
  · subst h
    rw [(eqv_data t t).mpr rfl, decide_eq_true rfl]
  · have a : PyData.eqv t.data u.data = false := by
      cases e : PyData.eqv t.data u.data with
      | false => rfl
      | true => exact absurd ((eqv_data t u).mp e) h
    rw [a, decide_eq_false fun z => h (text_inj ht hu (V.str.inj z))]
section
variable {P : Program} {w : World} {K : PySem.W.Frag} {mg : Str → Option Value} {base : Heap} {f : Addr} {fd : FuncData}
/-! ### mirrored -/
def spMir (n : Nat) : Sp := fun vs H Q _ => ∃ (v : V) (t : T), vs = [v] ∧ TreeAt H v t ∧ t.deep < n ∧ ∀ H' v', Same H H' → TreeAt H' v' t.mir → Q v' H'
theorem ok_mir (F : Fun K "mirrored" "mirrored" s_mirrored f fd) (b : Binds K fd ["tree"] []) (g : mg "mirrored" = some (.ref f)) : ∀ n : Nat, FnOk P w K mg base CX0 n f fd ["tree"] (spMir n)
  | 0 => by
    have no : ∀ vs H Q E, ¬ spMir 0 vs H Q E := fun vs H Q E h => by
      obtain ⟨v, t, _, _, h1, _⟩ := h
      omega
    exact ⟨fun vs H Q E h => absurd h (no vs H Q E), fun A outer s H args us vs Q E _ _ _ _ h => absurd h (no vs H Q E)⟩
  | n + 1 => by
    have G := ok_mir F b g n
    refine F.ok sc_mirrored (fun vs H Q E h => ?_) (fun cdv A outer s H vs Q E hr h => ?_)
    · obtain ⟨v, t, rfl, _⟩ := h
      rfl
    obtain ⟨v, t, rfl, ht, hd, q⟩ := h
    refine ⟨_, pss_cons (ps_if (pt_cmpR op_isN (pv 0) pe_non (nomark _)) (pss_one (ps_ret pe_non)) pss_nil)
      (pss_cons (ps_asg (pv 0) (pg_tup rfl (pgs_cons (pg_name (i := 1) sc_mirrored.nd rfl (.inl rfl)) (pgs_cons (pg_name (i := 2) sc_mirrored.nd rfl (.inl rfl)) (pgs_cons (pg_name (i := 3) sc_mirrored.nd rfl (.inl rfl)) pgs_nil)))))
      (pss_one (ps_ret (pe_tup (pa_cons (pe_call G hr rfl g F.kp b .nil pass0 (pa_cons (pv 3) pa_nil)) (pa_cons (pv 2) (pa_cons (pe_call G hr rfl g F.kp b .nil pass0 (pa_cons (pv 1) pa_nil)) pa_nil))))))), ?_⟩
    rcases ht.inv with ⟨rfl, rfl⟩ | ⟨a, l, r, x, tl, tr, rfl, rfl, e, hl, hr'⟩
    · exact ⟨_, rfl, rfl, _, rfl, iteT (q H _ (Same.refl H) .nil)⟩
    · have hd' : 1 + max tl.deep tr.deep < n + 1 := hd
      refine ⟨_, rfl, rfl, _, rfl, iteF ?_⟩
      refine ⟨_, rfl, a, _, rfl, SqT.of e, rfl, l, _, rfl, .str x, _, rfl, r, _, rfl, rfl, ?_⟩
      refine ⟨r, rfl, r, tr, rfl, hr', by omega, fun H1 v1 s1 t1 => ?_⟩
      refine ⟨.str x, rfl, l, rfl, l, tl, rfl, hl.same s1, by omega, fun H2 v2 s2 t2 => ?_⟩
      refine ⟨(by show 3 ≤ sizeLine; decide), fun p hp => ?_⟩
      have s3 := same_new hp (.tup [v1, .str x, v2])
      exact q _ _ (s1.trans (s2.trans s3)) (.node upd_same (t1.same (s2.trans s3)) (t2.same s3))
end
/-! ### tree_text, side_text -/
theorem str_par1 : Str.ofString "(" = tx [40] := by decide +kernel
theorem str_par2 : Str.ofString ")" = tx [41] := by decide +kernel
theorem str_com : Str.ofString "," = tx [44] := by decide +kernel
def spText (n : Nat) : Sp := fun vs H Q _ => ∃ (v : V) (t : T), vs = [v] ∧ TreeAt H v t ∧ t ≠ .nil ∧ t.lt ∧ t.size ≤ 60 ∧ t.deep ≤ n ∧ Q (.str t.text) H
def spSide (n : Nat) : Sp := fun vs H Q _ => ∃ (v : V) (t : T), vs = [v] ∧ TreeAt H v t ∧ t.lt ∧ t.size ≤ 60 ∧ t.deep ≤ n ∧ Q (.str t.text) H
section
variable {P : Program} {w : World} {K : PySem.W.Frag} {mg : Str → Option Value} {base : Heap} {f : Addr} {fd : FuncData}
theorem ok_side (F : Fun K "side_text" "side_text" s_side_text f fd) {n k : Nat} (Dtree_text : Df P w K mg base k "tree_text" ["tree"] (spText n)) : FnOk P w K mg base CX0 (k + 1) f fd ["side"] (spSide n) := by
  refine F.ok sc_side_text (fun vs H Q E h => ?_) (fun cdv A outer s H vs Q E hr h => ?_)
  · obtain ⟨v, t, rfl, _⟩ := h
    rfl
  obtain ⟨v, t, rfl, hv, lt, ts, hn, q⟩ := h
  refine ⟨_, (pss_one (ps_ret (pe_ifExp (pt_cmpR op_isN (pv 0) pe_non (nomark _)) pe_str (pe_call Dtree_text.ok (hr.mono (by omega)) rfl Dtree_text.g Dtree_text.kp Dtree_text.b .nil pass0 (pa_cons (pv 0) pa_nil))))), ?_⟩
  rcases hv.inv with ⟨rfl, rfl⟩ | ⟨a, l, r, x, tl, tr, rfl, rfl, ea, hl, hr'⟩
  · refine ⟨_, rfl, rfl, _, rfl, iteT ?_⟩
    exact q
  · refine ⟨_, rfl, rfl, _, rfl, iteF ?_⟩
    exact ⟨_, rfl, _, _, rfl, hv, (fun z => nomatch z), lt, ts, hn, q⟩
theorem ok_text0 (F : Fun K "tree_text" "tree_text" s_tree_text f fd) {n k : Nat} (Dside_text : Df P w K mg base k "side_text" ["side"] (spSide n)) : FnOk P w K mg base CX0 (k + 1) f fd ["tree"] (spText (n + 1)) := by
  refine F.ok sc_tree_text (fun vs H Q E h => ?_) (fun cdv A outer s H vs Q E hr h => ?_)
  · obtain ⟨v, t, rfl, _⟩ := h
    rfl
  obtain ⟨v, t, rfl, hv, tn, lt, ts, hn, q⟩ := h
  refine ⟨_, (pss_cons (ps_asg (pv 0) (pg_tup rfl (pgs_cons (pg_name (i := 1) sc_tree_text.nd rfl (.inl rfl)) (pgs_cons (pg_name (i := 2) sc_tree_text.nd rfl (.inl rfl)) (pgs_cons (pg_name (i := 3) sc_tree_text.nd rfl (.inl rfl)) pgs_nil)))))
    (pss_cons (ps_if (PW.pt (pw_and (pt_cmpR op_isN (pv 1) pe_non (nomark _)) (pw_and1 (pt_cmpR op_isN (pv 3) pe_non (nomark _)))))
      (pss_one (ps_ret (pv 2))) pss_nil)
    (pss_one (ps_ret (pe_joined (PJ.cons (pe_fmt (pv 2)) (PJ.cons pe_str (PJ.cons (pe_fmt (pe_call Dside_text.ok (hr.mono (by omega)) rfl Dside_text.g Dside_text.kp Dside_text.b .nil pass0 (pa_cons (pv 1) pa_nil))) (PJ.cons pe_str (PJ.cons (pe_fmt (pe_call Dside_text.ok (hr.mono (by omega)) rfl Dside_text.g Dside_text.kp Dside_text.b .nil pass0 (pa_cons (pv 3) pa_nil))) (PJ.cons pe_str PJ.nil))))))))))), ?_⟩
  rcases hv.inv with ⟨rfl, rfl⟩ | ⟨a, l, r, x, tl, tr, rfl, rfl, ea, hl, hr'⟩
  · exact absurd rfl tn
  · refine ⟨_, rfl, a, _, rfl, SqT.of ea, rfl, l, _, rfl, .str x, _, rfl, r, _, rfl, rfl, ?_⟩
    obtain ⟨lt1, lt2, lt3⟩ := T.lt_node lt
    have hd : 1 + max tl.deep tr.deep ≤ n + 1 := hn
    have hz : tl.size + 1 + tr.size ≤ 60 := ts
    have c1 := cs_len tl lt1
    have c2 := cs_len tr lt3
    have c3 := ltr_len lt2
    have fin : ∀ (hnn : ¬ (tl = .nil ∧ tr = .nil)), Q (.str (((((Str.empty ++ x) ++ Str.ofString "(") ++ tl.text) ++ Str.ofString ",") ++ tr.text ++ Str.ofString ")")) H := fun hnn => by
      have e : ((((Str.empty ++ x) ++ Str.ofString "(") ++ tl.text) ++ Str.ofString ",") ++ tr.text ++ Str.ofString ")" = (T.node tl x tr).text := by
        unfold T.text
        rw [cs_node x hnn, show Str.empty = tx [] from rfl, str_par1, str_com, str_par2, ← tx_of x, tx_app, tx_app, tx_app, tx_app, tx_app, tx_app]
        simp [tx]
      rw [e]
      exact q
    have ln : ∀ l : List Nat, l.length ≤ 1000 → (tx l).length ≤ sizeLine := fun l h => small h
    have fmt : ∀ (hnn : ¬ (tl = .nil ∧ tr = .nil)), tRet (fun σ H Q => tJs [tFmt (tVar 2), tC (.str (Str.ofString "(")), tFmt (tCall (spSide n) [] E0 (tCons (tVar 1) tNil)), tC (.str (Str.ofString ",")), tFmt (tCall (spSide n) [] E0 (tCons (tVar 3) tNil)), tC (.str (Str.ofString ")"))] Str.empty σ H fun out H1 => Q (.str out) H1) { nx := fun x H' => Q V.non H', rt := Q } [some (.ref a), some l, some (.str x), some r] H := fun hnn => by
      have f := fin hnn
      rw [show Str.empty = tx [] from rfl, str_par1, str_com, str_par2] at f ⊢
      rw [← tx_of x] at f ⊢
      unfold T.text at f
      refine ⟨_, rfl, .inl ⟨_, rfl, ln _ (by omega), _, rfl, by rw [tx_app]; exact ln _ (by rw [List.nil_append]; omega), ?_⟩⟩
      refine ⟨_, rfl, by rw [tx_app, tx_app]; exact ln _ (by simp only [List.length_append, List.length_cons, List.length_nil]; omega), ?_⟩
      refine ⟨_, rfl, l, tl, rfl, hl, lt1, by omega, by omega, .inl ⟨_, rfl, ln _ (by omega), _, rfl, by unfold T.text; rw [tx_app, tx_app, tx_app]; exact ln _ (by simp only [List.length_append, List.length_cons, List.length_nil]; omega), ?_⟩⟩
      refine ⟨_, rfl, by unfold T.text; rw [tx_app, tx_app, tx_app, tx_app]; exact ln _ (by simp only [List.length_append, List.length_cons, List.length_nil]; omega), ?_⟩
      refine ⟨_, rfl, r, tr, rfl, hr', lt3, by omega, by omega, .inl ⟨_, rfl, ln _ (by omega), _, rfl, by unfold T.text; rw [tx_app, tx_app, tx_app, tx_app, tx_app]; exact ln _ (by simp only [List.length_append, List.length_cons, List.length_nil]; omega), ?_⟩⟩
      refine ⟨_, rfl, by unfold T.text; rw [tx_app, tx_app, tx_app, tx_app, tx_app, tx_app]; exact ln _ (by simp only [List.length_append, List.length_cons, List.length_nil]; omega), ?_⟩
      exact f
    rcases hl.inv with ⟨rfl, rfl⟩ | ⟨a1, l1, r1, x1, tl1, tr1, rfl, rfl, ea1, hl1, hr1⟩
    · refine ⟨_, rfl, rfl, _, rfl, iteT ?_⟩
      rcases hr'.inv with ⟨rfl, rfl⟩ | ⟨a2, l2, r2, x2, tl2, tr2, rfl, rfl, ea2, hl2, hr2⟩
      · refine ⟨_, rfl, rfl, _, rfl, iteT ?_⟩
        exact ⟨_, rfl, q⟩
      · refine ⟨_, rfl, rfl, _, rfl, iteF ?_⟩
        exact fmt (fun z => nomatch z.2)
    · refine ⟨_, rfl, rfl, _, rfl, iteF ?_⟩
      exact fmt (fun z => nomatch z.1)
theorem ok_texts {f1 f2 : Addr} {fd1 fd2 : FuncData} (F1 : Fun K "tree_text" "tree_text" s_tree_text f1 fd1) (b1 : Binds K fd1 ["tree"] []) (g1 : mg "tree_text" = some (.ref f1)) (F2 : Fun K "side_text" "side_text" s_side_text f2 fd2) (b2 : Binds K fd2 ["side"] []) (g2 : mg "side_text" = some (.ref f2)) :
    ∀ n : Nat, FnOk P w K mg base CX0 (2 * n) f1 fd1 ["tree"] (spText n)
  | 0 => by
    have no : ∀ vs H Q E, ¬ spText 0 vs H Q E := fun vs H Q E h => by
      obtain ⟨v, t, _, _, tn, _, _, h1, _⟩ := h
      cases t with
      | nil => exact tn rfl
      | node l x r =>
        have h2 : 1 + max l.deep r.deep ≤ 0 := h1
        omega
    exact ⟨fun vs H Q E h => absurd h (no vs H Q E), fun A outer s H args us vs Q E _ _ _ _ h => absurd h (no vs H Q E)⟩
  | n + 1 => ok_text0 F1 (n := n) (k := 2 * n + 1) ⟨f2, fd2, ok_side F2 ⟨f1, fd1, ok_texts F1 b1 g1 F2 b2 g2 n, b1, F1.kp, g1⟩, b2, F2.kp, g2⟩
end
section
variable {P : Program} {w : World} {K : PySem.W.Frag} {mg : Str → Option Value} {base : Heap} {f : Addr} {fd : FuncData}
/-! ### _law_one -/
def spOne : Sp := fun vs H Q _ => ∃ (D : Deck) (n : Nat) (p : Addr) (xs : List Str), vs = [.ref D.dk, .ref p] ∧ DeckOk H D n ∧ n ≤ 1000000 ∧ H p = some (.lst (xs.map V.str)) ∧ Off D p ∧ 0 < xs.length ∧ xs.length ≤ 1000 ∧
  ∀ (x : Str) (H' : Hp), x ∈ xs → DeckOk H' D (n + 1) → SameD D H H' → Q (.str x) H'
theorem ok_one (F : Fun K "_law_one" "_law_one" s__law_one f fd) (M : Mgs mg) (D_law_next : Df P w K mg base 1 "_law_next" ["_law_deck_here", "_law_many"] spNext) : FnOk P w K mg base CX0 2 f fd ["_law_deck_here", "_law_items"] spOne := by
  refine F.ok sc__law_one (fun vs H Q E h => ?_) (fun cdv A outer s H vs Q E hr h => ?_)
  · obtain ⟨D, n, p, xs, rfl, _⟩ := h
    rfl
  obtain ⟨D, n, p, xs, rfl, d, hn, ep, op, x0, x1, q⟩ := h
  refine ⟨_, (pss_one (ps_ret (pe_ix ix_list (pv 1) (pe_call D_law_next.ok (hr.mono (by omega)) rfl D_law_next.g D_law_next.kp D_law_next.b .nil pass0 (pa_cons (pv 0) (pa_cons (pe_callB call_len_seq rfl M.len PySem.boot_len (pa_cons (pv 1) pa_nil)) pa_nil))) (fun _ _ => rfl)))), ?_⟩
  refine ⟨_, rfl, _, rfl, _, rfl, p, _, rfl, .inl (SqL.of ep), D, n, _, rfl, d, hn, by rw [List.length_map]; omega, by rw [List.length_map]; omega, fun i H' i0 i1 d1 s1 => ?_⟩
  rw [List.length_map] at i1
  have hi : i.toNat < xs.length := by omega
  exact ⟨p, _, _, _, rfl, rfl, SqL.of (s1.at op ep), at_map i0 (List.getElem?_eq_getElem hi), q _ _ (List.getElem_mem hi) d1 s1⟩
end
/-! ### own errors with one field, over ValueError or LookupError -/
section
open PySem.Builtin PySem.Builtin.ObjectAttr PySem.HandSPX
/-- own classes, then the mro of the built-in one -/
def refsT (tail : List Value) : List Value → Bool
  | .ref _ :: r => refsT tail r
  | l => l == tail
/-- a family of errors: what the library says of its built-in class -/
structure Fam (B newId initId : String) (tail : List Value) : Prop where
  facts : ExcBaseFacts B newId initId tail
  pass : ∀ self, refuseLoop self "__setattr__" tail = pure ()
  obj : tail.contains (.type "object") = true
theorem famV : Fam "ValueError" "ValueError.__new__" "ValueError.__init__" [.type "ValueError", .type "Exception", .type "BaseException", .type "object"] := ⟨F.excBase_ValueError, fun self => F.store_ValueError.passes self, by decide +kernel⟩
theorem famL : Fam "LookupError" "LookupError.__new__" "LookupError.__init__" [.type "LookupError", .type "Exception", .type "BaseException", .type "object"] := ⟨F.excBase_LookupError, fun self => F.store_LookupError.passes self, by decide +kernel⟩
theorem refsT_or {tail : List Value} (l : List Value) (h : refsT tail l = true) : (∃ c r, l = .ref c :: r ∧ refsT tail r = true) ∨ l = tail := by
  unfold refsT at h
  split at h
  · exact .inl ⟨_, _, rfl, h⟩
  · exact .inr (beq_iff_eq.mp h)
theorem refsT_all {tail : List Value} {Good : List Value → Prop} (h0 : Good tail) (hs : ∀ c r, Good r → Good (.ref c :: r)) : ∀ l : List Value, refsT tail l = true → Good l
  | [], h => by
    rcases refsT_or [] h with ⟨_, _, e, _⟩ | e
    · cases e
    · rw [e]; exact h0
  | a :: r, h => by
    rcases refsT_or (a :: r) h with ⟨c, r', e, h'⟩ | e
    · cases e
      exact hs c r (refsT_all h0 hs r h')
    · rw [e]; exact h0
variable {B newId initId : String} {tail : List Value}
theorem Fam.passes (fam : Fam B newId initId tail) (self : Value) (l : List Value) (h : refsT tail l = true) : refuseLoop self "__setattr__" l = pure () :=
  refsT_all (Good := fun l => refuseLoop self "__setattr__" l = pure ()) (fam.pass self) (fun c r e => by rw [refuseLoop_ref]; exact e) l h
theorem refsT_has (X : String) (l : List Value) (h : refsT tail l = true) : l.contains (.type X) = tail.contains (.type X) :=
  refsT_all (Good := fun l => l.contains (.type X) = tail.contains (.type X)) rfl (fun c r e => by rw [List.contains_cons, e]; rfl) l h
theorem Fam.some (fam : Fam B newId initId tail) (l : List Value) (h : refsT tail l = true) : l.isEmpty = false := by
  cases l with
  | nil =>
    have e := refsT_has "object" [] h
    rw [fam.obj] at e
    exact absurd e (by decide)
  | cons _ _ => rfl
/-- the first field of an error -/
theorem first_field {prog : Program} {w : World} {A : Around} {R : Result → Shared → Prop} {hp : Heap} {g : Array GenState} {d : Drawn} {t : Nat} {os : OsState} {K : PySem.W.Frag} {name : Str} {tk : Tok} {v : Value} {x C : Addr} {fv : Array Value} {cd : ClassData}
    (fam : Fam B newId initId tail) (inK : K.In hp) (isX : hp.get? x = some { cls := .ref C, data := .fields fv }) (isC : PySem.W.clsIn K C = some cd)
    (isM : refsT tail cd.mro = true) (dict : cd.hasDict = true) (free : PySem.W.findIn K (.ref C) name = some none)
    (done : ∀ h' tk' dx, (∀ b o, b ≠ x → hp.get? b = some o → h'.get? b = some o) → hp.objs.size ≤ dx → dx ≠ x →
      h'.get? x = some { cls := .ref C, dict := some dx, data := .fields fv } → h'.Ns1 dx (fun y => if y = name then some v else none) → R (.ok (.ret .none)) ⟨h', g, d, tk', os⟩) :
    codeAny (model prog w) A (.call (.builtin "object.__setattr__") ⟨[.ref x, .str name tk, v], []⟩) R ⟨hp, g, d, t, os⟩ := by
  have at0 : PySem.W.InstAt hp x { cls := .ref C, data := .fields fv } C none := ⟨isX, rfl, rfl, trivial⟩
  have store := PySem.F.store_object
  have hasObj : cd.mro.contains (.type "object") = true := (refsT_has "object" _ isM).trans fam.obj
  have notNew : x ≠ hp.objs.size := Nat.ne_of_lt (Heap.lt_size isX)
  have isSub : PySem.W.Looks (model prog w) hp (isInstance (.ref x) (.type "object")) true := by
    refine at0.type.andThen (PySem.W.looks_mroIn inK ?_)
    unfold PySem.W.mroIn
    rw [isC, Option.bind_some, if_neg (by rw [fam.some _ isM]; decide), hasObj]
  refine codeAny_call_builtin store.slot.plain store.entry ?_
  refine @PySem.W.check_slot (model prog w) _ _ ⟨hp, g, d, t, os⟩ "object.__setattr__" "object" "__setattr__" (.ref x) [.str name tk, v] [] _ store.kind store.split isSub
    (store.args (.ref x) (.str name tk) v) ?_
  have mroL : PySem.W.Looks (model prog w) hp (mroOf (.ref C)) cd.mro := (PySem.W.looks_clsIn inK isC).andThen .now
  have noTaker : PySem.W.Looks (model prog w) hp (storeTaker? none) none := .now
  have clsL : PySem.W.Looks (model prog w) hp (classData C) cd := PySem.W.looks_clsIn inK isC
  rw [PySem.W.osa_eq, refuse_eq]
  refine wpAny_bind (wpAny_bind (at0.type.at (wpAny_bind (mroL.at ?_))))
  rw [fam.passes _ _ isM]
  refine wpAny_pure (wpAny_bind (at0.type.at (wpAny_bind ((PySem.W.looks_findIn inK free).at ?_))))
  refine wpAny_bind (noTaker.at ?_)
  show wpAny _ _ (storeInOwnDict (.ref x) (.ref C) (.str name tk) name v false) _ _ _
  obtain ⟨nm, bs, mro, nsA, qn, hd, sn, sb, ab, col, del⟩ := cd
  dsimp only at dict
  subst dict
  unfold storeInOwnDict ownDictForStores
  repeat (first
    | with_reducible refine store_in_new ?_ ?_
    | with_reducible refine wpAny_loadPart_at isX ?_
    | with_reducible refine clsL.at ?_
    | wp_step)
  · refine ⟨_, #[], _, (Heap.get?_update_ne _ _ _ _ notNew.symm).trans (Heap.get?_push_at rfl rfl), rfl, ?_, fun _ => rfl⟩
    intro e he
    exact absurd he (by simp)
  · intro h' tk' ns1 same
    have isX1 : (hp.push { cls := .type "dict", data := .dict #[] }).get? x = some { cls := .ref C, data := .fields fv } := Heap.get?_push_of_some _ isX
    refine done h' tk' hp.objs.size ?_ (Nat.le_refl _) notNew.symm ?_ ns1
    · intro b o hb ho
      refine (same.2 b (Nat.ne_of_lt (Heap.lt_size ho))).trans ?_
      exact (Heap.get?_update_ne _ _ _ _ hb).trans (Heap.get?_push_of_some _ ho)
    · exact (same.2 x notNew).trans (Heap.get?_update_self _ isX1 rfl)
end
abbrev veT : List Value := [.type "ValueError", .type "Exception", .type "BaseException", .type "object"]
/-! ### errors with the field index -/
def iA_index (p1 p2 : Pos) : Arguments := { posonlyargs := [], args := [{ arg := "self", annotation := none, pos := p1 }, { arg := "index", annotation := none, pos := p2 }], vararg := none, kwonlyargs := [], kw_defaults := [], kwarg := none, defaults := [] }
def iB_index (q1 q2 q3 q4 : Pos) : List Stmt := [.Assign [.Attribute (.Name "self" q1) "index" q2] (.Name "index" q3) q4]
def iS_index : Scope := { kind := .function, names := [(PySem.Str.ofString "self", .local), (PySem.Str.ofString "index", .local)], isGenerator := false, isCoroutine := false, more := [] }
/-- what the written part says of the class cn, at C, and of its __init__, at fI -/
structure Err_index (K : PySem.W.Frag) (mg : Str → Option Value) (newId : String) (tail : List Value) (cn qn : Str) (C fI : Addr) : Prop where
  gC : mg cn = some (.ref C)
  nd : (cn == ("__debug__" : Str)) = false
  cls : ∃ nm q N bs bm sn sub ab col dd k0 k1 k2 k3 k5, K.lookup C = some (excClassObj nm q C N bs bm true sn sub ab col dd k0 k1 k2 k3 k5 newId) ∧ refsT tail bm = true
  sa : PySem.W.findIn K (.ref C) "__setattr__" = some (some (.builtin "object.__setattr__"))
  ga : PySem.W.findIn K (.ref C) "__getattribute__" = some (some (.builtin "BaseException.__getattribute__"))
  gg : PySem.W.findIn K (.ref C) "__getattr__" = some none
  noN : PySem.W.findIn K (.ref C) "index" = some none
  iC : PySem.W.findIn K (.ref C) "__init__" = some (some (.ref fI))
  tC : PySem.W.typeIn K (.ref fI) = some (.type "function")
  kC : PySem.W.keepIn K (.ref C) = true
  exC : PySem.W.subIn K (.ref C) (.type "BaseException") = some true
  tyC : PySem.W.typeIn K (.ref C) = some (.type "type")
  hdC : PySem.W.hasDictIn K C = true
  fn : ∃ (oc : Value) (od : Option Addr) (doc pm : Value) (an : Option Addr) (cdv ct : Value) (osl : Array (Option Value)) (p1 p2 q1 q2 q3 q4 : Pos),
    K.lookup fI = some ⟨oc, od, .func (PySem.W.fnOf "__init__" qn (iA_index p1 p2) (iB_index q1 q2 q3 q4) iS_index .none .none doc pm an cdv ct), osl⟩ ∧ PySem.W.codeIn K cdv qn = true
section
open PySem.Builtin PySem.Builtin.ObjectAttr PySem.HandSPX
variable {prog : Program} {w : World} {A : Around} {E : Value → Shared → Prop} {R : Result → Shared → Prop} {s : Shared} {K : PySem.W.Frag} {mg : Str → Option Value} {C fI : Addr} {B newId initId : String} {tail : List Value} {cn qn : Str}
theorem init_index (fam : Fam B newId initId tail) (T : Err_index K mg newId tail cn qn C fI) {x t0 : Addr} {v : Value} (inK : K.In s.heap) (lim : s.heap.NoLimit) (isX : s.heap.get? x = some (excO C t0)) (offK : K.lookup x = none) (room : A.depth < recursionLimit)
    (done : ∀ h' tk dx, (∀ b o, b ≠ x → s.heap.get? b = some o → h'.get? b = some o) → h'.get? x = some { cls := .ref C, dict := some dx, data := .fields #[.ref t0, .none, .none, .none, .bool false, .none] } → s.heap.objs.size ≤ dx → dx ≠ x →
      h'.Ns1 dx (fun y => if y = "index" then some v else none) → R (.ok (.ret .none)) { s with heap := h', toks := tk }) :
    codeAny (model prog w) A (.call (.ref fI) ⟨[.ref x, v], []⟩) R s := by
  obtain ⟨oc, od, doc, pm, an, cdv, ct, osl, p1, p2, q1, q2, q3, q4, isF, isCode⟩ := T.fn
  obtain ⟨nm, q, N, bs, bm, sn, sub, ab, col, dd, k0, k1, k2, k3, k5, isC, isM⟩ := T.cls
  have cls : PySem.W.clsIn K C = some { name := nm, bases := bs, mro := .ref C :: bm, ns := N, qualname := q, hasDict := true, slotNames := sn, subclasses := sub, abstract := ab, collection := col, hasDel := false } := by
    unfold PySem.W.clsIn
    rw [isC] <;> rfl
  refine Att.call_fn (binds := [("self", .ref x), ("index", v)]) inK lim isF isCode room (BindsTo.of_eq (by first | rfl | with_unfolding_all rfl)) (by first | rfl | decide | with_unfolding_all rfl) (fun s₁ IC => ?_) rfl rfl rfl
  obtain ⟨h₁, tk₁, rfl⟩ := IC.toInCall.same
  have keep : ∀ b o, s.heap.get? b = some o → h₁.get? b = some o := IC.toInCall.keep
  have locals := IC.toInCall.ns
  have inK₁ : K.In h₁ := inK.keeps keep
  have isX₁ := keep _ _ isX
  show wpAny _ _ (execs _ _) _ _ _
  refine wpAny_execs_cons (plainObj_wpAny_Assign_Attribute ?_)
  refine wpAny_Name (wpAny_loadName_local (by rfl) (by rfl) locals (v := v) (by first | rfl | with_unfolding_all rfl | kernel_rfl) ?_) (by decide)
  refine wpAny_Name (wpAny_loadName_local (by rfl) (by rfl) locals (v := .ref x) (by first | rfl | with_unfolding_all rfl | kernel_rfl) ?_) (by decide)
  refine PySem.W.set_plain inK₁ (ox := excO C t0) (od := none) ⟨isX₁, rfl, rfl, trivial⟩ T.sa ?_
  refine first_field fam inK₁ isX₁ cls (show refsT tail (.ref C :: bm) = true from isM) rfl T.noN (fun h₃ tk₃ dx k₃ dn dne hx₃ hn₃ => ?_)
  show wpAny _ _ (execs _ _) _ _ _
  have z : s.heap.objs.size < h₁.objs.size := locals.lt
  exact wpAny_execs_nil (done h₃ tk₃ dx (fun b o hb e => k₃ b o hb (keep b o e)) hx₃ (Nat.le_of_lt (Nat.lt_of_lt_of_le z dn)) dne hn₃)
/-- a made error -/
structure Made_index (h h' : Heap) (e C d : Addr) (v : Value) : Prop where
  keep : ∀ b o, h.get? b = some o → h'.get? b = some o
  new : h.objs.size ≤ e
  obj : ∃ oe vs, h'.get? e = some oe ∧ oe.cls = .ref C ∧ oe.dict = some d ∧ oe.data = .fields vs ∧ vs[1]? = some .none
  dbig : h.objs.size ≤ d
  dne : d ≠ e
  ns : h'.Ns1 d (fun y => if y = "index" then some v else none)
theorem made_index (fam : Fam B newId initId tail) (T : Err_index K mg newId tail cn qn C fI) {v : Value} (inK : K.In s.heap) (lim : s.heap.NoLimit) (room : A.depth + 1 < recursionLimit)
    (done : ∀ h' tk e d, Made_index s.heap h' e C d v → R (.ok (.ret (.ref e))) { s with heap := h', toks := tk }) :
    codeAny (model prog w) A (.call (.ref C) ⟨[v], []⟩) R s := by
  obtain ⟨nm, q, N, bs, bm, sn, sub, ab, col, dd, k0, k1, k2, k3, k5, isC, isM⟩ := T.cls
  obtain ⟨hp, g, dr, tk, os⟩ := s
  have keep : ∀ b o, hp.get? b = some o → ((hp.push (PySem.W.kdv_tup [v])).push (excO C hp.objs.size)).get? b = some o := fun b o e => Heap.get?_push_of_some _ (Heap.get?_push_of_some _ e)
  have isE : ((hp.push (PySem.W.kdv_tup [v])).push (excO C hp.objs.size)).get? (hp.objs.size + 1) = some (excO C hp.objs.size) := by heap_get
  have offK : K.lookup (hp.objs.size + 1) = none := by
    cases e : K.lookup (hp.objs.size + 1) with
    | none => rfl
    | some o => exact absurd (Nat.lt_of_succ_lt (Heap.lt_size (inK _ _ e))) (Nat.lt_irrefl _)
  refine call_own fam.facts (fun X => refsT_has X bm isM) (inK _ _ isC) (PySem.W.looks_findIn inK T.iC) (fun self => PySem.W.bind_fn inK self T.tC) (by show 1 ≤ sizeLine; decide) ?_
  refine init_index (s := ⟨(hp.push (PySem.W.kdv_tup [v])).push (excO C hp.objs.size), g, dr, tk, os⟩) fam T (inK.keeps keep) (lim.keeps keep) isE offK ?_ fun h' tk' dx k' hx dn dne hns => ?_
  · show A.depth + 1 < recursionLimit
    exact room
  · have old : ∀ b o, hp.get? b = some o → h'.get? b = some o := fun b o e => k' b o (Nat.ne_of_lt (Nat.lt_succ_of_lt (Heap.lt_size e))) (keep b o e)
    have z : hp.objs.size + 1 + 1 ≤ dx := by
      have y := dn
      rw [Heap.size_push, Heap.size_push] at y
      exact y
    exact ⟨rfl, done h' tk' (hp.objs.size + 1) dx ⟨old, Nat.le_succ _, ⟨_, _, hx, rfl, rfl, rfl, rfl⟩, (show hp.objs.size ≤ dx by omega), dne, hns⟩⟩
end
theorem rel_index {v : V} {u : Value} (r : RelV v u) (f : Str) : RelO (List.lookup f [(("index" : Str), v)]) (if f = "index" then some u else none) := by
  by_cases h : f = "index"
  · subst h
    rw [if_pos rfl, show List.lookup ("index" : Str) [(("index" : Str), v)] = some v by simp [List.lookup]]
    exact r
  · have e : (f == ("index" : Str)) = false := by simpa using h
    rw [if_neg h, show List.lookup f [(("index" : Str), v)] = none by simp [List.lookup, e]]
    trivial
section
variable {X : Cx} {C fI : Addr} {B newId initId : String} {tail : List Value} {cn qn : Str}
/-- cn(e) -/
def tMk_index (C : Addr) (ta : TA) : L2.St → Hp → XK → Prop := fun σ H Q => ta σ H fun vs H1 => ∃ v, vs = [v] ∧ ∀ d, H1 d = none → Q (.ref C) (some d) (upd H1 d (.xd [(("index" : Str), v)]))
theorem pmk_index {a : Expr} {ta : TA} {p pos : Pos} {k : Nat} (fam : Fam B newId initId tail) (T : Err_index X.K X.mg newId tail cn qn C fI) (hr : Room k X.A) (ha : PA X [a] ta) (hg : Gl X cn)
    (he : starEach (a :: []) X.env = (false, eval a X.env) :: starEach [] X.env := by rfl) (hpl : (backTo pos (starEach [] X.env)).any (·.1) = false := by rfl) :
    PMk X (.Call (.Name cn p) [a] [] pos) (tMk_index C ta) := by
  intro pins s σ H Q I h
  refine wpAny_Call_Name_kw (ld_glob I hg T.gC ?_ T.nd)
  refine PySem.W.callWith_K (h₀ := X.base) I.ok.mod.kin T.kC (thn (ha.run pos pins s σ H _ I h) ?_) he hpl
  rintro us s1 ⟨vs, H1, I1, r1, v, rfl, q1⟩
  refine ⟨I1.kIn, ?_⟩
  cases r1 with
  | @cons _ v' _ us' rv rn =>
    cases rn
    show wpAny _ _ (call (.ref C) [v']) _ _ _
    have lim := I1.nolimit
    obtain ⟨hp, g, dr, tk, os⟩ := s1
    refine wpAny_call (made_index fam T I1.kIn lim (by have := hr.dp; omega) fun h' tk' e d M => ?_)
    show MkP X pins σ Q (.ref e) ⟨h', g, dr, tk', os⟩
    obtain ⟨oe, fv, hoe, hc, hd, hdat, h1⟩ := M.obj
    obtain ⟨G', g1, g2⟩ := restrict h' fun b => decide (b ≠ e)
    have gk : ∀ b, b ≠ e → G'.get? b = h'.get? b := fun b hb => g1 b (decide_eq_true hb)
    have ge : G'.get? e = none := g2 e (by simp)
    have old : ∀ b o, hp.get? b = some o → G'.get? b = some o := by
      intro b o z
      refine (gk b (Nat.ne_of_lt (Nat.lt_of_lt_of_le (Heap.lt_size z) M.new))).trans ?_
      exact M.keep b o z
    have ok : ObjOk X.prog X.w (upd H1 d (.xd [(("index" : Str), v)])) G' d (.xd [(("index" : Str), v)]) :=
      ⟨_, M.ns.at (fun o z => (gk d M.dne).trans z), fun f => rel_index rv f⟩
    have J : Inv X pins σ (upd H1 d (.xd [(("index" : Str), v)])) ⟨G', g, dr, tk', os⟩ := I1.laid (t' := tk') old M.dbig ok
    refine ⟨e, oe, fv, ⟨G', g, dr, tk', os⟩, _, .ref C, some d, rfl, J, ?_, ge, hoe, ⟨hc, hd⟩, hdat, h1, ?_, rfl, I1.bare, raises_own T.exC T.tyC, q1 d (I1.hok.fresh M.dbig)⟩
    · intro b o z
      by_cases hb : b = e
      · have z' : G'.get? b = some o := z
        rw [hb, ge] at z'
        cases z'
      · exact (gk b hb).symm.trans z
    · rw [upd_ne (Ne.symm M.dne)]
      exact I1.hok.fresh M.new
/-- raise cn(e) -/
def tRaise_index (C : Addr) (W : WX) (ta : TA) : TS := fun _ σ H => tMk_index C ta σ H fun cls d H' => W cls d σ H'
theorem ps_raise_index {a : Expr} {ta : TA} {W : WX} {p pos pos2 : Pos} {k : Nat} (hc : X.calm = true) (fam : Fam B newId initId tail) (T : Err_index X.K X.mg newId tail cn qn C fI) (hr : Room k X.A) (tk : Takes X W) (ha : PA X [a] ta) (hg : Gl X cn)
    (he : starEach (a :: []) X.env = (false, eval a X.env) :: starEach [] X.env := by rfl) (hpl : (backTo pos (starEach [] X.env)).any (·.1) = false := by rfl) :
    PS X (.Raise (some (.Call (.Name cn p) [a] [] pos)) none pos2) (tRaise_index C W ta) := ps_raise hc tk (pmk_index fam T hr ha hg he hpl)
/-- err.index, err the error that the suite holds (at a; its class cls, its dict d) -/
def tFld_index (C : Addr) (a : Addr) (cls : Value) (d : Option Addr) (te : TE) : TE := fun σ H Q => te σ H fun x H1 => x = .ref a ∧ cls = .ref C ∧ ∃ (dd : Addr) (v : V), d = some dd ∧ H1 dd = some (.xd [(("index" : Str), v)]) ∧ Q v H1
theorem pe_fld_index {a : Addr} {oe : Obj} {cls : Value} {d : Option Addr} {pn : List (Addr × Obj)} {e : Expr} {te : TE} {pos : Pos} (T : Err_index X.K X.mg newId tail cn qn C fI) (hz : Zc cls d oe) (hf : ∃ vs, oe.data = .fields vs) (he : PE (X.suite a ((a, oe) :: pn)) e te)
    (hb : attributeBase e "index" X.env (eval e X.env) = eval e X.env := by rfl) :
    PE (X.suite a ((a, oe) :: pn)) (.Attribute e "index" pos) (tFld_index C a cls d te) := by
  constructor
  intro pins s σ H Q I h
  refine attr_of hb (thn (he.run pins s σ H _ I h) ?_)
  rintro u s1 ⟨x, H1, I1, rx, rfl, rfl, dd, v, rfl, ea, q⟩
  cases rx
  obtain ⟨ha, _⟩ := I1.pin (a, oe) (List.mem_append_left _ List.mem_cons_self)
  obtain ⟨vs, hd⟩ := hf
  have ok : ObjOk X.prog X.w H1 s1.heap dd (.xd [(("index" : Str), v)]) := I1.hok dd _ ea
  obtain ⟨mA, hns, hr⟩ := ok
  obtain ⟨od, ho, hl⟩ := lookIn_ns hns
  have look : List.lookup ("index" : Str) [(("index" : Str), v)] = some v := by simp [List.lookup]
  obtain ⟨u, hu, ru⟩ := RelO.some_of (v := v) (o := mA "index") (by rw [← look]; exact hr "index")
  have J : PySem.W.InstAt s1.heap a oe C (some od) := ⟨ha, hz.1, by unfold PySem.W.notCls; rw [hd] <;> rfl, by rw [hz.2]; exact ho⟩
  exact HandSPX.exc_get I1.kIn J T.ga T.gg T.exC (PySem.W.findObj_own T.hdC T.noN rfl (by rw [hl, hu])) (handed_of ru) ⟨v, H1, I1.tok _, ru, q⟩
end
/-! ### isinstance of a caught error that has a dict; several clauses 'except x as n' -/
/-- isinstance(e, c), e the error of the suite: its class D, its dict d -/
def rIsD (K : PySem.W.Frag) (D a : Addr) (d : Option Addr) : List V → Hp → VK → Prop := fun xs H Q =>
  ∃ c u b dd fs, xs = [.ref a, c] ∧ ClsV c u ∧ d = some dd ∧ H dd = some (.xd fs) ∧ PySem.W.kitOne K (.ref D) u = some b ∧ Q (.bl b) H
def rIsDT (K : PySem.W.Frag) (D a : Addr) (d : Option Addr) : List V → Hp → VK → Prop := fun xs H Q =>
  ∃ tp cs us b dd fs, xs = [.ref a, .ref tp] ∧ H tp = some (.tup cs) ∧ Paired ClsV cs us ∧ d = some dd ∧ H dd = some (.xd fs) ∧ PySem.W.kitAny K (.ref D) us = some b ∧ Q (.bl b) H
section
variable {X : Cx} {a D : Addr} {d : Option Addr} {oe : Obj} {pn : List (Addr × Obj)}
theorem inst_of {pins : List (Addr × Obj)} {s : Shared} {σ : L2.St} {H : Hp} {dd : Addr} {fs : List (Str × V)} (hz : Zc (.ref D) (some dd) oe) (hf : ∃ vs, oe.data = .fields vs)
    (I : Inv (X.suite a ((a, oe) :: pn)) pins σ H s) (e : H dd = some (.xd fs)) : ∃ od, PySem.W.InstAt s.heap a oe D (some od) := by
  have here := (I.pin (a, oe) (List.mem_append_left _ List.mem_cons_self)).1
  have ok : ObjOk X.prog X.w H s.heap dd (.xd fs) := I.hok dd _ e
  obtain ⟨mA, ns, -⟩ := ok
  obtain ⟨od, ho, -⟩ := lookIn_ns ns
  refine ⟨od, here, hz.1, ?_, ?_⟩
  · obtain ⟨vs, hv⟩ := hf
    unfold PySem.W.notCls
    rw [hv] <;> rfl
  · rw [hz.2]; exact ho
theorem kit_exD {K : PySem.W.Frag} {od : Option Obj} (C : ExcC K D) : PySem.W.KitX K (.ref a) (.ref D) (fun h => PySem.W.InstAt h a oe D od) := by
  have known : (PySem.W.clsIn K D).isSome = true := by
    obtain ⟨cd, hc, _⟩ := PySem.W.any_some C.hd
    rw [hc] <;> rfl
  exact PySem.W.kitx_exc known C.hg C.hk C.hs C.ha C.hn C.ht C.hm
theorem call_isD (C : ExcC X.K D) (hz : Zc (.ref D) d oe) (hf : ∃ vs, oe.data = .fields vs) : CallR (X.suite a ((a, oe) :: pn)) (.builtin "isinstance") (rIsD X.K D a d) := by
  rintro pins s σ H _ us Q I r ⟨c, u, b, dd, fs, rfl, k, rfl, eH, e, q⟩
  obtain ⟨u1, u2, rfl, r1, r2⟩ := vals2 r
  cases k.eq r2
  cases (show u1 = Value.ref a from r1)
  obtain ⟨od, J⟩ := inst_of hz hf I eH
  refine PySem.W.kia_one (kit_exD C) I.kIn J e (by intro z; cases z) fun tk => ?_
  exact ⟨.bl b, H, I.tok tk, rfl, q⟩
theorem call_isDT (C : ExcC X.K D) (hz : Zc (.ref D) d oe) (hf : ∃ vs, oe.data = .fields vs) : CallR (X.suite a ((a, oe) :: pn)) (.builtin "isinstance") (rIsDT X.K D a d) := by
  rintro pins s σ H _ us Q I r ⟨tp, cs, ws, b, dd, fs, rfl, hT, k, rfl, eH, e, q⟩
  obtain ⟨u1, u2, rfl, r1, r2⟩ := vals2 r
  cases (show u2 = Value.ref tp from r2)
  cases (show u1 = Value.ref a from r1)
  obtain ⟨od, J⟩ := inst_of hz hf I eH
  have okT : ObjOk X.prog X.w H s.heap tp (.tup cs) := I.hok tp _ hT
  obtain ⟨-, its, rv, ⟨oc, od', dt, sl⟩, there, kind, n, data⟩ := okT
  dsimp only at kind data
  subst kind data
  cases ClsV.all k rv
  refine PySem.W.kia_tup (kit_exD C) I.kIn J there e (by intro z; cases z) fun tk => ?_
  exact ⟨.bl b, H, I.tok tk, rfl, q⟩
end
/-- an error of the body, landed in X: sI is the state without it, s the state with it -/
structure Down (X : Cx) (pins : List (Addr × Obj)) (σ : L2.St) (H : Hp) (cls : Value) (d : Option Addr) (a : Addr) (B : Heap) (sI s : Shared) : Prop where
  inv : Inv X pins σ H sI
  base : ∀ b o, sI.heap.get? b = some o → b ∉ frs X.stack → B.get? b = some o
  up : sI.heap.UpToSlots s.heap
  fly : HandSPX.FlyingZ B (X.env :: X.outer) a (Zc cls d) s.heap
  free : H a = none
  os : s.os = sI.os
  bare : AllBare s.gens
section
variable {X : Cx} {pins : List (Addr × Obj)} {σ : L2.St} {H : Hp} {cls : Value} {d : Option Addr} {a : Addr} {B : Heap} {sI s : Shared}
theorem Down.here (w : Down X pins σ H cls d a B sI s) : Inv X pins σ H s := w.inv.landed w.base w.fly.1 w.up w.os w.bare
theorem Down.moved (w : Down X pins σ H cls d a B sI s) {h' : Heap} (fl : HandSPX.FlyingZ B (X.env :: X.outer) a (Zc cls d) h') (up : s.heap.UpToSlots h') : Down X pins σ H cls d a B sI { s with heap := h' } :=
  { w with up := w.up.trans up, fly := fl }
theorem Down.apart (w : Down X pins σ H cls d a B sI s) : a ∉ (X.env :: X.outer).filterMap (·.frame) := by
  intro hm
  obtain ⟨oe, vs, he, -, hd⟩ := w.fly.there
  obtain ⟨-, o, e, no⟩ := w.fly.2.2.1.mem hm
  cases he.symm.trans e
  exact no vs hd
/-- the state, seen from the suite of a clause -/
theorem Down.suite (w : Down X pins σ H cls d a B sI s) (hf : X.env.frame = some X.env.locals) :
    ∃ oe, Zc cls d oe ∧ (∃ vs, oe.data = .fields vs) ∧ s.heap.get? a = some oe ∧ Inv (X.suite a ((a, oe) :: (X.pn ++ pins))) [] σ H s := by
  obtain ⟨oe, vs, he, hz, hd⟩ := w.fly.there
  have no := w.apart
  refine ⟨oe, hz, ⟨vs, hd⟩, he, w.here.suite he hd w.free ?_ ?_⟩
  · intro z
    subst z
    exact no (List.mem_filterMap.mpr ⟨X.env, .head _, hf⟩)
  · intro z
    obtain ⟨e, me, q⟩ := List.mem_filterMap.mp z
    exact no (List.mem_filterMap.mpr ⟨e, .tail _ me, q⟩)
/-- no clause is left: the error goes on -/
theorem Down.on {Wout : WX} {D : Ends} (w : Down X pins σ H cls d a B sI s) (hs : X.stack = X.env :: X.outer) (hf : X.env.frame = some X.env.locals) (tk : Takes X Wout) (q : Wout cls d σ H) :
    wpAny (model X.prog X.w) X.A (handleBy (.ref a) X.env []) (SP X pins D) X.xe s := by
  have go : wpAny (model X.prog X.w) X.A (setFlight (.ref a) X.env.frame) (fun _ s4 => wpAny (model X.prog X.w) X.A (throw (.ref a) : Sem Flow) (SP X pins D) X.xe s4) X.xe s := by
    rw [hf]
    refine HandSPX.setFlight_upZ w.fly fun h4 held up4 => wpAny_throw (tk _ _ ?_)
    refine ⟨a, B, sI, pins, σ, H, cls, d, rfl, w.inv, w.base, w.up.trans up4, .inr (.inr ?_), w.free, w.os, w.bare, q⟩
    rw [hs]
    exact held
  obtain ⟨-, -, -, oe, vs, T, -, -, he, -, hd, h1, -⟩ := id w.fly
  refine wpAny_handleBy_nil ?_
  unfold PySem.passOn
  refine wpAny_bind (wpAny_field he hd h1 ?_)
  have nn : ¬ (Value.ref T == Value.none) = true := by simp
  rw [if_neg nn]
  first
    | exact wpAny_bind go
    | exact wpAny_bind (wpAny_pure (wpAny_bind go))
/-- the first of the clauses: it is taken, or the next ones are asked -/
theorem Down.clause {D : Ends} {x n : Str} {c : Value} {i : Nat} {b₀ : Stmt} {body : List Stmt} {p p' : Pos} {rest : List ExceptHandler} {ts : Addr → Value → Option Addr → TS} {W : WX}
    (w : Down X pins σ H cls d a B sI s) (hf : X.env.frame = some X.env.locals) (hN : X.N.Nodup) (hi : X.N[i]? = some n) (hln : X.env.kindOf n = some .local) (hc : Names X x c)
    (hsu : ∀ (oe : Obj) (pn : List (Addr × Obj)), Zc cls d oe → (∃ vs, oe.data = .fields vs) → PSs (X.suite a ((a, oe) :: pn)) (b₀ :: body) (ts a cls d))
    (q : wAs X.K c i ts W D cls d σ H) (hr : W cls d σ H → wpAny (model X.prog X.w) X.A (handleBy (.ref a) X.env rest) (SP X pins D) X.xe s) :
    wpAny (model X.prog X.w) X.A (handleBy (.ref a) X.env (.ExceptHandler (some (.Name x p)) (some n) (b₀ :: body) p' :: rest)) (SP X pins D) X.xe s := by
  obtain ⟨b, is, yes, no⟩ := q
  obtain ⟨oe, hz, -, he, S⟩ := w.suite hf
  refine wpAny_handleBy_cons (codeAny_handlers_test ?_) (by intro z; cases z)
  have ty : PySem.W.Looks (model X.prog X.w) s.heap (typeOf (.ref a)) cls := by
    intro A Q E s' k q
    refine wpAny_typeOf_ref (k _ _ he) ?_
    rw [hz.1]
    exact q
  have match_ := PySem.W.exm_one (M := model X.prog X.w) w.here.kIn ty is
  have name_ : ∀ {Q E : Value → Shared → Prop}, Q c s → wpAny (model X.prog X.w) (X.A.mark (some (.ref a))) (eval (.Name x p) X.env) Q E s := by
    intro Q E q
    rcases hc with ⟨g, nd, m | ⟨m, v, nn⟩⟩
    · exact ld_glob (X := X.suite a _) S g m q nd
    · exact ld_blt (X := X.suite a _) S g m v q nn nd
  refine name_ (match_.here ?_)
  cases b with
  | false => exact hr (no rfl)
  | true =>
    refine codeAny_handlers_suite_as (HandSPX.lands_againZ w.fly fun h4 fl4 up4 => ?_)
    obtain ⟨oe4, hz4, hd4, -, S4⟩ := (w.moved fl4 up4).suite hf
    refine store_ok (X := X.suite a _) (v := .ref a) S4 hN hi (.inl hln) rfl (fun s5 S5 => ?_) (.inr hln)
    refine wpAny_mono ((hsu oe4 (X.pn ++ pins) hz4 hd4).run [] s5 _ H _ S5 (yes rfl a w.free)) (fun f s6 r => ?_) (by intro _ _ z; exact z.elim)
    have ok := w.inv.ok
    cases f with
    | ret u =>
      obtain ⟨v6, σ6, H6, S6, r6, q6⟩ := r
      exact gone_ok (S6.unsuite ok) hN hi hln fun s7 J7 => ⟨v6, _, _, J7, r6, q6⟩
    | next =>
      obtain ⟨σ6, H6, S6, q6⟩ := r
      exact gone_ok (S6.unsuite ok) hN hi hln fun s7 J7 => ⟨_, _, J7, q6⟩
    | brk =>
      obtain ⟨σ6, H6, S6, q6⟩ := r
      exact gone_ok (S6.unsuite ok) hN hi hln fun s7 J7 => ⟨_, _, J7, q6⟩
    | cont =>
      obtain ⟨σ6, H6, S6, q6⟩ := r
      exact gone_ok (S6.unsuite ok) hN hi hln fun s7 J7 => ⟨_, _, J7, q6⟩
end
/-- clauses 'except x as n', n in slot i, with what each does and what the one behind the last wishes -/
inductive Clauses (X : Cx) (n : Str) (i : Nat) (Wout : WX) : List ExceptHandler → (Ends → WX) → Prop
  | nil : Clauses X n i Wout [] (fun _ => Wout)
  | cons {x : Str} {c : Value} {ts : Addr → Value → Option Addr → TS} {b₀ : Stmt} {body : List Stmt} {p p' : Pos} {rest : List ExceptHandler} {W : Ends → WX} (hc : Names X x c)
      (hsu : ∀ (a : Addr) (oe : Obj) (cls : Value) (d : Option Addr) (pn : List (Addr × Obj)), Zc cls d oe → (∃ vs, oe.data = .fields vs) → PSs (X.suite a ((a, oe) :: pn)) (b₀ :: body) (ts a cls d))
      (r : Clauses X n i Wout rest W) : Clauses X n i Wout (.ExceptHandler (some (.Name x p)) (some n) (b₀ :: body) p' :: rest) (fun D => wAs X.K c i ts (W D) D)
section
variable {X : Cx} {n : Str} {i : Nat} {Wout : WX}
theorem Clauses.run {hds : List ExceptHandler} {W : Ends → WX} (k : Clauses X n i Wout hds W) (hs : X.stack = X.env :: X.outer) (hf : X.env.frame = some X.env.locals) (hN : X.N.Nodup) (hi : X.N[i]? = some n) (hln : X.env.kindOf n = some .local) (tk : Takes X Wout)
    {pins : List (Addr × Obj)} {σ : L2.St} {H : Hp} {cls : Value} {d : Option Addr} {a : Addr} {B : Heap} {sI s : Shared} {D : Ends} (w : Down X pins σ H cls d a B sI s) (q : W D cls d σ H) :
    wpAny (model X.prog X.w) X.A (handleBy (.ref a) X.env hds) (SP X pins D) X.xe s := by
  induction k with
  | nil => exact w.on hs hf tk q
  | cons hc hsu r ih => exact w.clause hf hN hi hln hc (fun oe pn => hsu a oe cls d pn) q ih
/-- try: body / except x1 as n: .. / except x2 as n: .. -/
theorem ps_tryA {body : List Stmt} {h₀ : ExceptHandler} {hds : List ExceptHandler} {pos : Pos} {tb : WX → TS} {W : Ends → WX} (hs : X.stack = X.env :: X.outer) (hf : X.env.frame = some X.env.locals) (hN : X.N.Nodup) (hi : X.N[i]? = some n) (hln : X.env.kindOf n = some .local)
    (tk : Takes X Wout) (hb : ∀ (W : WX) (pn : List (Addr × Obj)) (xe : Value → Shared → Prop), Takes (X.tr pn xe) W → PassesOwn (model X.prog X.w) X.A X.env xe → PSs (X.tr pn xe) body (tb W))
    (k : Clauses X n i Wout (h₀ :: hds) W) : PS X (.Try body (h₀ :: hds) [] [] pos) (fun D σ H => tb (W D) D σ H) := by
  constructor
  intro pins s σ H D I h
  have ok := I.ok
  let out : Value → Shared → Prop := fun e s₁ => wpAny (model X.prog X.w) X.A (noteFrame e X.env)
    (fun _ s₂ => wpAny (model X.prog X.w) X.A (setFlight e none) (fun _ s₃ => wpAny (model X.prog X.w) X.A (handleBy e X.env (h₀ :: hds)) (SP X pins D) X.xe s₃) X.xe s₂) X.xe s₁
  have tks : Takes (X.tr (X.pn ++ pins) out) (W D) := by
    rintro u s' ⟨a, B, sI, pins', σ', H', cls, d, rfl, J, nb, up, sky, na, os, ag, q⟩
    have fr : X.A.frames = some (X.env :: X.outer) := by rw [ok.frames, hs]
    have sky' := sky
    rw [show (X.tr (X.pn ++ pins) out).stack = X.env :: X.outer from hs] at sky'
    refine Sky.land (E₁ := X.xe) Zc.steady fr hf sky' fun h3 fl3 up3 => ?_
    exact k.run hs hf hN hi hln tk (sI := sI) (B := B) ⟨J.ofTry ok, nb, up.trans up3, fl3, na, os, ag⟩ q
  refine wpAny_Try_except (wpAny_mono ((hb (W D) (X.pn ++ pins) out tks PassesOwn.looking).run [] s σ H D (I.toTry _) h) ?_ fun _ _ he => he)
  · intro f s1 r
    cases f with
    | next =>
      obtain ⟨σ', H', J, q⟩ := r
      exact wpAny_execs_nil ⟨σ', H', J.ofTry ok, q⟩
    | ret u =>
      obtain ⟨v, σ', H', J, r', q⟩ := r
      exact ⟨v, σ', H', J.ofTry ok, r', q⟩
    | brk | cont =>
      obtain ⟨σ', H', J, q⟩ := r
      exact ⟨σ', H', J.ofTry ok, q⟩
end
section
variable {X : Cx} {a : Addr} {cls : Value} {d : Option Addr} {oe : Obj} {pn : List (Addr × Obj)}
/-- isinstance of the error of the suite, whatever its class is: an own one that says enough -/
def rIsX (K : PySem.W.Frag) (a : Addr) (cls : Value) (d : Option Addr) : List V → Hp → VK → Prop := fun xs H Q => ∃ D, cls = .ref D ∧ ExcC K D ∧ rIsD K D a d xs H Q
def rIsXT (K : PySem.W.Frag) (a : Addr) (cls : Value) (d : Option Addr) : List V → Hp → VK → Prop := fun xs H Q => ∃ D, cls = .ref D ∧ ExcC K D ∧ rIsDT K D a d xs H Q
theorem call_isX (hz : Zc cls d oe) (hf : ∃ vs, oe.data = .fields vs) : CallR (X.suite a ((a, oe) :: pn)) (.builtin "isinstance") (rIsX X.K a cls d) := by
  rintro pins s σ H xs us Q I r ⟨D, rfl, C, h⟩
  exact call_isD C hz hf pins s σ H xs us Q I r h
theorem call_isXT (hz : Zc cls d oe) (hf : ∃ vs, oe.data = .fields vs) : CallR (X.suite a ((a, oe) :: pn)) (.builtin "isinstance") (rIsXT X.K a cls d) := by
  rintro pins s σ H xs us Q I r ⟨D, rfl, C, h⟩
  exact call_isDT C hz hf pins s σ H xs us Q I r h
end
/-! ### reading a text: by parts, and by a stack -/
def leaf (c : Nat) : T := .node .nil ⟨#[c]⟩ .nil
def isLow (c : Nat) : Bool := decide (97 ≤ c) && decide (c ≤ 122)
inductive Rd where
  | err (i : Nat)
  | ok (t : T) (e : Nat)
def rdS (rd : Nat → Nat → Rd) (t : List Nat) (i room : Nat) : Rd := if t[i]? = some 45 then .ok .nil (i + 1) else rd i room
/-- the reading by parts; n bounds the room -/
def rdT (t : List Nat) : Nat → Nat → Nat → Rd
  | 0, i, _ => .err i
  | n + 1, i, room => match t[i]? with
    | none => .err i
    | some c => if room = 0 ∨ isLow c = false then .err i
      else if t[i + 1]? = some 40 then
        if room = 1 then .err (i + 1)
        else match rdS (rdT t n) t (i + 2) (room - 1) with
          | .err j => .err j
          | .ok l e => if t[e]? = some 44 then
              match (if l.isNil = true then rdT t n (e + 1) (room - 1 - l.size) else rdS (rdT t n) t (e + 1) (room - 1 - l.size)) with
              | .err j => .err j
              | .ok r e' => if t[e']? = some 41 then .ok (.node l ⟨#[c]⟩ r) (e' + 1) else .err e'
            else .err e
      else .ok (leaf c) (i + 1)
abbrev Stk := List (Nat × Option T)
inductive Ans where
  | bad (i : Nat)
  | tree (t : T)
def canMiss : Stk → Bool
  | [] => false
  | (_, none) :: _ => true
  | (_, some l) :: _ => !l.isNil
def T.lab : T → Nat
  | .nil => 0
  | .node _ x _ => x.cps.getD 0 0
/-- the reading by a stack -/
def go : List Nat → Nat → Stk → Option (T × Bool) → Nat → Ans
  | [], i, [], some (x, _), _ => .tree x
  | [], i, _, _, _ => .bad i
  | c :: cs, i, st, none, m =>
    if isLow c = true ∧ m < 12 then go cs (i + 1) st (some (leaf c, true)) (m + 1)
    else if c = 45 ∧ canMiss st = true then go cs (i + 1) st (some (.nil, false)) m
    else .bad i
  | c :: cs, i, st, some (x, f), m =>
    if c = 40 ∧ f = true ∧ m < 12 then go cs (i + 1) ((x.lab, none) :: st) none m
    else match c, st with
      | 44, (a, none) :: r => go cs (i + 1) ((a, some x) :: r) none m
      | 41, (a, some l) :: r => go cs (i + 1) r (some (.node l ⟨#[a]⟩ x, false)) m
      | _, _ => .bad i
theorem drop_some {t : List Nat} {i c : Nat} (h : t[i]? = some c) : t.drop i = c :: t.drop (i + 1) := by
  obtain ⟨h1, h2⟩ := List.getElem?_eq_some_iff.mp h
  rw [List.drop_eq_getElem_cons h1, h2]
theorem drop_none {t : List Nat} {i : Nat} (h : t[i]? = none) : t.drop i = [] := List.drop_eq_nil_of_le (List.getElem?_eq_none_iff.mp h)
theorem low_not {c : Nat} (h : isLow c = true) : c ≠ 40 ∧ c ≠ 41 ∧ c ≠ 44 ∧ c ≠ 45 := by
  unfold isLow at h
  rw [Bool.and_eq_true, decide_eq_true_eq, decide_eq_true_eq] at h
  omega
/-- the place behind is in the text, the tree is within the room -/
theorem rdT_ok (t : List Nat) : ∀ (n i room : Nat), i ≤ t.length → (∀ x e, rdT t n i room = .ok x e → e ≤ t.length ∧ 1 ≤ x.size ∧ x.size ≤ room ∧ x.lt)
    ∧ ∀ x e, rdS (rdT t n) t i room = .ok x e → e ≤ t.length ∧ x.size ≤ room ∧ x.lt
  | n, i, room, hi => by
    have hT : ∀ x e, rdT t n i room = .ok x e → e ≤ t.length ∧ 1 ≤ x.size ∧ x.size ≤ room ∧ x.lt := by
      intro x e h
      cases n with
      | zero => cases h
      | succ n =>
        unfold rdT at h
        split at h
        · cases h
        · rename_i c hc
          have hi1 : i + 1 ≤ t.length := (List.getElem?_eq_some_iff.mp hc).1
          split at h
          · cases h
          · rename_i hr
            have hr0 : room ≠ 0 := fun z => hr (.inl z)
            have hlow : isLow c = true := by
              cases q : isLow c with
              | true => rfl
              | false => exact absurd (.inr q) hr
            have hltr : Ltr ⟨#[c]⟩ := by
              unfold isLow at hlow
              rw [Bool.and_eq_true, decide_eq_true_eq, decide_eq_true_eq] at hlow
              exact ⟨c, hlow.1, hlow.2, rfl⟩
            have hnil : T.nil.lt := fun _ h => nomatch h
            have mk : ∀ l r : T, l.lt → r.lt → (T.node l ⟨#[c]⟩ r).lt := fun l r h1 h3 y hy => by
              rcases List.mem_append.mp hy with hy | hy
              · exact h1 y hy
              · rcases List.mem_cons.mp hy with rfl | hy
                · exact hltr
                · exact h3 y hy
            split at h
            · rename_i h40
              have hi2 : i + 2 ≤ t.length := (List.getElem?_eq_some_iff.mp h40).1
              split at h
              · cases h
              · split at h
                · cases h
                · rename_i l e1 hl
                  obtain ⟨a1, a2, a3⟩ := (rdT_ok t n (i + 2) (room - 1) hi2).2 _ _ hl
                  split at h
                  · rename_i h44
                    have he1 : e1 + 1 ≤ t.length := (List.getElem?_eq_some_iff.mp h44).1
                    split at h
                    · cases h
                    · rename_i r e2 hr2
                      have b : e2 ≤ t.length ∧ r.size ≤ room - 1 - l.size ∧ r.lt := by
                        split at hr2
                        · obtain ⟨q1, q2, q3, q4⟩ := (rdT_ok t n (e1 + 1) (room - 1 - l.size) he1).1 _ _ hr2
                          exact ⟨q1, q3, q4⟩
                        · exact (rdT_ok t n (e1 + 1) (room - 1 - l.size) he1).2 _ _ hr2
                      split at h
                      · rename_i h41
                        cases h
                        have he2 : e2 + 1 ≤ t.length := (List.getElem?_eq_some_iff.mp h41).1
                        refine ⟨he2, ?_, ?_, mk _ _ a3 b.2.2⟩
                        · show 1 ≤ l.size + 1 + r.size
                          omega
                        · show l.size + 1 + r.size ≤ room
                          omega
                      · cases h
                  · cases h
            · cases h
              refine ⟨hi1, Nat.le_refl _, by show 0 + 1 + 0 ≤ room; omega, mk _ _ hnil hnil⟩
    refine ⟨hT, fun x e h => ?_⟩
    unfold rdS at h
    split at h
    · rename_i h45
      cases h
      exact ⟨(List.getElem?_eq_some_iff.mp h45).1, Nat.zero_le _, fun _ h => nomatch h⟩
    · obtain ⟨q1, q2, q3, q4⟩ := hT x e h
      exact ⟨q1, q3, q4⟩
  termination_by n => n
/-- what the stack does behind a part that is read -/
def GoAs (t : List Nat) (st : Stk) (m : Nat) (i : Nat) : Rd → Prop
  | .err j => go (t.drop i) i st none m = .bad j
  | .ok x e => ∃ f : Bool, (f = true → t[e]? ≠ some 40) ∧ go (t.drop i) i st none m = go (t.drop e) e st (some (x, f)) (m + x.size)
theorem go_no {c : Nat} {cs : List Nat} {i : Nat} {st : Stk} {x : T} {f : Bool} {m : Nat} (h : ¬ (c = 40 ∧ f = true ∧ m < 12)) (h1 : c = 44 → ∀ a r, st ≠ (a, none) :: r) (h2 : c = 41 → ∀ a l r, st ≠ (a, some l) :: r) :
    go (c :: cs) i st (some (x, f)) m = .bad i := by
  unfold go
  rw [if_neg h]
  split
  · exact absurd rfl (h1 rfl _ _)
  · exact absurd rfl (h2 rfl _ _ _)
  · rfl
theorem go_end {t : List Nat} {e : Nat} {a : Nat} {o : Option T} {r : Stk} {x : T} {f : Bool} {m : Nat} (hf : f = true → t[e]? ≠ some 40) (h1 : o = none → t[e]? ≠ some 44) (h2 : o ≠ none → t[e]? ≠ some 41) :
    go (t.drop e) e ((a, o) :: r) (some (x, f)) m = .bad e := by
  cases h : t[e]? with
  | none => rw [drop_none h]; rfl
  | some c =>
    rw [drop_some h]
    refine go_no (fun z => hf z.2.1 (by rw [h, z.1])) (fun e1 a' r' e2 => ?_) (fun e1 a' l' r' e2 => ?_)
    · cases e2
      exact h1 rfl (by rw [h, e1])
    · cases e2
      exact h2 (fun z => nomatch z) (by rw [h, e1])
theorem go_rd (t : List Nat) : ∀ (n i room m : Nat) (st : Stk), room < n → room + m = 12 →
    ((canMiss st = false ∨ t[i]? ≠ some 45) → GoAs t st m i (rdT t n i room)) ∧ (canMiss st = true → GoAs t st m i (rdS (rdT t n) t i room))
  | 0, i, room, m, st, h, _ => absurd h (Nat.not_lt_zero _)
  | n + 1, i, room, m, st, hn, hm => by
    have hT : (canMiss st = false ∨ t[i]? ≠ some 45) → GoAs t st m i (rdT t (n + 1) i room) := by
      intro hs
      unfold rdT
      cases hc : t[i]? with
      | none =>
        show go (t.drop i) i st none m = .bad i
        rw [drop_none hc]
        cases st <;> rfl
      | some c =>
        dsimp only
        by_cases hr : room = 0 ∨ isLow c = false
        · rw [if_pos hr]
          show go (t.drop i) i st none m = .bad i
          rw [drop_some hc]
          unfold go
          rw [if_neg (fun z => hr.elim (fun q => by omega) fun q => by rw [q] at z; exact absurd z.1 Bool.false_ne_true), if_neg (fun z => by
            rcases hs with hs | hs
            · rw [hs] at z; exact absurd z.2 Bool.false_ne_true
            · exact hs (by rw [hc, z.1]))]
        · rw [if_neg hr]
          have hr0 : room ≠ 0 := fun z => hr (.inl z)
          have hlow : isLow c = true := by
            cases q : isLow c with
            | true => rfl
            | false => exact absurd (.inr q) hr
          have first : go (t.drop i) i st none m = go (t.drop (i + 1)) (i + 1) st (some (leaf c, true)) (m + 1) := by
            rw [drop_some hc]
            conv => lhs; unfold go
            rw [if_pos ⟨hlow, by omega⟩]
          by_cases h40 : t[i + 1]? = some 40
          · rw [if_pos h40]
            by_cases h1 : room = 1
            · rw [if_pos h1]
              show go (t.drop i) i st none m = .bad (i + 1)
              rw [first, drop_some h40]
              exact go_no (fun z => by omega) (fun z => by omega) (fun z => by omega)
            · rw [if_neg h1]
              have second : go (t.drop i) i st none m = go (t.drop (i + 2)) (i + 2) ((c, none) :: st) none (m + 1) := by
                rw [first, drop_some h40]
                conv => lhs; unfold go
                rw [if_pos ⟨rfl, rfl, by omega⟩]
                rfl
              have ih := (go_rd t n (i + 2) (room - 1) (m + 1) ((c, none) :: st) (by omega) (by omega)).2 rfl
              cases hl : rdS (rdT t n) t (i + 2) (room - 1) with
              | err j =>
                rw [hl] at ih
                show go (t.drop i) i st none m = .bad j
                rw [second]
                exact ih
              | ok l e =>
                rw [hl] at ih
                obtain ⟨f, hf, ih⟩ := ih
                have hi2 : i + 2 ≤ t.length := (List.getElem?_eq_some_iff.mp h40).1
                have hsz := (rdT_ok t n (i + 2) (room - 1) hi2).2 _ _ hl
                dsimp only
                by_cases h44 : t[e]? = some 44
                · rw [if_pos h44]
                  have third : go (t.drop i) i st none m = go (t.drop (e + 1)) (e + 1) ((c, some l) :: st) none (m + 1 + l.size) := by
                    rw [second, ih, drop_some h44]
                    conv => lhs; unfold go
                    rw [if_neg (fun z => by have := z.1; omega)]
                    rfl
                  have ih2 := go_rd t n (e + 1) (room - 1 - l.size) (m + 1 + l.size) ((c, some l) :: st) (by omega) (by omega)
                  have ih3 : GoAs t ((c, some l) :: st) (m + 1 + l.size) (e + 1) (if l.isNil = true then rdT t n (e + 1) (room - 1 - l.size) else rdS (rdT t n) t (e + 1) (room - 1 - l.size)) := by
                    by_cases hnl : l.isNil = true
                    · rw [if_pos hnl]
                      exact ih2.1 (.inl (by show (!l.isNil) = false; rw [hnl]; rfl))
                    · rw [if_neg hnl]
                      refine ih2.2 ?_
                      show (!l.isNil) = true
                      cases q : l.isNil with
                      | true => exact absurd q hnl
                      | false => rfl
                  cases hr2 : (if l.isNil = true then rdT t n (e + 1) (room - 1 - l.size) else rdS (rdT t n) t (e + 1) (room - 1 - l.size)) with
                  | err j =>
                    rw [hr2] at ih3
                    show go (t.drop i) i st none m = .bad j
                    rw [third]
                    exact ih3
                  | ok r e2 =>
                    rw [hr2] at ih3
                    obtain ⟨f2, hf2, ih3⟩ := ih3
                    dsimp only
                    by_cases h41 : t[e2]? = some 41
                    · rw [if_pos h41]
                      refine ⟨false, (fun z => nomatch z), ?_⟩
                      rw [third, ih3, drop_some h41]
                      conv => lhs; unfold go
                      rw [if_neg (fun z => by have := z.1; omega)]
                      show go _ _ st (some (T.node l ⟨#[c]⟩ r, false)) (m + 1 + l.size + r.size) = go _ _ _ _ (m + (l.size + 1 + r.size))
                      rw [show m + 1 + l.size + r.size = m + (l.size + 1 + r.size) by omega]
                    · rw [if_neg h41]
                      show go (t.drop i) i st none m = .bad e2
                      rw [third, ih3]
                      exact go_end hf2 (fun z => nomatch z) (fun _ => h41)
                · rw [if_neg h44]
                  show go (t.drop i) i st none m = .bad e
                  rw [second, ih]
                  exact go_end hf (fun _ => h44) (fun z => absurd rfl z)
          · rw [if_neg h40]
            exact ⟨true, fun _ => h40, first⟩
    refine ⟨hT, fun hs => ?_⟩
    unfold rdS
    by_cases h45 : t[i]? = some 45
    · rw [if_pos h45]
      refine ⟨false, fun z => (nomatch z), ?_⟩
      rw [drop_some h45]
      conv => lhs; unfold go
      rw [if_neg (fun z => by have := (low_not z.1).2.2.2; exact this rfl), if_pos ⟨rfl, hs⟩]
      rfl
    · rw [if_neg h45]
      exact hT (.inr h45)
/-- what parse_tree answers -/
def parsed (t : List Nat) : Ans := match rdT t 13 0 12 with
  | .err j => .bad j
  | .ok x e => if e < t.length then .bad e else .tree x
theorem parsed_eq (t : List Nat) : go t 0 [] none 0 = parsed t := by
  have h := (go_rd t 13 0 12 0 [] (by omega) rfl).1 (.inl rfl)
  unfold parsed
  cases q : rdT t 13 0 12 with
  | err j =>
    rw [q] at h
    exact h
  | ok x e =>
    rw [q] at h
    obtain ⟨f, hf, h⟩ := h
    have h : go t 0 [] none 0 = go (t.drop e) e [] (some (x, f)) (0 + x.size) := h
    rw [h]
    dsimp only
    by_cases he : e < t.length
    · rw [if_pos he]
      have hc := List.getElem?_eq_getElem he
      rw [drop_some hc]
      exact go_no (fun z => hf z.2.1 (by rw [hc, z.1])) (fun _ _ _ z => nomatch z) (fun _ _ _ _ z => nomatch z)
    · rw [if_neg he, List.drop_eq_nil_of_le (by omega)]
      rfl
/-! ### the reading of a text by the program -/
structure DfX (P : Program) (w : World) (K : PySem.W.Frag) (mg : Str → Option Value) (base : Heap) (k : Nat) (nm : Str) (ps : List Str) (sp : Sp) where
  f : Addr
  fd : FuncData
  ok : FnOk P w K mg base (L2.CX P w) k f fd ps sp
  b : Binds K fd ps []
  kp : PySem.W.keepIn K (.ref f) = true
  g : mg nm = some (.ref f)
theorem iteI {i j : Int} {A B : Prop} (h : i = j) (a : A) : if decide (V.int i = V.int j) = true then A else B := by
  rw [if_pos (decide_eq_true (congrArg V.int h))]; exact a
theorem iteJ {i j : Int} {A B : Prop} (h : i ≠ j) (b : B) : if decide (V.int i = V.int j) = true then A else B := by
  rw [if_neg (fun z => h (V.int.inj (of_decide_eq_true z)))]; exact b
def sg (t : List Nat) (i : Nat) : List Nat := (t.drop i).take 1
theorem sg_some {t : List Nat} {i c : Nat} (h : t[i]? = some c) : sg t i = [c] := by
  unfold sg
  rw [drop_some h]
  rfl
theorem sg_none {t : List Nat} {i : Nat} (h : t[i]? = none) : sg t i = [] := by
  unfold sg
  rw [drop_none h]
  rfl
theorem sg_eq {t : List Nat} {i c : Nat} {y : Str} (hy : y = tx [c]) : decide (V.str (tx (sg t i)) = V.str y) = decide (t[i]? = some c) := by
  subst hy
  cases h : t[i]? with
  | none =>
    rw [sg_none h, decide_eq_false (fun z => absurd (tx_inj (V.str.inj z)) (by simp)), decide_eq_false (fun z => nomatch z)]
  | some d =>
    rw [sg_some h]
    by_cases e : d = c
    · subst e
      rw [decide_eq_true rfl, decide_eq_true rfl]
    · rw [decide_eq_false (fun z => e (by have := tx_inj (V.str.inj z); injection this)), decide_eq_false (fun z => e (by injection z))]
theorem sg_ne {t : List Nat} {i c : Nat} {y : Str} (hy : y = tx [c]) : (!decide (V.str (tx (sg t i)) = V.str y)) = !decide (t[i]? = some c) := by rw [sg_eq hy]
theorem tx_sl (l : List Nat) (i j : Nat) (h : i ≤ j) : cutS (tx l) (some (i : Int)) (some (j : Int)) = tx ((l.drop i).take (j - i)) := by
  unfold cutS tx
  show (⟨_⟩ : Str) = ⟨_⟩
  rw [HT.sIx_nat, HT.sIx_nat]
  show (⟨((l.drop (min i l.length)).take (min j l.length - min i l.length)).toArray⟩ : Str) = _
  by_cases hi : i ≤ l.length
  · rw [Nat.min_eq_left hi]
    by_cases hj : j ≤ l.length
    · rw [Nat.min_eq_left hj]
    · rw [Nat.min_eq_right (by omega), List.take_of_length_le (by rw [List.length_drop]; omega), List.take_of_length_le (by rw [List.length_drop]; omega)]
  · rw [Nat.min_eq_right (show l.length ≤ i by omega), List.drop_eq_nil_of_le (Nat.le_refl _), List.drop_eq_nil_of_le (by omega), List.take_nil, List.take_nil]
def isLt : List Nat → Bool
  | [c] => isLow c
  | _ => false
def spSgn : Sp := fun vs H Q _ => ∃ (t : List Nat) (i : Nat), vs = [.str (tx t), .int (i : Int)] ∧ t.length ≤ 5000 ∧ Q (.str (tx (sg t i))) H
def spLow : Sp := fun vs H Q _ => ∃ l : List Nat, vs = [.str (tx l)] ∧ l.length ≤ 1 ∧ Q (.bl (isLt l)) H
def spSz (n : Nat) : Sp := fun vs H Q _ => ∃ (v : V) (t : T), vs = [v] ∧ TreeAt H v t ∧ t.size < n ∧ Q (.int (t.size : Int)) H
/-- what a reader does: an error with the place, or the tree and the place behind it -/
def RdTo (C : Addr) (H : Hp) (Q : VK) (E : XK) : Rd → Prop
  | .err i => ∀ (H' : Hp) (p : Addr), Same H H' → H' p = none → E (.ref C) (some p) (upd H' p (.xd [(("index" : Str), .int (i : Int))]))
  | .ok x e => ∀ (v : V) (p : Addr) (H' : Hp), Same H H' → TreeAt H' v x → H' p = some (.tup [v, .int (e : Int)]) → Q (.ref p) H'
def spRead (C : Addr) (n : Nat) : Sp := fun vs H Q E => ∃ (t : List Nat) (i room : Nat), vs = [.str (tx t), .int (i : Int), .int (room : Int)] ∧ t.length ≤ 5000 ∧ i ≤ t.length ∧ room < n ∧ n ≤ 13 ∧ RdTo C H Q E (rdT t n i room)
def spSideR (C : Addr) (n : Nat) : Sp := fun vs H Q E => ∃ (t : List Nat) (i room : Nat), vs = [.str (tx t), .int (i : Int), .int (room : Int)] ∧ t.length ≤ 5000 ∧ i ≤ t.length ∧ room < n ∧ n ≤ 13 ∧ RdTo C H Q E (rdS (rdT t n) t i room)
def lfR (t : List Nat) : Rd → Rd
  | .err i => .err i
  | .ok x e => if t[e]? = some 44 then .ok x e else .err e
def spLeftR (C : Addr) (n : Nat) : Sp := fun vs H Q E => ∃ (t : List Nat) (i room : Nat), vs = [.str (tx t), .int (i : Int), .int (room : Int)] ∧ t.length ≤ 5000 ∧ i ≤ t.length ∧ room < n ∧ n ≤ 13 ∧ RdTo C H Q E (lfR t (rdS (rdT t n) t i room))
section
variable {P : Program} {w : World} {K : PySem.W.Frag} {mg : Str → Option Value} {base : Heap} {f : Addr} {fd : FuncData} {C fI : Addr} {qn : Str}
theorem ok_sign {k : Nat} (F : Fun K "sign_at" "sign_at" s_sign_at f fd) : FnOk P w K mg base CX0 (k + 1) f fd ["text", "at"] spSgn := by
  refine F.ok sc_sign_at (fun vs H Q E h => ?_) (fun cdv A outer s H vs Q E hr h => ?_)
  · obtain ⟨t, i, rfl, _⟩ := h
    rfl
  obtain ⟨t, i, rfl, ht, q⟩ := h
  refine ⟨_, (pss_one (ps_ret (pe_slice sl_str (pv 0) (po_some (pv 1)) (po_some (pe_op op_add (pv 1) pe_int))))), ?_⟩
  refine ⟨_, rfl, _, rfl, _, rfl, _, rfl, _, _, rfl, rfl, _, rfl, _, rfl, Nat.le_trans (show (tx t).length ≤ 5000 from ht) (by decide), ?_⟩
  have e : (i : Int) + 1 = ((i + 1 : Nat) : Int) := by omega
  rw [e, tx_sl t i (i + 1) (by omega), show i + 1 - i = 1 by omega]
  exact q
theorem ok_low {k : Nat} (F : Fun K "is_letter" "is_letter" s_is_letter f fd) (M : Mgs mg) : FnOk P w K mg base CX0 (k + 1) f fd ["value"] spLow := by
  refine F.ok sc_is_letter (fun vs H Q E h => ?_) (fun cdv A outer s H vs Q E hr h => ?_)
  · obtain ⟨l, rfl, _⟩ := h
    rfl
  obtain ⟨l, rfl, hl, q⟩ := h
  refine ⟨_, (pss_one (ps_ret (pe_and (pe_callB call_isi rfl M.isi (by decide +kernel) (pa_cons (pv 0) (pa_cons (pe_bltn (v := .ty "str") rfl M.str (by decide +kernel) rfl) pa_nil))) (pe_and (pe_cmpR op_eq (pe_callB call_len_str rfl M.len PySem.boot_len (pa_cons (pv 0) pa_nil)) pe_int (nomark _)) (pe_one (pe_chain op_le_str op_le_str pe_str (pv 0) pe_str)))))), ?_⟩
  refine ⟨_, rfl, _, _, _, _, true, rfl, .ty _, .base (.str (tx l)), kit_ty (by decide +kernel), _, rfl, iteT ?_⟩
  refine ⟨_, rfl, tx l, rfl, small (by rw [tx_len]; omega), rfl, _, rfl, ?_⟩
  match l, hl, q with
  | [], _, q => exact iteF q
  | [c], _, q =>
    rw [show decide (V.int ((tx [c]).length : Nat) = V.int 1) = true from rfl]
    refine iteT ⟨_, rfl, _, _, rfl, rfl, _, rfl, ?_⟩
    have e1 : (!decide ((tx [c]).cps.toList < (Str.ofString "a").cps.toList)) = decide (97 ≤ c) := by
      rw [show (Str.ofString "a").cps.toList = [97] by decide +kernel, show (tx [c]).cps.toList = [c] from rfl]
      by_cases h : c < 97
      · rw [decide_eq_true (by simp [List.cons_lt_cons_iff, h]), decide_eq_false (by omega)]; rfl
      · rw [decide_eq_false (by simp [List.cons_lt_cons_iff, h]), decide_eq_true (by omega)]; rfl
    have e2 : (!decide ((Str.ofString "z").cps.toList < (tx [c]).cps.toList)) = decide (c ≤ 122) := by
      rw [show (Str.ofString "z").cps.toList = [122] by decide +kernel, show (tx [c]).cps.toList = [c] from rfl]
      by_cases h : 122 < c
      · rw [decide_eq_true (by simp [List.cons_lt_cons_iff, h]), decide_eq_false (by omega)]; rfl
      · rw [decide_eq_false (by simp [List.cons_lt_cons_iff, h]), decide_eq_true (by omega)]; rfl
    rw [e1]
    have q : Q (.bl (decide (97 ≤ c) && decide (c ≤ 122))) H := q
    by_cases h : 97 ≤ c
    · rw [decide_eq_true h] at q ⊢
      refine iteT ⟨_, _, rfl, rfl, ?_⟩
      rw [e2]
      exact q
    · rw [decide_eq_false h] at q ⊢
      exact iteF q
theorem ok_size (F : Fun K "size_of" "size_of" s_size_of f fd) (b : Binds K fd ["tree"] []) (g : mg "size_of" = some (.ref f)) : ∀ n : Nat, FnOk P w K mg base CX0 n f fd ["tree"] (spSz n)
  | 0 => by
    have no : ∀ vs H Q E, ¬ spSz 0 vs H Q E := fun vs H Q E h => by
      obtain ⟨v, t, _, _, h1, _⟩ := h
      omega
    exact ⟨fun vs H Q E h => absurd h (no vs H Q E), fun A outer s H args us vs Q E _ _ _ _ h => absurd h (no vs H Q E)⟩
  | n + 1 => by
    have Dself : Df P w K mg base n "size_of" ["tree"] (spSz n) := ⟨f, fd, ok_size F b g n, b, F.kp, g⟩
    refine F.ok sc_size_of (fun vs H Q E h => ?_) (fun cdv A outer s H vs Q E hr h => ?_)
    · obtain ⟨v, t, rfl, _⟩ := h
      rfl
    obtain ⟨v, t, rfl, hv, hn, q⟩ := h
    refine ⟨_, (pss_cons (ps_if (pt_cmpR op_isN (pv 0) pe_non (nomark _))
      (pss_one (ps_ret pe_int)) pss_nil)
    (pss_one (ps_ret (pe_op op_add (pe_op op_add (pe_call Dself.ok (hr.mono (by omega)) rfl Dself.g Dself.kp Dself.b .nil pass0 (pa_cons (pe_ix ix_tup (pv 0) pe_int (fun _ _ => rfl)) pa_nil)) pe_int) (pe_call Dself.ok (hr.mono (by omega)) rfl Dself.g Dself.kp Dself.b .nil pass0 (pa_cons (pe_ix ix_tup (pv 0) pe_int (fun _ _ => rfl)) pa_nil)))))), ?_⟩
    rcases hv.inv with ⟨rfl, rfl⟩ | ⟨a, l, r, x, tl, tr, rfl, rfl, ea, hl, hr'⟩
    · exact ⟨_, rfl, rfl, _, rfl, iteT q⟩
    · refine ⟨_, rfl, rfl, _, rfl, iteF ?_⟩
      have hz : tl.size + 1 + tr.size < n + 1 := hn
      refine ⟨_, rfl, a, _, 0, l, rfl, rfl, SqT.of ea, atI_nat (j := 0) rfl, l, tl, rfl, hl, by omega, _, _, rfl, rfl, _, rfl, a, _, 2, r, rfl, rfl, SqT.of ea, atI_nat (j := 2) rfl, r, tr, rfl, hr', by omega, _, _, rfl, rfl, ?_⟩
      have e : (tl.size : Int) + 1 + (tr.size : Int) = ((tl.size + 1 + tr.size : Nat) : Int) := by omega
      show Q (.int ((tl.size : Int) + 1 + (tr.size : Int))) H
      rw [e]
      exact q
/-! ### read_tree and its helpers -/
theorem ok_sideR (F : Fun K "read_side" "read_side" s_read_side f fd) {n k : Nat} (Dsign_at : Df P w K mg base 1 "sign_at" ["text", "at"] spSgn) (Dread_tree : DfX P w K mg base k "read_tree" ["text", "at", "room"] (spRead C n)) (hk : 1 ≤ k) : FnOk P w K mg base (L2.CX P w) (k + 1) f fd ["text", "at", "room"] (spSideR C n) := by
  refine F.okX sc_read_side (fun vs H Q E h => ?_) (fun cdv A outer s H vs Q E hr h => ?_)
  · obtain ⟨t, i, room, rfl, _⟩ := h
    rfl
  obtain ⟨t, i, room, rfl, ht, hi, hn, h13, q⟩ := h
  refine ⟨_, (pss_cons (ps_if (pt_cmpR op_eq (pe_call Dsign_at.ok (hr.mono (by omega)) rfl Dsign_at.g Dsign_at.kp Dsign_at.b .nil pass0 (pa_cons (pv 0) (pa_cons (pv 1) pa_nil))) pe_str (nomark _))
      (pss_one (ps_ret (pe_tup (pa_cons pe_non (pa_cons (pe_op op_add (pv 1) pe_int) pa_nil))))) pss_nil)
    (pss_one (ps_ret (pe_callS Dread_tree.ok (hr.mono (by omega)) rfl Dread_tree.g Dread_tree.kp Dread_tree.b (fun σ => passAt (takes_of rfl rfl rfl rfl) σ) (pa_cons (pv 0) (pa_cons (pv 1) (pa_cons (pv 2) pa_nil))))))), ?_⟩
  refine ⟨_, rfl, _, rfl, t, i, rfl, ht, rfl, _, rfl, ?_⟩
  rw [sg_eq (show Str.ofString "-" = tx [45] by decide +kernel)]
  unfold rdS at q
  by_cases h : t[i]? = some 45
  · rw [if_pos h] at q
    rw [decide_eq_true h]
    refine iteT ⟨_, rfl, _, _, rfl, rfl, (by show 2 ≤ sizeLine; decide), fun p np => ?_⟩
    have e : (i : Int) + 1 = ((i + 1 : Nat) : Int) := by omega
    refine q .non p _ (same_new np _) .nil ?_
    show upd H p (.tup [V.non, V.int ((i : Int) + 1)]) p = _
    rw [upd_same, e]
  · rw [if_neg h] at q
    rw [decide_eq_false h]
    exact iteF ⟨_, rfl, _, rfl, _, rfl, t, i, room, rfl, ht, hi, hn, h13, q⟩
theorem ok_leftR (F : Fun K "read_left" "read_left" s_read_left f fd) (hE : Err_index K mg "ValueError.__new__" veT "BadText" qn C fI) {n k : Nat} (Dsign_at : Df P w K mg base 1 "sign_at" ["text", "at"] spSgn) (Dread_side : DfX P w K mg base k "read_side" ["text", "at", "room"] (spSideR C n)) (hk : 1 ≤ k) :
    FnOk P w K mg base (L2.CX P w) (k + 1) f fd ["text", "at", "room"] (spLeftR C n) := by
  refine F.okX sc_read_left (fun vs H Q E h => ?_) (fun cdv A outer s H vs Q E hr h => ?_)
  · obtain ⟨t, i, room, rfl, _⟩ := h
    rfl
  obtain ⟨t, i, room, rfl, ht, hi, hn, h13, q⟩ := h
  refine ⟨_, (pss_cons (ps_asg (pe_callS Dread_side.ok (hr.mono (by omega)) rfl Dread_side.g Dread_side.kp Dread_side.b (fun σ => passAt (takes_of rfl rfl rfl rfl) σ) (pa_cons (pv 0) (pa_cons (pv 1) (pa_cons (pv 2) pa_nil)))) (pg_tup rfl (pgs_cons (pg_name (i := 3) sc_read_left.nd rfl (.inl rfl)) (pgs_cons (pg_name (i := 4) sc_read_left.nd rfl (.inl rfl)) pgs_nil))))
    (pss_cons (ps_if (pt_cmpR op_ne (pe_call Dsign_at.ok (hr.mono (by omega)) rfl Dsign_at.g Dsign_at.kp Dsign_at.b .nil pass0 (pa_cons (pv 0) (pa_cons (pv 4) pa_nil))) pe_str (nomark _))
      (pss_one (ps_raise_index rfl famV hE hr (takes_of rfl rfl rfl rfl) (pa_cons (pv 4) pa_nil) rfl)) pss_nil)
    (pss_one (ps_ret (pe_tup (pa_cons (pv 3) (pa_cons (pv 4) pa_nil))))))), ?_⟩
  refine ⟨_, rfl, _, rfl, _, rfl, t, i, room, rfl, ht, hi, hn, h13, ?_⟩
  have z := (rdT_ok t n i room hi).2
  cases hs : rdS (rdT t n) t i room with
  | err j =>
    rw [hs] at q
    exact q
  | ok x e =>
    rw [hs] at q z
    obtain ⟨z1, z2, z3⟩ := z x e rfl
    intro v p H1 s1 a1 ep
    refine ⟨p, _, rfl, SqT.of ep, rfl, v, _, rfl, .int (e : Int), _, rfl, rfl, ?_⟩
    refine ⟨_, rfl, _, rfl, t, e, rfl, ht, rfl, _, rfl, ?_⟩
    rw [sg_ne (show Str.ofString "," = tx [44] by decide +kernel)]
    by_cases h : t[e]? = some 44
    · rw [decide_eq_true h]
      refine iteF ⟨_, rfl, _, rfl, (by show 2 ≤ sizeLine; decide), fun r nr => ?_⟩
      have q1 := same_new nr (.tup [v, .int (e : Int)])
      have q' : RdTo C H Q E (if t[e]? = some 44 then .ok x e else .err e) := q
      rw [if_pos h] at q'
      exact q' v r _ (s1.trans q1) (a1.same q1) upd_same
    · rw [decide_eq_false h]
      have q' : RdTo C H Q E (if t[e]? = some 44 then .ok x e else .err e) := q
      rw [if_neg h] at q'
      exact iteT ⟨_, rfl, _, rfl, fun r nr => q' H1 r s1 nr⟩
theorem rd_err {t : List Nat} {n i room : Nat} (h : room = 0 ∨ isLt (sg t i) = false) : rdT t (n + 1) i room = .err i := by
  unfold rdT
  cases hc : t[i]? with
  | none => rfl
  | some c =>
    rw [sg_some hc] at h
    exact if_pos h
theorem rd_low {t : List Nat} {i : Nat} (h : isLt (sg t i) = true) : ∃ c, t[i]? = some c ∧ isLow c = true := by
  cases hc : t[i]? with
  | none =>
    rw [sg_none hc] at h
    exact absurd h Bool.false_ne_true
  | some c =>
    rw [sg_some hc] at h
    exact ⟨c, rfl, h⟩
theorem rd_leaf {t : List Nat} {n i room c : Nat} (h : room ≠ 0) (hc : t[i]? = some c) (hl : isLow c = true) (h40 : t[i + 1]? ≠ some 40) : rdT t (n + 1) i room = .ok (leaf c) (i + 1) := by
  unfold rdT
  rw [hc]
  dsimp only
  rw [if_neg (fun z => z.elim h fun z => by rw [hl] at z; cases z), if_neg h40]
theorem rd_full {t : List Nat} {n i c : Nat} (hc : t[i]? = some c) (hl : isLow c = true) (h40 : t[i + 1]? = some 40) : rdT t (n + 1) i 1 = .err (i + 1) := by
  unfold rdT
  rw [hc]
  dsimp only
  rw [if_neg (fun z => z.elim (fun z => by cases z) fun z => by rw [hl] at z; cases z), if_pos h40, if_pos rfl]
def rdR (t : List Nat) (n room c : Nat) : Rd → Rd
  | .err j => .err j
  | .ok l e => match (if l.isNil = true then rdT t n (e + 1) (room - 1 - l.size) else rdS (rdT t n) t (e + 1) (room - 1 - l.size)) with
    | .err j => .err j
    | .ok r e' => if t[e']? = some 41 then .ok (.node l ⟨#[c]⟩ r) (e' + 1) else .err e'
theorem rd_more {t : List Nat} {n i room c : Nat} (h0 : room ≠ 0) (h1 : room ≠ 1) (hc : t[i]? = some c) (hl : isLow c = true) (h40 : t[i + 1]? = some 40) :
    rdT t (n + 1) i room = rdR t n room c (lfR t (rdS (rdT t n) t (i + 2) (room - 1))) := by
  conv => lhs; unfold rdT
  rw [hc]
  dsimp only
  rw [if_neg (fun z => z.elim h0 fun z => by rw [hl] at z; cases z), if_pos h40, if_neg h1]
  cases rdS (rdT t n) t (i + 2) (room - 1) with
  | err j => rfl
  | ok l e =>
    show (if t[e]? = some 44 then _ else _) = rdR t n room c (if t[e]? = some 44 then .ok l e else .err e)
    by_cases h : t[e]? = some 44
    · rw [if_pos h, if_pos h]
      rfl
    · rw [if_neg h, if_neg h]
      rfl
theorem ok_read0 (F : Fun K "read_tree" "read_tree" s_read_tree f fd) (M : Mgs mg) (hE : Err_index K mg "ValueError.__new__" veT "BadText" qn C fI) {n k : Nat} (hk : 20 ≤ k) (Dsign_at : Df P w K mg base 1 "sign_at" ["text", "at"] spSgn) (Dis_letter : Df P w K mg base 1 "is_letter" ["value"] spLow)
    (Dsize_of : Df P w K mg base 20 "size_of" ["tree"] (spSz 20)) (Dread_tree : DfX P w K mg base k "read_tree" ["text", "at", "room"] (spRead C n)) (Dread_side : DfX P w K mg base (k + 1) "read_side" ["text", "at", "room"] (spSideR C n)) (Dread_left : DfX P w K mg base (k + 2) "read_left" ["text", "at", "room"] (spLeftR C n)) :
    FnOk P w K mg base (L2.CX P w) (k + 3) f fd ["text", "at", "room"] (spRead C (n + 1)) := by
  refine F.okX sc_read_tree (fun vs H Q E h => ?_) (fun cdv A outer s H vs Q E hr h => ?_)
  · obtain ⟨t, i, room, rfl, _⟩ := h
    rfl
  obtain ⟨t, i, room, rfl, ht, hi, hn, h13, q⟩ := h
  refine ⟨_, (pss_cons (ps_set (i := 3) sc_read_tree.nd rfl (.inl rfl) (pe_call Dsign_at.ok (hr.mono (by omega)) rfl Dsign_at.g Dsign_at.kp Dsign_at.b .nil pass0 (pa_cons (pv 0) (pa_cons (pv 1) pa_nil))))
    (pss_cons (ps_if (PW.pt (pw_or (pt_cmpR op_eq (pv 2) pe_int (nomark _)) (pw_or1 (pt_not (pt_val (pe_call Dis_letter.ok (hr.mono (by omega)) rfl Dis_letter.g Dis_letter.kp Dis_letter.b .nil pass0 (pa_cons (pv 3) pa_nil)))))))
      (pss_one (ps_raise_index rfl famV hE hr (takes_of rfl rfl rfl rfl) (pa_cons (pv 1) pa_nil) rfl)) pss_nil)
    (pss_cons (ps_if (pt_cmpR op_ne (pe_call Dsign_at.ok (hr.mono (by omega)) rfl Dsign_at.g Dsign_at.kp Dsign_at.b .nil pass0 (pa_cons (pv 0) (pa_cons (pe_op op_add (pv 1) pe_int) pa_nil))) pe_str (nomark _))
      (pss_one (ps_ret (pe_tup (pa_cons (pe_tup (pa_cons pe_non (pa_cons (pv 3) (pa_cons pe_non pa_nil)))) (pa_cons (pe_op op_add (pv 1) pe_int) pa_nil))))) pss_nil)
    (pss_cons (ps_if (pt_cmpR op_eq (pv 2) pe_int (nomark _))
      (pss_one (ps_raise_index rfl famV hE hr (takes_of rfl rfl rfl rfl) (pa_cons (pe_op op_add (pv 1) pe_int) pa_nil) rfl)) pss_nil)
    (pss_cons (ps_asg (pe_callS Dread_left.ok (hr.mono (by omega)) rfl Dread_left.g Dread_left.kp Dread_left.b (fun σ => passAt (takes_of rfl rfl rfl rfl) σ) (pa_cons (pv 0) (pa_cons (pe_op op_add (pv 1) pe_int) (pa_cons (pe_op op_sub (pv 2) pe_int) pa_nil)))) (pg_tup rfl (pgs_cons (pg_name (i := 4) sc_read_tree.nd rfl (.inl rfl)) (pgs_cons (pg_name (i := 5) sc_read_tree.nd rfl (.inl rfl)) pgs_nil))))
    (pss_cons (ps_set (i := 6) sc_read_tree.nd rfl (.inl rfl) (pe_op op_sub (pe_op op_sub (pv 2) pe_int) (pe_call Dsize_of.ok (hr.mono (by omega)) rfl Dsize_of.g Dsize_of.kp Dsize_of.b .nil pass0 (pa_cons (pv 4) pa_nil))))
    (pss_cons (ps_asg (pe_ifExp (pt_cmpR op_isN (pv 4) pe_non (nomark _)) (pe_callS Dread_tree.ok (hr.mono (by omega)) rfl Dread_tree.g Dread_tree.kp Dread_tree.b (fun σ => passAt (takes_of rfl rfl rfl rfl) σ) (pa_cons (pv 0) (pa_cons (pe_op op_add (pv 5) pe_int) (pa_cons (pv 6) pa_nil)))) (pe_callS Dread_side.ok (hr.mono (by omega)) rfl Dread_side.g Dread_side.kp Dread_side.b (fun σ => passAt (takes_of rfl rfl rfl rfl) σ) (pa_cons (pv 0) (pa_cons (pe_op op_add (pv 5) pe_int) (pa_cons (pv 6) pa_nil))))) (pg_tup rfl (pgs_cons (pg_name (i := 7) sc_read_tree.nd rfl (.inl rfl)) (pgs_cons (pg_name (i := 8) sc_read_tree.nd rfl (.inl rfl)) pgs_nil))))
    (pss_cons (ps_if (pt_cmpR op_ne (pe_call Dsign_at.ok (hr.mono (by omega)) rfl Dsign_at.g Dsign_at.kp Dsign_at.b .nil pass0 (pa_cons (pv 0) (pa_cons (pv 8) pa_nil))) pe_str (nomark _))
      (pss_one (ps_raise_index rfl famV hE hr (takes_of rfl rfl rfl rfl) (pa_cons (pv 8) pa_nil) rfl)) pss_nil)
    (pss_one (ps_ret (pe_tup (pa_cons (pe_tup (pa_cons (pv 4) (pa_cons (pv 3) (pa_cons (pv 7) pa_nil)))) (pa_cons (pe_op op_add (pv 8) pe_int) pa_nil))))))))))))), ?_⟩
  refine ⟨_, rfl, _, rfl, t, i, rfl, ht, _, rfl, rfl, _, rfl, ?_⟩
  by_cases h0 : room = 0
  · rw [rd_err (.inl h0)] at q
    exact iteI (by omega) ⟨_, rfl, _, rfl, fun p np => q H p (Same.refl H) np⟩
  refine iteJ (by omega) ⟨_, rfl, sg t i, rfl, Nat.le_trans (List.length_take_le _ _) (Nat.le_refl _), _, rfl, ?_⟩
  cases hlt : isLt (sg t i) with
  | false =>
    rw [rd_err (.inr hlt)] at q
    exact iteT ⟨_, rfl, _, rfl, fun p np => q H p (Same.refl H) np⟩
  | true =>
    obtain ⟨c, hc, hlow⟩ := rd_low hlt
    have hi1 : i + 1 ≤ t.length := (List.getElem?_eq_some_iff.mp hc).1
    have e1 : (i : Int) + 1 = ((i + 1 : Nat) : Int) := by omega
    refine iteF ⟨_, rfl, _, rfl, _, _, rfl, rfl, t, i + 1, (by show [V.str (tx t), V.int ((i : Int) + 1)] = _; rw [e1]), ht, rfl, _, rfl, ?_⟩
    rw [sg_ne (show Str.ofString "(" = tx [40] by decide +kernel)]
    by_cases h40 : t[i + 1]? = some 40
    · rw [decide_eq_true h40]
      refine iteF ⟨_, rfl, rfl, _, rfl, ?_⟩
      by_cases h1 : room = 1
      · subst h1
        rw [rd_full hc hlow h40] at q
        refine iteI rfl ⟨_, rfl, _, _, rfl, rfl, _, rfl, fun p np => ?_⟩
        have := q H p (Same.refl H) np
        rw [← e1] at this
        exact this
      · rw [rd_more h0 h1 hc hlow h40] at q
        have hi2 : i + 2 ≤ t.length := (List.getElem?_eq_some_iff.mp h40).1
        have e2 : (i : Int) + 2 = ((i + 2 : Nat) : Int) := by omega
        have e3 : (room : Int) - 1 = ((room - 1 : Nat) : Int) := by omega
        refine iteJ (by omega) ⟨_, rfl, _, rfl, _, _, rfl, rfl, _, rfl, _, _, rfl, rfl, t, i + 2, room - 1, (by show [V.str (tx t), V.int ((i : Int) + 2), V.int ((room : Int) - 1)] = _; rw [e2, e3]), ht, hi2, by omega, by omega, ?_⟩
        have zl : ∀ x e, lfR t (rdS (rdT t n) t (i + 2) (room - 1)) = .ok x e → t[e]? = some 44 ∧ x.size ≤ room - 1 := by
          intro x e h
          cases hs : rdS (rdT t n) t (i + 2) (room - 1) with
          | err j => rw [hs] at h; cases h
          | ok y e' =>
            rw [hs] at h
            have h : (if t[e']? = some 44 then Rd.ok y e' else .err e') = .ok x e := h
            by_cases h44 : t[e']? = some 44
            · rw [if_pos h44] at h
              cases h
              exact ⟨h44, ((rdT_ok t n (i + 2) (room - 1) hi2).2 _ _ hs).2.1⟩
            · rw [if_neg h44] at h
              cases h
        cases hl : lfR t (rdS (rdT t n) t (i + 2) (room - 1)) with
        | err j =>
          rw [hl] at q
          exact q
        | ok l e =>
          obtain ⟨h44, hls⟩ := zl l e hl
          have he1 : e + 1 ≤ t.length := (List.getElem?_eq_some_iff.mp h44).1
          rw [hl] at q
          intro vl p1 H1 s1 a1 ep1
          refine ⟨p1, _, rfl, SqT.of ep1, rfl, vl, _, rfl, .int (e : Int), _, rfl, rfl, ?_⟩
          refine ⟨_, rfl, _, _, rfl, rfl, _, rfl, vl, l, rfl, a1, by omega, _, _, rfl, rfl, ?_⟩
          have e4 : (room : Int) - 1 - (l.size : Int) = ((room - 1 - l.size : Nat) : Int) := by omega
          have e5 : (e : Int) + 1 = ((e + 1 : Nat) : Int) := by omega
          refine ⟨_, rfl, rfl, _, rfl, ?_⟩
          rcases a1.inv with ⟨rfl, rfl⟩ | ⟨al, l1, l2, lx, t1, t2, rfl, rfl, eal, hl1, hl2⟩
          · refine iteT ⟨_, rfl, _, rfl, _, _, rfl, rfl, _, rfl, t, e + 1, room - 1 - T.nil.size, (by show [V.str (tx t), V.int ((e : Int) + 1), V.int ((room : Int) - 1 - (T.nil.size : Int))] = _; rw [e5, e4]), ht, he1, by omega, by omega, ?_⟩
            cases hr2 : rdT t n (e + 1) (room - 1 - T.nil.size) with
            | err j =>
              rw [show rdR t n room c (.ok .nil e) = .err j by unfold rdR; dsimp only; rw [if_pos (show T.nil.isNil = true from rfl), hr2]] at q
              exact fun H2 p2 s2 np2 => q H2 p2 (s1.trans s2) np2
            | ok r e' =>
              intro vr p2 H2 s2 a2 ep2
              refine ⟨p2, _, rfl, SqT.of ep2, rfl, vr, _, rfl, .int (e' : Int), _, rfl, rfl, ?_⟩
              refine ⟨_, rfl, _, rfl, t, e', rfl, ht, rfl, _, rfl, ?_⟩
              rw [sg_ne (show Str.ofString ")" = tx [41] by decide +kernel)]
              have q' : RdTo C H Q E (if t[e']? = some 41 then .ok (.node .nil ⟨#[c]⟩ r) (e' + 1) else .err e') := by
                have z : rdR t n room c (.ok .nil e) = (if t[e']? = some 41 then .ok (.node .nil ⟨#[c]⟩ r) (e' + 1) else .err e') := by unfold rdR; dsimp only; rw [if_pos (show T.nil.isNil = true from rfl), hr2]
                rw [z] at q
                exact q
              by_cases h41 : t[e']? = some 41
              · rw [decide_eq_true h41]
                rw [if_pos h41] at q'
                refine iteF ⟨_, rfl, _, rfl, _, rfl, (by show 3 ≤ sizeLine; decide), fun p3 np3 => ?_⟩
                have q3 := same_new np3 (.tup [V.non, V.str (tx (sg t i)), vr])
                refine ⟨_, rfl, _, _, rfl, rfl, (by show 2 ≤ sizeLine; decide), fun p4 np4 => ?_⟩
                have q4 := same_new np4 (.tup [V.ref p3, V.int ((e' : Int) + 1)])
                refine q' (.ref p3) p4 _ ((s1.trans s2).trans (q3.trans q4)) (TreeAt.same q4 (.node (x := ⟨#[c]⟩) (by rw [upd_same, sg_some hc]; rfl) ((a1.same s2).same q3) (a2.same q3))) ?_
                rw [show ((e' + 1 : Nat) : Int) = (e' : Int) + 1 by omega]
                exact upd_same
              · rw [decide_eq_false h41]
                rw [if_neg h41] at q'
                exact iteT ⟨_, rfl, _, rfl, fun p3 np3 => q' H2 p3 (s1.trans s2) np3⟩
          · refine iteF ⟨_, rfl, _, rfl, _, _, rfl, rfl, _, rfl, t, e + 1, room - 1 - (T.node t1 lx t2).size, (by show [V.str (tx t), V.int ((e : Int) + 1), V.int ((room : Int) - 1 - ((T.node t1 lx t2).size : Int))] = _; rw [e5, e4]), ht, he1, by omega, by omega, ?_⟩
            cases hr2 : rdS (rdT t n) t (e + 1) (room - 1 - (T.node t1 lx t2).size) with
            | err j =>
              rw [show rdR t n room c (.ok (.node t1 lx t2) e) = .err j by unfold rdR; dsimp only; rw [if_neg (show ¬ (T.node t1 lx t2).isNil = true from fun z => nomatch z), hr2]] at q
              exact fun H2 p2 s2 np2 => q H2 p2 (s1.trans s2) np2
            | ok r e' =>
              intro vr p2 H2 s2 a2 ep2
              refine ⟨p2, _, rfl, SqT.of ep2, rfl, vr, _, rfl, .int (e' : Int), _, rfl, rfl, ?_⟩
              refine ⟨_, rfl, _, rfl, t, e', rfl, ht, rfl, _, rfl, ?_⟩
              rw [sg_ne (show Str.ofString ")" = tx [41] by decide +kernel)]
              have q' : RdTo C H Q E (if t[e']? = some 41 then .ok (.node (.node t1 lx t2) ⟨#[c]⟩ r) (e' + 1) else .err e') := by
                have z : rdR t n room c (.ok (.node t1 lx t2) e) = (if t[e']? = some 41 then .ok (.node (.node t1 lx t2) ⟨#[c]⟩ r) (e' + 1) else .err e') := by unfold rdR; dsimp only; rw [if_neg (show ¬ (T.node t1 lx t2).isNil = true from fun z => nomatch z), hr2]
                rw [z] at q
                exact q
              by_cases h41 : t[e']? = some 41
              · rw [decide_eq_true h41]
                rw [if_pos h41] at q'
                refine iteF ⟨_, rfl, _, rfl, _, rfl, (by show 3 ≤ sizeLine; decide), fun p3 np3 => ?_⟩
                have q3 := same_new np3 (.tup [V.ref al, V.str (tx (sg t i)), vr])
                refine ⟨_, rfl, _, _, rfl, rfl, (by show 2 ≤ sizeLine; decide), fun p4 np4 => ?_⟩
                have q4 := same_new np4 (.tup [V.ref p3, V.int ((e' : Int) + 1)])
                refine q' (.ref p3) p4 _ ((s1.trans s2).trans (q3.trans q4)) (TreeAt.same q4 (.node (x := ⟨#[c]⟩) (by rw [upd_same, sg_some hc]; rfl) ((a1.same s2).same q3) (a2.same q3))) ?_
                rw [show ((e' + 1 : Nat) : Int) = (e' : Int) + 1 by omega]
                exact upd_same
              · rw [decide_eq_false h41]
                rw [if_neg h41] at q'
                exact iteT ⟨_, rfl, _, rfl, fun p3 np3 => q' H2 p3 (s1.trans s2) np3⟩
    · rw [decide_eq_false h40]
      rw [rd_leaf h0 hc hlow h40] at q
      refine iteT ⟨_, rfl, (by show 3 ≤ sizeLine; decide), fun p np => ?_⟩
      have q1 := same_new np (.tup [V.non, V.str (tx (sg t i)), V.non])
      refine ⟨_, rfl, _, _, rfl, rfl, (by show 2 ≤ sizeLine; decide), fun p2 np2 => ?_⟩
      have q2 := same_new np2 (.tup [V.ref p, V.int ((i : Int) + 1)])
      refine q (.ref p) p2 _ (q1.trans q2) (TreeAt.same q2 (.node (x := ⟨#[c]⟩) (by rw [upd_same, sg_some hc]; rfl) .nil .nil)) ?_
      rw [← e1]
      exact upd_same
theorem ok_reads {f1 f2 f3 : Addr} {fd1 fd2 fd3 : FuncData} (F1 : Fun K "read_tree" "read_tree" s_read_tree f1 fd1) (b1 : Binds K fd1 ["text", "at", "room"] []) (g1 : mg "read_tree" = some (.ref f1)) (F2 : Fun K "read_side" "read_side" s_read_side f2 fd2) (b2 : Binds K fd2 ["text", "at", "room"] []) (g2 : mg "read_side" = some (.ref f2))
    (F3 : Fun K "read_left" "read_left" s_read_left f3 fd3) (b3 : Binds K fd3 ["text", "at", "room"] []) (g3 : mg "read_left" = some (.ref f3)) (M : Mgs mg) (hE : Err_index K mg "ValueError.__new__" veT "BadText" qn C fI)
    (Dsign_at : Df P w K mg base 1 "sign_at" ["text", "at"] spSgn) (Dis_letter : Df P w K mg base 1 "is_letter" ["value"] spLow) (Dsize_of : Df P w K mg base 20 "size_of" ["tree"] (spSz 20)) :
    ∀ n : Nat, FnOk P w K mg base (L2.CX P w) (20 + 3 * n) f1 fd1 ["text", "at", "room"] (spRead C n)
  | 0 => by
    have no : ∀ vs H Q E, ¬ spRead C 0 vs H Q E := fun vs H Q E h => by
      obtain ⟨t, i, room, _, _, _, h1, _⟩ := h
      omega
    exact ⟨fun vs H Q E h => absurd h (no vs H Q E), fun A outer s H args us vs Q E _ _ _ _ h => absurd h (no vs H Q E)⟩
  | n + 1 => by
    have DT : DfX P w K mg base (20 + 3 * n) "read_tree" ["text", "at", "room"] (spRead C n) := ⟨f1, fd1, ok_reads F1 b1 g1 F2 b2 g2 F3 b3 g3 M hE Dsign_at Dis_letter Dsize_of n, b1, F1.kp, g1⟩
    have DS : DfX P w K mg base (20 + 3 * n + 1) "read_side" ["text", "at", "room"] (spSideR C n) := ⟨f2, fd2, ok_sideR F2 Dsign_at DT (by omega), b2, F2.kp, g2⟩
    have DL : DfX P w K mg base (20 + 3 * n + 2) "read_left" ["text", "at", "room"] (spLeftR C n) := ⟨f3, fd3, ok_leftR F3 hE Dsign_at DS (by omega), b3, F3.kp, g3⟩
    exact ok_read0 F1 M hE (k := 20 + 3 * n) (by omega) Dsign_at Dis_letter Dsize_of DT DS DL
/-- parse_tree: of a text, or of a value that is none -/
def AnsTo (C : Addr) (H : Hp) (Q : VK) (E : XK) : Ans → Prop
  | .bad i => ∀ (H' : Hp) (p : Addr), Same H H' → H' p = none → E (.ref C) (some p) (upd H' p (.xd [(("index" : Str), .int (i : Int))]))
  | .tree x => ∀ (v : V) (H' : Hp), Same H H' → TreeAt H' v x → Q v H'
def spParse (K : PySem.W.Frag) (C : Addr) : Sp := fun vs H Q E => (∃ t : List Nat, vs = [.str (tx t)] ∧ t.length ≤ 5000 ∧ AnsTo C H Q E (parsed t)) ∨
  ∃ (v : V) (ty : String), vs = [v] ∧ TyX K H v (.type ty) ∧ kitB ty "str" = some false ∧ ∀ (H' : Hp) (p : Addr), Same H H' → H' p = none → E (.ref C) (some p) (upd H' p (.xd [(("index" : Str), .non)]))
theorem ok_parse {tM : Tok} (F : Fun K "parse_tree" "parse_tree" s_parse_tree f fd) (M : Mgs mg) (mMAX : mg "MAX_NODES" = some (.int 12 tM)) (hE : Err_index K mg "ValueError.__new__" veT "BadText" qn C fI) (Dread_tree : DfX P w K mg base 59 "read_tree" ["text", "at", "room"] (spRead C 13)) :
    FnOk P w K mg base (L2.CX P w) 60 f fd ["text"] (spParse K C) := by
  refine F.okX sc_parse_tree (fun vs H Q E h => ?_) (fun cdv A outer s H vs Q E hr h => ?_)
  · rcases h with ⟨t, rfl, _⟩ | ⟨v, ty, rfl, _⟩ <;> rfl
  refine ⟨_, (pss_cons (ps_if (pt_not (pt_val (pe_callB call_isi rfl M.isi (by decide +kernel) (pa_cons (pv 0) (pa_cons (pe_bltn (v := .ty "str") rfl M.str (by decide +kernel) rfl) pa_nil)))))
      (pss_one (ps_raise_index rfl famV hE hr (takes_of rfl rfl rfl rfl) (pa_cons pe_non pa_nil) rfl)) pss_nil)
    (pss_cons (ps_asg (pe_callS Dread_tree.ok (hr.mono (by omega)) rfl Dread_tree.g Dread_tree.kp Dread_tree.b (fun σ => passAt (takes_of rfl rfl rfl rfl) σ) (pa_cons (pv 0) (pa_cons pe_int (pa_cons (pe_glob (v := .int 12) rfl mMAX ⟨_, rfl⟩) pa_nil)))) (pg_tup rfl (pgs_cons (pg_name (i := 1) sc_parse_tree.nd rfl (.inl rfl)) (pgs_cons (pg_name (i := 2) sc_parse_tree.nd rfl (.inl rfl)) pgs_nil))))
    (pss_cons (ps_if (pt_cmpR op_lt (pv 2) (pe_callB call_len_str rfl M.len PySem.boot_len (pa_cons (pv 0) pa_nil)) (nomark _))
      (pss_one (ps_raise_index rfl famV hE hr (takes_of rfl rfl rfl rfl) (pa_cons (pv 2) pa_nil) rfl)) pss_nil)
    (pss_one (ps_ret (pv 1)))))), ?_⟩
  rcases h with ⟨t, rfl, ht, q⟩ | ⟨v, ty, rfl, hty, kt, q⟩
  · refine ⟨_, rfl, _, _, _, _, true, rfl, .ty _, .base (.str (tx t)), kit_ty (by decide +kernel), _, rfl, iteF ?_⟩
    refine ⟨_, rfl, t, 0, 12, rfl, ht, Nat.zero_le _, by omega, Nat.le_refl _, ?_⟩
    unfold parsed at q
    cases hrd : rdT t 13 0 12 with
    | err j =>
      rw [hrd] at q
      exact q
    | ok x e =>
      rw [hrd] at q
      intro v p H1 s1 a1 ep
      refine ⟨p, _, rfl, SqT.of ep, rfl, v, _, rfl, .int (e : Int), _, rfl, rfl, ?_⟩
      refine ⟨_, rfl, _, rfl, tx t, rfl, Nat.le_trans (show (tx t).length ≤ 5000 from ht) (by decide), _, _, rfl, rfl, _, rfl, ?_⟩
      have q' : AnsTo C H Q E (if e < t.length then .bad e else .tree x) := q
      by_cases he : e < t.length
      · rw [if_pos he] at q'
        rw [decide_eq_true (show (e : Int) < ((tx t).length : Nat) by rw [tx_len]; omega)]
        exact iteT ⟨_, rfl, _, rfl, fun p3 np3 => q' H1 p3 s1 np3⟩
      · rw [if_neg he] at q'
        rw [decide_eq_false (show ¬ (e : Int) < ((tx t).length : Nat) by rw [tx_len]; omega)]
        exact iteF ⟨_, rfl, q' v H1 s1 a1⟩
  · refine ⟨_, rfl, _, _, _, _, false, rfl, .ty _, hty, kit_ty kt, _, rfl, iteT ?_⟩
    exact ⟨_, rfl, fun p np => q H p (Same.refl H) np⟩
end
/-! ### text * count, t[::-1], _law_bent -/
theorem foldl_cat (x : Array Nat) : ∀ (m : Nat) (a : Array Nat), (List.replicate m x).foldl (· ++ ·) a = a ++ (List.replicate m x.toList).flatten.toArray
  | 0, a => by simp
  | m + 1, a => by
    rw [List.replicate_succ, List.foldl_cons, foldl_cat x m, List.replicate_succ, List.flatten_cons]
    apply Array.ext'
    simp
theorem op_timesS {X : Cx} : OpR X (binaryOp .Mult) (fun x y H Q => ∃ (l : List Nat) (k : Int), x = .str (tx l) ∧ y = .int k ∧ 2 ≤ k ∧ k ≤ 1000 ∧ l.length ≤ 5000 ∧ Q (.str (tx (List.replicate k.toNat l).flatten)) H) := by
  intro pins s σ H x y v u Q I rx ry h
  obtain ⟨l, k, rfl, rfl, h1, h2, hz, q⟩ := h
  obtain ⟨t, rfl⟩ := rx
  obtain ⟨t', rfl⟩ := ry
  have hlen : (tx l).length = l.length := rfl
  have hq : (5000 : Int) ≤ (2 ^ 63 - 1) / k := (Int.le_ediv_iff_mul_le (by omega)).mpr (by omega)
  have hsz : (tx l).length * k.toNat ≤ 5000000 := by
    rw [hlen]
    exact Nat.le_trans (Nat.mul_le_mul hz (show k.toNat ≤ 1000 by omega)) (by decide)
  refine PySem.P.mul_str (by rw [decide_eq_false (by omega), decide_eq_false (by omega)]; rfl) (fun _ _ => by rw [hlen]; omega) (fun _ _ => by unfold Builtin.Str.tooLong; exact decide_eq_false (by have : (5000000 : Nat) ≤ sizeLine := (by decide); omega)) ?_
  rw [if_neg (show ¬ k < 1 by omega)]
  by_cases h0 : (k == 1 || (tx l).length == 0) = true
  · rw [if_pos h0]
    have hl : l = [] := by
      rw [Bool.or_eq_true, beq_iff_eq, beq_iff_eq] at h0
      rcases h0 with h0 | h0
      · omega
      · exact List.eq_nil_of_length_eq_zero h0
    subst hl
    have e : (List.replicate k.toNat ([] : List Nat)).flatten = [] := by simp
    rw [e] at q
    exact ⟨.str (tx []), H, I, ⟨t, rfl⟩, q⟩
  · rw [if_neg h0]
    have e : (⟨(List.replicate k.toNat (tx l).cps).foldl (· ++ ·) #[]⟩ : Str) = tx (List.replicate k.toNat l).flatten := by
      rw [foldl_cat]
      simp [tx]
    rw [e]
    have hfl : (tx (List.replicate k.toNat l).flatten).length ≤ sizeLine := by
      rw [tx_len]
      have : (List.replicate k.toNat l).flatten.length = k.toNat * l.length := by simp
      rw [this, Nat.mul_comm]
      exact Nat.le_trans hsz (by decide)
    exact ⟨hfl, .str _, H, I.tok _, ⟨_, rfl⟩, q⟩
def tRevS (te : TE) : TE := fun σ H Q => te σ H fun x H1 => ∃ z : Str, x = .str z ∧ z.length ≤ 1000 ∧ Q (.str ⟨z.cps.toList.reverse.toArray⟩) H1
theorem picked_rev (z : Str) (t : Tok) : ((slicePicked z none none (some (-1, t))).filterMap (z.cps[·]?)).toArray = z.cps.toList.reverse.toArray := by
  have e : slicePicked z none none (some (-1, t)) = sliceRange ((z.cps.size : Int) - 1) (-1) (-1) := rfl
  rw [e, PySem.W.krv_sliceRange, PySem.W.krv_range, List.filterMap_reverse, PySem.W.krv_all]
theorem pe_revS {X : Cx} {e : Expr} {te : TE} {k : Nat} {p1 p2 p3 pos : Pos} (he : PE X e te) : PE X (.Subscript e (.Slice none none (some (.UnaryOp .USub (.Constant (.int 1) k p1) p2)) p3) pos) (tRevS te) := by
  refine ⟨fun pins s σ H Q I h => ?_⟩
  refine Subscript_ (thn (he.run pins s σ H _ I h) fun v s1 ⟨x, H1, I1, r1, q1⟩ => ?_)
  obtain ⟨z, ex, hz, q⟩ := q1
  subst ex
  obtain ⟨tz, rfl⟩ := r1
  have hst : PO X (some (.UnaryOp .USub (.Constant (.int 1) k p1) p2)) (tPart (tUn (rU fun i => .int (-i)) (tC (.int 1)))) := po_some (pe_un un_neg pe_int)
  refine wpAny_Slice (thn (po_none.run pins s1 σ H1 (fun o H2 => o = none ∧ H2 = H1) I1 ⟨rfl, rfl⟩) fun vl s2 ⟨l, H2, I2, pl, el, e2⟩ => ?_)
  subst el e2
  refine thn (po_none.run pins s2 σ H2 (fun o H3 => o = none ∧ H3 = H2) I2 ⟨rfl, rfl⟩) fun vu s3 ⟨u, H3, I3, pu, eu, e3⟩ => ?_
  subst eu e3
  refine thn (hst.run pins s3 σ H3 (fun o H4 => o = some (-1) ∧ H4 = H3) I3 ⟨1, rfl, -1, rfl, rfl, rfl⟩) fun vs s4 ⟨o, H4, I4, ps, eo, e4⟩ => ?_
  subst eo e4
  have I5 : Inv X pins σ H4 { s4 with heap := s4.heap.push { cls := .type "slice", data := .fields #[vl, vu, vs] } } := I4.kept (t' := s4.toks) fun b ob q => Heap.get?_push_of_some _ q
  cases pl
  cases pu
  cases ps with
  | int _ t =>
    show wpAny (model X.prog X.w) X.A (subscriptTail e (.Slice none none (some (.UnaryOp .USub (.Constant (.int 1) k p1) p2)) p3) (.str z tz) (.ref s4.heap.objs.size)) (EP X pins σ Q) X.xe { s4 with heap := s4.heap.push { cls := .type "slice", data := .fields #[.none, .none, .int (-1) t] } }
    refine tail_any (ops := [.str z tz, .ref s4.heap.objs.size]) (typeIs_str _ _ _) (F.slot_str_getitem.lookup) ?_ (by with_unfolding_all rfl)
    refine wpAny_getItem_str_slice (l := none) (u := none) (st := some (-1, t)) ⟨_, Heap.get?_push_size _ rfl, rfl, rfl⟩ rfl ?_
    have e1 : sliceMade z tz none none (some (-1, t)) = .str ⟨z.cps.toList.reverse.toArray⟩ := by
      unfold sliceMade
      rw [picked_rev]
      rfl
    rw [e1]
    refine ⟨(by show z.cps.toList.reverse.toArray.size ≤ sizeLine; rw [List.size_toArray, List.length_reverse, Array.length_toList]; exact small hz), .str ⟨z.cps.toList.reverse.toArray⟩, H4, I5.kept (t' := s4.toks + 1) (fun _ _ e => e), ⟨_, rfl⟩, q⟩
/-- a text of at most n signs, all of them small -/
structure Sm (n : Nat) (x : Str) : Prop where
  len : x.length ≤ n
  sm : ∀ c ∈ x.cps.toList, c < 128
theorem Sm.le {m n : Nat} {x : Str} (h : Sm m x) (l : m ≤ n) : Sm n x := ⟨Nat.le_trans h.len l, h.sm⟩
theorem Sm.app {m n : Nat} {x y : Str} (h : Sm m x) (g : Sm n y) : Sm (m + n) (x ++ y) := by
  refine ⟨by rw [strLen_append]; exact Nat.add_le_add h.len g.len, fun c hc => ?_⟩
  have e : (x ++ y).cps.toList = x.cps.toList ++ y.cps.toList := by
    show (x.cps ++ y.cps).toList = _
    simp
  rw [e] at hc
  rcases List.mem_append.mp hc with hc | hc
  · exact h.sm c hc
  · exact g.sm c hc
theorem Sm.cut {n : Nat} {x : Str} (h : Sm n x) (lo hi : Option Int) : Sm n (cutS x lo hi) := by
  refine ⟨Nat.le_trans (cutS_length x lo hi) h.len, fun c hc => ?_⟩
  unfold cutS at hc
  exact h.sm c (List.mem_of_mem_drop (List.mem_of_mem_take hc))
theorem Sm.rev {n : Nat} {x : Str} (h : Sm n x) : Sm n ⟨x.cps.toList.reverse.toArray⟩ := by
  refine ⟨?_, fun c hc => h.sm c (List.mem_reverse.mp hc)⟩
  show x.cps.toList.reverse.toArray.size ≤ n
  rw [List.size_toArray, List.length_reverse, Array.length_toList]
  exact h.len
theorem Sm.two {n : Nat} {x : Str} (h : Sm n x) : Sm (n + n) (tx (List.replicate (2 : Int).toNat x.cps.toList).flatten) := by
  have e : (List.replicate (2 : Int).toNat x.cps.toList).flatten = x.cps.toList ++ x.cps.toList := by
    show x.cps.toList ++ (x.cps.toList ++ []) = _
    rw [List.append_nil]
  rw [e, ← tx_app]
  exact Sm.app h h
theorem sm_tx {n : Nat} {t : List Nat} (h : t.length ≤ n) (g : ∀ c ∈ t, c < 128) : Sm n (tx t) := ⟨h, g⟩
def TxOk (n : Nat) (t : List Nat) : Prop := t.length ≤ n ∧ ∀ c ∈ t, c < 128
def spBent : Sp := fun vs H Q _ => ∃ (D : Deck) (n : Nat) (t : List Nat), vs = [.ref D.dk, .str (tx t)] ∧ DeckOk H D n ∧ n ≤ 999990 ∧ t.length ≤ 900 ∧ (∀ c ∈ t, c < 128) ∧
  ∀ (t' : List Nat) (H' : Hp), TxOk (3 * t.length + 1) t' → DeckOk H' D (n + 3) → SameD D H H' → Q (.str (tx t')) H'
theorem six {j : Int} (h0 : 0 ≤ j) (h1 : j < 6) : j = ((0 : Nat) : Int) ∨ j = ((1 : Nat) : Int) ∨ j = ((2 : Nat) : Int) ∨ j = ((3 : Nat) : Int) ∨ j = ((4 : Nat) : Int) ∨ j = ((5 : Nat) : Int) := by omega
section
variable {P : Program} {w : World} {K : PySem.W.Frag} {mg : Str → Option Value} {base : Heap} {f : Addr} {fd : FuncData}
theorem ok_bent (F : Fun K "_law_bent" "_law_bent" s__law_bent f fd) (M : Mgs mg) (D_law_next : Df P w K mg base 1 "_law_next" ["_law_deck_here", "_law_many"] spNext) (D_law_one : Df P w K mg base 2 "_law_one" ["_law_deck_here", "_law_items"] spOne) :
    FnOk P w K mg base CX0 3 f fd ["_law_deck_here", "_law_text"] spBent := by
  refine F.ok sc__law_bent (fun vs H Q E h => ?_) (fun cdv A0 outer s H vs Q E hr h => ?_)
  · obtain ⟨D, n, t, rfl, _⟩ := h
    rfl
  obtain ⟨D, n, t, rfl, d, hn, ht, hc, q⟩ := h
  refine ⟨_, (pss_cons (ps_par3 (i := 2) (j := 3) (l := 4) (by rfl) sc__law_bent.nd rfl rfl rfl (by decide) (by decide) (by decide) rfl rfl rfl (pa_cons (pe_call D_law_next.ok (hr.mono (by omega)) rfl D_law_next.g D_law_next.kp D_law_next.b .nil pass0 (pa_cons (pv 0) (pa_cons (pe_op op_add (pe_callB call_len_str rfl M.len PySem.boot_len (pa_cons (pv 1) pa_nil)) pe_int) pa_nil))) (pa_cons (pe_call D_law_next.ok (hr.mono (by omega)) rfl D_law_next.g D_law_next.kp D_law_next.b .nil pass0 (pa_cons (pv 0) (pa_cons pe_int pa_nil))) (pa_cons (pe_call D_law_one.ok (hr.mono (by omega)) rfl D_law_one.g D_law_one.kp D_law_one.b .nil pass0 (pa_cons (pv 0) (pa_cons (pe_callTy (call_signs rfl) rfl M.list (by decide +kernel) (pa_cons pe_str pa_nil)) pa_nil))) pa_nil))) (by rfl))
    (pss_cons (ps_if (pt_cmpR op_lt (pv 3) pe_int (nomark _))
      (pss_one (ps_ret (pe_op op_add_str (pe_op op_add_str (pe_slice sl_str (pv 1) po_none (po_some (pv 2))) (pe_ix ix_list (pe_lst (pa_cons (pv 4) (pa_cons pe_str (pa_cons (pv 4) pa_nil)))) (pv 3) (fun _ _ => rfl))) (pe_slice sl_str (pv 1) (po_some (pe_op op_add (pv 2) (pe_callTy call_int1 rfl M.int (by decide +kernel) (pa_cons (pe_cmpR op_gt (pv 3) pe_int (nomark _)) pa_nil)))) po_none)))) pss_nil)
    (pss_one (ps_ret (pe_ix ix_list (pe_lst (pa_cons (pe_op op_add_str (pe_op op_add_str (pe_slice sl_str (pv 1) po_none (po_some (pv 2))) (pe_revS (pe_slice sl_str (pv 1) (po_some (pv 2)) (po_some (pe_op op_add (pv 2) pe_int))))) (pe_slice sl_str (pv 1) (po_some (pe_op op_add (pv 2) pe_int)) po_none)) (pa_cons (pe_slice sl_str (pv 1) po_none (po_some (pv 2))) (pa_cons (pe_op op_add_str (pe_slice sl_str (pv 1) po_none (po_some (pv 2))) (pe_op op_timesS (pe_slice sl_str (pv 1) (po_some (pv 2)) po_none) pe_int)) pa_nil)))) (pe_op op_sub (pv 3) pe_int) (fun _ _ => rfl)))))), ?_⟩
  have lt : (tx t).length ≤ sizeLine := Nat.le_trans (show (tx t).length ≤ 900 from ht) (by decide)
  refine ⟨_, rfl, _, rfl, tx t, rfl, lt, _, _, rfl, rfl, D, n, _, rfl, d, by omega, (by rw [tx_len]; omega), (by rw [tx_len]; omega), fun i H1 i0 i1 d1 s1 => ?_⟩
  refine ⟨_, rfl, D, n + 1, 6, rfl, d1, by omega, by decide, by decide, fun j H2 j0 j1 d2 s2 => ?_⟩
  refine ⟨_, rfl, _, rfl, by decide +kernel, fun la nla => ?_⟩
  have e16 : ((Str.ofString "abz(),,--A. ?0").cps.toList.map fun c => V.str ⟨#[c]⟩) = ((Str.ofString "abz(),,--A. ?0").cps.toList.map fun c => (⟨#[c]⟩ : Str)).map V.str := by rw [List.map_map]; rfl
  rw [e16] at *
  have q5 := same_new nla (.lst (((Str.ofString "abz(),,--A. ?0").cps.toList.map fun c => (⟨#[c]⟩ : Str)).map V.str))
  refine ⟨D, n + 2, la, _, rfl, d2.same q5, by omega, upd_same, d2.new nla, by decide +kernel, by decide +kernel, fun y H3 hy d3 s3 => ?_⟩
  obtain ⟨sc, hsc, rfl⟩ := List.mem_map.mp hy
  have hs128 : sc < 128 := by
    have : ∀ c ∈ (Str.ofString "abz(),,--A. ?0").cps.toList, c < 128 := by decide +kernel
    exact this sc hsc
  have sA := (s1.trans s2).trans ((SameD.of q5).trans s3)
  obtain ⟨at', rfl⟩ : ∃ a : Nat, i = (a : Int) := ⟨i.toNat, by omega⟩
  rw [tx_len] at i1
  have fin : ∀ (x : Str) (H' : Hp), Sm (3 * t.length + 1) x → Same H3 H' → Q (.str x) H' := fun x H' hx s4 => q x.cps.toList H' ⟨hx.len, hx.sm⟩ (d3.same s4) (sA.trans (SameD.of s4))
  have T := sm_tx (Nat.le_refl t.length) hc
  have hS : Sm 1 (⟨#[sc]⟩ : Str) := ⟨Nat.le_refl _, fun c hc => by
    rcases List.mem_singleton.mp (show c ∈ [sc] from hc) with rfl
    exact hs128⟩
  have hE : Sm 1 (Str.ofString "") := ⟨by decide +kernel, fun c hc => by
    rw [show (Str.ofString "").cps.toList = [] by decide +kernel] at hc
    cases hc⟩
  have big : ∀ {m : Nat} {x : Str}, Sm m x → m ≤ 4000 → x.length ≤ sizeLine := fun h g => Nat.le_trans h.len (Nat.le_trans g (by decide))
  have big2 : ∀ {m n : Nat} {x y : Str}, Sm m x → Sm n y → m + n ≤ 4000 → x.length + y.length ≤ sizeLine := fun h g k => Nat.le_trans (Nat.add_le_add h.len g.len) (Nat.le_trans k (by decide))
  refine ⟨_, _, _, rfl, ?_⟩
  refine ⟨_, rfl, _, _, rfl, rfl, _, rfl, ?_⟩
  rcases six j0 j1 with rfl | rfl | rfl | rfl | rfl | rfl
  · refine iteT ⟨_, rfl, _, rfl, _, rfl, tx t, rfl, lt, _, rfl, _, rfl, (by show 3 ≤ sizeLine; decide), fun pl npl => ?_⟩
    refine ⟨_, rfl, pl, _, _, _, rfl, rfl, SqL.of upd_same, atI_nat (j := 0) rfl, _, _, rfl, rfl, big2 (T.cut _ _) hS (by omega), ?_⟩
    refine ⟨_, rfl, _, rfl, _, rfl, _, _, rfl, rfl, .inr ⟨_, rfl, _, _, rfl, rfl, _, rfl, tx t, rfl, lt, _, _, rfl, rfl, big2 ((T.cut _ _).app hS) (T.cut _ _) (by omega), ?_⟩⟩
    exact fin _ _ ((((T.cut _ _).app hS).app (T.cut _ _)).le (by omega)) (same_new npl _)
  · refine iteT ⟨_, rfl, _, rfl, _, rfl, tx t, rfl, lt, _, rfl, _, rfl, (by show 3 ≤ sizeLine; decide), fun pl npl => ?_⟩
    refine ⟨_, rfl, pl, _, _, _, rfl, rfl, SqL.of upd_same, atI_nat (j := 1) rfl, _, _, rfl, rfl, big2 (T.cut _ _) hE (by omega), ?_⟩
    refine ⟨_, rfl, _, rfl, _, rfl, _, _, rfl, rfl, .inr ⟨_, rfl, _, _, rfl, rfl, _, rfl, tx t, rfl, lt, _, _, rfl, rfl, big2 ((T.cut _ _).app hE) (T.cut _ _) (by omega), ?_⟩⟩
    exact fin _ _ ((((T.cut _ _).app hE).app (T.cut _ _)).le (by omega)) (same_new npl _)
  · refine iteT ⟨_, rfl, _, rfl, _, rfl, tx t, rfl, lt, _, rfl, _, rfl, (by show 3 ≤ sizeLine; decide), fun pl npl => ?_⟩
    refine ⟨_, rfl, pl, _, _, _, rfl, rfl, SqL.of upd_same, atI_nat (j := 2) rfl, _, _, rfl, rfl, big2 (T.cut _ _) hS (by omega), ?_⟩
    refine ⟨_, rfl, _, rfl, _, rfl, _, _, rfl, rfl, .inr ⟨_, rfl, _, _, rfl, rfl, _, rfl, tx t, rfl, lt, _, _, rfl, rfl, big2 ((T.cut _ _).app hS) (T.cut _ _) (by omega), ?_⟩⟩
    exact fin _ _ ((((T.cut _ _).app hS).app (T.cut _ _)).le (by omega)) (same_new npl _)
  · refine iteF ⟨_, rfl, _, rfl, _, rfl, tx t, rfl, lt, _, rfl, _, rfl, _, rfl, _, rfl, _, _, rfl, rfl, _, rfl, tx t, rfl, lt, _, rfl, Nat.le_trans (T.cut _ _).len (by omega), _, _, rfl, rfl, big2 (T.cut _ _) (T.cut _ _).rev (by omega), ?_⟩
    refine ⟨_, rfl, _, rfl, _, _, rfl, rfl, _, rfl, tx t, rfl, lt, _, _, rfl, rfl, big2 ((T.cut _ _).app (T.cut _ _).rev) (T.cut _ _) (by omega), ?_⟩
    refine ⟨_, rfl, _, rfl, _, rfl, tx t, rfl, lt, ?_⟩
    refine ⟨_, rfl, _, rfl, _, rfl, tx t, rfl, lt, _, rfl, _, rfl, _, rfl, tx t, rfl, lt, (cutS (tx t) _ none).cps.toList, 2, rfl, rfl, by decide, by decide, Nat.le_trans (T.cut _ none).len (by omega), _, _, rfl, rfl, big2 (T.cut _ _) (T.cut _ none).two (by omega), ?_⟩
    refine ⟨(by show 3 ≤ sizeLine; decide), fun pl npl => ?_⟩
    refine ⟨_, rfl, _, _, rfl, rfl, pl, _, _, _, rfl, rfl, SqL.of upd_same, atI_nat (j := 0) rfl, ?_⟩
    exact fin _ _ ((((T.cut _ _).app (T.cut _ _).rev).app (T.cut _ _)).le (by omega)) (same_new npl _)
  · refine iteF ⟨_, rfl, _, rfl, _, rfl, tx t, rfl, lt, _, rfl, _, rfl, _, rfl, _, rfl, _, _, rfl, rfl, _, rfl, tx t, rfl, lt, _, rfl, Nat.le_trans (T.cut _ _).len (by omega), _, _, rfl, rfl, big2 (T.cut _ _) (T.cut _ _).rev (by omega), ?_⟩
    refine ⟨_, rfl, _, rfl, _, _, rfl, rfl, _, rfl, tx t, rfl, lt, _, _, rfl, rfl, big2 ((T.cut _ _).app (T.cut _ _).rev) (T.cut _ _) (by omega), ?_⟩
    refine ⟨_, rfl, _, rfl, _, rfl, tx t, rfl, lt, ?_⟩
    refine ⟨_, rfl, _, rfl, _, rfl, tx t, rfl, lt, _, rfl, _, rfl, _, rfl, tx t, rfl, lt, (cutS (tx t) _ none).cps.toList, 2, rfl, rfl, by decide, by decide, Nat.le_trans (T.cut _ none).len (by omega), _, _, rfl, rfl, big2 (T.cut _ _) (T.cut _ none).two (by omega), ?_⟩
    refine ⟨(by show 3 ≤ sizeLine; decide), fun pl npl => ?_⟩
    refine ⟨_, rfl, _, _, rfl, rfl, pl, _, _, _, rfl, rfl, SqL.of upd_same, atI_nat (j := 1) rfl, ?_⟩
    exact fin _ _ ((T.cut _ _).le (by omega)) (same_new npl _)
  · refine iteF ⟨_, rfl, _, rfl, _, rfl, tx t, rfl, lt, _, rfl, _, rfl, _, rfl, _, rfl, _, _, rfl, rfl, _, rfl, tx t, rfl, lt, _, rfl, Nat.le_trans (T.cut _ _).len (by omega), _, _, rfl, rfl, big2 (T.cut _ _) (T.cut _ _).rev (by omega), ?_⟩
    refine ⟨_, rfl, _, rfl, _, _, rfl, rfl, _, rfl, tx t, rfl, lt, _, _, rfl, rfl, big2 ((T.cut _ _).app (T.cut _ _).rev) (T.cut _ _) (by omega), ?_⟩
    refine ⟨_, rfl, _, rfl, _, rfl, tx t, rfl, lt, ?_⟩
    refine ⟨_, rfl, _, rfl, _, rfl, tx t, rfl, lt, _, rfl, _, rfl, _, rfl, tx t, rfl, lt, (cutS (tx t) _ none).cps.toList, 2, rfl, rfl, by decide, by decide, Nat.le_trans (T.cut _ none).len (by omega), _, _, rfl, rfl, big2 (T.cut _ _) (T.cut _ none).two (by omega), ?_⟩
    refine ⟨(by show 3 ≤ sizeLine; decide), fun pl npl => ?_⟩
    refine ⟨_, rfl, _, _, rfl, rfl, pl, _, _, _, rfl, rfl, SqL.of upd_same, atI_nat (j := 2) rfl, ?_⟩
    exact fin _ _ (((T.cut _ _).app (T.cut _ none).two).le (by omega)) (same_new npl _)
end
/-! ### texts there and back: mathematics -/
def Beg (a : Ans) (n : Nat) : Prop := a = .bad n ∨ ∃ x, a = .tree x
theorem go_nil (i : Nat) (st : Stk) (dn : Option (T × Bool)) (m : Nat) : Beg (go [] i st dn m) i := by
  cases st with
  | nil => cases dn with
    | none => exact .inl (by unfold go; rfl)
    | some x => exact .inr ⟨x.1, by unfold go; rfl⟩
  | cons a r => exact .inl (by unfold go; rfl)
theorem go_step (c i : Nat) (st : Stk) (dn : Option (T × Bool)) (m : Nat) : (∀ cs, go (c :: cs) i st dn m = .bad i) ∨ ∃ st' dn' m', ∀ cs, go (c :: cs) i st dn m = go cs (i + 1) st' dn' m' := by
  cases dn with
  | none =>
    by_cases h : isLow c = true ∧ m < 12
    · exact .inr ⟨_, _, _, fun cs => by conv => { lhs; unfold go }; rw [if_pos h]⟩
    · by_cases h2 : c = 45 ∧ canMiss st = true
      · exact .inr ⟨_, _, _, fun cs => by conv => { lhs; unfold go }; rw [if_neg h, if_pos h2]⟩
      · exact .inl fun cs => by unfold go; rw [if_neg h, if_neg h2]
  | some p =>
    obtain ⟨x, f⟩ := p
    by_cases h : c = 40 ∧ f = true ∧ m < 12
    · exact .inr ⟨_, _, _, fun cs => by conv => { lhs; unfold go }; rw [if_pos h]⟩
    · by_cases h1 : c = 44 ∧ ∃ a r, st = (a, none) :: r
      · obtain ⟨rfl, a, r, rfl⟩ := h1
        exact .inr ⟨(a, some x) :: r, none, m, fun cs => by (conv => { lhs; unfold go }); rw [if_neg h]; rfl⟩
      · by_cases h2 : c = 41 ∧ ∃ a l r, st = (a, some l) :: r
        · obtain ⟨rfl, a, l, r, rfl⟩ := h2
          exact .inr ⟨r, some (.node l ⟨#[a]⟩ x, false), m, fun cs => by (conv => { lhs; unfold go }); rw [if_neg h]; rfl⟩
        · exact .inl fun cs => go_no h (fun e a r z => h1 ⟨e, a, r, z⟩) (fun e a l r z => h2 ⟨e, a, l, r, z⟩)
theorem go_cut : ∀ (cs : List Nat) (i : Nat) (st : Stk) (dn : Option (T × Bool)) (m : Nat),
    (∀ p, go cs i st dn m = .bad p → i ≤ p ∧ p ≤ i + cs.length ∧ (∀ k, i + k ≤ p → Beg (go (cs.take k) i st dn m) (i + k)) ∧ (p < i + cs.length → ∀ w, go (cs.take (p - i + 1) ++ w) i st dn m = .bad p)) ∧
    (∀ x, go cs i st dn m = .tree x → ∀ k, k ≤ cs.length → Beg (go (cs.take k) i st dn m) (i + k))
  | [], i, st, dn, m => by
    refine ⟨fun p h => ?_, fun x h k hk => ?_⟩
    · have hp : p = i := by
        rcases go_nil i st dn m with z | ⟨x, z⟩
        · rw [z] at h; injection h with h; exact h.symm
        · rw [z] at h; cases h
      subst hp
      refine ⟨Nat.le_refl _, Nat.le_add_right _ _, fun k hk => ?_, fun z => absurd z (Nat.lt_irrefl _)⟩
      have hk : k = 0 := by omega
      subst hk
      exact go_nil p st dn m
    · have hk : k = 0 := Nat.le_zero.mp hk
      subst hk
      exact go_nil i st dn m
  | c :: cs, i, st, dn, m => by
    rcases go_step c i st dn m with hb | ⟨st', dn', m', hs⟩
    · refine ⟨fun p h => ?_, fun x h => ?_⟩
      · rw [hb] at h
        injection h with h
        subst h
        refine ⟨Nat.le_refl _, Nat.le_add_right _ _, fun k hk => ?_, fun _ w => ?_⟩
        · have hk : k = 0 := by omega
          subst hk
          exact go_nil i st dn m
        · rw [Nat.sub_self]
          exact hb _
      · rw [hb] at h
        cases h
    · obtain ⟨ih1, ih2⟩ := go_cut cs (i + 1) st' dn' m'
      refine ⟨fun p h => ?_, fun x h k hk => ?_⟩
      · rw [hs] at h
        obtain ⟨a, b, c1, d⟩ := ih1 p h
        refine ⟨by omega, by rw [List.length_cons]; omega, fun k hk => ?_, fun hp w => ?_⟩
        · cases k with
          | zero => exact go_nil i st dn m
          | succ k =>
            have := c1 k (by omega)
            rw [show i + 1 + k = i + (k + 1) by omega] at this
            show Beg (go (c :: cs.take k) i st dn m) _
            rw [hs]
            exact this
        · have := d (by rw [List.length_cons] at hp; omega) w
          rw [show p - i + 1 = (p - (i + 1) + 1) + 1 by omega]
          show go (c :: (cs.take (p - (i + 1) + 1) ++ w)) i st dn m = _
          rw [hs]
          exact this
      · rw [hs] at h
        cases k with
        | zero => exact go_nil i st dn m
        | succ k =>
          have := ih2 x h k (by simpa using hk)
          rw [show i + 1 + k = i + (k + 1) by omega] at this
          show Beg (go (c :: cs.take k) i st dn m) _
          rw [hs]
          exact this
theorem bad_cut {t : List Nat} {p : Nat} (h : parsed t = .bad p) : p ≤ t.length ∧ Beg (parsed (t.take p)) p ∧ (p < t.length → ∀ w, parsed (t.take (p + 1) ++ w) = .bad p) := by
  rw [← parsed_eq] at h
  obtain ⟨_, b, c, d⟩ := (go_cut t 0 [] none 0).1 p h
  refine ⟨by omega, ?_, fun hp w => ?_⟩
  · have := c p (by omega)
    rw [parsed_eq, Nat.zero_add] at this
    exact this
  · have := d (by omega) w
    rw [parsed_eq, Nat.sub_zero] at this
    exact this
theorem tree_cut {t : List Nat} {x : T} (h : parsed t = .tree x) (k : Nat) (hk : k ≤ t.length) : Beg (parsed (t.take k)) k := by
  rw [← parsed_eq] at h
  have := (go_cut t 0 [] none 0).2 x h k hk
  rw [parsed_eq, Nat.zero_add] at this
  exact this
/-- what is read is written there -/
theorem rd_cs (t : List Nat) : ∀ (n i room : Nat), i ≤ t.length → (∀ x e, rdT t n i room = .ok x e → t.drop i = x.cs ++ t.drop e) ∧ (∀ x e, rdS (rdT t n) t i room = .ok x e → t.drop i = x.cs ++ t.drop e)
  | n, i, room, hi => by
    have hT : ∀ x e, rdT t n i room = .ok x e → t.drop i = x.cs ++ t.drop e := by
      intro x e h
      cases n with
      | zero => cases h
      | succ n =>
        unfold rdT at h
        split at h
        · cases h
        · rename_i c hc
          split at h
          · cases h
          · split at h
            · rename_i h40
              have hi2 : i + 2 ≤ t.length := (List.getElem?_eq_some_iff.mp h40).1
              split at h
              · cases h
              · split at h
                · cases h
                · rename_i l e1 hl
                  have a := (rd_cs t n (i + 2) (room - 1) hi2).2 _ _ hl
                  split at h
                  · rename_i h44
                    have he1 : e1 + 1 ≤ t.length := (List.getElem?_eq_some_iff.mp h44).1
                    split at h
                    · cases h
                    · rename_i r e2 hr2
                      have b : t.drop (e1 + 1) = r.cs ++ t.drop e2 ∧ ¬ (l = .nil ∧ r = .nil) := by
                        split at hr2
                        · refine ⟨(rd_cs t n (e1 + 1) (room - 1 - l.size) he1).1 _ _ hr2, fun z => ?_⟩
                          have := ((rdT_ok t n (e1 + 1) (room - 1 - l.size) he1).1 _ _ hr2).2.1
                          rw [z.2] at this
                          exact absurd this (by show ¬ 1 ≤ 0; omega)
                        · rename_i hn
                          exact ⟨(rd_cs t n (e1 + 1) (room - 1 - l.size) he1).2 _ _ hr2, fun z => hn (isNil_eq.mpr z.1)⟩
                      split at h
                      · rename_i h41
                        cases h
                        rw [cs_node _ b.2, drop_some hc, drop_some h40, a, drop_some h44, b.1, drop_some h41]
                        simp
                      · cases h
                  · cases h
            · cases h
              exact drop_some hc
    refine ⟨hT, fun x e h => ?_⟩
    unfold rdS at h
    split at h
    · rename_i h45
      cases h
      exact drop_some h45
    · exact hT x e h
  termination_by n => n
theorem parsed_text {t : List Nat} {x : T} (h : parsed t = .tree x) : x.cs = t ∧ x ≠ .nil ∧ x.lt ∧ 1 ≤ x.size ∧ x.size ≤ 12 := by
  unfold parsed at h
  cases q : rdT t 13 0 12 with
  | err j => rw [q] at h; cases h
  | ok y e =>
    rw [q] at h
    dsimp only at h
    split at h
    · cases h
    · rename_i he
      cases h
      obtain ⟨a, b, c, d⟩ := (rdT_ok t 13 0 12 (Nat.zero_le _)).1 _ _ q
      have z := (rd_cs t 13 0 12 (Nat.zero_le _)).1 _ _ q
      rw [List.drop_eq_nil_of_le (i := e) (by omega), List.append_nil] at z
      exact ⟨z.symm, fun w => by rw [w] at b; exact absurd b (by show ¬ 1 ≤ 0; omega), d, b, c⟩
theorem head_low {x : T} (h : x.lt) (hx : x ≠ .nil) : ∃ c r, x.cs = c :: r ∧ isLow c = true := by
  cases x with
  | nil => exact absurd rfl hx
  | node l y r =>
    obtain ⟨_, ⟨c, c1, c2, rfl⟩, _⟩ := T.lt_node h
    have hl : isLow c = true := by
      unfold isLow
      rw [decide_eq_true c1, decide_eq_true c2]
      rfl
    by_cases e : l = .nil ∧ r = .nil
    · obtain ⟨rfl, rfl⟩ := e
      exact ⟨c, [], cs_leaf _, hl⟩
    · exact ⟨c, _, cs_node _ e, hl⟩
theorem drop_get {t : List Nat} {i : Nat} {c : Nat} {r : List Nat} (h : t.drop i = c :: r) : t[i]? = some c ∧ t.drop (i + 1) = r := by
  constructor
  · have := congrArg List.head? h
    rw [List.head?_drop] at this
    exact this
  · have := congrArg List.tail h
    rw [List.tail_drop] at this
    exact this
theorem rd_text (t : List Nat) : ∀ (x : T) (n i room : Nat) (R : List Nat), x.lt → x ≠ .nil → x.size ≤ room → room < n → t.drop i = x.cs ++ R → R.head? ≠ some 40 → rdT t n i room = .ok x (i + x.cs.length)
  | .nil, _, _, _, _, _, h, _, _, _, _ => absurd rfl h
  | .node l y r, n, i, room, R, lt, _, hs, hn, hd, h40 => by
    obtain ⟨l1, ⟨c, c1, c2, rfl⟩, l3⟩ := T.lt_node lt
    have hlow : isLow c = true := by
      unfold isLow
      rw [decide_eq_true c1, decide_eq_true c2]
      rfl
    have hsz : l.size + 1 + r.size ≤ room := hs
    cases n with
    | zero => exact absurd hn (Nat.not_lt_zero _)
    | succ n =>
      by_cases e : l = .nil ∧ r = .nil
      · obtain ⟨rfl, rfl⟩ := e
        rw [cs_leaf] at hd ⊢
        obtain ⟨g1, g2⟩ := drop_get (c := c) (r := R) hd
        refine rd_leaf (by omega) g1 hlow fun z => h40 ?_
        rw [← g2, List.head?_drop]
        exact z
      · rw [cs_node _ e] at hd ⊢
        have hd : t.drop i = c :: 40 :: (l.cs ++ 44 :: (r.cs ++ [41])) ++ R := hd
        obtain ⟨g1, g2⟩ := drop_get (c := c) (r := 40 :: ((l.cs ++ 44 :: (r.cs ++ [41])) ++ R)) hd
        obtain ⟨g3, g4⟩ := drop_get g2
        have hr0 : l.size + r.size ≠ 0 := fun z => e ⟨by cases l with
          | nil => rfl
          | node a b c => have : (T.node a b c).size = a.size + 1 + c.size := rfl; omega, by cases r with
          | nil => rfl
          | node a b c => have : (T.node a b c).size = a.size + 1 + c.size := rfl; omega⟩
        have side : ∀ (z : T) (j rm : Nat) (R' : List Nat), (∀ R0, z.lt → z ≠ .nil → z.size ≤ rm → rm < n → t.drop j = z.cs ++ R0 → R0.head? ≠ some 40 → rdT t n j rm = .ok z (j + z.cs.length)) → z.lt → z.size ≤ rm → rm < n → t.drop j = z.cs ++ R' → R'.head? ≠ some 40 → rdS (rdT t n) t j rm = .ok z (j + z.cs.length) := by
          intro z j rm R' ih zl z1 z2 z3 z4
          unfold rdS
          by_cases hz : z = .nil
          · subst hz
            obtain ⟨w1, _⟩ := drop_get (c := 45) (r := R') z3
            rw [if_pos w1]
            rfl
          · obtain ⟨d, r', hd1, hd2⟩ := head_low zl hz
            rw [hd1] at z3
            obtain ⟨w1, _⟩ := drop_get (c := d) (r := r' ++ R') z3
            rw [if_neg (fun q => by rw [w1] at q; cases q; exact absurd hd2 (by decide))]
            rw [← hd1] at z3
            exact ih R' zl hz z1 z2 z3 z4
        have g4' : t.drop (i + 2) = l.cs ++ (44 :: (r.cs ++ [41]) ++ R) := by
          rw [show i + 2 = i + 1 + 1 from rfl, g4]
          simp
        have hL := side l (i + 2) (room - 1) _ (fun R0 h1 h2 h3 h4 h5 h6 => rd_text t l n (i + 2) (room - 1) R0 h1 h2 h3 h4 h5 h6) l1 (by omega) (by omega) g4' (by simp)
        have g5 : t.drop (i + 2 + l.cs.length) = 44 :: (r.cs ++ [41]) ++ R := by
          rw [← List.drop_drop, g4', List.drop_left]
        obtain ⟨g6, g7⟩ := drop_get (c := 44) (r := (r.cs ++ [41]) ++ R) g5
        have g7' : t.drop (i + 2 + l.cs.length + 1) = r.cs ++ ([41] ++ R) := by rw [g7, List.append_assoc]
        have g8 : t.drop (i + 2 + l.cs.length + 1 + r.cs.length) = 41 :: R := by
          rw [← List.drop_drop, g7', List.drop_left]
          rfl
        obtain ⟨g9, _⟩ := drop_get g8
        rw [rd_more (by omega) (by omega) g1 hlow g3, hL]
        show rdR t n room c (if t[i + 2 + l.cs.length]? = some 44 then .ok l (i + 2 + l.cs.length) else _) = _
        rw [if_pos g6]
        unfold rdR
        dsimp only
        have hR : (if l.isNil = true then rdT t n (i + 2 + l.cs.length + 1) (room - 1 - l.size) else rdS (rdT t n) t (i + 2 + l.cs.length + 1) (room - 1 - l.size)) = .ok r (i + 2 + l.cs.length + 1 + r.cs.length) := by
          by_cases hl : l.isNil = true
          · rw [if_pos hl]
            exact rd_text t r n _ _ _ l3 (fun z => e ⟨isNil_eq.mp hl, z⟩) (by omega) (by omega) g7' (by simp)
          · rw [if_neg hl]
            exact side r _ _ _ (fun R0 h1 h2 h3 h4 h5 h6 => rd_text t r n _ _ R0 h1 h2 h3 h4 h5 h6) l3 (by omega) (by omega) g7' (by simp)
        rw [hR]
        dsimp only
        rw [if_pos g9]
        congr 1
        simp only [List.length_append, List.length_cons, List.length_nil]
        have : (⟨#[c]⟩ : Str).cps.toList.length = 1 := rfl
        omega
  termination_by x => x
theorem parsed_cs {x : T} (h : x.lt) (h1 : x ≠ .nil) (h2 : x.size ≤ 12) : parsed x.cs = .tree x := by
  unfold parsed
  rw [rd_text x.cs x 13 0 12 [] h h1 h2 (by decide) (by simp) (by simp)]
  dsimp only
  rw [if_neg (by omega)]
/-! ### is_node, is_tree of a tree -/
inductive FsAt (H : Hp) : List V → Nat → Prop
  | nil : FsAt H [] 0
  | cons {v : V} {t : T} {vs : List V} {n : Nat} : TreeAt H v t → t ≠ .nil → t.lt → FsAt H vs n → FsAt H (v :: vs) (t.size + n)
theorem T.size_pos {t : T} (h : t ≠ .nil) : 1 ≤ t.size := by
  cases t with
  | nil => exact absurd rfl h
  | node l x r => show 1 ≤ l.size + 1 + r.size; omega
theorem FsAt.same {H H' : Hp} (s : Same H H') {vs : List V} {n : Nat} (h : FsAt H vs n) : FsAt H' vs n := by
  induction h with
  | nil => exact .nil
  | cons a b c _ ih => exact .cons (a.same s) b c ih
theorem FsAt.keepT {H H' : Hp} (s : KeepT H H') {vs : List V} {n : Nat} (h : FsAt H vs n) : FsAt H' vs n := by
  induction h with
  | nil => exact .nil
  | cons a b c _ ih => exact .cons (a.keep s) b c ih
theorem FsAt.app {H : Hp} {vs ws : List V} {n m : Nat} (h : FsAt H vs n) (g : FsAt H ws m) : FsAt H (vs ++ ws) (n + m) := by
  induction h with
  | nil => rw [Nat.zero_add]; exact g
  | cons a b c _ ih => rw [Nat.add_assoc]; exact .cons a b c ih
theorem FsAt.len {H : Hp} {vs : List V} {n : Nat} (h : FsAt H vs n) : vs.length ≤ n := by
  induction h with
  | nil => exact Nat.le_refl _
  | cons _ b _ _ ih => have := T.size_pos b; rw [List.length_cons]; omega
theorem FsAt.last {H : Hp} {vs : List V} {n : Nat} (h : FsAt H vs n) : vs ≠ [] → ∃ v t m, vs[vs.length - 1]? = some v ∧ n = m + t.size ∧ TreeAt H v t ∧ t ≠ .nil ∧ t.lt ∧ FsAt H vs.dropLast m := by
  induction h with
  | nil => intro z; exact absurd rfl z
  | @cons v t vs n a b c hh ih =>
    intro _
    cases vs with
    | nil => cases hh; exact ⟨v, t, 0, rfl, by omega, a, b, c, .nil⟩
    | cons w ws =>
      obtain ⟨u, t', m, e1, e2, e3, e4, e5, e6⟩ := ih (by simp)
      refine ⟨u, t', t.size + m, ?_, by omega, e3, e4, e5, .cons a b c e6⟩
      show (w :: ws)[(w :: ws).length - 1]? = some u
      exact e1
def keepV : V → List V
  | .non => []
  | v => [v]
theorem keep_step {xs : List V} {j : Nat} {x : V} (h : xs[j]? = some x) : (xs.take (j + 1)).flatMap keepV = (xs.take j).flatMap keepV ++ keepV x := by
  rw [List.take_add_one, h, List.flatMap_append]
  congr 1
  show keepV x ++ [] = keepV x
  rw [List.append_nil]
theorem keep_len : ∀ xs : List V, (xs.flatMap keepV).length ≤ xs.length
  | [] => Nat.le_refl _
  | x :: xs => by
    have h := keep_len xs
    have h1 : (keepV x).length ≤ 1 := by cases x <;> first | exact Nat.zero_le _ | exact Nat.le_refl _
    rw [List.flatMap_cons, List.length_append, List.length_cons]
    omega
theorem FsAt.keep {H : Hp} {v : V} {t : T} (h : TreeAt H v t) (l : t.lt) : FsAt H (keepV v) t.size := by
  rcases h.inv with ⟨rfl, rfl⟩ | ⟨a, vl, vr, x, tl, tr, rfl, rfl, _⟩
  · exact .nil
  · exact .cons h (fun z => nomatch z) l .nil
def spNodeT : Sp := fun vs H Q _ => ∃ (v : V) (t : T), vs = [v] ∧ TreeAt H v t ∧ t ≠ .nil ∧ t.lt ∧ Q (.bl true) H
def spTreeT : Sp := fun vs H Q _ => ∃ (v : V) (t : T), vs = [v] ∧ TreeAt H v t ∧ t ≠ .nil ∧ t.lt ∧ t.size ≤ 12 ∧ ∀ H', Same H H' → Q (.bl true) H'
def toGo (σ : L2.St) : Nat := match σ[1]? with
  | some (some (V.int c)) => (13 - c).toNat
  | _ => 0
theorem str1 {c : Nat} : (⟨#[c]⟩ : Str) = tx [c] := rfl
section
variable {P : Program} {w : World} {K : PySem.W.Frag} {mg : Str → Option Value} {base : Heap} {f : Addr} {fd : FuncData}
theorem ok_node {k : Nat} (F : Fun K "is_node" "is_node" s_is_node f fd) (M : Mgs mg) (Dis_letter : Df P w K mg base (k + 1) "is_letter" ["value"] spLow) : FnOk P w K mg base CX0 (k + 2) f fd ["value"] spNodeT := by
  refine F.ok sc_is_node (fun vs H Q E h => ?_) (fun cdv A outer s H vs Q E hr h => ?_)
  · obtain ⟨v, t, rfl, _⟩ := h
    rfl
  obtain ⟨v, t, rfl, ht, hn, hl, q⟩ := h
  refine ⟨_, (pss_one (ps_ret (pe_and (pe_callB call_isi rfl M.isi (by decide +kernel) (pa_cons (pv 0) (pa_cons (pe_bltn (v := .ty "tuple") rfl M.tuple (by decide +kernel) rfl) pa_nil))) (pe_and (pe_cmpR op_eq (pe_callB call_len_seq rfl M.len PySem.boot_len (pa_cons (pv 0) pa_nil)) pe_int (nomark _)) (pe_one (pe_call Dis_letter.ok (hr.mono (by omega)) rfl Dis_letter.g Dis_letter.kp Dis_letter.b .nil pass0 (pa_cons (pe_ix ix_tup (pv 0) pe_int (fun _ _ => rfl)) pa_nil))))))), ?_⟩
  rcases ht.inv with ⟨_, rfl⟩ | ⟨a, vl, vr, x, tl, tr, rfl, rfl, e, _⟩
  · exact absurd rfl hn
  obtain ⟨_, ⟨c, c1, c2, rfl⟩, _⟩ := T.lt_node hl
  refine ⟨_, rfl, _, _, _, _, true, rfl, .ty _, .base (.tup e), kit_ty (by decide +kernel), _, rfl, iteT ?_⟩
  refine ⟨_, rfl, a, _, rfl, .inr (SqT.of e), rfl, _, rfl, iteT ?_⟩
  refine ⟨_, rfl, a, _, 1, _, rfl, rfl, SqT.of e, atI_nat (j := 1) rfl, [c], rfl, Nat.le_refl _, ?_⟩
  have : isLt [c] = true := by
    show isLow c = true
    unfold isLow
    rw [decide_eq_true c1, decide_eq_true c2]
    rfl
  rw [this]
  exact q
theorem ok_isTree {tM : Tok} (F : Fun K "is_tree" "is_tree" s_is_tree f fd) (mMAX : mg "MAX_NODES" = some (.int 12 tM)) (Dis_node : Df P w K mg base 2 "is_node" ["value"] spNodeT) : FnOk P w K mg base CX0 3 f fd ["value"] spTreeT := by
  refine F.ok sc_is_tree (fun vs H Q E h => ?_) (fun cdv A outer s H vs Q E hr h => ?_)
  · obtain ⟨v, t, rfl, _⟩ := h
    rfl
  obtain ⟨v, t, rfl, ht, hn, hlt, hsz, q⟩ := h
  refine ⟨_, (pss_cons (ps_set (i := 1) sc_is_tree.nd rfl (.inl rfl) pe_int)
    (pss_cons (ps_set (i := 2) sc_is_tree.nd rfl (.inl rfl) (pe_lst (pa_cons (pv 0) pa_nil)))
    (pss_cons (ps_while PassesOwn.never (pt_truth (pv 2) (by intro _; rfl))
      (pss_cons (ps_set (i := 3) sc_is_tree.nd rfl (.inl rfl) (pe_bm0 PySem.F.plainAttrs_list PySem.F.slot_list_pop PySem.F.type_list_pop mt_pop (pv 2)))
    (pss_cons (ps_aug (i := 1) sc_is_tree.nd rfl (.inl rfl) pe_int ip_add)
    (pss_cons (ps_if (PW.pt (pw_or (pt_cmpR op_gt (pv 1) (pe_glob (v := .int _) rfl mMAX ⟨_, rfl⟩) (nomark _)) (pw_or1 (pt_not (pt_val (pe_call Dis_node.ok (hr.mono (by omega)) rfl Dis_node.g Dis_node.kp Dis_node.b .nil pass0 (pa_cons (pv 3) pa_nil)))))))
      (pss_one (ps_ret pe_bl)) pss_nil)
    (pss_one (ps_expr (pe_bm PySem.F.plainAttrs_list PySem.F.slot_list_extend PySem.F.type_list_extend mt_extend (pv 2) (pa_cons (pe_lc (own := [("side", 4)]) (g := gName 4) rfl sc_is_tree.nd (pi_tup (pe_tup (pa_cons (pe_ix ix_tup (pv 3) pe_int (fun _ _ => rfl)) (pa_cons (pe_ix ix_tup (pv 3) pe_int (fun _ _ => rfl)) pa_nil)))) (blkOk_by (N := ["value", "count", "waiting", "part", "side"]) (sc := defScope s_is_tree) (by decide +kernel)) (fun _ _ _ _ _ => (pg_name (i := 4) sc_is_tree.nd rfl (.inl rfl))) (fun _ _ _ _ _ => pts_one (pt_cmpR op_notN (pv 4) pe_non (nomark _))) (fun _ _ _ _ _ => (pv 4))) pa_nil))))))))
    (pss_one (ps_ret pe_bl))))), ?_⟩
  refine ⟨_, rfl, (by show 1 ≤ sizeLine; decide), fun wa nw => ?_⟩
  have q0 := same_new nw (.lst [v])
  refine while_by (c := fun σ H' Q' => tVar 2 σ H' fun x H2 => ∃ k, TruV K x H2 k ∧ Q' k H2) (fun σ H' => ∃ (c n : Nat) (y3 : Option V) (ws : List V), σ = [some v, some (.int (c : Int)), some (.ref wa), y3, none] ∧ Same H H' ∧ H' wa = some (.lst ws) ∧ FsAt H' ws n ∧ c + n ≤ 12)
    (fun σ _ => toGo σ)
    ?_ (fun σ H' hp => ?_) ?_
  · exact ⟨0, _, none, [v], rfl, q0, upd_same, .cons (ht.same q0) hn hlt .nil, by omega⟩
  · obtain ⟨c, n, y3, ws, rfl, sm, ew, fs, hc⟩ := hp
    refine ⟨_, rfl, !ws.isEmpty, .inl ⟨ws, SqL.of ew, rfl⟩, ?_⟩
    cases ws with
    | nil => exact iteF (q H' sm)
    | cons w0 ws0 =>
      refine iteT ?_
      obtain ⟨p, tp, n', ep, rfl, hp, hpn, hpl, fs'⟩ := fs.last (by simp)
      have hp1 := T.size_pos hpn
      refine ⟨.ref wa, rfl, .inl ⟨rfl, _, SqL.of ew⟩, wa, _, p, rfl, rfl, ew, ep, ?_⟩
      refine ⟨_, rfl, _, _, rfl, rfl, ?_⟩
      have sm2 : Same H (upd H' wa (.lst (w0 :: ws0).dropLast)) := fun b o z => by
        rw [upd_ne (ne_of_none z nw)]
        exact sm _ _ z
      have kt : KeepT H' (upd H' wa (.lst (w0 :: ws0).dropLast)) := fun b xs z => by
        rw [upd_ne (ne_of z ew (by intro z; cases z))]
        exact z
      have ew2 : (upd H' wa (.lst (w0 :: ws0).dropLast)) wa = some (.lst (w0 :: ws0).dropLast) := upd_same
      have hp2 := hp.keep kt
      have fs2 : FsAt (upd H' wa (.lst (w0 :: ws0).dropLast)) (w0 :: ws0).dropLast n' := fs'.keepT kt
      generalize upd H' wa (.lst (w0 :: ws0).dropLast) = H2 at sm2 ew2 hp2 fs2 ⊢
      have lw := fs2.len
      generalize (w0 :: ws0).dropLast = W at ew2 fs2 lw ⊢
      refine ⟨_, rfl, _, _, rfl, rfl, _, rfl, ?_⟩
      rw [decide_eq_false (show ¬ ((c : Int) + 1 > 12) by omega)]
      refine iteF ?_
      refine ⟨_, rfl, p, tp, rfl, hp2, hpn, hpl, _, rfl, iteF ?_⟩
      rcases hp2.inv with ⟨_, rfl⟩ | ⟨a, vl, vr, x, tl, tr, rfl, rfl, e3, aL, aR⟩
      · exact absurd rfl hpn
      obtain ⟨l1, _, l3⟩ := T.lt_node hpl
      have hsp : (T.node tl x tr).size = tl.size + 1 + tr.size := rfl
      refine ⟨.ref wa, rfl, .inl ⟨rfl, _, SqL.of ew2⟩, _, rfl, a, _, 0, vl, rfl, rfl, SqT.of e3, atI_nat (j := 0) rfl, _, rfl, a, _, 2, vr, rfl, rfl, SqT.of e3, atI_nat (j := 2) rfl, (by show 2 ≤ sizeLine; decide), fun tp ntp => ?_⟩
      have q6 := same_new ntp (.tup [vl, vr])
      refine ⟨tp, rfl, ⟨_, SqT.of upd_same⟩, fun L nL => ?_⟩
      have q7 := same_new nL (.lst [])
      refine lc_tup (K := K) (a := tp) (xs := [vl, vr]) (fun j H'' => Same (upd H2 tp (.tup [vl, vr])) H'' ∧ H'' L = some (.lst ((([vl, vr] : List V).take j).flatMap keepV))) ⟨q7, upd_same⟩ (fun j H'' _ hp => SqT.of (hp.1 _ _ upd_same)) (fun j x H'' hx hp => ?_) (fun H'' hp => ?_)
      · obtain ⟨s7, eL⟩ := hp
        refine ⟨rfl, _, rfl, rfl, _, rfl, ?_⟩
        by_cases hxn : x = .non
        · refine iteNS hxn ⟨s7, ?_⟩
          rw [keep_step hx, hxn]
          show _ = some (HO.lst (_ ++ []))
          rw [List.append_nil]
          exact eL
        · rw [decide_eq_false hxn]
          refine iteT ⟨x, rfl, _, eL, ?_, fun b o z => ?_, ?_⟩
          · have := keep_len (([vl, vr] : List V).take j)
            have h2 : (([vl, vr] : List V).take j).length ≤ 2 := by rw [List.length_take]; exact Nat.min_le_right _ _
            exact small1000 (by omega)
          · rw [upd_ne (ne_of_none z nL)]
            exact s7 _ _ z
          · rw [upd_same, keep_step hx]
            cases x <;> first | rfl | exact absurd rfl hxn
      · obtain ⟨s7, eL⟩ := hp
        have s8 : Same H2 H'' := q6.trans s7
        have eL' : H'' L = some (.lst (keepV vl ++ keepV vr)) := by
          rw [eL]
          show some (HO.lst (keepV vl ++ (keepV vr ++ []))) = _
          rw [List.append_nil]
        have k1 : (keepV vl).length ≤ 1 := by cases vl <;> first | exact Nat.zero_le _ | exact Nat.le_refl _
        have k2 : (keepV vr).length ≤ 1 := by cases vr <;> first | exact Nat.zero_le _ | exact Nat.le_refl _
        refine ⟨wa, L, _, _, rfl, rfl, s8 _ _ ew2, eL', small (by rw [List.length_append]; omega), ?_⟩
        have kt2 : KeepT H'' (upd H'' wa (.lst (W ++ (keepV vl ++ keepV vr)))) := fun b xs z => by
          rw [upd_ne (ne_of z (s8 _ _ ew2) (by intro z; cases z))]
          exact z
        refine ⟨⟨c + 1, _, some (.ref a), _, rfl, fun b o z => ?_, upd_same, ((fs2.same s8).app ((FsAt.keep (aL.same s8) l1).app (FsAt.keep (aR.same s8) l3))).keepT kt2, by omega⟩, ?_⟩
        · rw [upd_ne (ne_of_none z nw)]
          exact s8 _ _ (sm2 _ _ z)
        · show (13 - ((c : Int) + 1)).toNat < (13 - (c : Int)).toNat
          omega
  · intro σ H' Q1 Q2 hQ h
    obtain ⟨v', e, k', t, q'⟩ := h
    exact ⟨v', e, k', t, hQ _ _ q'⟩
end
/-! ### joined -/
theorem sc_joined : FnScope ["label", "trees", "sides", "tree"] ["label", "trees"] (defScope s_joined) := ⟨rfl, rfl, rfl, by decide +kernel, rfl, by decide +kernel, by decide +kernel⟩
def spJoinedT : Sp := fun vs H Q _ => ∃ (y : Str) (p : Addr) (v1 v2 : V) (t1 t2 : T), vs = [.str y, .ref p] ∧ H p = some (.tup [v1, v2]) ∧ TreeAt H v1 t1 ∧ TreeAt H v2 t2 ∧ t1.size + t2.size ≤ 11 ∧ ∀ (r : V) (H' : Hp), Same H H' → TreeAt H' r (.node t1 y t2) → Q r H'
def spJoined : Sp := fun vs H Q E => ∃ ws rest, vs = ws ++ rest ∧ ws.length = ["label"].length ∧ rest.length ≤ sizeLine ∧ ∀ p, H p = Option.none → spJoinedT (ws ++ [V.ref p]) (upd H p (.tup rest)) Q E
structure DfR (P : Program) (w : World) (K : PySem.W.Frag) (mg : Str → Option Value) (base : Heap) (k : Nat) (nm : Str) (sp : Sp) where
  f : Addr
  ok : FnR P w K mg base CX0 k f sp
  kp : PySem.W.keepIn K (.ref f) = true
  g : mg nm = some (.ref f)
section
variable {P : Program} {w : World} {K : PySem.W.Frag} {mg : Str → Option Value} {base : Heap} {f : Addr} {fd : FuncData}
theorem ok_joined {tM : Tok} (F : Fun K "joined" "joined" s_joined f fd) (M : Mgs mg) (mMAX : mg "MAX_NODES" = some (.int 12 tM)) (Dsize_of : Df P w K mg base 20 "size_of" ["tree"] (spSz 20)) : FnR P w K mg base CX0 21 f spJoined := by
  obtain ⟨oc, od, kV, doc, pm, an, cdv, ct, osl, rfl, lk, hcd⟩ := F.ex
  refine StX.fn_star (k := 20) (ps := ["label"]) (pv := "trees") (sp := spJoinedT) lk hcd sc_joined StX.cxUp_none (fun us rest hl => by match us, hl with | [_], _ => cases rest <;> rfl) fun A outer s H vs Q E hr h => ?_
  obtain ⟨y, p, v1, v2, t1, t2, rfl, ep, h1, h2, hz, q⟩ := h
  refine ⟨_, ((pss_cons (ps_if (pt_cmpR op_gt (pe_callB call_len_seq rfl M.len PySem.boot_len (pa_cons (pv 1) pa_nil)) pe_int (nomark _))
      (pss_one ps_never) pss_nil)
    (pss_cons (ps_set (i := 2) sc_joined.nd rfl (.inl rfl) (pe_lst (StX.pa_star (pv 1) (pa_cons pe_non (pa_cons pe_non pa_nil)))))
    (pss_cons (ps_set (i := 3) sc_joined.nd rfl (.inl rfl) (pe_tup (pa_cons (pe_ix ix_list (pv 2) pe_int (fun _ _ => rfl)) (pa_cons (pv 0) (pa_cons (pe_ix ix_list (pv 2) pe_int (fun _ _ => rfl)) pa_nil)))))
    (pss_cons (ps_if (pt_cmpR op_gt (pe_call Dsize_of.ok (hr.mono (by omega)) rfl Dsize_of.g Dsize_of.kp Dsize_of.b .nil pass0 (pa_cons (pv 3) pa_nil)) (pe_glob (v := .int _) rfl mMAX ⟨_, rfl⟩) (nomark _))
      (pss_one ps_never) pss_nil)
    (pss_one (ps_ret (pv 3))))))) : PSs (cxOf CX0 P w K mg base ["label", "trees", "sides", "tree"] "joined" (defScope s_joined) f cdv A outer s H E).nox (defBody s_joined) _).nox, ?_⟩
  refine ⟨_, rfl, p, _, rfl, .inr (SqT.of ep), _, _, rfl, rfl, _, rfl, iteF ?_⟩
  refine ⟨_, rfl, p, _, rfl, .inl (SqT.of ep), (by show 4 ≤ sizeLine; decide), fun L nL => ?_⟩
  have k1 := same_new nL (.lst ([v1, v2] ++ [.non, .non]))
  refine ⟨_, rfl, L, _, 0, v1, rfl, rfl, SqL.of upd_same, atI_nat (j := 0) rfl, _, rfl, _, rfl, L, _, 1, v2, rfl, rfl, SqL.of upd_same, atI_nat (j := 1) rfl, (by show 3 ≤ sizeLine; decide), fun r nr => ?_⟩
  have k2 := same_new nr (.tup [v1, .str y, v2])
  have tr : TreeAt (upd (upd H L (.lst ([v1, v2] ++ [.non, .non]))) r (.tup [v1, .str y, v2])) (.ref r) (.node t1 y t2) := .node upd_same (h1.same (k1.trans k2)) (h2.same (k1.trans k2))
  have hs : (T.node t1 y t2).size = t1.size + 1 + t2.size := rfl
  refine ⟨_, rfl, _, _, rfl, tr, by omega, _, _, rfl, rfl, _, rfl, ?_⟩
  rw [decide_eq_false (show ¬ (((T.node t1 y t2).size : Int) > 12) by omega)]
  exact iteF ⟨_, rfl, q _ _ (k1.trans k2) tr⟩
end
/-! ### a class read, its classmethod and its maker called within a try -/
open ClX in
theorem run_cmS {X : Cx} {pins : List (Addr × Obj)} {σ : L2.St} {H : Hp} {s : Shared} {C g q : Addr} {CX : CXT} {k : Nat} {sp : Sp} {E : XK} {Q : VK} {us : List Value} {vs : List V} (F : FnR X.prog X.w X.K X.mg X.base CX k g sp) (hr : Room k X.A) (hx : PassesAt CX X σ E) (I : Inv X ((q, PySem.W.methodObj (.ref g) (.ref C)) :: pins) σ H s)
    (r : Vals vs us) (h : sp (.ref C :: vs) H Q E) : wpAny (model X.prog X.w) X.A (call (.ref q) us) (EP X pins σ Q) X.xe s := by
  have z : wpAny (model X.prog X.w) X.A (call (.ref q) us) (EP X ((q, PySem.W.methodObj (.ref g) (.ref C)) :: pins) σ Q) X.xe s := by
    refine wpAny_call (PySem.W.method_call (pin_at I) ?_)
    refine codeAny_mono (F X.A X.stack s H (.ref C :: us) (.ref C :: vs) Q E hr I.env0 (.cons rfl r) h) fun r s' hq => ?_
    cases r with
    | error e => exact hx _ H s e s' I hq
    | ok fl =>
      cases fl with
      | ret u => exact I.after hq
      | next => exact False.elim hq
      | brk => exact False.elim hq
      | cont => exact False.elim hq
  exact thn z fun _ _ y => unpinE y
def tCMethS (C : Addr) (sp : Sp) (E : L2.St → XK) (ta : TE) (t : TA) : TE := fun σ H Q => ta σ H fun x H1 => x = .ref C ∧ t σ H1 fun vs H2 => sp (.ref C :: vs) H2 Q (E σ)
open ClX in
theorem pe_cmethS {X : Cx} {CX : CXT} {k : Nat} {C p g : Addr} {mc : Value} {sp : Sp} {E : L2.St → XK} {o e : Expr} {es : List Expr} {m : Str} {pos apos : Pos} {ta : TE} {t : TA} {pl : Sem Bool} (he : PE X o ta) (r : CRead X.K C mc) (c : CMet X.K C mc m p g) (F : FnR X.prog X.w X.K X.mg X.base CX k g sp) (hr : Room k X.A) (hx : ∀ σ, PassesAt CX X σ (E σ)) (ha : PA X (e :: es) t)
    (hst : starEach (e :: es) X.env = (false, eval e X.env) :: starEach es X.env := by rfl) (hpl : (backTo pos (starEach es X.env)).any (·.1) = false := by rfl)
    (ht : eval (.Call (.Attribute o m apos) (e :: es) [] pos) X.env = (do
      let ov ← eval o X.env
      standAt apos.atName
      let (f, first) ← holding [ov] (getMethod ov m pl)
      callWith pos f first (backTo pos (starEach (e :: es) X.env)) (backToKw pos (keywordEach [] X.env))) := by rfl) :
    PE X (.Call (.Attribute o m apos) (e :: es) [] pos) (tCMethS C sp E ta t) := by
  refine ⟨fun pins s σ H Q I h => ?_⟩
  refine PySem.W.methodCall_KW (pl := pl) (thn (he.run pins s σ H _ I h) fun u s1 ⟨x, H1, I1, rx, ex, q⟩ => ?_) ht
  subst ex
  obtain rfl : u = Value.ref C := rx
  refine getmethcm_ok I1 r c fun s2 I2 => ?_
  refine callwith_cm I2 (base_none I1 (Nat.le_refl _)) c.fi (thn (ha.run pos _ s2 σ H1 _ I2 q) fun us s3 ⟨vs, H2, I3, rv, q2⟩ => ⟨⟨pin_at I3, I3.kIn⟩, ?_⟩) hst hpl
  exact run_cmS F hr (hx σ) I3 rv q2
/-- x(e, ..), the slot holds the class at C -/
def tMakeV (i : Nat) (C : Addr) (sp : Sp) (dvs : List V) (E : XK) (t : TA) : TE := fun σ H Q => σ[i]? = some (some (.ref C)) ∧ tMake C sp dvs E t σ H Q
theorem pe_makeV {X : Cx} {CX : CXT} {k i : Nat} {C f : Addr} {fd : FuncData} {ps : List Str} {sp : Sp} {dvs : List V} {ds : List Value} {E : XK} {x : Str} {p pos : Pos} {e : Expr} {es : List Expr} {t : TA}
    (M : Mk X.K C f) (F : FnOk X.prog X.w X.K X.mg X.base CX k f fd ps sp) (hr : Room (k + 1) X.A) (hN : X.N[i]? = some x) (hv : Vis X.env.scope x) (hb : Binds X.K fd ps ds) (hd : Vals dvs ds) (hx : Passes CX X E)
    (ha : PA X (e :: es) t) (hdb : (x == ("__debug__" : Str)) = false := by decide) (hcd : (x == ("__classdict__" : Str)) = false := by decide) (he : starEach (e :: es) X.env = (false, eval e X.env) :: starEach es X.env := by rfl) (hpl : (backTo pos (starEach es X.env)).any (·.1) = false := by rfl) :
    PE X (.Call (.Name x p) (e :: es) [] pos) (tMakeV i C sp dvs E t) := by
  refine ⟨fun pins s σ H Q I h => ?_⟩
  obtain ⟨hs, ht⟩ := h
  refine wpAny_Call_Name_kw (thn ((pe_var (pos := p) hN hv hdb hcd).run pins s σ H (fun v H1 => v = .ref C ∧ H1 = H) I ⟨.ref C, hs, rfl, rfl⟩) fun u s1 ⟨v, H1, I1, r1, q1⟩ => ?_)
  obtain ⟨rfl, rfl⟩ := q1
  cases r1
  refine PySem.W.callWith_K (h₀ := X.base) I.ok.mod.kin M.kp (thn (ha.run pos pins s1 σ _ _ I1 ht) fun us s2 ⟨vs, H2, I2, r, q⟩ => ⟨I2.kIn, ?_⟩) he hpl
  exact run_make M F hr hb hd hx I2 r q

/-! ### Desk -/
structure DeskC (K : PySem.W.Frag) (mg : Str → Option Value) (C : Addr) : Prop where
  cl : Cls K C
  nT : NoAttr K C "trees"
  nD : NoAttr K C "done"
  nB : NoAttr K C "busy"
  g : mg "Desk" = some (.ref C)
def deskF (vt vd vb : V) : List (Str × V) := [("trees", vt), ("done", vd), ("busy", vb)]
theorem dn1 : ¬ (("trees" : Str) = "done") := by decide +kernel
theorem dn2 : ¬ (("trees" : Str) = "busy") := by decide +kernel
theorem dn3 : ¬ (("done" : Str) = "busy") := by decide +kernel
abbrev deskF1 (vt : V) : List (Str × V) := [("trees", vt)]
abbrev deskF2 (vt vd : V) : List (Str × V) := [("trees", vt), ("done", vd)]
theorem put_t (vt : V) : putF "trees" vt [] = deskF1 vt := rfl
theorem put_d (vt vd : V) : putF "done" vd (deskF1 vt) = deskF2 vt vd := by
  show (if ("trees" : Str) = "done" then (("trees" : Str), vd) :: [] else (("trees" : Str), vt) :: putF "done" vd []) = deskF2 vt vd
  rw [if_neg dn1]
  rfl
theorem put_b (vt vd vb : V) : putF "busy" vb (deskF2 vt vd) = deskF vt vd vb := by
  show (if ("trees" : Str) = "busy" then (("trees" : Str), vb) :: _ else (("trees" : Str), vt) :: (if ("done" : Str) = "busy" then (("done" : Str), vb) :: [] else (("done" : Str), vd) :: putF "busy" vb [])) = deskF vt vd vb
  rw [if_neg dn2, if_neg dn3]
  rfl
theorem look_t (vt vd vb : V) : (deskF vt vd vb).lookup ("trees" : Str) = some vt := rfl
theorem no_look {m : Str} (vt vd vb : V) (h1 : (m == ("trees" : Str)) = false) (h2 : (m == ("done" : Str)) = false) (h3 : (m == ("busy" : Str)) = false) : (deskF vt vd vb).lookup m = none := by
  unfold deskF
  simp only [List.lookup, h1, h2, h3]
/-- a desk with one tree -/
def DeskAt (C : Addr) (H : Hp) (a : Addr) (x : T) : Prop := ∃ (dx ta td : Addr) (v : V), H a = some (.ins C dx (deskF (.ref ta) (.ref td) (.bl false))) ∧ H ta = some (.tup [v]) ∧ TreeAt H v x
def spInitD (C : Addr) : Sp := fun vs H Q _ => ∃ (p dx : Addr) (v : V) (x : T), vs = [.ref p, v] ∧ H p = some (.ins C dx []) ∧ TreeAt H v x ∧ x ≠ .nil ∧ x.lt ∧ x.size ≤ 12 ∧ ∀ H', (∀ b o, b ≠ p → H b = some o → H' b = some o) → DeskAt C H' p x → Q .non H'
def spReadD (C CB : Addr) : Sp := fun vs H Q E => ∃ t : List Nat, vs = [.ref C, .str (tx t)] ∧ t.length ≤ 5000 ∧ match parsed t with
  | .bad i => ∀ (H' : Hp) (p : Addr), Same H H' → H' p = none → E (.ref CB) (some p) (upd H' p (.xd [(("index" : Str), .int (i : Int))]))
  | .tree x => ∀ (a : Addr) (H' : Hp), Same H H' → DeskAt C H' a x → Q (.ref a) H'
def spTreeM (C : Addr) : Sp := fun vs H Q _ => ∃ (a : Addr) (x : T), vs = [.ref a, .non] ∧ DeskAt C H a x ∧ ∀ v, TreeAt H v x → Q v H
theorem sc_Desk_tree : FnScope ["self", "version"] ["self", "version"] (defScope s_Desk_tree) := ⟨rfl, rfl, rfl, by decide +kernel, rfl, by decide +kernel, by decide +kernel⟩
section
variable {P : Program} {w : World} {K : PySem.W.Frag} {mg : Str → Option Value} {base : Heap} {f : Addr} {fd : FuncData} {C CB : Addr}
theorem ok_init (F : Fun K "__init__" "Desk.__init__" s_Desk___init__ f fd) (T : DeskC K mg C) (Dis_tree : Df P w K mg base 3 "is_tree" ["value"] spTreeT) : FnOk P w K mg base CX0 4 f fd ["self", "tree"] (spInitD C) := by
  refine F.ok sc_Desk___init__ (fun vs H Q E h => ?_) (fun cdv A outer s H vs Q E hr h => ?_)
  · obtain ⟨p, dx, v, x, rfl, _⟩ := h
    rfl
  obtain ⟨p, dx, v, x, rfl, hp, ht, hn, hl, hz, q⟩ := h
  refine ⟨_, (pss_cons (ps_if (pt_not (pt_val (pe_call Dis_tree.ok (hr.mono (by omega)) rfl Dis_tree.g Dis_tree.kp Dis_tree.b .nil pass0 (pa_cons (pv 1) pa_nil))))
      (pss_one ps_never) pss_nil)
    (pss_cons (ps_fld (pv 0) (pe_tup (pa_cons (pv 1) pa_nil)) rfl)
    (pss_cons (ps_fld (pv 0) (pe_tup pa_nil) rfl)
    (pss_one (ps_fld (pv 0) pe_bl rfl))))), ?_⟩
  refine ⟨_, rfl, v, x, rfl, ht, hn, hl, hz, fun H1 s1 => ⟨_, rfl, iteF ?_⟩⟩
  refine ⟨_, rfl, (by show 1 ≤ sizeLine; decide), fun ta nta => ?_⟩
  have k2 := same_new nta (.tup [v])
  have hp2 := k2 _ _ (s1 _ _ hp)
  have npt : p ≠ ta := ne_of_none (s1 _ _ hp) nta
  refine ⟨_, rfl, p, C, dx, [], rfl, hp2, T.cl, T.nT, (by show 0 < 1000; decide), ?_⟩
  refine ⟨(by show 0 ≤ sizeLine; decide), fun td ntd => ?_⟩
  have npd : p ≠ td := fun z => by rw [← z, upd_same] at ntd; cases ntd
  rw [upd_ne npd.symm] at ntd
  have ntt : ta ≠ td := ne_of_none (H := upd H1 ta (.tup [v])) upd_same ntd
  refine ⟨_, rfl, p, C, dx, deskF1 (.ref ta), rfl, (by rw [upd_ne npd, upd_same]; rfl), T.cl, T.nD, (by show 1 < 1000; decide), ?_⟩
  refine ⟨_, rfl, p, C, dx, deskF2 (.ref ta) (.ref td), rfl, (by rw [upd_same, put_d]), T.cl, T.nB, (by show 2 < 1000; decide), ?_⟩
  refine q _ (fun b o hb e => ?_) ⟨dx, ta, td, v, (by rw [upd_same, put_b]), (by rw [upd_ne npt.symm, upd_ne npt.symm, upd_ne ntt, upd_ne npt.symm, upd_same]), ?_⟩
  · have e1 := k2 _ _ (s1 _ _ e)
    have n1 : b ≠ td := ne_of_none e1 ntd
    rw [upd_ne hb, upd_ne hb, upd_ne n1, upd_ne hb]
    exact e1
  · refine (ht.same (s1.trans k2)).keep fun b xs e => ?_
    have hb : b ≠ p := ne_of e hp2 (by intro z; cases z)
    have n1 : b ≠ td := ne_of_none e ntd
    rw [upd_ne hb, upd_ne hb, upd_ne n1, upd_ne hb]
    exact e
end
/-! ### Desk.read, tree, _law_tried -/
/-- what _law_tried answers -/
def TrdAt (H : Hp) (p : Addr) : Ans → Prop
  | .bad i => H p = some (.lst [.str "bad", .int (i : Int)])
  | .tree x => ∃ v, H p = some (.lst [.str "told", v]) ∧ TreeAt H v x
theorem TrdAt.same {H H' : Hp} (s : Same H H') {p : Addr} {a : Ans} (h : TrdAt H p a) : TrdAt H' p a := by
  cases a with
  | bad i => exact s _ _ h
  | tree x =>
    obtain ⟨v, h1, h2⟩ := h
    exact ⟨v, s _ _ h1, h2.same s⟩
def spTried : Sp := fun vs H Q _ => ∃ (t : List Nat) (b : Bool), vs = [.str (tx t), .bl b] ∧ t.length ≤ 5000 ∧ ∀ (p : Addr) (H' : Hp), Same H H' → TrdAt H' p (parsed t) → Q (.ref p) H'
section
variable {P : Program} {w : World} {K : PySem.W.Frag} {mg : Str → Option Value} {base : Heap} {f fi fr : Addr} {fd fdi : FuncData} {C CB fI : Addr} {qn : Str}
theorem ok_treeM (F : Fun K "tree" "Desk.tree" s_Desk_tree f fd) (TD : DeskC K mg C) : FnOk P w K mg base CX0 1 f fd ["self", "version"] (spTreeM C) := by
  refine F.ok sc_Desk_tree (fun vs H Q E h => ?_) (fun cdv A outer s H vs Q E hr h => ?_)
  · obtain ⟨a, x, rfl, _⟩ := h
    rfl
  obtain ⟨a, x, rfl, ⟨dx, ta, td, v, h1, h2, h3⟩, q⟩ := h
  refine ⟨_, pss_cons (ps_if (pt_cmpR op_isN (pv 1) pe_non (nomark _)) (pss_one (ps_ret (pe_ix ix_tup (pe_fld (pv 0) rfl) (pe_un un_neg pe_int) (fun _ _ => rfl)))) pss_nil) pss_never, ?_⟩
  refine ⟨_, rfl, rfl, _, rfl, iteT ?_⟩
  refine ⟨_, rfl, a, C, dx, _, _, rfl, h1, TD.cl, TD.nT, look_t _ _ _, ?_⟩
  exact ⟨_, rfl, ta, _, _, v, rfl, rfl, SqT.of h2, rfl, q v h3⟩
theorem ok_readD (F : Fun K "read" "Desk.read" s_Desk_read f fd) (TD : DeskC K mg C) (MK : Mk K C fi) (Di : FnOk P w K mg base CX0 4 fi fdi ["self", "tree"] (spInitD C)) (bi : Binds K fdi ["self", "tree"] []) (Dparse_tree : DfX P w K mg base 60 "parse_tree" ["text"] (spParse K CB)) :
    FnOk P w K mg base (L2.CX P w) 61 f fd ["cls", "text"] (spReadD C CB) := by
  refine F.okX sc_Desk_read (fun vs H Q E h => ?_) (fun cdv A outer s H vs Q E hr h => ?_)
  · obtain ⟨t, rfl, _⟩ := h
    rfl
  obtain ⟨t, rfl, ht, q⟩ := h
  refine ⟨_, pss_one (ps_ret (pe_makeV (i := 0) MK Di (hr.mono (by omega)) rfl (.inl rfl) bi .nil pass0 (pa_cons (pe_callS Dparse_tree.ok (hr.mono (by omega)) rfl Dparse_tree.g Dparse_tree.kp Dparse_tree.b (fun σ => passAt (takes_of rfl rfl rfl rfl) σ) (pa_cons (pv 1) pa_nil)) pa_nil))), ?_⟩
  refine ⟨rfl, ?_⟩
  refine ⟨_, rfl, .inl ⟨t, rfl, ht, ?_⟩⟩
  cases hp : parsed t with
  | bad i =>
    rw [hp] at q
    intro H1 p s1 np
    exact q H1 p s1 np
  | tree x =>
    rw [hp] at q
    obtain ⟨_, x1, x2, _, x3⟩ := parsed_text hp
    intro v H1 s1 a1
    intro a dx na ndx ne
    have ndx' : (upd (upd H1 dx (.own a)) a (.ins C dx [])) a = some (.ins C dx []) := upd_same
    have k1 : ∀ b o, H1 b = some o → (upd (upd H1 dx (.own a)) a (.ins C dx [])) b = some o := fun b o e => by
      rw [upd_ne (ne_of_none e na), upd_ne (ne_of_none e ndx)]
      exact e
    refine ⟨a, dx, v, x, rfl, ndx', a1.same k1, x1, x2, x3, fun H2 k2 d2 => ⟨rfl, ?_⟩⟩
    refine q a H2 (fun b o e => ?_) d2
    have e1 := s1 _ _ e
    exact k2 b o (ne_of_none e1 na) (k1 b o e1)
theorem ok_tried (F : Fun K "_law_tried" "_law_tried" s__law_tried f fd) (TD : DeskC K mg C) {mc : Value} {pm gr ft : Addr} {fdt : FuncData} {dn : List Value} (CR1 : ClX.CRead K C mc) (CM : ClX.CMet K C mc "read" pm gr) (FR : FnR P w K mg base (L2.CX P w) 61 gr (spReadD C CB))
    (MT : Meth K C "tree" ft) (Ft : FnOk P w K mg base CX0 1 ft fdt ["self", "version"] (spTreeM C)) (bt : Binds K fdt ["self", "version"] dn) (vt : Vals [.non] dn)
    (hE : Err_index K mg "ValueError.__new__" veT "BadText" qn CB fI) (gB : mg "BadText" = some (.ref CB)) (e1 : PySem.W.exmOne K (.ref CB) (.ref CB) = some true)
    (Dparse_tree : DfX P w K mg base 60 "parse_tree" ["text"] (spParse K CB)) : FnOk P w K mg base CX0 62 f fd ["_law_value", "_law_is_desk"] spTried := by
  refine F.ok sc__law_tried (fun vs H Q E h => ?_) (fun cdv A0 outer s H vs Q E hr h => ?_)
  · obtain ⟨t, b, rfl, _⟩ := h
    rfl
  obtain ⟨t, b, rfl, ht, q⟩ := h
  refine ⟨_, pss_one (ps_tryA (i := 2) (n := "error") (Wout := fun _ _ _ _ => False) rfl rfl sc__law_tried.nd rfl rfl takes_none5
      (fun W pn xe tk _ => pss_one (ps_ret (pe_lst (pa_cons pe_str (pa_cons (pe_ifExp (pt_val (pv 1)) (pe_meth0 (pe_cmethS (pe_glob (v := .ref C) rfl TD.g rfl) CR1 CM FR (hr.mono (by omega)) (fun σ => passAt tk σ) (pa_cons (pv 0) pa_nil)) TD.cl MT Ft (hr.mono (by omega)) bt vt pass0)
        (pe_callS Dparse_tree.ok (hr.mono (by omega)) rfl Dparse_tree.g Dparse_tree.kp Dparse_tree.b (fun σ => passAt tk σ) (pa_cons (pv 0) pa_nil))) pa_nil)))))
      (.cons ⟨rfl, by decide, .inl gB⟩ (fun a oe cls d pn hz hf => pss_one (ps_ret (pe_lst (pa_cons pe_str (pa_cons (pe_fld_index hE hz hf (pv 2)) pa_nil))))) .nil)), ?_⟩
  have bad : ∀ (i : Nat) (H1 : Hp) (p : Addr), parsed t = .bad i → Same H H1 → H1 p = none → ∀ pm : Addr, (upd H1 p (.xd [(("index" : Str), .int (i : Int))])) pm = none →
      Q (.ref pm) (upd (upd H1 p (.xd [(("index" : Str), .int (i : Int))])) pm (.lst [.str "bad", .int (i : Int)])) := fun i H1 p hp s1 np pm npm => by
    have := q pm _ ((s1.trans (same_new np _)).trans (same_new npm (.lst [.str "bad", .int (i : Int)]))) (by rw [hp]; exact upd_same)
    exact this
  have good : ∀ (x : T) (v : V) (H1 : Hp), parsed t = .tree x → Same H H1 → TreeAt H1 v x → ∀ pm : Addr, H1 pm = none → Q (.ref pm) (upd H1 pm (.lst [.str "told", v])) := fun x v H1 hp s1 a1 pm npm => by
    have k := same_new npm (.lst [.str "told", v])
    exact q pm _ (s1.trans k) (by rw [hp]; exact ⟨v, upd_same, a1.same k⟩)
  cases b with
  | true =>
    refine ⟨_, rfl, true, rfl, iteT ?_⟩
    refine ⟨rfl, _, rfl, t, rfl, ht, ?_⟩
    cases hp : parsed t with
    | bad i =>
      intro H1 p s1 np
      refine ⟨true, e1, fun _ a0 na => ?_, fun z => nomatch z⟩
      refine ⟨_, rfl, rfl, rfl, p, _, rfl, upd_same, (by show 2 ≤ sizeLine; decide), fun p2 np2 => ?_⟩
      exact bad i H1 p hp s1 np p2 np2
    | tree x =>
      intro a H1 s1 d1
      obtain ⟨dx, ta, td, v, h1, h2, h3⟩ := id d1
      refine ⟨a, dx, _, rfl, h1, no_look _ _ _ (by decide +kernel) (by decide +kernel) (by decide +kernel), ?_⟩
      refine ⟨a, x, rfl, d1, fun v a1 => ?_⟩
      refine ⟨(by show 2 ≤ sizeLine; decide), fun p2 np2 => ?_⟩
      exact good x v H1 hp s1 a1 p2 np2
  | false =>
    refine ⟨_, rfl, false, rfl, iteF ?_⟩
    refine ⟨_, rfl, .inl ⟨t, rfl, ht, ?_⟩⟩
    cases hp : parsed t with
    | bad i =>
      intro H1 p s1 np
      refine ⟨true, e1, fun _ a0 na => ?_, fun z => nomatch z⟩
      refine ⟨_, rfl, rfl, rfl, p, _, rfl, upd_same, (by show 2 ≤ sizeLine; decide), fun p2 np2 => ?_⟩
      exact bad i H1 p hp s1 np p2 np2
    | tree x =>
      intro v H1 s1 a1
      refine ⟨(by show 2 ≤ sizeLine; decide), fun p2 np2 => ?_⟩
      exact good x v H1 hp s1 a1 p2 np2
end
/-! ### _law_is_beginning, _law_right -/
theorem op_eqL {X : Cx} (hu : X.A.units < cLine) : OpR X (compareOp .Eq) (fun x y H Q => ∃ a b xs, x = .ref a ∧ y = .ref b ∧ SqL X.K H a xs ∧ SqL X.K H b [] ∧ Q (.bl xs.isEmpty) H) := by
  intro pins s σ H x y v u Q I rx ry h
  obtain ⟨a, b, xs, rfl, rfl, hx, hy, q⟩ := h
  cases rx
  cases ry
  obtain ⟨its, r1, t1, _⟩ := I.list hx
  obtain ⟨its2, r2, t2, _⟩ := I.list hy
  cases r2
  cases r1 with
  | nil =>
    have rc := SeqAt.RcAt.lists (A := X.A) (s := s) (items := ([] : List Value).toArray) (items2 := ([] : List Value).toArray) (e := fun _ => true) t1.isList t2.isList rfl hu (fun j h1 _ => absurd h1 (by simp))
    exact rc X.prog X.w X.xe _ ⟨.bl _, H, I, rfl, q⟩
  | cons _ _ =>
    have rc := SeqAt.RcAt.lists_lengths (A := X.A) (s := s) t1.isList t2.isList (by simp) hu
    exact rc X.prog X.w X.xe _ ⟨.bl _, H, I, rfl, q⟩
theorem passX {X : Cx} : Passes (L2.CX X.prog X.w) X E0 := fun _ _ _ _ _ _ _ h => by
  obtain ⟨_, _, _, _, _, _, _, _, _, _, _, _, e⟩ := h
  exact e.elim
def spBeg : Sp := fun vs H Q _ => ∃ t : List Nat, vs = [.str (tx t)] ∧ t.length ≤ 5000 ∧ Beg (parsed t) t.length ∧ ∀ H', Same H H' → Q (.bl true) H'
def spRight : Sp := fun vs H Q _ => ∃ (D : Deck) (n : Nat) (t : List Nat), vs = [.ref D.dk, .str (tx t)] ∧ DeckOk H D n ∧ n ≤ 999990 ∧ t.length ≤ 2100 ∧ ∀ (n' : Nat) (H' : Hp), DeckOk H' D n' → n' ≤ n + 1 → SameD D H H' → Q (.bl true) H'
theorem cut_tx (t : List Nat) (k : Nat) : cutS (tx t) none (some (k : Int)) = tx (t.take k) := by
  have h := tx_sl t 0 k (Nat.zero_le _)
  rw [List.drop_zero, Nat.sub_zero] at h
  rw [← h]
  rfl
theorem small2 {n : Nat} (h : n ≤ 5000) : n ≤ sizeLine := Nat.le_trans h (by decide)
theorem bad_told : ¬ (V.str (Str.ofString "bad") = V.str (Str.ofString "told")) := fun z => absurd (V.str.inj z) (by decide +kernel)
/-- what _law_tried answers, as data -/
def trD : Ans → PyData
  | .bad i => .list [.str "bad", .int (i : Int)]
  | .tree x => .list [.str "told", x.data]
theorem TrdAt.dp {K : PySem.W.Frag} {H : Hp} {p : Addr} {a : Ans} (h : TrdAt H p a) : Dp K H (.ref p) (trD a) := by
  cases a with
  | bad i => exact .lst (SqL.of h) (.cons (.str _) (.cons (.int _) .nil))
  | tree x =>
    obtain ⟨v, h1, h2⟩ := h
    exact .lst (SqL.of h1) (.cons (.str _) (.cons h2.dp .nil))
theorem tr_ok (t : List Nat) : (trD (parsed t)).depth < 20 ∧ nar (trD (parsed t)) = true := by
  cases hp : parsed t with
  | bad i => exact ⟨by simp only [trD, PyData.depth, PyData.depthAll]; decide, by simp [trD, nar, narAll]⟩
  | tree x =>
    obtain ⟨_, _, _, _, h⟩ := parsed_text hp
    have := x.deep_le
    refine ⟨?_, by simp only [trD, nar, narAll, T.nar_data]; rfl⟩
    simp only [trD, PyData.depth, PyData.depthAll, T.data_deep]
    omega
section
variable {P : Program} {w : World} {K : PySem.W.Frag} {mg : Str → Option Value} {base : Heap} {f : Addr} {fd : FuncData}
theorem ok_beg (F : Fun K "_law_is_beginning" "_law_is_beginning" s__law_is_beginning f fd) (M : Mgs mg) (D_law_tried : Df P w K mg base 62 "_law_tried" ["_law_value", "_law_is_desk"] spTried) (D_law_same : Df P w K mg base 20 "_law_same" ["_law_found", "_law_due"] (spSame K 20)) : FnOk P w K mg base CX0 63 f fd ["_law_text"] spBeg := by
  refine F.ok sc__law_is_beginning (fun vs H Q E h => ?_) (fun cdv A0 outer s H vs Q E hr h => ?_)
  · obtain ⟨t, rfl, _⟩ := h
    rfl
  obtain ⟨t, rfl, ht, hb, q⟩ := h
  refine ⟨_, (pss_cons (ps_set (i := 1) sc__law_is_beginning.nd rfl (.inl rfl) (pe_call D_law_tried.ok (hr.mono (by omega)) rfl D_law_tried.g D_law_tried.kp D_law_tried.b .nil pass0 (pa_cons (pv 0) (pa_cons pe_bl pa_nil))))
    (pss_one (ps_ret (pe_or (pe_cmpR op_eq (pe_ix ix_list (pv 1) pe_int (fun _ _ => rfl)) pe_str (nomark _)) (pe_one (pe_call D_law_same.ok (hr.mono (by omega)) rfl D_law_same.g D_law_same.kp D_law_same.b .nil pass0 (pa_cons (pv 1) (pa_cons (pe_lst (pa_cons pe_str (pa_cons (pe_callB call_len_str rfl M.len PySem.boot_len (pa_cons (pv 0) pa_nil)) pa_nil))) pa_nil)))))))), ?_⟩
  refine ⟨_, rfl, t, false, rfl, ht, fun p H1 s1 a1 => ?_⟩
  rcases hb with hb | ⟨x, hb⟩
  · rw [hb] at a1
    have e1 : H1 p = some (.lst [.str "bad", .int (t.length : Int)]) := a1
    have kn := tr_ok t
    rw [hb] at kn
    refine ⟨_, rfl, p, _, 0, _, rfl, rfl, SqL.of e1, atI_nat (j := 0) rfl, rfl, _, rfl, ?_⟩
    rw [decide_eq_false bad_told]
    refine iteF ?_
    refine ⟨_, rfl, _, rfl, tx t, rfl, Nat.le_trans (show (tx t).length ≤ 5000 from ht) (by decide), (by show 2 ≤ sizeLine; decide), fun r nr => ?_⟩
    have k2 := same_new nr (.lst [.str "bad", .int ((tx t).length : Int)])
    refine ⟨.ref p, .ref r, trD (.bad t.length), rfl, .lst (SqL.of (k2 _ _ e1)) (.cons (.str _) (.cons (.int _) .nil)), .lst (SqL.of upd_same) (.cons (.str _) (.cons (.int _) .nil)), kn.1, kn.2, fun H2 s2 => ?_⟩
    exact q _ (s1.trans (k2.trans s2))
  · rw [hb] at a1
    obtain ⟨v, e1, _⟩ := a1
    exact ⟨_, rfl, p, _, 0, _, rfl, rfl, SqL.of e1, atI_nat (j := 0) rfl, rfl, _, rfl, iteT (q _ s1)⟩
theorem ok_right (F : Fun K "_law_right" "_law_right" s__law_right f fd) (M : Mgs mg) (D_law_tried : Df P w K mg base 62 "_law_tried" ["_law_value", "_law_is_desk"] spTried) (D_law_same : Df P w K mg base 20 "_law_same" ["_law_found", "_law_due"] (spSame K 20)) (D_law_is_beginning : Df P w K mg base 63 "_law_is_beginning" ["_law_text"] spBeg)
    (Dis_tree : Df P w K mg base 3 "is_tree" ["value"] spTreeT) (Dtree_text : Df P w K mg base 40 "tree_text" ["tree"] (spText 20)) (D_law_one : Df P w K mg base 2 "_law_one" ["_law_deck_here", "_law_items"] spOne) : FnOk P w K mg base CX0 64 f fd ["_law_deck_here", "_law_value"] spRight := by
  refine F.ok sc__law_right (fun vs H Q E h => ?_) (fun cdv A0 outer s H vs Q E hr h => ?_)
  · obtain ⟨D, n, t, rfl, _⟩ := h
    rfl
  obtain ⟨D, n, t, rfl, dk, hn, ht, q⟩ := h
  refine ⟨_, (pss_cons (ps_set (i := 2) sc__law_right.nd rfl (.inl rfl) (pe_call D_law_tried.ok (hr.mono (by omega)) rfl D_law_tried.g D_law_tried.kp D_law_tried.b .nil pass0 (pa_cons (pv 1) (pa_cons pe_bl pa_nil))))
    (pss_cons (ps_if (pt_not (pt_val (pe_call D_law_same.ok (hr.mono (by omega)) rfl D_law_same.g D_law_same.kp D_law_same.b .nil pass0 (pa_cons (pe_call D_law_tried.ok (hr.mono (by omega)) rfl D_law_tried.g D_law_tried.kp D_law_tried.b .nil pass0 (pa_cons (pv 1) (pa_cons pe_bl pa_nil))) (pa_cons (pv 2) pa_nil)))))
      (pss_one (ps_ret pe_bl)) pss_nil)
    (pss_cons (ps_if (pt_cmpR op_eq (pe_ix ix_list (pv 2) pe_int (fun _ _ => rfl)) pe_str (nomark _))
      (pss_one (ps_ret (pe_and (pe_cmpR op_isBl (pe_call Dis_tree.ok (hr.mono (by omega)) rfl Dis_tree.g Dis_tree.kp Dis_tree.b .nil pass0 (pa_cons (pe_ix ix_list (pv 2) pe_int (fun _ _ => rfl)) pa_nil)) pe_bl (nomark _)) (pe_one (pe_cmpR op_eq (pe_call Dtree_text.ok (hr.mono (by omega)) rfl Dtree_text.g Dtree_text.kp Dtree_text.b .nil pass0 (pa_cons (pe_ix ix_list (pv 2) pe_int (fun _ _ => rfl)) pa_nil)) (pv 1) (nomark _)))))) pss_nil)
    (pss_cons (ps_set (i := 3) sc__law_right.nd rfl (.inr rfl) (pe_ix ix_list (pv 2) pe_int (fun _ _ => rfl)))
    (pss_cons (ps_if (PW.pt (pw_or (pt_not (pt_val (pe_callB call_isi rfl M.isi (by decide +kernel) (pa_cons (pv 3) (pa_cons (pe_bltn (v := .ty "int") rfl M.int (by decide +kernel) rfl) pa_nil))))) (pw_or (pt_not (pt_chain op_le op_le pe_int (pv 3) (pe_callB call_len_str rfl M.len PySem.boot_len (pa_cons (pv 1) pa_nil)))) (pw_or1 (pt_not (pt_val (pe_call D_law_is_beginning.ok (hr.mono (by omega)) rfl D_law_is_beginning.g D_law_is_beginning.kp D_law_is_beginning.b .nil pass0 (pa_cons (pe_slice sl_str (pv 1) po_none (po_some (pv 3))) pa_nil))))))))
      (pss_one (ps_ret pe_bl)) pss_nil)
    (pss_cons (ps_if (pt_cmpR op_eq (pv 3) (pe_callB call_len_str rfl M.len PySem.boot_len (pa_cons (pv 1) pa_nil)) (nomark _))
      (pss_one (ps_ret pe_bl)) pss_nil)
    (pss_cons (ps_set (i := 4) sc__law_right.nd rfl (.inl rfl) (pe_lst (pa_cons pe_str (pa_cons pe_str (pa_cons pe_str (pa_cons pe_str (pa_cons (pe_call D_law_one.ok (hr.mono (by omega)) rfl D_law_one.g D_law_one.kp D_law_one.b .nil pass0 (pa_cons (pv 0) (pa_cons (pe_lst (pa_cons pe_str (pa_cons pe_str (pa_cons pe_str (pa_cons pe_str pa_nil))))) pa_nil))) pa_nil)))))))
    (pss_one (ps_ret (pe_cmpR (op_eqL hr.units0) (pe_lc (own := [("_law_tail", 5)]) (g := gName 5) rfl sc__law_right.nd (pi_list (pv 4)) (blkOk_by (N := ["_law_deck_here", "_law_value", "_law_found", "_law_place", "_law_tails", "_law_tail"]) (sc := defScope s__law_right) (by decide +kernel)) (fun _ _ _ _ _ => (pg_name (i := 5) sc__law_right.nd rfl (.inl rfl))) (fun _ _ _ _ _ => pts_one (pt_cmpR (show OpR _ (compareOp .NotEq) (rNeD K) from op_neD hr.units) (pe_call D_law_tried.ok (hr.mono (by omega)) rfl D_law_tried.g D_law_tried.kp D_law_tried.b .nil pass0 (pa_cons (pe_op op_add_str (pe_slice sl_str (pv 1) po_none (po_some (pe_op op_add (pv 3) pe_int))) (pv 5)) (pa_cons pe_bl pa_nil))) (pe_lst (pa_cons pe_str (pa_cons (pv 3) pa_nil))) (nomark _))) (fun _ _ _ _ _ => (pv 5))) (pe_lst pa_nil) (nomark _))))))))))), ?_⟩
  have lt : (tx t).length ≤ sizeLine := Nat.le_trans (show (tx t).length ≤ 2100 from ht) (by decide)
  refine ⟨_, rfl, t, false, rfl, by omega, fun p H1 s1 a1 => ?_⟩
  refine ⟨_, rfl, t, true, rfl, by omega, fun p2 H2 s2 a2 => ?_⟩
  have a1' := a1.same s2
  refine ⟨_, rfl, .ref p2, .ref p, trD (parsed t), rfl, a2.dp, a1'.dp, (tr_ok t).1, (tr_ok t).2, fun H3 s3 => ⟨_, rfl, iteF ?_⟩⟩
  have a3 := a1'.same s3
  have sA := s1.trans (s2.trans s3)
  cases hp : parsed t with
  | tree x =>
    rw [hp] at a3
    obtain ⟨v, e3, av⟩ := a3
    obtain ⟨x0, x1, x2, _, x3⟩ := parsed_text hp
    have xd := x.deep_le
    refine ⟨_, rfl, p, _, 0, _, rfl, rfl, SqL.of e3, atI_nat (j := 0) rfl, rfl, _, rfl, iteT ?_⟩
    refine ⟨_, rfl, p, _, 1, v, rfl, rfl, SqL.of e3, atI_nat (j := 1) rfl, v, x, rfl, av, x1, x2, x3, fun H4 s4 => ?_⟩
    refine ⟨true, true, rfl, rfl, _, rfl, iteT ?_⟩
    refine ⟨_, rfl, p, _, 1, v, rfl, rfl, SqL.of (s4 _ _ e3), atI_nat (j := 1) rfl, v, x, rfl, av.same s4, x1, x2, by omega, by omega, _, rfl, rfl, ?_⟩
    have e : x.text = tx t := by
      unfold T.text
      rw [x0]
    rw [e, decide_eq_true rfl]
    exact q n H4 (dk.same (sA.trans s4)) (by omega) (SameD.of (sA.trans s4))
  | bad i =>
    rw [hp] at a3
    have e3 : H3 p = some (.lst [.str "bad", .int (i : Int)]) := a3
    obtain ⟨b1, b2, b3⟩ := bad_cut hp
    have d3 := dk.same sA
    refine ⟨_, rfl, p, _, 0, _, rfl, rfl, SqL.of e3, atI_nat (j := 0) rfl, rfl, _, rfl, ?_⟩
    rw [decide_eq_false bad_told]
    refine iteF ?_
    refine ⟨_, rfl, p, _, 1, _, rfl, rfl, SqL.of e3, atI_nat (j := 1) rfl, ?_⟩
    refine ⟨_, rfl, _, _, _, _, true, rfl, .ty _, .base (.int _), kit_ty (by decide +kernel), _, rfl, iteF ?_⟩
    refine ⟨_, rfl, _, _, rfl, rfl, _, rfl, ?_⟩
    rw [decide_eq_true (show (0 : Int) ≤ (i : Int) by omega)]
    refine iteT ⟨_, rfl, tx t, rfl, lt, _, _, rfl, rfl, _, rfl, ?_⟩
    rw [decide_eq_true (show (i : Int) ≤ ((tx t).length : Int) by rw [tx_len]; omega)]
    refine iteF ?_
    refine ⟨_, rfl, _, rfl, _, rfl, tx t, rfl, lt, t.take i, by rw [cut_tx]; rfl, by rw [List.length_take]; omega, by rw [List.length_take, Nat.min_eq_left b1]; exact b2, fun H4 s4 => ⟨_, rfl, iteF ?_⟩⟩
    have d4 := d3.same s4
    have sB := sA.trans s4
    refine ⟨_, rfl, _, rfl, tx t, rfl, lt, rfl, _, rfl, ?_⟩
    by_cases hi : i = t.length
    · rw [decide_eq_true (show V.int (i : Int) = V.int ((tx t).length : Int) by rw [tx_len, hi])]
      exact iteT (q n H4 d4 (by omega) (SameD.of sB))
    · rw [decide_eq_false (show ¬ (V.int (i : Int) = V.int ((tx t).length : Int)) from fun z => hi (by have := V.int.inj z; rw [tx_len] at this; omega))]
      refine iteF ?_
      have hil : i < t.length := by omega
      refine ⟨_, rfl, (by show 4 ≤ sizeLine; decide), fun la nla => ?_⟩
      have k5 := same_new nla (.lst [.str "(b", .str "-)", .str " ", .str "x,y)"])
      refine ⟨D, n, la, ["(b", "-)", " ", "x,y)"], rfl, d4.same k5, by omega, upd_same, d4.new nla, by decide, by decide, fun y H6 hy d6 s6 => ?_⟩
      have hyl : y.length ≤ 4 := by
        have : ∀ x ∈ (["(b", "-)", " ", "x,y)"] : List Str), x.length ≤ 4 := by decide +kernel
        exact this y hy
      have sC := (SameD.of (D := D) (sB.trans k5)).trans s6
      refine ⟨(by show 5 ≤ sizeLine; decide), fun lb nlb => ?_⟩
      have k7 := same_new nlb (.lst [.str "", .str "a", .str ",", .str ")", .str y])
      have eb := upd_same (H := H6) (a := lb) (o := .lst [.str "", .str "a", .str ",", .str ")", .str y])
      have d7 := d6.same k7
      have sD := sC.trans (SameD.of k7)
      have short : ∀ v ∈ [V.str "", V.str "a", V.str ",", V.str ")", V.str y], ∃ z : Str, v = .str z ∧ z.length ≤ 4 := by
        intro v hv
        simp only [List.mem_cons, List.mem_nil_iff, or_false] at hv
        rcases hv with rfl | rfl | rfl | rfl | rfl
        · exact ⟨_, rfl, by decide +kernel⟩
        · exact ⟨_, rfl, by decide +kernel⟩
        · exact ⟨_, rfl, by decide +kernel⟩
        · exact ⟨_, rfl, by decide +kernel⟩
        · exact ⟨_, rfl, hyl⟩
      generalize upd H6 lb (.lst [.str "", .str "a", .str ",", .str ")", .str y]) = H7 at k7 eb d7 sD ⊢
      generalize [V.str "", V.str "a", V.str ",", V.str ")", V.str y] = W at eb short ⊢
      refine ⟨_, rfl, lb, rfl, ⟨_, SqL.of eb⟩, fun L nL => ?_⟩
      have k8 := same_new nL (.lst [])
      refine lc_list (K := K) (a := lb) (xs := W) (fun j H' => Same (upd H7 L (.lst [])) H') (Same.refl _) (fun j H' _ hp => SqL.of (hp _ _ (k8 _ _ eb))) (fun j v H8 hv hp8 => ?_) (fun H8 hp8 => ?_)
      · obtain ⟨z, rfl, hz⟩ := short v (List.mem_of_getElem? hv)
        have lz : (cutS (tx t) none (some ((i : Int) + 1))).length + z.length ≤ sizeLine := by
          have := cutS_length (tx t) none (some ((i : Int) + 1))
          rw [tx_len] at this
          exact small2 (by omega)
        refine ⟨rfl, _, rfl, _, rfl, _, _, rfl, rfl, _, rfl, tx t, rfl, lt, _, rfl, _, _, rfl, rfl, lz, ?_⟩
        have ez : cutS (tx t) none (some ((i : Int) + 1)) ++ z = tx (t.take (i + 1) ++ z.cps.toList) := by
          rw [show (i : Int) + 1 = ((i + 1 : Nat) : Int) by omega, cut_tx]
          exact tx_app _ z.cps.toList
        have hzl : z.cps.toList.length ≤ 4 := hz
        have hb3 := b3 hil z.cps.toList
        refine ⟨t.take (i + 1) ++ z.cps.toList, false, by rw [ez]; rfl, by rw [List.length_append, List.length_take]; omega, fun p5 H9 s9 a9 => ?_⟩
        rw [hb3] at a9
        have e9 : H9 p5 = some (.lst [.str "bad", .int (i : Int)]) := a9
        refine ⟨_, rfl, (by show 2 ≤ sizeLine; decide), fun r nr => ?_⟩
        have k10 := same_new nr (.lst [.str "bad", .int (i : Int)])
        have sh : SeqAt.shaped (trD (.bad i)) = true := by
          unfold SeqAt.shaped trD
          simp [PyData.canLay0, PyData.canLayAll0, PyData.depth, PyData.depthAll]
          decide +kernel
        have cl : (trD (.bad i)).canLay0 = true := by
          unfold trD
          simp [PyData.canLay0, PyData.canLayAll0]
          decide +kernel
        refine ⟨trD (.bad i), trD (.bad i), .lst (SqL.of (k10 _ _ e9)) (.cons (.str _) (.cons (.int _) .nil)), .lst (SqL.of upd_same) (.cons (.str _) (.cons (.int _) .nil)), sh, sh, ?_⟩
        rw [PySem.SeqAt.eqv_refl _ cl]
        exact ⟨_, rfl, hp8.trans (s9.trans k10)⟩
      · refine ⟨(by show 0 ≤ sizeLine; decide), fun l2 nl2 => ?_⟩
        have k10 := same_new nl2 (.lst [])
        refine ⟨L, l2, [], rfl, rfl, SqL.of (k10 _ _ (hp8 _ _ upd_same)), SqL.of upd_same, ?_⟩
        have sE := (k8.trans hp8).trans k10
        exact q (n + 1) _ (d7.same sE) (by omega) (sD.trans (SameD.of sE))
end
/-! ### _law_joined_right -/
theorem pe_callP {X : Cx} {CX : CXT} {k : Nat} {f : Addr} {sp : Sp} {E : XK} {x : Str} {e : Expr} {es : List Expr} {t : TA} {p pos : Pos} (F : FnR X.prog X.w X.K X.mg X.base CX k f sp) (hr : Room k X.A) (hk : PySem.W.keepIn X.K (.ref f) = true) (hg : Gl X x) (hm : X.mg x = some (.ref f)) (hx : Passes CX X E)
    (ha : PA X (e :: es) t) (hd : (x == ("__debug__" : Str)) = false := by decide) (he : starEach (e :: es) X.env = (false, eval e X.env) :: starEach es X.env := by rfl) (hpl : (backTo pos (starEach es X.env)).any (·.1) = false := by rfl) :
    PE X (.Call (.Name x p) (e :: es) [] pos) (fun σ H Q => t σ H fun vs H1 => sp vs H1 Q E) :=
  ⟨fun pins s σ H Q I h => wpAny_Call_Name_kw (ld_glob I hg hm (PySem.W.callWith_K (h₀ := X.base) I.ok.mod.kin hk (thn (ha.run pos pins s σ H _ I h) fun us s1 ⟨vs, H1, I1, r, q⟩ => ⟨I1.kIn, wpAny_call (run_fnR F hr hx I1 r q)⟩) he hpl) hd)⟩
theorem map_sg (l : List Nat) : (l.map fun c => V.str ⟨#[c]⟩) = (l.map fun c => (⟨#[c]⟩ : Str)).map V.str := by rw [List.map_map]; rfl
theorem tx_drop1 (l : List Nat) : cutS (tx l) (some ((1 : Nat) : Int)) none = tx (l.drop 1) := by
  unfold cutS tx
  show (⟨_⟩ : Str) = ⟨_⟩
  rw [HT.sIx_nat]
  show (⟨((l.drop (min 1 l.length)).take (l.length - min 1 l.length)).toArray⟩ : Str) = _
  rw [List.take_of_length_le (by rw [List.length_drop]; exact Nat.le_refl _)]
  cases l with
  | nil => rfl
  | cons c l => rw [show min 1 (c :: l).length = 1 from Nat.min_eq_left (by simp)]
theorem both_nil {t1 t2 : T} (h1 : t1.lt) (h2 : t2.lt) : 40 :: (t1.cs ++ 44 :: (t2.cs ++ [41])) = [40, 45, 44, 45, 41] ↔ t1 = .nil ∧ t2 = .nil := by
  constructor
  · intro h
    injection h with _ h
    by_cases n1 : t1 = .nil
    · subst n1
      refine ⟨rfl, ?_⟩
      have h : 45 :: 44 :: (t2.cs ++ [41]) = [45, 44, 45, 41] := h
      injection h with _ h
      injection h with _ h
      by_cases n2 : t2 = .nil
      · exact n2
      · obtain ⟨c, r, e, hc⟩ := head_low h2 n2
        rw [e] at h
        injection h with h _
        rw [h] at hc
        exact absurd hc (by decide)
    · obtain ⟨c, r, e, hc⟩ := head_low h1 n1
      rw [e] at h
      injection h with h _
      rw [h] at hc
      exact absurd hc (by decide)
  · rintro ⟨rfl, rfl⟩
    rfl
theorem str_dd : Str.ofString "(-,-)" = tx [40, 45, 44, 45, 41] := by decide +kernel
theorem str_d : Str.ofString "-" = tx [45] := by decide +kernel
theorem text_lim {t : T} (h : t.lt) (hs : t.size ≤ 12) : t.text.length ≤ 73 := by
  have := cs_len t h
  show t.cs.length ≤ 73
  omega
def spJR : Sp := fun vs H Q _ => ∃ (D : Deck) (n : Nat) (v1 v2 : V) (t1 t2 : T), vs = [.ref D.dk, v1, v2] ∧ DeckOk H D n ∧ n ≤ 999990 ∧ TreeAt H v1 t1 ∧ TreeAt H v2 t2 ∧ t1.lt ∧ t2.lt ∧ t1.size ≤ 12 ∧ t2.size ≤ 12 ∧
  ∀ (n' : Nat) (H' : Hp), DeckOk H' D n' → n' ≤ n + 1 → SameD D H H' → Q (.bl true) H'
theorem pick_v {H : Hp} {v : V} {t : T} (h : TreeAt H v t) : (v = .non ∧ t = .nil) ∨ (v ≠ .non ∧ t ≠ .nil) := by
  rcases h.inv with ⟨rfl, rfl⟩ | ⟨a, vl, vr, x, tl, tr, rfl, rfl, _⟩
  · exact .inl ⟨rfl, rfl⟩
  · exact .inr ⟨fun z => (nomatch z), fun z => nomatch z⟩
section
variable {P : Program} {w : World} {K : PySem.W.Frag} {mg : Str → Option Value} {base : Heap} {f : Addr} {fd : FuncData}
theorem ok_jr (F : Fun K "_law_joined_right" "_law_joined_right" s__law_joined_right f fd) (M : Mgs mg) (Dsize_of : Df P w K mg base 20 "size_of" ["tree"] (spSz 20)) (Dtree_text : Df P w K mg base 40 "tree_text" ["tree"] (spText 20)) (Djoined : DfR P w K mg base 21 "joined" spJoined) (D_law_one : Df P w K mg base 2 "_law_one" ["_law_deck_here", "_law_items"] spOne) :
    FnOk P w K mg base CX0 41 f fd ["_law_deck_here", "_law_one_here", "_law_other"] spJR := by
  refine F.ok (k := 40) sc__law_joined_right (fun vs H Q E h => ?_) (fun cdv A0 outer s H vs Q E hr h => ?_)
  · obtain ⟨D, n, v1, v2, t1, t2, rfl, _⟩ := h
    rfl
  obtain ⟨D, n, v1, v2, t1, t2, rfl, dk, hn, h1, h2, l1, l2, z1, z2, q⟩ := h
  refine ⟨_, (pss_cons (ps_if (pt_cmpR op_gt (pe_op op_add (pe_call Dsize_of.ok (hr.mono (by omega)) rfl Dsize_of.g Dsize_of.kp Dsize_of.b .nil pass0 (pa_cons (pv 1) pa_nil)) (pe_call Dsize_of.ok (hr.mono (by omega)) rfl Dsize_of.g Dsize_of.kp Dsize_of.b .nil pass0 (pa_cons (pv 2) pa_nil))) pe_int (nomark _))
      (pss_one (ps_ret pe_bl)) pss_nil)
    (pss_cons (ps_set (i := 3) sc__law_joined_right.nd rfl (.inl rfl) (pe_call D_law_one.ok (hr.mono (by omega)) rfl D_law_one.g D_law_one.kp D_law_one.b .nil pass0 (pa_cons (pv 0) (pa_cons (pe_callTy (call_signs rfl) rfl M.list (by decide +kernel) (pa_cons pe_str pa_nil)) pa_nil))))
    (pss_cons (ps_setLc (i := 5) (own := [("_law_part", 4)]) (g := gName 4) (tt := tYes) (by rfl) sc__law_joined_right.nd rfl rfl (sw_true rfl rfl rfl (by decide +kernel)) (pi_tup (pe_tup (pa_cons (pv 1) (pa_cons (pv 2) pa_nil)))) (blkOk_by (N := ["_law_deck_here", "_law_one_here", "_law_other", "_law_label", "_law_part", "_law_words", "_law_due"]) (sc := defScope s__law_joined_right) (by decide +kernel)) (fun _ _ _ _ _ => (pg_name (i := 4) sc__law_joined_right.nd rfl (.inl rfl))) (fun _ _ _ _ _ => pts_nil) (fun _ _ _ _ _ => (pe_ifExp (pt_cmpR op_notN (pv 4) pe_non (nomark _)) (pe_call Dtree_text.ok (hr.mono (by omega)) rfl Dtree_text.g Dtree_text.kp Dtree_text.b .nil pass0 (pa_cons (pv 4) pa_nil)) pe_str)))
    (pss_cons (ps_set (i := 6) sc__law_joined_right.nd rfl (.inl rfl) (pe_op op_add_str (pe_op op_add_str (pe_op op_add_str (pe_op op_add_str (pe_op op_add_str (pv 3) pe_str) (pe_ix ix_list (pv 5) pe_int (fun _ _ => rfl))) pe_str) (pe_ix ix_list (pv 5) pe_int (fun _ _ => rfl))) pe_str))
    (pss_one (ps_ret (pe_cmpR op_eq (pe_call Dtree_text.ok (hr.mono (by omega)) rfl Dtree_text.g Dtree_text.kp Dtree_text.b .nil pass0 (pa_cons (pe_callP (E := E0) Djoined.ok (hr.mono (by omega)) Djoined.kp rfl Djoined.g pass0 (pa_cons (pv 3) (pa_cons (pv 1) (pa_cons (pv 2) pa_nil)))) pa_nil)) (pe_ifExp (pt_cmpR op_eq (pe_slice sl_str (pv 6) (po_some pe_int) po_none) pe_str (nomark _)) (pv 3) (pv 6)) (nomark _)))))))), ?_⟩
  have x1 := text_lim l1 z1
  have x2 := text_lim l2 z2
  have d1 := t1.deep_le
  have d2 := t2.deep_le
  refine ⟨_, rfl, _, _, rfl, h1, by omega, _, rfl, _, _, rfl, h2, by omega, _, _, rfl, rfl, _, _, rfl, rfl, _, rfl, ?_⟩
  by_cases hz : t1.size + t2.size > 11
  · rw [decide_eq_true (show ((t1.size : Int) + (t2.size : Int)) > 11 by omega)]
    exact iteT (q n H dk (by omega) (SameD.refl D H))
  rw [decide_eq_false (show ¬ (((t1.size : Int) + (t2.size : Int)) > 11) by omega)]
  refine iteF ?_
  refine ⟨_, rfl, _, rfl, by decide +kernel, fun la nla => ?_⟩
  rw [map_sg] at *
  have k1 := same_new nla (.lst (((Str.ofString "acz").cps.toList.map fun c => (⟨#[c]⟩ : Str)).map V.str))
  refine ⟨D, n, la, _, rfl, dk.same k1, by omega, upd_same, dk.new nla, by decide +kernel, by decide +kernel, fun y H2 hy d2' s2 => ?_⟩
  obtain ⟨c, hc, rfl⟩ := List.mem_map.mp hy
  have hlt : Ltr ⟨#[c]⟩ := by
    have : ∀ c ∈ (Str.ofString "acz").cps.toList, 97 ≤ c ∧ c ≤ 122 := by decide +kernel
    exact ⟨c, (this c hc).1, (this c hc).2, rfl⟩
  have sA := (SameD.of (D := D) k1).trans s2
  have kt := (Tw.Same.keepT k1).trans (s2.keepT (dk.same k1))
  have h1' := h1.keep kt
  have h2' := h2.keep kt
  refine ⟨_, rfl, _, rfl, (by show 2 ≤ sizeLine; decide), fun tp ntp => ?_⟩
  have k3 := same_new ntp (.tup [v1, v2])
  refine ⟨tp, rfl, ⟨_, SqT.of upd_same⟩, fun L nL => ?_⟩
  have k4 := same_new nL (.lst [])
  have k34 := k3.trans k4
  refine lc_tup (K := K) (a := tp) (xs := [v1, v2]) (fun j H' => Same (upd H2 tp (.tup [v1, v2])) H' ∧ H' L = some (.lst (([V.str t1.text, .str t2.text]).take j))) ⟨k4, upd_same⟩ (fun j H' _ hp => SqT.of (hp.1 _ _ upd_same)) (fun j v H3 hv hp => ?_) (fun H3 hp => ?_)
  · obtain ⟨s3, e3⟩ := hp
    obtain ⟨t, ht, hl, hs, hk⟩ : ∃ t : T, TreeAt H3 v t ∧ t.lt ∧ t.size ≤ 12 ∧ ([V.str t1.text, .str t2.text])[j]? = some (.str t.text) := by
      match j, hv with
      | 0, h => cases h; exact ⟨t1, h1'.same (k3.trans s3), l1, z1, rfl⟩
      | 1, h => cases h; exact ⟨t2, h2'.same (k3.trans s3), l2, z2, rfl⟩
    have td := t.deep_le
    have fin : ∀ b o, upd H2 tp (.tup [v1, v2]) b = some o → (upd H3 L (.lst (([V.str t1.text, .str t2.text]).take j ++ [.str t.text]))) b = some o := fun b o e => by
      rw [upd_ne (ne_of_none e nL)]
      exact s3 _ _ e
    have lj : (([V.str t1.text, .str t2.text]).take j).length < sizeLine := by
      rw [List.length_take]
      exact small1000 (by have := Nat.min_le_right j 2; show min j 2 ≤ _; omega)
    have ej : (upd H3 L (.lst (([V.str t1.text, .str t2.text]).take j ++ [.str t.text]))) L = some (.lst (([V.str t1.text, .str t2.text]).take (j + 1))) := by
      rw [upd_same, List.take_add_one, hk]
      rfl
    refine ⟨rfl, kept ?_⟩
    refine ⟨_, rfl, rfl, _, rfl, ?_⟩
    rcases pick_v ht with ⟨rfl, rfl⟩ | ⟨nv, nt⟩
    · refine iteNS rfl ⟨_, e3, lj, ?_⟩
      rw [str_d]
      exact ⟨fin, ej⟩
    · rw [decide_eq_false nv]
      exact iteT ⟨_, rfl, v, t, rfl, ht, nt, hl, by omega, by omega, _, e3, lj, fin, ej⟩
  · obtain ⟨s3, e3⟩ := hp
    have e3 : H3 L = some (.lst [.str t1.text, .str t2.text]) := e3
    have sB := k3.trans s3
    have h1'' := h1'.same sB
    have h2'' := h2'.same sB
    have d3 := d2'.same sB
    refine ⟨_, rfl, _, _, rfl, rfl, (by exact small2 (by show 1 + 1 ≤ 5000; omega)), ?_⟩
    refine ⟨_, rfl, L, _, 0, _, rfl, rfl, SqL.of e3, atI_nat (j := 0) rfl, _, _, rfl, rfl, ?_, ?_⟩
    · rw [strLen_append]
      exact small2 (by show (1 + 1) + _ ≤ 5000; omega)
    refine ⟨_, _, rfl, rfl, ?_, ?_⟩
    · rw [strLen_append, strLen_append]
      exact small2 (by show (1 + 1) + _ + 1 ≤ 5000; omega)
    refine ⟨_, rfl, L, _, 1, _, rfl, rfl, SqL.of e3, atI_nat (j := 1) rfl, _, _, rfl, rfl, ?_, ?_⟩
    · rw [strLen_append, strLen_append, strLen_append]
      exact small2 (by show (1 + 1) + _ + 1 + _ ≤ 5000; omega)
    refine ⟨_, _, rfl, rfl, ?_, ?_⟩
    · rw [strLen_append, strLen_append, strLen_append, strLen_append]
      exact small2 (by show (1 + 1) + _ + 1 + _ + 1 ≤ 5000; omega)
    have edue : (((((⟨#[c]⟩ : Str) ++ Str.ofString "(") ++ t1.text) ++ Str.ofString ",") ++ t2.text) ++ Str.ofString ")" = tx (c :: 40 :: (t1.cs ++ 44 :: (t2.cs ++ [41]))) := by
      rw [str_par1, str_com, str_par2]
      show (((((tx [c]) ++ tx [40]) ++ tx t1.cs) ++ tx [44]) ++ tx t2.cs) ++ tx [41] = _
      simp only [tx_app]
      simp
    rw [edue]
    refine ⟨_, rfl, _, rfl, _, rfl, [.str ⟨#[c]⟩], [v1, v2], rfl, rfl, (by show 2 ≤ sizeLine; decide), fun p np => ?_⟩
    have k5 := same_new np (.tup [v1, v2])
    refine ⟨_, p, v1, v2, t1, t2, rfl, upd_same, h1''.same k5, h2''.same k5, by omega, fun r H4 s4 a4 => ?_⟩
    have hsz : (T.node t1 ⟨#[c]⟩ t2).size = t1.size + 1 + t2.size := rfl
    have hdp := (T.node t1 ⟨#[c]⟩ t2).deep_le
    have hl4 : (T.node t1 ⟨#[c]⟩ t2).lt := fun z hz => by
      rcases List.mem_append.mp hz with hz | hz
      · exact l1 z hz
      · rcases List.mem_cons.mp hz with rfl | hz
        · exact hlt
        · exact l2 z hz
    refine ⟨r, _, rfl, a4, (fun z => nomatch z), hl4, by omega, by omega, ?_⟩
    have ll : (tx (c :: 40 :: (t1.cs ++ 44 :: (t2.cs ++ [41])))).length ≤ sizeLine := small2 (by
      have y1 : t1.cs.length ≤ 73 := x1
      have y2 : t2.cs.length ≤ 73 := x2
      rw [tx_len]
      simp only [List.length_cons, List.length_append, List.length_nil]
      omega)
    have fin := q (n + 1) H4 ((d3.same k5).same s4) (by omega) ((sA.trans (SameD.of sB)).trans (SameD.of (k5.trans s4)))
    refine ⟨_, rfl, _, rfl, _, rfl, ll, rfl, _, rfl, ?_⟩
    have ecut : cutS (tx (c :: 40 :: (t1.cs ++ 44 :: (t2.cs ++ [41])))) (some 1) none = tx (40 :: (t1.cs ++ 44 :: (t2.cs ++ [41]))) := tx_drop1 _
    rw [ecut, str_dd]
    by_cases hb : t1 = .nil ∧ t2 = .nil
    · have e := (both_nil l1 l2).mpr hb
      rw [e, decide_eq_true rfl]
      refine iteT ⟨_, rfl, rfl, ?_⟩
      obtain ⟨rfl, rfl⟩ := hb
      have e5 : (T.node .nil ⟨#[c]⟩ .nil).text = ⟨#[c]⟩ := rfl
      rw [e5, decide_eq_true rfl]
      exact fin
    · rw [decide_eq_false (show ¬ (V.str (tx (40 :: (t1.cs ++ 44 :: (t2.cs ++ [41])))) = V.str (tx [40, 45, 44, 45, 41])) from fun z => hb ((both_nil l1 l2).mp (tx_inj (V.str.inj z))))]
      refine iteF ⟨_, rfl, rfl, ?_⟩
      have e5 : (T.node t1 ⟨#[c]⟩ t2).text = tx (c :: 40 :: (t1.cs ++ 44 :: (t2.cs ++ [41]))) := by
        unfold T.text
        rw [cs_node _ hb]
        rfl
      rw [e5, decide_eq_true rfl]
      exact fin
end
/-! ### law -/
theorem cs_small : ∀ t : T, t.lt → ∀ c ∈ t.cs, c < 128
  | .nil, _, c, hc => by
    rcases List.mem_singleton.mp (show c ∈ [45] from hc) with rfl
    decide
  | .node l x r, h, c, hc => by
    obtain ⟨h1, hx0, h3⟩ := T.lt_node h
    have hx : ∀ c ∈ x.cps.toList, c < 128 := by
      obtain ⟨z, z1, z2, rfl⟩ := hx0
      intro c hc
      rcases List.mem_singleton.mp (show c ∈ [z] from hc) with rfl
      omega
    by_cases e : l = .nil ∧ r = .nil
    · obtain ⟨rfl, rfl⟩ := e
      rw [cs_leaf] at hc
      exact hx c hc
    · rw [cs_node _ e] at hc
      rcases List.mem_append.mp hc with hc | hc
      · exact hx c hc
      rcases List.mem_cons.mp hc with rfl | hc
      · decide
      rcases List.mem_append.mp hc with hc | hc
      · exact cs_small l h1 c hc
      rcases List.mem_cons.mp hc with rfl | hc
      · decide
      rcases List.mem_append.mp hc with hc | hc
      · exact cs_small r h3 c hc
      · rcases List.mem_singleton.mp hc with rfl
        decide
theorem pick5 {i : Nat} (h : i < 5) : ∃ lim : Nat, atI [V.int 12, V.int 12, V.int 5, V.int 3, V.int 8] (0 + (i : Int)) = some (.int (lim : Int)) ∧ 1 ≤ lim ∧ lim ≤ 12 := by
  have : i = 0 ∨ i = 1 ∨ i = 2 ∨ i = 3 ∨ i = 4 := by omega
  rcases this with rfl | rfl | rfl | rfl | rfl
  · exact ⟨12, rfl, by decide, by decide⟩
  · exact ⟨12, rfl, by decide, by decide⟩
  · exact ⟨5, rfl, by decide, by decide⟩
  · exact ⟨3, rfl, by decide, by decide⟩
  · exact ⟨8, rfl, by decide, by decide⟩
def spOneV : Sp := fun vs H Q _ => ∃ (D : Deck) (n : Nat) (p : Addr) (xs : List V), vs = [.ref D.dk, .ref p] ∧ DeckOk H D n ∧ n ≤ 1000000 ∧ H p = some (.lst xs) ∧ Off D p ∧ 0 < xs.length ∧ xs.length ≤ 1000 ∧
  ∀ (v : V) (H' : Hp), v ∈ xs → DeckOk H' D (n + 1) → SameD D H H' → Q v H'
/-- a tree of the law, or none -/
def TrV (H : Hp) (v : V) : Prop := ∃ t : T, TreeAt H v t ∧ t.lt ∧ t.size ≤ 12
theorem TrV.keep {H H' : Hp} (k : KeepT H H') {v : V} (h : TrV H v) : TrV H' v := by
  obtain ⟨t, h1, h2⟩ := h
  exact ⟨t, h1.keep k, h2⟩
section
variable {P : Program} {w : World} {K : PySem.W.Frag} {mg : Str → Option Value} {base : Heap} {f : Addr} {fd : FuncData} {CB : Addr}
theorem ok_oneV (F : Fun K "_law_one" "_law_one" s__law_one f fd) (M : Mgs mg) (D_law_next : Df P w K mg base 1 "_law_next" ["_law_deck_here", "_law_many"] spNext) : FnOk P w K mg base CX0 2 f fd ["_law_deck_here", "_law_items"] spOneV := by
  refine F.ok sc__law_one (fun vs H Q E h => ?_) (fun cdv A outer s H vs Q E hr h => ?_)
  · obtain ⟨D, n, p, xs, rfl, _⟩ := h
    rfl
  obtain ⟨D, n, p, xs, rfl, d, hn, ep, op, x0, x1, q⟩ := h
  refine ⟨_, (pss_one (ps_ret (pe_ix ix_list (pv 1) (pe_call D_law_next.ok (hr.mono (by omega)) rfl D_law_next.g D_law_next.kp D_law_next.b .nil pass0 (pa_cons (pv 0) (pa_cons (pe_callB call_len_seq rfl M.len PySem.boot_len (pa_cons (pv 1) pa_nil)) pa_nil))) (fun _ _ => rfl)))), ?_⟩
  refine ⟨_, rfl, _, rfl, _, rfl, p, _, rfl, .inl (SqL.of ep), D, n, _, rfl, d, hn, by omega, by omega, fun i H' i0 i1 d1 s1 => ?_⟩
  obtain ⟨j, rfl⟩ := Int.eq_ofNat_of_zero_le i0
  have hj : j < xs.length := by omega
  exact ⟨p, _, _, _, rfl, rfl, SqL.of (s1.at op ep), atI_nat (List.getElem?_eq_getElem hj), q _ _ (List.getElem_mem hj) d1 s1⟩
theorem run_law {s : Shared} {H : Hp} {a : Addr} {ns : List Int} (F : Fun K "law" "law" s_law f fd) (bd : BindsTo s fd ⟨[.ref a], []⟩ [("_law_script", .ref a)]) (en : Env0 P w K mg base callerA [] s H) (hS : SqL K H a (ns.map V.int))
    (M : Mgs mg) (D_law_deck : Df P w K mg base 1 "_law_deck" ["_law_script"] (spDeck K)) (D_law_same : Df P w K mg base 20 "_law_same" ["_law_found", "_law_due"] (spSame K 20)) (D_law_tree : Df P w K mg base 29 "_law_tree" ["_law_deck_here", "_law_limit"] spTree)
    (D_law_one : Df P w K mg base 2 "_law_one" ["_law_deck_here", "_law_items"] spOneV) (Dtree_text : Df P w K mg base 40 "tree_text" ["tree"] (spText 20)) (Dparse_tree : DfX P w K mg base 60 "parse_tree" ["text"] (spParse K CB))
    (D_law_bent : Df P w K mg base 3 "_law_bent" ["_law_deck_here", "_law_text"] spBent) (D_law_is_beginning : Df P w K mg base 63 "_law_is_beginning" ["_law_text"] spBeg) (D_law_right : Df P w K mg base 64 "_law_right" ["_law_deck_here", "_law_value"] spRight)
    (D_law_joined_right : Df P w K mg base 41 "_law_joined_right" ["_law_deck_here", "_law_one_here", "_law_other"] spJR) :
    codeAny (model P w) callerA (.call (.ref f) ⟨[.ref a], []⟩) (CR CX0 [] P w H s (fun v _ => v = .bl true) fun _ _ _ => False) s := by
  refine enter_def (k := 65) (vs := [.ref a]) (us := [.ref a]) F sc_law ⟨rfl, by decide, by decide⟩ en bd (.cons rfl .nil) rfl fun cdv hr => ?_
  have hu := hr.units
  refine ⟨_, (pss_cons (ps_set (i := 1) sc_law.nd rfl (.inl rfl) (pe_call D_law_deck.ok (hr.mono (by omega)) rfl D_law_deck.g D_law_deck.kp D_law_deck.b .nil pass0 (pa_cons (pv 0) pa_nil)))
    (pss_cons (ps_for PassesOwn.never rfl (pi_range1 rfl M.range (pa_cons pe_int pa_nil)) (pg_name (i := 2) sc_law.nd rfl (.inl rfl))
      (pss_cons (ps_set (i := 3) sc_law.nd rfl (.inl rfl) (pe_call D_law_tree.ok (hr.mono (by omega)) rfl D_law_tree.g D_law_tree.kp D_law_tree.b .nil pass0 (pa_cons (pv 1) (pa_cons (pe_ix ix_list (pe_lst (pa_cons pe_int (pa_cons pe_int (pa_cons pe_int (pa_cons pe_int (pa_cons pe_int pa_nil)))))) (pv 2) (fun _ _ => rfl)) pa_nil))))
    (pss_cons (ps_par (i := 4) (j := 5) (by rfl) sc_law.nd rfl rfl (by decide) rfl rfl (pa_cons (pe_call Dtree_text.ok (hr.mono (by omega)) rfl Dtree_text.g Dtree_text.kp Dtree_text.b .nil pass0 (pa_cons (pv 3) pa_nil)) (pa_cons (pe_lst (pa_cons pe_non (pa_cons (pv 3) (pa_cons (pe_call D_law_tree.ok (hr.mono (by omega)) rfl D_law_tree.g D_law_tree.kp D_law_tree.b .nil pass0 (pa_cons (pv 1) (pa_cons pe_int pa_nil))) pa_nil)))) pa_nil)) (by rfl))
    (pss_cons (ps_if (pt_not (pt_val (pe_call D_law_same.ok (hr.mono (by omega)) rfl D_law_same.g D_law_same.kp D_law_same.b .nil pass0 (pa_cons (pe_call Dparse_tree.ok (hr.mono (by omega)) rfl Dparse_tree.g Dparse_tree.kp Dparse_tree.b .nil passX (pa_cons (pv 4) pa_nil)) (pa_cons (pv 3) pa_nil)))))
      (pss_one (ps_ret pe_bl)) pss_nil)
    (pss_cons (ps_for PassesOwn.never rfl (pi_range1 rfl M.range (pa_cons (pe_callB call_len_str rfl M.len PySem.boot_len (pa_cons (pv 4) pa_nil)) pa_nil)) (pg_name (i := 6) sc_law.nd rfl (.inl rfl))
      (pss_one (ps_if (pt_not (pt_val (pe_call D_law_is_beginning.ok (hr.mono (by omega)) rfl D_law_is_beginning.g D_law_is_beginning.kp D_law_is_beginning.b .nil pass0 (pa_cons (pe_slice sl_str (pv 4) po_none (po_some (pv 6))) pa_nil))))
      (pss_one (ps_ret pe_bl)) pss_nil)))
    (pss_one (ps_for PassesOwn.never rfl (pi_range1 rfl M.range (pa_cons pe_int pa_nil)) (pg_name (i := 6) sc_law.nd rfl (.inl rfl))
      (pss_cons (ps_set (i := 7) sc_law.nd rfl (.inl rfl) (pe_call D_law_bent.ok (hr.mono (by omega)) rfl D_law_bent.g D_law_bent.kp D_law_bent.b .nil pass0 (pa_cons (pv 1) (pa_cons (pv 4) pa_nil))))
    (pss_cons (ps_set (i := 8) sc_law.nd rfl (.inl rfl) (pe_call D_law_bent.ok (hr.mono (by omega)) rfl D_law_bent.g D_law_bent.kp D_law_bent.b .nil pass0 (pa_cons (pv 1) (pa_cons (pv 7) pa_nil))))
    (pss_cons (ps_for PassesOwn.never rfl (pi_list (pe_lst (pa_cons (pv 7) (pa_cons (pv 8) (pa_cons (pe_call D_law_bent.ok (hr.mono (by omega)) rfl D_law_bent.g D_law_bent.kp D_law_bent.b .nil pass0 (pa_cons (pv 1) (pa_cons (pv 8) pa_nil))) pa_nil))))) (pg_name (i := 9) sc_law.nd rfl (.inl rfl))
      (pss_one (ps_if (pt_not (pt_val (pe_call D_law_right.ok (hr.mono (by omega)) rfl D_law_right.g D_law_right.kp D_law_right.b .nil pass0 (pa_cons (pv 1) (pa_cons (pv 9) pa_nil)))))
      (pss_one (ps_ret pe_bl)) pss_nil)))
    (pss_one (ps_if (pt_not (pt_val (pe_call D_law_joined_right.ok (hr.mono (by omega)) rfl D_law_joined_right.g D_law_joined_right.kp D_law_joined_right.b .nil pass0 (pa_cons (pv 1) (pa_cons (pe_call D_law_one.ok (hr.mono (by omega)) rfl D_law_one.g D_law_one.kp D_law_one.b .nil pass0 (pa_cons (pv 1) (pa_cons (pv 5) pa_nil))) (pa_cons (pe_call D_law_one.ok (hr.mono (by omega)) rfl D_law_one.g D_law_one.kp D_law_one.b .nil pass0 (pa_cons (pv 1) (pa_cons (pv 5) pa_nil))) pa_nil))))))
      (pss_one (ps_ret pe_bl)) pss_nil))))))))))))
    (pss_one (ps_ret pe_bl)))), ?_⟩
  refine ⟨_, rfl, a, ns, rfl, hS, fun D H1 d1 s1 => ?_⟩
  refine ⟨5, rfl, by decide, by decide, ?_⟩
  refine for_range (lo := 0) (n := 5) (fun i σ H' => ∃ (y2 y3 y4 y5 y6 y7 y8 y9 : Option V) (c : Nat), σ = [some (.ref a), some (.ref D.dk), y2, y3, y4, y5, y6, y7, y8, y9] ∧ DeckOk H' D c ∧ c ≤ 300 * i) ⟨none, none, none, none, none, none, none, none, 0, rfl, d1, by omega⟩ (fun i σ H3 hi hp => ?_) (fun σ H3 hp => ?_)
  · obtain ⟨y2, y3, y4, y5, y6, y7, y8, y9, c, rfl, d3, hc⟩ := hp
    obtain ⟨lim, hl, l1, l2⟩ := pick5 hi
    refine ⟨_, rfl, (by show 5 ≤ sizeLine; decide), fun pl npl => ?_⟩
    have k4 := same_new npl (.lst [.int 12, .int 12, .int 5, .int 3, .int 8])
    refine ⟨_, rfl, pl, _, _, _, rfl, rfl, SqL.of upd_same, hl, D, c, lim, rfl, d3.same k4, by omega, l1, by omega, fun v t c4 H4 d4 hc4 s4 at4 t0 t1 tl => ?_⟩
    have td := t.deep_le
    have tlen := cs_len t tl
    have tsm := cs_small t tl
    have tn : t ≠ .nil := fun z => by rw [z] at t0; exact absurd t0 (by show ¬ 1 ≤ 0; omega)
    have lt : t.text.length ≤ sizeLine := small2 (by show t.cs.length ≤ 5000; omega)
    refine ⟨_, rfl, v, t, rfl, at4, tn, tl, by omega, by omega, ?_⟩
    refine ⟨_, rfl, _, rfl, D, c4, 5, rfl, d4, by omega, by omega, by omega, fun v5 t5 c5 H5 d5 hc5 s5 at5 t50 t51 tl5 => ?_⟩
    have at45 := at4.keep (s5.keepT d4)
    refine ⟨(by show 3 ≤ sizeLine; decide), fun va nva => ?_⟩
    have k6 := same_new nva (.lst [.non, v, v5])
    have d6 := d5.same k6
    have ov := d5.new nva
    have ev := upd_same (H := H5) (a := va) (o := .lst [.non, v, v5])
    have at6 := at45.same k6
    have at56 := at5.same k6
    generalize upd H5 va (.lst [.non, v, v5]) = H6 at d6 ev at6 at56 ⊢
    refine ⟨_, _, rfl, ?_⟩
    refine ⟨_, rfl, .inl ⟨t.cs, rfl, by omega, ?_⟩⟩
    rw [parsed_cs tl tn (by omega)]
    intro v7 H7 s7 a7
    have at7 := at6.same s7
    refine ⟨_, rfl, v7, v, t.data, rfl, a7.dp, at7.dp, by rw [T.data_deep]; omega, T.nar_data t, fun H8 s8 => ⟨_, rfl, iteF ?_⟩⟩
    have s78 := s7.trans s8
    have d8 := d6.same s78
    have trs : ∀ x ∈ [V.non, v, v5], TrV H8 x := fun x hx => by
      simp only [List.mem_cons, List.mem_nil_iff, or_false] at hx
      rcases hx with rfl | rfl | rfl
      · exact ⟨.nil, .nil, (fun _ h => nomatch h), Nat.zero_le _⟩
      · exact ⟨t, at6.same s78, tl, by omega⟩
      · exact ⟨t5, at56.same s78, tl5, by omega⟩
    have ev8 := s78 _ _ ev
    have w0 : 0 < [V.non, v, v5].length := by show 0 < 3; decide
    have w1 : [V.non, v, v5].length ≤ 1000 := by show 3 ≤ 1000; decide
    generalize [V.non, v, v5] = W at ev8 trs w0 w1
    have tl73 : t.text.length ≤ 73 := by show t.cs.length ≤ 73; omega
    refine ⟨_, rfl, t.text, rfl, lt, (t.text.length : Int), rfl, by omega, by omega, ?_⟩
    refine for_range (lo := 0) (n := t.text.length) (fun j σ H' => ∃ (z6 : Option V), σ = [some (.ref a), some (.ref D.dk), some (.int (0 + i)), some v, some (.str t.text), some (.ref va), z6, y7, y8, y9] ∧ Same H8 H') ⟨y6, rfl, Same.refl _⟩ (fun j σ H9 hj hp => ?_) (fun σ H9 hp => ?_)
    · obtain ⟨z6, rfl, s9⟩ := hp
      have hjl : j ≤ t.cs.length := Nat.le_of_lt hj
      refine ⟨_, rfl, _, rfl, _, rfl, t.text, rfl, lt, t.cs.take j, ?_, by rw [List.length_take]; omega, ?_, fun H10 s10 => ⟨_, rfl, iteF ?_⟩⟩
      · show [V.str (cutS (tx t.cs) none (some (0 + (j : Int))))] ++ [] = _
        rw [Int.zero_add, cut_tx]
        rfl
      · rw [List.length_take, Nat.min_eq_left hjl]
        exact tree_cut (parsed_cs tl tn (by omega)) j hjl
      · exact ⟨_, rfl, s9.trans s10⟩
    · obtain ⟨z6, rfl, s9⟩ := hp
      have d9 := d8.same s9
      have ev9 := s9 _ _ ev8
      have trs9 : ∀ x ∈ W, TrV H9 x := fun x hx => (trs x hx).keep (Tw.Same.keepT s9)
      refine ⟨6, rfl, by decide, by decide, ?_⟩
      refine for_range (lo := 0) (n := 6) (fun j σ H' => ∃ (z6 z7 z8 z9 : Option V) (c' : Nat), σ = [some (.ref a), some (.ref D.dk), some (.int (0 + i)), some v, some (.str t.text), some (.ref va), z6, z7, z8, z9] ∧ H' va = some (.lst W) ∧ (∀ x ∈ W, TrV H' x) ∧ DeckOk H' D c' ∧ c' ≤ c5 + 20 * j) ⟨z6, y7, y8, y9, c5, rfl, ev9, trs9, d9, by omega⟩ (fun j σ Ha hj hp => ?_) (fun σ Ha hp => ?_)
      · obtain ⟨z6, z7, z8, z9, c', rfl, eva, trsa, da, hca⟩ := hp
        refine ⟨_, rfl, _, rfl, D, c', t.cs, rfl, da, by omega, by omega, tsm, fun t1 Hb ht1 db sb => ?_⟩
        refine ⟨_, rfl, _, rfl, D, c' + 3, t1, rfl, db, by omega, by have := ht1.1; omega, ht1.2, fun t2 Hc ht2 dc sc => ?_⟩
        refine ⟨_, rfl, _, rfl, _, rfl, _, rfl, D, c' + 6, t2, rfl, dc, by omega, by have := ht1.1; have := ht2.1; omega, ht2.2, fun t3 Hd ht3 dd sd => ?_⟩
        have b1 := ht1.1
        have b2 := ht2.1
        have b3 := ht3.1
        have sA := (sb.trans sc).trans sd
        have kA := (sb.keepT da).trans ((sc.keepT db).trans (sd.keepT dc))
        refine ⟨(by show 3 ≤ sizeLine; decide), fun pl2 npl2 => ?_⟩
        have k7 := same_new npl2 (.lst [.str (tx t1), .str (tx t2), .str (tx t3)])
        have eW := k7 _ _ (sA.at ov eva)
        have trsd : ∀ x ∈ W, TrV (upd Hd pl2 (.lst [.str (tx t1), .str (tx t2), .str (tx t3)])) x := fun x hx => (trsa x hx).keep (kA.trans (Tw.Same.keepT k7))
        have de := dd.same k7
        have oL := dd.new npl2
        have eL := upd_same (H := Hd) (a := pl2) (o := .lst [.str (tx t1), .str (tx t2), .str (tx t3)])
        generalize upd Hd pl2 (.lst [.str (tx t1), .str (tx t2), .str (tx t3)]) = He at eW trsd de eL ⊢
        refine ⟨pl2, rfl, ⟨_, SqL.of eL⟩, ?_⟩
        refine for_list (K := K) (a := pl2) (xs := [.str (tx t1), .str (tx t2), .str (tx t3)]) (fun m σ H' => ∃ (z9 : Option V) (c2 : Nat), σ = [some (.ref a), some (.ref D.dk), some (.int (0 + i)), some v, some (.str t.text), some (.ref va), some (.int (0 + j)), some (.str (tx t1)), some (.str (tx t2)), z9] ∧ H' va = some (.lst W) ∧ (∀ x ∈ W, TrV H' x) ∧ DeckOk H' D c2 ∧ c2 ≤ c' + 9 + m ∧ H' pl2 = some (.lst [.str (tx t1), .str (tx t2), .str (tx t3)])) ⟨z9, c' + 9, rfl, eW, trsd, de, by omega, eL⟩ (fun m σ H' _ hp => by obtain ⟨_, _, _, _, _, _, _, e⟩ := hp; exact SqL.of e) (fun m x σ H' hx hp => ?_) (fun σ H' hp => ?_)
        · obtain ⟨z9', c2, rfl, eW', trs', d', hc2, eL'⟩ := hp
          have hm : m < 3 := (List.getElem?_eq_some_iff.mp hx).1
          obtain ⟨t0', ht0, rfl⟩ : ∃ t0 : List Nat, t0.length ≤ 2100 ∧ x = .str (tx t0) := by
            match m, hx with
            | 0, h => cases h; exact ⟨t1, by omega, rfl⟩
            | 1, h => cases h; exact ⟨t2, by omega, rfl⟩
            | 2, h => cases h; exact ⟨t3, by omega, rfl⟩
          refine ⟨_, rfl, _, rfl, D, c2, t0', rfl, d', by omega, ht0, fun n' Hf df hn' sf => ⟨_, rfl, iteF ?_⟩⟩
          exact ⟨_, n', rfl, sf.at ov eW', fun x hx => (trs' x hx).keep (sf.keepT d'), df, by omega, sf.at oL eL'⟩
        · obtain ⟨z9', c2, rfl, eW', trs', d', hc2, eL'⟩ := hp
          have hc3 : c2 ≤ c' + 9 + 3 := hc2
          refine ⟨_, rfl, _, rfl, _, rfl, D, c2, va, W, rfl, d', by omega, eW', ov, w0, w1, fun x1 Hf hx1 df sf => ?_⟩
          refine ⟨_, rfl, _, rfl, D, c2 + 1, va, W, rfl, df, by omega, sf.at ov eW', ov, w0, w1, fun x2 Hg hx2 dg sg => ?_⟩
          obtain ⟨u1, a1, g1, g1'⟩ := ((trs' x1 hx1).keep (sf.keepT d')).keep (sg.keepT df)
          obtain ⟨u2, a2, g2, g2'⟩ := ((trs' x2 hx2).keep (sf.keepT d')).keep (sg.keepT df)
          refine ⟨D, c2 + 2, x1, x2, u1, u2, rfl, dg, by omega, a1, a2, g1, g2, g1', g2', fun n' Hh dh hn' sh => ⟨_, rfl, iteF ?_⟩⟩
          exact ⟨_, _, _, _, n', rfl, sh.at ov (sg.at ov (sf.at ov eW')), fun x hx => (((trs' x hx).keep (sf.keepT d')).keep (sg.keepT df)).keep (sh.keepT dg), dh, by omega⟩
      · obtain ⟨z6, z7, z8, z9, c', rfl, eva, trsa, da, hca⟩ := hp
        exact ⟨_, _, _, _, _, _, _, _, c', rfl, da, by omega⟩
  · exact rfl
end
/-! ### what the top has left -/
theorem all_mk {l : PySem.W.OpenLaw} {w : World} {K : PySem.W.Frag} {h : Heap} {mg : Str → Option Value} {fa f1 f2 f3 f4 f5 f6 f7 f8 f9 f10 f11 f12 f13 f14 f15 f16 f17 f18 f19 f20 f21 f22 f23 f24 f25 C_BadText C_WalkError i_BadText : Addr} (X : K.In h) (G : h.Ns mainGlobals mg) (hfa : mg "law" = some (.ref fa))
    {od1 an1 od2 an2 od3 an3 od4 an4 od5 an5 od6 an6 od7 an7 od8 an8 od9 an9 od10 an10 od11 an11 od12 an12 od13 an13 od14 an14 od15 an15 od16 an16 od17 an17 od18 an18 od19 an19 od20 an20 od21 an21 od22 an22 od23 an23 od24 an24 od25 an25 : Option Addr} {sl1 sl2 sl3 sl4 sl5 sl6 sl7 sl8 sl9 sl10 sl11 sl12 sl13 sl14 sl15 sl16 sl17 sl18 sl19 sl20 sl21 sl22 sl23 sl24 sl25 : Array (Option Value)}
    {oc1 kV1 dc1 pm1 cd1 ct1 oc2 kV2 dc2 pm2 cd2 ct2 oc3 kV3 dc3 pm3 cd3 ct3 oc4 kV4 dc4 pm4 cd4 ct4 oc5 kV5 dc5 pm5 cd5 ct5 oc6 kV6 dc6 pm6 cd6 ct6 oc7 kV7 dc7 pm7 cd7 ct7 oc8 kV8 dc8 pm8 cd8 ct8 oc9 kV9 dc9 pm9 cd9 ct9 oc10 kV10 dc10 pm10 cd10 ct10 oc11 kV11 dc11 pm11 cd11 ct11 oc12 kV12 dc12 pm12 cd12 ct12 oc13 kV13 dc13 pm13 cd13 ct13 oc14 kV14 dc14 pm14 cd14 ct14 oc15 kV15 dc15 pm15 cd15 ct15 oc16 kV16 dc16 pm16 cd16 ct16 oc17 kV17 dc17 pm17 cd17 ct17 oc18 kV18 dc18 pm18 cd18 ct18 oc19 kV19 dc19 pm19 cd19 ct19 oc20 kV20 dc20 pm20 cd20 ct20 oc21 kV21 dc21 pm21 cd21 ct21 oc22 kV22 dc22 pm22 cd22 ct22 oc23 kV23 dc23 pm23 cd23 ct23 oc24 kV24 dc24 pm24 cd24 ct24 oc25 kV25 dc25 pm25 cd25 ct25 : Value} {t1 : Tok}
    {CD pm g1m g2m g3m DK : Addr} {rest : List Value} {ocm1 kwm1 dcm1 pmm1 cdm1 ctm1 : Value} {odm1 anm1 : Option Addr} {slm1 : Array (Option Value)} {ocm2 kwm2 dcm2 pmm2 cdm2 ctm2 : Value} {odm2 anm2 : Option Addr} {slm2 : Array (Option Value)} {ocm3  dcm3 pmm3 cdm3 ctm3 : Value} {odm3 anm3 : Option Addr} {slm3 : Array (Option Value)}
    {nm_BadText q_BadText : Str} {N_BadText : Addr} {bs_BadText sub_BadText : List Value} {sn_BadText : List Str} {ab_BadText : Bool} {col_BadText : Option Bool} {dd_BadText : Option Addr} {m0_BadText m1_BadText m2_BadText m3_BadText m5_BadText : Option Value}  {oc_BadText dc_BadText pm_BadText cd_BadText ct_BadText : Value} {od_BadText an_BadText : Option Addr} {sl_BadText : Array (Option Value)}
    (a_BadText : PySem.W.nsIn K mainGlobals "BadText" = some (some (.ref C_BadText)))
    (a_WalkError : PySem.W.nsIn K mainGlobals "WalkError" = some (some (.ref C_WalkError)))
    (x_BadText : K.lookup C_BadText = some (excClassObj nm_BadText q_BadText C_BadText N_BadText bs_BadText (.ref C_WalkError :: [.type "ValueError", .type "Exception", .type "BaseException", .type "object"]) true sn_BadText sub_BadText ab_BadText col_BadText dd_BadText m0_BadText m1_BadText m2_BadText m3_BadText m5_BadText "ValueError.__new__"))
    (sa_BadText : PySem.W.findIn K (.ref C_BadText) "__setattr__" = some (some (.builtin "object.__setattr__")))
    (ga_BadText : PySem.W.findIn K (.ref C_BadText) "__getattribute__" = some (some (.builtin "BaseException.__getattribute__")))
    (gg_BadText : PySem.W.findIn K (.ref C_BadText) "__getattr__" = some none)
    (nb_BadText : PySem.W.findIn K (.ref C_BadText) "index" = some none)
    (ii_BadText : PySem.W.findIn K (.ref C_BadText) "__init__" = some (some (.ref i_BadText)))
    (ti_BadText : PySem.W.typeIn K (.ref i_BadText) = some (.type "function"))
    (li_BadText : K.lookup i_BadText = some ⟨oc_BadText, od_BadText, .func (PySem.W.fnOf "__init__" "BadText.__init__" (iA_index ⟨45, 17, 45, 21⟩ ⟨45, 23, 45, 28⟩) (iB_index ⟨46, 8, 46, 12⟩ ⟨46, 8, 46, 18⟩ ⟨46, 21, 46, 26⟩ ⟨46, 8, 46, 26⟩) iS_index .none .none dc_BadText pm_BadText an_BadText cd_BadText ct_BadText), sl_BadText⟩)
    (ci_BadText : PySem.W.codeIn K cd_BadText "BadText.__init__" = true)
    (kC_BadText : PySem.W.keepIn K (.ref C_BadText) = true)
    (eC_BadText : PySem.W.subIn K (.ref C_BadText) (.type "BaseException") = some true)
    (tC_BadText : PySem.W.typeIn K (.ref C_BadText) = some (.type "type"))
    (hC_BadText : PySem.W.hasDictIn K C_BadText = true)
    (h1_BadText : PySem.W.findIn K (.ref C_BadText) "__class__" = some (some (.builtin "object.__class__")))
    (h2_BadText : PySem.W.specialIn K (.builtin "object.__class__") "__get__" = some (some (.builtin "getset_descriptor.__get__")))
    (h3_BadText : PySem.W.takesIn K (.builtin "object.__class__") = some true)
    (h4_BadText : PySem.W.mroIn K C_BadText (.type "object") = some true)
    (aDK : PySem.W.nsIn K mainGlobals "Desk" = some (some (.ref CD)))
    (pg : PySem.W.plainGet K CD Str.empty = true)
    (hd : PySem.W.hasDictIn K CD = true)
    (po : PySem.W.plainOver K CD = true)
    (sa : PySem.W.findIn K (.ref CD) "__setattr__" = some (some (.builtin "object.__setattr__")))
    (mk : PySem.W.makesIn K CD = true)
    (kc : PySem.W.keepIn K (.ref CD) = true)
    (nT : PySem.W.findIn K (.ref CD) "trees" = some none)
    (nD : PySem.W.findIn K (.ref CD) "done" = some none)
    (nB : PySem.W.findIn K (.ref CD) "busy" = some none)
    (rd : PySem.W.readsIn K CD (.type "type") = true)
    (gaD : PySem.W.specialIn K (.ref CD) "__getattribute__" = some (some (.builtin "type.__getattribute__")))
    (rf : PySem.W.findCls K (.ref CD) (.type "type") "read" = some (.get (.builtin "classmethod.__get__") (.ref pm) .none (.ref CD)))
    (rr : PySem.W.recIn K pm "classmethod" = some (.ref g2m :: rest))
    (ri : PySem.W.fnIn K g2m = true)
    (i1 : PySem.W.findIn K (.ref CD) "__init__" = some (some (.ref g1m)))
    (i1f : PySem.W.isFn K (.ref g1m) = true)
    (i3 : PySem.W.findIn K (.ref CD) "tree" = some (some (.ref g3m)))
    (i3f : PySem.W.isFn K (.ref g3m) = true)
    (k3m : PySem.W.keepIn K (.ref g3m) = true)
    (k1m : PySem.W.keepIn K (.ref g1m) = true)
    (k2m : PySem.W.keepIn K (.ref g2m) = true)
    (lm1 : K.lookup g1m = some ⟨ocm1, odm1, .func (PySem.W.fnOf "__init__" "Desk.__init__" (defArgs s_Desk___init__) (defBody s_Desk___init__) (defScope s_Desk___init__) .none kwm1 dcm1 pmm1 anm1 cdm1 ctm1), slm1⟩)
    (cm1 : PySem.W.codeIn K cdm1 "Desk.__init__" = true)
    (lm2 : K.lookup g2m = some ⟨ocm2, odm2, .func (PySem.W.fnOf "read" "Desk.read" (defArgs s_Desk_read) (defBody s_Desk_read) (defScope s_Desk_read) .none kwm2 dcm2 pmm2 anm2 cdm2 ctm2), slm2⟩)
    (cm2 : PySem.W.codeIn K cdm2 "Desk.read" = true)
    (lm3 : K.lookup g3m = some ⟨ocm3, odm3, .func (PySem.W.fnOf "tree" "Desk.tree" (defArgs s_Desk_tree) (defBody s_Desk_tree) (defScope s_Desk_tree) .none (.ref DK) dcm3 pmm3 anm3 cdm3 ctm3), slm3⟩)
    (cm3 : PySem.W.codeIn K cdm3 "Desk.tree" = true)
    (nsv : PySem.W.nsIn K DK "version" = some (some .none))
    (e1 : PySem.W.exmOne K (.ref C_BadText) (.ref C_BadText) = some true)
    (a1 : PySem.W.nsIn K mainGlobals "is_letter" = some (some (.ref f1)))
    (l1 : K.lookup f1 = some ⟨oc1, od1, .func (PySem.W.fnOf "is_letter" "is_letter" (defArgs s_is_letter) (defBody s_is_letter) (defScope s_is_letter) .none kV1 dc1 pm1 an1 cd1 ct1), sl1⟩)
    (c1 : PySem.W.codeIn K cd1 "is_letter" = true)
    (k1 : PySem.W.keepIn K (.ref f1) = true)
    (a2 : PySem.W.nsIn K mainGlobals "is_node" = some (some (.ref f2)))
    (l2 : K.lookup f2 = some ⟨oc2, od2, .func (PySem.W.fnOf "is_node" "is_node" (defArgs s_is_node) (defBody s_is_node) (defScope s_is_node) .none kV2 dc2 pm2 an2 cd2 ct2), sl2⟩)
    (c2 : PySem.W.codeIn K cd2 "is_node" = true)
    (k2 : PySem.W.keepIn K (.ref f2) = true)
    (a3 : PySem.W.nsIn K mainGlobals "is_tree" = some (some (.ref f3)))
    (l3 : K.lookup f3 = some ⟨oc3, od3, .func (PySem.W.fnOf "is_tree" "is_tree" (defArgs s_is_tree) (defBody s_is_tree) (defScope s_is_tree) .none kV3 dc3 pm3 an3 cd3 ct3), sl3⟩)
    (c3 : PySem.W.codeIn K cd3 "is_tree" = true)
    (k3 : PySem.W.keepIn K (.ref f3) = true)
    (a4 : PySem.W.nsIn K mainGlobals "size_of" = some (some (.ref f4)))
    (l4 : K.lookup f4 = some ⟨oc4, od4, .func (PySem.W.fnOf "size_of" "size_of" (defArgs s_size_of) (defBody s_size_of) (defScope s_size_of) .none kV4 dc4 pm4 an4 cd4 ct4), sl4⟩)
    (c4 : PySem.W.codeIn K cd4 "size_of" = true)
    (k4 : PySem.W.keepIn K (.ref f4) = true)
    (a5 : PySem.W.nsIn K mainGlobals "joined" = some (some (.ref f5)))
    (l5 : K.lookup f5 = some ⟨oc5, od5, .func (PySem.W.fnOf "joined" "joined" (defArgs s_joined) (defBody s_joined) (defScope s_joined) .none kV5 dc5 pm5 an5 cd5 ct5), sl5⟩)
    (c5 : PySem.W.codeIn K cd5 "joined" = true)
    (k5 : PySem.W.keepIn K (.ref f5) = true)
    (a6 : PySem.W.nsIn K mainGlobals "tree_text" = some (some (.ref f6)))
    (l6 : K.lookup f6 = some ⟨oc6, od6, .func (PySem.W.fnOf "tree_text" "tree_text" (defArgs s_tree_text) (defBody s_tree_text) (defScope s_tree_text) .none kV6 dc6 pm6 an6 cd6 ct6), sl6⟩)
    (c6 : PySem.W.codeIn K cd6 "tree_text" = true)
    (k6 : PySem.W.keepIn K (.ref f6) = true)
    (a7 : PySem.W.nsIn K mainGlobals "side_text" = some (some (.ref f7)))
    (l7 : K.lookup f7 = some ⟨oc7, od7, .func (PySem.W.fnOf "side_text" "side_text" (defArgs s_side_text) (defBody s_side_text) (defScope s_side_text) .none kV7 dc7 pm7 an7 cd7 ct7), sl7⟩)
    (c7 : PySem.W.codeIn K cd7 "side_text" = true)
    (k7 : PySem.W.keepIn K (.ref f7) = true)
    (a8 : PySem.W.nsIn K mainGlobals "sign_at" = some (some (.ref f8)))
    (l8 : K.lookup f8 = some ⟨oc8, od8, .func (PySem.W.fnOf "sign_at" "sign_at" (defArgs s_sign_at) (defBody s_sign_at) (defScope s_sign_at) .none kV8 dc8 pm8 an8 cd8 ct8), sl8⟩)
    (c8 : PySem.W.codeIn K cd8 "sign_at" = true)
    (k8 : PySem.W.keepIn K (.ref f8) = true)
    (a9 : PySem.W.nsIn K mainGlobals "read_tree" = some (some (.ref f9)))
    (l9 : K.lookup f9 = some ⟨oc9, od9, .func (PySem.W.fnOf "read_tree" "read_tree" (defArgs s_read_tree) (defBody s_read_tree) (defScope s_read_tree) .none kV9 dc9 pm9 an9 cd9 ct9), sl9⟩)
    (c9 : PySem.W.codeIn K cd9 "read_tree" = true)
    (k9 : PySem.W.keepIn K (.ref f9) = true)
    (a10 : PySem.W.nsIn K mainGlobals "read_left" = some (some (.ref f10)))
    (l10 : K.lookup f10 = some ⟨oc10, od10, .func (PySem.W.fnOf "read_left" "read_left" (defArgs s_read_left) (defBody s_read_left) (defScope s_read_left) .none kV10 dc10 pm10 an10 cd10 ct10), sl10⟩)
    (c10 : PySem.W.codeIn K cd10 "read_left" = true)
    (k10 : PySem.W.keepIn K (.ref f10) = true)
    (a11 : PySem.W.nsIn K mainGlobals "read_side" = some (some (.ref f11)))
    (l11 : K.lookup f11 = some ⟨oc11, od11, .func (PySem.W.fnOf "read_side" "read_side" (defArgs s_read_side) (defBody s_read_side) (defScope s_read_side) .none kV11 dc11 pm11 an11 cd11 ct11), sl11⟩)
    (c11 : PySem.W.codeIn K cd11 "read_side" = true)
    (k11 : PySem.W.keepIn K (.ref f11) = true)
    (a12 : PySem.W.nsIn K mainGlobals "parse_tree" = some (some (.ref f12)))
    (l12 : K.lookup f12 = some ⟨oc12, od12, .func (PySem.W.fnOf "parse_tree" "parse_tree" (defArgs s_parse_tree) (defBody s_parse_tree) (defScope s_parse_tree) .none kV12 dc12 pm12 an12 cd12 ct12), sl12⟩)
    (c12 : PySem.W.codeIn K cd12 "parse_tree" = true)
    (k12 : PySem.W.keepIn K (.ref f12) = true)
    (a13 : PySem.W.nsIn K mainGlobals "_law_deck" = some (some (.ref f13)))
    (l13 : K.lookup f13 = some ⟨oc13, od13, .func (PySem.W.fnOf "_law_deck" "_law_deck" (defArgs s__law_deck) (defBody s__law_deck) (defScope s__law_deck) .none kV13 dc13 pm13 an13 cd13 ct13), sl13⟩)
    (c13 : PySem.W.codeIn K cd13 "_law_deck" = true)
    (k13 : PySem.W.keepIn K (.ref f13) = true)
    (a14 : PySem.W.nsIn K mainGlobals "_law_next" = some (some (.ref f14)))
    (l14 : K.lookup f14 = some ⟨oc14, od14, .func (PySem.W.fnOf "_law_next" "_law_next" (defArgs s__law_next) (defBody s__law_next) (defScope s__law_next) .none kV14 dc14 pm14 an14 cd14 ct14), sl14⟩)
    (c14 : PySem.W.codeIn K cd14 "_law_next" = true)
    (k14 : PySem.W.keepIn K (.ref f14) = true)
    (a15 : PySem.W.nsIn K mainGlobals "_law_one" = some (some (.ref f15)))
    (l15 : K.lookup f15 = some ⟨oc15, od15, .func (PySem.W.fnOf "_law_one" "_law_one" (defArgs s__law_one) (defBody s__law_one) (defScope s__law_one) .none kV15 dc15 pm15 an15 cd15 ct15), sl15⟩)
    (c15 : PySem.W.codeIn K cd15 "_law_one" = true)
    (k15 : PySem.W.keepIn K (.ref f15) = true)
    (a16 : PySem.W.nsIn K mainGlobals "_law_same" = some (some (.ref f16)))
    (l16 : K.lookup f16 = some ⟨oc16, od16, .func (PySem.W.fnOf "_law_same" "_law_same" (defArgs s__law_same) (defBody s__law_same) (defScope s__law_same) .none kV16 dc16 pm16 an16 cd16 ct16), sl16⟩)
    (c16 : PySem.W.codeIn K cd16 "_law_same" = true)
    (k16 : PySem.W.keepIn K (.ref f16) = true)
    (a17 : PySem.W.nsIn K mainGlobals "_law_letters" = some (some (.ref f17)))
    (l17 : K.lookup f17 = some ⟨oc17, od17, .func (PySem.W.fnOf "_law_letters" "_law_letters" (defArgs s__law_letters) (defBody s__law_letters) (defScope s__law_letters) .none kV17 dc17 pm17 an17 cd17 ct17), sl17⟩)
    (c17 : PySem.W.codeIn K cd17 "_law_letters" = true)
    (k17 : PySem.W.keepIn K (.ref f17) = true)
    (a18 : PySem.W.nsIn K mainGlobals "_law_grown" = some (some (.ref f18)))
    (l18 : K.lookup f18 = some ⟨oc18, od18, .func (PySem.W.fnOf "_law_grown" "_law_grown" (defArgs s__law_grown) (defBody s__law_grown) (defScope s__law_grown) .none kV18 dc18 pm18 an18 cd18 ct18), sl18⟩)
    (c18 : PySem.W.codeIn K cd18 "_law_grown" = true)
    (k18 : PySem.W.keepIn K (.ref f18) = true)
    (a19 : PySem.W.nsIn K mainGlobals "_law_tree" = some (some (.ref f19)))
    (l19 : K.lookup f19 = some ⟨oc19, od19, .func (PySem.W.fnOf "_law_tree" "_law_tree" (defArgs s__law_tree) (defBody s__law_tree) (defScope s__law_tree) .none kV19 dc19 pm19 an19 cd19 ct19), sl19⟩)
    (c19 : PySem.W.codeIn K cd19 "_law_tree" = true)
    (k19 : PySem.W.keepIn K (.ref f19) = true)
    (a20 : PySem.W.nsIn K mainGlobals "_law_bent" = some (some (.ref f20)))
    (l20 : K.lookup f20 = some ⟨oc20, od20, .func (PySem.W.fnOf "_law_bent" "_law_bent" (defArgs s__law_bent) (defBody s__law_bent) (defScope s__law_bent) .none kV20 dc20 pm20 an20 cd20 ct20), sl20⟩)
    (c20 : PySem.W.codeIn K cd20 "_law_bent" = true)
    (k20 : PySem.W.keepIn K (.ref f20) = true)
    (a21 : PySem.W.nsIn K mainGlobals "_law_tried" = some (some (.ref f21)))
    (l21 : K.lookup f21 = some ⟨oc21, od21, .func (PySem.W.fnOf "_law_tried" "_law_tried" (defArgs s__law_tried) (defBody s__law_tried) (defScope s__law_tried) .none kV21 dc21 pm21 an21 cd21 ct21), sl21⟩)
    (c21 : PySem.W.codeIn K cd21 "_law_tried" = true)
    (k21 : PySem.W.keepIn K (.ref f21) = true)
    (a22 : PySem.W.nsIn K mainGlobals "_law_is_beginning" = some (some (.ref f22)))
    (l22 : K.lookup f22 = some ⟨oc22, od22, .func (PySem.W.fnOf "_law_is_beginning" "_law_is_beginning" (defArgs s__law_is_beginning) (defBody s__law_is_beginning) (defScope s__law_is_beginning) .none kV22 dc22 pm22 an22 cd22 ct22), sl22⟩)
    (c22 : PySem.W.codeIn K cd22 "_law_is_beginning" = true)
    (k22 : PySem.W.keepIn K (.ref f22) = true)
    (a23 : PySem.W.nsIn K mainGlobals "_law_right" = some (some (.ref f23)))
    (l23 : K.lookup f23 = some ⟨oc23, od23, .func (PySem.W.fnOf "_law_right" "_law_right" (defArgs s__law_right) (defBody s__law_right) (defScope s__law_right) .none kV23 dc23 pm23 an23 cd23 ct23), sl23⟩)
    (c23 : PySem.W.codeIn K cd23 "_law_right" = true)
    (k23 : PySem.W.keepIn K (.ref f23) = true)
    (a24 : PySem.W.nsIn K mainGlobals "_law_joined_right" = some (some (.ref f24)))
    (l24 : K.lookup f24 = some ⟨oc24, od24, .func (PySem.W.fnOf "_law_joined_right" "_law_joined_right" (defArgs s__law_joined_right) (defBody s__law_joined_right) (defScope s__law_joined_right) .none kV24 dc24 pm24 an24 cd24 ct24), sl24⟩)
    (c24 : PySem.W.codeIn K cd24 "_law_joined_right" = true)
    (k24 : PySem.W.keepIn K (.ref f24) = true)
    (a25 : PySem.W.nsIn K mainGlobals "law" = some (some (.ref f25)))
    (l25 : K.lookup f25 = some ⟨oc25, od25, .func (PySem.W.fnOf "law" "law" (defArgs s_law) (defBody s_law) (defScope s_law) .none kV25 dc25 pm25 an25 cd25 ct25), sl25⟩)
    (c25 : PySem.W.codeIn K cd25 "law" = true)
    (k25 : PySem.W.keepIn K (.ref f25) = true)
    (z1 : PySem.W.nsIn K mainGlobals "len" = some none)
    (z2 : PySem.W.nsIn K mainGlobals "isinstance" = some none)
    (z3 : PySem.W.nsIn K mainGlobals "list" = some none)
    (z4 : PySem.W.nsIn K mainGlobals "tuple" = some none)
    (z5 : PySem.W.nsIn K mainGlobals "str" = some none)
    (z6 : PySem.W.nsIn K mainGlobals "int" = some none)
    (z7 : PySem.W.nsIn K mainGlobals "bool" = some none)
    (z8 : PySem.W.nsIn K mainGlobals "range" = some none)
    (z9 : PySem.W.nsIn K mainGlobals "sorted" = some none)
    (z10 : PySem.W.nsIn K mainGlobals "abs" = some none)
    (v1 : PySem.W.nsIn K mainGlobals "MAX_NODES" = some (some (.int 12 t1)))
    : ∀ (base : Heap) (H : Hp) (s : Shared) (a : Addr) (ns : List Int), K.In base → base.Ns mainGlobals mg → Env0 l.prog w K mg base callerA [] s H → SqL K H a (ns.map V.int) → ns.length ≤ 63 →
      codeAny (model l.prog w) callerA (.call (.ref fa) ⟨[.ref a], []⟩) (CR CX0 [] l.prog w H s (fun v _ => v = .bl true) fun _ _ _ => False) s := by
  intro base H s a ns _ _ en hS hn
  have e := hfa.symm.trans (PySem.W.mg_of X G a25)
  cases e
  have gC_BadText := PySem.W.mg_of X G a_BadText
  have gC_WalkError := PySem.W.mg_of X G a_WalkError
  have F1 := fun_mk (st := s_is_letter) l1 c1 k1
  have g1 := PySem.W.mg_of X G a1
  have F2 := fun_mk (st := s_is_node) l2 c2 k2
  have g2 := PySem.W.mg_of X G a2
  have F3 := fun_mk (st := s_is_tree) l3 c3 k3
  have g3 := PySem.W.mg_of X G a3
  have F4 := fun_mk (st := s_size_of) l4 c4 k4
  have g4 := PySem.W.mg_of X G a4
  have F5 := fun_mk (st := s_joined) l5 c5 k5
  have g5 := PySem.W.mg_of X G a5
  have F6 := fun_mk (st := s_tree_text) l6 c6 k6
  have g6 := PySem.W.mg_of X G a6
  have F7 := fun_mk (st := s_side_text) l7 c7 k7
  have g7 := PySem.W.mg_of X G a7
  have F8 := fun_mk (st := s_sign_at) l8 c8 k8
  have g8 := PySem.W.mg_of X G a8
  have F9 := fun_mk (st := s_read_tree) l9 c9 k9
  have g9 := PySem.W.mg_of X G a9
  have F10 := fun_mk (st := s_read_left) l10 c10 k10
  have g10 := PySem.W.mg_of X G a10
  have F11 := fun_mk (st := s_read_side) l11 c11 k11
  have g11 := PySem.W.mg_of X G a11
  have F12 := fun_mk (st := s_parse_tree) l12 c12 k12
  have g12 := PySem.W.mg_of X G a12
  have F13 := fun_mk (st := s__law_deck) l13 c13 k13
  have g13 := PySem.W.mg_of X G a13
  have F14 := fun_mk (st := s__law_next) l14 c14 k14
  have g14 := PySem.W.mg_of X G a14
  have F15 := fun_mk (st := s__law_one) l15 c15 k15
  have g15 := PySem.W.mg_of X G a15
  have F16 := fun_mk (st := s__law_same) l16 c16 k16
  have g16 := PySem.W.mg_of X G a16
  have F17 := fun_mk (st := s__law_letters) l17 c17 k17
  have g17 := PySem.W.mg_of X G a17
  have F18 := fun_mk (st := s__law_grown) l18 c18 k18
  have g18 := PySem.W.mg_of X G a18
  have F19 := fun_mk (st := s__law_tree) l19 c19 k19
  have g19 := PySem.W.mg_of X G a19
  have F20 := fun_mk (st := s__law_bent) l20 c20 k20
  have g20 := PySem.W.mg_of X G a20
  have F21 := fun_mk (st := s__law_tried) l21 c21 k21
  have g21 := PySem.W.mg_of X G a21
  have F22 := fun_mk (st := s__law_is_beginning) l22 c22 k22
  have g22 := PySem.W.mg_of X G a22
  have F23 := fun_mk (st := s__law_right) l23 c23 k23
  have g23 := PySem.W.mg_of X G a23
  have F24 := fun_mk (st := s__law_joined_right) l24 c24 k24
  have g24 := PySem.W.mg_of X G a24
  have F25 := fun_mk (st := s_law) l25 c25 k25
  have m_len := PySem.W.mg_none_of X G z1
  have m_isinstance := PySem.W.mg_none_of X G z2
  have m_list := PySem.W.mg_none_of X G z3
  have m_tuple := PySem.W.mg_none_of X G z4
  have m_str := PySem.W.mg_none_of X G z5
  have m_int := PySem.W.mg_none_of X G z6
  have m_bool := PySem.W.mg_none_of X G z7
  have m_range := PySem.W.mg_none_of X G z8
  have m_sorted := PySem.W.mg_none_of X G z9
  have m_abs := PySem.W.mg_none_of X G z10
  have m1 := PySem.W.mg_of X G v1
  have b1 := F1.binds (ps := ["value"]) fun _ _ _ _ _ _ us hl => match us, hl with | [_], _ => rfl
  have b2 := F2.binds (ps := ["value"]) fun _ _ _ _ _ _ us hl => match us, hl with | [_], _ => rfl
  have b3 := F3.binds (ps := ["value"]) fun _ _ _ _ _ _ us hl => match us, hl with | [_], _ => rfl
  have b4 := F4.binds (ps := ["tree"]) fun _ _ _ _ _ _ us hl => match us, hl with | [_], _ => rfl
  have b6 := F6.binds (ps := ["tree"]) fun _ _ _ _ _ _ us hl => match us, hl with | [_], _ => rfl
  have b7 := F7.binds (ps := ["side"]) fun _ _ _ _ _ _ us hl => match us, hl with | [_], _ => rfl
  have b8 := F8.binds (ps := ["text", "at"]) fun _ _ _ _ _ _ us hl => match us, hl with | [_, _], _ => rfl
  have b9 := F9.binds (ps := ["text", "at", "room"]) fun _ _ _ _ _ _ us hl => match us, hl with | [_, _, _], _ => rfl
  have b10 := F10.binds (ps := ["text", "at", "room"]) fun _ _ _ _ _ _ us hl => match us, hl with | [_, _, _], _ => rfl
  have b11 := F11.binds (ps := ["text", "at", "room"]) fun _ _ _ _ _ _ us hl => match us, hl with | [_, _, _], _ => rfl
  have b12 := F12.binds (ps := ["text"]) fun _ _ _ _ _ _ us hl => match us, hl with | [_], _ => rfl
  have b13 := F13.binds (ps := ["_law_script"]) fun _ _ _ _ _ _ us hl => match us, hl with | [_], _ => rfl
  have b14 := F14.binds (ps := ["_law_deck_here", "_law_many"]) fun _ _ _ _ _ _ us hl => match us, hl with | [_, _], _ => rfl
  have b15 := F15.binds (ps := ["_law_deck_here", "_law_items"]) fun _ _ _ _ _ _ us hl => match us, hl with | [_, _], _ => rfl
  have b16 := F16.binds (ps := ["_law_found", "_law_due"]) fun _ _ _ _ _ _ us hl => match us, hl with | [_, _], _ => rfl
  have b17 := F17.binds (ps := ["_law_deck_here", "_law_size"]) fun _ _ _ _ _ _ us hl => match us, hl with | [_, _], _ => rfl
  have b18 := F18.binds (ps := ["_law_deck_here", "_law_size", "_law_way", "_law_letters_here"]) fun _ _ _ _ _ _ us hl => match us, hl with | [_, _, _, _], _ => rfl
  have b19 := F19.binds (ps := ["_law_deck_here", "_law_limit"]) fun _ _ _ _ _ _ us hl => match us, hl with | [_, _], _ => rfl
  have b20 := F20.binds (ps := ["_law_deck_here", "_law_text"]) fun _ _ _ _ _ _ us hl => match us, hl with | [_, _], _ => rfl
  have b21 := F21.binds (ps := ["_law_value", "_law_is_desk"]) fun _ _ _ _ _ _ us hl => match us, hl with | [_, _], _ => rfl
  have b22 := F22.binds (ps := ["_law_text"]) fun _ _ _ _ _ _ us hl => match us, hl with | [_], _ => rfl
  have b23 := F23.binds (ps := ["_law_deck_here", "_law_value"]) fun _ _ _ _ _ _ us hl => match us, hl with | [_, _], _ => rfl
  have b24 := F24.binds (ps := ["_law_deck_here", "_law_one_here", "_law_other"]) fun _ _ _ _ _ _ us hl => match us, hl with | [_, _, _], _ => rfl
  have E_BadText : Err_index K mg "ValueError.__new__" veT "BadText" "BadText.__init__" C_BadText i_BadText :=
    { gC := gC_BadText, nd := by decide +kernel, cls := ⟨nm_BadText, q_BadText, N_BadText, bs_BadText, _, sn_BadText, sub_BadText, ab_BadText, col_BadText, dd_BadText, m0_BadText, m1_BadText, m2_BadText, m3_BadText, m5_BadText, x_BadText, by first | rfl | decide +kernel⟩, sa := sa_BadText, ga := ga_BadText, gg := gg_BadText, noN := nb_BadText, iC := ii_BadText, tC := ti_BadText, kC := kC_BadText, exC := eC_BadText, tyC := tC_BadText, hdC := hC_BadText,
      fn := ⟨_, _, _, _, _, _, _, _, _, _, _, _, _, _, li_BadText, ci_BadText⟩ }
  have X_BadText : ExcC K C_BadText := ⟨ga_BadText, gg_BadText, eC_BadText, hC_BadText, h1_BadText, h2_BadText, h3_BadText, h4_BadText⟩
  have M : Mgs mg := ⟨m_len, m_isinstance, m_list, m_tuple, m_str, m_int, m_bool, m_range⟩
  have TD : DeskC K mg CD := ⟨⟨pg, hd, po, sa⟩, nT, nD, nB, PySem.W.mg_of X G aDK⟩
  have Fm1 := fun_mk (st := s_Desk___init__) lm1 cm1 k1m
  have Fm2 := fun_mk (st := s_Desk_read) lm2 cm2 k2m
  have Fm3 := fun_mk (st := s_Desk_tree) lm3 cm3 k3m
  have bm1 := Fm1.binds (ps := ["self", "tree"]) fun _ _ _ _ _ _ us hl => match us, hl with | [_, _], _ => rfl
  have bm2 := Fm2.binds (ps := ["cls", "text"]) fun _ _ _ _ _ _ us hl => match us, hl with | [_, _], _ => rfl
  have FD3 : FunD K "tree" "Desk.tree" (defArgs s_Desk_tree) (defBody s_Desk_tree) (defScope s_Desk_tree) [] [("version", .non)] g3m _ := ⟨⟨_, _, _, _, _, _, _, _, _, _, rfl, lm3, cm3, .inl ⟨rfl, rfl⟩, .inr ⟨DK, rfl, fun q hq => by rw [List.mem_singleton.mp hq]; exact ⟨_, nsv, rfl⟩⟩⟩, k3m⟩
  obtain ⟨dn, vdn, bm3⟩ := FD3.binds0 (ps := ["self", "version"]) 1 (by simp) rfl (fun D doc pm an cdv ct us ks h1 h2 => match us, ks, h1, h2 with | [_], [_], _, _ => ⟨_, _, _, _, _, _, rfl, rfl, rfl⟩)
  have Dis_letter : Df l.prog w K mg base 1 "is_letter" ["value"] spLow := ⟨f1, _, ok_low (k := 0) F1 M, b1, k1, g1⟩
  have Dis_node : Df l.prog w K mg base 2 "is_node" ["value"] spNodeT := ⟨f2, _, ok_node (k := 0) F2 M Dis_letter, b2, k2, g2⟩
  have Dis_tree : Df l.prog w K mg base 3 "is_tree" ["value"] spTreeT := ⟨f3, _, ok_isTree F3 m1 Dis_node, b3, k3, g3⟩
  have Dsize_of : Df l.prog w K mg base 20 "size_of" ["tree"] (spSz 20) := ⟨f4, _, ok_size F4 b4 g4 20, b4, k4, g4⟩
  have Djoined : DfR l.prog w K mg base 21 "joined" spJoined := ⟨f5, ok_joined F5 M m1 Dsize_of, k5, g5⟩
  have Dtree_text : Df l.prog w K mg base 40 "tree_text" ["tree"] (spText 20) := ⟨f6, _, ok_texts F6 b6 g6 F7 b7 g7 20, b6, k6, g6⟩
  have Dsign_at : Df l.prog w K mg base 1 "sign_at" ["text", "at"] spSgn := ⟨f8, _, ok_sign (k := 0) F8, b8, k8, g8⟩
  have Dread_tree : DfX l.prog w K mg base 59 "read_tree" ["text", "at", "room"] (spRead C_BadText 13) := ⟨f9, _, ok_reads F9 b9 g9 F11 b11 g11 F10 b10 g10 M E_BadText Dsign_at Dis_letter Dsize_of 13, b9, k9, g9⟩
  have Dparse_tree : DfX l.prog w K mg base 60 "parse_tree" ["text"] (spParse K C_BadText) := ⟨f12, _, ok_parse F12 M m1 E_BadText Dread_tree, b12, k12, g12⟩
  have D_law_deck : Df l.prog w K mg base 1 "_law_deck" ["_law_script"] (spDeck K) := ⟨f13, _, ok_deck (k := 0) F13 m_len m_abs m_int, b13, k13, g13⟩
  have D_law_next : Df l.prog w K mg base 1 "_law_next" ["_law_deck_here", "_law_many"] spNext := ⟨f14, _, ok_next (k := 0) F14 m_len, b14, k14, g14⟩
  have D_law_one : Df l.prog w K mg base 2 "_law_one" ["_law_deck_here", "_law_items"] spOne := ⟨f15, _, ok_one F15 M D_law_next, b15, k15, g15⟩
  have DoneV : Df l.prog w K mg base 2 "_law_one" ["_law_deck_here", "_law_items"] spOneV := ⟨f15, _, ok_oneV F15 M D_law_next, b15, k15, g15⟩
  have D_law_same : Df l.prog w K mg base 20 "_law_same" ["_law_found", "_law_due"] (spSame K 20) := ⟨f16, _, ok_same F16 b16 g16 M 20, b16, k16, g16⟩
  have D_law_letters : Df l.prog w K mg base 2 "_law_letters" ["_law_deck_here", "_law_size"] spLett := ⟨f17, _, ok_lett (k := 1) F17 D_law_next.ok D_law_next.b D_law_next.kp D_law_next.g M m_sorted, b17, k17, g17⟩
  have D_law_grown : Df l.prog w K mg base 28 "_law_grown" ["_law_deck_here", "_law_size", "_law_way", "_law_letters_here"] (spGrown 27) := ⟨f18, _, ok_grown F18 b18 g18 D_law_next.ok D_law_next.b D_law_next.kp D_law_next.g 27, b18, k18, g18⟩
  have D_law_tree : Df l.prog w K mg base 29 "_law_tree" ["_law_deck_here", "_law_limit"] spTree := ⟨f19, _, ok_tree F19 D_law_next.ok D_law_next.b D_law_next.kp D_law_next.g D_law_letters.ok D_law_letters.b D_law_letters.kp D_law_letters.g D_law_grown.ok D_law_grown.b D_law_grown.kp D_law_grown.g, b19, k19, g19⟩
  have D_law_bent : Df l.prog w K mg base 3 "_law_bent" ["_law_deck_here", "_law_text"] spBent := ⟨f20, _, ok_bent F20 M D_law_next D_law_one, b20, k20, g20⟩
  have RD : FnR l.prog w K mg base (L2.CX l.prog w) 61 g2m (spReadD CD C_BadText) := (FnOk.raw (ok_readD Fm2 TD ⟨mk, i1, i1f, kc⟩ (ok_init Fm1 TD Dis_tree) bm1 Dparse_tree) bm2 .nil).imp fun vs H Q E h => by rw [List.append_nil]; exact h
  have D_law_tried : Df l.prog w K mg base 62 "_law_tried" ["_law_value", "_law_is_desk"] spTried := ⟨f21, _, ok_tried F21 TD ⟨rd, gaD⟩ ⟨rf, ⟨_, rr⟩, ri⟩ RD ⟨i3, i3f, k3m⟩ (ok_treeM Fm3 TD) bm3 vdn E_BadText gC_BadText e1 Dparse_tree, b21, k21, g21⟩
  have D_law_is_beginning : Df l.prog w K mg base 63 "_law_is_beginning" ["_law_text"] spBeg := ⟨f22, _, ok_beg F22 M D_law_tried D_law_same, b22, k22, g22⟩
  have D_law_right : Df l.prog w K mg base 64 "_law_right" ["_law_deck_here", "_law_value"] spRight := ⟨f23, _, ok_right F23 M D_law_tried D_law_same D_law_is_beginning Dis_tree Dtree_text D_law_one, b23, k23, g23⟩
  have D_law_joined_right : Df l.prog w K mg base 41 "_law_joined_right" ["_law_deck_here", "_law_one_here", "_law_other"] spJR := ⟨f24, _, ok_jr F24 M Dsize_of Dtree_text Djoined D_law_one, b24, k24, g24⟩
  exact run_law F25 (.of_eq rfl) en hS M D_law_deck D_law_same D_law_tree DoneV Dtree_text Dparse_tree D_law_bent D_law_is_beginning D_law_right D_law_joined_right
theorem walk_at {l : PySem.W.OpenLaw} {q : Program} {loose : List Str} {XP : (Str → Option Value) → Heap → Prop} {YP : World → Heap → Prop} {d : DefRec} {K : Params → PySem.W.Frag} (most : l.most = some 63) (noDf : d.params.defaults = [])
    (inK : ∀ (w : World) (h : Heap), YP w h → (K w.params).In h)
    (F : ∀ (w : World) (mg : Str → Option Value) (fa : Addr) (h : Heap), (K w.params).In h → h.Ns mainGlobals mg → mg d.name = some (.ref fa) →
      ∀ (base : Heap) (H : Hp) (s : Shared) (a : Addr) (ns : List Int), (K w.params).In base → base.Ns mainGlobals mg → Env0 l.prog w (K w.params) mg base callerA [] s H → SqL (K w.params) H a (ns.map V.int) → ns.length ≤ 63 →
        codeAny (model l.prog w) callerA (.call (.ref fa) ⟨[.ref a], []⟩) (CR CX0 [] l.prog w H s (fun v _ => v = .bl true) fun _ _ _ => False) s) :
    PySem.W.WalkO q loose XP YP l.row.toRowW d [] (fun f vs => PySem.call f vs) := by
  refine Att.attach_call most noDf ?_
  intro w s₀ s₁ mg mb fa o pm cd doc a vs ns G Y ho hd hcd hmg hobj hints hlen hg
  exact law_at (inK w _ Y) G.T.g G.T.b G.T.builtins G.T.nolimit hg hobj hints (Nat.le_trans hlen (by decide)) fun base H h1 h2 en hS => F w mg fa _ (inK w _ Y) G.T.g hmg base H s₁ a ns h1 h2 en hS hlen
end Tw
open PySem PySem.W PyProof.Rows
set_option maxRecDepth 100000 in
set_option maxHeartbeats 0 in
theorem PySem.Challenge.cw_treewalks_k73_whole_texts_there_and_back_holds : PySem.Challenge.rw_treewalks_k73_whole_texts_there_and_back.Holds := by
  w_on; o_law; k_head; (case hw => w_witness2)
  k_fill
  refine Tw.walk_at (l := PySem.Challenge.rw_treewalks_k73_whole_texts_there_and_back) rfl rfl (fun w h Y => by first | exact PySem.W.kIn_of Y | exact PySem.W.km_in_of Y) ?F
  case F =>
    intro w mg fa h KX G hmg
    refine' Tw.all_mk KX G hmg ?a_BadText ?a_WalkError ?x_BadText ?sa_BadText ?ga_BadText ?gg_BadText ?nb_BadText ?ii_BadText ?ti_BadText ?li_BadText ?ci_BadText ?kC_BadText ?eC_BadText ?tC_BadText ?hC_BadText ?h1_BadText ?h2_BadText ?h3_BadText ?h4_BadText ?aDK ?pg ?hd ?po ?sa ?mk ?kc ?nT ?nD ?nB ?rd ?gaD ?rf ?rr ?ri ?i1 ?i1f ?i3 ?i3f ?k3m ?k1m ?k2m ?lm1 ?cm1 ?lm2 ?cm2 ?lm3 ?cm3 ?nsv ?e1 ?a1 ?l1 ?c1 ?k1 ?a2 ?l2 ?c2 ?k2 ?a3 ?l3 ?c3 ?k3 ?a4 ?l4 ?c4 ?k4 ?a5 ?l5 ?c5 ?k5 ?a6 ?l6 ?c6 ?k6 ?a7 ?l7 ?c7 ?k7 ?a8 ?l8 ?c8 ?k8 ?a9 ?l9 ?c9 ?k9 ?a10 ?l10 ?c10 ?k10 ?a11 ?l11 ?c11 ?k11 ?a12 ?l12 ?c12 ?k12 ?a13 ?l13 ?c13 ?k13 ?a14 ?l14 ?c14 ?k14 ?a15 ?l15 ?c15 ?k15 ?a16 ?l16 ?c16 ?k16 ?a17 ?l17 ?c17 ?k17 ?a18 ?l18 ?c18 ?k18 ?a19 ?l19 ?c19 ?k19 ?a20 ?l20 ?c20 ?k20 ?a21 ?l21 ?c21 ?k21 ?a22 ?l22 ?c22 ?k22 ?a23 ?l23 ?c23 ?k23 ?a24 ?l24 ?c24 ?k24 ?a25 ?l25 ?c25 ?k25 ?z1 ?z2 ?z3 ?z4 ?z5 ?z6 ?z7 ?z8 ?z9 ?z10 ?v1
    (case a_BadText => k_is)
    (case a_WalkError => k_is)
    (case x_BadText => k_is)
    (case sa_BadText => k_is)
    (case ga_BadText => k_is)
    (case gg_BadText => k_is)
    (case nb_BadText => k_is)
    (case ii_BadText => k_is)
    (case ti_BadText => k_is)
    (case li_BadText => k_is)
    (case ci_BadText => k_is)
    (case kC_BadText => k_is)
    (case eC_BadText => k_is)
    (case tC_BadText => k_is)
    (case hC_BadText => k_is)
    (case h1_BadText => k_is)
    (case h2_BadText => k_is)
    (case h3_BadText => k_is)
    (case h4_BadText => k_is)
    (case aDK => first | k_is | rfl | decide +kernel)
    (case pg => first | k_is | rfl | decide +kernel)
    (case hd => first | k_is | rfl | decide +kernel)
    (case po => first | k_is | rfl | decide +kernel)
    (case sa => first | k_is | rfl | decide +kernel)
    (case mk => first | k_is | rfl | decide +kernel)
    (case kc => first | k_is | rfl | decide +kernel)
    (case nT => first | k_is | rfl | decide +kernel)
    (case nD => first | k_is | rfl | decide +kernel)
    (case nB => first | k_is | rfl | decide +kernel)
    (case rd => first | k_is | rfl | decide +kernel)
    (case gaD => first | k_is | rfl | decide +kernel)
    (case rf => first | k_is | rfl | decide +kernel)
    (case rr => first | k_is | rfl | decide +kernel)
    (case ri => first | k_is | rfl | decide +kernel)
    (case i1 => first | k_is | rfl | decide +kernel)
    (case i1f => first | k_is | rfl | decide +kernel)
    (case i3 => first | k_is | rfl | decide +kernel)
    (case i3f => first | k_is | rfl | decide +kernel)
    (case k3m => first | k_is | rfl | decide +kernel)
    (case k1m => first | k_is | rfl | decide +kernel)
    (case k2m => first | k_is | rfl | decide +kernel)
    (case lm1 => first | k_is | rfl | decide +kernel)
    (case cm1 => first | k_is | rfl | decide +kernel)
    (case lm2 => first | k_is | rfl | decide +kernel)
    (case cm2 => first | k_is | rfl | decide +kernel)
    (case lm3 => first | k_is | rfl | decide +kernel)
    (case cm3 => first | k_is | rfl | decide +kernel)
    (case nsv => first | k_is | rfl | decide +kernel)
    (case e1 => first | k_is | rfl | decide +kernel)
    (case a1 => k_is)
    (case l1 => k_is)
    (case c1 => k_is)
    (case k1 => k_is)
    (case a2 => k_is)
    (case l2 => k_is)
    (case c2 => k_is)
    (case k2 => k_is)
    (case a3 => k_is)
    (case l3 => k_is)
    (case c3 => k_is)
    (case k3 => k_is)
    (case a4 => k_is)
    (case l4 => k_is)
    (case c4 => k_is)
    (case k4 => k_is)
    (case a5 => k_is)
    (case l5 => k_is)
    (case c5 => k_is)
    (case k5 => k_is)
    (case a6 => k_is)
    (case l6 => k_is)
    (case c6 => k_is)
    (case k6 => k_is)
    (case a7 => k_is)
    (case l7 => k_is)
    (case c7 => k_is)
    (case k7 => k_is)
    (case a8 => k_is)
    (case l8 => k_is)
    (case c8 => k_is)
    (case k8 => k_is)
    (case a9 => k_is)
    (case l9 => k_is)
    (case c9 => k_is)
    (case k9 => k_is)
    (case a10 => k_is)
    (case l10 => k_is)
    (case c10 => k_is)
    (case k10 => k_is)
    (case a11 => k_is)
    (case l11 => k_is)
    (case c11 => k_is)
    (case k11 => k_is)
    (case a12 => k_is)
    (case l12 => k_is)
    (case c12 => k_is)
    (case k12 => k_is)
    (case a13 => k_is)
    (case l13 => k_is)
    (case c13 => k_is)
    (case k13 => k_is)
    (case a14 => k_is)
    (case l14 => k_is)
    (case c14 => k_is)
    (case k14 => k_is)
    (case a15 => k_is)
    (case l15 => k_is)
    (case c15 => k_is)
    (case k15 => k_is)
    (case a16 => k_is)
    (case l16 => k_is)
    (case c16 => k_is)
    (case k16 => k_is)
    (case a17 => k_is)
    (case l17 => k_is)
    (case c17 => k_is)
    (case k17 => k_is)
    (case a18 => k_is)
    (case l18 => k_is)
    (case c18 => k_is)
    (case k18 => k_is)
    (case a19 => k_is)
    (case l19 => k_is)
    (case c19 => k_is)
    (case k19 => k_is)
    (case a20 => k_is)
    (case l20 => k_is)
    (case c20 => k_is)
    (case k20 => k_is)
    (case a21 => k_is)
    (case l21 => k_is)
    (case c21 => k_is)
    (case k21 => k_is)
    (case a22 => k_is)
    (case l22 => k_is)
    (case c22 => k_is)
    (case k22 => k_is)
    (case a23 => k_is)
    (case l23 => k_is)
    (case c23 => k_is)
    (case k23 => k_is)
    (case a24 => k_is)
    (case l24 => k_is)
    (case c24 => k_is)
    (case k24 => k_is)
    (case a25 => k_is)
    (case l25 => k_is)
    (case c25 => k_is)
    (case k25 => k_is)
    (case z1 => k_is)
    (case z2 => k_is)
    (case z3 => k_is)
    (case z4 => k_is)
    (case z5 => k_is)
    (case z6 => k_is)
    (case z7 => k_is)
    (case z8 => k_is)
    (case z9 => k_is)
    (case z10 => k_is)
    (case v1 => k_is)
