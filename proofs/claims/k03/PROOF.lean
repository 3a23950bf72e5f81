import PyProof.Rows.All
import Wide.All
import OpenK.AllK
import Wide.FinOn
import HandS.ForMost
import HandS.ForExc
import HandS.Wide
import HandS.IsInst
import HandS.Flow
import HandS.FStrTup
import HandS.NoneIn
import HandS.TupAny
import HandS.Style
import HandS.TryMany
import HandS.ExcIs
import HandS.ExcField
import HandS.ExcOwn
import KE.KExcInit
import KE.KExcIs
import PySem.Challenge.RW_treewalks_k03_parts_and_replaced_parts
set_option Elab.async false
set_option maxRecDepth 100000
set_option maxHeartbeats 4000000
namespace Tw
open PySem PySem.Spec PyProof.Rows L2
/-! ### own errors with one field, over ValueError or LookupError -/
section
open PySem.Builtin PySem.Builtin.ObjectAttr PySem.HandSPX
/-- own classes, then the mro of the built-in one -/
def refsT (tail : List Value) : List Value → Bool
  | .ref _ :: r => refsT tail r
  | l => l == tail
/-- a family of errors: what the library says of its built-in class -/
structure Fam (B newId initId : String) (tail : List Value) : Prop where
  facts : ExcBaseFacts B newId initId tail
  pass : ∀ self, refuseLoop self "__setattr__" tail = pure ()
  obj : tail.contains (.type "object") = true
theorem famV : Fam "ValueError" "ValueError.__new__" "ValueError.__init__" [.type "ValueError", .type "Exception", .type "BaseException", .type "object"] := ⟨F.excBase_ValueError, fun self => F.store_ValueError.passes self, by decide +kernel⟩
theorem famL : Fam "LookupError" "LookupError.__new__" "LookupError.__init__" [.type "LookupError", .type "Exception", .type "BaseException", .type "object"] := ⟨F.excBase_LookupError, fun self => F.store_LookupError.passes self, by decide +kernel⟩
theorem refsT_or {tail : List Value} (l : List Value) (h : refsT tail l = true) : (∃ c r, l = .ref c :: r ∧ refsT tail r = true) ∨ l = tail := by
  unfold refsT at h
  split at h
  · exact .inl ⟨_, _, rfl, h⟩
  · exact .inr (beq_iff_eq.mp h)
theorem refsT_all {tail : List Value} {Good : List Value → Prop} (h0 : Good tail) (hs : ∀ c r, Good r → Good (.ref c :: r)) : ∀ l : List Value, refsT tail l = true → Good l
  | [], h => by
    rcases refsT_or [] h with ⟨_, _, e, _⟩ | e
    · cases e
    · rw [e]; exact h0
  | a :: r, h => by
    rcases refsT_or (a :: r) h with ⟨c, r', e, h'⟩ | e
    · cases e
      exact hs c r (refsT_all h0 hs r h')
    · rw [e]; exact h0
variable {B newId initId : String} {tail : List Value}
theorem Fam.passes (fam : Fam B newId initId tail) (self : Value) (l : List Value) (h : refsT tail l = true) : refuseLoop self "__setattr__" l = pure () :=
  refsT_all (Good := fun l => refuseLoop self "__setattr__" l = pure ()) (fam.pass self) (fun c r e => by rw [refuseLoop_ref]; exact e) l h
theorem refsT_has (X : String) (l : List Value) (h : refsT tail l = true) : l.contains (.type X) = tail.contains (.type X) :=
  refsT_all (Good := fun l => l.contains (.type X) = tail.contains (.type X)) rfl (fun c r e => by rw [List.contains_cons, e]; rfl) l h
theorem Fam.some (fam : Fam B newId initId tail) (l : List Value) (h : refsT tail l = true) : l.isEmpty = false := by
  cases l with
  | nil =>
    have e := refsT_has "object" [] h
    rw [fam.obj] at e
    exact absurd e (by decide)
  | cons _ _ => rfl
/-- the first field of an error -/
theorem first_field {prog : Program} {w : World} {A : Around} {R : Result → Shared → Prop} {hp : Heap} {g : Array GenState} {d : Drawn} {t : Nat} {os : OsState} {K : PySem.W.Frag} {name : Str} {tk : Tok} {v : Value} {x C : Addr} {fv : Array Value} {cd : ClassData}
    (fam : Fam B newId initId tail) (inK : K.In hp) (isX : hp.get? x = some { cls := .ref C, data := .fields fv }) (isC : PySem.W.clsIn K C = some cd)
    (isM : refsT tail cd.mro = true) (dict : cd.hasDict = true) (free : PySem.W.findIn K (.ref C) name = some none)
    (done : ∀ h' tk' dx, (∀ b o, b ≠ x → hp.get? b = some o → h'.get? b = some o) → hp.objs.size ≤ dx → dx ≠ x →
      h'.get? x = some { cls := .ref C, dict := some dx, data := .fields fv } → h'.Ns1 dx (fun y => if y = name then some v else none) → R (.ok (.ret .none)) ⟨h', g, d, tk', os⟩) :
    codeAny (model prog w) A (.call (.builtin "object.__setattr__") ⟨[.ref x, .str name tk, v], []⟩) R ⟨hp, g, d, t, os⟩ := by
  have at0 : PySem.W.InstAt hp x { cls := .ref C, data := .fields fv } C none := ⟨isX, rfl, rfl, trivial⟩
  have store := PySem.F.store_object
  have hasObj : cd.mro.contains (.type "object") = true := (refsT_has "object" _ isM).trans fam.obj
  have notNew : x ≠ hp.objs.size := Nat.ne_of_lt (Heap.lt_size isX)
  have isSub : PySem.W.Looks (model prog w) hp (isInstance (.ref x) (.type "object")) true := by
    refine at0.type.andThen (PySem.W.looks_mroIn inK ?_)
    unfold PySem.W.mroIn
    rw [isC, Option.bind_some, if_neg (by rw [fam.some _ isM]; decide), hasObj]
  refine codeAny_call_builtin store.slot.plain store.entry ?_
  refine @PySem.W.check_slot (model prog w) _ _ ⟨hp, g, d, t, os⟩ "object.__setattr__" "object" "__setattr__" (.ref x) [.str name tk, v] [] _ store.kind store.split isSub
    (store.args (.ref x) (.str name tk) v) ?_
  have mroL : PySem.W.Looks (model prog w) hp (mroOf (.ref C)) cd.mro := (PySem.W.looks_clsIn inK isC).andThen .now
  have noTaker : PySem.W.Looks (model prog w) hp (storeTaker? none) none := .now
  have clsL : PySem.W.Looks (model prog w) hp (classData C) cd := PySem.W.looks_clsIn inK isC
  rw [PySem.W.osa_eq, refuse_eq]
  refine wpAny_bind (wpAny_bind (at0.type.at (wpAny_bind (mroL.at ?_))))
  rw [fam.passes _ _ isM]
  refine wpAny_pure (wpAny_bind (at0.type.at (wpAny_bind ((PySem.W.looks_findIn inK free).at ?_))))
  refine wpAny_bind (noTaker.at ?_)
  show wpAny _ _ (storeInOwnDict (.ref x) (.ref C) (.str name tk) name v false) _ _ _
  obtain ⟨nm, bs, mro, nsA, qn, hd, sn, sb, ab, col, del⟩ := cd
  dsimp only at dict
  subst dict
  unfold storeInOwnDict ownDictForStores
  repeat (first
    | with_reducible refine store_in_new ?_ ?_
    | with_reducible refine wpAny_loadPart_at isX ?_
    | with_reducible refine clsL.at ?_
    | wp_step)
  · refine ⟨_, #[], _, (Heap.get?_update_ne _ _ _ _ notNew.symm).trans (Heap.get?_push_at rfl rfl), rfl, ?_, fun _ => rfl⟩
    intro e he
    exact absurd he (by simp)
  · intro h' tk' ns1 same
    have isX1 : (hp.push { cls := .type "dict", data := .dict #[] }).get? x = some { cls := .ref C, data := .fields fv } := Heap.get?_push_of_some _ isX
    refine done h' tk' hp.objs.size ?_ (Nat.le_refl _) notNew.symm ?_ ns1
    · intro b o hb ho
      refine (same.2 b (Nat.ne_of_lt (Heap.lt_size ho))).trans ?_
      exact (Heap.get?_update_ne _ _ _ _ hb).trans (Heap.get?_push_of_some _ ho)
    · exact (same.2 x notNew).trans (Heap.get?_update_self _ isX1 rfl)
end
/-! ### errors with the field value -/
def iA_value (p1 p2 : Pos) : Arguments := { posonlyargs := [], args := [{ arg := "self", annotation := none, pos := p1 }, { arg := "value", annotation := none, pos := p2 }], vararg := none, kwonlyargs := [], kw_defaults := [], kwarg := none, defaults := [] }
def iB_value (q1 q2 q3 q4 : Pos) : List Stmt := [.Assign [.Attribute (.Name "self" q1) "value" q2] (.Name "value" q3) q4]
def iS_value : Scope := { kind := .function, names := [(PySem.Str.ofString "self", .local), (PySem.Str.ofString "value", .local)], isGenerator := false, isCoroutine := false, more := [] }
/-- what the written part says of the class cn, at C, and of its __init__, at fI -/
structure Err_value (K : PySem.W.Frag) (mg : Str → Option Value) (newId : String) (tail : List Value) (cn qn : Str) (C fI : Addr) : Prop where
  gC : mg cn = some (.ref C)
  nd : (cn == ("__debug__" : Str)) = false
  cls : ∃ nm q N bs bm sn sub ab col dd k0 k1 k2 k3 k5, K.lookup C = some (excClassObj nm q C N bs bm true sn sub ab col dd k0 k1 k2 k3 k5 newId) ∧ refsT tail bm = true
  sa : PySem.W.findIn K (.ref C) "__setattr__" = some (some (.builtin "object.__setattr__"))
  ga : PySem.W.findIn K (.ref C) "__getattribute__" = some (some (.builtin "BaseException.__getattribute__"))
  gg : PySem.W.findIn K (.ref C) "__getattr__" = some none
  noN : PySem.W.findIn K (.ref C) "value" = some none
  iC : PySem.W.findIn K (.ref C) "__init__" = some (some (.ref fI))
  tC : PySem.W.typeIn K (.ref fI) = some (.type "function")
  kC : PySem.W.keepIn K (.ref C) = true
  exC : PySem.W.subIn K (.ref C) (.type "BaseException") = some true
  tyC : PySem.W.typeIn K (.ref C) = some (.type "type")
  hdC : PySem.W.hasDictIn K C = true
  fn : ∃ (oc : Value) (od : Option Addr) (doc pm : Value) (an : Option Addr) (cdv ct : Value) (osl : Array (Option Value)) (p1 p2 q1 q2 q3 q4 : Pos),
    K.lookup fI = some ⟨oc, od, .func (PySem.W.fnOf "__init__" qn (iA_value p1 p2) (iB_value q1 q2 q3 q4) iS_value .none .none doc pm an cdv ct), osl⟩ ∧ PySem.W.codeIn K cdv qn = true
section
open PySem.Builtin PySem.Builtin.ObjectAttr PySem.HandSPX
variable {prog : Program} {w : World} {A : Around} {E : Value → Shared → Prop} {R : Result → Shared → Prop} {s : Shared} {K : PySem.W.Frag} {mg : Str → Option Value} {C fI : Addr} {B newId initId : String} {tail : List Value} {cn qn : Str}
theorem init_value (fam : Fam B newId initId tail) (T : Err_value K mg newId tail cn qn C fI) {x t0 : Addr} {v : Value} (inK : K.In s.heap) (lim : s.heap.NoLimit) (isX : s.heap.get? x = some (excO C t0)) (offK : K.lookup x = none) (room : A.depth < recursionLimit)
    (done : ∀ h' tk dx, (∀ b o, b ≠ x → s.heap.get? b = some o → h'.get? b = some o) → h'.get? x = some { cls := .ref C, dict := some dx, data := .fields #[.ref t0, .none, .none, .none, .bool false, .none] } → s.heap.objs.size ≤ dx → dx ≠ x →
      h'.Ns1 dx (fun y => if y = "value" then some v else none) → R (.ok (.ret .none)) { s with heap := h', toks := tk }) :
    codeAny (model prog w) A (.call (.ref fI) ⟨[.ref x, v], []⟩) R s := by
  obtain ⟨oc, od, doc, pm, an, cdv, ct, osl, p1, p2, q1, q2, q3, q4, isF, isCode⟩ := T.fn
  obtain ⟨nm, q, N, bs, bm, sn, sub, ab, col, dd, k0, k1, k2, k3, k5, isC, isM⟩ := T.cls
  have cls : PySem.W.clsIn K C = some { name := nm, bases := bs, mro := .ref C :: bm, ns := N, qualname := q, hasDict := true, slotNames := sn, subclasses := sub, abstract := ab, collection := col, hasDel := false } := by
    unfold PySem.W.clsIn
    rw [isC] <;> rfl
  refine Att.call_fn (binds := [("self", .ref x), ("value", v)]) inK lim isF isCode room (BindsTo.of_eq (by first | rfl | with_unfolding_all rfl)) (by first | rfl | decide | with_unfolding_all rfl) (fun s₁ IC => ?_) rfl rfl rfl
  obtain ⟨h₁, tk₁, rfl⟩ := IC.toInCall.same
  have keep : ∀ b o, s.heap.get? b = some o → h₁.get? b = some o := IC.toInCall.keep
  have locals := IC.toInCall.ns
  have inK₁ : K.In h₁ := inK.keeps keep
  have isX₁ := keep _ _ isX
  show wpAny _ _ (execs _ _) _ _ _
  refine wpAny_execs_cons (plainObj_wpAny_Assign_Attribute ?_)
  refine wpAny_Name (wpAny_loadName_local (by rfl) (by rfl) locals (v := v) (by first | rfl | with_unfolding_all rfl | kernel_rfl) ?_) (by decide)
  refine wpAny_Name (wpAny_loadName_local (by rfl) (by rfl) locals (v := .ref x) (by first | rfl | with_unfolding_all rfl | kernel_rfl) ?_) (by decide)
  refine PySem.W.set_plain inK₁ (ox := excO C t0) (od := none) ⟨isX₁, rfl, rfl, trivial⟩ T.sa ?_
  refine first_field fam inK₁ isX₁ cls (show refsT tail (.ref C :: bm) = true from isM) rfl T.noN (fun h₃ tk₃ dx k₃ dn dne hx₃ hn₃ => ?_)
  show wpAny _ _ (execs _ _) _ _ _
  have z : s.heap.objs.size < h₁.objs.size := locals.lt
  exact wpAny_execs_nil (done h₃ tk₃ dx (fun b o hb e => k₃ b o hb (keep b o e)) hx₃ (Nat.le_of_lt (Nat.lt_of_lt_of_le z dn)) dne hn₃)
/-- a made error -/
structure Made_value (h h' : Heap) (e C d : Addr) (v : Value) : Prop where
  keep : ∀ b o, h.get? b = some o → h'.get? b = some o
  new : h.objs.size ≤ e
  obj : ∃ oe vs, h'.get? e = some oe ∧ oe.cls = .ref C ∧ oe.dict = some d ∧ oe.data = .fields vs ∧ vs[1]? = some .none
  dbig : h.objs.size ≤ d
  dne : d ≠ e
  ns : h'.Ns1 d (fun y => if y = "value" then some v else none)
theorem made_value (fam : Fam B newId initId tail) (T : Err_value K mg newId tail cn qn C fI) {v : Value} (inK : K.In s.heap) (lim : s.heap.NoLimit) (room : A.depth + 1 < recursionLimit)
    (done : ∀ h' tk e d, Made_value s.heap h' e C d v → R (.ok (.ret (.ref e))) { s with heap := h', toks := tk }) :
    codeAny (model prog w) A (.call (.ref C) ⟨[v], []⟩) R s := by
  obtain ⟨nm, q, N, bs, bm, sn, sub, ab, col, dd, k0, k1, k2, k3, k5, isC, isM⟩ := T.cls
  obtain ⟨hp, g, dr, tk, os⟩ := s
  have keep : ∀ b o, hp.get? b = some o → ((hp.push (PySem.W.kdv_tup [v])).push (excO C hp.objs.size)).get? b = some o := fun b o e => Heap.get?_push_of_some _ (Heap.get?_push_of_some _ e)
  have isE : ((hp.push (PySem.W.kdv_tup [v])).push (excO C hp.objs.size)).get? (hp.objs.size + 1) = some (excO C hp.objs.size) := by heap_get
  have offK : K.lookup (hp.objs.size + 1) = none := by
    cases e : K.lookup (hp.objs.size + 1) with
    | none => rfl
    | some o => exact absurd (Nat.lt_of_succ_lt (Heap.lt_size (inK _ _ e))) (Nat.lt_irrefl _)
  refine call_own fam.facts (fun X => refsT_has X bm isM) (inK _ _ isC) (PySem.W.looks_findIn inK T.iC) (fun self => PySem.W.bind_fn inK self T.tC) (by show 1 ≤ sizeLine; decide) ?_
  refine init_value (s := ⟨(hp.push (PySem.W.kdv_tup [v])).push (excO C hp.objs.size), g, dr, tk, os⟩) fam T (inK.keeps keep) (lim.keeps keep) isE offK ?_ fun h' tk' dx k' hx dn dne hns => ?_
  · show A.depth + 1 < recursionLimit
    exact room
  · have old : ∀ b o, hp.get? b = some o → h'.get? b = some o := fun b o e => k' b o (Nat.ne_of_lt (Nat.lt_succ_of_lt (Heap.lt_size e))) (keep b o e)
    have z : hp.objs.size + 1 + 1 ≤ dx := by
      have y := dn
      rw [Heap.size_push, Heap.size_push] at y
      exact y
    exact ⟨rfl, done h' tk' (hp.objs.size + 1) dx ⟨old, Nat.le_succ _, ⟨_, _, hx, rfl, rfl, rfl, rfl⟩, (show hp.objs.size ≤ dx by omega), dne, hns⟩⟩
end
theorem rel_value {v : V} {u : Value} (r : RelV v u) (f : Str) : RelO (List.lookup f [(("value" : Str), v)]) (if f = "value" then some u else none) := by
  by_cases h : f = "value"
  · subst h
    rw [if_pos rfl, show List.lookup ("value" : Str) [(("value" : Str), v)] = some v by simp [List.lookup]]
    exact r
  · have e : (f == ("value" : Str)) = false := by simpa using h
    rw [if_neg h, show List.lookup f [(("value" : Str), v)] = none by simp [List.lookup, e]]
    trivial
section
variable {X : Cx} {C fI : Addr} {B newId initId : String} {tail : List Value} {cn qn : Str}
/-- cn(e) -/
def tMk_value (C : Addr) (ta : TA) : L2.St → Hp → XK → Prop := fun σ H Q => ta σ H fun vs H1 => ∃ v, vs = [v] ∧ ∀ d, H1 d = none → Q (.ref C) (some d) (upd H1 d (.xd [(("value" : Str), v)]))
theorem pmk_value {a : Expr} {ta : TA} {p pos : Pos} {k : Nat} (fam : Fam B newId initId tail) (T : Err_value X.K X.mg newId tail cn qn C fI) (hr : Room k X.A) (ha : PA X [a] ta) (hg : Gl X cn)
    (he : starEach (a :: []) X.env = (false, eval a X.env) :: starEach [] X.env := by rfl) (hpl : (backTo pos (starEach [] X.env)).any (·.1) = false := by rfl) :
    PMk X (.Call (.Name cn p) [a] [] pos) (tMk_value C ta) := by
  intro pins s σ H Q I h
  refine wpAny_Call_Name_kw (ld_glob I hg T.gC ?_ T.nd)
  refine PySem.W.callWith_K (h₀ := X.base) I.ok.mod.kin T.kC (thn (ha.run pos pins s σ H _ I h) ?_) he hpl
  rintro us s1 ⟨vs, H1, I1, r1, v, rfl, q1⟩
  refine ⟨I1.kIn, ?_⟩
  cases r1 with
  | @cons _ v' _ us' rv rn =>
    cases rn
    show wpAny _ _ (call (.ref C) [v']) _ _ _
    have lim := I1.nolimit
    obtain ⟨hp, g, dr, tk, os⟩ := s1
    refine wpAny_call (made_value fam T I1.kIn lim (by have := hr.dp; omega) fun h' tk' e d M => ?_)
    show MkP X pins σ Q (.ref e) ⟨h', g, dr, tk', os⟩
    obtain ⟨oe, fv, hoe, hc, hd, hdat, h1⟩ := M.obj
    obtain ⟨G', g1, g2⟩ := restrict h' fun b => decide (b ≠ e)
    have gk : ∀ b, b ≠ e → G'.get? b = h'.get? b := fun b hb => g1 b (decide_eq_true hb)
    have ge : G'.get? e = none := g2 e (by simp)
    have old : ∀ b o, hp.get? b = some o → G'.get? b = some o := by
      intro b o z
      refine (gk b (Nat.ne_of_lt (Nat.lt_of_lt_of_le (Heap.lt_size z) M.new))).trans ?_
      exact M.keep b o z
    have ok : ObjOk X.prog X.w (upd H1 d (.xd [(("value" : Str), v)])) G' d (.xd [(("value" : Str), v)]) :=
      ⟨_, M.ns.at (fun o z => (gk d M.dne).trans z), fun f => rel_value rv f⟩
    have J : Inv X pins σ (upd H1 d (.xd [(("value" : Str), v)])) ⟨G', g, dr, tk', os⟩ := I1.laid (t' := tk') old M.dbig ok
    refine ⟨e, oe, fv, ⟨G', g, dr, tk', os⟩, _, .ref C, some d, rfl, J, ?_, ge, hoe, ⟨hc, hd⟩, hdat, h1, ?_, rfl, I1.bare, raises_own T.exC T.tyC, q1 d (I1.hok.fresh M.dbig)⟩
    · intro b o z
      by_cases hb : b = e
      · have z' : G'.get? b = some o := z
        rw [hb, ge] at z'
        cases z'
      · exact (gk b hb).symm.trans z
    · rw [upd_ne (Ne.symm M.dne)]
      exact I1.hok.fresh M.new
/-- raise cn(e) -/
def tRaise_value (C : Addr) (W : WX) (ta : TA) : TS := fun _ σ H => tMk_value C ta σ H fun cls d H' => W cls d σ H'
theorem ps_raise_value {a : Expr} {ta : TA} {W : WX} {p pos pos2 : Pos} {k : Nat} (hc : X.calm = true) (fam : Fam B newId initId tail) (T : Err_value X.K X.mg newId tail cn qn C fI) (hr : Room k X.A) (tk : Takes X W) (ha : PA X [a] ta) (hg : Gl X cn)
    (he : starEach (a :: []) X.env = (false, eval a X.env) :: starEach [] X.env := by rfl) (hpl : (backTo pos (starEach [] X.env)).any (·.1) = false := by rfl) :
    PS X (.Raise (some (.Call (.Name cn p) [a] [] pos)) none pos2) (tRaise_value C W ta) := ps_raise hc tk (pmk_value fam T hr ha hg he hpl)
/-- err.value, err the error that the suite holds (at a; its class cls, its dict d) -/
def tFld_value (C : Addr) (a : Addr) (cls : Value) (d : Option Addr) (te : TE) : TE := fun σ H Q => te σ H fun x H1 => x = .ref a ∧ cls = .ref C ∧ ∃ (dd : Addr) (v : V), d = some dd ∧ H1 dd = some (.xd [(("value" : Str), v)]) ∧ Q v H1
theorem pe_fld_value {a : Addr} {oe : Obj} {cls : Value} {d : Option Addr} {pn : List (Addr × Obj)} {e : Expr} {te : TE} {pos : Pos} (T : Err_value X.K X.mg newId tail cn qn C fI) (hz : Zc cls d oe) (hf : ∃ vs, oe.data = .fields vs) (he : PE (X.suite a ((a, oe) :: pn)) e te)
    (hb : attributeBase e "value" X.env (eval e X.env) = eval e X.env := by rfl) :
    PE (X.suite a ((a, oe) :: pn)) (.Attribute e "value" pos) (tFld_value C a cls d te) := by
  constructor
  intro pins s σ H Q I h
  refine attr_of hb (thn (he.run pins s σ H _ I h) ?_)
  rintro u s1 ⟨x, H1, I1, rx, rfl, rfl, dd, v, rfl, ea, q⟩
  cases rx
  obtain ⟨ha, _⟩ := I1.pin (a, oe) (List.mem_append_left _ List.mem_cons_self)
  obtain ⟨vs, hd⟩ := hf
  have ok : ObjOk X.prog X.w H1 s1.heap dd (.xd [(("value" : Str), v)]) := I1.hok dd _ ea
  obtain ⟨mA, hns, hr⟩ := ok
  obtain ⟨od, ho, hl⟩ := lookIn_ns hns
  have look : List.lookup ("value" : Str) [(("value" : Str), v)] = some v := by simp [List.lookup]
  obtain ⟨u, hu, ru⟩ := RelO.some_of (v := v) (o := mA "value") (by rw [← look]; exact hr "value")
  have J : PySem.W.InstAt s1.heap a oe C (some od) := ⟨ha, hz.1, by unfold PySem.W.notCls; rw [hd] <;> rfl, by rw [hz.2]; exact ho⟩
  exact HandSPX.exc_get I1.kIn J T.ga T.gg T.exC (PySem.W.findObj_own T.hdC T.noN rfl (by rw [hl, hu])) (handed_of ru) ⟨v, H1, I1.tok _, ru, q⟩
end

/-! ### errors with the field limit -/
def iA_limit (p1 p2 : Pos) : Arguments := { posonlyargs := [], args := [{ arg := "self", annotation := none, pos := p1 }, { arg := "limit", annotation := none, pos := p2 }], vararg := none, kwonlyargs := [], kw_defaults := [], kwarg := none, defaults := [] }
def iB_limit (q1 q2 q3 q4 : Pos) : List Stmt := [.Assign [.Attribute (.Name "self" q1) "limit" q2] (.Name "limit" q3) q4]
def iS_limit : Scope := { kind := .function, names := [(PySem.Str.ofString "self", .local), (PySem.Str.ofString "limit", .local)], isGenerator := false, isCoroutine := false, more := [] }
/-- what the written part says of the class cn, at C, and of its __init__, at fI -/
structure Err_limit (K : PySem.W.Frag) (mg : Str → Option Value) (newId : String) (tail : List Value) (cn qn : Str) (C fI : Addr) : Prop where
  gC : mg cn = some (.ref C)
  nd : (cn == ("__debug__" : Str)) = false
  cls : ∃ nm q N bs bm sn sub ab col dd k0 k1 k2 k3 k5, K.lookup C = some (excClassObj nm q C N bs bm true sn sub ab col dd k0 k1 k2 k3 k5 newId) ∧ refsT tail bm = true
  sa : PySem.W.findIn K (.ref C) "__setattr__" = some (some (.builtin "object.__setattr__"))
  ga : PySem.W.findIn K (.ref C) "__getattribute__" = some (some (.builtin "BaseException.__getattribute__"))
  gg : PySem.W.findIn K (.ref C) "__getattr__" = some none
  noN : PySem.W.findIn K (.ref C) "limit" = some none
  iC : PySem.W.findIn K (.ref C) "__init__" = some (some (.ref fI))
  tC : PySem.W.typeIn K (.ref fI) = some (.type "function")
  kC : PySem.W.keepIn K (.ref C) = true
  exC : PySem.W.subIn K (.ref C) (.type "BaseException") = some true
  tyC : PySem.W.typeIn K (.ref C) = some (.type "type")
  hdC : PySem.W.hasDictIn K C = true
  fn : ∃ (oc : Value) (od : Option Addr) (doc pm : Value) (an : Option Addr) (cdv ct : Value) (osl : Array (Option Value)) (p1 p2 q1 q2 q3 q4 : Pos),
    K.lookup fI = some ⟨oc, od, .func (PySem.W.fnOf "__init__" qn (iA_limit p1 p2) (iB_limit q1 q2 q3 q4) iS_limit .none .none doc pm an cdv ct), osl⟩ ∧ PySem.W.codeIn K cdv qn = true
section
open PySem.Builtin PySem.Builtin.ObjectAttr PySem.HandSPX
variable {prog : Program} {w : World} {A : Around} {E : Value → Shared → Prop} {R : Result → Shared → Prop} {s : Shared} {K : PySem.W.Frag} {mg : Str → Option Value} {C fI : Addr} {B newId initId : String} {tail : List Value} {cn qn : Str}
theorem init_limit (fam : Fam B newId initId tail) (T : Err_limit K mg newId tail cn qn C fI) {x t0 : Addr} {v : Value} (inK : K.In s.heap) (lim : s.heap.NoLimit) (isX : s.heap.get? x = some (excO C t0)) (offK : K.lookup x = none) (room : A.depth < recursionLimit)
    (done : ∀ h' tk dx, (∀ b o, b ≠ x → s.heap.get? b = some o → h'.get? b = some o) → h'.get? x = some { cls := .ref C, dict := some dx, data := .fields #[.ref t0, .none, .none, .none, .bool false, .none] } → s.heap.objs.size ≤ dx → dx ≠ x →
      h'.Ns1 dx (fun y => if y = "limit" then some v else none) → R (.ok (.ret .none)) { s with heap := h', toks := tk }) :
    codeAny (model prog w) A (.call (.ref fI) ⟨[.ref x, v], []⟩) R s := by
  obtain ⟨oc, od, doc, pm, an, cdv, ct, osl, p1, p2, q1, q2, q3, q4, isF, isCode⟩ := T.fn
  obtain ⟨nm, q, N, bs, bm, sn, sub, ab, col, dd, k0, k1, k2, k3, k5, isC, isM⟩ := T.cls
  have cls : PySem.W.clsIn K C = some { name := nm, bases := bs, mro := .ref C :: bm, ns := N, qualname := q, hasDict := true, slotNames := sn, subclasses := sub, abstract := ab, collection := col, hasDel := false } := by
    unfold PySem.W.clsIn
    rw [isC] <;> rfl
  refine Att.call_fn (binds := [("self", .ref x), ("limit", v)]) inK lim isF isCode room (BindsTo.of_eq (by first | rfl | with_unfolding_all rfl)) (by first | rfl | decide | with_unfolding_all rfl) (fun s₁ IC => ?_) rfl rfl rfl
  obtain ⟨h₁, tk₁, rfl⟩ := IC.toInCall.same
  have keep : ∀ b o, s.heap.get? b = some o → h₁.get? b = some o := IC.toInCall.keep
  have locals := IC.toInCall.ns
  have inK₁ : K.In h₁ := inK.keeps keep
  have isX₁ := keep _ _ isX
  show wpAny _ _ (execs _ _) _ _ _
  refine wpAny_execs_cons (plainObj_wpAny_Assign_Attribute ?_)
  refine wpAny_Name (wpAny_loadName_local (by rfl) (by rfl) locals (v := v) (by first | rfl | with_unfolding_all rfl | kernel_rfl) ?_) (by decide)
  refine wpAny_Name (wpAny_loadName_local (by rfl) (by rfl) locals (v := .ref x) (by first | rfl | with_unfolding_all rfl | kernel_rfl) ?_) (by decide)
  refine PySem.W.set_plain inK₁ (ox := excO C t0) (od := none) ⟨isX₁, rfl, rfl, trivial⟩ T.sa ?_
  refine first_field fam inK₁ isX₁ cls (show refsT tail (.ref C :: bm) = true from isM) rfl T.noN (fun h₃ tk₃ dx k₃ dn dne hx₃ hn₃ => ?_)
  show wpAny _ _ (execs _ _) _ _ _
  have z : s.heap.objs.size < h₁.objs.size := locals.lt
  exact wpAny_execs_nil (done h₃ tk₃ dx (fun b o hb e => k₃ b o hb (keep b o e)) hx₃ (Nat.le_of_lt (Nat.lt_of_lt_of_le z dn)) dne hn₃)
/-- a made error -/
structure Made_limit (h h' : Heap) (e C d : Addr) (v : Value) : Prop where
  keep : ∀ b o, h.get? b = some o → h'.get? b = some o
  new : h.objs.size ≤ e
  obj : ∃ oe vs, h'.get? e = some oe ∧ oe.cls = .ref C ∧ oe.dict = some d ∧ oe.data = .fields vs ∧ vs[1]? = some .none
  dbig : h.objs.size ≤ d
  dne : d ≠ e
  ns : h'.Ns1 d (fun y => if y = "limit" then some v else none)
theorem made_limit (fam : Fam B newId initId tail) (T : Err_limit K mg newId tail cn qn C fI) {v : Value} (inK : K.In s.heap) (lim : s.heap.NoLimit) (room : A.depth + 1 < recursionLimit)
    (done : ∀ h' tk e d, Made_limit s.heap h' e C d v → R (.ok (.ret (.ref e))) { s with heap := h', toks := tk }) :
    codeAny (model prog w) A (.call (.ref C) ⟨[v], []⟩) R s := by
  obtain ⟨nm, q, N, bs, bm, sn, sub, ab, col, dd, k0, k1, k2, k3, k5, isC, isM⟩ := T.cls
  obtain ⟨hp, g, dr, tk, os⟩ := s
  have keep : ∀ b o, hp.get? b = some o → ((hp.push (PySem.W.kdv_tup [v])).push (excO C hp.objs.size)).get? b = some o := fun b o e => Heap.get?_push_of_some _ (Heap.get?_push_of_some _ e)
  have isE : ((hp.push (PySem.W.kdv_tup [v])).push (excO C hp.objs.size)).get? (hp.objs.size + 1) = some (excO C hp.objs.size) := by heap_get
  have offK : K.lookup (hp.objs.size + 1) = none := by
    cases e : K.lookup (hp.objs.size + 1) with
    | none => rfl
    | some o => exact absurd (Nat.lt_of_succ_lt (Heap.lt_size (inK _ _ e))) (Nat.lt_irrefl _)
  refine call_own fam.facts (fun X => refsT_has X bm isM) (inK _ _ isC) (PySem.W.looks_findIn inK T.iC) (fun self => PySem.W.bind_fn inK self T.tC) (by show 1 ≤ sizeLine; decide) ?_
  refine init_limit (s := ⟨(hp.push (PySem.W.kdv_tup [v])).push (excO C hp.objs.size), g, dr, tk, os⟩) fam T (inK.keeps keep) (lim.keeps keep) isE offK ?_ fun h' tk' dx k' hx dn dne hns => ?_
  · show A.depth + 1 < recursionLimit
    exact room
  · have old : ∀ b o, hp.get? b = some o → h'.get? b = some o := fun b o e => k' b o (Nat.ne_of_lt (Nat.lt_succ_of_lt (Heap.lt_size e))) (keep b o e)
    have z : hp.objs.size + 1 + 1 ≤ dx := by
      have y := dn
      rw [Heap.size_push, Heap.size_push] at y
      exact y
    exact ⟨rfl, done h' tk' (hp.objs.size + 1) dx ⟨old, Nat.le_succ _, ⟨_, _, hx, rfl, rfl, rfl, rfl⟩, (show hp.objs.size ≤ dx by omega), dne, hns⟩⟩
end
theorem rel_limit {v : V} {u : Value} (r : RelV v u) (f : Str) : RelO (List.lookup f [(("limit" : Str), v)]) (if f = "limit" then some u else none) := by
  by_cases h : f = "limit"
  · subst h
    rw [if_pos rfl, show List.lookup ("limit" : Str) [(("limit" : Str), v)] = some v by simp [List.lookup]]
    exact r
  · have e : (f == ("limit" : Str)) = false := by simpa using h
    rw [if_neg h, show List.lookup f [(("limit" : Str), v)] = none by simp [List.lookup, e]]
    trivial
section
variable {X : Cx} {C fI : Addr} {B newId initId : String} {tail : List Value} {cn qn : Str}
/-- cn(e) -/
def tMk_limit (C : Addr) (ta : TA) : L2.St → Hp → XK → Prop := fun σ H Q => ta σ H fun vs H1 => ∃ v, vs = [v] ∧ ∀ d, H1 d = none → Q (.ref C) (some d) (upd H1 d (.xd [(("limit" : Str), v)]))
theorem pmk_limit {a : Expr} {ta : TA} {p pos : Pos} {k : Nat} (fam : Fam B newId initId tail) (T : Err_limit X.K X.mg newId tail cn qn C fI) (hr : Room k X.A) (ha : PA X [a] ta) (hg : Gl X cn)
    (he : starEach (a :: []) X.env = (false, eval a X.env) :: starEach [] X.env := by rfl) (hpl : (backTo pos (starEach [] X.env)).any (·.1) = false := by rfl) :
    PMk X (.Call (.Name cn p) [a] [] pos) (tMk_limit C ta) := by
  intro pins s σ H Q I h
  refine wpAny_Call_Name_kw (ld_glob I hg T.gC ?_ T.nd)
  refine PySem.W.callWith_K (h₀ := X.base) I.ok.mod.kin T.kC (thn (ha.run pos pins s σ H _ I h) ?_) he hpl
  rintro us s1 ⟨vs, H1, I1, r1, v, rfl, q1⟩
  refine ⟨I1.kIn, ?_⟩
  cases r1 with
  | @cons _ v' _ us' rv rn =>
    cases rn
    show wpAny _ _ (call (.ref C) [v']) _ _ _
    have lim := I1.nolimit
    obtain ⟨hp, g, dr, tk, os⟩ := s1
    refine wpAny_call (made_limit fam T I1.kIn lim (by have := hr.dp; omega) fun h' tk' e d M => ?_)
    show MkP X pins σ Q (.ref e) ⟨h', g, dr, tk', os⟩
    obtain ⟨oe, fv, hoe, hc, hd, hdat, h1⟩ := M.obj
    obtain ⟨G', g1, g2⟩ := restrict h' fun b => decide (b ≠ e)
    have gk : ∀ b, b ≠ e → G'.get? b = h'.get? b := fun b hb => g1 b (decide_eq_true hb)
    have ge : G'.get? e = none := g2 e (by simp)
    have old : ∀ b o, hp.get? b = some o → G'.get? b = some o := by
      intro b o z
      refine (gk b (Nat.ne_of_lt (Nat.lt_of_lt_of_le (Heap.lt_size z) M.new))).trans ?_
      exact M.keep b o z
    have ok : ObjOk X.prog X.w (upd H1 d (.xd [(("limit" : Str), v)])) G' d (.xd [(("limit" : Str), v)]) :=
      ⟨_, M.ns.at (fun o z => (gk d M.dne).trans z), fun f => rel_limit rv f⟩
    have J : Inv X pins σ (upd H1 d (.xd [(("limit" : Str), v)])) ⟨G', g, dr, tk', os⟩ := I1.laid (t' := tk') old M.dbig ok
    refine ⟨e, oe, fv, ⟨G', g, dr, tk', os⟩, _, .ref C, some d, rfl, J, ?_, ge, hoe, ⟨hc, hd⟩, hdat, h1, ?_, rfl, I1.bare, raises_own T.exC T.tyC, q1 d (I1.hok.fresh M.dbig)⟩
    · intro b o z
      by_cases hb : b = e
      · have z' : G'.get? b = some o := z
        rw [hb, ge] at z'
        cases z'
      · exact (gk b hb).symm.trans z
    · rw [upd_ne (Ne.symm M.dne)]
      exact I1.hok.fresh M.new
/-- raise cn(e) -/
def tRaise_limit (C : Addr) (W : WX) (ta : TA) : TS := fun _ σ H => tMk_limit C ta σ H fun cls d H' => W cls d σ H'
theorem ps_raise_limit {a : Expr} {ta : TA} {W : WX} {p pos pos2 : Pos} {k : Nat} (hc : X.calm = true) (fam : Fam B newId initId tail) (T : Err_limit X.K X.mg newId tail cn qn C fI) (hr : Room k X.A) (tk : Takes X W) (ha : PA X [a] ta) (hg : Gl X cn)
    (he : starEach (a :: []) X.env = (false, eval a X.env) :: starEach [] X.env := by rfl) (hpl : (backTo pos (starEach [] X.env)).any (·.1) = false := by rfl) :
    PS X (.Raise (some (.Call (.Name cn p) [a] [] pos)) none pos2) (tRaise_limit C W ta) := ps_raise hc tk (pmk_limit fam T hr ha hg he hpl)
/-- err.limit, err the error that the suite holds (at a; its class cls, its dict d) -/
def tFld_limit (C : Addr) (a : Addr) (cls : Value) (d : Option Addr) (te : TE) : TE := fun σ H Q => te σ H fun x H1 => x = .ref a ∧ cls = .ref C ∧ ∃ (dd : Addr) (v : V), d = some dd ∧ H1 dd = some (.xd [(("limit" : Str), v)]) ∧ Q v H1
theorem pe_fld_limit {a : Addr} {oe : Obj} {cls : Value} {d : Option Addr} {pn : List (Addr × Obj)} {e : Expr} {te : TE} {pos : Pos} (T : Err_limit X.K X.mg newId tail cn qn C fI) (hz : Zc cls d oe) (hf : ∃ vs, oe.data = .fields vs) (he : PE (X.suite a ((a, oe) :: pn)) e te)
    (hb : attributeBase e "limit" X.env (eval e X.env) = eval e X.env := by rfl) :
    PE (X.suite a ((a, oe) :: pn)) (.Attribute e "limit" pos) (tFld_limit C a cls d te) := by
  constructor
  intro pins s σ H Q I h
  refine attr_of hb (thn (he.run pins s σ H _ I h) ?_)
  rintro u s1 ⟨x, H1, I1, rx, rfl, rfl, dd, v, rfl, ea, q⟩
  cases rx
  obtain ⟨ha, _⟩ := I1.pin (a, oe) (List.mem_append_left _ List.mem_cons_self)
  obtain ⟨vs, hd⟩ := hf
  have ok : ObjOk X.prog X.w H1 s1.heap dd (.xd [(("limit" : Str), v)]) := I1.hok dd _ ea
  obtain ⟨mA, hns, hr⟩ := ok
  obtain ⟨od, ho, hl⟩ := lookIn_ns hns
  have look : List.lookup ("limit" : Str) [(("limit" : Str), v)] = some v := by simp [List.lookup]
  obtain ⟨u, hu, ru⟩ := RelO.some_of (v := v) (o := mA "limit") (by rw [← look]; exact hr "limit")
  have J : PySem.W.InstAt s1.heap a oe C (some od) := ⟨ha, hz.1, by unfold PySem.W.notCls; rw [hd] <;> rfl, by rw [hz.2]; exact ho⟩
  exact HandSPX.exc_get I1.kIn J T.ga T.gg T.exC (PySem.W.findObj_own T.hdC T.noN rfl (by rw [hl, hu])) (handed_of ru) ⟨v, H1, I1.tok _, ru, q⟩
end
/-! ### trees as data -/
inductive T where
  | nil
  | node (l : T) (x : Str) (r : T)
def T.size : T → Nat
  | .nil => 0
  | .node l _ r => l.size + 1 + r.size
def T.deep : T → Nat
  | .nil => 0
  | .node l _ r => 1 + max l.deep r.deep
def T.mir : T → T
  | .nil => .nil
  | .node l x r => .node r.mir x l.mir
def T.data : T → PyData
  | .nil => .none
  | .node l x r => .tuple [l.data, .str x, r.data]
theorem T.deep_le : ∀ t : T, t.deep ≤ t.size
  | .nil => Nat.le_refl _
  | .node l _ r => by
    have h1 := l.deep_le
    have h2 := r.deep_le
    show 1 + max l.deep r.deep ≤ l.size + 1 + r.size
    omega
theorem T.mir_size : ∀ t : T, t.mir.size = t.size
  | .nil => rfl
  | .node l _ r => by
    have h1 := l.mir_size
    have h2 := r.mir_size
    show r.mir.size + 1 + l.mir.size = l.size + 1 + r.size
    omega
/-- the tree t lies at v -/
inductive TreeAt (H : Hp) : V → T → Prop
  | nil : TreeAt H .non .nil
  | node {a : Addr} {l r : V} {x : Str} {tl tr : T} : H a = some (.tup [l, .str x, r]) → TreeAt H l tl → TreeAt H r tr → TreeAt H (.ref a) (.node tl x tr)
/-- tuples stand still -/
def KeepT (H H' : Hp) : Prop := ∀ b xs, H b = some (.tup xs) → H' b = some (.tup xs)
theorem KeepT.refl (H : Hp) : KeepT H H := fun _ _ h => h
theorem KeepT.trans {H H1 H2 : Hp} (a : KeepT H H1) (b : KeepT H1 H2) : KeepT H H2 := fun c xs h => b c xs (a c xs h)
theorem Same.keepT {H H' : Hp} (h : Same H H') : KeepT H H' := fun b xs e => h b _ e
theorem TreeAt.keep {H H' : Hp} (k : KeepT H H') {v : V} {t : T} (h : TreeAt H v t) : TreeAt H' v t := by
  induction h with
  | nil => exact .nil
  | node e _ _ h1 h2 => exact .node (k _ _ e) h1 h2
theorem TreeAt.same {H H' : Hp} (k : Same H H') {v : V} {t : T} (h : TreeAt H v t) : TreeAt H' v t := h.keep (Tw.Same.keepT k)
theorem TreeAt.dp {K : PySem.W.Frag} {H : Hp} {v : V} {t : T} (h : TreeAt H v t) : Dp K H v t.data := by
  induction h with
  | nil => exact .non
  | node e _ _ h1 h2 => exact .tup (SqT.of e) (.cons h1 (.cons (.str _) (.cons h2 .nil)))
theorem TreeAt.inv {H : Hp} {v : V} {t : T} (h : TreeAt H v t) : (v = .non ∧ t = .nil) ∨ ∃ a l r x tl tr, v = .ref a ∧ t = .node tl x tr ∧ H a = some (.tup [l, .str x, r]) ∧ TreeAt H l tl ∧ TreeAt H r tr := by
  cases h with
  | nil => exact .inl ⟨rfl, rfl⟩
  | node e h1 h2 => exact .inr ⟨_, _, _, _, _, _, rfl, rfl, e, h1, h2⟩
theorem same_new {H : Hp} {p : Addr} (h : H p = none) (o : HO) : Same H (upd H p o) := fun b u q => by rw [upd_ne (ne_of_none q h)]; exact q
theorem small {n : Nat} (h : n ≤ 1000) : n ≤ sizeLine := Nat.le_of_lt (small1000 h)
/-! ### the text by places -/
def top (i : Nat) : Stmt := PySem.Challenge.pw_treewalks_k03_parts_and_replaced_parts.main.body.getD i (.Pass ⟨0, 0, 0, 0⟩)
abbrev sSize : Stmt := top 13
abbrev sPart : Stmt := top 14
abbrev sRepl : Stmt := top 15
abbrev sWith : Stmt := top 16
abbrev sDeck : Stmt := top 18
abbrev sNext : Stmt := top 19
abbrev sSame : Stmt := top 20
abbrev sLett : Stmt := top 21
abbrev sGrown : Stmt := top 22
abbrev sTree : Stmt := top 23
abbrev sOdd : Stmt := top 24
abbrev sCount : Stmt := top 25
abbrev sPaths : Stmt := top 26
abbrev sPut : Stmt := top 27
abbrev sTold : Stmt := top 28
abbrev sDue : Stmt := top 29
abbrev sLaw : Stmt := top 30
theorem scSize : FnScope ["tree"] ["tree"] (defScope sSize) := ⟨rfl, rfl, rfl, by decide +kernel, rfl, by decide +kernel, by decide +kernel⟩
/-! ### the deck -/
structure Deck where
  dk : Addr
  ca : Addr
  ra : Addr
structure DeckOk (H : Hp) (D : Deck) (n : Nat) : Prop where
  ex : ∃ cells rests : List Int, H D.dk = some (.lst [.ref D.ca, .ref D.ra, .int (n : Int)]) ∧ H D.ca = some (.lst (cells.map V.int)) ∧ H D.ra = some (.lst (rests.map V.int)) ∧ 0 < cells.length ∧ rests.length = cells.length ∧ cells.length ≤ 61
  dc : D.dk ≠ D.ca
  dr : D.dk ≠ D.ra
  cr : D.ca ≠ D.ra
/-- all stands still but the deck's list and its rests -/
def SameD (D : Deck) (H H' : Hp) : Prop := ∀ b o, b ≠ D.dk → b ≠ D.ra → H b = some o → H' b = some o
theorem SameD.refl (D : Deck) (H : Hp) : SameD D H H := fun _ _ _ _ h => h
theorem SameD.trans {D : Deck} {H H1 H2 : Hp} (a : SameD D H H1) (b : SameD D H1 H2) : SameD D H H2 := fun c o h1 h2 h => b c o h1 h2 (a c o h1 h2 h)
theorem SameD.of {D : Deck} {H H' : Hp} (h : Same H H') : SameD D H H' := fun b o _ _ e => h b o e
theorem DeckOk.lists {H : Hp} {D : Deck} {n : Nat} (d : DeckOk H D n) : (∃ xs, H D.dk = some (.lst xs)) ∧ (∃ xs, H D.ra = some (.lst xs)) := by
  obtain ⟨c, r, h1, _, h3, _⟩ := d.ex
  exact ⟨⟨_, h1⟩, ⟨_, h3⟩⟩
theorem SameD.keepT {D : Deck} {H H' : Hp} {n : Nat} (h : SameD D H H') (d : DeckOk H D n) : KeepT H H' := fun b xs e => by
  obtain ⟨⟨x1, h1⟩, ⟨x2, h2⟩⟩ := d.lists
  exact h b _ (ne_of e h1 (by intro z; cases z)) (ne_of e h2 (by intro z; cases z)) e
theorem SameD.free {D : Deck} {H H' : Hp} {n : Nat} (h : SameD D H H') (d : DeckOk H' D n) {p : Addr} (e : H' p = none) : H p = none := by
  obtain ⟨⟨x1, h1⟩, ⟨x2, h2⟩⟩ := d.lists
  have n1 : p ≠ D.dk := fun z => by rw [z, h1] at e; cases e
  have n2 : p ≠ D.ra := fun z => by rw [z, h2] at e; cases e
  cases q : H p with
  | none => rfl
  | some o =>
    rw [h p o n1 n2 q] at e
    cases e
theorem DeckOk.same {H H' : Hp} {D : Deck} {n : Nat} (d : DeckOk H D n) (h : Same H H') : DeckOk H' D n := by
  obtain ⟨c, r, h1, h2, h3, h4⟩ := d.ex
  exact ⟨⟨c, r, h _ _ h1, h _ _ h2, h _ _ h3, h4⟩, d.dc, d.dr, d.cr⟩
structure Off (D : Deck) (p : Addr) : Prop where
  dk : p ≠ D.dk
  ca : p ≠ D.ca
  ra : p ≠ D.ra
theorem DeckOk.new {H : Hp} {D : Deck} {n : Nat} (d : DeckOk H D n) {p : Addr} (e : H p = none) : Off D p := by
  obtain ⟨c, r, h1, h2, h3, _⟩ := d.ex
  refine ⟨fun z => ?_, fun z => ?_, fun z => ?_⟩
  · rw [z, h1] at e
    cases e
  · rw [z, h2] at e
    cases e
  · rw [z, h3] at e
    cases e
theorem DeckOk.put {H : Hp} {D : Deck} {n : Nat} (d : DeckOk H D n) {p : Addr} (f : Off D p) (o : HO) : DeckOk (upd H p o) D n := by
  obtain ⟨c, r, h1, h2, h3, h4⟩ := d.ex
  exact ⟨⟨c, r, by rw [upd_ne f.dk.symm]; exact h1, by rw [upd_ne f.ca.symm]; exact h2, by rw [upd_ne f.ra.symm]; exact h3, h4⟩, d.dc, d.dr, d.cr⟩
theorem SameD.put {D : Deck} {H H' : Hp} {p : Addr} (s : SameD D H H') (e : H p = none) (o : HO) : SameD D H (upd H' p o) := fun b u h1 h2 h => by
  rw [upd_ne (ne_of_none h e)]
  exact s b u h1 h2 h
theorem SameD.at {D : Deck} {H H' : Hp} {p : Addr} {o : HO} (s : SameD D H H') (f : Off D p) (e : H p = some o) : H' p = some o := s p o f.dk f.ra e
theorem at_map {α : Type} {f : α → V} {ns : List α} {i : Int} {v : α} (h0 : 0 ≤ i) (h : ns[i.toNat]? = some v) : atI (ns.map f) i = some (f v) := by
  have e : i = ((i.toNat : Nat) : Int) := by omega
  rw [e]
  exact atI_nat (by rw [List.getElem?_map, h]; rfl)
theorem rep_flat {α : Type} (a : α) : ∀ m : Nat, (List.replicate m [a]).flatten = List.replicate m a
  | 0 => rfl
  | m + 1 => by
    rw [List.replicate_succ, List.replicate_succ, List.flatten_cons, rep_flat a m]
    rfl
theorem at_int {ns : List Int} {i : Int} {v : Int} (h0 : 0 ≤ i) (h : ns[i.toNat]? = some v) : atI (ns.map V.int) i = some (.int v) := by
  have e : i = ((i.toNat : Nat) : Int) := by omega
  rw [e]
  exact atI_nat (by rw [List.getElem?_map, h]; rfl)
theorem ixN_nat {n : Nat} {i : Int} (h0 : 0 ≤ i) (h : i < n) : ixN n i = some i.toNat := by
  unfold ixN
  first
    | rw [if_pos h0, if_pos h]
    | (rw [if_pos h0]; rw [if_pos (by omega)])
    | simp [h0, h]
theorem mod1 (z : Int) : -(2 ^ 64) < z % 2305843009213693951 ∧ z % 2305843009213693951 < 2 ^ 64 := by
  have a := Int.emod_nonneg z (show (2305843009213693951 : Int) ≠ 0 by decide)
  have b := Int.emod_lt_of_pos z (show (0 : Int) < 2305843009213693951 by decide)
  omega
theorem mod2 (z : Int) : -(2 ^ 64) < z % 2305843009213693921 ∧ z % 2305843009213693921 < 2 ^ 64 := by
  have a := Int.emod_nonneg z (show (2305843009213693921 : Int) ≠ 0 by decide)
  have b := Int.emod_lt_of_pos z (show (0 : Int) < 2305843009213693921 by decide)
  omega
def spNext : Sp := fun vs H Q _ => ∃ (D : Deck) (n : Nat) (m : Int), vs = [.ref D.dk, .int m] ∧ DeckOk H D n ∧ n ≤ 1000000 ∧ 0 < m ∧ m ≤ 1000 ∧ ∀ (i : Int) (H' : Hp), 0 ≤ i → i < m → DeckOk H' D (n + 1) → SameD D H H' → Q (.int i) H'
theorem scNext : FnScope ["_law_deck_here", "_law_many", "_law_cells", "_law_rests", "_law_count_here", "_law_index", "_law_digit", "_law_mixed"] ["_law_deck_here", "_law_many"] (defScope sNext) := ⟨rfl, rfl, rfl, by decide +kernel, rfl, by decide +kernel, by decide +kernel⟩
section
variable {P : Program} {w : World} {K : PySem.W.Frag} {mg : Str → Option Value} {base : Heap} {f : Addr} {fd : FuncData}
theorem ok_next {k : Nat} (F : Fun K "_law_next" "_law_next" sNext f fd) (ml : mg "len" = none) : FnOk P w K mg base CX0 (k + 1) f fd ["_law_deck_here", "_law_many"] spNext := by
  refine F.ok scNext (fun vs H Q E h => ?_) (fun cdv A outer s H vs Q E hr h => ?_)
  · obtain ⟨D, n, m, rfl, _⟩ := h
    rfl
  obtain ⟨D, n, m, rfl, d, hn, m0, m1, q⟩ := h
  obtain ⟨cells, rests, e1, e2, e3, c0, cr, c1⟩ := d.ex
  refine ⟨_, pss_cons (ps_asg (pv 0) (pg_unl rfl (pgs_cons (pg_name (i := 2) scNext.nd rfl (.inl rfl)) (pgs_cons (pg_name (i := 3) scNext.nd rfl (.inl rfl)) (pgs_cons (pg_name (i := 4) scNext.nd rfl (.inl rfl)) pgs_nil)))))
    (pss_cons (ps_asg (pe_op op_add (pv 4) pe_int) (pg_sub (pv 0) pe_int set_list))
    (pss_cons (ps_set (i := 5) scNext.nd rfl (.inl rfl) (pe_op op_mod (pv 4) (pe_callB call_len_seq rfl ml PySem.boot_len (pa_cons (pv 2) pa_nil))))
    (pss_cons (ps_if (pt_cmpR op_gt (pe_ix ix_list (pv 3) (pv 5) (fun _ _ => rfl)) pe_int (nomark _))
      (pss_cons (ps_set (i := 6) scNext.nd rfl (.inl rfl) (pe_op op_mod (pe_ix ix_list (pv 3) (pv 5) (fun _ _ => rfl)) (pv 1)))
      (pss_cons (ps_asg (pe_op op_fdiv (pe_ix ix_list (pv 3) (pv 5) (fun _ _ => rfl)) (pv 1)) (pg_sub (pv 3) (pv 5) set_list))
      (pss_one (ps_ret (pv 6))))) pss_nil)
    (pss_cons (ps_set (i := 7) scNext.nd rfl (.inl rfl) (pe_op op_mul (pe_op op_add (pe_op op_add (pe_ix ix_list (pv 2) (pv 5) (fun _ _ => rfl)) (pe_op op_mul pe_int (pv 4))) pe_int) (pe_op op_add pe_int (pe_op op_mul pe_int (pv 4)))))
    (pss_cons (ps_set (i := 7) scNext.nd rfl (.inl rfl) (pe_op op_mod (pe_op op_add (pv 7) (pe_op op_mul pe_int (pv 4))) pe_int))
    (pss_cons (ps_set (i := 7) scNext.nd rfl (.inl rfl) (pe_op op_mod (pe_op op_add (pe_op op_mul (pv 7) (pv 7)) pe_int) pe_int))
    (pss_cons (ps_set (i := 7) scNext.nd rfl (.inl rfl) (pe_op op_mod (pe_op op_mul (pv 7) (pv 7)) pe_int))
    (pss_one (ps_ret (pe_op op_mod (pe_op op_fdiv (pv 7) pe_int) (pv 1))))))))))), ?_⟩
  -- the three parts
  refine ⟨_, rfl, D.dk, _, rfl, SqL.of e1, rfl, _, _, rfl, _, _, rfl, _, _, rfl, rfl, ?_⟩
  -- deck[2] = count + 1
  refine ⟨_, rfl, _, _, rfl, rfl, _, rfl, D.dk, _, _, 2, rfl, rfl, e1, rfl, ?_⟩
  have x2 : (upd H D.dk (.lst [.ref D.ca, .ref D.ra, .int ((n : Int) + 1)])) D.ca = some (.lst (cells.map V.int)) := by rw [upd_ne d.dc.symm]; exact e2
  have x3 : (upd H D.dk (.lst [.ref D.ca, .ref D.ra, .int ((n : Int) + 1)])) D.ra = some (.lst (rests.map V.int)) := by rw [upd_ne d.dr.symm]; exact e3
  have x1 : (upd H D.dk (.lst [.ref D.ca, .ref D.ra, .int ((n : Int) + 1)])) D.dk = some (.lst [.ref D.ca, .ref D.ra, .int ((n + 1 : Nat) : Int)]) := upd_same
  have sd : SameD D H (upd H D.dk (.lst [.ref D.ca, .ref D.ra, .int ((n : Int) + 1)])) := fun b o h1 _ e => by rw [upd_ne h1]; exact e
  have cl : ((cells.map V.int).length : Int) = (cells.length : Int) := by rw [List.length_map]
  have rl : ((rests.map V.int).length : Int) = (cells.length : Int) := by rw [List.length_map, cr]
  -- index
  refine ⟨_, rfl, _, rfl, D.ca, _, rfl, .inl (SqL.of x2), _, _, rfl, rfl, (by show (0 : Int) < ((cells.map V.int).length : Int); rw [cl]; omega), ?_⟩
  have i0 : 0 ≤ (n : Int) % ((cells.map V.int).length : Int) := Int.emod_nonneg _ (by rw [cl]; omega)
  have i1 : (n : Int) % ((cells.map V.int).length : Int) < (cells.length : Int) := by
    rw [cl]
    exact Int.emod_lt_of_pos _ (by omega)
  have l1 : ((n : Int) % ((cells.map V.int).length : Int)).toNat < rests.length := by omega
  have l2 : ((n : Int) % ((cells.map V.int).length : Int)).toNat < cells.length := by omega
  have a1 := at_int i0 (List.getElem?_eq_getElem l1)
  have a2 := at_int i0 (List.getElem?_eq_getElem l2)
  refine ⟨_, rfl, _, rfl, D.ra, _, _, _, rfl, rfl, SqL.of x3, a1, _, _, rfl, rfl, _, rfl, ite2 (fun _ => ?_) (fun _ => ?_)⟩
  · refine ⟨_, rfl, _, rfl, D.ra, _, _, _, rfl, rfl, SqL.of x3, a1, _, rfl, _, _, rfl, rfl, m0, ?_⟩
    refine ⟨_, rfl, _, rfl, D.ra, _, _, _, rfl, rfl, SqL.of x3, a1, _, rfl, _, _, rfl, rfl, ⟨m0, by omega⟩, ?_⟩
    refine ⟨_, rfl, _, rfl, D.ra, _, _, _, rfl, rfl, x3, ixN_nat i0 (by rw [rl]; exact i1), ?_⟩
    refine ⟨_, rfl, ?_⟩
    refine q _ _ (Int.emod_nonneg _ (by omega)) (Int.emod_lt_of_pos _ m0) ⟨⟨cells, rests.set ((n : Int) % ((cells.map V.int).length : Int)).toNat (rests[((n : Int) % ((cells.map V.int).length : Int)).toNat] / m), ?_, ?_, ?_, c0, ?_, c1⟩, d.dc, d.dr, d.cr⟩ ?_
    · rw [upd_ne d.dr]; exact x1
    · rw [upd_ne d.cr]; exact x2
    · rw [upd_same, List.map_set]
    · rw [List.length_set]; exact cr
    · exact sd.trans fun b o _ h2 e => by rw [upd_ne h2]; exact e
  · refine ⟨_, rfl, _, rfl, D.ca, _, _, _, rfl, rfl, SqL.of x2, a2, _, rfl, _, _, rfl, rfl, .inl ⟨by decide, by decide⟩, _, _, rfl, rfl, _, _, rfl, rfl, _, rfl, _, _, rfl, rfl, .inl ⟨by decide, by decide⟩, _, _, rfl, rfl, _, _, rfl, rfl, .inr ⟨by omega, by omega⟩, ?_⟩
    refine ⟨_, rfl, _, rfl, _, _, rfl, rfl, .inl ⟨by decide, by decide⟩, _, _, rfl, rfl, _, _, rfl, rfl, (show (0 : Int) < 2305843009213693951 by decide), ?_⟩
    refine ⟨_, rfl, _, rfl, _, _, rfl, rfl, .inl (mod1 _), _, _, rfl, rfl, _, _, rfl, rfl, (show (0 : Int) < 2305843009213693921 by decide), ?_⟩
    refine ⟨_, rfl, _, rfl, _, _, rfl, rfl, .inl (mod2 _), _, _, rfl, rfl, (show (0 : Int) < 2305843009213693951 by decide), ?_⟩
    refine ⟨_, rfl, _, _, rfl, rfl, ⟨by decide, by decide⟩, _, rfl, _, _, rfl, rfl, m0, ?_⟩
    exact q _ _ (Int.emod_nonneg _ (by omega)) (Int.emod_lt_of_pos _ m0) ⟨⟨cells, rests, x1, x2, x3, c0, cr, c1⟩, d.dc, d.dr, d.cr⟩ sd
end
/-! ### _law_deck -/
theorem cut_to (xs : List V) (k : Nat) : cutV xs none (some (k : Int)) = xs.take k := by
  unfold cutV
  rw [HT.sIx_nat, HT.sIx_none, List.drop_zero, Nat.sub_zero]
  rw [Nat.min_def]
  split
  · rfl
  · rw [List.take_of_length_le (Nat.le_refl _), List.take_of_length_le (by omega)]
theorem cut_from (xs : List V) (k : Nat) : cutV xs (some (k : Int)) none = xs.drop k := by
  unfold cutV
  rw [HT.sIx_nat, HT.sIx_none]
  by_cases h : k ≤ xs.length
  · rw [Nat.min_eq_left h, List.take_of_length_le (by rw [List.length_drop]; omega)]
  · rw [Nat.min_eq_right (by omega), List.drop_eq_nil_of_le (Nat.le_refl _), List.drop_eq_nil_of_le (by omega), List.take_nil]
theorem kept {σ : L2.St} {H : Hp} {A B : Hp → Prop} (h : A H) : tYes σ H (fun b H3 => if b = true then A H3 else B H3) := by
  show if true = true then A H else B H
  exact iteT h
theorem scDeck : FnScope ["_law_script", "_law_cells", "_law_cell"] ["_law_script"] (defScope sDeck) := ⟨rfl, rfl, rfl, by decide +kernel, rfl, by decide +kernel, by decide +kernel⟩
def spDeck (K : PySem.W.Frag) : Sp := fun vs H Q _ => ∃ (a : Addr) (ns : List Int), vs = [.ref a] ∧ SqL K H a (ns.map V.int) ∧ ∀ (D : Deck) (H' : Hp), DeckOk H' D 0 → Same H H' → Q (.ref D.dk) H'
section
variable {P : Program} {w : World} {K : PySem.W.Frag} {mg : Str → Option Value} {base : Heap} {f : Addr} {fd : FuncData}
theorem ok_deck {k : Nat} (F : Fun K "_law_deck" "_law_deck" sDeck f fd) (ml : mg "len" = none) (ma : mg "abs" = none) (mi : mg "int" = none) : FnOk P w K mg base CX0 (k + 1) f fd ["_law_script"] (spDeck K) := by
  refine F.ok scDeck (fun vs H Q E h => ?_) (fun cdv A outer s H vs Q E hr h => ?_)
  · obtain ⟨a, ns, rfl, _⟩ := h
    rfl
  obtain ⟨a, ns, rfl, hS, q⟩ := h
  refine ⟨_, pss_cons (ps_set (i := 1) scDeck.nd rfl (.inl rfl) (pe_op op_cat
      (pe_lc (own := [("_law_cell", 2)]) (g := gName 2) (tt := tYes) rfl scDeck.nd (pi_list (pe_slice sl_list (pv 0) po_none (po_some pe_int))) (blkOk_by (N := ["_law_script", "_law_cells", "_law_cell"]) (sc := defScope sDeck) (by decide +kernel))
        (fun _ _ _ _ _ => pg_name (i := 2) scDeck.nd rfl (Or.inl rfl)) (fun _ _ _ _ _ => pts_nil) (fun _ _ _ _ _ => pe_callB call_abs rfl ma (by decide +kernel) (pa_cons (pv 2) pa_nil)))
      (pe_op op_rep (pe_lst (pa_cons pe_int pa_nil)) (pe_callTy call_int1 rfl mi (by decide +kernel) (pa_cons (pe_cmpR op_eq (pe_callB call_len_seq rfl ml PySem.boot_len (pa_cons (pv 0) pa_nil)) pe_int (nomark _)) pa_nil)))))
    (pss_one (ps_ret (pe_lst (pa_cons (pv 1) (pa_cons
      (pe_lc (own := [("_law_cell", 2)]) (g := gName 2) (tt := tYes) rfl scDeck.nd (pi_list (pv 1)) (blkOk_by (N := ["_law_script", "_law_cells", "_law_cell"]) (sc := defScope sDeck) (by decide +kernel))
        (fun _ _ _ _ _ => pg_name (i := 2) scDeck.nd rfl (Or.inl rfl)) (fun _ _ _ _ _ => pts_nil)
        (fun _ _ _ _ _ => pe_op op_mul (pv 2) (pe_callTy call_int1 rfl mi (by decide +kernel) (pa_cons (pe_cmpR op_ge (pv 2) (pe_op op_pow pe_int pe_int) (nomark _)) pa_nil))))
      (pa_cons pe_int pa_nil)))))), ?_⟩
  refine ⟨.ref a, rfl, 61, rfl, a, ns.map V.int, rfl, hS, fun c nc => ?_⟩
  rw [show (61 : Int) = ((61 : Nat) : Int) from rfl, cut_to, ← List.map_take]
  have s1 := same_new nc (.lst ((ns.take 61).map V.int))
  refine ⟨c, rfl, ⟨_, SqL.of upd_same⟩, fun d1 n1 => ?_⟩
  have s2 := same_new n1 (.lst [])
  refine lc_list (K := K) (a := c) (xs := (ns.take 61).map V.int) (fun i H' => Same (upd H c (.lst ((ns.take 61).map V.int))) H' ∧ ∃ zs : List Int, zs.length = i ∧ H' d1 = some (.lst (zs.map V.int))) ⟨s2, [], rfl, upd_same⟩ (fun i H' _ hp => SqL.of (hp.1 _ _ upd_same)) (fun i x H' hx hp => ?_) (fun H1 hp => ?_)
  · obtain ⟨sm, zs, hz, hd⟩ := hp
    rw [List.getElem?_map] at hx
    obtain ⟨y, hy, rfl⟩ := Option.map_eq_some_iff.mp hx
    have hi : i < 61 := by
      have := (List.getElem?_eq_some_iff.mp hy).1
      rw [List.length_take] at this
      omega
    refine ⟨rfl, kept ?_⟩
    refine ⟨_, rfl, _, rfl, _, hd, by rw [List.length_map]; exact small1000 (by omega), fun b o e => ?_, zs ++ [if y < 0 then -y else y], by rw [List.length_append, hz]; rfl, ?_⟩
    · rw [upd_ne (ne_of_none e n1)]
      exact sm _ _ e
    · rw [upd_same, List.map_append]
      rfl
  obtain ⟨sm, zs, hz, hd⟩ := hp
  rw [List.length_map, List.length_take] at hz
  refine ⟨(by show 1 ≤ sizeLine; decide), fun z nz => ?_⟩
  have s3 := same_new nz (.lst [.int 0])
  have sH : Same H H1 := s1.trans sm
  refine ⟨.ref a, rfl, a, _, rfl, .inl ((sH.trans s3).seq hS), rfl, .inr ⟨_, rfl, z, _, _, rfl, rfl, upd_same, ?_, ?_, ?_, fun y ny => ?_⟩⟩
  · split <;> decide
  · split <;> decide
  · split <;> decide
  have s4 := same_new ny (.lst (List.replicate (Int.toNat (if decide (V.int ((ns.map V.int).length : Int) = V.int 0) = true then 1 else 0)) [V.int 0]).flatten)
  obtain ⟨ex, hex, hexl⟩ : ∃ ex : List Int, (List.replicate (Int.toNat (if decide (V.int ((ns.map V.int).length : Int) = V.int 0) = true then 1 else 0)) [V.int 0]).flatten = ex.map V.int ∧ 0 < zs.length + ex.length ∧ zs.length + ex.length ≤ 61 := by
    by_cases h0 : ns.length = 0
    · refine ⟨[0], ?_, ?_, ?_⟩
      · rw [show (decide (V.int ((ns.map V.int).length : Int) = V.int 0)) = true by rw [List.length_map, h0]; rfl]
        rfl
      · exact Nat.succ_pos _
      · rw [hz, h0]
        decide
    · refine ⟨[], ?_, ?_, ?_⟩
      · rw [show (decide (V.int ((ns.map V.int).length : Int) = V.int 0)) = false by
          apply decide_eq_false
          intro z
          have z' := V.int.inj z
          rw [List.length_map] at z'
          omega]
        rfl
      · rw [List.length_nil]; omega
      · rw [List.length_nil]; omega
  refine ⟨d1, y, _, _, rfl, rfl, (s3.trans s4) _ _ hd, upd_same, ?_, fun p np => ?_⟩
  · rw [hex, List.length_map, List.length_map]
    exact small (by omega)
  have s5 := same_new np (.lst (zs.map V.int ++ (List.replicate (Int.toNat (if decide (V.int ((ns.map V.int).length : Int) = V.int 0) = true then 1 else 0)) [V.int 0]).flatten))
  have s6 := sH.trans (s3.trans (s4.trans s5))
  -- the second list
  refine ⟨.ref p, rfl, .ref p, rfl, p, rfl, ⟨_, SqL.of upd_same⟩, fun r nr => ?_⟩
  rw [hex, ← List.map_append] at s5 s6 nr ⊢
  generalize hH2 : upd (upd (upd H1 z (.lst [.int 0])) y (.lst (ex.map V.int))) p (.lst ((zs ++ ex).map V.int)) = H2 at s5 s6 nr ⊢
  have ep : H2 p = some (.lst ((zs ++ ex).map V.int)) := by rw [← hH2]; exact upd_same
  have hpr : p ≠ r := ne_of_none ep nr
  refine lc_list (K := K) (a := p) (xs := (zs ++ ex).map V.int) (fun i H' => Same H2 H' ∧ ∃ ys : List Int, ys.length = i ∧ H' r = some (.lst (ys.map V.int))) ⟨same_new nr _, [], rfl, upd_same⟩ (fun i H' _ hp => SqL.of (hp.1 _ _ ep)) (fun i x H' hx hp => ?_) (fun H3 hp => ?_)
  · obtain ⟨sm, ys, hy, hd⟩ := hp
    rw [List.getElem?_map] at hx
    obtain ⟨v, hv, rfl⟩ := Option.map_eq_some_iff.mp hx
    have hi : i < 61 := by
      have := (List.getElem?_eq_some_iff.mp hv).1
      rw [List.length_append] at this
      omega
    refine ⟨rfl, kept ?_⟩
    refine ⟨_, rfl, _, rfl, _, _, rfl, rfl, ⟨by decide, by decide, by decide⟩, _, _, rfl, rfl, .inr ⟨_, rfl, _, _, rfl, rfl, .inr ?_, _, hd, by rw [List.length_map]; exact small1000 (by omega), fun b o e => ?_, ys ++ [v * (if decide (v ≥ (10 : Int) ^ Int.toNat 18) = true then 1 else 0)], by rw [List.length_append, hy]; rfl, ?_⟩⟩
    · split <;> decide
    · rw [upd_ne (ne_of_none e nr)]
      exact sm _ _ e
    · rw [upd_same, List.map_append]
      rfl
  · obtain ⟨sm, ys, hy, hd⟩ := hp
    refine ⟨(by show 3 ≤ sizeLine; decide), fun t nt => ?_⟩
    have s9 := same_new nt (.lst [.ref p, .ref r, .int 0])
    have ep3 := sm _ _ ep
    refine q ⟨t, p, r⟩ _ ⟨⟨zs ++ ex, ys, upd_same, s9 _ _ ep3, s9 _ _ hd, ?_, ?_, ?_⟩, (ne_of_none ep3 nt).symm, (ne_of_none hd nt).symm, hpr⟩ (s6.trans (sm.trans s9))
    · rw [List.length_append]; omega
    · rw [hy, List.length_map]
    · rw [List.length_append]; omega
end
/-! ### _law_same, of equal data -/
theorem sqT_same {K : PySem.W.Frag} {H H' : Hp} {a : Addr} {xs : List V} (e : Same H H') (h : SqT K H a xs) : SqT K H' a xs := by
  rcases h with (h | ⟨o, h⟩) | h
  · exact .inl (.inl (e _ _ h))
  · exact .inl (.inr ⟨o, e _ _ h⟩)
  · exact .inr h
mutual
theorem dp_same {K : PySem.W.Frag} {H H' : Hp} (e : Same H H') : ∀ {v : V} {d : PyData}, Dp K H v d → Dp K H' v d
  | _, _, .non => .non
  | _, _, .bl b => .bl b
  | _, _, .int i => .int i
  | _, _, .str x => .str x
  | _, _, .lst h a => .lst (e.seq h) (dpAll_same e a)
  | _, _, .tup h a => .tup (sqT_same e h) (dpAll_same e a)
theorem dpAll_same {K : PySem.W.Frag} {H H' : Hp} (e : Same H H') : ∀ {vs : List V} {ds : List PyData}, DpAll K H vs ds → DpAll K H' vs ds
  | _, _, .nil => .nil
  | _, _, .cons h a => .cons (dp_same e h) (dpAll_same e a)
end
theorem dpAll_len {K : PySem.W.Frag} {H : Hp} : ∀ {vs : List V} {ds : List PyData}, DpAll K H vs ds → vs.length = ds.length
  | _, _, .nil => rfl
  | _, _, .cons _ a => congrArg (· + 1) (dpAll_len a)
theorem dpAll_get {K : PySem.W.Frag} {H : Hp} : ∀ {vs : List V} {ds : List PyData} {i : Nat} {d : PyData}, DpAll K H vs ds → ds[i]? = some d → ∃ v, vs[i]? = some v ∧ Dp K H v d
  | _, _, _, _, .nil, h => by simp at h
  | _, _, 0, _, .cons h _, e => by
    cases e
    exact ⟨_, rfl, h⟩
  | _, _, i + 1, _, .cons _ a, e => dpAll_get (i := i) a e
def tyD : PyData → String
  | .none => "NoneType"
  | .bool _ => "bool"
  | .int _ => "int"
  | .str _ => "str"
  | .list _ => "list"
  | .tuple _ => "tuple"
  | .dict _ => "dict"
theorem dp_ty {K : PySem.W.Frag} {H : Hp} {v : V} {d : PyData} (h : Dp K H v d) : TyX K H v (.type (tyD d)) := by
  cases h with
  | non => exact .base .non
  | bl b => exact .base (.bl b)
  | int i => exact .base (.int i)
  | str x => exact .base (.str x)
  | lst h _ =>
    rcases h with (h | ⟨o, h⟩) | ⟨o, its, n, h, hc, _⟩
    · exact .base (.lst h)
    · exact .base (.frz h)
    · exact .kList h hc
  | tup h _ =>
    rcases h with (h | ⟨o, h⟩) | ⟨o, its, n, h, hc, _⟩
    · exact .base (.tup h)
    · exact .fTuple h
    · exact .kTuple h hc
theorem kit_lt {K : PySem.W.Frag} {a : String} {r s : Bool} (h1 : kitB a "list" = some r) (h2 : kitB a "tuple" = some s) : PySem.W.kitAny K (.type a) [.type "list", .type "tuple"] = some (r || s) := by
  refine kitAny_cons (kit_ty h1) (fun e => kitAny_cons (kit_ty h2) (fun e2 => ?_) fun e2 => ?_) fun e => ?_
  · rw [kitAny_nil, e, e2]; rfl
  · rw [e2, Bool.or_true]
  · rw [e, Bool.true_or]
theorem depth_get : ∀ {ds : List PyData} {i : Nat} {d : PyData}, ds[i]? = some d → d.depth ≤ PyData.depthAll ds
  | [], _, _, h => by simp at h
  | x :: xs, 0, _, h => by
    cases h
    simp only [PyData.depthAll]
    omega
  | x :: xs, i + 1, d, h => by
    have := depth_get (ds := xs) (i := i) h
    simp only [PyData.depthAll]
    omega
mutual
def nar : PyData → Bool
  | .list xs => decide (xs.length ≤ 1000000) && narAll xs
  | .tuple xs => decide (xs.length ≤ 1000000) && narAll xs
  | .dict _ => false
  | .none => true
  | .bool _ => true
  | .int _ => true
  | .str _ => true
def narAll : List PyData → Bool
  | [] => true
  | x :: xs => nar x && narAll xs
end
theorem nar_get : ∀ {ds : List PyData} {i : Nat} {d : PyData}, ds[i]? = some d → narAll ds = true → nar d = true
  | [], _, _, h, _ => by simp at h
  | x :: xs, 0, _, h, k => by
    cases h
    simp only [narAll, Bool.and_eq_true] at k
    exact k.1
  | x :: xs, i + 1, d, h, k => by
    simp only [narAll, Bool.and_eq_true] at k
    exact nar_get (ds := xs) (i := i) h k.2
theorem scSame : FnScope ["_law_found", "_law_due_here", "_law_k"] ["_law_found", "_law_due_here"] (defScope sSame) := ⟨rfl, rfl, rfl, by decide +kernel, rfl, by decide +kernel, by decide +kernel⟩
def spSame (K : PySem.W.Frag) (n : Nat) : Sp := fun vs H Q _ => ∃ (v v' : V) (d : PyData), vs = [v, v'] ∧ Dp K H v d ∧ Dp K H v' d ∧ d.depth < n ∧ nar d = true ∧ ∀ H', Same H H' → Q (.bl true) H'
structure Mgs (mg : Str → Option Value) : Prop where
  len : mg "len" = none
  isi : mg "isinstance" = none
  list : mg "list" = none
  tuple : mg "tuple" = none
  str : mg "str" = none
  int : mg "int" = none
  bool : mg "bool" = none
  range : mg "range" = none
theorem dp_two {K : PySem.W.Frag} {H : Hp} {v v' : V} {d : PyData} {n : Nat} (h : Dp K H v d) (h' : Dp K H v' d) (hd : d.depth < n + 1) (hn : nar d = true) :
    (∃ (p p' : Addr) (xs xs' : List V) (ds : List PyData) (bl : Bool) (ty : String), v = .ref p ∧ v' = .ref p' ∧ (SqL K H p xs ∨ SqT K H p xs) ∧ (SqL K H p' xs' ∨ SqT K H p' xs') ∧ DpAll K H xs ds ∧ DpAll K H xs' ds ∧
      TyX K H v (.type ty) ∧ TyX K H v' (.type ty) ∧ kitB ty "list" = some bl ∧ kitB ty "tuple" = some (!bl) ∧ PyData.depthAll ds < n ∧ ds.length ≤ 1000000 ∧ narAll ds = true) ∨ (v = v' ∧ (v = .non ∨ (∃ b, v = .bl b) ∨ (∃ i, v = .int i) ∨ ∃ x, v = .str x)) := by
  have t1 := dp_ty h
  have t2 := dp_ty h'
  cases h with
  | non =>
    cases h'
    exact .inr ⟨rfl, .inl rfl⟩
  | bl b =>
    cases h'
    exact .inr ⟨rfl, .inr (.inl ⟨b, rfl⟩)⟩
  | int b =>
    cases h'
    exact .inr ⟨rfl, .inr (.inr (.inl ⟨b, rfl⟩))⟩
  | str b =>
    cases h'
    exact .inr ⟨rfl, .inr (.inr (.inr ⟨b, rfl⟩))⟩
  | lst h a =>
    cases h' with
    | lst h' a' =>
      simp only [PyData.depth] at hd
      simp only [nar, Bool.and_eq_true, decide_eq_true_eq] at hn
      exact .inl ⟨_, _, _, _, _, true, "list", rfl, rfl, .inl h, .inl h', a, a', t1, t2, by decide +kernel, by decide +kernel, by omega, hn.1, hn.2⟩
  | tup h a =>
    cases h' with
    | tup h' a' =>
      simp only [PyData.depth] at hd
      simp only [nar, Bool.and_eq_true, decide_eq_true_eq] at hn
      exact .inl ⟨_, _, _, _, _, false, "tuple", rfl, rfl, .inr h, .inr h', a, a', t1, t2, by decide +kernel, by decide +kernel, by omega, hn.1, hn.2⟩
theorem seq_same {K : PySem.W.Frag} {H H' : Hp} {p : Addr} {xs : List V} (e : Same H H') (h : SqL K H p xs ∨ SqT K H p xs) : SqL K H' p xs ∨ SqT K H' p xs := h.elim (fun h => .inl (e.seq h)) fun h => .inr (sqT_same e h)
theorem seq_ix {K : PySem.W.Frag} {H : Hp} {p : Addr} {xs : List V} {i : Int} {v : V} {Q : VK} (h : SqL K H p xs ∨ SqT K H p xs) (a : atI xs i = some v) (q : Q v H) : rIx K (.ref p) (.int i) H Q :=
  h.elim (fun h => .inl ⟨p, xs, i, v, rfl, rfl, h, a, q⟩) fun h => .inr (.inl ⟨p, xs, i, v, rfl, rfl, h, a, q⟩)
theorem tyX_same {K : PySem.W.Frag} {H H' : Hp} {v : V} {d : PyData} (e : Same H H') (h : Dp K H v d) : TyX K H' v (.type (tyD d)) := dp_ty (dp_same e h)
section
variable {P : Program} {w : World} {K : PySem.W.Frag} {mg : Str → Option Value} {base : Heap} {f : Addr} {fd : FuncData}
theorem ok_same (F : Fun K "_law_same" "_law_same" sSame f fd) (b : Binds K fd ["_law_found", "_law_due_here"] []) (g : mg "_law_same" = some (.ref f)) (M : Mgs mg) : ∀ n : Nat, FnOk P w K mg base CX0 n f fd ["_law_found", "_law_due_here"] (spSame K n)
  | 0 => by
    have no : ∀ vs H Q E, ¬ spSame K 0 vs H Q E := fun vs H Q E h => by
      obtain ⟨v, t, d, _, _, _, h1, _, _⟩ := h
      omega
    exact ⟨fun vs H Q E h => absurd h (no vs H Q E), fun A outer s H args us vs Q E _ _ _ _ h => absurd h (no vs H Q E)⟩
  | n + 1 => by
    have G := ok_same F b g M n
    refine F.ok scSame (fun vs H Q E h => ?_) (fun cdv A outer s H vs Q E hr h => ?_)
    · obtain ⟨v, t, d, rfl, _⟩ := h
      rfl
    obtain ⟨v, v', d, rfl, hv, hv', hd, hna, q⟩ := h
    have bi : bootBuiltins "isinstance" = some (.builtin "isinstance") := by decide +kernel
    refine ⟨_, pss_cons (ps_if (pt_val (pe_callB call_isiT rfl M.isi bi (pa_cons (pv 1) (pa_cons (pe_tup (pa_cons (pe_bltn (v := .ty "list") rfl M.list (by decide +kernel) rfl) (pa_cons (pe_bltn (v := .ty "tuple") rfl M.tuple (by decide +kernel) rfl) pa_nil))) pa_nil))))
        (pss_cons (ps_if (PW.pt (pw_or (pt_cmpR op_ne (pe_callB call_isi rfl M.isi bi (pa_cons (pv 0) (pa_cons (pe_bltn (v := .ty "list") rfl M.list (by decide +kernel) rfl) pa_nil))) (pe_callB call_isi rfl M.isi bi (pa_cons (pv 1) (pa_cons (pe_bltn (v := .ty "list") rfl M.list (by decide +kernel) rfl) pa_nil))) (nomark _))
            (pw_or1 (pt_cmpR op_ne (pe_callB call_isi rfl M.isi bi (pa_cons (pv 0) (pa_cons (pe_bltn (v := .ty "tuple") rfl M.tuple (by decide +kernel) rfl) pa_nil))) (pe_callB call_isi rfl M.isi bi (pa_cons (pv 1) (pa_cons (pe_bltn (v := .ty "tuple") rfl M.tuple (by decide +kernel) rfl) pa_nil))) (nomark _))))) (pss_one (ps_ret pe_bl)) pss_nil)
        (pss_cons (ps_if (pt_cmpR op_ne (pe_callB call_len_seq rfl M.len PySem.boot_len (pa_cons (pv 0) pa_nil)) (pe_callB call_len_seq rfl M.len PySem.boot_len (pa_cons (pv 1) pa_nil)) (nomark _)) (pss_one (ps_ret pe_bl)) pss_nil)
        (pss_one (ps_ret (pe_cmpR (op_eqD hr.units) (pe_lc (own := [("_law_k", 2)]) (g := gName 2) rfl scSame.nd (pi_range1 rfl M.range (pa_cons (pe_callB call_len_seq rfl M.len PySem.boot_len (pa_cons (pv 1) pa_nil)) pa_nil)) (blkOk_by (N := ["_law_found", "_law_due_here", "_law_k"]) (sc := defScope sSame) (by decide +kernel))
            (fun _ _ _ _ _ => pg_name (i := 2) scSame.nd rfl (Or.inl rfl)) (fun _ _ _ _ _ => pts_one (pt_not (pt_val (pe_call G hr rfl g F.kp b .nil pass0 (pa_cons (pe_ix (show IxR _ (rIx K) from ix_seq) (pv 0) (pv 2) (fun _ _ => rfl)) (pa_cons (pe_ix (show IxR _ (rIx K) from ix_seq) (pv 1) (pv 2) (fun _ _ => rfl)) pa_nil)))))) (fun _ _ _ _ _ => pv 2))
          (pe_lst pa_nil) (nomark _)))))) pss_nil)
      (pss_cons (ps_if (pt_cmpR op_isN (pv 1) pe_non (nomark _)) (pss_one (ps_ret (pe_cmpR op_isN (pv 0) pe_non (nomark _)))) pss_nil)
      (pss_cons (ps_if (pt_val (pe_callB call_isi rfl M.isi bi (pa_cons (pv 1) (pa_cons (pe_bltn (v := .ty "str") rfl M.str (by decide +kernel) rfl) pa_nil)))) (pss_one (ps_ret (pe_and (pe_callB call_isi rfl M.isi bi (pa_cons (pv 0) (pa_cons (pe_bltn (v := .ty "str") rfl M.str (by decide +kernel) rfl) pa_nil))) (pe_one (pe_cmpR op_eq (pv 0) (pv 1) (nomark _)))))) pss_nil)
      (pss_one (ps_ret (pe_and (pe_callB call_isi rfl M.isi bi (pa_cons (pv 0) (pa_cons (pe_bltn (v := .ty "int") rfl M.int (by decide +kernel) rfl) pa_nil)))
        (pe_and (pe_cmpR op_eq (pe_callB call_isi rfl M.isi bi (pa_cons (pv 0) (pa_cons (pe_bltn (v := .ty "bool") rfl M.bool (by decide +kernel) rfl) pa_nil))) (pe_callB call_isi rfl M.isi bi (pa_cons (pv 1) (pa_cons (pe_bltn (v := .ty "bool") rfl M.bool (by decide +kernel) rfl) pa_nil))) (nomark _)) (pe_one (pe_cmpR op_eq (pv 0) (pv 1) (nomark _))))))))), ?_⟩
    refine ⟨v', rfl, (by show 2 ≤ sizeLine; decide), fun tp np => ?_⟩
    have s1 := same_new np (.tup [.ty "list", .ty "tuple"])
    have hw := dp_same s1 hv
    have hw' := dp_same s1 hv'
    have pr : Paired ClsV [V.ty "list", V.ty "tuple"] [Value.type "list", Value.type "tuple"] := .cons (.ty _) (.cons (.ty _) .nil)
    rcases dp_two hw hw' hd hna with ⟨p, p', xs, xs', ds, bl, ty, rfl, rfl, hq, hq', ha, ha', ht, ht', k1, k2, hdd, hwl, hwn⟩ | ⟨rfl, hk⟩
    · have ka : PySem.W.kitAny K (.type ty) [.type "list", .type "tuple"] = some true := by
        rw [kit_lt k1 k2]
        cases bl <;> rfl
      have hl := dpAll_len ha
      have hl' := dpAll_len ha'
      refine ⟨_, tp, _, _, _, true, rfl, upd_same, pr, ht', ka, _, rfl, iteT ?_⟩
      refine ⟨_, rfl, _, _, _, _, bl, rfl, .ty _, ht, kit_ty k1, _, rfl, _, _, _, _, bl, rfl, .ty _, ht', kit_ty k1, by cases bl <;> rfl, _, rfl, iteNS rfl ?_⟩
      refine ⟨_, rfl, _, _, _, _, !bl, rfl, .ty _, ht, kit_ty k2, _, rfl, _, _, _, _, !bl, rfl, .ty _, ht', kit_ty k2, by cases bl <;> rfl, _, rfl, iteNS rfl ?_⟩
      refine ⟨_, rfl, p, xs, rfl, hq, _, rfl, p', xs', rfl, hq', rfl, _, rfl, iteNS (by rw [hl, hl']) ?_⟩
      refine ⟨_, rfl, p', xs', rfl, hq', _, rfl, ?_, ?_, fun D nD => ?_⟩
      · omega
      · omega
      have s2 := same_new nD (.lst [])
      rw [Int.toNat_natCast]
      refine lc_range (lo := 0) (n := xs'.length) (fun i H' => Same (upd H tp (.tup [.ty "list", .ty "tuple"])) H' ∧ H' D = some (.lst [])) ⟨s2, upd_same⟩ (fun i H' hi hp => ?_) (fun H' hp => ?_)
      · obtain ⟨sm, eD⟩ := hp
        obtain ⟨di, edi⟩ : ∃ di, ds[i]? = some di := ⟨_, List.getElem?_eq_getElem (by omega)⟩
        obtain ⟨x, ex, hx⟩ := dpAll_get ha edi
        obtain ⟨x', ex', hx'⟩ := dpAll_get ha' edi
        have hdi := depth_get edi
        have e0 : (0 : Int) + (i : Int) = ((i : Nat) : Int) := by omega
        rw [e0]
        refine ⟨rfl, ?_⟩
        refine ⟨_, rfl, _, rfl, seq_ix (seq_same sm hq) (atI_nat ex) ⟨_, rfl, _, rfl, seq_ix (seq_same sm hq') (atI_nat ex') ⟨x, x', di, rfl, dp_same sm hx, dp_same sm hx', by omega, nar_get edi hwn, fun H'' s'' => ?_⟩⟩⟩
        exact ⟨_, rfl, iteF ⟨sm.trans s'', s'' _ _ eD⟩⟩
      · obtain ⟨sm, eD⟩ := hp
        refine ⟨(by show 0 ≤ sizeLine; decide), fun e ne => ?_⟩
        refine ⟨.list [], .list [], .lst (SqL.of ((same_new ne _) _ _ eD)) .nil, .lst (SqL.of upd_same) .nil, rfl, rfl, ?_⟩
        exact q _ (s1.trans (sm.trans (same_new ne _)))
    · have fin := q _ s1
      rcases hk with rfl | ⟨c, rfl⟩ | ⟨c, rfl⟩ | ⟨c, rfl⟩
      · refine ⟨_, tp, _, _, _, false, rfl, upd_same, pr, .base .non, kit_lt (r := false) (s := false) (by decide +kernel) (by decide +kernel), _, rfl, iteF ?_⟩
        refine ⟨_, rfl, rfl, _, rfl, iteT ?_⟩
        exact ⟨_, rfl, rfl, fin⟩
      · refine ⟨_, tp, _, _, _, false, rfl, upd_same, pr, .base (.bl c), kit_lt (r := false) (s := false) (by decide +kernel) (by decide +kernel), _, rfl, iteF ?_⟩
        refine ⟨_, rfl, rfl, _, rfl, iteF ?_⟩
        refine ⟨_, rfl, _, _, _, _, false, rfl, .ty _, .base (.bl c), kit_ty (by decide +kernel), _, rfl, iteF ?_⟩
        refine ⟨_, rfl, _, _, _, _, true, rfl, .ty _, .base (.bl c), kit_ty (by decide +kernel), _, rfl, iteT ?_⟩
        refine ⟨_, rfl, _, _, _, _, true, rfl, .ty _, .base (.bl c), kit_ty (by decide +kernel), _, rfl, _, _, _, _, true, rfl, .ty _, .base (.bl c), kit_ty (by decide +kernel), rfl, _, rfl, iteT ?_⟩
        refine ⟨_, rfl, _, rfl, by cases c <;> rfl, ?_⟩
        rw [decide_eq_true rfl]
        exact fin
      · refine ⟨_, tp, _, _, _, false, rfl, upd_same, pr, .base (.int c), kit_lt (r := false) (s := false) (by decide +kernel) (by decide +kernel), _, rfl, iteF ?_⟩
        refine ⟨_, rfl, rfl, _, rfl, iteF ?_⟩
        refine ⟨_, rfl, _, _, _, _, false, rfl, .ty _, .base (.int c), kit_ty (by decide +kernel), _, rfl, iteF ?_⟩
        refine ⟨_, rfl, _, _, _, _, true, rfl, .ty _, .base (.int c), kit_ty (by decide +kernel), _, rfl, iteT ?_⟩
        refine ⟨_, rfl, _, _, _, _, false, rfl, .ty _, .base (.int c), kit_ty (by decide +kernel), _, rfl, _, _, _, _, false, rfl, .ty _, .base (.int c), kit_ty (by decide +kernel), rfl, _, rfl, iteT ?_⟩
        refine ⟨_, rfl, _, rfl, rfl, ?_⟩
        rw [decide_eq_true rfl]
        exact fin
      · refine ⟨_, tp, _, _, _, false, rfl, upd_same, pr, .base (.str c), kit_lt (r := false) (s := false) (by decide +kernel) (by decide +kernel), _, rfl, iteF ?_⟩
        refine ⟨_, rfl, rfl, _, rfl, iteF ?_⟩
        refine ⟨_, rfl, _, _, _, _, true, rfl, .ty _, .base (.str c), kit_ty (by decide +kernel), _, rfl, iteT ?_⟩
        refine ⟨_, rfl, _, _, _, _, true, rfl, .ty _, .base (.str c), kit_ty (by decide +kernel), _, rfl, iteT ?_⟩
        refine ⟨_, rfl, _, rfl, rfl, ?_⟩
        rw [decide_eq_true rfl]
        exact fin
end
/-! ### list(text) -/
theorem vals_signs : ∀ (l : List Nat) (vs : List Value), vs.length = l.length → (∀ (j : Nat) (v : Value), vs[j]? = some v → ∃ c u, l[j]? = some c ∧ v = .str ⟨#[c]⟩ u) → Vals (l.map fun c => V.str ⟨#[c]⟩) vs
  | [], [], _, _ => .nil
  | [], _ :: _, h, _ => by simp at h
  | _ :: _, [], h, _ => by simp at h
  | c :: l, v :: vs, h, k => by
    obtain ⟨c', u, e, rfl⟩ := k 0 v rfl
    cases e
    exact .cons ⟨u, rfl⟩ (vals_signs l vs (by simpa using h) fun j v e => k (j + 1) v e)
theorem call_signs {X : Cx} (hc : X.calm = true) : CallR X (.type "list") (fun xs H Q => ∃ x : Str, xs = [.str x] ∧ x.cps.size ≤ 1000 ∧ ∀ p, H p = none → Q (.ref p) (upd H p (.lst (x.cps.toList.map fun c => V.str ⟨#[c]⟩)))) := by
  intro pins s σ H xs us Q I r h
  obtain ⟨x, rfl, hz, q⟩ := h
  obtain ⟨u, rfl, t, rfl⟩ := vals1 r
  have hz' : x.cps.size ≤ sizeLine := small hz
  refine call_list_str (I.ok.hd hc) x t (fun h' tk acc' c' hk hS hacc => ?_) hz'
  have hv : Vals (x.cps.toList.map fun c => V.str ⟨#[c]⟩) acc'.toList := vals_signs _ _ (by rw [Array.length_toList, Array.length_toList]; exact hacc.1) fun j v e => by
    obtain ⟨c, u, h1, h2⟩ := hacc.2 j v (by rw [← Array.getElem?_toList]; exact e)
    exact ⟨c, u, by rw [Array.getElem?_toList]; exact h1, h2⟩
  exact ⟨.ref s.heap.objs.size, _, I.laid (t' := tk) hk (Nat.le_refl _) (show ObjOk X.prog X.w _ h' _ (.lst _) from ⟨by rw [List.length_map, Array.length_toList]; exact hz', acc'.toList, c', hv, by rw [Array.toArray_toList]; exact hS⟩), rfl, q _ (I.hok.fresh (Nat.le_refl _))⟩
/-! ### _law_letters -/
theorem erase_map {α β : Type} (f : α → β) : ∀ (l : List α) (i : Nat), (l.map f).eraseIdx i = (l.eraseIdx i).map f
  | [], _ => rfl
  | _ :: _, 0 => rfl
  | x :: l, i + 1 => congrArg (f x :: ·) (erase_map f l i)
def Ltr (x : Str) : Prop := ∃ c : Nat, 97 ≤ c ∧ c ≤ 122 ∧ x = ⟨#[c]⟩
def abc : List Str := (List.range 26).map fun c => ⟨#[c + 97]⟩
theorem abc_ltr : ∀ x ∈ abc, Ltr x := fun x h => by
  unfold abc at h
  obtain ⟨c, hc, rfl⟩ := List.mem_map.mp h
  have := List.mem_range.mp hc
  exact ⟨c + 97, by omega, by omega, rfl⟩
theorem abc_is : ((Str.ofString "abcdefghijklmnopqrstuvwxyz").cps.toList.map fun c => V.str ⟨#[c]⟩) = abc.map V.str := by decide +kernel
theorem abc_len : abc.length = 26 := by decide +kernel
theorem scLett : FnScope ["_law_deck_here", "_law_size", "_law_way", "_law_some", "_law_found", "_law_k"] ["_law_deck_here", "_law_size"] (defScope sLett) := ⟨rfl, rfl, rfl, by decide +kernel, rfl, by decide +kernel, by decide +kernel⟩
def spLett : Sp := fun vs H Q _ => ∃ (D : Deck) (n m : Nat), vs = [.ref D.dk, .int (m : Int)] ∧ DeckOk H D n ∧ n + m + 1 ≤ 1000000 ∧ 1 ≤ m ∧ m ≤ 26 ∧ ∀ (p : Addr) (xs : List Str) (n' : Nat) (H' : Hp), DeckOk H' D n' → n' ≤ n + m + 1 → SameD D H H' →
  H' p = some (.lst (xs.map V.str)) → xs.length = m → (∀ x ∈ xs, Ltr x) → Off D p → Q (.ref p) H'
section
variable {P : Program} {w : World} {K : PySem.W.Frag} {mg : Str → Option Value} {base : Heap} {f fN : Addr} {fd fdN : FuncData}
theorem ok_lett {k : Nat} (F : Fun K "_law_letters" "_law_letters" sLett f fd) (G : FnOk P w K mg base CX0 k fN fdN ["_law_deck_here", "_law_many"] spNext) (bN : Binds K fdN ["_law_deck_here", "_law_many"] []) (kN : PySem.W.keepIn K (.ref fN) = true) (gN : mg "_law_next" = some (.ref fN)) (M : Mgs mg) (ms : mg "sorted" = none) :
    FnOk P w K mg base CX0 (k + 1) f fd ["_law_deck_here", "_law_size"] spLett := by
  refine F.ok scLett (fun vs H Q E h => ?_) (fun cdv A outer s H vs Q E hr h => ?_)
  · obtain ⟨D, n, m, rfl, _⟩ := h
    rfl
  obtain ⟨D, n, m, rfl, d, hn, m0, m1, q⟩ := h
  refine ⟨_, pss_cons (ps_asg (pe_tup (pa_cons (pe_call G hr rfl gN kN bN .nil pass0 (pa_cons (pv 0) (pa_cons pe_int pa_nil))) (pa_cons (pe_callTy (call_signs rfl) rfl M.list (by decide +kernel) (pa_cons pe_str pa_nil)) pa_nil))) (pg_tup rfl (pgs_cons (pg_name (i := 2) scLett.nd rfl (.inl rfl)) (pgs_cons (pg_name (i := 3) scLett.nd rfl (.inr rfl)) pgs_nil))))
    (pss_cons (ps_if (pt_cmpR op_eq (pv 2) pe_int (nomark _)) (pss_one (ps_ret (pe_op op_rep (pe_lst (pa_cons (pe_ix ix_list (pv 3) (pe_call G hr rfl gN kN bN .nil pass0 (pa_cons (pv 0) (pa_cons pe_int pa_nil))) (fun _ _ => rfl)) pa_nil)) (pv 1)))) pss_nil)
    (pss_cons (ps_if (pt_cmpR op_eq (pv 2) pe_int (nomark _)) (pss_one (ps_ret (pe_lc (own := [("_law_k", 5)]) (g := gName 5) (tt := tYes) rfl scLett.nd (pi_range1 rfl M.range (pa_cons (pv 1) pa_nil)) (blkOk_by (N := ["_law_deck_here", "_law_size", "_law_way", "_law_some", "_law_found", "_law_k"]) (sc := defScope sLett) (by decide +kernel))
        (fun _ _ _ _ _ => pg_name (i := 5) scLett.nd rfl (Or.inl rfl)) (fun _ _ _ _ _ => pts_nil) (fun _ _ _ _ _ => pe_ix (show IxR _ (rIxL K) from ix_list) (pv 3) (pe_call G hr rfl gN kN bN .nil pass0 (pa_cons (pv 0) (pa_cons pe_int pa_nil))) (fun _ _ => rfl))))) pss_nil)
    (pss_cons (ps_set (i := 4) scLett.nd rfl (.inl rfl) (pe_lst pa_nil))
    (pss_cons (ps_while PassesOwn.never (pt_cmpR op_lt (pe_callB call_len_seq rfl M.len PySem.boot_len (pa_cons (pv 4) pa_nil)) (pv 1) (nomark _))
      (pss_one (ps_expr (pe_bm PySem.F.plainAttrs_list PySem.F.slot_list_append PySem.F.type_list_append mt_append (pv 4) (pa_cons
        (pe_bm PySem.F.plainAttrs_list PySem.F.slot_list_pop PySem.F.type_list_pop mt_popAt (pv 3) (pa_cons (pe_call G hr rfl gN kN bN .nil pass0 (pa_cons (pv 0) (pa_cons (pe_callB call_len_seq rfl M.len PySem.boot_len (pa_cons (pv 3) pa_nil)) pa_nil))) pa_nil)) pa_nil)))))
    (pss_one (ps_ret (pe_ifExp (pt_cmpR op_eq (pv 2) pe_int (nomark _)) (pv 4) (pe_callB cr_sortedS rfl ms (by decide +kernel) (pa_cons (pv 4) pa_nil))))))))), ?_⟩
  refine ⟨_, rfl, D, n, 4, rfl, d, by omega, by decide, by decide, fun wy H1 w0 w1 d1 s1 => ?_⟩
  refine ⟨_, rfl, by decide +kernel, fun sa nsa => ⟨(by show 2 ≤ sizeLine; decide), fun tp ntp => ?_⟩⟩
  rw [abc_is] at ntp ⊢
  refine ⟨tp, _, rfl, SqT.of upd_same, rfl, _, _, rfl, _, _, rfl, rfl, ?_⟩
  have q1 := same_new nsa (.lst (abc.map V.str))
  have q2 := same_new ntp (.tup [.int wy, .ref sa])
  have d2 := (d1.same q1).same q2
  have sd : SameD D H (upd (upd H1 sa (.lst (abc.map V.str))) tp (.tup [.int wy, .ref sa])) := s1.trans (.of (q1.trans q2))
  have esa : (upd (upd H1 sa (.lst (abc.map V.str))) tp (.tup [.int wy, .ref sa])) sa = some (.lst (abc.map V.str)) := q2 _ _ upd_same
  have nsaH : H sa = none := s1.free d1 nsa
  have na := d1.new nsa
  generalize upd (upd H1 sa (.lst (abc.map V.str))) tp (.tup [.int wy, .ref sa]) = H2 at d2 sd esa
  have al := abc_len
  have abcI : ∀ i : Int, 0 ≤ i → i < 26 → ∃ x, atI (abc.map V.str) i = some (.str x) ∧ Ltr x := fun i h0 h1 => by
    have hl : i.toNat < abc.length := by omega
    exact ⟨abc[i.toNat], at_map h0 (List.getElem?_eq_getElem hl), abc_ltr _ (List.getElem_mem hl)⟩
  -- way == 2
  refine ⟨_, rfl, rfl, _, rfl, ite2 (fun _ => ?_) (fun _ => ?_)⟩
  · refine ⟨_, rfl, _, rfl, D, n + 1, 26, rfl, d2, by omega, by decide, by decide, fun i H3 i0 i1 d3 s3 => ?_⟩
    obtain ⟨x, hx, lx⟩ := abcI i i0 i1
    refine ⟨sa, _, _, _, rfl, rfl, SqL.of (s3.at na esa), hx, (by show 1 ≤ sizeLine; decide), fun l nl => ?_⟩
    refine ⟨_, rfl, l, _, _, rfl, rfl, upd_same, by omega, by omega, ?_, fun p np => ?_⟩
    · rw [Int.toNat_natCast]
      exact small (by show 1 * m ≤ 1000; omega)
    rw [Int.toNat_natCast]
    rw [rep_flat, ← List.map_replicate]
    have q3 := same_new nl (.lst [.str x])
    have q4 := same_new np (.lst ((List.replicate m x).map V.str))
    have d5 := (d3.same q3).same q4
    have nd := (d3.same q3).new np
    refine q p (List.replicate m x) (n + 1 + 1) _ d5 (by omega) (sd.trans (s3.trans (.of (q3.trans q4)))) upd_same (List.length_replicate) (fun y hy => ?_) nd
    rw [List.eq_of_mem_replicate hy]
    exact lx
  -- way == 3
  refine ⟨_, rfl, rfl, _, rfl, ite2 (fun _ => ?_) (fun _ => ?_)⟩
  · refine ⟨_, rfl, _, rfl, by omega, by omega, fun L nL => ?_⟩
    have nd := d2.new nL
    rw [Int.toNat_natCast]
    refine lc_range (lo := 0) (n := m) (fun i H' => ∃ n', DeckOk H' D n' ∧ n' ≤ n + 1 + i ∧ SameD D H2 H' ∧ ∃ xs : List Str, xs.length = i ∧ (∀ x ∈ xs, Ltr x) ∧ H' L = some (.lst (xs.map V.str))) ⟨n + 1, d2.same (same_new nL _), by omega, .of (same_new nL _), [], rfl, (fun _ h => nomatch h), upd_same⟩ (fun i H' hi hp => ?_) (fun H' hp => ?_)
    · obtain ⟨n', d', hn', s', xs, hxl, hxs, eL⟩ := hp
      refine ⟨rfl, kept ?_⟩
      refine ⟨_, rfl, _, rfl, D, n', 2, rfl, d', by omega, by decide, by decide, fun j H4 j0 j1 d4 s4 => ?_⟩
      obtain ⟨x, hx, lx⟩ := abcI j j0 (by omega)
      have e4 := s4.at nd eL
      refine ⟨sa, _, _, _, rfl, rfl, SqL.of (s4.at na (s'.at na esa)), hx, _, e4, by rw [List.length_map]; exact small1000 (by omega), n' + 1, d4.put nd _, by omega, (s'.trans s4).put nL _, xs ++ [x], by rw [List.length_append, hxl]; rfl, fun y hy => ?_, ?_⟩
      · rcases List.mem_append.mp hy with h | h
        · exact hxs y h
        · rw [List.mem_singleton.mp h]
          exact lx
      · rw [upd_same, List.map_append]
        rfl
    · obtain ⟨n', d', hn', s', xs, hxl, hxs, eL⟩ := hp
      exact q L xs n' H' d' (by omega) (sd.trans s') eL hxl hxs nd
  refine ⟨(by show 0 ≤ sizeLine; decide), fun fa nfa => ?_⟩
  have nf := d2.new nfa
  have nsf : sa ≠ fa := ne_of_none esa nfa
  have nfH : H fa = none := sd.free d2 nfa
  refine while_by (fun σ H' => σ = [some (.ref D.dk), some (.int (m : Int)), some (.int wy), some (.ref sa), some (.ref fa), none] ∧ ∃ (n' : Nat) (xs rest : List Str), DeckOk H' D n' ∧ n' ≤ n + 1 + xs.length ∧ SameD D H H' ∧ xs.length ≤ m ∧ xs.length + rest.length = 26 ∧ (∀ x ∈ xs, Ltr x) ∧ (∀ x ∈ rest, Ltr x) ∧ H' fa = some (.lst (xs.map V.str)) ∧ H' sa = some (.lst (rest.map V.str)))
    (fun σ H' => match H' fa with | some (.lst xs) => m - xs.length | _ => 0) ⟨rfl, n + 1, [], abc, d2.put nf _, by omega, sd.put nfH _, Nat.zero_le _, by rw [al]; rfl, (fun _ h => nomatch h), abc_ltr, upd_same, by rw [upd_ne nsf]; exact esa⟩ (fun σ H' hp => ?_) ?_
  · obtain ⟨rfl, n', xs, rest, d', hn', s', hm, h26, hxs, hrs, ef, es⟩ := hp
    refine ⟨_, rfl, fa, _, rfl, .inl (SqL.of ef), _, rfl, _, _, rfl, rfl, _, rfl, ite2 (fun c => ?_) (fun c => ?_)⟩
    · have c' : ((xs.map V.str).length : Int) < (m : Int) := of_decide_eq_true c
      rw [List.length_map] at c'
      refine ⟨.ref fa, rfl, .inl ⟨rfl, _, SqL.of ef⟩, .ref sa, rfl, .inl ⟨rfl, _, SqL.of es⟩, _, rfl, _, rfl, sa, _, rfl, .inl (SqL.of es), D, n', _, rfl, d', by omega, ?_, ?_, fun j H4 j0 j1 d4 s4 => ?_⟩
      · rw [List.length_map]; omega
      · rw [List.length_map]; omega
      rw [List.length_map] at j1
      have hj : j.toNat < rest.length := by omega
      have es4 := s4.at na es
      have ef4 := s4.at nf ef
      refine ⟨sa, _, j, j.toNat, .str rest[j.toNat], rfl, rfl, es4, by omega, by omega, ?_, ?_, ?_⟩
      · exact (ixN_seq (ixN_nat j0 (by rw [List.length_map]; omega))).1
      · rw [List.getElem?_map, List.getElem?_eq_getElem hj]; rfl
      have ef5 : (upd H4 sa (.lst ((rest.map V.str).eraseIdx j.toNat))) fa = some (.lst (xs.map V.str)) := by rw [upd_ne nsf.symm]; exact ef4
      refine ⟨fa, _, _, rfl, rfl, ef5, by rw [List.length_map]; exact small1000 (by omega), ?_⟩
      refine ⟨⟨rfl, n' + 1, xs ++ [rest[j.toNat]], rest.eraseIdx j.toNat, (d4.put na _).put nf _, ?_, ((s'.trans s4).put nsaH _).put nfH _, ?_, ?_, fun y hy => ?_, fun y hy => hrs y (List.mem_of_mem_eraseIdx hy), ?_, ?_⟩, ?_⟩
      · rw [List.length_append]
        show n' + 1 ≤ n + 1 + (xs.length + 1)
        omega
      · rw [List.length_append]
        show xs.length + 1 ≤ m
        omega
      · rw [List.length_append, List.length_eraseIdx_of_lt hj]
        show xs.length + 1 + (rest.length - 1) = 26
        omega
      · rcases List.mem_append.mp hy with h | h
        · exact hxs y h
        · rw [List.mem_singleton.mp h]
          exact hrs _ (List.getElem_mem hj)
      · rw [upd_same, List.map_append]
        rfl
      · rw [upd_ne nsf, upd_same, erase_map]
      · show (match (upd (upd H4 sa _) fa (.lst (xs.map V.str ++ [V.str rest[j.toNat]]))) fa with | some (.lst xs) => m - xs.length | _ => 0) < (match H' fa with | some (.lst xs) => m - xs.length | _ => 0)
        rw [upd_same, ef]
        show m - (xs.map V.str ++ [V.str rest[j.toNat]]).length < m - (xs.map V.str).length
        rw [List.length_append, List.length_map]
        show m - (xs.length + 1) < m - xs.length
        omega
    · have c' : ¬ ((xs.map V.str).length : Int) < (m : Int) := of_decide_eq_false (Bool.eq_false_iff.mpr c)
      rw [List.length_map] at c'
      have hlen : xs.length = m := by omega
      refine ⟨_, rfl, rfl, _, rfl, ite2 (fun _ => ?_) (fun _ => ?_)⟩
      · exact ⟨_, rfl, q fa xs n' H' d' (by omega) s' ef hlen hxs nf⟩
      · refine ⟨_, rfl, fa, xs, rfl, SqL.of ef, by omega, fun ys p pm _ np => ?_⟩
        exact q p ys n' _ (d'.same (same_new np _)) (by omega) (s'.trans (.of (same_new np _))) upd_same (by rw [pm.length_eq]; exact hlen) (fun x hx => hxs x (pm.mem_iff.mp hx)) (d'.new np)
  · intro σ H' Q1 Q2 hQ h
    obtain ⟨v, e, p, ys, e2, e3, v2, e4, i, j, e5, e6, k, e7, q7⟩ := h
    exact ⟨v, e, p, ys, e2, e3, v2, e4, i, j, e5, e6, k, e7, hQ _ _ q7⟩
end
/-! ### _law_grown -/
def T.btw : T → List Str
  | .nil => []
  | .node l x r => l.btw ++ x :: r.btw
theorem T.btw_len : ∀ t : T, t.btw.length = t.size
  | .nil => rfl
  | .node l x r => by
    have h1 := l.btw_len
    have h2 := r.btw_len
    show (l.btw ++ x :: r.btw).length = l.size + 1 + r.size
    rw [List.length_append, List.length_cons]
    omega
theorem scGrown : FnScope ["_law_deck_here", "_law_size", "_law_way", "_law_letters_here", "_law_many", "_law_left"] ["_law_deck_here", "_law_size", "_law_way", "_law_letters_here"] (defScope sGrown) := ⟨rfl, rfl, rfl, by decide +kernel, rfl, by decide +kernel, by decide +kernel⟩
def spGrown (n : Nat) : Sp := fun vs H Q _ => ∃ (D : Deck) (c : Nat) (way : Int) (p : Addr) (xs : List Str), vs = [.ref D.dk, .int (xs.length : Int), .int way, .ref p] ∧ DeckOk H D c ∧ c + xs.length ≤ 1000000 ∧ xs.length < n ∧ xs.length ≤ 1000 ∧ 0 ≤ way ∧ way ≤ 4 ∧
  H p = some (.lst (xs.map V.str)) ∧ Off D p ∧ ∀ (v : V) (t : T) (c' : Nat) (H' : Hp), DeckOk H' D c' → c' ≤ c + xs.length → SameD D H H' → TreeAt H' v t → t.btw = xs → Q v H'
theorem pick_many {z : Int} {i way : Int} (z1 : 1 ≤ z) (i0 : 0 ≤ i) (i1 : i < z) (w0 : 0 ≤ way) (w1 : way ≤ 4) : ∃ m : Nat, atI [V.int i, V.int (z - 1), V.int 0, V.int ((z - 1) * (z % 2)), V.int ((z - 1) / 2)] way = some (.int (m : Int)) ∧ (m : Int) < z := by
  have h : way = ((0 : Nat) : Int) ∨ way = ((1 : Nat) : Int) ∨ way = ((2 : Nat) : Int) ∨ way = ((3 : Nat) : Int) ∨ way = ((4 : Nat) : Int) := by omega
  rcases h with rfl | rfl | rfl | rfl | rfl
  · exact ⟨i.toNat, by rw [Int.toNat_of_nonneg i0]; exact atI_nat rfl, by omega⟩
  · exact ⟨(z - 1).toNat, by rw [Int.toNat_of_nonneg (by omega)]; exact atI_nat rfl, by omega⟩
  · exact ⟨0, atI_nat rfl, by omega⟩
  · have h2 : z % 2 = 0 ∨ z % 2 = 1 := by omega
    rcases h2 with e | e
    · exact ⟨0, by rw [e, Int.mul_zero]; exact atI_nat rfl, by omega⟩
    · exact ⟨(z - 1).toNat, by rw [e, Int.mul_one, Int.toNat_of_nonneg (by omega)]; exact atI_nat rfl, by omega⟩
  · exact ⟨((z - 1) / 2).toNat, by rw [Int.toNat_of_nonneg (by omega)]; exact atI_nat rfl, by omega⟩
section
variable {P : Program} {w : World} {K : PySem.W.Frag} {mg : Str → Option Value} {base : Heap} {f fN : Addr} {fd fdN : FuncData}
theorem ok_grown (F : Fun K "_law_grown" "_law_grown" sGrown f fd) (b : Binds K fd ["_law_deck_here", "_law_size", "_law_way", "_law_letters_here"] []) (g : mg "_law_grown" = some (.ref f))
    (GN : FnOk P w K mg base CX0 1 fN fdN ["_law_deck_here", "_law_many"] spNext) (bN : Binds K fdN ["_law_deck_here", "_law_many"] []) (kN : PySem.W.keepIn K (.ref fN) = true) (gN : mg "_law_next" = some (.ref fN)) :
    ∀ n : Nat, FnOk P w K mg base CX0 (n + 1) f fd ["_law_deck_here", "_law_size", "_law_way", "_law_letters_here"] (spGrown n)
  | 0 => by
    have no : ∀ vs H Q E, ¬ spGrown 0 vs H Q E := fun vs H Q E h => by
      obtain ⟨D, c, way, p, xs, _, _, _, h1, _⟩ := h
      omega
    exact ⟨fun vs H Q E h => absurd h (no vs H Q E), fun A outer s H args us vs Q E _ _ _ _ h => absurd h (no vs H Q E)⟩
  | n + 1 => by
    have G := ok_grown F b g GN bN kN gN n
    refine F.ok scGrown (fun vs H Q E h => ?_) (fun cdv A outer s H vs Q E hr h => ?_)
    · obtain ⟨D, c, way, p, xs, rfl, _⟩ := h
      rfl
    obtain ⟨D, c, way, p, xs, rfl, d, hc, hn, hx, w0, w1, ep, op, q⟩ := h
    have hr1 : Room 1 (A.deeper (envOfC "_law_grown" (defScope sGrown) s.heap.objs.size f cdv)) := hr.mono (by omega)
    refine ⟨_, pss_cons (ps_if (pt_cmpR op_eq (pv 1) pe_int (nomark _)) (pss_one (ps_ret pe_non)) pss_nil)
      (pss_cons (ps_set (i := 4) scGrown.nd rfl (.inl rfl) (pe_ix ix_list (pe_lst (pa_cons (pe_call GN hr1 rfl gN kN bN .nil pass0 (pa_cons (pv 0) (pa_cons (pv 1) pa_nil))) (pa_cons (pe_op op_sub (pv 1) pe_int) (pa_cons pe_int
          (pa_cons (pe_op op_mul (pe_op op_sub (pv 1) pe_int) (pe_op op_mod (pv 1) pe_int)) (pa_cons (pe_op op_fdiv (pe_op op_sub (pv 1) pe_int) pe_int) pa_nil)))))) (pv 2) (fun _ _ => rfl)))
      (pss_cons (ps_set (i := 5) scGrown.nd rfl (.inl rfl) (pe_call G hr rfl g F.kp b .nil pass0 (pa_cons (pv 0) (pa_cons (pv 4) (pa_cons (pv 2) (pa_cons (pe_slice sl_list (pv 3) po_none (po_some (pv 4))) pa_nil))))))
      (pss_one (ps_ret (pe_tup (pa_cons (pv 5) (pa_cons (pe_ix ix_list (pv 3) (pv 4) (fun _ _ => rfl)) (pa_cons
        (pe_call G hr rfl g F.kp b .nil pass0 (pa_cons (pv 0) (pa_cons (pe_op op_sub (pe_op op_sub (pv 1) pe_int) (pv 4)) (pa_cons (pv 2) (pa_cons (pe_slice sl_list (pv 3) (po_some (pe_op op_add (pv 4) pe_int)) po_none) pa_nil))))) pa_nil)))))))), ?_⟩
    refine ⟨_, rfl, rfl, _, rfl, ite2 (fun e => ?_) (fun e => ?_)⟩
    · have e0 : (xs.length : Int) = 0 := V.int.inj (of_decide_eq_true e)
      have ex : xs = [] := List.eq_nil_of_length_eq_zero (by omega)
      exact q .non .nil c H d (by omega) (SameD.refl D H) .nil (by rw [ex]; rfl)
    · have e0 : ¬ (xs.length : Int) = 0 := fun z => e (decide_eq_true (congrArg V.int z))
      have x1 : (1 : Int) ≤ (xs.length : Int) := by omega
      refine ⟨_, rfl, _, rfl, D, c, _, rfl, d, by omega, by omega, by omega, fun i H1 i0 i1 d1 s1 => ?_⟩
      refine ⟨_, rfl, _, _, rfl, rfl, _, rfl, _, _, rfl, rfl, _, rfl, _, _, rfl, rfl, (show (0 : Int) < 2 by decide), _, _, rfl, rfl, .inl ⟨by omega, by omega⟩, ?_⟩
      refine ⟨_, rfl, _, _, rfl, rfl, _, _, rfl, rfl, ⟨by decide, by decide⟩, (by show 5 ≤ sizeLine; decide), fun l nl => ?_⟩
      obtain ⟨m, hm, ml⟩ := pick_many x1 i0 i1 w0 w1
      refine ⟨_, rfl, l, _, _, _, rfl, rfl, SqL.of upd_same, hm, ?_⟩
      have q1 := same_new nl (.lst [V.int i, V.int ((xs.length : Int) - 1), V.int 0, V.int (((xs.length : Int) - 1) * ((xs.length : Int) % 2)), V.int (((xs.length : Int) - 1) / 2)])
      have d2 := d1.same q1
      have s2 := s1.trans (SameD.of q1)
      have ep2 := s2.at op ep
      -- left
      refine ⟨_, rfl, _, rfl, _, rfl, _, rfl, _, rfl, _, rfl, p, _, rfl, SqL.of ep2, fun p1 np1 => ?_⟩
      rw [cut_to, ← List.map_take] at *
      have lt : (xs.take m).length = m := by rw [List.length_take]; omega
      have q2 := same_new np1 (.lst ((xs.take m).map V.str))
      have d3 := d2.same q2
      have s3 := s2.trans (SameD.of q2)
      refine ⟨D, c + 1, way, p1, xs.take m, by rw [lt]; rfl, d3, by omega, by omega, by omega, w0, w1, upd_same, d2.new np1, fun v1 t1 c1 H3 d4 hc1 s4 at1 bt1 => ?_⟩
      have ep4 := (s3.trans s4).at op ep
      have hm' : m < xs.length := by omega
      have am : atI (xs.map V.str) ((m : Nat) : Int) = some (.str xs[m]) := at_map (by omega) (by rw [Int.toNat_natCast]; exact List.getElem?_eq_getElem hm')
      refine ⟨_, rfl, _, rfl, _, rfl, p, _, _, _, rfl, rfl, SqL.of ep4, am, ?_⟩
      refine ⟨_, rfl, _, rfl, _, _, rfl, rfl, _, rfl, _, _, rfl, rfl, _, rfl, _, rfl, _, rfl, _, _, rfl, rfl, _, rfl, p, _, rfl, SqL.of ep4, fun p2 np2 => ?_⟩
      have em : ((m : Nat) : Int) + 1 = ((m + 1 : Nat) : Int) := by omega
      rw [show cutV (xs.map V.str) (some (((m : Nat) : Int) + 1)) none = (xs.drop (m + 1)).map V.str by rw [em, cut_from, List.map_drop]]
      have ld : (xs.drop (m + 1)).length = xs.length - 1 - m := by rw [List.length_drop]; omega
      have ldi : (((xs.drop (m + 1)).length : Nat) : Int) = (xs.length : Int) - 1 - (m : Int) := by rw [ld]; omega
      have q3 := same_new np2 (.lst ((xs.drop (m + 1)).map V.str))
      have d5 := d4.same q3
      refine ⟨D, c1, way, p2, xs.drop (m + 1), by rw [ldi]; rfl, d5, by omega, by omega, by omega, w0, w1, upd_same, d4.new np2, fun v2 t2 c2 H4 d6 hc2 s5 at2 bt2 => ?_⟩
      refine ⟨(by show 3 ≤ sizeLine; decide), fun r nr => ?_⟩
      have q4 := same_new nr (.tup [v1, .str xs[m], v2])
      refine q (.ref r) (.node t1 xs[m] t2) c2 _ (d6.same q4) (by omega) (s3.trans (s4.trans ((SameD.of q3).trans (s5.trans (SameD.of q4))))) (.node upd_same ?_ (at2.same q4)) ?_
      · exact ((at1.same q3).keep (s5.keepT d5)).same q4
      · show t1.btw ++ xs[m] :: t2.btw = xs
        rw [bt1, bt2]
        rw [← List.drop_eq_getElem_cons hm', List.take_append_drop]
end
/-! ### _law_tree -/
theorem scTree : FnScope ["_law_deck_here", "_law_limit", "_law_size", "_law_way"] ["_law_deck_here", "_law_limit"] (defScope sTree) := ⟨rfl, rfl, rfl, by decide +kernel, rfl, by decide +kernel, by decide +kernel⟩
def spTree : Sp := fun vs H Q _ => ∃ (D : Deck) (n lim : Nat), vs = [.ref D.dk, .int (lim : Int)] ∧ DeckOk H D n ∧ n + 2 * lim + 10 ≤ 1000000 ∧ 1 ≤ lim ∧ lim ≤ 26 ∧
  ∀ (v : V) (t : T) (n' : Nat) (H' : Hp), DeckOk H' D n' → n' ≤ n + 2 * lim + 3 → SameD D H H' → TreeAt H' v t → 1 ≤ t.size → t.size ≤ lim → (∀ x ∈ t.btw, Ltr x) → Q v H'
theorem pick_way {i : Int} (i0 : 0 ≤ i) (i1 : i < 7) : ∃ z : Int, atI [V.int 0, V.int 0, V.int 0, V.int 1, V.int 2, V.int 3, V.int 4] i = some (.int z) ∧ 0 ≤ z ∧ z ≤ 4 := by
  have h : i = ((0 : Nat) : Int) ∨ i = ((1 : Nat) : Int) ∨ i = ((2 : Nat) : Int) ∨ i = ((3 : Nat) : Int) ∨ i = ((4 : Nat) : Int) ∨ i = ((5 : Nat) : Int) ∨ i = ((6 : Nat) : Int) := by omega
  rcases h with rfl | rfl | rfl | rfl | rfl | rfl | rfl
  · exact ⟨0, atI_nat rfl, by decide, by decide⟩
  · exact ⟨0, atI_nat rfl, by decide, by decide⟩
  · exact ⟨0, atI_nat rfl, by decide, by decide⟩
  · exact ⟨1, atI_nat rfl, by decide, by decide⟩
  · exact ⟨2, atI_nat rfl, by decide, by decide⟩
  · exact ⟨3, atI_nat rfl, by decide, by decide⟩
  · exact ⟨4, atI_nat rfl, by decide, by decide⟩
section
variable {P : Program} {w : World} {K : PySem.W.Frag} {mg : Str → Option Value} {base : Heap} {f fN fL fG : Addr} {fd fdN fdL fdG : FuncData}
theorem ok_tree (F : Fun K "_law_tree" "_law_tree" sTree f fd)
    (GN : FnOk P w K mg base CX0 1 fN fdN ["_law_deck_here", "_law_many"] spNext) (bN : Binds K fdN ["_law_deck_here", "_law_many"] []) (kN : PySem.W.keepIn K (.ref fN) = true) (gN : mg "_law_next" = some (.ref fN))
    (GL : FnOk P w K mg base CX0 2 fL fdL ["_law_deck_here", "_law_size"] spLett) (bL : Binds K fdL ["_law_deck_here", "_law_size"] []) (kL : PySem.W.keepIn K (.ref fL) = true) (gL : mg "_law_letters" = some (.ref fL))
    (GG : FnOk P w K mg base CX0 28 fG fdG ["_law_deck_here", "_law_size", "_law_way", "_law_letters_here"] (spGrown 27)) (bG : Binds K fdG ["_law_deck_here", "_law_size", "_law_way", "_law_letters_here"] []) (kG : PySem.W.keepIn K (.ref fG) = true) (gG : mg "_law_grown" = some (.ref fG)) :
    FnOk P w K mg base CX0 29 f fd ["_law_deck_here", "_law_limit"] spTree := by
  refine F.ok scTree (fun vs H Q E h => ?_) (fun cdv A outer s H vs Q E hr h => ?_)
  · obtain ⟨D, n, m, rfl, _⟩ := h
    rfl
  obtain ⟨D, n, lim, rfl, d, hn, l0, l1, q⟩ := h
  have hr1 : Room 1 (A.deeper (envOfC "_law_tree" (defScope sTree) s.heap.objs.size f cdv)) := hr.mono (by omega)
  have hr2 : Room 2 (A.deeper (envOfC "_law_tree" (defScope sTree) s.heap.objs.size f cdv)) := hr.mono (by omega)
  refine ⟨_, pss_cons (ps_par (i := 2) (j := 3) (by rfl) scTree.nd rfl rfl (by decide) rfl rfl (pa_cons (pe_op op_add pe_int (pe_call GN hr1 rfl gN kN bN .nil pass0 (pa_cons (pv 0) (pa_cons (pv 1) pa_nil))))
      (pa_cons (pe_ix ix_list (pe_lst (pa_cons pe_int (pa_cons pe_int (pa_cons pe_int (pa_cons pe_int (pa_cons pe_int (pa_cons pe_int (pa_cons pe_int pa_nil)))))))) (pe_call GN hr1 rfl gN kN bN .nil pass0 (pa_cons (pv 0) (pa_cons pe_int pa_nil))) (fun _ _ => rfl)) pa_nil)) (by rfl))
    (pss_one (ps_ret (pe_call GG hr rfl gG kG bG .nil pass0 (pa_cons (pv 0) (pa_cons (pv 2) (pa_cons (pv 3) (pa_cons (pe_call GL hr2 rfl gL kL bL .nil pass0 (pa_cons (pv 0) (pa_cons (pv 2) pa_nil))) pa_nil))))))), ?_⟩
  refine ⟨_, rfl, _, rfl, D, n, _, rfl, d, by omega, by omega, by omega, fun i H1 i0 i1 d1 s1 => ?_⟩
  refine ⟨_, _, rfl, rfl, (by show 7 ≤ sizeLine; decide), fun l nl => ?_⟩
  have q1 := same_new nl (.lst [V.int 0, V.int 0, V.int 0, V.int 1, V.int 2, V.int 3, V.int 4])
  refine ⟨_, rfl, D, n + 1, 7, rfl, d1.same q1, by omega, by decide, by decide, fun j H2 j0 j1 d2 s2 => ?_⟩
  obtain ⟨z, hz, z0, z4⟩ := pick_way j0 j1
  refine ⟨l, _, _, _, rfl, rfl, SqL.of (s2.at (d1.new nl) upd_same), hz, ?_⟩
  refine ⟨_, _, rfl, ?_⟩
  have ei : (1 : Int) + i = (((1 + i).toNat : Nat) : Int) := by omega
  have s3 := s1.trans ((SameD.of q1).trans s2)
  refine ⟨_, rfl, _, rfl, _, rfl, _, rfl, _, rfl, D, n + 2, (1 + i).toNat, by rw [← ei]; rfl, d2, by omega, by omega, by omega, fun p xs n3 H3 d3 hn3 s4 ep hxl hxs op => ?_⟩
  refine ⟨D, n3, z, p, xs, by rw [hxl, ← ei]; rfl, d3, by omega, by omega, by omega, z0, z4, ep, op, fun v t c' H4 d4 hc' s5 at4 bt => ?_⟩
  have hs := t.btw_len
  rw [bt] at hs
  exact q v t c' H4 d4 (by omega) (s3.trans (s4.trans s5)) at4 (by omega) (by omega) (by rw [bt]; exact hxs)
end
/-! ### a def entered at one caller -/
theorem enter_def {P : Program} {w : World} {K : PySem.W.Frag} {mg : Str → Option Value} {base : Heap} {f : Addr} {fd : FuncData} {N ps : List Str} {k : Nat} {x qual : Str} {st : Stmt} (F : Fun K x qual st f fd) (S : FnScope N ps (defScope st))
    {A : Around} {outer : List Env} {s : Shared} {H : Hp} {args : Args} {us : List Value} {vs : List V} {Q : VK} {E : XK}
    (room : Room (k + 1) A) (en : Env0 P w K mg base A outer s H) (bd : BindsTo s fd args (ps.zip us)) (rel : Vals vs us) (hln : vs.length = ps.length)
    (body : ∀ cdv : Value, Room k (A.deeper (envOfC qual (defScope st) s.heap.objs.size f cdv)) →
      ∃ t, PSs (cxOf CX0 P w K mg base N qual (defScope st) f cdv A outer s H E).nox (defBody st) t ∧ t { nx := fun _ H' => Q .non H', rt := Q } (start N vs) H) :
    codeAny (model P w) A (.call (.ref f) args) (CR CX0 outer P w H s Q E) s := by
  obtain ⟨oc, od, kV, doc, pm, an, cdv, ct, osl, rfl, look, code⟩ := F.ex
  have still : ∀ b o, base.get? b = some o → s.heap.get? b = some o := fun b o e => (en.bs b o e).1
  have inK : K.In s.heap := en.mod.kin.keeps still
  have noL : s.heap.NoLimit := en.mod.nolimit.keeps still
  have kinds : ∀ y ∈ ps.zip us, (defScope st).names.lookup y.1 = some .local ∨
      ((defScope st).names.lookup y.1 = some .cell ∧ ((cellsFrom (s.heap.objs.size + 1) (defScope st).names []).lookup y.1).isSome = true) := by
    rintro ⟨nm, u⟩ hy
    cases S.par nm (List.of_mem_zip hy).1 with
    | inl z => exact .inl z
    | inr z => exact .inr ⟨z, PySem.W.cellsFrom_some _ _ _ (.inl z)⟩
  have step := codeAny_call_function (prog := P) (w := w) (A := A) (s := s) room.depth (inK _ _ look) rfl S.co S.gen rfl (PySem.W.codeRec_of inK code)
    (R := CR CX0 outer P w H s Q E) (args := args)
  refine step (bd _ _ _ _ ?_)
  refine wpAny_newFunctionEnv_cells S.kind kinds ?_
  intro env isEnv s1 inC
  subst isEnv
  refine ⟨noL.keeps inC.toInCall.keep, codeAny_func ?_⟩
  obtain ⟨t, ht, hq⟩ := body cdv (room.deeper _)
  have J : Inv (cxOf CX0 P w K mg base N qual (defScope st) f cdv A outer s H E) [] (start N vs) H s1 := inv_start S room.hd en hln rel inC
  refine wpAny_mono (ht.nox.run [] s1 (start N vs) H _ J hq) ?_ ?_
  · intro fl s' done
    cases fl with
    | ret u =>
      obtain ⟨v, σ', H', I', rv, qv⟩ := done
      exact ⟨v, H', I'.os, I'.bare, I'.base, I'.hok, rv, qv⟩
    | next =>
      obtain ⟨σ', H', I', qv⟩ := done
      exact ⟨V.non, H', I'.os, I'.bare, I'.base, I'.hok, rfl, qv⟩
    | brk => exact done.elim fun _ z => z.elim fun _ z => z.2.elim
    | cont => exact done.elim fun _ z => z.elim fun _ z => z.2.elim
  · intro e s' z
    exact z
/-! ### the law's own call -/
theorem law_at {P : Program} {w : World} {K : PySem.W.Frag} {mg mb : Str → Option Value} {fa a : Addr} {s₁ : Shared} {vs : List Value} {ns : List Int}
    (inK : K.In s₁.heap) (gl : s₁.heap.Ns mainGlobals mg) (bl : s₁.heap.Ns builtinsNs mb) (isB : ∀ x : Str, x ≠ "__name__" → mb x = bootBuiltins x) (lim : s₁.heap.NoLimit) (gens : s₁.gens = #[])
    (obj : s₁.heap.get? a = some { cls := .type "list", data := .seq vs.toArray }) (hints : IntsAre vs ns) (few : ns.length ≤ sizeLine)
    (run : ∀ (base : Heap) (H : Hp), K.In base → base.Ns mainGlobals mg → Env0 P w K mg base callerA [] s₁ H → SqL K H a (ns.map V.int) →
      codeAny (model P w) callerA (.call (.ref fa) ⟨[.ref a], []⟩) (CR CX0 [] P w H s₁ (fun v _ => v = .bl true) fun _ _ _ => False) s₁) :
    codeAny (model P w) callerA (.call (.ref fa) ⟨[.ref a], []⟩) (fun r s' => r = .ok (.ret (.bool true)) ∧ OldK s₁.heap s'.heap ∧ s'.os = s₁.os ∧ AllBare s'.gens) s₁ := by
  have rel := vals_ints hints
  have lens := hints.length
  have found : ∃ H : Hp, Only H ∧ SqL K H a (ns.map V.int) ∧ HOk P w H s₁.heap ∧ (∀ b u, H b = some u → b = a ∧ K.lookup a = none) := by
    cases inText : K.lookup a with
    | some o =>
      have same := inK a o inText
      rw [obj] at same
      cases same
      have never : ∀ (u : HO), (none : Option HO) ≠ some u := fun u z => by cases z
      refine ⟨fun _ => none, fun _ => .inl rfl, ?_, (fun b u z => (never u z).elim), (fun b u z => (never u z).elim)⟩
      refine .inr ⟨_, vs.toArray, _, inText, rfl, rfl, rfl, ?_, ?_⟩
      · rw [List.size_toArray, lens]
        exact few
      · rw [List.toList_toArray]
        exact rel
    | none =>
      let here : HO := .frz { cls := .type "list", data := .seq vs.toArray } (.lst (ns.map V.int))
      have only : ∀ b u, (if b = a then some here else none) = some u → b = a ∧ u = here := fun b u z => by
        by_cases hb : b = a
        · rw [if_pos hb] at z
          exact ⟨hb, (Option.some.inj z).symm⟩
        · rw [if_neg hb] at z
          cases z
      refine ⟨fun b => if b = a then some here else none, fun b => ?_, .inl (.inr ⟨{ cls := .type "list", data := .seq vs.toArray }, if_pos rfl⟩), fun b u z => ?_, fun b u z => ⟨(only b u z).1, rfl⟩⟩
      · by_cases hb : b = a
        · exact .inr ⟨_, _, if_pos hb⟩
        · exact .inl (if_neg hb)
      · obtain ⟨rfl, rfl⟩ := only b u z
        exact ⟨obj, by rw [List.length_map]; exact few, vs, _, rel, obj⟩
  obtain ⟨H, hO, hS, hok, hA⟩ := found
  have under : ∀ {b : Addr} {o : Obj}, s₁.heap.get? b = some o → H b = none → (hidT s₁.heap H).get? b = some o := fun e z => hidT_get e z
  have notDict : ∀ {b : Addr} {o : Obj} {es : Array DictEntry} {ep : Nat}, s₁.heap.get? b = some o → o.data = .dict es ep → H b = none := by
    intro b o es ep e isD
    cases z : H b with
    | none => rfl
    | some u =>
      obtain ⟨rfl, _⟩ := hA b u z
      rw [obj] at e
      cases e
      cases isD
  have ns' : ∀ {b : Addr} {m : Str → Option Value}, s₁.heap.Ns b m → (hidT s₁.heap H).Ns b m := by
    rintro b m ⟨o, es, ep, e, isD, r⟩
    exact ⟨o, es, ep, under e (notDict e isD), isD, r⟩
  have inK' : K.In (hidT s₁.heap H) := by
    intro b o e
    refine under (inK b o e) ?_
    cases z : H b with
    | none => rfl
    | some u =>
      obtain ⟨rfl, no⟩ := hA b u z
      rw [no] at e
      cases e
  obtain ⟨mc, l1, l2⟩ := lim
  have env : Env0 P w K mg (hidT s₁.heap H) callerA [] s₁ H :=
    ⟨rfl, ⟨inK', ns' gl, ⟨mb, ns' bl, isB⟩, ⟨mc, ns' l1, l2⟩⟩, fun _ _ e => of_hidT e, Nat.le_of_eq (hidT_size _ _), trivial, (fun _ hb => nomatch hb), hok, .of_eq gens⟩
  refine codeAny_mono (run _ H inK' (ns' gl) env hS) ?_
  intro r s' h
  cases r with
  | error e => exact h.elim
  | ok fl =>
    cases fl with
    | next => exact h.elim
    | brk => exact h.elim
    | cont => exact h.elim
    | ret u =>
      obtain ⟨v, H', os, bare, un, hok', rv, isT⟩ := h
      subst isT
      cases rv
      refine ⟨rfl, OldK.of_keep ?_, os, bare⟩
      intro b o e
      cases z : H b with
      | none => exact un.keep b o e z (fun y => nomatch y) (fun y => nomatch y)
      | some u =>
        rcases hO b with y | ⟨ob, xs, y⟩
        · rw [z] at y
          cases y
        · have y2 := un.frzs b ob _ y
          obtain ⟨e1, _⟩ := hok b _ y
          obtain ⟨e2, _⟩ := hok' b _ y2
          rw [e] at e1
          cases e1
          exact e2
/-! ### t[::-1] -/
section
variable {prog : Program} {w : World} {A : Around} {E : Value → Shared → Prop} {s : Shared}
open HT in
theorem back_bounds {sl : Addr} {vl vu vs : Value} {n : Nat} {Q : Int × Int × Nat → Shared → Prop} (hs : s.heap.IsSliceOf sl vl vu vs) (pl : IsPart vl none) (pu : IsPart vu none) (ps : IsPart vs (some (-1)))
    (h : Q ((n : Int) - 1, -1, n) s) : wpAny (model prog w) A (Builtin.Slice.sliceApplied (.ref sl) (pure (n : Int))) Q E s := by
  obtain ⟨ob, isOb, isCl, isDt⟩ := id hs
  unfold Builtin.Slice.sliceApplied Builtin.Slice.sliceFields
  refine wpAny_bind (wpAny_bind (wpAny_field isOb isDt (x := vl) rfl (wpAny_bind (wpAny_field isOb isDt (x := vu) rfl (wpAny_bind (wpAny_field isOb isDt (x := vs) rfl (wpAny_pure ?_)))))))
  refine wpAny_bind (slicePart_ ps ?_)
  show wpAny _ _ (if ((-1 : Int) == 0) = true then _ else _) _ _ s
  rw [if_neg (by decide)]
  refine wpAny_bind (slicePart_ pl (wpAny_bind (slicePart_ pu (wpAny_bind (wpAny_pure ?_)))))
  have e : Builtin.Slice.slicePlaces ((n : Int) - 1) (-1) (-1) = n := by
    unfold Builtin.Slice.slicePlaces
    rw [if_neg (by decide)]
    by_cases h0 : (n : Int) - 1 > -1
    · rw [if_pos h0, show (- -1 : Int) = 1 by decide, Int.ediv_one]
      omega
    · rw [if_neg h0]
      omega
  show wpAny _ _ (pure ((n : Int) - 1, (-1 : Int), Builtin.Slice.slicePlaces ((n : Int) - 1) (-1) (-1))) _ _ s
  rw [e]
  exact wpAny_pure h
theorem fm_congr {α β : Type} {f g : α → Option β} : ∀ (l : List α), (∀ k ∈ l, f k = g k) → l.filterMap f = l.filterMap g
  | [], _ => rfl
  | x :: l, h => by
    rw [List.filterMap_cons, List.filterMap_cons, h x (List.mem_cons_self ..), fm_congr l fun k hk => h k (List.mem_cons_of_mem _ hk)]
theorem back_pick (xs : Array Value) : ((List.range xs.size).filterMap fun (k : Nat) => xs[((xs.size : Int) - 1 + (k : Int) * (-1)).toNat]?).toArray = xs.toList.reverse.toArray := by
  congr 1
  have e1 : ((List.range xs.size).filterMap fun (k : Nat) => xs[((xs.size : Int) - 1 + (k : Int) * (-1)).toNat]?) = ((List.range xs.size).map fun k => xs.size - 1 - k).filterMap (xs[·]?) := by
    rw [List.filterMap_map]
    refine fm_congr _ fun k hk => ?_
    have := List.mem_range.mp hk
    show xs[((xs.size : Int) - 1 + (k : Int) * (-1)).toNat]? = xs[xs.size - 1 - k]?
    rw [show ((xs.size : Int) - 1 + (k : Int) * (-1)).toNat = xs.size - 1 - k by omega]
  rw [e1, PySem.W.krv_range, List.filterMap_reverse, PySem.W.krv_all]
open HT in
theorem getItem_back {t sl : Addr} {items : Array Value} {vl vu vs : Value} {Q : Value → Shared → Prop} (ht : IsTup s.heap t items) (hs : s.heap.IsSliceOf sl vl vu vs) (pl : IsPart vl none) (pu : IsPart vu none) (ps : IsPart vs (some (-1)))
    (h : Q (.ref s.heap.objs.size) { s with heap := s.heap.push { cls := .type "tuple", data := .seq items.toList.reverse.toArray } }) (hsz : items.size ≤ sizeLine) : wpAny (model prog w) A (getItem (.ref t) (.ref sl)) Q E s := by
  obtain ⟨ob, isOb, isCl, isDt⟩ := id hs
  have isSl : s.TypeIs (.ref sl) "slice" := ⟨ob, isOb, isCl⟩
  have fits : sizeOk (.seq items.toList.reverse.toArray) := by
    show items.toList.reverse.toArray.size ≤ sizeLine
    rw [List.size_toArray, List.length_reverse, Array.length_toList]
    exact hsz
  unfold getItem
  refine wpAny_holding ?_
  refine wpAny_bind (wpAny_sequenceKey ht.typeIs (by decide) ?_)
  have body : wpAny (model prog w) A.in1 (Builtin.«tuple.__getitem__» ⟨[.ref t, .ref sl], []⟩) (fun fin s' => ∃ v, fin = Fin.done (Flow.ret v) ∧ Q v s') E s := by
    show wpAny _ _ (Builtin.Tuple.tupleItemsOf (.ref t) >>= _) _ _ s
    refine wpAny_bind (tupleItemsOf_ ht (wpAny_bind (wpAny_typeOf isSl ?_)))
    rw [if_pos (by decide)]
    refine wpAny_bind (back_bounds hs pl pu ps ?_)
    have off : ¬ ((((items.size : Int) - 1) == 0 && (-1 : Int) == 1 && items.size == items.size) = true) := by
      rw [show ((-1 : Int) == 1) = false by decide, Bool.and_false, Bool.false_and]
      exact Bool.false_ne_true
    show wpAny _ _ (if (((items.size : Int) - 1) == 0 && (-1 : Int) == 1 && items.size == items.size) = true then _ else _) _ _ s
    rw [if_neg off, back_pick]
    first
      | exact wpAny_bind (m := Builtin.Tuple.tupleExact _) (wpAny_newObj_type (wpAny_pure ⟨_, rfl, h⟩) fits)
      | exact wpAny_bind (m := Builtin.Tuple.tupleExact _) (wpAny_newObj_type (wpAny_bind (wpAny_pure (wpAny_pure ⟨_, rfl, h⟩))) fits)
      | exact wpAny_bind (wpAny_bind (m := Builtin.Tuple.tupleExact _) (wpAny_newObj_type (wpAny_pure (wpAny_pure ⟨_, rfl, h⟩)) fits))
      | exact wpAny_bind (wpAny_bind (m := Builtin.Tuple.tupleExact _) (wpAny_newObj_type (wpAny_pure ⟨_, rfl, h⟩) fits))
  refine wpAny_bind (wpAny_callSpecial?_slot (name := Str.ofString "__getitem__") ht.typeIs PyProof.Rows.slot_tuple_getitem ?_)
  refine wpAny_call_entry PyProof.Rows.slot_tuple_getitem ht.typeIs entry_tuple_getitem (wpAny_mono body (fun fin s' z => ?_) fun _ _ z => z) (args_tuple_getitem _ _)
  obtain ⟨v, e, q⟩ := z
  exact ⟨v, e, wpAny_pure q⟩
end
/-- t[::-1], t a tuple -/
def tRevT (K : PySem.W.Frag) (te : TE) : TE := fun σ H Q => te σ H fun x H1 => ∃ a xs, x = .ref a ∧ SqT K H1 a xs ∧ ∀ p, H1 p = none → Q (.ref p) (upd H1 p (.tup xs.reverse))
theorem pe_revT {X : Cx} {e : Expr} {te : TE} {k : Nat} {p1 p2 p3 pos : Pos} (he : PE X e te) : PE X (.Subscript e (.Slice none none (some (.UnaryOp .USub (.Constant (.int 1) k p1) p2)) p3) pos) (tRevT X.K te) := by
  constructor
  intro pins s σ H Q I h
  refine Subscript_ (thn (he.run pins s σ H _ I h) ?_)
  rintro v s1 ⟨x, H1, I1, r1, a, xs, rfl, hx, q⟩
  cases r1
  have minus : PO X (some (.UnaryOp .USub (.Constant (.int 1) k p1) p2)) (tPart (tUn (rU fun i => .int (-i)) (tC (.int 1)))) := po_some (pe_un un_neg pe_int)
  refine wpAny_Slice (thn (po_none.run pins s1 σ H1 (fun o H2 => o = none ∧ H2 = H1) I1 ⟨rfl, rfl⟩) ?_)
  rintro vl s2 ⟨l, H2, I2, pl, rfl, rfl⟩
  refine thn (po_none.run pins s2 σ H2 (fun o H3 => o = none ∧ H3 = H2) I2 ⟨rfl, rfl⟩) ?_
  rintro vu s3 ⟨u, H3, I3, pu, rfl, rfl⟩
  refine thn (minus.run pins s3 σ H3 (fun o H4 => o = some (-1) ∧ H4 = H3) I3 ⟨1, rfl, -1, rfl, rfl, rfl⟩) ?_
  rintro vs s4 ⟨o, H4, I4, ps, rfl, rfl⟩
  have J : Inv X pins σ H4 { s4 with heap := s4.heap.push { cls := .type "slice", data := .fields #[vl, vu, vs] } } := I4.kept (t' := s4.toks) fun _ _ z => Heap.get?_push_of_some _ z
  obtain ⟨its, r, ht, hz⟩ := J.tuple hx
  have lens := r.length
  show wpAny (model X.prog X.w) X.A (subscriptTail e (.Slice none none (some (.UnaryOp .USub (.Constant (.int 1) k p1) p2)) p3) (.ref a) (.ref s4.heap.objs.size)) _ X.xe _
  refine tail_any (ops := [.ref a, .ref s4.heap.objs.size]) ht.typeIs (PyProof.Rows.slot_tuple_getitem.lookup) ?_ (by with_unfolding_all rfl)
  refine getItem_back ht (Heap.IsSliceOf.new _ vl vu vs) pl pu ps ?_ (by rw [List.size_toArray]; omega)
  refine ⟨.ref _, _, J.laid (t' := s4.toks) (o := .tup xs.reverse) (fun _ _ z => Heap.get?_push_of_some _ z) (Nat.le_refl _) ?_, rfl, q _ (J.hok.fresh (Nat.le_refl _))⟩
  exact ⟨by rw [List.length_reverse]; exact hz, _, r.reverse, ⟨_, Heap.get?_push_size _ rfl, rfl, _, rfl⟩⟩
/-! ### values of any kind, and how they are shown -/
mutual
inductive DQ (D : Deck) (H : Hp) : V → PyData → Prop
  | non : DQ D H .non .none
  | bl (b : Bool) : DQ D H (.bl b) (.bool b)
  | int (i : Int) : DQ D H (.int i) (.int i)
  | str (x : Str) : DQ D H (.str x) (.str x)
  | lst {a : Addr} {xs : List V} {ds : List PyData} : Off D a → H a = some (.lst xs) → DQAll D H xs ds → DQ D H (.ref a) (.list ds)
  | tup {a : Addr} {xs : List V} {ds : List PyData} : Off D a → H a = some (.tup xs) → DQAll D H xs ds → DQ D H (.ref a) (.tuple ds)
  | emp {a : Addr} : Off D a → H a = some (.dK []) → DQ D H (.ref a) (.dict [])
inductive DQAll (D : Deck) (H : Hp) : List V → List PyData → Prop
  | nil : DQAll D H [] []
  | cons {v : V} {vs : List V} {d : PyData} {ds : List PyData} : DQ D H v d → DQAll D H vs ds → DQAll D H (v :: vs) (d :: ds)
end
mutual
theorem dq_sameD {D : Deck} {H H' : Hp} (s : SameD D H H') : ∀ {v : V} {d : PyData}, DQ D H v d → DQ D H' v d
  | _, _, .non => .non
  | _, _, .bl b => .bl b
  | _, _, .int i => .int i
  | _, _, .str x => .str x
  | _, _, .lst o e a => .lst o (s.at o e) (dqAll_sameD s a)
  | _, _, .tup o e a => .tup o (s.at o e) (dqAll_sameD s a)
  | _, _, .emp o e => .emp o (s.at o e)
theorem dqAll_sameD {D : Deck} {H H' : Hp} (s : SameD D H H') : ∀ {vs : List V} {ds : List PyData}, DQAll D H vs ds → DQAll D H' vs ds
  | _, _, .nil => .nil
  | _, _, .cons h a => .cons (dq_sameD s h) (dqAll_sameD s a)
end
theorem dq_same {D : Deck} {H H' : Hp} (s : Same H H') {v : V} {d : PyData} (h : DQ D H v d) : DQ D H' v d := dq_sameD (SameD.of s) h
theorem dqAll_same {D : Deck} {H H' : Hp} (s : Same H H') {v : List V} {d : List PyData} (h : DQAll D H v d) : DQAll D H' v d := dqAll_sameD (SameD.of s) h
theorem dqAll_len {D : Deck} {H : Hp} : ∀ {vs : List V} {ds : List PyData}, DQAll D H vs ds → vs.length = ds.length
  | _, _, .nil => rfl
  | _, _, .cons _ a => congrArg (· + 1) (dqAll_len a)
theorem dqAll_get {D : Deck} {H : Hp} : ∀ {vs : List V} {ds : List PyData} {i : Nat} {v : V}, DQAll D H vs ds → vs[i]? = some v → ∃ d, ds[i]? = some d ∧ DQ D H v d
  | _, _, _, _, .nil, h => by simp at h
  | _, _, 0, _, .cons h _, e => by
    cases e
    exact ⟨_, rfl, h⟩
  | _, _, i + 1, _, .cons _ a, e => dqAll_get (i := i) a e
theorem dqAll_app {D : Deck} {H : Hp} : ∀ {vs vs' : List V} {ds ds' : List PyData}, DQAll D H vs ds → DQAll D H vs' ds' → DQAll D H (vs ++ vs') (ds ++ ds')
  | _, _, _, _, .nil, h => h
  | _, _, _, _, .cons h a, h' => .cons h (dqAll_app a h')
theorem TreeAt.dq {D : Deck} {H : Hp} {n : Nat} (d : DeckOk H D n) {v : V} {t : T} (h : TreeAt H v t) : DQ D H v t.data := by
  obtain ⟨c, r, h1, h2, h3, _⟩ := d.ex
  induction h with
  | nil => exact .non
  | node e _ _ i1 i2 => exact .tup ⟨ne_of e h1 (by intro z; cases z), ne_of e h2 (by intro z; cases z), ne_of e h3 (by intro z; cases z)⟩ e (.cons i1 (.cons (.str _) (.cons i2 .nil)))
def okInts : List Int := [-1, 0, 1, 12, 100000000000000000000000000000]
mutual
def gd : PyData → Bool
  | .none => true
  | .bool _ => true
  | .int i => decide (i ∈ okInts)
  | .str x => decide (x.length ≤ 90) && x.cps.toList.all (· < 128)
  | .list xs => gds xs
  | .tuple xs => gds xs
  | .dict kvs => kvs.isEmpty
def gds : List PyData → Bool
  | [] => true
  | x :: xs => gd x && gds xs
end
mutual
def wt : PyData → Nat
  | .none => 4
  | .bool _ => 5
  | .int _ => 31
  | .str _ => 902
  | .list xs => 3 + wts xs
  | .tuple xs => 3 + wts xs
  | .dict _ => 2
def wts : List PyData → Nat
  | [] => 0
  | x :: xs => wt x + 2 + wts xs
end
theorem gd_str {x : Str} (h : gd (.str x) = true) : x.length ≤ 90 ∧ ∀ c ∈ x.cps.toList, c < 128 := by
  simp only [gd, Bool.and_eq_true, decide_eq_true_eq, List.all_eq_true] at h
  exact h
theorem reprText_le {x : Str} (h : gd (.str x) = true) : (reprText x).length ≤ 902 := by
  obtain ⟨h1, h2⟩ := gd_str h
  have := StrLaws.reprText_len x (fun c hc => Nat.lt_of_lt_of_le (h2 c hc) (by decide))
  omega
theorem int_show {i : Int} (h : gd (.int i) = true) : (Str.ofString (toString i)).length ≤ 31 ∧ i.natAbs.log2 < 1920 := by
  simp only [gd, decide_eq_true_eq] at h
  unfold okInts at h
  rcases List.mem_cons.mp h with rfl | h
  · decide +kernel
  rcases List.mem_cons.mp h with rfl | h
  · decide +kernel
  rcases List.mem_cons.mp h with rfl | h
  · decide +kernel
  rcases List.mem_cons.mp h with rfl | h
  · decide +kernel
  rcases List.mem_cons.mp h with rfl | h
  · decide +kernel
  · exact nomatch h
theorem listText_le (ts : List Str) : (listText ts).length ≤ piled ts + 3 := by
  have h := textFrom_len_le ts 0 "["
  have e : (listText ts).length = (textFrom 0 "[" ts).length + 1 := by
    show (textFrom 0 "[" ts ++ "]").length = _
    rw [strLen_append]
    rfl
  have z : ∀ l : List Str, (l.map (·.length)).sum + 2 * l.length = piled l := by
    intro l
    induction l with
    | nil => rfl
    | cons t l ih =>
      rw [piled_cons, List.map_cons, List.sum_cons, List.length_cons]
      omega
  have z2 := z ts
  have z3 : (("[" : String) : Str).length = 1 := rfl
  omega
mutual
theorem shown_le : ∀ d : PyData, gd d = true → d.shown.length ≤ wt d ∧ d.showable = true
  | .none, _ => by
    simp only [PyData.shown, wt, PyData.showable, and_true]
    decide +kernel
  | .bool b, _ => by
    simp only [PyData.shown, wt, PyData.showable, and_true]
    cases b <;> decide +kernel
  | .int i, h => by
    obtain ⟨h1, h2⟩ := int_show h
    simp only [PyData.shown, wt, PyData.showable, decide_eq_true_eq]
    exact ⟨h1, h2⟩
  | .str x, h => by
    have h1 := reprText_le h
    simp only [PyData.shown, wt, PyData.showable, and_true]
    exact h1
  | .list xs, h => by
    simp only [gd] at h
    obtain ⟨h1, h2⟩ := showns_le xs h
    simp only [PyData.shown, wt, PyData.showable]
    exact ⟨Nat.le_trans (listText_le _) (by omega), h2⟩
  | .tuple xs, h => by
    simp only [gd] at h
    obtain ⟨h1, h2⟩ := showns_le xs h
    simp only [PyData.shown, wt, PyData.showable]
    exact ⟨Nat.le_trans (fmt_text _) (by omega), h2⟩
  | .dict kvs, h => by
    simp only [gd] at h
    cases kvs with
    | nil =>
      simp only [PyData.shown, PyData.shownKv, wt, PyData.showable, PyData.showableKv, and_true]
      decide +kernel
    | cons p r => exact absurd h Bool.false_ne_true
theorem showns_le : ∀ ds : List PyData, gds ds = true → piled (PyData.shownAll ds) ≤ wts ds ∧ PyData.showableAll ds = true
  | [], _ => by
    simp only [PyData.shownAll, wts, PyData.showableAll, and_true]
    exact Nat.le_refl _
  | d :: ds, h => by
    simp only [gds, Bool.and_eq_true] at h
    obtain ⟨h1, h2⟩ := shown_le d h.1
    obtain ⟨h3, h4⟩ := showns_le ds h.2
    simp only [PyData.shownAll, wts, PyData.showableAll, h2, h4, Bool.and_self, and_true]
    rw [piled_cons]
    omega
end
/-! ### repr of such a value -/
section
variable {X : Cx} {pins : List (Addr × Obj)} {σ : L2.St} {H : Hp} {s : Shared} {D : Deck}
theorem obj_lst (I : Inv X pins σ H s) {a : Addr} {xs : List V} (e : H a = some (.lst xs)) : ∃ (its : List Value) (o : Obj) (n : Nat), Vals xs its ∧ s.heap.get? a = some o ∧ o.cls = .type "list" ∧ o.data = .seq its.toArray n := by
  obtain ⟨_, its, n, r, h⟩ := (show ObjOk X.prog X.w H s.heap a (.lst xs) from I.hok a _ e)
  exact ⟨its, _, n, r, h, rfl, rfl⟩
theorem obj_tup (I : Inv X pins σ H s) {a : Addr} {xs : List V} (e : H a = some (.tup xs)) : ∃ (its : List Value) (o : Obj) (n : Nat), Vals xs its ∧ s.heap.get? a = some o ∧ o.cls = .type "tuple" ∧ o.data = .seq its.toArray n := by
  obtain ⟨_, its, r, o, h1, h2, n, h3⟩ := (show ObjOk X.prog X.w H s.heap a (.tup xs) from I.hok a _ e)
  exact ⟨its, o, n, r, h1, h2, h3⟩
theorem obj_emp (I : Inv X pins σ H s) {a : Addr} (e : H a = some (.dK [])) : ∃ (o : Obj) (n : Nat), s.heap.get? a = some o ∧ o.cls = .type "dict" ∧ o.data = .dict #[] n ∧ (a == sysModules) = false := by
  obtain ⟨_, ne, vs, kv, o, es, ep, h1, ex, h2, _, ps, _⟩ := (show ObjOk X.prog X.w H s.heap a (.dK []) from I.hok a _ e)
  cases kv
  have hes : es = #[] := by
    cases hl : es.toList with
    | nil => exact Array.toList_eq_nil_iff.mp hl
    | cons e l =>
      rw [hl] at ps
      cases ps
  subst hes
  exact ⟨o, ep, h1, ex.1, h2, ne⟩
mutual
theorem dq_reads (I : Inv X pins σ H s) : ∀ (d : PyData) (v : V) (u : Value), DQ D H v d → RelV v u → ∃ as, Reads s.heap u d as
  | .none, _, _, h, r => by
    cases h
    cases r
    exact ⟨_, .none⟩
  | .bool b, _, _, h, r => by
    cases h
    cases r
    exact ⟨_, .bool b⟩
  | .int i, _, _, h, r => by
    cases h
    obtain ⟨t, rfl⟩ := r
    exact ⟨_, .int i t⟩
  | .str x, _, _, h, r => by
    cases h
    obtain ⟨t, rfl⟩ := r
    exact ⟨_, .str x t⟩
  | .list ds, _, _, h, r => by
    cases h with
    | lst o e al =>
      cases r
      obtain ⟨its, ob, n, rv, h1, h2, h3⟩ := obj_lst I e
      obtain ⟨as, ra⟩ := dq_readsAll I ds _ its al rv
      exact ⟨_, .list h1 h2 h3 ra⟩
  | .tuple ds, _, _, h, r => by
    cases h with
    | tup o e al =>
      cases r
      obtain ⟨its, ob, n, rv, h1, h2, h3⟩ := obj_tup I e
      obtain ⟨as, ra⟩ := dq_readsAll I ds _ its al rv
      exact ⟨_, .tuple h1 h2 h3 ra⟩
  | .dict kvs, _, _, h, r => by
    cases h with
    | emp o e =>
      cases r
      obtain ⟨ob, n, h1, h2, h3, _⟩ := obj_emp I e
      exact ⟨_, .dict h1 h2 h3 .nil .nil⟩
theorem dq_readsAll (I : Inv X pins σ H s) : ∀ (ds : List PyData) (vs : List V) (us : List Value), DQAll D H vs ds → Vals vs us → ∃ as, ReadsAll s.heap us ds as
  | [], _, _, h, r => by
    cases h
    cases r
    exact ⟨_, .nil⟩
  | d :: ds, _, _, h, r => by
    cases h with
    | cons h1 h2 =>
      cases r with
      | cons r1 r2 =>
        obtain ⟨as, q1⟩ := dq_reads I d _ _ h1 r1
        obtain ⟨bs, q2⟩ := dq_readsAll I ds _ _ h2 r2
        exact ⟨_, .cons q1 q2⟩
end
theorem entries0 {as : List Addr} {h₀ : Heap} {d : Nat} {prog : Program} {w : World} : ReprEntriesK prog w as h₀ d (#[] : Array DictEntry).toList [] := .nil
mutual
theorem dq_repr (I : Inv X pins σ H s) : ∀ (d : PyData) (v : V) (u : Value), DQ D H v d → RelV v u → gd d = true → wt d ≤ 1000000 → ∃ bs, ReadAtMost s.heap d.depth bs ∧ ReprK X.prog X.w bs s.heap d.depth u d.shown
  | .none, _, _, h, r, _, _ => by
    cases h
    cases r
    exact ⟨[], (fun _ z => nomatch z), by simp only [PyData.shown]; exact .of_is ReprIs.none _ _ _⟩
  | .bool b, _, _, h, r, _, _ => by
    cases h
    cases r
    exact ⟨[], (fun _ z => nomatch z), by simp only [PyData.shown]; exact .of_is (ReprIs.bool b) _ _ _⟩
  | .int i, _, _, h, r, g, _ => by
    cases h
    obtain ⟨t, rfl⟩ := r
    exact ⟨[], (fun _ z => nomatch z), by simp only [PyData.shown]; exact .of_is (ReprIs.int t (int_show g).2) _ _ _⟩
  | .str x, _, _, h, r, g, _ => by
    cases h
    obtain ⟨t, rfl⟩ := r
    have hx : (reprText x).length ≤ sizeLine := small (Nat.le_trans (reprText_le g) (by decide))
    exact ⟨[], (fun _ z => nomatch z), by simp only [PyData.shown]; exact .of_is (ReprIs.str x t hx) _ _ _⟩
  | .list ds, _, _, h, r, g, z => by
    have rd := dq_reads I (.list ds) _ _ h r
    cases h with
    | @lst a xs _ o e al =>
      cases r
      simp only [gd] at g
      simp only [wt] at z
      obtain ⟨its, ob, n, rv, h1, h2, h3⟩ := obj_lst I e
      obtain ⟨bs, hb, hk⟩ := dq_reprAll I ds _ its al rv g (by omega)
      obtain ⟨as, rd⟩ := rd
      have hna : a ∉ bs := not_mem_of_deeper rd (by simp only [PyData.depth]; omega) hb
      refine ⟨a :: bs, ReadAtMost.cons rd (by simp only [PyData.depth]; omega) hb, ?_⟩
      simp only [PyData.depth, PyData.shown]
      cases its with
      | nil =>
        cases rv
        cases al
        simp only [PyData.shownAll, listText_nil]
        exact ReprK.listEmpty h1 h2 h3
      | cons y l => exact ReprK.list h1 h2 h3 hna (by simpa using hk.length_eq) (fun i w e => hk.item i w (by simpa using e))
  | .tuple ds, _, _, h, r, g, z => by
    have rd := dq_reads I (.tuple ds) _ _ h r
    cases h with
    | @tup a xs _ o e al =>
      cases r
      simp only [gd] at g
      simp only [wt] at z
      obtain ⟨its, ob, n, rv, h1, h2, h3⟩ := obj_tup I e
      obtain ⟨bs, hb, hk⟩ := dq_reprAll I ds _ its al rv g (by omega)
      obtain ⟨as, rd⟩ := rd
      have hna : a ∉ bs := not_mem_of_deeper rd (by simp only [PyData.depth]; omega) hb
      refine ⟨a :: bs, ReadAtMost.cons rd (by simp only [PyData.depth]; omega) hb, ?_⟩
      simp only [PyData.depth, PyData.shown]
      exact ReprK.tuple h1 h2 h3 hna hk
  | .dict kvs, _, _, h, r, _, _ => by
    have rd := dq_reads I (.dict kvs) _ _ h r
    cases h with
    | @emp a o e =>
      cases r
      obtain ⟨ob, n, h1, h2, h3, hs⟩ := obj_emp I e
      obtain ⟨as, rd⟩ := rd
      refine ⟨[a], ReadAtMost.cons rd (n := 0) (Nat.zero_le _) (fun _ z => nomatch z), ?_⟩
      simp only [PyData.depth, PyData.shown, PyData.shownKv, PyData.depthKv]
      exact ReprK.dict h1 h2 h3 hs (fun z => nomatch z) entries0
theorem dq_reprAll (I : Inv X pins σ H s) : ∀ (ds : List PyData) (vs : List V) (us : List Value), DQAll D H vs ds → Vals vs us → gds ds = true → wts ds ≤ 1000000 → ∃ bs, ReadAtMost s.heap (PyData.depthAll ds) bs ∧ ReprAllK X.prog X.w bs s.heap (PyData.depthAll ds) us (PyData.shownAll ds)
  | [], _, _, h, r, _, _ => by
    cases h
    cases r
    exact ⟨[], (fun _ z => nomatch z), by simp only [PyData.shownAll]; exact .nil⟩
  | d :: ds, _, _, h, r, g, z => by
    cases h with
    | cons h1 h2 =>
      cases r with
      | cons r1 r2 =>
        simp only [gds, Bool.and_eq_true] at g
        simp only [wts] at z
        obtain ⟨b1, hb1, k1⟩ := dq_repr I d _ _ h1 r1 g.1 (by omega)
        obtain ⟨b2, hb2, k2⟩ := dq_reprAll I ds _ _ h2 r2 g.2 (by omega)
        simp only [PyData.depthAll, PyData.shownAll]
        refine ⟨b1 ++ b2, (hb1.mono (Nat.le_max_left _ _)).append (hb2.mono (Nat.le_max_right _ _)), ?_⟩
        refine .cons ((k1.more ?_).level_le (Nat.le_max_left _ _)) (k2.more_le ?_ (Nat.le_max_right _ _))
        · intro b hb
          exact List.mem_append_left _ hb
        · intro b hb
          exact List.mem_append_right _ hb
end
end
theorem call_reprQ {X : Cx} (hg : X.A.guards = some []) (hu : X.A.units + 64 < cLine) : CallR X (.builtin "repr") (fun xs H Q => ∃ (v : V) (D : Deck) (d : PyData), xs = [v] ∧ DQ D H v d ∧ gd d = true ∧ wt d ≤ 1000000 ∧ d.depth ≤ 60 ∧ Q (.str d.shown) H) := by
  intro pins s σ H xs us Q I r h
  obtain ⟨v, D, d, rfl, hd, g, z, hz, q⟩ := h
  obtain ⟨u, rfl, rx⟩ := vals1 r
  obtain ⟨hl, _⟩ := shown_le d g
  have big : (1000000 : Nat) ≤ sizeLine := by decide
  have fits : d.shown.length ≤ sizeLine := by omega
  have fin : ∀ (h' : Heap) (t : Tok) (tk : Tok), (∀ b o, s.heap.get? b = some o → h'.get? b = some o) → EP X pins σ Q (.str d.shown t) { s with heap := h', toks := tk } := fun h' t tk hk => ⟨.str d.shown, H, I.kept (t' := tk) hk, ⟨t, rfl⟩, q⟩
  have nil0 : ∀ b ∈ ([] : List Addr), True := fun _ _ => trivial
  have key := dq_repr I d v u hd rx g z
  have rds := dq_reads I d v u hd rx
  cases hd with
  | non =>
    cases rx
    simp only [PyData.shown] at fin
    exact PySem.P.repr_of_none (fin s.heap _ _ fun _ _ e => e)
  | bl b =>
    cases rx
    simp only [PyData.shown] at fin
    exact PySem.P.repr_of_bool (fin s.heap _ _ fun _ _ e => e)
  | int i =>
    obtain ⟨t, rfl⟩ := rx
    simp only [PyData.shown] at fin
    exact PySem.P.repr_of_int (int_show g).2 (fin s.heap _ _ fun _ _ e => e)
  | str x =>
    obtain ⟨t, rfl⟩ := rx
    simp only [PyData.shown] at fin fits
    exact PySem.P.repr_of_str (fin s.heap _ _ fun _ _ e => e) fits
  | @lst a xs ds o e al =>
    cases rx
    simp only [gd] at g
    simp only [wt] at z
    simp only [PyData.shown] at fin fits
    simp only [PyData.depth] at hz
    obtain ⟨its, ob, n, rv, h1, h2, h3⟩ := obj_lst I e
    obtain ⟨bs, hb, hk⟩ := dq_reprAll I ds _ its al rv g (by omega)
    obtain ⟨as, rd⟩ := rds
    have hna : a ∉ bs := not_mem_of_deeper rd (by simp only [PyData.depth]; omega) hb
    refine call_repr_slot (by omega) ⟨ob, h1, h2⟩ F.slot_list_repr.toG ?_
    cases its with
    | nil =>
      cases rv
      cases al
      simp only [PyData.shownAll, listText_nil] at fin
      exact call_list_repr_empty ⟨ob, h1, h2⟩ h1 h3 ⟨_, _, rfl, fin s.heap _ _ fun _ _ e => e⟩
    | cons y l => exact call_list_reprK h1 h2 h3 hna (by simpa using hk.length_eq) (fun i w e => hk.item i w (by simpa using e)) hg (fun b _ => Clear.nil b) (by show X.A.units + 1 + (PyData.depthAll ds + 1) < cLine; omega) (fun _ _ e => e) (fun h' u tk hk => ⟨_, _, rfl, fin h' u tk hk⟩) fits
  | @tup a xs ds o e al =>
    cases rx
    simp only [gd] at g
    simp only [wt] at z
    simp only [PyData.shown] at fin fits
    simp only [PyData.depth] at hz
    obtain ⟨its, ob, n, rv, h1, h2, h3⟩ := obj_tup I e
    obtain ⟨bs, hb, hk⟩ := dq_reprAll I ds _ its al rv g (by omega)
    obtain ⟨as, rd⟩ := rds
    have hna : a ∉ bs := not_mem_of_deeper rd (by simp only [PyData.depth]; omega) hb
    refine call_repr_slot (by omega) ⟨ob, h1, h2⟩ F.slot_tuple_repr ?_
    exact call_tuple_reprK h1 h2 h3 hna hk hg (fun b _ => Clear.nil b) (by show X.A.units + 1 + (PyData.depthAll ds + 1) < cLine; omega) (fun _ _ e => e) (fun h' u tk hk => ⟨_, _, rfl, fin h' u tk hk⟩) fits
  | @emp a o e =>
    cases rx
    simp only [PyData.shown, PyData.shownKv] at fin fits
    obtain ⟨ob, n, h1, h2, h3, hs⟩ := obj_emp I e
    refine call_repr_slot (by omega) ⟨ob, h1, h2⟩ F.slot_dict_repr ?_
    exact call_dict_reprK h1 h2 h3 hs (as := []) (fun z => nomatch z) (d := 0) entries0 hg (fun b _ => Clear.nil b) (by show X.A.units + 1 + (0 + 1) < cLine; omega) (fun _ _ e => e) (fun h' u tk hk => ⟨_, _, rfl, fin h' u tk hk⟩) fits
theorem dq_ty {K : PySem.W.Frag} {D : Deck} {H : Hp} {v : V} {d : PyData} (h : DQ D H v d) : TyX K H v (.type (tyD d)) := by
  cases h with
  | non => exact .base .non
  | bl b => exact .base (.bl b)
  | int i => exact .base (.int i)
  | str x => exact .base (.str x)
  | lst _ e _ => exact .base (.lst e)
  | tup _ e _ => exact .base (.tup e)
  | emp _ e => exact .base (.dK e)
def isStrD : PyData → Bool
  | .str _ => true
  | _ => false
def isTupD : PyData → Bool
  | .tuple _ => true
  | _ => false
theorem kit_str (d : PyData) : kitB (tyD d) "str" = some (isStrD d) := by
  cases d <;> (simp only [tyD, isStrD]; decide +kernel)
theorem kit_tup (d : PyData) : kitB (tyD d) "tuple" = some (isTupD d) := by
  cases d <;> (simp only [tyD, isTupD]; decide +kernel)
theorem isStr_of {d : PyData} (h : isStrD d = true) : ∃ x, d = .str x := by
  cases d <;> first | exact ⟨_, rfl⟩ | exact absurd h Bool.false_ne_true
/-! ### a loop over a text -/
theorem for_text {x : Str} {g : TG} {tb : TS} {D : Ends} {σ : L2.St} {H : Hp} (Pv : Nat → L2.St → Hp → Prop) (h0 : Pv 0 σ H)
    (hs : ∀ i c σ H, x.cps.toList[i]? = some c → Pv i σ H → g (.str ⟨#[c]⟩) σ H fun σ2 H2 => tb { D with nx := Pv (i + 1), ct := Pv (i + 1), bk := D.nx } σ2 H2)
    (hd : ∀ σ H, Pv x.cps.toList.length σ H → D.nx σ H) :
    ∃ W : Nat → Nat → L2.St → Hp → Prop, (∃ m, W 0 m σ H) ∧ ∀ i m σ H, W i m σ H →
      ((Its x).stop i H ∧ D.nx σ H) ∨ ((Its x).go i H ∧ ∃ N : L2.St → Hp → Prop, (∀ σ' H', N σ' H' → ∃ m', m' < m ∧ W (i + 1) m' σ' H') ∧
        ∀ v H', (Its x).yld i H v H' → g v σ H' fun σ2 H2 => tb { D with nx := N, ct := N, bk := D.nx } σ2 H2) := by
  have len : x.cps.toList.length = x.cps.size := Array.length_toList
  refine ⟨fun i m σ H => m = x.cps.size - i ∧ i ≤ x.cps.size ∧ Pv i σ H, ⟨_, rfl, Nat.zero_le _, h0⟩, ?_⟩
  rintro i m σ H ⟨rfl, hi, p⟩
  by_cases lt : i < x.cps.size
  · refine .inr ⟨lt, Pv (i + 1), fun σ' H' p' => ⟨x.cps.size - (i + 1), by omega, rfl, lt, p'⟩, ?_⟩
    rintro v H' ⟨rfl, c, hc, rfl⟩
    exact hs i c σ _ (by rw [Array.getElem?_toList]; exact hc) p
  · have e : i = x.cps.toList.length := by omega
    subst e
    exact .inl ⟨by show x.cps.size ≤ _; omega, hd σ H p⟩
/-! ### part_at -/
theorem scPart : FnScope ["tree", "path", "part", "step"] ["tree", "path"] (defScope sPart) := ⟨rfl, rfl, rfl, by decide +kernel, rfl, by decide +kernel, by decide +kernel⟩
/-- the part of a tree at a path, by its signs: nothing if it leads nowhere -/
def T.at : T → List Nat → Option T
  | t, [] => some t
  | .nil, _ :: _ => none
  | .node l _ r, c :: cs => if c = 108 then l.at cs else if c = 114 then r.at cs else none
theorem T.at_nil (t : T) : t.at [] = some t := by cases t <;> rfl
abbrev leT : List Value := [.type "LookupError", .type "Exception", .type "BaseException", .type "object"]
/-- what the value of a path leads to -/
def pathTo (t : T) : PyData → Option T
  | .str x => t.at x.cps.toList
  | _ => none
/-- the tree at v, any value v' as the path: its part, or the error of the class at C with this value -/
def spPart (C : Addr) : Sp := fun vs H Q E => ∃ (v v' : V) (t : T) (D : Deck) (d : PyData), vs = [v, v'] ∧ TreeAt H v t ∧ DQ D H v' d ∧
  (∀ u, pathTo t d = some u → ∀ (H' : Hp) (vu : V), Same H H' → TreeAt H' vu u → Q vu H') ∧ (pathTo t d = none → ∀ (H' : Hp) (p : Addr), Same H H' → H' p = none → E (.ref C) (some p) (upd H' p (.xd [(("value" : Str), v')])))
section
variable {P : Program} {w : World} {K : PySem.W.Frag} {mg : Str → Option Value} {base : Heap} {f : Addr} {fd : FuncData} {C fI : Addr} {qn : Str}
theorem ok_part {k : Nat} (F : Fun K "part_at" "part_at" sPart f fd) (hE : Err_value K mg "LookupError.__new__" leT "NoPath" qn C fI) (mi : mg "isinstance" = none) (ms : mg "str" = none) : FnOk P w K mg base (L2.CX P w) (k + 1) f fd ["tree", "path"] (spPart C) := by
  refine F.okX scPart (fun vs H Q E h => ?_) (fun cdv A outer s H vs Q E hr h => ?_)
  · obtain ⟨v, v', t, D, d, rfl, _⟩ := h
    rfl
  obtain ⟨v, v', t, D, d, rfl, ht, hd, q, qe⟩ := h
  have bi : bootBuiltins "isinstance" = some (.builtin "isinstance") := by decide +kernel
  refine ⟨_, pss_cons (ps_if (pt_not (pt_val (pe_callB call_isi rfl mi bi (pa_cons (pv 1) (pa_cons (pe_bltn (v := .ty "str") rfl ms (by decide +kernel) rfl) pa_nil))))) (pss_one (ps_raise_value rfl famL hE hr (takes_of rfl rfl rfl rfl) (pa_cons (pv 1) pa_nil) rfl)) pss_nil)
    (pss_cons (ps_set (i := 2) scPart.nd rfl (.inl rfl) (pv 0))
    (pss_cons (ps_for (passes_of rfl) rfl (pi_str (pv 1)) (pg_name (i := 3) scPart.nd rfl (.inl rfl))
      (pss_cons (ps_if (PW.pt (pw_or (pt_cmpR op_isN (pv 2) pe_non (nomark _)) (pw_or1 (pt_cmpR op_notIn_seq (pv 3) (pe_tup (pa_cons pe_str (pa_cons pe_str pa_nil))) (by rfl))))) (pss_one (ps_raise_value rfl famL hE hr (takes_of rfl rfl rfl rfl) (pa_cons (pv 1) pa_nil) rfl)) pss_nil)
      (pss_one (ps_set (i := 2) scPart.nd rfl (.inl rfl) (pe_ifExp (pt_cmpR op_eq (pv 3) pe_str (nomark _)) (pe_ix ix_tup (pv 2) pe_int (fun _ _ => rfl)) (pe_ix ix_tup (pv 2) pe_int (fun _ _ => rfl)))))))
    (pss_one (ps_ret (pv 2))))), ?_⟩
  refine ⟨_, rfl, _, _, _, _, isStrD d, rfl, .ty _, dq_ty hd, kit_ty (kit_str d), _, rfl, ?_⟩
  cases hs : isStrD d with
  | false =>
    have no : pathTo t d = none := by cases d <;> first | rfl | exact absurd hs (by simp [isStrD])
    exact iteT ⟨_, rfl, v', rfl, fun p np => qe no H p (Same.refl H) np⟩
  | true =>
    refine iteF ?_
    obtain ⟨x, rfl⟩ := isStr_of hs
    cases hd
    refine ⟨_, rfl, _, rfl, x, rfl, ?_⟩
    refine for_text (x := x) (fun i σ H' => ∃ (vu : V) (u : T) (y : Option V), σ = [some v, some (.str x), some vu, y] ∧ Same H H' ∧ TreeAt H vu u ∧ t.at x.cps.toList = u.at (x.cps.toList.drop i)) ⟨v, t, none, rfl, Same.refl H, ht, rfl⟩ (fun i c σ H' hc hp => ?_) (fun σ H' hp => ?_)
    · obtain ⟨vu, u, y, rfl, sm, hu, e⟩ := hp
      have hi : i < x.cps.toList.length := (List.getElem?_eq_some_iff.mp hc).1
      have hcd : x.cps.toList.drop i = c :: x.cps.toList.drop (i + 1) := by
        rw [List.drop_eq_getElem_cons hi, (List.getElem?_eq_some_iff.mp hc).2]
      rw [hcd] at e
      rcases hu.inv with ⟨rfl, rfl⟩ | ⟨a, l, r, lb, tl, tr, rfl, rfl, ea, hL, hR⟩
      · refine ⟨_, rfl, rfl, _, rfl, iteT (iteT ?_)⟩
        exact ⟨_, rfl, _, rfl, fun p np => qe (show t.at _ = none by rw [e]; rfl) H' p sm np⟩
      · refine ⟨_, rfl, rfl, _, rfl, iteF ?_⟩
        refine ⟨_, rfl, (by show 2 ≤ sizeLine; decide), fun tp ntp => ?_⟩
        have s1 := sm.trans (same_new ntp (.tup [.str "l", .str "r"]))
        refine ⟨tp, _, rfl, .inr (SqT.of upd_same), rfl, rfl, _, rfl, ?_⟩
        generalize upd H' tp (.tup [.str "l", .str "r"]) = H1 at s1 ⊢
        have ea1 := s1 _ _ ea
        by_cases h1 : c = 108
        · subst h1
          refine iteF ?_
          refine ⟨_, rfl, rfl, _, rfl, iteT ?_⟩
          exact ⟨_, rfl, a, _, 0, l, rfl, rfl, SqT.of ea1, atI_nat (j := 0) rfl, l, tl, _, rfl, s1, hL, by rw [e]; rfl⟩
        · by_cases h2 : c = 114
          · subst h2
            refine iteF ?_
            refine ⟨_, rfl, rfl, _, rfl, iteF ?_⟩
            exact ⟨_, rfl, a, _, 2, r, rfl, rfl, SqT.of ea1, atI_nat (j := 2) rfl, r, tr, _, rfl, s1, hR, by rw [e]; rfl⟩
          · have hin : inV (.str ⟨#[c]⟩) [V.str "l", V.str "r"] = false := by
              have el : Str.ofString "l" = ⟨#[108]⟩ := by decide +kernel
              have er : Str.ofString "r" = ⟨#[114]⟩ := by decide +kernel
              have ne : ∀ k : Nat, c ≠ k → ((⟨#[k]⟩ : Str) == ⟨#[c]⟩) = false := by
                intro k hk
                rw [beq_eq_false_iff_ne]
                intro z
                have z' := congrArg (fun y : Str => y.cps.toList) z
                exact hk (List.cons.inj z').1.symm
              unfold inV
              show ((Str.ofString "l" == ⟨#[c]⟩) || ((Str.ofString "r" == ⟨#[c]⟩) || false)) = false
              rw [el, er, ne 108 h1, ne 114 h2]
              rfl
            show if (!inV (.str ⟨#[c]⟩) [V.str "l", V.str "r"]) = true then _ else _
            rw [hin]
            refine iteT ?_
            exact ⟨_, rfl, _, rfl, fun p np => qe (show t.at _ = none by rw [e]; show (if c = 108 then _ else if c = 114 then _ else none) = none; rw [if_neg h1, if_neg h2]) H1 p s1 np⟩
    · obtain ⟨vu, u, y, rfl, sm, hu, e⟩ := hp
      rw [List.drop_length, u.at_nil] at e
      exact ⟨_, rfl, q u e H' vu sm (hu.same sm)⟩
end
/-! ### with_part -/
def T.put : T → List Nat → T → T
  | _, [], u => u
  | .nil, _ :: _, _ => .nil
  | .node l x r, c :: cs, u => if c = 108 then .node (l.put cs u) x r else .node l x (r.put cs u)
theorem scWith : FnScope ["tree", "path", "part", "left", "label", "right"] ["tree", "path", "part"] (defScope sWith) := ⟨rfl, rfl, rfl, by decide +kernel, rfl, by decide +kernel, by decide +kernel⟩
theorem cutS_tail {x : Str} {c : Nat} {cs : List Nat} (h : x.cps.toList = c :: cs) : (cutS x (some 1) none).cps.toList = cs := by
  have hl : x.length = cs.length + 1 := by
    show x.cps.size = _
    rw [← Array.length_toList, h, List.length_cons]
  unfold cutS
  rw [show HT.sIx x.length 0 (some 1) = min 1 x.length from HT.sIx_nat x.length 0 1, HT.sIx_none, hl, h]
  show ((c :: cs).drop (min 1 (cs.length + 1))).take (cs.length + 1 - min 1 (cs.length + 1)) = cs
  rw [show min 1 (cs.length + 1) = 1 by omega, List.drop_succ_cons, List.drop_zero]
  exact List.take_of_length_le (by omega)
def spWith (n : Nat) : Sp := fun vs H Q _ => ∃ (v vp : V) (t u : T) (x : Str), vs = [v, .str x, vp] ∧ TreeAt H v t ∧ TreeAt H vp u ∧ x.cps.toList.length < n ∧ x.length ≤ 100000 ∧ (t.at x.cps.toList).isSome = true ∧ ∀ (H' : Hp) (v' : V), Same H H' → TreeAt H' v' (t.put x.cps.toList u) → Q v' H'
section
variable {P : Program} {w : World} {K : PySem.W.Frag} {mg : Str → Option Value} {base : Heap} {f : Addr} {fd : FuncData}
theorem ok_with (F : Fun K "with_part" "with_part" sWith f fd) (b : Binds K fd ["tree", "path", "part"] []) (g0 : mg "with_part" = some (.ref f)) : ∀ n : Nat, FnOk P w K mg base CX0 n f fd ["tree", "path", "part"] (spWith n)
  | 0 => by
    have no : ∀ vs H Q E, ¬ spWith 0 vs H Q E := fun vs H Q E h => by
      obtain ⟨v, vp, t, u, x, _, _, _, h1, _⟩ := h
      omega
    exact ⟨fun vs H Q E h => absurd h (no vs H Q E), fun A outer s H args us vs Q E _ _ _ _ h => absurd h (no vs H Q E)⟩
  | n + 1 => by
    have G := ok_with F b g0 n
    refine F.ok scWith (fun vs H Q E h => ?_) (fun cdv A outer s H vs Q E hr h => ?_)
    · obtain ⟨v, vp, t, u, x, rfl, _⟩ := h
      rfl
    obtain ⟨v, vp, t, u, x, rfl, ht, hu, hn, hx, hs, q⟩ := h
    refine ⟨_, pss_cons (ps_if (pt_cmpR op_eq (pv 1) pe_str (nomark _)) (pss_one (ps_ret (pv 2))) pss_nil)
      (pss_cons (ps_asg (pv 0) (pg_tup rfl (pgs_cons (pg_name (i := 3) scWith.nd rfl (.inl rfl)) (pgs_cons (pg_name (i := 4) scWith.nd rfl (.inl rfl)) (pgs_cons (pg_name (i := 5) scWith.nd rfl (.inl rfl)) pgs_nil)))))
      (pss_cons (ps_if (pt_cmpR op_eq (pe_ix ix_str (pv 1) pe_int (fun _ _ => rfl)) pe_str (nomark _))
        (pss_one (ps_ret (pe_tup (pa_cons (pe_call G hr rfl g0 F.kp b .nil pass0 (pa_cons (pv 3) (pa_cons (pe_slice sl_str (pv 1) (po_some pe_int) po_none) (pa_cons (pv 2) pa_nil)))) (pa_cons (pv 4) (pa_cons (pv 5) pa_nil)))))) pss_nil)
      (pss_one (ps_ret (pe_tup (pa_cons (pv 3) (pa_cons (pv 4) (pa_cons (pe_call G hr rfl g0 F.kp b .nil pass0 (pa_cons (pv 5) (pa_cons (pe_slice sl_str (pv 1) (po_some pe_int) po_none) (pa_cons (pv 2) pa_nil)))) pa_nil)))))))), ?_⟩
    cases hcs : x.cps.toList with
    | nil =>
      have ex : x = "" := by
        obtain ⟨⟨l⟩⟩ := x
        have : l = [] := hcs
        subst this
        rfl
      subst ex
      refine ⟨_, rfl, rfl, _, rfl, iteT ⟨_, rfl, q H vp (Same.refl H) ?_⟩⟩
      rw [hcs]
      cases t <;> exact hu
    | cons c cs =>
      have nex : ¬ (V.str x = V.str "") := fun z => by
        have z' := V.str.inj z
        rw [z'] at hcs
        have e0 : (Str.ofString "").cps.toList = [] := by decide +kernel
        rw [e0] at hcs
        cases hcs
      refine ⟨_, rfl, rfl, _, rfl, ?_⟩
      rw [decide_eq_false nex]
      refine iteF ?_
      rw [hcs] at hs hn q
      rcases ht.inv with ⟨rfl, rfl⟩ | ⟨a, l, r, lb, tl, tr, rfl, rfl, ea, hL, hR⟩
      · exact absurd hs (by show ¬ (none : Option T).isSome = true; decide)
      refine ⟨_, rfl, a, _, rfl, SqT.of ea, rfl, l, _, rfl, .str lb, _, rfl, r, _, rfl, rfl, ?_⟩
      refine ⟨_, rfl, x, 0, c, rfl, rfl, ?_, ?_, rfl, _, rfl, ?_⟩
      · exact Nat.le_trans hx (by decide)
      · rw [hcs]
        exact atI_nat (j := 0) rfl
      have el : Str.ofString "l" = ⟨#[108]⟩ := by decide +kernel
      have hct := cutS_tail hcs
      have cl : (cutS x (some 1) none).length ≤ 100000 := by
        show (cutS x (some 1) none).cps.size ≤ _
        have : x.cps.toList.length ≤ 100000 := by rw [Array.length_toList]; exact hx
        rw [← Array.length_toList, hct]
        rw [hcs, List.length_cons] at this
        omega
      have hn' : cs.length < n := by
        rw [List.length_cons] at hn
        omega
      have hx' : x.length ≤ sizeLine := Nat.le_trans hx (by decide)
      by_cases h1 : c = 108
      · subst h1
        rw [show decide (V.str ⟨#[108]⟩ = V.str "l") = true by rw [el]; exact decide_eq_true rfl]
        refine iteT ?_
        refine ⟨_, rfl, _, rfl, 1, rfl, x, rfl, hx', _, rfl, l, vp, tl, u, cutS x (some 1) none, rfl, hL, hu, by rw [hct]; exact hn', cl, by rw [hct]; exact hs, fun H1 v1 s1 a1 => ?_⟩
        refine ⟨_, rfl, _, rfl, (by show 3 ≤ sizeLine; decide), fun p np => ?_⟩
        have s2 := same_new np (.tup [v1, .str lb, r])
        rw [hct] at a1
        refine q _ _ (s1.trans s2) ?_
        show TreeAt _ _ (if (108 : Nat) = 108 then T.node (tl.put cs u) lb tr else T.node tl lb (tr.put cs u))
        rw [if_pos rfl]
        exact .node upd_same (a1.same s2) (hR.same (s1.trans s2))
      · have h2 : c = 114 := by
          by_cases z : c = 114
          · exact z
          · exfalso
            have e0 : (T.node tl lb tr).at (c :: cs) = none := by
              show (if c = 108 then _ else if c = 114 then _ else none) = none
              rw [if_neg h1, if_neg z]
            rw [e0] at hs
            exact absurd hs (by decide)
        subst h2
        rw [show decide (V.str ⟨#[114]⟩ = V.str "l") = false by rw [el]; exact decide_eq_false (by intro z; have z' := congrArg (fun y : Str => y.cps.toList) (V.str.inj z); exact absurd (List.cons.inj z').1 (by decide))]
        refine iteF ?_
        refine ⟨_, rfl, _, rfl, _, rfl, _, rfl, 1, rfl, x, rfl, hx', _, rfl, r, vp, tr, u, cutS x (some 1) none, rfl, hR, hu, by rw [hct]; exact hn', cl, by rw [hct]; exact hs, fun H1 v1 s1 a1 => ?_⟩
        refine ⟨(by show 3 ≤ sizeLine; decide), fun p np => ?_⟩
        have s2 := same_new np (.tup [l, .str lb, v1])
        rw [hct] at a1
        refine q _ _ (s1.trans s2) ?_
        show TreeAt _ _ (if (114 : Nat) = 108 then T.node (tl.put cs u) lb tr else T.node tl lb (tr.put cs u))
        rw [if_neg (by decide)]
        exact .node upd_same (hL.same (s1.trans s2)) (a1.same s2)
end
section
variable {P : Program} {w : World} {K : PySem.W.Frag} {mg : Str → Option Value} {base : Heap} {f : Addr} {fd : FuncData}
/-! ### size_of -/
def spSize (n : Nat) : Sp := fun vs H Q _ => ∃ (v : V) (t : T), vs = [v] ∧ TreeAt H v t ∧ t.deep < n ∧ Q (.int (t.size : Int)) H
theorem ok_size (F : Fun K "size_of" "size_of" sSize f fd) (b : Binds K fd ["tree"] []) (g : mg "size_of" = some (.ref f)) : ∀ n : Nat, FnOk P w K mg base CX0 n f fd ["tree"] (spSize n)
  | 0 => by
    have no : ∀ vs H Q E, ¬ spSize 0 vs H Q E := fun vs H Q E h => by
      obtain ⟨v, t, _, _, h1, _⟩ := h
      omega
    exact ⟨fun vs H Q E h => absurd h (no vs H Q E), fun A outer s H args us vs Q E _ _ _ _ h => absurd h (no vs H Q E)⟩
  | n + 1 => by
    have G := ok_size F b g n
    refine F.ok scSize (fun vs H Q E h => ?_) (fun cdv A outer s H vs Q E hr h => ?_)
    · obtain ⟨v, t, rfl, _⟩ := h
      rfl
    obtain ⟨v, t, rfl, ht, hd, q⟩ := h
    refine ⟨_, pss_cons (ps_if (pt_cmpR op_isN (pv 0) pe_non (nomark _)) (pss_one (ps_ret pe_int)) pss_nil)
      (pss_one (ps_ret (pe_op op_add (pe_op op_add (pe_call G hr rfl g F.kp b .nil pass0 (pa_cons (pe_ix ix_tup (pv 0) pe_int (fun _ _ => rfl)) pa_nil)) pe_int)
        (pe_call G hr rfl g F.kp b .nil pass0 (pa_cons (pe_ix ix_tup (pv 0) pe_int (fun _ _ => rfl)) pa_nil))))), ?_⟩
    rcases ht.inv with ⟨rfl, rfl⟩ | ⟨a, l, r, x, tl, tr, rfl, rfl, e, hl, hr'⟩
    · exact ⟨_, rfl, rfl, _, rfl, iteT q⟩
    · have hd' : 1 + max tl.deep tr.deep < n + 1 := hd
      refine ⟨_, rfl, rfl, _, rfl, iteF ?_⟩
      refine ⟨_, rfl, a, _, 0, l, rfl, rfl, SqT.of e, atI_nat (j := 0) rfl, l, tl, rfl, hl, by omega, ?_⟩
      refine ⟨_, _, rfl, rfl, _, rfl, a, _, 2, r, rfl, rfl, SqT.of e, atI_nat (j := 2) rfl, r, tr, rfl, hr', by omega, ?_⟩
      exact ⟨_, _, rfl, rfl, q⟩
end
/-! ### replaced -/
theorem scRepl : FnScope ["tree", "path", "part", "old"] ["tree", "path", "part"] (defScope sRepl) := ⟨rfl, rfl, rfl, by decide +kernel, rfl, by decide +kernel, by decide +kernel⟩
theorem T.at_size : ∀ (t u : T) (cs : List Nat), t.at cs = some u → u.size ≤ t.size ∧ cs.length + u.size ≤ t.size + 1
  | t, u, [], h => by
    rw [t.at_nil] at h
    cases h
    exact ⟨Nat.le_refl _, by rw [List.length_nil]; omega⟩
  | .nil, u, _ :: _, h => by cases h
  | .node l x r, u, c :: cs, h => by
    have h' : (if c = 108 then l.at cs else if c = 114 then r.at cs else none) = some u := h
    rw [List.length_cons]
    show u.size ≤ l.size + 1 + r.size ∧ cs.length + 1 + u.size ≤ l.size + 1 + r.size + 1
    by_cases h1 : c = 108
    · rw [if_pos h1] at h'
      have := l.at_size u cs h'
      omega
    · rw [if_neg h1] at h'
      by_cases h2 : c = 114
      · rw [if_pos h2] at h'
        have := r.at_size u cs h'
        omega
      · rw [if_neg h2] at h'
        cases h'
abbrev veT : List Value := [.type "ValueError", .type "Exception", .type "BaseException", .type "object"]
/-- a text that is not overlong -/
def gdL (d : PyData) : Prop := ∀ x, d = .str x → x.length ≤ 100000
def spRepl (C C2 : Addr) : Sp := fun vs H Q E => ∃ (v v' vp : V) (t u : T) (D : Deck) (d : PyData), vs = [v, v', vp] ∧ TreeAt H v t ∧ DQ D H v' d ∧ gdL d ∧ TreeAt H vp u ∧ t.size ≤ 50 ∧ u.size ≤ 50 ∧
  (pathTo t d = none → ∀ (H' : Hp) (p : Addr), Same H H' → H' p = none → E (.ref C) (some p) (upd H' p (.xd [(("value" : Str), v')]))) ∧
  (∀ o, pathTo t d = some o → t.size - o.size + u.size > 12 → ∀ (H' : Hp) (p : Addr), Same H H' → H' p = none → E (.ref C2) (some p) (upd H' p (.xd [(("limit" : Str), .int 12)]))) ∧
  (∀ o x, pathTo t d = some o → d = .str x → ¬ t.size - o.size + u.size > 12 → ∀ (H' : Hp) (vu : V), Same H H' → TreeAt H' vu (t.put x.cps.toList u) → Q vu H')
section
variable {P : Program} {w : World} {K : PySem.W.Frag} {mg : Str → Option Value} {base : Heap} {f fP fS fW : Addr} {fd fdP fdS fdW : FuncData} {C C2 fI fI2 : Addr} {qn qn2 : Str} {tk : Tok}
theorem ok_repl (F : Fun K "replaced" "replaced" sRepl f fd) (hE2 : Err_limit K mg "ValueError.__new__" veT "TooLarge" qn2 C2 fI2) (mN : mg "MAX_NODES" = some (.int 12 tk))
    (GP : FnOk P w K mg base (L2.CX P w) 1 fP fdP ["tree", "path"] (spPart C)) (bP : Binds K fdP ["tree", "path"] []) (kP : PySem.W.keepIn K (.ref fP) = true) (gP : mg "part_at" = some (.ref fP))
    (GS : FnOk P w K mg base CX0 60 fS fdS ["tree"] (spSize 60)) (bS : Binds K fdS ["tree"] []) (kS : PySem.W.keepIn K (.ref fS) = true) (gS : mg "size_of" = some (.ref fS))
    (GW : FnOk P w K mg base CX0 60 fW fdW ["tree", "path", "part"] (spWith 60)) (bW : Binds K fdW ["tree", "path", "part"] []) (kW : PySem.W.keepIn K (.ref fW) = true) (gW : mg "with_part" = some (.ref fW)) :
    FnOk P w K mg base (L2.CX P w) 61 f fd ["tree", "path", "part"] (spRepl C C2) := by
  refine F.okX scRepl (fun vs H Q E h => ?_) (fun cdv A outer s H vs Q E hr h => ?_)
  · obtain ⟨v, v', vp, t, u, D, d, rfl, _⟩ := h
    rfl
  obtain ⟨v, v', vp, t, u, D, d, rfl, ht, hd, hg, hu, ts, us, q1, q2, q3⟩ := h
  have hr1 := hr.mono (show 1 ≤ 60 by decide)
  refine ⟨_, pss_cons (ps_set (i := 3) scRepl.nd rfl (.inl rfl) (pe_call (E := E) GP hr1 rfl gP kP bP .nil (passes_call (takes_of rfl rfl rfl rfl) (fun _ _ _ _ h => h)) (pa_cons (pv 0) (pa_cons (pv 1) pa_nil))))
    (pss_cons (ps_if (pt_cmpR op_gt (pe_op op_add (pe_op op_sub (pe_call GS hr rfl gS kS bS .nil pass0 (pa_cons (pv 0) pa_nil)) (pe_call GS hr rfl gS kS bS .nil pass0 (pa_cons (pv 3) pa_nil))) (pe_call GS hr rfl gS kS bS .nil pass0 (pa_cons (pv 2) pa_nil))) (pe_glob (v := .int 12) rfl mN ⟨_, rfl⟩) (nomark _))
      (pss_one (ps_raise_limit rfl famV hE2 hr (takes_of rfl rfl rfl rfl) (pa_cons (pe_glob (v := .int 12) rfl mN ⟨_, rfl⟩) pa_nil) rfl)) pss_nil)
    (pss_one (ps_ret (pe_call GW hr rfl gW kW bW .nil pass0 (pa_cons (pv 0) (pa_cons (pv 1) (pa_cons (pv 2) pa_nil))))))), ?_⟩
  refine ⟨_, rfl, _, rfl, v, v', t, D, d, rfl, ht, hd, fun o ho H1 vo s1 ao => ?_, q1⟩
  have td := t.deep_le
  have ud := u.deep_le
  obtain ⟨x, rfl⟩ : ∃ x, d = .str x := by
    cases d <;> first | exact ⟨_, rfl⟩ | cases ho
  cases hd
  obtain ⟨hsz, hlen⟩ := t.at_size o x.cps.toList ho
  have od := o.deep_le
  refine ⟨_, rfl, v, t, rfl, ht.same s1, by omega, _, rfl, vo, o, rfl, ao, by omega, _, _, rfl, rfl, _, rfl, vp, u, rfl, hu.same s1, by omega, _, _, rfl, rfl, _, _, rfl, rfl, _, rfl, ite2 (fun c => ?_) (fun c => ?_)⟩
  · have c' : (t.size : Int) - (o.size : Int) + (u.size : Int) > 12 := of_decide_eq_true c
    exact ⟨_, rfl, fun p np => q2 o ho (by omega) H1 p s1 np⟩
  · have c' : ¬ (t.size : Int) - (o.size : Int) + (u.size : Int) > 12 := of_decide_eq_false (Bool.eq_false_iff.mpr c)
    refine ⟨_, rfl, _, rfl, _, rfl, v, vp, t, u, x, rfl, ht.same s1, hu.same s1, by omega, hg x rfl, by rw [show t.at x.cps.toList = some o from ho]; rfl, fun H2 v2 s2 a2 => ?_⟩
    exact q3 o x ho rfl (by omega) H2 v2 (s1.trans s2) a2
end
/-! ### defs that ask for repr: the guards are carried -/
structure FnOkG (P : Program) (w : World) (K : PySem.W.Frag) (mg : Str → Option Value) (base : Heap) (k : Nat) (f : Addr) (fd : FuncData) (ps : List Str) (sp : Sp) : Prop where
  len : ∀ vs H Q E, sp vs H Q E → vs.length = ps.length
  run : ∀ (A : Around) (outer : List Env) (s : Shared) (H : Hp) (args : Args) (us : List Value) (vs : List V) (Q : VK) (E : XK), A.guards = some [] → Room k A → Env0 P w K mg base A outer s H →
    BindsTo s fd args (ps.zip us) → Vals vs us → sp vs H Q E → codeAny (model P w) A (.call (.ref f) args) (CR CX0 outer P w H s Q E) s
theorem fnG {P : Program} {w : World} {K : PySem.W.Frag} {mg : Str → Option Value} {base : Heap} {f : Addr} {fd : FuncData} {N ps : List Str} {k : Nat} {x qual : Str} {st : Stmt} {sp : Sp} (F : Fun K x qual st f fd) (S : FnScope N ps (defScope st))
    (len : ∀ vs H Q E, sp vs H Q E → vs.length = ps.length)
    (body : ∀ (cdv : Value) (A : Around) (outer : List Env) (s : Shared) (H : Hp) (vs : List V) (Q : VK) (E : XK), A.guards = some [] → Room k (A.deeper (envOfC qual (defScope st) s.heap.objs.size f cdv)) → sp vs H Q E →
      ∃ t, PSs (cxOf CX0 P w K mg base N qual (defScope st) f cdv A outer s H E).nox (defBody st) t ∧ t { nx := fun _ H' => Q .non H', rt := Q } (start N vs) H) :
    FnOkG P w K mg base (k + 1) f fd ps sp := by
  refine ⟨len, ?_⟩
  intro A outer s H args us vs Q E gs room en bd rel hsp
  exact enter_def F S room en bd rel (len _ _ _ _ hsp) fun cdv hr => body cdv A outer s H vs Q E gs hr hsp
theorem pe_callG {X : Cx} {k : Nat} {f : Addr} {fd : FuncData} {ps : List Str} {sp : Sp} {x : Str} {p pos : Pos} {e : Expr} {es : List Expr} {t : TA}
    (G : FnOkG X.prog X.w X.K X.mg X.base k f fd ps sp) (gs : X.A.guards = some []) (room : Room k X.A) (isG : Gl X x) (at0 : X.mg x = some (.ref f)) (kp : PySem.W.keepIn X.K (.ref f) = true) (bd : Binds X.K fd ps []) (args : PA X (e :: es) t)
    (nd : (x == ("__debug__" : Str)) = false := by decide) (he : starEach (e :: es) X.env = (false, eval e X.env) :: starEach es X.env := by rfl) (hp : (backTo pos (starEach es X.env)).any (·.1) = false := by rfl) :
    PE X (.Call (.Name x p) (e :: es) [] pos) (tCall sp [] E0 t) := by
  constructor
  intro pins s σ H Q I h
  refine wpAny_Call_Name_kw (ld_glob I isG at0 ?_ nd)
  refine PySem.W.callWith_K (h₀ := X.base) I.ok.mod.kin kp (thn (args.run pos pins s σ H _ I h) ?_) he hp
  rintro us s1 ⟨vs, H1, I1, rel, q⟩
  refine ⟨I1.kIn, ?_⟩
  have q' : sp vs H1 Q E0 := by
    rw [List.append_nil] at q
    exact q
  have hl : (us ++ []).length = ps.length := by
    rw [List.append_nil, ← rel.length]
    exact G.len _ _ _ _ q'
  have bd' := bd s1 us I1.kIn hl
  rw [List.append_nil] at bd'
  refine wpAny_call (codeAny_mono (G.run X.A X.stack s1 H1 ⟨us, []⟩ us vs Q E0 gs room I1.env0 bd' rel q') ?_)
  intro r s' done
  cases r with
  | error e => exact done.elim
  | ok fl =>
    cases fl with
    | ret u => exact I1.after done
    | next => exact done.elim
    | brk => exact done.elim
    | cont => exact done.elim
/-! ### isinstance of a caught error that has a dict; several clauses 'except x as n' -/
/-- isinstance(e, c), e the error of the suite: its class D, its dict d -/
def rIsD (K : PySem.W.Frag) (D a : Addr) (d : Option Addr) : List V → Hp → VK → Prop := fun xs H Q =>
  ∃ c u b dd fs, xs = [.ref a, c] ∧ ClsV c u ∧ d = some dd ∧ H dd = some (.xd fs) ∧ PySem.W.kitOne K (.ref D) u = some b ∧ Q (.bl b) H
def rIsDT (K : PySem.W.Frag) (D a : Addr) (d : Option Addr) : List V → Hp → VK → Prop := fun xs H Q =>
  ∃ tp cs us b dd fs, xs = [.ref a, .ref tp] ∧ H tp = some (.tup cs) ∧ Paired ClsV cs us ∧ d = some dd ∧ H dd = some (.xd fs) ∧ PySem.W.kitAny K (.ref D) us = some b ∧ Q (.bl b) H
section
variable {X : Cx} {a D : Addr} {d : Option Addr} {oe : Obj} {pn : List (Addr × Obj)}
theorem inst_of {pins : List (Addr × Obj)} {s : Shared} {σ : L2.St} {H : Hp} {dd : Addr} {fs : List (Str × V)} (hz : Zc (.ref D) (some dd) oe) (hf : ∃ vs, oe.data = .fields vs)
    (I : Inv (X.suite a ((a, oe) :: pn)) pins σ H s) (e : H dd = some (.xd fs)) : ∃ od, PySem.W.InstAt s.heap a oe D (some od) := by
  have here := (I.pin (a, oe) (List.mem_append_left _ List.mem_cons_self)).1
  have ok : ObjOk X.prog X.w H s.heap dd (.xd fs) := I.hok dd _ e
  obtain ⟨mA, ns, -⟩ := ok
  obtain ⟨od, ho, -⟩ := lookIn_ns ns
  refine ⟨od, here, hz.1, ?_, ?_⟩
  · obtain ⟨vs, hv⟩ := hf
    unfold PySem.W.notCls
    rw [hv] <;> rfl
  · rw [hz.2]; exact ho
theorem kit_exD {K : PySem.W.Frag} {od : Option Obj} (C : ExcC K D) : PySem.W.KitX K (.ref a) (.ref D) (fun h => PySem.W.InstAt h a oe D od) := by
  have known : (PySem.W.clsIn K D).isSome = true := by
    obtain ⟨cd, hc, _⟩ := PySem.W.any_some C.hd
    rw [hc] <;> rfl
  exact PySem.W.kitx_exc known C.hg C.hk C.hs C.ha C.hn C.ht C.hm
theorem call_isD (C : ExcC X.K D) (hz : Zc (.ref D) d oe) (hf : ∃ vs, oe.data = .fields vs) : CallR (X.suite a ((a, oe) :: pn)) (.builtin "isinstance") (rIsD X.K D a d) := by
  rintro pins s σ H _ us Q I r ⟨c, u, b, dd, fs, rfl, k, rfl, eH, e, q⟩
  obtain ⟨u1, u2, rfl, r1, r2⟩ := vals2 r
  cases k.eq r2
  cases (show u1 = Value.ref a from r1)
  obtain ⟨od, J⟩ := inst_of hz hf I eH
  refine PySem.W.kia_one (kit_exD C) I.kIn J e (by intro z; cases z) fun tk => ?_
  exact ⟨.bl b, H, I.tok tk, rfl, q⟩
theorem call_isDT (C : ExcC X.K D) (hz : Zc (.ref D) d oe) (hf : ∃ vs, oe.data = .fields vs) : CallR (X.suite a ((a, oe) :: pn)) (.builtin "isinstance") (rIsDT X.K D a d) := by
  rintro pins s σ H _ us Q I r ⟨tp, cs, ws, b, dd, fs, rfl, hT, k, rfl, eH, e, q⟩
  obtain ⟨u1, u2, rfl, r1, r2⟩ := vals2 r
  cases (show u2 = Value.ref tp from r2)
  cases (show u1 = Value.ref a from r1)
  obtain ⟨od, J⟩ := inst_of hz hf I eH
  have okT : ObjOk X.prog X.w H s.heap tp (.tup cs) := I.hok tp _ hT
  obtain ⟨-, its, rv, ⟨oc, od', dt, sl⟩, there, kind, n, data⟩ := okT
  dsimp only at kind data
  subst kind data
  cases ClsV.all k rv
  refine PySem.W.kia_tup (kit_exD C) I.kIn J there e (by intro z; cases z) fun tk => ?_
  exact ⟨.bl b, H, I.tok tk, rfl, q⟩
end
/-- an error of the body, landed in X: sI is the state without it, s the state with it -/
structure Down (X : Cx) (pins : List (Addr × Obj)) (σ : L2.St) (H : Hp) (cls : Value) (d : Option Addr) (a : Addr) (B : Heap) (sI s : Shared) : Prop where
  inv : Inv X pins σ H sI
  base : ∀ b o, sI.heap.get? b = some o → b ∉ frs X.stack → B.get? b = some o
  up : sI.heap.UpToSlots s.heap
  fly : HandSPX.FlyingZ B (X.env :: X.outer) a (Zc cls d) s.heap
  free : H a = none
  os : s.os = sI.os
  bare : AllBare s.gens
section
variable {X : Cx} {pins : List (Addr × Obj)} {σ : L2.St} {H : Hp} {cls : Value} {d : Option Addr} {a : Addr} {B : Heap} {sI s : Shared}
theorem Down.here (w : Down X pins σ H cls d a B sI s) : Inv X pins σ H s := w.inv.landed w.base w.fly.1 w.up w.os w.bare
theorem Down.moved (w : Down X pins σ H cls d a B sI s) {h' : Heap} (fl : HandSPX.FlyingZ B (X.env :: X.outer) a (Zc cls d) h') (up : s.heap.UpToSlots h') : Down X pins σ H cls d a B sI { s with heap := h' } :=
  { w with up := w.up.trans up, fly := fl }
theorem Down.apart (w : Down X pins σ H cls d a B sI s) : a ∉ (X.env :: X.outer).filterMap (·.frame) := by
  intro hm
  obtain ⟨oe, vs, he, -, hd⟩ := w.fly.there
  obtain ⟨-, o, e, no⟩ := w.fly.2.2.1.mem hm
  cases he.symm.trans e
  exact no vs hd
/-- the state, seen from the suite of a clause -/
theorem Down.suite (w : Down X pins σ H cls d a B sI s) (hf : X.env.frame = some X.env.locals) :
    ∃ oe, Zc cls d oe ∧ (∃ vs, oe.data = .fields vs) ∧ s.heap.get? a = some oe ∧ Inv (X.suite a ((a, oe) :: (X.pn ++ pins))) [] σ H s := by
  obtain ⟨oe, vs, he, hz, hd⟩ := w.fly.there
  have no := w.apart
  refine ⟨oe, hz, ⟨vs, hd⟩, he, w.here.suite he hd w.free ?_ ?_⟩
  · intro z
    subst z
    exact no (List.mem_filterMap.mpr ⟨X.env, .head _, hf⟩)
  · intro z
    obtain ⟨e, me, q⟩ := List.mem_filterMap.mp z
    exact no (List.mem_filterMap.mpr ⟨e, .tail _ me, q⟩)
/-- no clause is left: the error goes on -/
theorem Down.on {Wout : WX} {D : Ends} (w : Down X pins σ H cls d a B sI s) (hs : X.stack = X.env :: X.outer) (hf : X.env.frame = some X.env.locals) (tk : Takes X Wout) (q : Wout cls d σ H) :
    wpAny (model X.prog X.w) X.A (handleBy (.ref a) X.env []) (SP X pins D) X.xe s := by
  have go : wpAny (model X.prog X.w) X.A (setFlight (.ref a) X.env.frame) (fun _ s4 => wpAny (model X.prog X.w) X.A (throw (.ref a) : Sem Flow) (SP X pins D) X.xe s4) X.xe s := by
    rw [hf]
    refine HandSPX.setFlight_upZ w.fly fun h4 held up4 => wpAny_throw (tk _ _ ?_)
    refine ⟨a, B, sI, pins, σ, H, cls, d, rfl, w.inv, w.base, w.up.trans up4, .inr (.inr ?_), w.free, w.os, w.bare, q⟩
    rw [hs]
    exact held
  obtain ⟨-, -, -, oe, vs, T, -, -, he, -, hd, h1, -⟩ := id w.fly
  refine wpAny_handleBy_nil ?_
  unfold PySem.passOn
  refine wpAny_bind (wpAny_field he hd h1 ?_)
  have nn : ¬ (Value.ref T == Value.none) = true := by simp
  rw [if_neg nn]
  first
    | exact wpAny_bind go
    | exact wpAny_bind (wpAny_pure (wpAny_bind go))
/-- the first of the clauses: it is taken, or the next ones are asked -/
theorem Down.clause {D : Ends} {x n : Str} {c : Value} {i : Nat} {b₀ : Stmt} {body : List Stmt} {p p' : Pos} {rest : List ExceptHandler} {ts : Addr → Value → Option Addr → TS} {W : WX}
    (w : Down X pins σ H cls d a B sI s) (hf : X.env.frame = some X.env.locals) (hN : X.N.Nodup) (hi : X.N[i]? = some n) (hln : X.env.kindOf n = some .local) (hc : Names X x c)
    (hsu : ∀ (oe : Obj) (pn : List (Addr × Obj)), Zc cls d oe → (∃ vs, oe.data = .fields vs) → PSs (X.suite a ((a, oe) :: pn)) (b₀ :: body) (ts a cls d))
    (q : wAs X.K c i ts W D cls d σ H) (hr : W cls d σ H → wpAny (model X.prog X.w) X.A (handleBy (.ref a) X.env rest) (SP X pins D) X.xe s) :
    wpAny (model X.prog X.w) X.A (handleBy (.ref a) X.env (.ExceptHandler (some (.Name x p)) (some n) (b₀ :: body) p' :: rest)) (SP X pins D) X.xe s := by
  obtain ⟨b, is, yes, no⟩ := q
  obtain ⟨oe, hz, -, he, S⟩ := w.suite hf
  refine wpAny_handleBy_cons (codeAny_handlers_test ?_) (by intro z; cases z)
  have ty : PySem.W.Looks (model X.prog X.w) s.heap (typeOf (.ref a)) cls := by
    intro A Q E s' k q
    refine wpAny_typeOf_ref (k _ _ he) ?_
    rw [hz.1]
    exact q
  have match_ := PySem.W.exm_one (M := model X.prog X.w) w.here.kIn ty is
  have name_ : ∀ {Q E : Value → Shared → Prop}, Q c s → wpAny (model X.prog X.w) (X.A.mark (some (.ref a))) (eval (.Name x p) X.env) Q E s := by
    intro Q E q
    rcases hc with ⟨g, nd, m | ⟨m, v, nn⟩⟩
    · exact ld_glob (X := X.suite a _) S g m q nd
    · exact ld_blt (X := X.suite a _) S g m v q nn nd
  refine name_ (match_.here ?_)
  cases b with
  | false => exact hr (no rfl)
  | true =>
    refine codeAny_handlers_suite_as (HandSPX.lands_againZ w.fly fun h4 fl4 up4 => ?_)
    obtain ⟨oe4, hz4, hd4, -, S4⟩ := (w.moved fl4 up4).suite hf
    refine store_ok (X := X.suite a _) (v := .ref a) S4 hN hi (.inl hln) rfl (fun s5 S5 => ?_) (.inr hln)
    refine wpAny_mono ((hsu oe4 (X.pn ++ pins) hz4 hd4).run [] s5 _ H _ S5 (yes rfl a w.free)) (fun f s6 r => ?_) (by intro _ _ z; exact z.elim)
    have ok := w.inv.ok
    cases f with
    | ret u =>
      obtain ⟨v6, σ6, H6, S6, r6, q6⟩ := r
      exact gone_ok (S6.unsuite ok) hN hi hln fun s7 J7 => ⟨v6, _, _, J7, r6, q6⟩
    | next =>
      obtain ⟨σ6, H6, S6, q6⟩ := r
      exact gone_ok (S6.unsuite ok) hN hi hln fun s7 J7 => ⟨_, _, J7, q6⟩
    | brk =>
      obtain ⟨σ6, H6, S6, q6⟩ := r
      exact gone_ok (S6.unsuite ok) hN hi hln fun s7 J7 => ⟨_, _, J7, q6⟩
    | cont =>
      obtain ⟨σ6, H6, S6, q6⟩ := r
      exact gone_ok (S6.unsuite ok) hN hi hln fun s7 J7 => ⟨_, _, J7, q6⟩
end
/-- clauses 'except x as n', n in slot i, with what each does and what the one behind the last wishes -/
inductive Clauses (X : Cx) (n : Str) (i : Nat) (Wout : WX) : List ExceptHandler → (Ends → WX) → Prop
  | nil : Clauses X n i Wout [] (fun _ => Wout)
  | cons {x : Str} {c : Value} {ts : Addr → Value → Option Addr → TS} {b₀ : Stmt} {body : List Stmt} {p p' : Pos} {rest : List ExceptHandler} {W : Ends → WX} (hc : Names X x c)
      (hsu : ∀ (a : Addr) (oe : Obj) (cls : Value) (d : Option Addr) (pn : List (Addr × Obj)), Zc cls d oe → (∃ vs, oe.data = .fields vs) → PSs (X.suite a ((a, oe) :: pn)) (b₀ :: body) (ts a cls d))
      (r : Clauses X n i Wout rest W) : Clauses X n i Wout (.ExceptHandler (some (.Name x p)) (some n) (b₀ :: body) p' :: rest) (fun D => wAs X.K c i ts (W D) D)
section
variable {X : Cx} {n : Str} {i : Nat} {Wout : WX}
theorem Clauses.run {hds : List ExceptHandler} {W : Ends → WX} (k : Clauses X n i Wout hds W) (hs : X.stack = X.env :: X.outer) (hf : X.env.frame = some X.env.locals) (hN : X.N.Nodup) (hi : X.N[i]? = some n) (hln : X.env.kindOf n = some .local) (tk : Takes X Wout)
    {pins : List (Addr × Obj)} {σ : L2.St} {H : Hp} {cls : Value} {d : Option Addr} {a : Addr} {B : Heap} {sI s : Shared} {D : Ends} (w : Down X pins σ H cls d a B sI s) (q : W D cls d σ H) :
    wpAny (model X.prog X.w) X.A (handleBy (.ref a) X.env hds) (SP X pins D) X.xe s := by
  induction k with
  | nil => exact w.on hs hf tk q
  | cons hc hsu r ih => exact w.clause hf hN hi hln hc (fun oe pn => hsu a oe cls d pn) q ih
/-- try: body / except x1 as n: .. / except x2 as n: .. -/
theorem ps_tryA {body : List Stmt} {h₀ : ExceptHandler} {hds : List ExceptHandler} {pos : Pos} {tb : WX → TS} {W : Ends → WX} (hs : X.stack = X.env :: X.outer) (hf : X.env.frame = some X.env.locals) (hN : X.N.Nodup) (hi : X.N[i]? = some n) (hln : X.env.kindOf n = some .local)
    (tk : Takes X Wout) (hb : ∀ (W : WX) (pn : List (Addr × Obj)) (xe : Value → Shared → Prop), Takes (X.tr pn xe) W → PassesOwn (model X.prog X.w) X.A X.env xe → PSs (X.tr pn xe) body (tb W))
    (k : Clauses X n i Wout (h₀ :: hds) W) : PS X (.Try body (h₀ :: hds) [] [] pos) (fun D σ H => tb (W D) D σ H) := by
  constructor
  intro pins s σ H D I h
  have ok := I.ok
  let out : Value → Shared → Prop := fun e s₁ => wpAny (model X.prog X.w) X.A (noteFrame e X.env)
    (fun _ s₂ => wpAny (model X.prog X.w) X.A (setFlight e none) (fun _ s₃ => wpAny (model X.prog X.w) X.A (handleBy e X.env (h₀ :: hds)) (SP X pins D) X.xe s₃) X.xe s₂) X.xe s₁
  have tks : Takes (X.tr (X.pn ++ pins) out) (W D) := by
    rintro u s' ⟨a, B, sI, pins', σ', H', cls, d, rfl, J, nb, up, sky, na, os, ag, q⟩
    have fr : X.A.frames = some (X.env :: X.outer) := by rw [ok.frames, hs]
    have sky' := sky
    rw [show (X.tr (X.pn ++ pins) out).stack = X.env :: X.outer from hs] at sky'
    refine Sky.land (E₁ := X.xe) Zc.steady fr hf sky' fun h3 fl3 up3 => ?_
    exact k.run hs hf hN hi hln tk (sI := sI) (B := B) ⟨J.ofTry ok, nb, up.trans up3, fl3, na, os, ag⟩ q
  refine wpAny_Try_except (wpAny_mono ((hb (W D) (X.pn ++ pins) out tks PassesOwn.looking).run [] s σ H D (I.toTry _) h) ?_ fun _ _ he => he)
  · intro f s1 r
    cases f with
    | next =>
      obtain ⟨σ', H', J, q⟩ := r
      exact wpAny_execs_nil ⟨σ', H', J.ofTry ok, q⟩
    | ret u =>
      obtain ⟨v, σ', H', J, r', q⟩ := r
      exact ⟨v, σ', H', J.ofTry ok, r', q⟩
    | brk | cont =>
      obtain ⟨σ', H', J, q⟩ := r
      exact ⟨σ', H', J.ofTry ok, q⟩
end
/-! ### _law_told -/
section
variable {X : Cx} {a : Addr} {cls : Value} {d : Option Addr} {oe : Obj} {pn : List (Addr × Obj)}
/-- isinstance of the error of the suite, whatever its class is: an own one that says enough -/
def rIsX (K : PySem.W.Frag) (a : Addr) (cls : Value) (d : Option Addr) : List V → Hp → VK → Prop := fun xs H Q => ∃ D, cls = .ref D ∧ ExcC K D ∧ rIsD K D a d xs H Q
def rIsXT (K : PySem.W.Frag) (a : Addr) (cls : Value) (d : Option Addr) : List V → Hp → VK → Prop := fun xs H Q => ∃ D, cls = .ref D ∧ ExcC K D ∧ rIsDT K D a d xs H Q
theorem call_isX (hz : Zc cls d oe) (hf : ∃ vs, oe.data = .fields vs) : CallR (X.suite a ((a, oe) :: pn)) (.builtin "isinstance") (rIsX X.K a cls d) := by
  rintro pins s σ H xs us Q I r ⟨D, rfl, C, h⟩
  exact call_isD C hz hf pins s σ H xs us Q I r h
theorem call_isXT (hz : Zc cls d oe) (hf : ∃ vs, oe.data = .fields vs) : CallR (X.suite a ((a, oe) :: pn)) (.builtin "isinstance") (rIsXT X.K a cls d) := by
  rintro pins s σ H xs us Q I r ⟨D, rfl, C, h⟩
  exact call_isDT C hz hf pins s σ H xs us Q I r h
end
theorem scTold : FnScope ["_law_door", "_law_tree_here", "_law_path", "_law_part", "_law_found", "error"] ["_law_door", "_law_tree_here", "_law_path", "_law_part"] (defScope sTold) := ⟨rfl, rfl, rfl, by decide +kernel, rfl, by decide +kernel, by decide +kernel⟩
/-- what the two doors tell -/
def told (door : Bool) (t : T) (d : PyData) (u : T) : PyData :=
  match pathTo t d with
  | none => .list [.str "path", .str d.shown]
  | some o => if door then .list [.str "told", o.data] else if t.size - o.size + u.size > 12 then .list [.str "large", .int 12] else
    match d with
    | .str x => .list [.str "told", (t.put x.cps.toList u).data]
    | _ => .none
theorem told_none {b : Bool} {t u : T} {d : PyData} (h : pathTo t d = none) : told b t d u = .list [.str "path", .str d.shown] := by
  unfold told
  rw [h]
theorem told_at {t u o : T} {d : PyData} (h : pathTo t d = some o) : told true t d u = .list [.str "told", o.data] := by
  unfold told
  rw [h]
  rfl
theorem told_big {t u o : T} {d : PyData} (h : pathTo t d = some o) (g : t.size - o.size + u.size > 12) : told false t d u = .list [.str "large", .int 12] := by
  unfold told
  rw [h]
  show (if t.size - o.size + u.size > 12 then _ else _) = _
  rw [if_pos g]
theorem told_put {t u o : T} {x : Str} (h : pathTo t (.str x) = some o) (g : ¬ t.size - o.size + u.size > 12) : told false t (.str x) u = .list [.str "told", (t.put x.cps.toList u).data] := by
  unfold told
  rw [h]
  show (if t.size - o.size + u.size > 12 then _ else _) = _
  rw [if_neg g]
/-- the classes that the clauses ask for -/
structure ErrC (K : PySem.W.Frag) (mg : Str → Option Value) (C C2 : Addr) : Prop where
  x1 : ExcC K C
  x2 : ExcC K C2
  gN : mg "NoPath" = some (.ref C)
  gT : mg "TooLarge" = some (.ref C2)
  w : ∃ CW, mg "WalkError" = some (.ref CW) ∧ PySem.W.exmOne K (.ref C2) (.ref CW) = some true
  e1 : PySem.W.exmOne K (.ref C) (.ref C) = some true
  e2 : PySem.W.exmOne K (.ref C2) (.ref C) = some false
  kL : PySem.W.kitOne K (.ref C) (.type "LookupError") = some true
  kT : PySem.W.kitOne K (.ref C2) (.ref C2) = some true
  mL : mg "LookupError" = none
  mV : mg "ValueError" = none
  more : ∃ c1 c2 c3 c4, mg "NoIndex" = some (.ref c1) ∧ mg "NoKind" = some (.ref c2) ∧ mg "NoPlace" = some (.ref c3) ∧ mg "NoVersion" = some (.ref c4) ∧ PySem.W.kitAny K (.ref C) [.type "ValueError", .ref c1, .ref c2, .ref c3, .ref c4] = some false
  less : ∃ c1 c2 c3, mg "TooMany" = some (.ref c1) ∧ mg "BadTree" = some (.ref c2) ∧ mg "NotOpen" = some (.ref c3) ∧ PySem.W.kitAny K (.ref C2) [.ref c1, .ref c2, .ref c3] = some false
def spTold (K : PySem.W.Frag) : Sp := fun vs H Q _ => ∃ (b : Bool) (v v' vp : V) (t u : T) (D : Deck) (d : PyData), vs = [.int (if b then 0 else 1), v, v', vp] ∧ TreeAt H v t ∧ DQ D H v' d ∧ gdL d ∧ gd d = true ∧ wt d ≤ 1000000 ∧ d.depth ≤ 60 ∧ TreeAt H vp u ∧ t.size ≤ 50 ∧ u.size ≤ 50 ∧
  ∀ (H' : Hp) (v2 : V), Same H H' → Dp K H' v2 (told b t d u) → Q v2 H'
section
variable {P : Program} {w : World} {K : PySem.W.Frag} {mg : Str → Option Value} {base : Heap} {f fP fR : Addr} {fd fdP fdR : FuncData} {C C2 fI fI2 : Addr} {qn qn2 : Str}
theorem ok_told (F : Fun K "_law_told" "_law_told" sTold f fd) (hE : Err_value K mg "LookupError.__new__" leT "NoPath" qn C fI) (hE2 : Err_limit K mg "ValueError.__new__" veT "TooLarge" qn2 C2 fI2) (EC : ErrC K mg C C2) (mi : mg "isinstance" = none) (mr : mg "repr" = none)
    (GP : FnOk P w K mg base (L2.CX P w) 1 fP fdP ["tree", "path"] (spPart C)) (bP : Binds K fdP ["tree", "path"] []) (kP : PySem.W.keepIn K (.ref fP) = true) (gP : mg "part_at" = some (.ref fP))
    (GR : FnOk P w K mg base (L2.CX P w) 61 fR fdR ["tree", "path", "part"] (spRepl C C2)) (bR : Binds K fdR ["tree", "path", "part"] []) (kR : PySem.W.keepIn K (.ref fR) = true) (gR : mg "replaced" = some (.ref fR)) :
    FnOkG P w K mg base 62 f fd ["_law_door", "_law_tree_here", "_law_path", "_law_part"] (spTold K) := by
  refine fnG F scTold (fun vs H Q E h => ?_) (fun cdv A outer s H vs Q E gs hr h => ?_)
  · obtain ⟨b, v, v', vp, t, u, D, d, rfl, _⟩ := h
    rfl
  obtain ⟨b, v, v', vp, t, u, D, d, rfl, ht, hd, hgL, hg, hw, hdp, hu, ts, us, q⟩ := h
  obtain ⟨CW, gW, e3⟩ := EC.w
  obtain ⟨c1, c2, c3, c4, g1, g2, g3, g4, kM⟩ := EC.more
  obtain ⟨m1, m2, m3, n1, n2, n3, kN⟩ := EC.less
  have bi : bootBuiltins "isinstance" = some (.builtin "isinstance") := by decide +kernel
  have hr1 := hr.mono (show 1 ≤ 61 by decide)
  have un := hr.units
  refine ⟨_, pss_cons (ps_set (i := 4) scTold.nd rfl (.inl rfl) (pe_lst (pa_cons pe_str pa_nil)))
    (pss_cons (ps_tryA (i := 5) (n := "error") (Wout := fun _ _ _ _ => False) rfl rfl scTold.nd rfl rfl takes_none5
      (fun W pn xe tk _ => pss_one (ps_set (i := 4) scTold.nd rfl (.inl rfl) (pe_lst (pa_cons pe_str (pa_cons (pe_ifExp (pt_cmpR op_eq (pv 0) pe_int (nomark _))
        (pe_callS GP hr1 rfl gP kP bP (fun σ => passAt tk σ) (pa_cons (pv 1) (pa_cons (pv 2) pa_nil))) (pe_callS GR hr rfl gR kR bR (fun σ => passAt tk σ) (pa_cons (pv 1) (pa_cons (pv 2) (pa_cons (pv 3) pa_nil))))) pa_nil)))))
      (.cons ⟨rfl, by decide, .inl EC.gN⟩ (fun a oe cls d pn hz hf => pss_one (ps_if (PW.pt (pw_and (pt_val (pe_callB (call_isX hz hf) rfl mi bi (pa_cons (pv 5) (pa_cons (pe_bltn (v := .ty "LookupError") rfl EC.mL (by decide +kernel) rfl) pa_nil))))
          (pw_and1 (pt_not (pt_val (pe_callB (call_isXT hz hf) rfl mi bi (pa_cons (pv 5) (pa_cons (pe_tup (pa_cons (pe_bltn (v := .ty "ValueError") rfl EC.mV (by decide +kernel) rfl) (pa_cons (pe_glob (v := .ref c1) rfl g1 rfl) (pa_cons (pe_glob (v := .ref c2) rfl g2 rfl) (pa_cons (pe_glob (v := .ref c3) rfl g3 rfl) (pa_cons (pe_glob (v := .ref c4) rfl g4 rfl) pa_nil)))))) pa_nil))))))))
          (pss_one (ps_set (i := 4) scTold.nd rfl (.inl rfl) (pe_lst (pa_cons pe_str (pa_cons (pe_callB (call_reprQ gs un) rfl mr (by decide +kernel) (pa_cons (pe_fld_value hE hz hf (pv 5)) pa_nil)) pa_nil))))) pss_nil))
      (.cons ⟨rfl, by decide, .inl gW⟩ (fun a oe cls d pn hz hf => pss_one (ps_if (PW.pt (pw_and (pt_val (pe_callB (call_isX hz hf) rfl mi bi (pa_cons (pv 5) (pa_cons (pe_glob (v := .ref C2) rfl EC.gT rfl) pa_nil))))
          (pw_and1 (pt_not (pt_val (pe_callB (call_isXT hz hf) rfl mi bi (pa_cons (pv 5) (pa_cons (pe_tup (pa_cons (pe_glob (v := .ref m1) rfl n1 rfl) (pa_cons (pe_glob (v := .ref m2) rfl n2 rfl) (pa_cons (pe_glob (v := .ref m3) rfl n3 rfl) pa_nil)))) pa_nil))))))))
          (pss_one (ps_set (i := 4) scTold.nd rfl (.inl rfl) (pe_lst (pa_cons pe_str (pa_cons (pe_fld_limit hE2 hz hf (pv 5)) pa_nil))))) pss_nil)) .nil)))
    (pss_one (ps_ret (pv 4)))), ?_⟩
  refine ⟨(by show 1 ≤ sizeLine; decide), fun p0 np0 => ?_⟩
  have s0 := same_new np0 (.lst [V.str "other"])
  generalize upd H p0 (.lst [V.str "other"]) = H0 at s0 ⊢
  cases b with
  | true =>
    refine ⟨_, rfl, rfl, _, rfl, iteT ?_⟩
    refine ⟨_, rfl, _, rfl, v, v', t, D, d, rfl, ht.same s0, dq_same s0 hd, fun o ho H1 vu s1 au => ?_, fun no H1 p s1 np => ?_⟩
    · refine ⟨(by show 2 ≤ sizeLine; decide), fun p2 np2 => ?_⟩
      have s2 := same_new np2 (.lst [V.str "told", vu])
      refine ⟨_, rfl, q _ _ ((s0.trans s1).trans s2) ?_⟩
      rw [told_at ho]
      exact .lst (SqL.of upd_same) (.cons (.str _) (.cons (au.same s2).dp .nil))
    · refine ⟨true, EC.e1, fun _ a0 na => ?_, fun z => nomatch z⟩
      refine ⟨_, rfl, C, rfl, EC.x1, _, _, true, p, _, rfl, .ty _, rfl, upd_same, EC.kL, _, rfl, iteT ?_⟩
      refine ⟨_, rfl, (by show 5 ≤ sizeLine; decide), fun tp ntp => ?_⟩
      have ne : p ≠ tp := ne_of_none upd_same ntp
      refine ⟨C, rfl, EC.x1, tp, _, _, false, p, _, rfl, upd_same, .cons (.ty _) (.cons (.own _) (.cons (.own _) (.cons (.own _) (.cons (.own _) .nil)))), rfl, (upd_ne ne).trans upd_same, kM, _, rfl, iteT ?_⟩
      have s2 := (s1.trans (same_new np (.xd [(("value" : Str), v')]))).trans (same_new ntp (.tup [.ty "ValueError", .ref c1, .ref c2, .ref c3, .ref c4]))
      refine ⟨_, rfl, rfl, rfl, p, _, rfl, (upd_ne ne).trans upd_same, _, D, d, rfl, dq_same s2 (dq_same s0 hd), hg, hw, hdp, ?_⟩
      refine ⟨(by show 2 ≤ sizeLine; decide), fun p2 np2 => ?_⟩
      refine ⟨_, rfl, q _ _ ((s0.trans s2).trans (same_new np2 _)) ?_⟩
      rw [told_none no]
      exact .lst (SqL.of upd_same) (.cons (.str _) (.cons (.str _) .nil))
  | false =>
    refine ⟨_, rfl, rfl, _, rfl, iteF ?_⟩
    refine ⟨_, rfl, _, rfl, _, rfl, v, v', vp, t, u, D, d, rfl, ht.same s0, dq_same s0 hd, hgL, hu.same s0, ts, us, fun no H1 p s1 np => ?_, fun o ho big H1 p s1 np => ?_, fun o x ho hx sm H1 vu s1 au => ?_⟩
    · refine ⟨true, EC.e1, fun _ a0 na => ?_, fun z => nomatch z⟩
      refine ⟨_, rfl, C, rfl, EC.x1, _, _, true, p, _, rfl, .ty _, rfl, upd_same, EC.kL, _, rfl, iteT ?_⟩
      refine ⟨_, rfl, (by show 5 ≤ sizeLine; decide), fun tp ntp => ?_⟩
      have ne : p ≠ tp := ne_of_none upd_same ntp
      refine ⟨C, rfl, EC.x1, tp, _, _, false, p, _, rfl, upd_same, .cons (.ty _) (.cons (.own _) (.cons (.own _) (.cons (.own _) (.cons (.own _) .nil)))), rfl, (upd_ne ne).trans upd_same, kM, _, rfl, iteT ?_⟩
      have s2 := (s1.trans (same_new np (.xd [(("value" : Str), v')]))).trans (same_new ntp (.tup [.ty "ValueError", .ref c1, .ref c2, .ref c3, .ref c4]))
      refine ⟨_, rfl, rfl, rfl, p, _, rfl, (upd_ne ne).trans upd_same, _, D, d, rfl, dq_same s2 (dq_same s0 hd), hg, hw, hdp, ?_⟩
      refine ⟨(by show 2 ≤ sizeLine; decide), fun p2 np2 => ?_⟩
      refine ⟨_, rfl, q _ _ ((s0.trans s2).trans (same_new np2 _)) ?_⟩
      rw [told_none no]
      exact .lst (SqL.of upd_same) (.cons (.str _) (.cons (.str _) .nil))
    · refine ⟨false, EC.e2, (fun z => nomatch z), fun _ => ⟨true, e3, fun _ a0 na => ?_, fun z => nomatch z⟩⟩
      refine ⟨_, rfl, C2, rfl, EC.x2, _, _, true, p, _, rfl, .own _, rfl, upd_same, EC.kT, _, rfl, iteT ?_⟩
      refine ⟨_, rfl, (by show 3 ≤ sizeLine; decide), fun tp ntp => ?_⟩
      have ne : p ≠ tp := ne_of_none upd_same ntp
      refine ⟨C2, rfl, EC.x2, tp, _, _, false, p, _, rfl, upd_same, .cons (.own _) (.cons (.own _) (.cons (.own _) .nil)), rfl, (upd_ne ne).trans upd_same, kN, _, rfl, iteT ?_⟩
      have s2 := (s1.trans (same_new np (.xd [(("limit" : Str), .int 12)]))).trans (same_new ntp (.tup [.ref m1, .ref m2, .ref m3]))
      refine ⟨_, rfl, rfl, rfl, p, _, rfl, (upd_ne ne).trans upd_same, (by show 2 ≤ sizeLine; decide), fun p2 np2 => ?_⟩
      refine ⟨_, rfl, q _ _ ((s0.trans s2).trans (same_new np2 _)) ?_⟩
      rw [told_big ho big]
      exact .lst (SqL.of upd_same) (.cons (.str _) (.cons (.int _) .nil))
    · subst hx
      refine ⟨(by show 2 ≤ sizeLine; decide), fun p2 np2 => ?_⟩
      have s2 := same_new np2 (.lst [V.str "told", vu])
      refine ⟨_, rfl, q _ _ ((s0.trans s1).trans s2) ?_⟩
      rw [told_put ho sm]
      exact .lst (SqL.of upd_same) (.cons (.str _) (.cons (au.same s2).dp .nil))
end
/-! ### _law_count, of a tree -/
theorem abc_of {x : Str} (h : Ltr x) : x ∈ abc := by
  obtain ⟨c, h1, h2, rfl⟩ := h
  unfold abc
  exact List.mem_map.mpr ⟨c - 97, List.mem_range.mpr (by omega), by rw [show c - 97 + 97 = c by omega]⟩
theorem inV_ltr {x : Str} (h : Ltr x) : inV (.str x) (abc.map V.str) = true := by
  unfold inV
  rw [List.any_eq_true]
  exact ⟨.str x, List.mem_map.mpr ⟨x, abc_of h, rfl⟩, by simp [eqV]⟩
theorem flat_abc : (abc.map V.str).all flatV = true := by decide +kernel
/-- all labels are letters -/
def T.let (t : T) : Prop := ∀ x ∈ t.btw, Ltr x
theorem T.let_node {l r : T} {x : Str} (h : (T.node l x r).let) : l.let ∧ Ltr x ∧ r.let := by
  refine ⟨fun y hy => h y ?_, h x ?_, fun y hy => h y ?_⟩
  · exact List.mem_append_left _ hy
  · exact List.mem_append_right _ (List.mem_cons_self ..)
  · exact List.mem_append_right _ (List.mem_cons_of_mem _ hy)
theorem scCount : FnScope ["_law_value", "_law_left", "_law_right"] ["_law_value"] (defScope sCount) := ⟨rfl, rfl, rfl, by decide +kernel, rfl, by decide +kernel, by decide +kernel⟩
def spCnt (n : Nat) : Sp := fun vs H Q _ => ∃ (v : V) (t : T), vs = [v] ∧ TreeAt H v t ∧ t.let ∧ t.deep < n ∧ ∀ H', Same H H' → Q (.int (t.size : Int)) H'
section
variable {P : Program} {w : World} {K : PySem.W.Frag} {mg : Str → Option Value} {base : Heap} {f : Addr} {fd : FuncData}
theorem ok_cnt (F : Fun K "_law_count" "_law_count" sCount f fd) (b : Binds K fd ["_law_value"] []) (g0 : mg "_law_count" = some (.ref f)) (M : Mgs mg) : ∀ n : Nat, FnOk P w K mg base CX0 n f fd ["_law_value"] (spCnt n)
  | 0 => by
    have no : ∀ vs H Q E, ¬ spCnt 0 vs H Q E := fun vs H Q E h => by
      obtain ⟨v, t, _, _, _, h1, _⟩ := h
      omega
    exact ⟨fun vs H Q E h => absurd h (no vs H Q E), fun A outer s H args us vs Q E _ _ _ _ h => absurd h (no vs H Q E)⟩
  | n + 1 => by
    have G := ok_cnt F b g0 M n
    refine F.ok scCount (fun vs H Q E h => ?_) (fun cdv A outer s H vs Q E hr h => ?_)
    · obtain ⟨v, t, rfl, _⟩ := h
      rfl
    obtain ⟨v, t, rfl, ht, hlet, hn, q⟩ := h
    have bi : bootBuiltins "isinstance" = some (.builtin "isinstance") := by decide +kernel
    refine ⟨_, pss_cons (ps_if (pt_cmpR op_isN (pv 0) pe_non (nomark _)) (pss_one (ps_ret pe_int)) pss_nil)
      (pss_cons (ps_if (PW.pt (pw_or (pt_not (pt_val (pe_callB call_isi rfl M.isi bi (pa_cons (pv 0) (pa_cons (pe_bltn (v := .ty "tuple") rfl M.tuple (by decide +kernel) rfl) pa_nil)))))
          (pw_or (pt_cmpR op_ne (pe_callB call_len_seq rfl M.len PySem.boot_len (pa_cons (pv 0) pa_nil)) pe_int (nomark _))
          (pw_or1 (pt_not (pt_val (pe_callB call_isi rfl M.isi bi (pa_cons (pe_ix ix_tup (pv 0) pe_int (fun _ _ => rfl)) (pa_cons (pe_bltn (v := .ty "str") rfl M.str (by decide +kernel) rfl) pa_nil))))))))) (pss_one (ps_ret (pe_un un_neg pe_int))) pss_nil)
      (pss_cons (ps_par (i := 1) (j := 2) (by rfl) scCount.nd rfl rfl (by decide) rfl rfl (pa_cons (pe_call G hr rfl g0 F.kp b .nil pass0 (pa_cons (pe_ix ix_tup (pv 0) pe_int (fun _ _ => rfl)) pa_nil)) (pa_cons (pe_call G hr rfl g0 F.kp b .nil pass0 (pa_cons (pe_ix ix_tup (pv 0) pe_int (fun _ _ => rfl)) pa_nil)) pa_nil)) (by rfl))
      (pss_cons (ps_if (PW.pt (pw_or (pt_cmpR op_lt (pv 1) pe_int (nomark _)) (pw_or (pt_cmpR op_lt (pv 2) pe_int (nomark _)) (pw_or1 (pt_cmpR op_notIn_seq (pe_ix ix_tup (pv 0) pe_int (fun _ _ => rfl)) (pe_callTy (call_signs rfl) rfl M.list (by decide +kernel) (pa_cons pe_str pa_nil)) (by rfl)))))) (pss_one (ps_ret (pe_un un_neg pe_int))) pss_nil)
      (pss_one (ps_ret (pe_op op_add (pe_op op_add (pv 1) pe_int) (pv 2))))))), ?_⟩
    rcases ht.inv with ⟨rfl, rfl⟩ | ⟨a, l, r, x, tl, tr, rfl, rfl, e, hl, hr'⟩
    · exact ⟨_, rfl, rfl, _, rfl, iteT (q H (Same.refl H))⟩
    · obtain ⟨letl, lx, letr⟩ := T.let_node hlet
      have hn' : 1 + max tl.deep tr.deep < n + 1 := hn
      refine ⟨_, rfl, rfl, _, rfl, iteF ?_⟩
      refine ⟨_, rfl, _, _, _, _, true, rfl, .ty _, .base (.tup e), kit_ty (by decide +kernel), _, rfl, iteF ?_⟩
      refine ⟨_, rfl, a, _, rfl, .inr (SqT.of e), rfl, _, rfl, iteF ?_⟩
      refine ⟨_, rfl, a, _, 1, .str x, rfl, rfl, SqT.of e, atI_nat (j := 1) rfl, _, _, _, _, true, rfl, .ty _, .base (.str x), kit_ty (by decide +kernel), _, rfl, iteF ?_⟩
      refine ⟨_, rfl, a, _, 0, l, rfl, rfl, SqT.of e, atI_nat (j := 0) rfl, l, tl, rfl, hl, letl, by omega, fun H1 s1 => ?_⟩
      refine ⟨_, rfl, a, _, 2, r, rfl, rfl, SqT.of (s1 _ _ e), atI_nat (j := 2) rfl, r, tr, rfl, hr'.same s1, letr, by omega, fun H2 s2 => ?_⟩
      have s12 := s1.trans s2
      refine ⟨_, _, rfl, _, rfl, _, _, rfl, rfl, _, rfl, ?_⟩
      rw [decide_eq_false (show ¬ (tl.size : Int) < 0 by omega)]
      refine iteF ⟨_, rfl, _, _, rfl, rfl, _, rfl, ?_⟩
      rw [decide_eq_false (show ¬ (tr.size : Int) < 0 by omega)]
      refine iteF ⟨_, rfl, a, _, 1, .str x, rfl, rfl, SqT.of (s12 _ _ e), atI_nat (j := 1) rfl, _, rfl, by decide +kernel, fun p np => ?_⟩
      rw [abc_is]
      have q3 := same_new np (.lst (abc.map V.str))
      refine ⟨p, _, rfl, .inl (SqL.of upd_same), rfl, flat_abc, _, rfl, ?_⟩
      show if (!inV (.str x) (abc.map V.str)) = true then _ else _
      rw [inV_ltr lx]
      have q' := q _ (s12.trans q3)
      rw [show (((T.node tl x tr).size : Nat) : Int) = (tl.size : Int) + 1 + (tr.size : Int) by show ((tl.size + 1 + tr.size : Nat) : Int) = _; omega] at q'
      exact iteF ⟨_, rfl, _, _, rfl, rfl, _, rfl, _, _, rfl, rfl, q'⟩
end
/-! ### _law_odd -/
/-- a value that may be shown: light, not deep -/
def Gd (D : Deck) (H : Hp) (W B : Nat) (v : V) : Prop := ∃ d : PyData, DQ D H v d ∧ gd d = true ∧ wt d ≤ W ∧ d.depth ≤ B
theorem Gd.sameD {D : Deck} {H H' : Hp} {W B : Nat} {v : V} (s : SameD D H H') (h : Gd D H W B v) : Gd D H' W B v := by
  obtain ⟨d, h1, h2⟩ := h
  exact ⟨d, dq_sameD s h1, h2⟩
theorem Gd.same {D : Deck} {H H' : Hp} {W B : Nat} {v : V} (s : Same H H') (h : Gd D H W B v) : Gd D H' W B v := h.sameD (SameD.of s)
theorem Gd.mono {D : Deck} {H : Hp} {W B W' B' : Nat} {v : V} (h : Gd D H W B v) (hw : W ≤ W') (hb : B ≤ B') : Gd D H W' B' v := by
  obtain ⟨d, h1, h2, h3, h4⟩ := h
  exact ⟨d, h1, h2, Nat.le_trans h3 hw, Nat.le_trans h4 hb⟩
theorem dq_newT {D : Deck} {H : Hp} {n : Nat} (dk : DeckOk H D n) {p : Addr} (np : H p = none) {xs : List V} {ds : List PyData} (al : DQAll D H xs ds) : DQ D (upd H p (.tup xs)) (.ref p) (.tuple ds) := .tup (dk.new np) upd_same (dqAll_same (same_new np _) al)
theorem dq_newL {D : Deck} {H : Hp} {n : Nat} (dk : DeckOk H D n) {p : Addr} (np : H p = none) {xs : List V} {ds : List PyData} (al : DQAll D H xs ds) : DQ D (upd H p (.lst xs)) (.ref p) (.list ds) := .lst (dk.new np) upd_same (dqAll_same (same_new np _) al)
theorem dq_newE {D : Deck} {H : Hp} {n : Nat} (dk : DeckOk H D n) {p : Addr} (np : H p = none) : DQ D (upd H p (.dK [])) (.ref p) (.dict []) := .emp (dk.new np) upd_same
theorem scOdd : FnScope ["_law_deck_here", "_law_some"] ["_law_deck_here"] (defScope sOdd) := ⟨rfl, rfl, rfl, by decide +kernel, rfl, by decide +kernel, by decide +kernel⟩
def spOdd : Sp := fun vs H Q _ => ∃ (D : Deck) (n : Nat), vs = [.ref D.dk] ∧ DeckOk H D n ∧ n ≤ 1000000 ∧ ∀ (v : V) (H' : Hp), DeckOk H' D (n + 1) → SameD D H H' → Gd D H' 5000 2 v → Q v H'
def odds : List PyData := [.none, .bool true, .bool false, .int (-1), .int 0, .int 1, .int 12, .int ((10 : Int) ^ Int.toNat 29), .str "", .str "a", .str "l", .str "A", .str "ab", .tuple [], .list [], .dict [], .tuple [.int 0], .list [.int 0], .tuple [.list [.int 0]], .tuple [.dict []],
  .tuple [.none, .str "a", .none], .tuple [.none, .str "a"], .list [.none, .str "a", .none], .tuple [.none, .str "a", .none, .none]]
theorem odds_ok : odds.all (fun d => gd d && decide (wt d ≤ 5000) && decide (d.depth ≤ 2)) = true := by decide +kernel
section
variable {P : Program} {w : World} {K : PySem.W.Frag} {mg : Str → Option Value} {base : Heap} {f fN : Addr} {fd fdN : FuncData}
theorem ok_odd {k : Nat} (F : Fun K "_law_odd" "_law_odd" sOdd f fd) (GN : FnOk P w K mg base CX0 k fN fdN ["_law_deck_here", "_law_many"] spNext) (bN : Binds K fdN ["_law_deck_here", "_law_many"] []) (kN : PySem.W.keepIn K (.ref fN) = true) (gN : mg "_law_next" = some (.ref fN)) :
    FnOk P w K mg base CX0 (k + 1) f fd ["_law_deck_here"] spOdd := by
  refine F.ok scOdd (fun vs H Q E h => ?_) (fun cdv A outer s H vs Q E hr h => ?_)
  · obtain ⟨D, n, rfl, _⟩ := h
    rfl
  obtain ⟨D, n, rfl, d0, hn, q⟩ := h
  refine ⟨_, pss_cons (ps_set (i := 1) scOdd.nd rfl (.inl rfl) (pe_lst (pa_cons pe_non (pa_cons pe_bl (pa_cons pe_bl (pa_cons (pe_un un_neg pe_int) (pa_cons pe_int (pa_cons pe_int (pa_cons pe_int (pa_cons (pe_op op_pow pe_int pe_int)
      (pa_cons pe_str (pa_cons pe_str (pa_cons pe_str (pa_cons pe_str (pa_cons pe_str (pa_cons (pe_tup pa_nil) (pa_cons (pe_lst pa_nil) (pa_cons pe_dnewK (pa_cons (pe_tup (pa_cons pe_int pa_nil)) (pa_cons (pe_lst (pa_cons pe_int pa_nil)) (pa_cons (pe_tup (pa_cons (pe_lst (pa_cons pe_int pa_nil)) pa_nil)) (pa_cons (pe_tup (pa_cons pe_dnewK pa_nil)) pa_nil))))))))))))))))))))))
    (pss_one (ps_ret (pe_ix ix_list (pe_op op_cat (pv 1) (pe_lst (pa_cons (pe_tup (pa_cons pe_non (pa_cons pe_str (pa_cons pe_non pa_nil)))) (pa_cons (pe_tup (pa_cons pe_non (pa_cons pe_str pa_nil))) (pa_cons (pe_lst (pa_cons pe_non (pa_cons pe_str (pa_cons pe_non pa_nil)))) (pa_cons (pe_tup (pa_cons pe_non (pa_cons pe_str (pa_cons pe_non (pa_cons pe_non pa_nil))))) pa_nil))))))
      (pe_call GN hr rfl gN kN bN .nil pass0 (pa_cons (pv 0) (pa_cons pe_int pa_nil))) (fun _ _ => rfl)))), ?_⟩
  refine ⟨1, rfl, _, _, rfl, rfl, ⟨by decide, by decide, by decide⟩, ?_⟩
  refine ⟨(by show 0 ≤ sizeLine; decide), fun p1 n1 => ?_⟩
  have q1 := same_new n1 (.tup []); have d1 := d0.same q1
  refine ⟨(by show 0 ≤ sizeLine; decide), fun p2 n2 => ?_⟩
  have q2 := same_new n2 (.lst []); have d2 := d1.same q2
  refine fun p3 n3 => ?_
  have q3 := same_new n3 (.dK []); have d3 := d2.same q3
  refine ⟨(by show 1 ≤ sizeLine; decide), fun p4 n4 => ?_⟩
  have q4 := same_new n4 (.tup [.int 0]); have d4 := d3.same q4
  refine ⟨(by show 1 ≤ sizeLine; decide), fun p5 n5 => ?_⟩
  have q5 := same_new n5 (.lst [.int 0]); have d5 := d4.same q5
  refine ⟨(by show 1 ≤ sizeLine; decide), fun p6 n6 => ?_⟩
  have q6 := same_new n6 (.lst [.int 0]); have d6 := d5.same q6
  refine ⟨(by show 1 ≤ sizeLine; decide), fun p7 n7 => ?_⟩
  have q7 := same_new n7 (.tup [.ref p6]); have d7 := d6.same q7
  refine fun p8 n8 => ?_
  have q8 := same_new n8 (.dK []); have d8 := d7.same q8
  refine ⟨(by show 1 ≤ sizeLine; decide), fun p9 n9 => ?_⟩
  have q9 := same_new n9 (.tup [.ref p8]); have d9 := d8.same q9
  refine ⟨(by show 20 ≤ sizeLine; decide), fun L nL => ?_⟩
  have qL := same_new nL (.lst [.non, .bl true, .bl false, .int (-1), .int 0, .int 1, .int 12, .int ((10 : Int) ^ Int.toNat 29), .str "", .str "a", .str "l", .str "A", .str "ab", .ref p1, .ref p2, .ref p3, .ref p4, .ref p5, .ref p7, .ref p9]); have dL := d9.same qL
  have a1 := dq_newT d0 n1 .nil
  have a2 := dq_newL d1 n2 .nil
  have a3 := dq_newE d2 n3
  have a4 := dq_newT d3 n4 (.cons (.int 0) .nil)
  have a5 := dq_newL d4 n5 (.cons (.int 0) .nil)
  have a6 := dq_newL d5 n6 (.cons (.int 0) .nil)
  have a7 := dq_newT d6 n7 (.cons a6 .nil)
  have a8 := dq_newE d7 n8
  have a9 := dq_newT d8 n9 (.cons a8 .nil)
  refine ⟨_, rfl, (by show 3 ≤ sizeLine; decide), fun p10 n10 => ?_⟩
  have q10 := same_new n10 (.tup [.non, .str "a", .non]); have d10 := dL.same q10
  refine ⟨(by show 2 ≤ sizeLine; decide), fun p11 n11 => ?_⟩
  have q11 := same_new n11 (.tup [.non, .str "a"]); have d11 := d10.same q11
  refine ⟨(by show 3 ≤ sizeLine; decide), fun p12 n12 => ?_⟩
  have q12 := same_new n12 (.lst [.non, .str "a", .non]); have d12 := d11.same q12
  refine ⟨(by show 4 ≤ sizeLine; decide), fun p13 n13 => ?_⟩
  have q13 := same_new n13 (.tup [.non, .str "a", .non, .non]); have d13 := d12.same q13
  refine ⟨(by show 4 ≤ sizeLine; decide), fun L2 nL2 => ?_⟩
  have qM := same_new nL2 (.lst [.ref p10, .ref p11, .ref p12, .ref p13]); have dM := d13.same qM
  have b10 := dq_newT dL n10 (.cons .non (.cons (.str "a") (.cons .non .nil)))
  have b11 := dq_newT d10 n11 (.cons .non (.cons (.str "a") .nil))
  have b12 := dq_newL d11 n12 (.cons .non (.cons (.str "a") (.cons .non .nil)))
  have b13 := dq_newT d12 n13 (.cons .non (.cons (.str "a") (.cons .non (.cons .non .nil))))
  have r13 := q13.trans qM
  have r12 := q12.trans r13
  have r11 := q11.trans r12
  have r10 := q10.trans r11
  have rL := qL.trans r10
  have r9 := q9.trans rL
  have r8 := q8.trans r9
  have r7 := q7.trans r8
  have r6 := q6.trans r7
  have r5 := q5.trans r6
  have r4 := q4.trans r5
  have r3 := q3.trans r4
  have r2 := q2.trans r3
  have r1 := q1.trans r2
  refine ⟨L, L2, _, _, rfl, rfl, r10 _ _ upd_same, upd_same, (by show 24 ≤ sizeLine; decide), fun L3 nL3 => ?_⟩
  have qN := same_new nL3 (.lst ([.non, .bl true, .bl false, .int (-1), .int 0, .int 1, .int 12, .int ((10 : Int) ^ Int.toNat 29), .str "", .str "a", .str "l", .str "A", .str "ab", .ref p1, .ref p2, .ref p3, .ref p4, .ref p5, .ref p7, .ref p9] ++ [.ref p10, .ref p11, .ref p12, .ref p13]))
  have dN := dM.same qN
  have oN := dM.new nL3
  have sall := SameD.of (D := D) (r1.trans qN)
  have dall : DQAll D _ ([.non, .bl true, .bl false, .int (-1), .int 0, .int 1, .int 12, .int ((10 : Int) ^ Int.toNat 29), .str "", .str "a", .str "l", .str "A", .str "ab", .ref p1, .ref p2, .ref p3, .ref p4, .ref p5, .ref p7, .ref p9] ++ [.ref p10, .ref p11, .ref p12, .ref p13]) odds :=
    .cons .non (.cons (.bl true) (.cons (.bl false) (.cons (.int _) (.cons (.int _) (.cons (.int _) (.cons (.int _) (.cons (.int _) (.cons (.str _) (.cons (.str _) (.cons (.str _) (.cons (.str _) (.cons (.str _)
      (.cons (dq_same (r2.trans qN) a1) (.cons (dq_same (r3.trans qN) a2) (.cons (dq_same (r4.trans qN) a3) (.cons (dq_same (r5.trans qN) a4) (.cons (dq_same (r6.trans qN) a5) (.cons (dq_same (r8.trans qN) a7) (.cons (dq_same (rL.trans qN) a9)
      (.cons (dq_same (r11.trans qN) b10) (.cons (dq_same (r12.trans qN) b11) (.cons (dq_same (r13.trans qN) b12) (.cons (dq_same (qM.trans qN) b13) .nil)))))))))))))))))))))))
  refine ⟨_, rfl, D, n, 24, rfl, dN, hn, by decide, by decide, fun i H' i0 i1 d' s' => ?_⟩
  have hlen := dqAll_len dall
  obtain ⟨v, hv⟩ : ∃ v, ([.non, .bl true, .bl false, .int (-1), .int 0, .int 1, .int 12, .int ((10 : Int) ^ Int.toNat 29), .str "", .str "a", .str "l", .str "A", .str "ab", .ref p1, .ref p2, .ref p3, .ref p4, .ref p5, .ref p7, .ref p9] ++ [.ref p10, .ref p11, .ref p12, .ref p13] : List V)[i.toNat]? = some v :=
    ⟨_, List.getElem?_eq_getElem (by show i.toNat < 24; omega)⟩
  obtain ⟨d, ed, hd⟩ := dqAll_get dall hv
  have ok := List.all_eq_true.mp odds_ok d (List.mem_of_getElem? ed)
  simp only [Bool.and_eq_true, decide_eq_true_eq] at ok
  have ei : i = ((i.toNat : Nat) : Int) := by omega
  refine ⟨L3, _, _, v, rfl, rfl, SqL.of (s'.at oN upd_same), by rw [ei]; exact atI_nat hv, ?_⟩
  exact q v H' d' (sall.trans s') ⟨d, dq_sameD s' hd, ok.1.1, ok.1.2, ok.2⟩
end
/-! ### _law_paths -/
theorem T.at_app : ∀ (t : T) (p q : List Nat), t.at (p ++ q) = (t.at p).bind fun u => u.at q
  | t, [], q => by
    rw [t.at_nil]
    rfl
  | .nil, c :: p, q => rfl
  | .node l x r, c :: p, q => by
    show (if c = 108 then l.at (p ++ q) else if c = 114 then r.at (p ++ q) else none) = (if c = 108 then l.at p else if c = 114 then r.at p else none).bind fun u => u.at q
    by_cases h1 : c = 108
    · rw [if_pos h1, if_pos h1]
      exact l.at_app p q
    · rw [if_neg h1, if_neg h1]
      by_cases h2 : c = 114
      · rw [if_pos h2, if_pos h2]
        exact r.at_app p q
      · rw [if_neg h2, if_neg h2]
        rfl
theorem T.at_l {l r : T} {x : Str} : (T.node l x r).at [108] = some l := by
  show (if (108 : Nat) = 108 then l.at [] else _) = _
  rw [if_pos rfl, l.at_nil]
theorem T.at_r {l r : T} {x : Str} : (T.node l x r).at [114] = some r := by
  show (if (114 : Nat) = 108 then _ else if (114 : Nat) = 114 then r.at [] else none) = _
  rw [if_neg (by decide), if_pos rfl, r.at_nil]
theorem T.at_one {t u : T} {c : Nat} (h : t.at [c] = some u) : ∃ l x r, t = .node l x r ∧ ((c = 108 ∧ u = l) ∨ (c = 114 ∧ u = r)) := by
  cases t with
  | nil => cases h
  | node l x r =>
    refine ⟨l, x, r, rfl, ?_⟩
    have h' : (if c = 108 then l.at [] else if c = 114 then r.at [] else none) = some u := h
    by_cases h1 : c = 108
    · rw [if_pos h1, l.at_nil] at h'
      exact .inl ⟨h1, (Option.some.inj h').symm⟩
    · rw [if_neg h1] at h'
      by_cases h2 : c = 114
      · rw [if_pos h2, r.at_nil] at h'
        exact .inr ⟨h2, (Option.some.inj h').symm⟩
      · rw [if_neg h2] at h'
        cases h'
theorem str_app (x y : Str) : (x ++ y).cps.toList = x.cps.toList ++ y.cps.toList := by
  show (x.cps ++ y.cps).toList = _
  rw [Array.toList_append]
theorem el108 : (Str.ofString "l").cps.toList = [108] := by decide +kernel
theorem er114 : (Str.ofString "r").cps.toList = [114] := by decide +kernel
/-- a path and the part there, as a pair on the heap -/
def ItAt (H : Hp) (v : V) (it : Str × T) : Prop := ∃ a vu, v = .ref a ∧ H a = some (.tup [.str it.1, vu]) ∧ TreeAt H vu it.2
theorem ItAt.same {H H' : Hp} (s : Same H H') {v : V} {it : Str × T} (h : ItAt H v it) : ItAt H' v it := by
  obtain ⟨a, vu, rfl, e, ht⟩ := h
  exact ⟨a, vu, rfl, s _ _ e, ht.same s⟩
theorem its_same {H H' : Hp} (s : Same H H') : ∀ {vs : List V} {L : List (Str × T)}, Paired (ItAt H) vs L → Paired (ItAt H') vs L
  | _, _, .nil => .nil
  | _, _, .cons h t => .cons (h.same s) (its_same s t)
theorem its_len {H : Hp} : ∀ {vs : List V} {L : List (Str × T)}, Paired (ItAt H) vs L → vs.length = L.length
  | _, _, .nil => rfl
  | _, _, .cons _ t => by rw [List.length_cons, List.length_cons, its_len t]
theorem its_get {H : Hp} : ∀ {vs : List V} {L : List (Str × T)} {i : Nat} {it : Str × T}, Paired (ItAt H) vs L → L[i]? = some it → ∃ v, vs[i]? = some v ∧ ItAt H v it
  | _, _, 0, _, .cons h _, e => by
    cases e
    exact ⟨_, rfl, h⟩
  | _, _, i + 1, _, .cons _ t, e => its_get (i := i) t e
theorem its_app {H : Hp} : ∀ {vs vs' : List V} {L L' : List (Str × T)}, Paired (ItAt H) vs L → Paired (ItAt H) vs' L' → Paired (ItAt H) (vs ++ vs') (L ++ L')
  | _, _, _, _, .nil, h => h
  | _, _, _, _, .cons h t, h' => .cons h (its_app t h')
/-- all paths of t, each with the part there -/
structure PathsOf (t : T) (L : List (Str × T)) : Prop where
  sound : ∀ it ∈ L, t.at it.1.cps.toList = some it.2
  full : ∀ q u, t.at q = some u → ∃ p, (p, u) ∈ L ∧ p.cps.toList = q
theorem paths_full {t : T} {L : List (Str × T)} (sound : ∀ it ∈ L, t.at it.1.cps.toList = some it.2) (root : ∃ p, (p, t) ∈ L ∧ p.cps.toList = [])
    (closed : ∀ p l x r, (p, T.node l x r) ∈ L → (p ++ Str.ofString "l", l) ∈ L ∧ (p ++ Str.ofString "r", r) ∈ L) : PathsOf t L := by
  refine ⟨sound, fun q => ?_⟩
  have key : ∀ (k : List Nat) (u : T), t.at k.reverse = some u → ∃ p, (p, u) ∈ L ∧ p.cps.toList = k.reverse := by
    intro k
    induction k with
    | nil =>
      intro u h
      rw [List.reverse_nil, t.at_nil] at h
      cases h
      exact root
    | cons c k ih =>
      intro u h
      rw [List.reverse_cons, t.at_app] at h
      rw [List.reverse_cons]
      cases hk : t.at k.reverse with
      | none =>
        rw [hk] at h
        cases h
      | some o =>
        rw [hk] at h
        obtain ⟨p, hp, ep⟩ := ih o hk
        obtain ⟨l, x, r, rfl, ⟨rfl, rfl⟩ | ⟨rfl, rfl⟩⟩ := T.at_one (show o.at [c] = some u from h)
        · exact ⟨_, (closed p _ _ _ hp).1, by rw [str_app, el108, ep]⟩
        · exact ⟨_, (closed p _ _ _ hp).2, by rw [str_app, er114, ep]⟩
  intro u h
  have := key q.reverse u (by rw [List.reverse_reverse]; exact h)
  rw [List.reverse_reverse] at this
  exact this
def load (L : List (Str × T)) : Nat := (L.map fun it => 2 * it.2.size + 1).sum
theorem load_app (A B : List (Str × T)) : load (A ++ B) = load A + load B := by
  unfold load
  rw [List.map_append, List.sum_append]
theorem load_len : ∀ A : List (Str × T), A.length ≤ load A
  | [] => Nat.le_refl _
  | it :: A => by
    have := load_len A
    show A.length + 1 ≤ 2 * it.2.size + 1 + load A
    omega
theorem scPaths : FnScope ["_law_tree_here", "_law_found", "_law_at", "_law_path", "_law_part"] ["_law_tree_here"] (defScope sPaths) := ⟨rfl, rfl, rfl, by decide +kernel, rfl, by decide +kernel, by decide +kernel⟩
def spPaths : Sp := fun vs H Q _ => ∃ (v : V) (t : T), vs = [v] ∧ TreeAt H v t ∧ t.size ≤ 50 ∧ ∀ (H' : Hp) (a : Addr) (ws : List V) (L : List (Str × T)), Same H H' → H a = none → H' a = some (.lst ws) → Paired (ItAt H') ws L → PathsOf t L → L.length = 2 * t.size + 1 → Q (.ref a) H'
/-- the queue: what is done, what is left -/
structure Queue (t : T) (done todo : List (Str × T)) : Prop where
  sound : ∀ it ∈ done ++ todo, t.at it.1.cps.toList = some it.2
  root : ∃ p, (p, t) ∈ done ++ todo ∧ p.cps.toList = []
  closed : ∀ p l x r, (p, T.node l x r) ∈ done → (p ++ Str.ofString "l", l) ∈ done ++ todo ∧ (p ++ Str.ofString "r", r) ∈ done ++ todo
  all : done.length + load todo = 2 * t.size + 1
theorem Queue.skip {t : T} {done todo : List (Str × T)} {p : Str} (h : Queue t done ((p, .nil) :: todo)) : Queue t (done ++ [(p, .nil)]) todo := by
  have e : done ++ [(p, T.nil)] ++ todo = done ++ (p, .nil) :: todo := by rw [List.append_assoc]; rfl
  refine ⟨by rw [e]; exact h.sound, by rw [e]; exact h.root, fun p' l x r hp => ?_, ?_⟩
  · rw [e]
    rcases List.mem_append.mp hp with z | z
    · exact h.closed p' l x r z
    · cases List.mem_singleton.mp z
  · have := h.all
    have e2 : load ((p, T.nil) :: todo) = 1 + load todo := by
      show 2 * 0 + 1 + load todo = _
      omega
    rw [List.length_append]
    show done.length + 1 + load todo = _
    omega
theorem Queue.node {t : T} {done todo : List (Str × T)} {p x : Str} {l r : T} (h : Queue t done ((p, .node l x r) :: todo)) : Queue t (done ++ [(p, .node l x r)]) (todo ++ [(p ++ Str.ofString "l", l), (p ++ Str.ofString "r", r)]) := by
  have e : done ++ [(p, T.node l x r)] ++ (todo ++ [(p ++ Str.ofString "l", l), (p ++ Str.ofString "r", r)]) = (done ++ (p, .node l x r) :: todo) ++ [(p ++ Str.ofString "l", l), (p ++ Str.ofString "r", r)] := by simp
  have here : t.at p.cps.toList = some (.node l x r) := h.sound (p, .node l x r) (List.mem_append_right _ (List.mem_cons_self ..))
  refine ⟨fun it hit => ?_, ?_, fun p' l' x' r' hp => ?_, ?_⟩
  · rw [e] at hit
    rcases List.mem_append.mp hit with z | z
    · exact h.sound it z
    · rcases List.mem_cons.mp z with rfl | z
      · rw [str_app, el108, t.at_app, here]
        exact T.at_l (r := r) (x := x)
      · rw [List.mem_singleton.mp z, str_app, er114, t.at_app, here]
        exact T.at_r (l := l) (x := x)
  · obtain ⟨p0, h0, e0⟩ := h.root
    exact ⟨p0, by rw [e]; exact List.mem_append_left _ h0, e0⟩
  · rw [e]
    rcases List.mem_append.mp hp with z | z
    · obtain ⟨z1, z2⟩ := h.closed p' l' x' r' z
      exact ⟨List.mem_append_left _ z1, List.mem_append_left _ z2⟩
    · cases List.mem_singleton.mp z
      exact ⟨List.mem_append_right _ (List.mem_cons_self ..), List.mem_append_right _ (List.mem_cons_of_mem _ (List.mem_cons_self ..))⟩
  · have := h.all
    have e2 : load ((p, T.node l x r) :: todo) = 2 * (l.size + 1 + r.size) + 1 + load todo := rfl
    have e3 : load [(p ++ Str.ofString "l", l), (p ++ Str.ofString "r", r)] = 2 * l.size + 1 + (2 * r.size + 1 + 0) := rfl
    rw [List.length_append, load_app]
    show done.length + 1 + _ = _
    omega
section
variable {P : Program} {w : World} {K : PySem.W.Frag} {mg : Str → Option Value} {base : Heap} {f : Addr} {fd : FuncData}
theorem ok_paths {k : Nat} (F : Fun K "_law_paths" "_law_paths" sPaths f fd) (ml : mg "len" = none) : FnOk P w K mg base CX0 (k + 1) f fd ["_law_tree_here"] spPaths := by
  refine F.ok scPaths (fun vs H Q E h => ?_) (fun cdv A outer s H vs Q E hr h => ?_)
  · obtain ⟨v, t, rfl, _⟩ := h
    rfl
  obtain ⟨v, t, rfl, ht, hsz, q⟩ := h
  refine ⟨_, pss_cons (ps_par (i := 1) (j := 2) (by rfl) scPaths.nd rfl rfl (by decide) rfl rfl (pa_cons (pe_lst (pa_cons (pe_tup (pa_cons pe_str (pa_cons (pv 0) pa_nil))) pa_nil)) (pa_cons pe_int pa_nil)) (by rfl))
    (pss_cons (ps_while PassesOwn.never (pt_cmpR op_lt (pv 2) (pe_callB call_len_seq rfl ml PySem.boot_len (pa_cons (pv 1) pa_nil)) (nomark _))
      (pss_cons (ps_asg (pe_ix ix_list (pv 1) (pv 2) (fun _ _ => rfl)) (pg_tup rfl (pgs_cons (pg_name (i := 3) scPaths.nd rfl (.inl rfl)) (pgs_cons (pg_name (i := 4) scPaths.nd rfl (.inl rfl)) pgs_nil))))
      (pss_cons (ps_if (pt_cmpR op_notN (pv 4) pe_non (nomark _)) (pss_one (ps_set (i := 1) scPaths.nd rfl (.inl rfl) (pe_op op_cat (pv 1) (pe_lst (pa_cons (pe_tup (pa_cons (pe_op op_add_str (pv 3) pe_str) (pa_cons (pe_ix ix_tup (pv 4) pe_int (fun _ _ => rfl)) pa_nil))) (pa_cons (pe_tup (pa_cons (pe_op op_add_str (pv 3) pe_str) (pa_cons (pe_ix ix_tup (pv 4) pe_int (fun _ _ => rfl)) pa_nil))) pa_nil)))))) pss_nil)
      (pss_one (ps_set (i := 2) scPaths.nd rfl (.inl rfl) (pe_op op_add (pv 2) pe_int))))))
    (pss_one (ps_ret (pv 1)))), ?_⟩
  refine ⟨_, rfl, (by show 2 ≤ sizeLine; decide), fun a0 n0 => ⟨(by show 1 ≤ sizeLine; decide), fun fa nf => ?_⟩⟩
  have s0 := (same_new n0 (.tup [.str "", v])).trans (same_new nf (.lst [.ref a0]))
  have ea0 := same_new nf (.lst [.ref a0]) _ _ (upd_same (H := H) (a := a0))
  refine ⟨_, _, rfl, ?_⟩
  have nfa : H fa = none := by
    cases e : H fa with
    | none => rfl
    | some o =>
      have := same_new n0 (.tup [.str "", v]) _ _ e
      rw [nf] at this
      cases this
  refine while_by (fun σ H' => ∃ (fb : Addr) (done todo : List (Str × T)) (ws : List V) (y1 y2 : Option V), σ = [some v, some (.ref fb), some (.int (done.length : Int)), y1, y2] ∧ Same H H' ∧ H fb = none ∧ H' fb = some (.lst ws) ∧ Paired (ItAt H') ws (done ++ todo) ∧ Queue t done todo)
    (fun σ _ => match σ with | [_, _, some (.int i), _, _] => 2 * t.size + 2 - i.toNat | _ => 0) ?_ (fun σ H' hp => ?_) ?_
  · refine ⟨fa, [], [("", t)], [.ref a0], none, none, rfl, s0, nfa, upd_same, .cons ⟨a0, v, rfl, ea0, ht.same s0⟩ .nil, ⟨fun it hit => ?_, ⟨"", List.mem_singleton.mpr rfl, rfl⟩, (fun _ _ _ _ z => nomatch z), ?_⟩⟩
    · rw [List.mem_singleton.mp hit]
      exact t.at_nil
    · show 0 + (2 * t.size + 1 + 0) = _
      omega
  · obtain ⟨fb, done, todo, ws, y1, y2, rfl, sm, nfb, ef, its, Qu⟩ := hp
    have all := Qu.all
    have hl := its_len its
    have hw : ws.length ≤ 200 := by
      rw [hl, List.length_append]
      have := load_len todo
      omega
    refine ⟨_, rfl, _, rfl, fb, _, rfl, .inl (SqL.of ef), _, _, rfl, rfl, _, rfl, ite2 (fun c => ?_) (fun c => ?_)⟩
    · have c' : (done.length : Int) < (ws.length : Int) := of_decide_eq_true c
      cases todo with
      | nil =>
        rw [hl, List.append_nil] at c'
        omega
      | cons it todo =>
        obtain ⟨p, u⟩ := it
        have gi : (done ++ (p, u) :: todo)[done.length]? = some (p, u) := by
          rw [List.getElem?_append_right (Nat.le_refl _), Nat.sub_self]
          rfl
        obtain ⟨wv, gw, a, vu, rfl, ea, hu⟩ := its_get its gi
        have atp : t.at p.cps.toList = some u := Qu.sound (p, u) (List.mem_append_right _ (List.mem_cons_self ..))
        obtain ⟨_, lp⟩ := t.at_size u _ atp
        have lp' : p.length ≤ 51 := by
          show p.cps.size ≤ 51
          rw [← Array.length_toList]
          omega
        refine ⟨_, rfl, _, rfl, fb, _, _, _, rfl, rfl, SqL.of ef, atI_nat gw, ?_⟩
        refine ⟨a, _, rfl, SqT.of ea, rfl, .str p, _, rfl, vu, _, rfl, rfl, ?_⟩
        have step : ((done.length : Int) + 1) = (((done ++ [(p, u)]).length : Nat) : Int) := by
          rw [List.length_append]
          show _ = ((done.length + 1 : Nat) : Int)
          omega
        have rank : 2 * t.size + 2 - ((done.length : Int) + 1).toNat < 2 * t.size + 2 - (done.length : Int).toNat := by
          have : load ((p, u) :: todo) = 2 * u.size + 1 + load todo := rfl
          omega
        rcases hu.inv with ⟨rfl, rfl⟩ | ⟨b, l, r, x, tl, tr, rfl, rfl, eb, hL, hR⟩
        · refine ⟨_, rfl, rfl, _, rfl, iteF ?_⟩
          refine ⟨_, rfl, _, _, rfl, rfl, ⟨fb, done ++ [(p, .nil)], todo, ws, _, _, by rw [← step]; rfl, sm, nfb, ef, ?_, Qu.skip⟩, rank⟩
          rw [List.append_assoc]
          exact its
        · refine ⟨_, rfl, rfl, _, rfl, iteT ?_⟩
          have lz : p.length + 1 ≤ sizeLine := Nat.le_trans (by omega : p.length + 1 ≤ 1000) (by decide)
          refine ⟨_, rfl, _, rfl, p, _, rfl, rfl, lz, _, rfl, b, _, 0, l, rfl, rfl, SqT.of eb, atI_nat (j := 0) rfl, (by show 2 ≤ sizeLine; decide), fun p1 n1 => ?_⟩
          have s1 := same_new n1 (.tup [.str (p ++ Str.ofString "l"), l])
          refine ⟨_, rfl, p, _, rfl, rfl, lz, _, rfl, b, _, 2, r, rfl, rfl, SqT.of (s1 _ _ eb), atI_nat (j := 2) rfl, (by show 2 ≤ sizeLine; decide), fun p2 n2 => ?_⟩
          have s2 := same_new n2 (.tup [.str (p ++ Str.ofString "r"), r])
          refine ⟨(by show 2 ≤ sizeLine; decide), fun p3 n3 => ?_⟩
          have s3 := same_new n3 (.lst [.ref p1, .ref p2])
          refine ⟨fb, p3, _, _, rfl, rfl, (s1.trans (s2.trans s3)) _ _ ef, upd_same, ?_, fun p4 n4 => ?_⟩
          · show ws.length + 2 ≤ sizeLine
            exact Nat.le_trans (by omega : ws.length + 2 ≤ 1000) (by decide)
          have s4 := same_new n4 (.lst (ws ++ [.ref p1, .ref p2]))
          have s14 := s1.trans (s2.trans (s3.trans s4))
          refine ⟨_, rfl, _, _, rfl, rfl, ⟨p4, done ++ [(p, .node tl x tr)], todo ++ [(p ++ Str.ofString "l", tl), (p ++ Str.ofString "r", tr)], _, _, _, by rw [← step]; rfl, sm.trans s14, ?_, upd_same, ?_, Qu.node⟩, rank⟩
          · cases e : H p4 with
            | none => rfl
            | some o =>
              have := (sm.trans (s1.trans (s2.trans s3))) _ _ e
              rw [n4] at this
              cases this
          · rw [show done ++ [(p, T.node tl x tr)] ++ (todo ++ [(p ++ Str.ofString "l", tl), (p ++ Str.ofString "r", tr)]) = (done ++ (p, .node tl x tr) :: todo) ++ [(p ++ Str.ofString "l", tl), (p ++ Str.ofString "r", tr)] by simp]
            refine its_app (its_same s14 its) (.cons ⟨p1, l, rfl, (s2.trans (s3.trans s4)) _ _ upd_same, hL.same s14⟩ (.cons ⟨p2, r, rfl, (s3.trans s4) _ _ upd_same, hR.same s14⟩ .nil))
    · have c' : ¬ (done.length : Int) < (ws.length : Int) := of_decide_eq_false (Bool.eq_false_iff.mpr c)
      rw [hl, List.length_append] at c'
      have : todo = [] := List.eq_nil_of_length_eq_zero (by omega)
      subst this
      have all' : done.length + 0 = 2 * t.size + 1 := all
      refine ⟨_, rfl, q H' fb ws (done ++ []) sm nfb ef its ?_ ?_⟩
      · refine paths_full Qu.sound Qu.root fun p l x r hp => Qu.closed p l x r ?_
        rw [List.append_nil] at hp
        exact hp
      · rw [List.append_nil]
        omega
  · intro σ H' Q1 Q2 hQ h
    obtain ⟨v, e, v2, e4, p, ys, e2, e3, i, j, e5, e6, k, e7, q7⟩ := h
    exact ⟨v, e, v2, e4, p, ys, e2, e3, i, j, e5, e6, k, e7, hQ _ _ q7⟩
end
/-! ### _law_put -/
theorem same_put {H H' : Hp} {p : Addr} (s : Same H H') (e : H p = none) (o : HO) : Same H (upd H' p o) := by
  intro b u h
  rw [upd_ne (ne_of_none h e)]
  exact s b u h
theorem T.at_cons {t o : T} {c : Nat} {cs : List Nat} (h : t.at (c :: cs) = some o) : ∃ l x r, t = .node l x r ∧ ((c = 108 ∧ l.at cs = some o) ∨ (c = 114 ∧ r.at cs = some o)) := by
  cases t with
  | nil => cases h
  | node l x r =>
    refine ⟨l, x, r, rfl, ?_⟩
    have h' : (if c = 108 then l.at cs else if c = 114 then r.at cs else none) = some o := h
    by_cases h1 : c = 108
    · rw [if_pos h1] at h'
      exact .inl ⟨h1, h'⟩
    · rw [if_neg h1] at h'
      by_cases h2 : c = 114
      · rw [if_pos h2] at h'
        exact .inr ⟨h2, h'⟩
      · rw [if_neg h2] at h'
        cases h'
theorem T.put_nil (t u : T) : t.put [] u = u := by cases t <;> rfl
theorem at_rest {t o u' : T} {cs : List Nat} {i : Nat} (h : t.at cs = some o) (h' : t.at (cs.take i) = some u') : u'.at (cs.drop i) = some o := by
  have e := t.at_app (cs.take i) (cs.drop i)
  rw [List.take_append_drop, h, h'] at e
  exact e.symm
theorem at_take {t u' w : T} {cs : List Nat} {i c : Nat} (h' : t.at (cs.take i) = some u') (hc : cs[i]? = some c) (hw : u'.at [c] = some w) : t.at (cs.take (i + 1)) = some w := by
  have e : cs.take (i + 1) = cs.take i ++ [c] := by
    rw [List.take_succ, hc]
    rfl
  rw [e, t.at_app, h']
  exact hw
theorem drop_at {cs : List Nat} {i c : Nat} (hc : cs[i]? = some c) : cs.drop i = c :: cs.drop (i + 1) := by
  obtain ⟨hi, e⟩ := List.getElem?_eq_some_iff.mp hc
  rw [List.drop_eq_getElem_cons hi, e]
theorem scPut : FnScope ["_law_tree_here", "_law_path", "_law_part", "_law_here", "_law_above", "_law_sign", "_law_k", "_law_left", "_law_label", "_law_right"] ["_law_tree_here", "_law_path", "_law_part"] (defScope sPut) := ⟨rfl, rfl, rfl, by decide +kernel, rfl, by decide +kernel, by decide +kernel⟩
def spPut : Sp := fun vs H Q _ => ∃ (v vp : V) (t u o : T) (x : Str), vs = [v, .str x, vp] ∧ TreeAt H v t ∧ TreeAt H vp u ∧ t.at x.cps.toList = some o ∧ t.size ≤ 50 ∧ ∀ (H' : Hp) (v' : V), Same H H' → TreeAt H' v' (t.put x.cps.toList u) → Q v' H'
section
variable {P : Program} {w : World} {K : PySem.W.Frag} {mg : Str → Option Value} {base : Heap} {f : Addr} {fd : FuncData}
theorem ok_put {k : Nat} (F : Fun K "_law_put" "_law_put" sPut f fd) (ml : mg "len" = none) (mr : mg "range" = none) : FnOk P w K mg base CX0 (k + 1) f fd ["_law_tree_here", "_law_path", "_law_part"] spPut := by
  refine F.ok scPut (fun vs H Q E h => ?_) (fun cdv A outer s H vs Q E hr h => ?_)
  · obtain ⟨v, vp, t, u, o, x, rfl, _⟩ := h
    rfl
  obtain ⟨v, vp, t, u, o, x, rfl, ht, hu, ho, hsz, q⟩ := h
  refine ⟨_, pss_cons (ps_par (i := 3) (j := 4) (by rfl) scPut.nd rfl rfl (by decide) rfl rfl (pa_cons (pv 0) (pa_cons (pe_lst pa_nil) pa_nil)) (by rfl))
    (pss_cons (ps_for PassesOwn.never rfl (pi_str (pv 1)) (pg_name (i := 5) scPut.nd rfl (.inl rfl))
      (pss_cons (ps_expr (pe_bm PySem.F.plainAttrs_list PySem.F.slot_list_append PySem.F.type_list_append mt_append (pv 4) (pa_cons (pv 3) pa_nil)))
      (pss_one (ps_set (i := 3) scPut.nd rfl (.inl rfl) (pe_ifExp (pt_cmpR op_eq (pv 5) pe_str (nomark _)) (pe_ix ix_tup (pv 3) pe_int (fun _ _ => rfl)) (pe_ix ix_tup (pv 3) pe_int (fun _ _ => rfl)))))))
    (pss_cons (ps_for PassesOwn.never rfl (pi_range3 rfl mr (pa_cons (pe_op op_sub (pe_callB call_len_str rfl ml PySem.boot_len (pa_cons (pv 1) pa_nil)) pe_int) (pa_cons (pe_un un_neg pe_int) (pa_cons (pe_un un_neg pe_int) pa_nil)))) (pg_name (i := 6) scPut.nd rfl (.inl rfl))
      (pss_cons (ps_asg (pe_ix ix_list (pv 4) (pv 6) (fun _ _ => rfl)) (pg_tup rfl (pgs_cons (pg_name (i := 7) scPut.nd rfl (.inl rfl)) (pgs_cons (pg_name (i := 8) scPut.nd rfl (.inl rfl)) (pgs_cons (pg_name (i := 9) scPut.nd rfl (.inl rfl)) pgs_nil)))))
      (pss_one (ps_set (i := 2) scPut.nd rfl (.inl rfl) (pe_ifExp (pt_cmpR op_eq (pe_ix ix_str (pv 1) (pv 6) (fun _ _ => rfl)) pe_str (nomark _)) (pe_tup (pa_cons (pv 2) (pa_cons (pv 8) (pa_cons (pv 9) pa_nil)))) (pe_tup (pa_cons (pv 7) (pa_cons (pv 8) (pa_cons (pv 2) pa_nil)))))))))
    (pss_one (ps_ret (pv 2))))), ?_⟩
  have el : Str.ofString "l" = ⟨#[108]⟩ := by decide +kernel
  have nl : decide (V.str ⟨#[114]⟩ = V.str "l") = false := by
    rw [el]
    exact decide_eq_false (by intro z; have z' := congrArg (fun y : Str => y.cps.toList) (V.str.inj z); exact absurd (List.cons.inj z').1 (by decide))
  have yl : decide (V.str ⟨#[108]⟩ = V.str "l") = true := by rw [el]; exact decide_eq_true rfl
  have hlen : x.length = x.cps.toList.length := by show x.cps.size = _; rw [Array.length_toList]
  obtain ⟨_, hl51⟩ := t.at_size o _ ho
  have hx : x.length ≤ sizeLine := Nat.le_trans (by omega : x.length ≤ 1000) (by decide)
  refine ⟨_, rfl, (by show 0 ≤ sizeLine; decide), fun fa nfa => ⟨_, _, rfl, ?_⟩⟩
  have s0 := same_new nfa (.lst [])
  refine ⟨_, rfl, x, rfl, ?_⟩
  refine for_text (x := x) (fun i σ H' => ∃ (vu : V) (u' : T) (y : Option V) (ws : List V), σ = [some v, some (.str x), some vp, some vu, some (.ref fa), y, none, none, none, none] ∧ Same H H' ∧ H' fa = some (.lst ws) ∧ ws.length = i ∧ TreeAt H vu u' ∧ t.at (x.cps.toList.take i) = some u' ∧
      ∀ j, j < i → ∃ wj uj, ws[j]? = some wj ∧ TreeAt H wj uj ∧ t.at (x.cps.toList.take j) = some uj) ⟨v, t, none, [], rfl, s0, upd_same, rfl, ht, t.at_nil, fun j hj => absurd hj (Nat.not_lt_zero j)⟩ (fun i c σ H' hc hp => ?_) (fun σ H' hp => ?_)
  · obtain ⟨vu, u', y, ws, rfl, sm, ef, wl, hvu, hat, hws⟩ := hp
    have hi : i < x.cps.toList.length := (List.getElem?_eq_some_iff.mp hc).1
    have rest := at_rest ho hat
    rw [drop_at hc] at rest
    obtain ⟨l, lb, r, rfl, alt⟩ := T.at_cons rest
    rcases hvu.inv with ⟨_, z⟩ | ⟨a, vl, vr, lb', tl, tr, rfl, z, ea, hL, hR⟩
    · cases z
    cases z
    refine ⟨.ref fa, rfl, .inl ⟨rfl, _, SqL.of ef⟩, _, rfl, fa, _, _, rfl, rfl, ef, small1000 (by omega), ?_⟩
    have sm2 := same_put sm nfa (.lst (ws ++ [.ref a]))
    have more : ∀ j, j < i + 1 → ∃ wj uj, (ws ++ [V.ref a])[j]? = some wj ∧ TreeAt H wj uj ∧ t.at (x.cps.toList.take j) = some uj := by
      intro j hj
      by_cases h : j < i
      · obtain ⟨wj, uj, h1, h2, h3⟩ := hws j h
        exact ⟨wj, uj, by rw [List.getElem?_append_left (by omega)]; exact h1, h2, h3⟩
      · have e : j = i := by omega
        subst e
        exact ⟨.ref a, _, by rw [List.getElem?_append_right (by omega), wl, Nat.sub_self]; rfl, hvu, hat⟩
    rcases alt with ⟨rfl, _⟩ | ⟨rfl, _⟩
    · refine ⟨_, rfl, rfl, _, rfl, ?_⟩
      rw [yl]
      refine iteT ⟨_, rfl, a, _, 0, vl, rfl, rfl, SqT.of (sm2 _ _ ea), atI_nat (j := 0) rfl, ?_⟩
      exact ⟨vl, l, _, _, rfl, sm2, upd_same, by rw [List.length_append, wl]; rfl, hL, at_take hat hc T.at_l, more⟩
    · refine ⟨_, rfl, rfl, _, rfl, ?_⟩
      rw [nl]
      refine iteF ⟨_, rfl, a, _, 2, vr, rfl, rfl, SqT.of (sm2 _ _ ea), atI_nat (j := 2) rfl, ?_⟩
      exact ⟨vr, r, _, _, rfl, sm2, upd_same, by rw [List.length_append, wl]; rfl, hR, at_take hat hc T.at_r, more⟩
  · obtain ⟨vu, u', y, ws, rfl, sm, ef, wl, hvu, hat, hws⟩ := hp
    have rg : RgC ((x.length : Int) - 1) (-1) (-1) x.cps.toList.length := by
      have := RgC.neg (i := (x.length : Int) - 1) (j := -1) (by omega) (by omega) (by omega) (by omega)
      rw [show ((x.length : Int) - 1 - -1).toNat = x.cps.toList.length by omega] at this
      exact this
    refine ⟨_, rfl, x, rfl, hx, _, _, rfl, rfl, 1, rfl, 1, rfl, _, _, _, _, rfl, rg, ?_⟩
    refine for_rangeC (n := x.cps.toList.length) (fun i σ H' => ∃ (vq : V) (um : T) (y6 y7 y8 y9 : Option V), σ = [some v, some (.str x), some vq, some vu, some (.ref fa), y, y6, y7, y8, y9] ∧ Same H H' ∧ H' fa = some (.lst ws) ∧
      t.at (x.cps.toList.take (x.cps.toList.length - i)) = some um ∧ TreeAt H' vq (um.put (x.cps.toList.drop (x.cps.toList.length - i)) u)) ⟨vp, o, none, none, none, none, rfl, sm, ef, ?_, ?_⟩ (fun i σ H1 hi hp => ?_) (fun σ H1 hp => ?_)
    · rw [Nat.sub_zero, List.take_length]
      exact ho
    · rw [Nat.sub_zero, List.drop_length, o.put_nil]
      exact hu.same sm
    · obtain ⟨vq, um, y6, y7, y8, y9, rfl, s1, ef1, hum, hvq⟩ := hp
      obtain ⟨m, hm⟩ : ∃ m, x.cps.toList.length - i = m + 1 := ⟨x.cps.toList.length - i - 1, by omega⟩
      have hm' : x.cps.toList.length - (i + 1) = m := by omega
      have hml : m < x.cps.toList.length := by omega
      obtain ⟨c, hc⟩ : ∃ c, x.cps.toList[m]? = some c := ⟨_, List.getElem?_eq_getElem hml⟩
      have ek : (x.length : Int) - 1 + ((i : Nat) : Int) * -1 = ((m : Nat) : Int) := by omega
      obtain ⟨wj, uj, h1, h2, h3⟩ := hws m (by omega)
      have rest := at_rest ho h3
      rw [drop_at hc] at rest
      obtain ⟨l, lb, r, rfl, alt⟩ := T.at_cons rest
      rcases h2.inv with ⟨_, z⟩ | ⟨a, vl, vr, lb', tl, tr, rfl, z, ea, hL, hR⟩
      · cases z
      cases z
      rw [hm] at hum hvq
      refine ⟨_, rfl, _, rfl, fa, _, _, .ref a, rfl, rfl, SqL.of ef1, by rw [ek]; exact atI_nat h1, ?_⟩
      refine ⟨a, _, rfl, SqT.of (s1 _ _ ea), rfl, vl, _, rfl, .str lb, _, rfl, vr, _, rfl, rfl, ?_⟩
      refine ⟨_, rfl, _, rfl, x, _, c, rfl, rfl, hx, by rw [ek]; exact atI_nat hc, rfl, _, rfl, ?_⟩
      rcases alt with ⟨rfl, _⟩ | ⟨rfl, _⟩
      · rw [yl]
        refine iteT ⟨_, rfl, _, rfl, _, rfl, (by show 3 ≤ sizeLine; decide), fun p np => ?_⟩
        have s2 := same_new np (.tup [vq, .str lb, vr])
        have e1 := at_take h3 hc (T.at_l (l := l) (x := lb) (r := r))
        rw [hum] at e1
        cases e1
        refine ⟨.ref p, .node um lb r, _, _, _, _, rfl, s1.trans s2, s2 _ _ ef1, by rw [hm']; exact h3, ?_⟩
        rw [hm', drop_at hc]
        show TreeAt _ _ (if (108 : Nat) = 108 then T.node (um.put (x.cps.toList.drop (m + 1)) u) lb r else _)
        rw [if_pos rfl]
        exact .node upd_same (hvq.same s2) (hR.same (s1.trans s2))
      · rw [nl]
        refine iteF ⟨_, rfl, _, rfl, _, rfl, (by show 3 ≤ sizeLine; decide), fun p np => ?_⟩
        have s2 := same_new np (.tup [vl, .str lb, vq])
        have e1 := at_take h3 hc (T.at_r (l := l) (x := lb) (r := r))
        rw [hum] at e1
        cases e1
        refine ⟨.ref p, .node l lb um, _, _, _, _, rfl, s1.trans s2, s2 _ _ ef1, by rw [hm']; exact h3, ?_⟩
        rw [hm', drop_at hc]
        show TreeAt _ _ (if (114 : Nat) = 108 then _ else T.node l lb (um.put (x.cps.toList.drop (m + 1)) u))
        rw [if_neg (by decide)]
        exact .node upd_same (hL.same (s1.trans s2)) (hvq.same s2)
    · obtain ⟨vq, um, y6, y7, y8, y9, rfl, s1, ef1, hum, hvq⟩ := hp
      rw [Nat.sub_self, List.take_zero, t.at_nil] at hum
      cases hum
      rw [Nat.sub_self, List.drop_zero] at hvq
      exact ⟨_, rfl, q H1 vq s1 hvq⟩
end
/-! ### _law_due -/
theorem scDue : FnScope ["_law_door", "_law_tree_here", "_law_path", "_law_part", "_law_known", "_law_names", "_law_own", "_law_some", "_law_old"] ["_law_door", "_law_tree_here", "_law_path", "_law_part"] (defScope sDue) := ⟨rfl, rfl, rfl, by decide +kernel, rfl, by decide +kernel, by decide +kernel⟩
theorem T.at_let : ∀ (t u : T) (cs : List Nat), t.let → t.at cs = some u → u.let
  | t, u, [], hl, h => by
    rw [t.at_nil] at h
    cases h
    exact hl
  | .nil, u, _ :: _, _, h => by cases h
  | .node l x r, u, c :: cs, hl, h => by
    obtain ⟨h1, _, h3⟩ := T.let_node hl
    obtain ⟨l', x', r', e, ⟨_, z⟩ | ⟨_, z⟩⟩ := T.at_cons h
    · cases e
      exact l.at_let u cs h1 z
    · cases e
      exact r.at_let u cs h3 z
theorem flat_strs : ∀ xs : List Str, (xs.map V.str).all flatV = true
  | [] => rfl
  | x :: xs => by
    rw [List.map_cons, List.all_cons, flat_strs xs]
    rfl
theorem inV_strs (x : Str) (xs : List Str) : inV (.str x) (xs.map V.str) = decide (x ∈ xs) := by
  rw [Bool.eq_iff_iff, decide_eq_true_iff]
  unfold inV
  rw [List.any_eq_true]
  constructor
  · rintro ⟨y, hy, e⟩
    obtain ⟨z, hz, rfl⟩ := List.mem_map.mp hy
    have : z = x := by simpa [eqV] using e
    rw [← this]
    exact hz
  · intro h
    exact ⟨.str x, List.mem_map.mpr ⟨x, h, rfl⟩, by simp [eqV]⟩
theorem first_at : ∀ (x : Str) (xs : List Str), x ∈ xs → ∃ j : Nat, xs[j]? = some x ∧ ∀ (m : Nat) (y : Str), m < j → xs[m]? = some y → y ≠ x
  | x, [], h => nomatch h
  | x, y :: xs, h => by
    by_cases e : y = x
    · exact ⟨0, by rw [e]; rfl, fun m _ hm => absurd hm (Nat.not_lt_zero m)⟩
    · rcases List.mem_cons.mp h with z | z
      · exact absurd z.symm e
      · obtain ⟨j, h1, h2⟩ := first_at x xs z
        refine ⟨j + 1, h1, fun m y' hm hy => ?_⟩
        cases m with
        | zero =>
          cases hy
          exact e
        | succ m => exact h2 m y' (by omega) hy
theorem its_getV {H : Hp} : ∀ {vs : List V} {L : List (Str × T)} {i : Nat} {v : V}, Paired (ItAt H) vs L → vs[i]? = some v → ∃ it, L[i]? = some it ∧ ItAt H v it
  | _, _, 0, _, .cons h _, e => by
    cases e
    exact ⟨_, rfl, h⟩
  | _, _, i + 1, _, .cons _ t, e => its_getV (i := i) t e
theorem str_ext {x y : Str} (h : x.cps.toList = y.cps.toList) : x = y := by
  obtain ⟨⟨a⟩⟩ := x
  obtain ⟨⟨b⟩⟩ := y
  have : a = b := h
  rw [this]
def spDue (K : PySem.W.Frag) : Sp := fun vs H Q _ => ∃ (b : Bool) (v v' vp : V) (t u : T) (D : Deck) (d : PyData), vs = [.int (if b then 0 else 1), v, v', vp] ∧ TreeAt H v t ∧ DQ D H v' d ∧ gd d = true ∧ wt d ≤ 1000000 ∧ d.depth ≤ 60 ∧ TreeAt H vp u ∧ t.size ≤ 50 ∧ u.size ≤ 50 ∧ t.let ∧ u.let ∧
  ∀ (H' : Hp) (v2 : V), Same H H' → Dp K H' v2 (told b t d u) → Q v2 H'
section
variable {P : Program} {w : World} {K : PySem.W.Frag} {mg : Str → Option Value} {base : Heap} {f fA fC fU : Addr} {fd fdA fdC fdU : FuncData}
theorem ok_due (F : Fun K "_law_due" "_law_due" sDue f fd) (M : Mgs mg) (mr : mg "repr" = none)
    (GA : FnOk P w K mg base CX0 1 fA fdA ["_law_tree_here"] spPaths) (bA : Binds K fdA ["_law_tree_here"] []) (kA : PySem.W.keepIn K (.ref fA) = true) (gA : mg "_law_paths" = some (.ref fA))
    (GC : FnOk P w K mg base CX0 60 fC fdC ["_law_value"] (spCnt 60)) (bC : Binds K fdC ["_law_value"] []) (kC : PySem.W.keepIn K (.ref fC) = true) (gC : mg "_law_count" = some (.ref fC))
    (GU : FnOk P w K mg base CX0 1 fU fdU ["_law_tree_here", "_law_path", "_law_part"] spPut) (bU : Binds K fdU ["_law_tree_here", "_law_path", "_law_part"] []) (kU : PySem.W.keepIn K (.ref fU) = true) (gU : mg "_law_put" = some (.ref fU)) :
    FnOkG P w K mg base 61 f fd ["_law_door", "_law_tree_here", "_law_path", "_law_part"] (spDue K) := by
  refine fnG F scDue (fun vs H Q E h => ?_) (fun cdv A outer s H vs Q E gs hr h => ?_)
  · obtain ⟨b, v, v', vp, t, u, D, d, rfl, _⟩ := h
    rfl
  obtain ⟨b, v, v', vp, t, u, D, d, rfl, ht, hd, hg, hw, hdp, hu, ts, us, tlet, ulet, q⟩ := h
  have bi : bootBuiltins "isinstance" = some (.builtin "isinstance") := by decide +kernel
  have hr1 := hr.mono (show 1 ≤ 60 by decide)
  have un := hr.units
  refine ⟨_, pss_cons (ps_set (i := 4) scDue.nd rfl (.inl rfl) (pe_call GA hr1 rfl gA kA bA .nil pass0 (pa_cons (pv 1) pa_nil)))
    (pss_cons (ps_setLc (i := 5) (own := [("_law_own", 6), ("_law_some", 7)]) (g := gTup K 2 (gCons (gName 6) (gCons (gName 7) gNil))) (tt := tYes) (by rfl) scDue.nd rfl rfl (sw_true rfl rfl rfl (by decide +kernel)) (pi_list (pv 4)) (blkOk_by (N := ["_law_door", "_law_tree_here", "_law_path", "_law_part", "_law_known", "_law_names", "_law_own", "_law_some", "_law_old"]) (sc := defScope sDue) (by decide +kernel))
        (fun _ _ _ _ _ => pg_tup rfl (pgs_cons (pg_name (i := 6) scDue.nd rfl (Or.inl rfl)) (pgs_cons (pg_name (i := 7) scDue.nd rfl (Or.inl rfl)) pgs_nil))) (fun _ _ _ _ _ => pts_nil) (fun _ _ _ _ _ => pv 6))
    (pss_cons (ps_if (PW.pt (pw_or (pt_not (pt_val (pe_callB call_isi rfl M.isi bi (pa_cons (pv 2) (pa_cons (pe_bltn (v := .ty "str") rfl M.str (by decide +kernel) rfl) pa_nil))))) (pw_or1 (pt_cmpR op_notIn_seq (pv 2) (pv 5) (by rfl)))))
        (pss_one (ps_ret (pe_lst (pa_cons pe_str (pa_cons (pe_callB (call_reprQ gs un) rfl mr (by decide +kernel) (pa_cons (pv 2) pa_nil)) pa_nil))))) pss_nil)
    (pss_cons (ps_set (i := 8) scDue.nd rfl (.inl rfl) (pe_ix ix_tup (pe_ix ix_list (pv 4) (pe_bm PySem.F.plainAttrs_list PySem.F.slot_list_index PySem.F.type_list_index mt_index (pv 5) (pa_cons (pv 2) pa_nil)) (fun _ _ => rfl)) pe_int (fun _ _ => rfl)))
    (pss_cons (ps_if (pt_cmpR op_eq (pv 0) pe_int (nomark _)) (pss_one (ps_ret (pe_lst (pa_cons pe_str (pa_cons (pv 8) pa_nil))))) pss_nil)
    (pss_cons (ps_if (pt_cmpR op_gt (pe_op op_add (pe_op op_sub (pe_call GC hr rfl gC kC bC .nil pass0 (pa_cons (pv 1) pa_nil)) (pe_call GC hr rfl gC kC bC .nil pass0 (pa_cons (pv 8) pa_nil))) (pe_call GC hr rfl gC kC bC .nil pass0 (pa_cons (pv 3) pa_nil))) pe_int (nomark _))
        (pss_one (ps_ret (pe_lst (pa_cons pe_str (pa_cons pe_int pa_nil))))) pss_nil)
    (pss_one (ps_ret (pe_lst (pa_cons pe_str (pa_cons (pe_call GU hr1 rfl gU kU bU .nil pass0 (pa_cons (pv 1) (pa_cons (pv 2) (pa_cons (pv 3) pa_nil)))) pa_nil)))))))))), ?_⟩
  refine ⟨_, rfl, v, t, rfl, ht, ts, fun H1 ka ws L s1 nka ek its PO hL => ?_⟩
  refine ⟨_, rfl, ka, rfl, ⟨_, SqL.of ek⟩, fun na nna => ?_⟩
  have hwl := its_len its
  refine lc_list (K := K) (a := ka) (xs := ws) (fun j H' => Same H1 H' ∧ H' na = some (.lst (((L.take j).map (·.1)).map V.str))) ⟨same_new nna _, upd_same⟩ (fun j H' _ hp => SqL.of (hp.1 _ _ ek)) (fun j y H' hy hp => ?_) (fun H2 hp => ?_)
  · obtain ⟨sm, eN⟩ := hp
    obtain ⟨it, hit, a, vu, rfl, ea, _⟩ := its_getV its hy
    have hj : j < L.length := (List.getElem?_eq_some_iff.mp hit).1
    refine ⟨a, _, rfl, SqT.of (sm _ _ ea), rfl, .str it.1, _, rfl, vu, _, rfl, rfl, rfl, kept ?_⟩
    refine ⟨_, rfl, _, eN, ?_, fun e o z => ?_, ?_⟩
    · rw [List.length_map, List.length_map, List.length_take]
      exact small1000 (by omega)
    · rw [upd_ne (ne_of_none z nna)]
      exact sm _ _ z
    · rw [upd_same, List.take_add_one, hit, List.map_append, List.map_append]
      rfl
  obtain ⟨s2, eN⟩ := hp
  rw [hwl, List.take_length] at eN
  have s12 := s1.trans s2
  have hd2 := dq_same s12 hd
  refine ⟨_, rfl, _, _, _, _, isStrD d, rfl, .ty _, dq_ty hd2, kit_ty (kit_str d), _, rfl, ?_⟩
  have out : pathTo t d = none → ∀ p, H2 p = none → Q (.ref p) (upd H2 p (.lst [V.str "path", .str d.shown])) := by
    intro no p np
    refine q _ _ (s12.trans (same_new np _)) ?_
    rw [told_none no]
    exact .lst (SqL.of upd_same) (.cons (.str _) (.cons (.str _) .nil))
  cases hs : isStrD d with
  | false =>
    have no : pathTo t d = none := by cases d <;> first | rfl | exact absurd hs (by simp [isStrD])
    exact iteT (iteT ⟨_, rfl, v', D, d, rfl, hd2, hg, hw, hdp, (by show 2 ≤ sizeLine; decide), fun p np => out no p np⟩)
  | true =>
    refine iteF ?_
    obtain ⟨x, rfl⟩ := isStr_of hs
    cases hd
    refine ⟨_, rfl, _, rfl, na, _, rfl, .inl (SqL.of eN), rfl, flat_strs _, _, rfl, ?_⟩
    show if (!inV (.str x) ((L.map (·.1)).map V.str)) = true then _ else _
    rw [inV_strs]
    by_cases hin : x ∈ L.map (·.1)
    · rw [decide_eq_true hin]
      refine iteF ?_
      obtain ⟨j, hj, hno⟩ := first_at x _ hin
      obtain ⟨⟨x', o⟩, hLj, e⟩ : ∃ it, L[j]? = some it ∧ it.1 = x := by
        rw [List.getElem?_map] at hj
        exact Option.map_eq_some_iff.mp hj
      cases e
      have ho : t.at x'.cps.toList = some o := PO.sound (x', o) (List.mem_of_getElem? hLj)
      obtain ⟨w', gw, a, vo, rfl, ea, hvo⟩ := its_get its hLj
      have hvo2 := hvo.same s2
      have ht2 := ht.same s12
      have hu2 := hu.same s12
      refine ⟨_, rfl, .ref na, rfl, .inl ⟨rfl, _, SqL.of eN⟩, _, rfl, na, _, .str x', j, .str x', rfl, rfl, SqL.of eN, rfl, flat_strs _, ?_, ?_, ?_, ?_⟩
      · rw [List.getElem?_map, hj]
        rfl
      · simp [eqV]
      · intro m z hm hz
        rw [List.getElem?_map] at hz
        obtain ⟨y, hy, rfl⟩ := Option.map_eq_some_iff.mp hz
        have := hno m y hm hy
        simpa [eqV] using this
      refine ⟨ka, _, _, .ref a, rfl, rfl, SqL.of (s2 _ _ ek), atI_nat gw, a, _, 1, vo, rfl, rfl, SqT.of (s2 _ _ ea), atI_nat (j := 1) rfl, ?_⟩
      obtain ⟨osz, _⟩ := t.at_size o _ ho
      have td := t.deep_le
      have ud := u.deep_le
      have od := o.deep_le
      cases b with
      | true =>
        refine ⟨_, rfl, rfl, _, rfl, iteT ⟨_, rfl, (by show 2 ≤ sizeLine; decide), fun p np => ?_⟩⟩
        have s3 := same_new np (.lst [V.str "told", vo])
        refine q _ _ (s12.trans s3) ?_
        rw [told_at (show pathTo t (.str x') = some o from ho)]
        exact .lst (SqL.of upd_same) (.cons (.str _) (.cons (hvo2.same s3).dp .nil))
      | false =>
        refine ⟨_, rfl, rfl, _, rfl, iteF ?_⟩
        refine ⟨_, rfl, v, t, rfl, ht2, tlet, by omega, fun H3 s3 => ⟨_, rfl, vo, o, rfl, hvo2.same s3, t.at_let o _ tlet ho, by omega, fun H4 s4 => ⟨_, _, rfl, rfl, _, rfl, vp, u, rfl, hu2.same (s3.trans s4), ulet, by omega, fun H5 s5 => ?_⟩⟩⟩
        have s35 := s3.trans (s4.trans s5)
        refine ⟨_, _, rfl, rfl, _, _, rfl, rfl, _, rfl, ite2 (fun c => ?_) (fun c => ?_)⟩
        · have c' : (t.size : Int) - (o.size : Int) + (u.size : Int) > 12 := of_decide_eq_true c
          refine ⟨(by show 2 ≤ sizeLine; decide), fun p np => ?_⟩
          refine q _ _ ((s12.trans s35).trans (same_new np _)) ?_
          rw [told_big (show pathTo t (.str x') = some o from ho) (by omega)]
          exact .lst (SqL.of upd_same) (.cons (.str _) (.cons (.int _) .nil))
        · have c' : ¬ (t.size : Int) - (o.size : Int) + (u.size : Int) > 12 := of_decide_eq_false (Bool.eq_false_iff.mpr c)
          refine ⟨_, rfl, _, rfl, _, rfl, v, vp, t, u, o, x', rfl, ht2.same s35, hu2.same s35, ho, ts, fun H6 vq s6 aq => ⟨(by show 2 ≤ sizeLine; decide), fun p np => ?_⟩⟩
          have s7 := same_new np (.lst [V.str "told", vq])
          refine q _ _ ((s12.trans s35).trans (s6.trans s7)) ?_
          rw [told_put (show pathTo t (.str x') = some o from ho) (by omega)]
          exact .lst (SqL.of upd_same) (.cons (.str _) (.cons (aq.same s7).dp .nil))
    · rw [decide_eq_false hin]
      have no : pathTo t (.str x) = none := by
        cases e : pathTo t (.str x) with
        | none => rfl
        | some o =>
          obtain ⟨p, hp, ep⟩ := PO.full _ o (show t.at x.cps.toList = some o from e)
          exact absurd (List.mem_map.mpr ⟨(p, o), hp, str_ext ep⟩) hin
      exact iteT ⟨_, rfl, _, D, _, rfl, .str x, hg, hw, hdp, (by show 2 ≤ sizeLine; decide), fun p np => out no p np⟩
end
/-! ### a text, some times -/
def timesS (x : Str) (n : Nat) : Str := ⟨(List.replicate n x.cps).foldl (· ++ ·) #[]⟩
theorem fold_app : ∀ (n : Nat) (a acc : Array Nat), ((List.replicate n a).foldl (· ++ ·) acc).size = acc.size + a.size * n
  | 0, a, acc => by
    show acc.size = _
    omega
  | n + 1, a, acc => by
    show ((List.replicate n a).foldl (· ++ ·) (acc ++ a)).size = _
    rw [fold_app n a (acc ++ a), Array.size_append, Nat.mul_succ]
    omega
theorem times_len (x : Str) (n : Nat) : (timesS x n).length = x.length * n := by
  show ((List.replicate n x.cps).foldl (· ++ ·) #[]).size = _
  rw [fold_app]
  exact Nat.zero_add _
theorem op_timesS {X : Cx} : OpR X (binaryOp .Mult) (fun x y H Q => ∃ (i : Str) (k : Nat), x = .str i ∧ y = .int (k : Int) ∧ i.length = 1 ∧ 2 ≤ k ∧ k ≤ 1000 ∧ Q (.str (timesS i k)) H) := by
  intro pins s σ H x y v u Q I rx ry h
  obtain ⟨i, k, rfl, rfl, h1, h2, h3, q⟩ := h
  obtain ⟨t, rfl⟩ := rx
  obtain ⟨t', rfl⟩ := ry
  have big : (2 ^ 63 : Int) = 9223372036854775808 := by decide
  refine PySem.P.mul_str ?_ ?_ ?_ ?_
  · rw [big, decide_eq_false (by omega), decide_eq_false (by omega)]
    rfl
  · intro _ _
    rw [h1, big]
    have : (1 : Int) ≤ (9223372036854775808 - 1) / (k : Int) := by
      rw [Int.le_ediv_iff_mul_le (by omega)]
      omega
    omega
  · intro _ _
    rw [h1, Nat.one_mul, Int.toNat_natCast]
    have : k ≤ sizeLine := Nat.le_trans h3 (by decide)
    show decide (k > sizeLine) = false
    exact decide_eq_false (by omega)
  · rw [if_neg (by omega), if_neg (by rw [h1]; simp; omega), Int.toNat_natCast]
    exact ⟨by show (timesS i k).length ≤ sizeLine; rw [times_len, h1]; exact Nat.le_trans (by omega : 1 * k ≤ 1000) (by decide), ⟨.str (timesS i k), H, I.tok _, ⟨_, rfl⟩, q⟩⟩
/-! ### what is told is narrow, and not deep -/
theorem T.nar_data : ∀ t : T, nar t.data = true
  | .nil => by simp only [T.data, nar]
  | .node l x r => by
    simp only [T.data, nar, narAll, l.nar_data, r.nar_data, Bool.and_self, Bool.and_true, List.length_cons, List.length_nil]
    rfl
theorem T.data_deep : ∀ t : T, t.data.depth = t.deep
  | .nil => by simp only [T.data, PyData.depth, T.deep]
  | .node l x r => by
    simp only [T.data, PyData.depth, PyData.depthAll, T.deep, l.data_deep, r.data_deep]
    omega
theorem T.put_size : ∀ (t o u : T) (cs : List Nat), t.at cs = some o → (t.put cs u).size + o.size = t.size + u.size
  | t, o, u, [], h => by
    rw [t.at_nil] at h
    cases h
    rw [T.put_nil]
    omega
  | .nil, _, _, _ :: _, h => by cases h
  | .node l x r, o, u, c :: cs, h => by
    obtain ⟨l', x', r', e, alt⟩ := T.at_cons h
    cases e
    show (if c = 108 then T.node (l.put cs u) x r else T.node l x (r.put cs u)).size + o.size = l.size + 1 + r.size + u.size
    rcases alt with ⟨rfl, z⟩ | ⟨rfl, z⟩
    · rw [if_pos rfl]
      have := l.put_size o u cs z
      show (l.put cs u).size + 1 + r.size + o.size = _
      omega
    · rw [if_neg (by decide)]
      have := r.put_size o u cs z
      show l.size + 1 + (r.put cs u).size + o.size = _
      omega
theorem told_ok (b : Bool) (t : T) (d : PyData) (u : T) (ht : t.size ≤ 12) : (told b t d u).depth ≤ 14 ∧ nar (told b t d u) = true := by
  have one : ∀ (x : Str) (e : PyData), e.depth ≤ 12 → nar e = true → (PyData.list [.str x, e]).depth ≤ 14 ∧ nar (PyData.list [.str x, e]) = true := by
    intro x e h1 h2
    refine ⟨?_, ?_⟩
    · simp only [PyData.depth, PyData.depthAll]
      omega
    · simp only [nar, narAll, h2, Bool.and_true, List.length_cons, List.length_nil]
      rfl
  have tree : ∀ (x : Str) (o : T), o.size ≤ 12 → (PyData.list [.str x, o.data]).depth ≤ 14 ∧ nar (PyData.list [.str x, o.data]) = true := by
    intro x o h
    have := o.deep_le
    exact one x _ (by rw [o.data_deep]; omega) o.nar_data
  cases e : pathTo t d with
  | none =>
    rw [told_none e]
    exact one _ _ (by simp only [PyData.depth]; omega) (by simp only [nar])
  | some o =>
    obtain ⟨x, rfl⟩ : ∃ x, d = .str x := by
      cases d <;> first | exact ⟨_, rfl⟩ | cases e
    have e' : t.at x.cps.toList = some o := e
    obtain ⟨h1, _⟩ := t.at_size o _ e'
    cases b with
    | true =>
      rw [told_at e]
      exact tree _ _ (by omega)
    | false =>
      by_cases g : t.size - o.size + u.size > 12
      · rw [told_big e g]
        exact one _ _ (by simp only [PyData.depth]; omega) (by simp only [nar])
      · rw [told_put e g]
        have := t.put_size o u _ e'
        exact tree _ _ (by omega)
/-! ### law -/
theorem scLaw : FnScope ["_law_script", "_law_deck_here", "_law_turn", "_law_tree_here", "_law_other", "_law_values", "_law_far", "_law_path", "_law_kept", "_law_drawn", "_law_door", "_law_part", "_law_due_here", "_law_found"] ["_law_script"] (defScope sLaw) := ⟨rfl, rfl, rfl, by decide +kernel, rfl, by decide +kernel, by decide +kernel⟩
structure At (P : Program) (w : World) (K : PySem.W.Frag) (mg : Str → Option Value) (base : Heap) (k : Nat) (x : Str) (ps : List Str) (sp : Sp) : Prop where
  ex : ∃ (f : Addr) (fd : FuncData), FnOk P w K mg base CX0 k f fd ps sp ∧ Binds K fd ps [] ∧ PySem.W.keepIn K (.ref f) = true ∧ mg x = some (.ref f)
structure AtG (P : Program) (w : World) (K : PySem.W.Frag) (mg : Str → Option Value) (base : Heap) (k : Nat) (x : Str) (ps : List Str) (sp : Sp) : Prop where
  ex : ∃ (f : Addr) (fd : FuncData), FnOkG P w K mg base k f fd ps sp ∧ Binds K fd ps [] ∧ PySem.W.keepIn K (.ref f) = true ∧ mg x = some (.ref f)
theorem gd_ltr {x : Str} (h : Ltr x) : gd (.str x) = true := by
  obtain ⟨c, h1, h2, rfl⟩ := h
  simp only [gd, Bool.and_eq_true, decide_eq_true_eq]
  refine ⟨by show 1 ≤ 90; omega, ?_⟩
  show (decide (c < 128) && true) = true
  rw [Bool.and_true, decide_eq_true_eq]
  omega
theorem T.facts : ∀ t : T, t.let → gd t.data = true ∧ wt t.data ≤ 920 * t.size + 4 ∧ t.data.depth = t.deep
  | .nil, _ => by
    simp only [T.data, gd, wt, PyData.depth, T.deep, T.size]
    exact ⟨trivial, by omega, trivial⟩
  | .node l x r, h => by
    obtain ⟨h1, h2, h3⟩ := T.let_node h
    obtain ⟨a1, a2, a3⟩ := l.facts h1
    obtain ⟨b1, b2, b3⟩ := r.facts h3
    have c1 := gd_ltr h2
    refine ⟨?_, ?_, ?_⟩
    · simp only [T.data, gd, gds, a1, b1, Bool.and_true, Bool.true_and] at c1 ⊢
      exact c1
    · simp only [T.data, wt, wts, T.size]
      omega
    · simp only [T.data, PyData.depth, PyData.depthAll, T.deep, a3, b3]
      omega
theorem gd_L {d : PyData} (h : gd d = true) : gdL d := by
  rintro x rfl
  have := (gd_str h).1
  omega
/-- a path of a tree is a text that may be shown -/
theorem gd_path : ∀ (t u : T) (cs : List Nat), t.at cs = some u → ∀ c ∈ cs, c < 128
  | _, _, [], _, _, h => nomatch h
  | .nil, _, _ :: _, h, _, _ => by cases h
  | .node l x r, u, c :: cs, h, c', hc => by
    obtain ⟨l', x', r', e, ⟨rfl, z⟩ | ⟨rfl, z⟩⟩ := T.at_cons h
    · cases e
      rcases List.mem_cons.mp hc with rfl | y
      · decide
      · exact gd_path l u cs z c' y
    · cases e
      rcases List.mem_cons.mp hc with rfl | y
      · decide
      · exact gd_path r u cs z c' y
theorem gd_of {x : Str} (h : x.length ≤ 90) (hc : ∀ c ∈ x.cps.toList, c < 128) : gd (.str x) = true := by
  simp only [gd, Bool.and_eq_true, decide_eq_true_eq, List.all_eq_true]
  exact ⟨h, hc⟩
theorem str_len (x : Str) : x.length = x.cps.toList.length := by
  show x.cps.size = _
  rw [Array.length_toList]
theorem gd_plus {x y : Str} (h : x.length ≤ 51) (hx : ∀ c ∈ x.cps.toList, c < 128) (hy : y.length ≤ 39) (hy' : ∀ c ∈ y.cps.toList, c < 128) : gd (.str (x ++ y)) = true := by
  refine gd_of ?_ fun c hc => ?_
  · rw [str_len, str_app, List.length_append, ← str_len, ← str_len]
    omega
  · rw [str_app] at hc
    rcases List.mem_append.mp hc with z | z
    · exact hx c z
    · exact hy' c z
def AllV (D : Deck) (H : Hp) (vs : List V) : Prop := ∀ v ∈ vs, Gd D H 5000 2 v
theorem AllV.sameD {D : Deck} {H H' : Hp} {vs : List V} (s : SameD D H H') (h : AllV D H vs) : AllV D H' vs := fun v hv => (h v hv).sameD s
theorem AllV.app {D : Deck} {H : Hp} {a b : List V} (h : AllV D H a) (h' : AllV D H b) : AllV D H (a ++ b) := fun v hv => (List.mem_append.mp hv).elim (h v) (h' v)
theorem AllV.nil {D : Deck} {H : Hp} : AllV D H [] := fun _ hv => nomatch hv
theorem AllV.cons {D : Deck} {H : Hp} {v : V} {vs : List V} (h : Gd D H 5000 2 v) (t : AllV D H vs) : AllV D H (v :: vs) := fun x hx => by
  rcases List.mem_cons.mp hx with rfl | z
  · exact h
  · exact t x z
theorem gd_s {x : Str} (h : gd (.str x) = true) {D : Deck} {H : Hp} : Gd D H 5000 2 (.str x) := ⟨.str x, .str x, h, by simp only [wt]; omega, by simp only [PyData.depth]; omega⟩
theorem gd_v {v : V} {d : PyData} {D : Deck} {H : Hp} (h : DQ D H v d) (hg : (gd d && decide (wt d ≤ 5000) && decide (d.depth ≤ 2)) = true) : Gd D H 5000 2 v := by
  simp only [Bool.and_eq_true, decide_eq_true_eq] at hg
  exact ⟨d, h, hg.1.1, hg.1.2, hg.2⟩
theorem AllV.strs {D : Deck} {H : Hp} {xs : List Str} (h : ∀ x ∈ xs, gd (.str x) = true) : AllV D H (xs.map V.str) := by
  intro v hv
  obtain ⟨x, hx, rfl⟩ := List.mem_map.mp hv
  exact gd_s (h x hx)
/-- what the inner loop asks of the three values: trees, the path, the part that is put -/
theorem shown3 {t o : T} {d : PyData} (ht : t.let) (ho : o.let) (hd : gd d = true) (hw : wt d ≤ 5000) (hp : d.depth ≤ 2) (t1 : t.size ≤ 12) (o1 : o.size ≤ 12) :
    gd (.list [t.data, d, o.data]) = true ∧ wt (.list [t.data, d, o.data]) ≤ 1000000 ∧ (PyData.list [t.data, d, o.data]).depth ≤ 60 := by
  obtain ⟨a1, a2, a3⟩ := t.facts ht
  obtain ⟨b1, b2, b3⟩ := o.facts ho
  have td := t.deep_le
  have od := o.deep_le
  refine ⟨?_, ?_, ?_⟩
  · simp only [gd, gds, a1, b1, hd, Bool.and_true]
  · simp only [wt, wts]
    omega
  · simp only [PyData.depth, PyData.depthAll, a3, b3]
    omega
section
variable {P : Program} {w : World} {K : PySem.W.Frag} {mg : Str → Option Value} {base : Heap} {f : Addr} {fd : FuncData}
theorem run_law {s : Shared} {H : Hp} {a : Addr} {ns : List Int} (F : Fun K "law" "law" sLaw f fd) (bd : BindsTo s fd ⟨[.ref a], []⟩ [("_law_script", .ref a)]) (en : Env0 P w K mg base callerA [] s H) (hS : SqL K H a (ns.map V.int))
    (M : Mgs mg) (mrepr : mg "repr" = none)
    (ADeck : At P w K mg base 1 "_law_deck" ["_law_script"] (spDeck K)) (ANext : At P w K mg base 1 "_law_next" ["_law_deck_here", "_law_many"] spNext) (ASame : At P w K mg base 20 "_law_same" ["_law_found", "_law_due_here"] (spSame K 20)) (ATree : At P w K mg base 29 "_law_tree" ["_law_deck_here", "_law_limit"] spTree)
    (AOdd : At P w K mg base 2 "_law_odd" ["_law_deck_here"] spOdd) (APaths : At P w K mg base 1 "_law_paths" ["_law_tree_here"] spPaths) (ATold : AtG P w K mg base 62 "_law_told" ["_law_door", "_law_tree_here", "_law_path", "_law_part"] (spTold K)) (ADue : AtG P w K mg base 61 "_law_due" ["_law_door", "_law_tree_here", "_law_path", "_law_part"] (spDue K)) :
    codeAny (model P w) callerA (.call (.ref f) ⟨[.ref a], []⟩) (CR CX0 [] P w H s (fun v _ => v = .bl true) fun _ _ _ => False) s := by
  obtain ⟨f1, fd1, G1, b1, k1, g1⟩ := ADeck.ex
  obtain ⟨f2, fd2, G2, b2, k2, g2⟩ := ASame.ex
  obtain ⟨f3, fd3, G3, b3, k3, g3⟩ := ATree.ex
  obtain ⟨f4, fd4, G4, b4, k4, g4⟩ := ANext.ex
  obtain ⟨f5, fd5, G5, b5, k5, g5⟩ := AOdd.ex
  obtain ⟨f6, fd6, G6, b6, k6, g6⟩ := APaths.ex
  obtain ⟨f7, fd7, G7, b7, k7, g7⟩ := ATold.ex
  obtain ⟨f8, fd8, G8, b8, k8, g8⟩ := ADue.ex
  refine enter_def (k := 62) (vs := [.ref a]) (us := [.ref a]) F scLaw ⟨rfl, by decide, by decide⟩ en bd (.cons rfl .nil) rfl fun cdv hr => ?_
  have r1 := hr.mono (show 1 ≤ 62 by decide)
  have r2 := hr.mono (show 2 ≤ 62 by decide)
  have r20 := hr.mono (show 20 ≤ 62 by decide)
  have r29 := hr.mono (show 29 ≤ 62 by decide)
  have r61 := hr.mono (show 61 ≤ 62 by decide)
  have hu := hr.units
  have hin : ["_law_script", "_law_deck_here", "_law_turn", "_law_tree_here", "_law_other", "_law_values", "_law_far", "_law_path", "_law_kept", "_law_drawn", "_law_door", "_law_part", "_law_due_here", "_law_found"].length = 14 := rfl
  refine ⟨_, pss_cons (ps_set (i := 1) scLaw.nd rfl (.inl rfl) (pe_call G1 r1 rfl g1 k1 b1 .nil pass0 (pa_cons (pv 0) pa_nil)))
    (pss_cons (ps_for PassesOwn.never rfl (pi_range1 rfl M.range (pa_cons pe_int pa_nil)) (pg_name (i := 2) scLaw.nd rfl (.inl rfl))
      (pss_cons (ps_par (i := 3) (j := 4) (by rfl) scLaw.nd rfl rfl (by decide) rfl rfl (pa_cons (pe_call G3 r29 rfl g3 k3 b3 .nil pass0 (pa_cons (pv 1) (pa_cons (pe_ix ix_list (pe_lst (pa_cons pe_int (pa_cons pe_int (pa_cons pe_int (pa_cons pe_int pa_nil))))) (pv 2) (fun _ _ => rfl)) pa_nil)))
        (pa_cons (pe_call G3 r29 rfl g3 k3 b3 .nil pass0 (pa_cons (pv 1) (pa_cons pe_int pa_nil))) pa_nil)) (by rfl))
      (pss_cons (ps_setLc (i := 5) (own := [("_law_path", 7), ("_law_part", 11)]) (g := gTup K 2 (gCons (gName 7) (gCons (gName 11) gNil))) (tt := tYes) (by rfl) scLaw.nd rfl rfl (sw_true rfl rfl rfl (by decide +kernel)) (pi_list (pe_call G6 r1 rfl g6 k6 b6 .nil pass0 (pa_cons (pv 3) pa_nil)))
        (blkOk_by (N := ["_law_script", "_law_deck_here", "_law_turn", "_law_tree_here", "_law_other", "_law_values", "_law_far", "_law_path", "_law_kept", "_law_drawn", "_law_door", "_law_part", "_law_due_here", "_law_found"]) (sc := defScope sLaw) (by decide +kernel))
        (fun _ _ _ _ _ => pg_tup rfl (pgs_cons (pg_name (i := 7) scLaw.nd rfl (Or.inl rfl)) (pgs_cons (pg_name (i := 11) scLaw.nd rfl (Or.inl rfl)) pgs_nil))) (fun _ _ _ _ _ => pts_nil) (fun _ _ _ _ _ => pv 7))
      (pss_cons (ps_set (i := 6) scLaw.nd rfl (.inl rfl) (pe_ix ix_list (pv 5) (pe_call G4 r1 rfl g4 k4 b4 .nil pass0 (pa_cons (pv 1) (pa_cons (pe_callB call_len_seq rfl M.len PySem.boot_len (pa_cons (pv 5) pa_nil)) pa_nil))) (fun _ _ => rfl)))
      (pss_cons (ps_set (i := 5) scLaw.nd rfl (.inl rfl) (pe_op op_cat (pv 5) (pe_lst (pa_cons (pe_op op_add_str (pv 6) pe_str) (pa_cons (pe_op op_add_str (pv 6) pe_str) (pa_cons (pe_op op_add_str (pv 6) pe_str) (pa_cons (pe_op op_add_str (pv 6) pe_str) (pa_cons (pe_op op_add_str (pv 6) pe_str)
        (pa_cons (pe_op op_add_str (pv 6) (pe_op op_timesS pe_str pe_int)) (pa_cons (pe_op op_timesS pe_str pe_int) pa_nil))))))))))
      (pss_cons (ps_set (i := 5) scLaw.nd rfl (.inl rfl) (pe_op op_cat (pv 5) (pe_lst (pa_cons (pe_lst (pa_cons pe_str pa_nil)) (pa_cons (pe_tup (pa_cons pe_str pa_nil)) (pa_cons pe_non (pa_cons pe_bl (pa_cons pe_int (pa_cons (pe_call G5 r2 rfl g5 k5 b5 .nil pass0 (pa_cons (pv 1) pa_nil)) (pa_cons (pe_call G5 r2 rfl g5 k5 b5 .nil pass0 (pa_cons (pv 1) pa_nil)) pa_nil))))))))))
      (pss_one (ps_for PassesOwn.never rfl (pi_list (pv 5)) (pg_name (i := 7) scLaw.nd rfl (.inl rfl))
        (pss_cons (ps_par (i := 8) (j := 9) (by rfl) scLaw.nd rfl rfl (by decide) rfl rfl (pa_cons (pe_callB (call_reprQ rfl hu) rfl mrepr (by decide +kernel) (pa_cons (pe_lst (pa_cons (pv 3) (pa_cons (pv 7) (pa_cons (pv 4) pa_nil)))) pa_nil))
          (pa_cons (pe_ix ix_list (pe_lst (pa_cons (pe_tup (pa_cons pe_non (pa_cons pe_str (pa_cons pe_non pa_nil)))) (pa_cons (pv 3) (pa_cons (pv 4) pa_nil)))) (pe_call G4 r1 rfl g4 k4 b4 .nil pass0 (pa_cons (pv 1) (pa_cons pe_int pa_nil))) (fun _ _ => rfl)) pa_nil)) (by rfl))
        (pss_one (ps_for PassesOwn.never rfl (pi_list (pe_lst (pa_cons (pe_tup (pa_cons pe_int (pa_cons pe_non pa_nil))) (pa_cons (pe_tup (pa_cons pe_int (pa_cons pe_non pa_nil))) (pa_cons (pe_tup (pa_cons pe_int (pa_cons (pv 9) pa_nil))) pa_nil))))) (pg_tup rfl (pgs_cons (pg_name (i := 10) scLaw.nd rfl (.inl rfl)) (pgs_cons (pg_name (i := 11) scLaw.nd rfl (.inl rfl)) pgs_nil)))
          (pss_cons (ps_set (i := 12) scLaw.nd rfl (.inl rfl) (pe_callG G8 rfl r61 rfl g8 k8 b8 (pa_cons (pv 10) (pa_cons (pv 3) (pa_cons (pv 7) (pa_cons (pv 11) pa_nil))))))
          (pss_cons (ps_set (i := 13) scLaw.nd rfl (.inl rfl) (pe_lst (pa_cons (pe_callG G7 rfl hr rfl g7 k7 b7 (pa_cons (pv 10) (pa_cons (pv 3) (pa_cons (pv 7) (pa_cons (pv 11) pa_nil))))) (pa_cons (pe_callG G7 rfl hr rfl g7 k7 b7 (pa_cons (pv 10) (pa_cons (pv 3) (pa_cons (pv 7) (pa_cons (pv 11) pa_nil))))) pa_nil))))
          (pss_one (ps_if (PW.pt (pw_or (pt_not (pt_val (pe_call G2 r20 rfl g2 k2 b2 .nil pass0 (pa_cons (pv 13) (pa_cons (pe_lst (pa_cons (pv 12) (pa_cons (pv 12) pa_nil))) pa_nil)))))
            (pw_or1 (pt_cmpR op_ne (pe_callB (call_reprQ rfl hu) rfl mrepr (by decide +kernel) (pa_cons (pe_lst (pa_cons (pv 3) (pa_cons (pv 7) (pa_cons (pv 4) pa_nil)))) pa_nil)) (pv 8) (nomark _))))) (pss_one (ps_ret pe_bl)) pss_nil)))))))))))))))
    (pss_one (ps_ret pe_bl))), ?_⟩
  refine ⟨_, rfl, a, ns, rfl, hS, fun D H1 d1 s1 => ?_⟩
  refine ⟨4, rfl, by decide, by decide, ?_⟩
  refine for_range (lo := 0) (n := 4) (fun i σ H' => ∃ (y2 y3 y4 y5 y6 y7 y8 y9 y10 y11 y12 y13 : Option V) (c : Nat), σ = [some (.ref a), some (.ref D.dk), y2, y3, y4, y5, y6, y7, y8, y9, y10, y11, y12, y13] ∧ DeckOk H' D c ∧ c ≤ 1000 * i)
    ⟨none, none, none, none, none, none, none, none, none, none, none, none, 0, rfl, d1, by omega⟩ (fun i σ H' hi hp => ?_) (fun σ H' hp => ?_)
  · obtain ⟨y2, y3, y4, y5, y6, y7, y8, y9, y10, y11, y12, y13, c, rfl, d, hc⟩ := hp
    refine ⟨_, rfl, (by show 4 ≤ sizeLine; decide), fun pl npl => ?_⟩
    have q1 := same_new npl (.lst [V.int 12, V.int 12, V.int 4, V.int 2])
    have e1 := d.same q1
    obtain ⟨lim, hlim, l1, l2⟩ : ∃ lim : Nat, atI [V.int 12, V.int 12, V.int 4, V.int 2] ((0 : Int) + (i : Nat)) = some (.int (lim : Int)) ∧ 1 ≤ lim ∧ lim ≤ 12 := by
      have : i = 0 ∨ i = 1 ∨ i = 2 ∨ i = 3 := by omega
      rcases this with rfl | rfl | rfl | rfl
      · exact ⟨12, by decide, by omega, by omega⟩
      · exact ⟨12, by decide, by omega, by omega⟩
      · exact ⟨4, by decide, by omega, by omega⟩
      · exact ⟨2, by decide, by omega, by omega⟩
    refine ⟨_, rfl, pl, _, _, .int (lim : Int), rfl, rfl, SqL.of upd_same, hlim, ?_⟩
    refine ⟨D, c, lim, rfl, e1, by omega, l1, by omega, fun v t c1 H2 d2 hc1 s2 at2 t0 t1 tl => ?_⟩
    refine ⟨_, rfl, D, c1, 12, rfl, d2, by omega, by omega, by omega, fun vo o c2 H3 d3 hc2 s3 at3 o0 o1 ol => ⟨_, _, rfl, ?_⟩⟩
    have tl' : t.let := tl
    have ol' : o.let := ol
    have at2' : TreeAt H3 v t := at2.keep (s3.keepT d2)
    refine ⟨_, rfl, v, t, rfl, at2', by omega, fun H4 ka ws L s4 nka ek its PO hL => ?_⟩
    refine ⟨ka, rfl, ⟨_, SqL.of ek⟩, fun na nna => ?_⟩
    have hwl := its_len its
    refine lc_list (K := K) (a := ka) (xs := ws) (fun j H' => Same H4 H' ∧ H' na = some (.lst (((L.take j).map (·.1)).map V.str))) ⟨same_new nna _, upd_same⟩ (fun j H' _ hp => SqL.of (hp.1 _ _ ek)) (fun j y H' hy hp => ?_) (fun H5 hp => ?_)
    · obtain ⟨sm, eN⟩ := hp
      obtain ⟨it, hit, b, vu, rfl, ea, _⟩ := its_getV its hy
      have hj : j < L.length := (List.getElem?_eq_some_iff.mp hit).1
      refine ⟨b, _, rfl, SqT.of (sm _ _ ea), rfl, .str it.1, _, rfl, vu, _, rfl, rfl, rfl, kept ?_⟩
      refine ⟨_, rfl, _, eN, ?_, fun e o z => ?_, ?_⟩
      · rw [List.length_map, List.length_map, List.length_take]
        exact small1000 (by omega)
      · rw [upd_ne (ne_of_none z nna)]
        exact sm _ _ z
      · rw [upd_same, List.take_add_one, hit, List.map_append, List.map_append]
        rfl
    obtain ⟨s5, eN⟩ := hp
    rw [hwl, List.take_length] at eN
    have d5 := d3.same (s4.trans s5)
    have lenN : ((L.map (·.1)).map V.str).length = 2 * t.size + 1 := by rw [List.length_map, List.length_map]; exact hL
    refine ⟨_, rfl, _, rfl, _, rfl, na, _, rfl, .inl (SqL.of eN), D, c2, _, rfl, d5, by omega, by rw [lenN]; omega, by rw [lenN]; omega, fun k H6 k0 k1 d6 s6 => ?_⟩
    have d4 := d3.same s4
    have on := d4.new nna
    have eN6 := s6.at on eN
    rw [lenN] at k1
    have hk : k.toNat < (L.map (·.1)).length := by rw [List.length_map]; omega
    obtain ⟨far, hfar⟩ : ∃ far, (L.map (·.1))[k.toNat]? = some far := ⟨_, List.getElem?_eq_getElem hk⟩
    have ek' : k = ((k.toNat : Nat) : Int) := by omega
    have farOk : far.length ≤ 51 ∧ ∀ c ∈ far.cps.toList, c < 128 := by
      obtain ⟨it, hit, rfl⟩ := List.mem_map.mp (List.mem_of_getElem? hfar)
      have z := PO.sound it hit
      obtain ⟨_, z2⟩ := t.at_size _ _ z
      refine ⟨by rw [str_len]; omega, gd_path t _ _ z⟩
    have namesOk : ∀ x ∈ L.map (·.1), gd (.str x) = true := by
      intro x hx
      obtain ⟨it, hit, rfl⟩ := List.mem_map.mp hx
      have z := PO.sound it hit
      obtain ⟨_, z2⟩ := t.at_size _ _ z
      exact gd_of (by rw [str_len]; omega) (gd_path t _ _ z)
    refine ⟨na, _, _, .str far, rfl, rfl, SqL.of eN6, by rw [ek']; exact atI_nat (by rw [List.getElem?_map, hfar]; rfl), ?_⟩
    have fz : ∀ n : Nat, n ≤ 39 → far.length + n ≤ sizeLine := fun n hn => Nat.le_trans (by omega : far.length + n ≤ 1000) (by decide)
    refine ⟨_, rfl, _, rfl, far, _, rfl, rfl, fz 1 (by decide), _, rfl, far, _, rfl, rfl, fz 2 (by decide), _, rfl, far, _, rfl, rfl, fz 1 (by decide), _, rfl, far, _, rfl, rfl, fz 1 (by decide), _, rfl, far, _, rfl, rfl, fz 1 (by decide),
      _, rfl, Str.ofString "r", 13, rfl, rfl, rfl, by decide, by decide, far, _, rfl, rfl, fz 13 (by decide), Str.ofString "l", 60, rfl, rfl, rfl, by decide, by decide, (by show 7 ≤ sizeLine; decide), fun p1 n1 => ?_⟩
    have q7 := same_new n1 (.lst [V.str (far ++ Str.ofString "l"), .str (far ++ Str.ofString "lr"), .str (far ++ Str.ofString "x"), .str (far ++ Str.ofString "L"), .str (far ++ Str.ofString " "), .str (far ++ timesS (Str.ofString "r") 13), .str (timesS (Str.ofString "l") 60)])
    refine ⟨na, p1, _, _, rfl, rfl, q7 _ _ eN6, upd_same, ?_, fun p2 n2 => ?_⟩
    · rw [lenN]
      exact small (by show 2 * t.size + 1 + 7 ≤ 1000; omega)
    have q8 := same_new n2 (.lst ((L.map (·.1)).map V.str ++ [V.str (far ++ Str.ofString "l"), .str (far ++ Str.ofString "lr"), .str (far ++ Str.ofString "x"), .str (far ++ Str.ofString "L"), .str (far ++ Str.ofString " "), .str (far ++ timesS (Str.ofString "r") 13), .str (timesS (Str.ofString "l") 60)]))
    have d7 := (d6.same q7).same q8
    have o2 := (d6.same q7).new n2
    have all1 : ∀ X : Hp, AllV D X ((L.map (·.1)).map V.str ++ [V.str (far ++ Str.ofString "l"), .str (far ++ Str.ofString "lr"), .str (far ++ Str.ofString "x"), .str (far ++ Str.ofString "L"), .str (far ++ Str.ofString " "), .str (far ++ timesS (Str.ofString "r") 13), .str (timesS (Str.ofString "l") 60)]) := by
      intro X
      have pl : ∀ y : Str, y.length ≤ 39 → (∀ c ∈ y.cps.toList, c < 128) → Gd D X 5000 2 (.str (far ++ y)) := fun y h1 h2 => gd_s (gd_plus farOk.1 farOk.2 h1 h2)
      refine (AllV.strs namesOk).app (.cons (pl _ (by decide +kernel) (by decide +kernel)) (.cons (pl _ (by decide +kernel) (by decide +kernel)) (.cons (pl _ (by decide +kernel) (by decide +kernel)) (.cons (pl _ (by decide +kernel) (by decide +kernel)) (.cons (pl _ (by decide +kernel) (by decide +kernel)) (.cons (pl _ (by decide +kernel) (by decide +kernel)) (.cons (gd_s (by decide +kernel)) .nil)))))))
    have len1 : ((L.map (·.1)).map V.str ++ [V.str (far ++ Str.ofString "l"), .str (far ++ Str.ofString "lr"), .str (far ++ Str.ofString "x"), .str (far ++ Str.ofString "L"), .str (far ++ Str.ofString " "), .str (far ++ timesS (Str.ofString "r") 13), .str (timesS (Str.ofString "l") 60)]).length = 2 * t.size + 8 := by
      rw [List.length_append, lenN]
      rfl
    have ev1 := upd_same (H := upd H6 p1 (.lst [V.str (far ++ Str.ofString "l"), .str (far ++ Str.ofString "lr"), .str (far ++ Str.ofString "x"), .str (far ++ Str.ofString "L"), .str (far ++ Str.ofString " "), .str (far ++ timesS (Str.ofString "r") 13), .str (timesS (Str.ofString "l") 60)])) (a := p2) (o := HO.lst ((L.map (·.1)).map V.str ++ [V.str (far ++ Str.ofString "l"), .str (far ++ Str.ofString "lr"), .str (far ++ Str.ofString "x"), .str (far ++ Str.ofString "L"), .str (far ++ Str.ofString " "), .str (far ++ timesS (Str.ofString "r") 13), .str (timesS (Str.ofString "l") 60)]))
    have s37 : SameD D H3 _ := ((SameD.of (s4.trans s5)).trans s6).trans (SameD.of (q7.trans q8))
    generalize (L.map (·.1)).map V.str ++ [V.str (far ++ Str.ofString "l"), .str (far ++ Str.ofString "lr"), .str (far ++ Str.ofString "x"), .str (far ++ Str.ofString "L"), .str (far ++ Str.ofString " "), .str (far ++ timesS (Str.ofString "r") 13), .str (timesS (Str.ofString "l") 60)] = vs1 at *
    generalize upd (upd H6 p1 _) p2 (.lst vs1) = H7 at *
    refine ⟨_, rfl, (by show 1 ≤ sizeLine; decide), fun x1 m1 => ⟨(by show 1 ≤ sizeLine; decide), fun x2 m2 => ?_⟩⟩
    have z1 := same_new m1 (.lst [V.str "l"])
    have f1 := d7.same z1
    have z2 := same_new m2 (.tup [V.str "l"])
    have f2 := f1.same z2
    have gx1 := gd_v (dq_same z2 (dq_newL d7 m1 (.cons (.str "l") .nil))) (by decide +kernel)
    have gx2 := gd_v (dq_newT f1 m2 (.cons (.str "l") .nil)) (by decide +kernel)
    refine ⟨_, rfl, D, _, rfl, f2, by omega, fun w1 H8 d8 s8 g1 => ⟨_, rfl, D, _, rfl, d8, by omega, fun w2 H9 d9 s9 g2 => ⟨(by show 7 ≤ sizeLine; decide), fun p3 n3 => ?_⟩⟩⟩
    have z3 := same_new n3 (.lst [.ref x1, .ref x2, .non, .bl true, .int 0, w1, w2])
    have s79 := (SameD.of (D := D) (z1.trans z2)).trans (s8.trans s9)
    have ev2 := s79.at o2 ev1
    refine ⟨p2, p3, _, _, rfl, rfl, z3 _ _ ev2, upd_same, ?_, fun va nva => ?_⟩
    · rw [len1]
      exact small (by show 2 * t.size + 8 + 7 ≤ 1000; omega)
    have z4 := same_new nva (.lst (vs1 ++ [.ref x1, .ref x2, .non, .bl true, .int 0, w1, w2]))
    have d10 := (d9.same z3).same z4
    have ov := (d9.same z3).new nva
    have s89 := s8.trans s9
    have s9v := SameD.of (D := D) (z3.trans z4)
    have allv : AllV D (upd (upd H9 p3 (.lst [.ref x1, .ref x2, .non, .bl true, .int 0, w1, w2])) va (.lst (vs1 ++ [.ref x1, .ref x2, .non, .bl true, .int 0, w1, w2]))) (vs1 ++ [.ref x1, .ref x2, .non, .bl true, .int 0, w1, w2]) := by
      refine (all1 _).app (.cons ((gx1.sameD s89).sameD s9v) (.cons ((gx2.sameD s89).sameD s9v) (.cons (gd_v (.non) (by decide +kernel)) (.cons (gd_v (.bl true) (by decide +kernel)) (.cons (gd_v (.int 0) (by decide +kernel)) (.cons ((g1.sameD s9).sameD s9v) (.cons (g2.sameD s9v) .nil)))))))
    have lenv : (vs1 ++ [.ref x1, .ref x2, .non, .bl true, .int 0, w1, w2]).length = 2 * t.size + 15 := by
      rw [List.length_append, len1]
      rfl
    have atT : TreeAt _ v t := at2'.keep ((s37.trans (s79.trans s9v)).keepT d3)
    have atO : TreeAt _ vo o := at3.keep ((s37.trans (s79.trans s9v)).keepT d3)
    have eva := upd_same (H := upd H9 p3 (.lst [.ref x1, .ref x2, .non, .bl true, .int 0, w1, w2])) (a := va) (o := HO.lst (vs1 ++ [.ref x1, .ref x2, .non, .bl true, .int 0, w1, w2]))
    generalize vs1 ++ [.ref x1, .ref x2, .non, .bl true, .int 0, w1, w2] = vs at *
    generalize upd (upd H9 p3 _) va (.lst vs) = HA at *
    refine ⟨_, rfl, va, rfl, ⟨_, SqL.of eva⟩, ?_⟩
    refine for_list (K := K) (a := va) (xs := vs) (fun i σ H' => ∃ (z2 z6 z7 z8 z9 z10 z11 z12 z13 : Option V) (c' : Nat), σ = [some (.ref a), some (.ref D.dk), z2, some v, some vo, some (.ref va), z6, z7, z8, z9, z10, z11, z12, z13] ∧ DeckOk H' D c' ∧ c' ≤ c2 + 3 + i ∧ SameD D HA H')
      ⟨_, _, _, _, _, _, _, _, _, _, rfl, d10, by omega, SameD.refl D HA⟩ (fun i H' _ _ hp => ?_) (fun i y σ H' hy hp => ?_) (fun σ H' hp => ?_)
    · obtain ⟨_, _, _, _, _, _, _, _, _, _, _, _, _, sA⟩ := hp
      exact SqL.of (sA.at ov eva)
    · obtain ⟨z2, z6, z7, z8, z9, z10, z11, z12, z13, c', rfl, d', hc', sA⟩ := hp
      obtain ⟨dy, g1, g2, g3, g4⟩ := (allv y (List.mem_of_getElem? hy)).sameD sA
      have aT := atT.keep (sA.keepT d10)
      have aO := atO.keep (sA.keepT d10)
      have hi' : i < vs.length := (List.getElem?_eq_some_iff.mp hy).1
      obtain ⟨k1, k2, k3⟩ := shown3 tl' ol' g2 g3 g4 (by omega) o1
      refine ⟨_, rfl, _, rfl, _, rfl, (by show 3 ≤ sizeLine; decide), fun l1 nl1 => ?_⟩
      have u1 := same_new nl1 (.lst [v, y, vo])
      have e1 := d'.same u1
      refine ⟨_, D, _, rfl, dq_newL d' nl1 (.cons (aT.dq d') (.cons g1 (.cons (aO.dq d') .nil))), k1, k2, k3, ?_⟩
      refine ⟨(by show 3 ≤ sizeLine; decide), fun l2 nl2 => ?_⟩
      have u2 := same_new nl2 (.tup [V.non, .str "x", .non])
      have e2 := e1.same u2
      refine ⟨_, rfl, _, rfl, (by show 3 ≤ sizeLine; decide), fun l3 nl3 => ?_⟩
      have u3 := same_new nl3 (.lst [.ref l2, v, vo])
      have e3 := e2.same u3
      have o3 := e2.new nl3
      refine ⟨_, rfl, D, c', 3, rfl, e3, by omega, by decide, by decide, fun k HB k0 k1' dB sB => ?_⟩
      have s13 := (SameD.of (D := D) (u1.trans (u2.trans u3))).trans sB
      have bT := aT.keep (s13.keepT d')
      have bO := aO.keep (s13.keepT d')
      have bX : TreeAt HB (.ref l2) (.node .nil "x" .nil) := (TreeAt.node (u3 _ _ upd_same) .nil .nil).keep (sB.keepT e3)
      obtain ⟨vd, u, hvd, aU, us, ul⟩ : ∃ (vd : V) (u : T), atI [V.ref l2, v, vo] k = some vd ∧ TreeAt HB vd u ∧ u.size ≤ 12 ∧ u.let := by
        have : k = ((0 : Nat) : Int) ∨ k = ((1 : Nat) : Int) ∨ k = ((2 : Nat) : Int) := by omega
        rcases this with rfl | rfl | rfl
        · refine ⟨_, _, atI_nat (j := 0) rfl, bX, by decide, fun x hx => ?_⟩
          rw [List.mem_singleton.mp (show x ∈ [Str.ofString "x"] from hx)]
          exact ⟨120, by decide, by decide, by decide +kernel⟩
        · exact ⟨_, _, atI_nat (j := 1) rfl, bT, by omega, tl'⟩
        · exact ⟨_, _, atI_nat (j := 2) rfl, bO, by omega, ol'⟩
      refine ⟨l3, _, _, vd, rfl, rfl, SqL.of (sB.at o3 upd_same), hvd, ⟨_, _, rfl, ?_⟩⟩
      have g1B := dq_sameD s13 g1
      have sAB := sA.trans s13
      refine ⟨(by show 2 ≤ sizeLine; decide), fun t1' m1' => ⟨(by show 2 ≤ sizeLine; decide), fun t2' m2' => ⟨_, rfl, (by show 2 ≤ sizeLine; decide), fun t3' m3' => ⟨(by show 3 ≤ sizeLine; decide), fun t4' m4' => ?_⟩⟩⟩⟩
      have v1 := same_new m1' (.tup [V.int 0, .non])
      have v2 := same_new m2' (.tup [V.int 1, .non])
      have v3 := same_new m3' (.tup [V.int 1, vd])
      have v4 := same_new m4' (.lst [V.ref t1', .ref t2', .ref t3'])
      have sBC := v1.trans (v2.trans (v3.trans v4))
      have i1 := (v2.trans (v3.trans v4)) _ _ (upd_same (H := HB) (a := t1'))
      have i2 := (v3.trans v4) _ _ (upd_same (a := t2') (o := .tup [V.int 1, .non]))
      have i3 := v4 _ _ (upd_same (a := t3') (o := .tup [V.int 1, vd]))
      have i4 := upd_same (H := upd (upd (upd HB t1' (.tup [V.int 0, .non])) t2' (.tup [V.int 1, .non])) t3' (.tup [V.int 1, vd])) (a := t4') (o := .lst [V.ref t1', .ref t2', .ref t3'])
      refine ⟨t4', rfl, ⟨_, SqL.of i4⟩, ?_⟩
      generalize upd (upd (upd (upd HB t1' (.tup [V.int 0, .non])) t2' (.tup [V.int 1, .non])) t3' (.tup [V.int 1, vd])) t4' (.lst [V.ref t1', .ref t2', .ref t3']) = HC at *
      have dC := dB.same sBC
      have item : ∀ (j : Nat) (y' : V), [V.ref t1', .ref t2', .ref t3'][j]? = some y' → ∃ (tp : Addr) (b : Bool) (vp : V) (up : T), y' = .ref tp ∧ HC tp = some (.tup [.int (if b then 0 else 1), vp]) ∧ TreeAt HC vp up ∧ up.size ≤ 12 ∧ up.let := by
        intro j y' hj
        match j, hj with
        | 0, hj =>
          cases hj
          exact ⟨t1', true, .non, .nil, rfl, i1, .nil, by decide, fun _ z => nomatch z⟩
        | 1, hj =>
          cases hj
          exact ⟨t2', false, .non, .nil, rfl, i2, .nil, by decide, fun _ z => nomatch z⟩
        | 2, hj =>
          cases hj
          exact ⟨t3', false, vd, u, rfl, i3, aU.same sBC, us, ul⟩
        | j + 3, hj => cases hj
      have cT := bT.same sBC
      have cO := bO.same sBC
      have gC := dq_same sBC g1B
      have sAC := sAB.trans (SameD.of sBC)
      refine for_list (K := K) (a := t4') (xs := [V.ref t1', .ref t2', .ref t3']) (fun _ σ H' => ∃ (z10 z11 z12 z13 : Option V), σ = [some (.ref a), some (.ref D.dk), z2, some v, some vo, some (.ref va), z6, some y, some (.str (PyData.list [t.data, dy, o.data]).shown), some vd, z10, z11, z12, z13] ∧ Same HC H')
        ⟨_, _, _, _, rfl, Same.refl HC⟩ (fun j σ H' _ hp => ?_) (fun j y' σ H' hy' hp => ?_) (fun σ H' hp => ?_)
      · obtain ⟨_, _, _, _, _, sm⟩ := hp
        exact SqL.of (sm _ _ i4)
      · obtain ⟨z10', z11', z12', z13', rfl, sm⟩ := hp
        obtain ⟨tp, b, vp, up, rfl, etp, aP, ps, pl'⟩ := item j y' hy'
        refine ⟨tp, _, rfl, SqT.of (sm _ _ etp), rfl, .int _, _, rfl, vp, _, rfl, rfl, ?_⟩
        refine ⟨_, rfl, _, rfl, _, rfl, _, rfl, b, v, y, vp, t, up, D, dy, rfl, cT.same sm, dq_same sm gC, g2, by omega, by omega, aP.same sm, by omega, by omega, tl', pl', fun X1 r1' x1' p1' => ?_⟩
        have w1 := sm.trans x1'
        refine ⟨_, rfl, _, rfl, _, rfl, _, rfl, b, v, y, vp, t, up, D, dy, rfl, cT.same w1, dq_same w1 gC, gd_L g2, g2, by omega, by omega, aP.same w1, by omega, by omega, fun X2 r2' x2' p2' => ?_⟩
        have w2 := w1.trans x2'
        refine ⟨_, rfl, _, rfl, _, rfl, _, rfl, b, v, y, vp, t, up, D, dy, rfl, cT.same w2, dq_same w2 gC, gd_L g2, g2, by omega, by omega, aP.same w2, by omega, by omega, fun X3 r3' x3' p3' => ⟨(by show 2 ≤ sizeLine; decide), fun lf nf => ?_⟩⟩
        have w3 := w2.trans x3'
        have h1 := same_new nf (.lst [r2', r3'])
        refine ⟨_, rfl, _, rfl, _, rfl, (by show 2 ≤ sizeLine; decide), fun le nle => ?_⟩
        have h2 := same_new nle (.lst [r1', r1'])
        obtain ⟨td1, td2⟩ := told_ok b t dy up (by omega)
        refine ⟨.ref lf, .ref le, .list [told b t dy up, told b t dy up], rfl, .lst (SqL.of (h2 _ _ upd_same)) (.cons (dp_same (x3'.trans (h1.trans h2)) p2') (.cons (dp_same (h1.trans h2) p3') .nil)),
          .lst (SqL.of upd_same) (.cons (dp_same (x2'.trans (x3'.trans (h1.trans h2))) p1') (.cons (dp_same (x2'.trans (x3'.trans (h1.trans h2))) p1') .nil)), ?_, ?_, fun X5 x5 => ?_⟩
        · simp only [PyData.depth, PyData.depthAll]
          omega
        · simp only [nar, narAll, td2, Bool.and_true, List.length_cons, List.length_nil]
          rfl
        have w5 := w3.trans (h1.trans (h2.trans x5))
        have d5' := dC.same w5
        refine ⟨_, rfl, iteF ?_⟩
        refine ⟨_, rfl, _, rfl, _, rfl, (by show 3 ≤ sizeLine; decide), fun l9 n9 => ?_⟩
        refine ⟨_, D, _, rfl, dq_newL d5' n9 (.cons ((cT.same w5).dq d5') (.cons (dq_same w5 gC) (.cons ((cO.same w5).dq d5') .nil))), k1, k2, k3, _, rfl, rfl, _, rfl, iteNS rfl ?_⟩
        exact ⟨_, _, _, _, rfl, w5.trans (same_new n9 _)⟩
      · obtain ⟨z10', z11', z12', z13', rfl, sm⟩ := hp
        exact ⟨_, _, _, _, _, _, _, _, _, c' + 1, rfl, dC.same sm, by omega, sAC.trans (SameD.of sm)⟩
    · obtain ⟨z2, z6, z7, z8, z9, z10, z11, z12, z13, c', rfl, d', hc', sA⟩ := hp
      exact ⟨_, _, _, _, _, _, _, _, _, _, _, _, c', rfl, d', by omega⟩
  · exact rfl
end
/-! ### what the top has left -/
theorem all_mk {l : PySem.W.OpenLaw} {w : World} {K : PySem.W.Frag} {h : Heap} {mg : Str → Option Value} {fa f1 f2 f3 f4 f5 f6 f7 f8 f9 f10 f11 f12 f13 f14 f15 f16 f17 C_NoPath C_TooLarge C_WalkError C_TooMany C_BadTree C_NotOpen C_NoKind C_NoPlace C_NoIndex C_NoVersion i_NoPath i_TooLarge : Addr} (X : K.In h) (G : h.Ns mainGlobals mg) (hfa : mg "law" = some (.ref fa))
    {od1 an1 od2 an2 od3 an3 od4 an4 od5 an5 od6 an6 od7 an7 od8 an8 od9 an9 od10 an10 od11 an11 od12 an12 od13 an13 od14 an14 od15 an15 od16 an16 od17 an17 : Option Addr} {sl1 sl2 sl3 sl4 sl5 sl6 sl7 sl8 sl9 sl10 sl11 sl12 sl13 sl14 sl15 sl16 sl17 : Array (Option Value)}
    {oc1 kV1 dc1 pm1 cd1 ct1 oc2 kV2 dc2 pm2 cd2 ct2 oc3 kV3 dc3 pm3 cd3 ct3 oc4 kV4 dc4 pm4 cd4 ct4 oc5 kV5 dc5 pm5 cd5 ct5 oc6 kV6 dc6 pm6 cd6 ct6 oc7 kV7 dc7 pm7 cd7 ct7 oc8 kV8 dc8 pm8 cd8 ct8 oc9 kV9 dc9 pm9 cd9 ct9 oc10 kV10 dc10 pm10 cd10 ct10 oc11 kV11 dc11 pm11 cd11 ct11 oc12 kV12 dc12 pm12 cd12 ct12 oc13 kV13 dc13 pm13 cd13 ct13 oc14 kV14 dc14 pm14 cd14 ct14 oc15 kV15 dc15 pm15 cd15 ct15 oc16 kV16 dc16 pm16 cd16 ct16 oc17 kV17 dc17 pm17 cd17 ct17 : Value} {t1 : Tok}
    {nm_NoPath q_NoPath : Str} {N_NoPath : Addr} {bs_NoPath sub_NoPath : List Value} {sn_NoPath : List Str} {ab_NoPath : Bool} {col_NoPath : Option Bool} {dd_NoPath : Option Addr} {m0_NoPath m1_NoPath m2_NoPath m3_NoPath m5_NoPath : Option Value} {oc_NoPath dc_NoPath pm_NoPath cd_NoPath ct_NoPath : Value} {od_NoPath an_NoPath : Option Addr} {sl_NoPath : Array (Option Value)}
    {nm_TooLarge q_TooLarge : Str} {N_TooLarge : Addr} {bs_TooLarge sub_TooLarge : List Value} {sn_TooLarge : List Str} {ab_TooLarge : Bool} {col_TooLarge : Option Bool} {dd_TooLarge : Option Addr} {m0_TooLarge m1_TooLarge m2_TooLarge m3_TooLarge m5_TooLarge : Option Value} {oc_TooLarge dc_TooLarge pm_TooLarge cd_TooLarge ct_TooLarge : Value} {od_TooLarge an_TooLarge : Option Addr} {sl_TooLarge : Array (Option Value)}
    (a_NoPath : PySem.W.nsIn K mainGlobals "NoPath" = some (some (.ref C_NoPath)))
    (a_TooLarge : PySem.W.nsIn K mainGlobals "TooLarge" = some (some (.ref C_TooLarge)))
    (a_WalkError : PySem.W.nsIn K mainGlobals "WalkError" = some (some (.ref C_WalkError)))
    (a_TooMany : PySem.W.nsIn K mainGlobals "TooMany" = some (some (.ref C_TooMany)))
    (a_BadTree : PySem.W.nsIn K mainGlobals "BadTree" = some (some (.ref C_BadTree)))
    (a_NotOpen : PySem.W.nsIn K mainGlobals "NotOpen" = some (some (.ref C_NotOpen)))
    (a_NoKind : PySem.W.nsIn K mainGlobals "NoKind" = some (some (.ref C_NoKind)))
    (a_NoPlace : PySem.W.nsIn K mainGlobals "NoPlace" = some (some (.ref C_NoPlace)))
    (a_NoIndex : PySem.W.nsIn K mainGlobals "NoIndex" = some (some (.ref C_NoIndex)))
    (a_NoVersion : PySem.W.nsIn K mainGlobals "NoVersion" = some (some (.ref C_NoVersion)))
    (x_NoPath : K.lookup C_NoPath = some (excClassObj nm_NoPath q_NoPath C_NoPath N_NoPath bs_NoPath [.type "LookupError", .type "Exception", .type "BaseException", .type "object"] true sn_NoPath sub_NoPath ab_NoPath col_NoPath dd_NoPath m0_NoPath m1_NoPath m2_NoPath m3_NoPath m5_NoPath "LookupError.__new__"))
    (sa_NoPath : PySem.W.findIn K (.ref C_NoPath) "__setattr__" = some (some (.builtin "object.__setattr__")))
    (ga_NoPath : PySem.W.findIn K (.ref C_NoPath) "__getattribute__" = some (some (.builtin "BaseException.__getattribute__")))
    (gg_NoPath : PySem.W.findIn K (.ref C_NoPath) "__getattr__" = some none)
    (nb_NoPath : PySem.W.findIn K (.ref C_NoPath) "value" = some none)
    (ii_NoPath : PySem.W.findIn K (.ref C_NoPath) "__init__" = some (some (.ref i_NoPath)))
    (ti_NoPath : PySem.W.typeIn K (.ref i_NoPath) = some (.type "function"))
    (li_NoPath : K.lookup i_NoPath = some ⟨oc_NoPath, od_NoPath, .func (PySem.W.fnOf "__init__" "NoPath.__init__" (iA_value ⟨21, 17, 21, 21⟩ ⟨21, 23, 21, 28⟩) (iB_value ⟨22, 8, 22, 12⟩ ⟨22, 8, 22, 18⟩ ⟨22, 21, 22, 26⟩ ⟨22, 8, 22, 26⟩) iS_value .none .none dc_NoPath pm_NoPath an_NoPath cd_NoPath ct_NoPath), sl_NoPath⟩)
    (ci_NoPath : PySem.W.codeIn K cd_NoPath "NoPath.__init__" = true)
    (kC_NoPath : PySem.W.keepIn K (.ref C_NoPath) = true)
    (eC_NoPath : PySem.W.subIn K (.ref C_NoPath) (.type "BaseException") = some true)
    (tC_NoPath : PySem.W.typeIn K (.ref C_NoPath) = some (.type "type"))
    (hC_NoPath : PySem.W.hasDictIn K C_NoPath = true)
    (h1_NoPath : PySem.W.findIn K (.ref C_NoPath) "__class__" = some (some (.builtin "object.__class__")))
    (h2_NoPath : PySem.W.specialIn K (.builtin "object.__class__") "__get__" = some (some (.builtin "getset_descriptor.__get__")))
    (h3_NoPath : PySem.W.takesIn K (.builtin "object.__class__") = some true)
    (h4_NoPath : PySem.W.mroIn K C_NoPath (.type "object") = some true)
    (x_TooLarge : K.lookup C_TooLarge = some (excClassObj nm_TooLarge q_TooLarge C_TooLarge N_TooLarge bs_TooLarge (.ref C_WalkError :: [.type "ValueError", .type "Exception", .type "BaseException", .type "object"]) true sn_TooLarge sub_TooLarge ab_TooLarge col_TooLarge dd_TooLarge m0_TooLarge m1_TooLarge m2_TooLarge m3_TooLarge m5_TooLarge "ValueError.__new__"))
    (sa_TooLarge : PySem.W.findIn K (.ref C_TooLarge) "__setattr__" = some (some (.builtin "object.__setattr__")))
    (ga_TooLarge : PySem.W.findIn K (.ref C_TooLarge) "__getattribute__" = some (some (.builtin "BaseException.__getattribute__")))
    (gg_TooLarge : PySem.W.findIn K (.ref C_TooLarge) "__getattr__" = some none)
    (nb_TooLarge : PySem.W.findIn K (.ref C_TooLarge) "limit" = some none)
    (ii_TooLarge : PySem.W.findIn K (.ref C_TooLarge) "__init__" = some (some (.ref i_TooLarge)))
    (ti_TooLarge : PySem.W.typeIn K (.ref i_TooLarge) = some (.type "function"))
    (li_TooLarge : K.lookup i_TooLarge = some ⟨oc_TooLarge, od_TooLarge, .func (PySem.W.fnOf "__init__" "TooLarge.__init__" (iA_limit ⟨7, 17, 7, 21⟩ ⟨7, 23, 7, 28⟩) (iB_limit ⟨8, 8, 8, 12⟩ ⟨8, 8, 8, 18⟩ ⟨8, 21, 8, 26⟩ ⟨8, 8, 8, 26⟩) iS_limit .none .none dc_TooLarge pm_TooLarge an_TooLarge cd_TooLarge ct_TooLarge), sl_TooLarge⟩)
    (ci_TooLarge : PySem.W.codeIn K cd_TooLarge "TooLarge.__init__" = true)
    (kC_TooLarge : PySem.W.keepIn K (.ref C_TooLarge) = true)
    (eC_TooLarge : PySem.W.subIn K (.ref C_TooLarge) (.type "BaseException") = some true)
    (tC_TooLarge : PySem.W.typeIn K (.ref C_TooLarge) = some (.type "type"))
    (hC_TooLarge : PySem.W.hasDictIn K C_TooLarge = true)
    (h1_TooLarge : PySem.W.findIn K (.ref C_TooLarge) "__class__" = some (some (.builtin "object.__class__")))
    (h2_TooLarge : PySem.W.specialIn K (.builtin "object.__class__") "__get__" = some (some (.builtin "getset_descriptor.__get__")))
    (h3_TooLarge : PySem.W.takesIn K (.builtin "object.__class__") = some true)
    (h4_TooLarge : PySem.W.mroIn K C_TooLarge (.type "object") = some true)
    (e1 : PySem.W.exmOne K (.ref C_NoPath) (.ref C_NoPath) = some true)
    (e2 : PySem.W.exmOne K (.ref C_TooLarge) (.ref C_NoPath) = some false)
    (e3 : PySem.W.exmOne K (.ref C_TooLarge) (.ref C_WalkError) = some true)
    (kL : PySem.W.kitOne K (.ref C_NoPath) (.type "LookupError") = some true)
    (kM : PySem.W.kitAny K (.ref C_NoPath) [.type "ValueError", .ref C_NoIndex, .ref C_NoKind, .ref C_NoPlace, .ref C_NoVersion] = some false)
    (kS : PySem.W.kitAny K (.ref C_TooLarge) [.ref C_TooMany, .ref C_BadTree, .ref C_NotOpen] = some false)
    (a1 : PySem.W.nsIn K mainGlobals "size_of" = some (some (.ref f1)))
    (l1 : K.lookup f1 = some ⟨oc1, od1, .func (PySem.W.fnOf "size_of" "size_of" (defArgs sSize) (defBody sSize) (defScope sSize) .none kV1 dc1 pm1 an1 cd1 ct1), sl1⟩)
    (c1 : PySem.W.codeIn K cd1 "size_of" = true)
    (k1 : PySem.W.keepIn K (.ref f1) = true)
    (a2 : PySem.W.nsIn K mainGlobals "part_at" = some (some (.ref f2)))
    (l2 : K.lookup f2 = some ⟨oc2, od2, .func (PySem.W.fnOf "part_at" "part_at" (defArgs sPart) (defBody sPart) (defScope sPart) .none kV2 dc2 pm2 an2 cd2 ct2), sl2⟩)
    (c2 : PySem.W.codeIn K cd2 "part_at" = true)
    (k2 : PySem.W.keepIn K (.ref f2) = true)
    (a3 : PySem.W.nsIn K mainGlobals "replaced" = some (some (.ref f3)))
    (l3 : K.lookup f3 = some ⟨oc3, od3, .func (PySem.W.fnOf "replaced" "replaced" (defArgs sRepl) (defBody sRepl) (defScope sRepl) .none kV3 dc3 pm3 an3 cd3 ct3), sl3⟩)
    (c3 : PySem.W.codeIn K cd3 "replaced" = true)
    (k3 : PySem.W.keepIn K (.ref f3) = true)
    (a4 : PySem.W.nsIn K mainGlobals "with_part" = some (some (.ref f4)))
    (l4 : K.lookup f4 = some ⟨oc4, od4, .func (PySem.W.fnOf "with_part" "with_part" (defArgs sWith) (defBody sWith) (defScope sWith) .none kV4 dc4 pm4 an4 cd4 ct4), sl4⟩)
    (c4 : PySem.W.codeIn K cd4 "with_part" = true)
    (k4 : PySem.W.keepIn K (.ref f4) = true)
    (a5 : PySem.W.nsIn K mainGlobals "_law_deck" = some (some (.ref f5)))
    (l5 : K.lookup f5 = some ⟨oc5, od5, .func (PySem.W.fnOf "_law_deck" "_law_deck" (defArgs sDeck) (defBody sDeck) (defScope sDeck) .none kV5 dc5 pm5 an5 cd5 ct5), sl5⟩)
    (c5 : PySem.W.codeIn K cd5 "_law_deck" = true)
    (k5 : PySem.W.keepIn K (.ref f5) = true)
    (a6 : PySem.W.nsIn K mainGlobals "_law_next" = some (some (.ref f6)))
    (l6 : K.lookup f6 = some ⟨oc6, od6, .func (PySem.W.fnOf "_law_next" "_law_next" (defArgs sNext) (defBody sNext) (defScope sNext) .none kV6 dc6 pm6 an6 cd6 ct6), sl6⟩)
    (c6 : PySem.W.codeIn K cd6 "_law_next" = true)
    (k6 : PySem.W.keepIn K (.ref f6) = true)
    (a7 : PySem.W.nsIn K mainGlobals "_law_same" = some (some (.ref f7)))
    (l7 : K.lookup f7 = some ⟨oc7, od7, .func (PySem.W.fnOf "_law_same" "_law_same" (defArgs sSame) (defBody sSame) (defScope sSame) .none kV7 dc7 pm7 an7 cd7 ct7), sl7⟩)
    (c7 : PySem.W.codeIn K cd7 "_law_same" = true)
    (k7 : PySem.W.keepIn K (.ref f7) = true)
    (a8 : PySem.W.nsIn K mainGlobals "_law_letters" = some (some (.ref f8)))
    (l8 : K.lookup f8 = some ⟨oc8, od8, .func (PySem.W.fnOf "_law_letters" "_law_letters" (defArgs sLett) (defBody sLett) (defScope sLett) .none kV8 dc8 pm8 an8 cd8 ct8), sl8⟩)
    (c8 : PySem.W.codeIn K cd8 "_law_letters" = true)
    (k8 : PySem.W.keepIn K (.ref f8) = true)
    (a9 : PySem.W.nsIn K mainGlobals "_law_grown" = some (some (.ref f9)))
    (l9 : K.lookup f9 = some ⟨oc9, od9, .func (PySem.W.fnOf "_law_grown" "_law_grown" (defArgs sGrown) (defBody sGrown) (defScope sGrown) .none kV9 dc9 pm9 an9 cd9 ct9), sl9⟩)
    (c9 : PySem.W.codeIn K cd9 "_law_grown" = true)
    (k9 : PySem.W.keepIn K (.ref f9) = true)
    (a10 : PySem.W.nsIn K mainGlobals "_law_tree" = some (some (.ref f10)))
    (l10 : K.lookup f10 = some ⟨oc10, od10, .func (PySem.W.fnOf "_law_tree" "_law_tree" (defArgs sTree) (defBody sTree) (defScope sTree) .none kV10 dc10 pm10 an10 cd10 ct10), sl10⟩)
    (c10 : PySem.W.codeIn K cd10 "_law_tree" = true)
    (k10 : PySem.W.keepIn K (.ref f10) = true)
    (a11 : PySem.W.nsIn K mainGlobals "_law_odd" = some (some (.ref f11)))
    (l11 : K.lookup f11 = some ⟨oc11, od11, .func (PySem.W.fnOf "_law_odd" "_law_odd" (defArgs sOdd) (defBody sOdd) (defScope sOdd) .none kV11 dc11 pm11 an11 cd11 ct11), sl11⟩)
    (c11 : PySem.W.codeIn K cd11 "_law_odd" = true)
    (k11 : PySem.W.keepIn K (.ref f11) = true)
    (a12 : PySem.W.nsIn K mainGlobals "_law_count" = some (some (.ref f12)))
    (l12 : K.lookup f12 = some ⟨oc12, od12, .func (PySem.W.fnOf "_law_count" "_law_count" (defArgs sCount) (defBody sCount) (defScope sCount) .none kV12 dc12 pm12 an12 cd12 ct12), sl12⟩)
    (c12 : PySem.W.codeIn K cd12 "_law_count" = true)
    (k12 : PySem.W.keepIn K (.ref f12) = true)
    (a13 : PySem.W.nsIn K mainGlobals "_law_paths" = some (some (.ref f13)))
    (l13 : K.lookup f13 = some ⟨oc13, od13, .func (PySem.W.fnOf "_law_paths" "_law_paths" (defArgs sPaths) (defBody sPaths) (defScope sPaths) .none kV13 dc13 pm13 an13 cd13 ct13), sl13⟩)
    (c13 : PySem.W.codeIn K cd13 "_law_paths" = true)
    (k13 : PySem.W.keepIn K (.ref f13) = true)
    (a14 : PySem.W.nsIn K mainGlobals "_law_put" = some (some (.ref f14)))
    (l14 : K.lookup f14 = some ⟨oc14, od14, .func (PySem.W.fnOf "_law_put" "_law_put" (defArgs sPut) (defBody sPut) (defScope sPut) .none kV14 dc14 pm14 an14 cd14 ct14), sl14⟩)
    (c14 : PySem.W.codeIn K cd14 "_law_put" = true)
    (k14 : PySem.W.keepIn K (.ref f14) = true)
    (a15 : PySem.W.nsIn K mainGlobals "_law_told" = some (some (.ref f15)))
    (l15 : K.lookup f15 = some ⟨oc15, od15, .func (PySem.W.fnOf "_law_told" "_law_told" (defArgs sTold) (defBody sTold) (defScope sTold) .none kV15 dc15 pm15 an15 cd15 ct15), sl15⟩)
    (c15 : PySem.W.codeIn K cd15 "_law_told" = true)
    (k15 : PySem.W.keepIn K (.ref f15) = true)
    (a16 : PySem.W.nsIn K mainGlobals "_law_due" = some (some (.ref f16)))
    (l16 : K.lookup f16 = some ⟨oc16, od16, .func (PySem.W.fnOf "_law_due" "_law_due" (defArgs sDue) (defBody sDue) (defScope sDue) .none kV16 dc16 pm16 an16 cd16 ct16), sl16⟩)
    (c16 : PySem.W.codeIn K cd16 "_law_due" = true)
    (k16 : PySem.W.keepIn K (.ref f16) = true)
    (a17 : PySem.W.nsIn K mainGlobals "law" = some (some (.ref f17)))
    (l17 : K.lookup f17 = some ⟨oc17, od17, .func (PySem.W.fnOf "law" "law" (defArgs sLaw) (defBody sLaw) (defScope sLaw) .none kV17 dc17 pm17 an17 cd17 ct17), sl17⟩)
    (c17 : PySem.W.codeIn K cd17 "law" = true)
    (k17 : PySem.W.keepIn K (.ref f17) = true)
    (z1 : PySem.W.nsIn K mainGlobals "len" = some none)
    (z2 : PySem.W.nsIn K mainGlobals "isinstance" = some none)
    (z3 : PySem.W.nsIn K mainGlobals "list" = some none)
    (z4 : PySem.W.nsIn K mainGlobals "tuple" = some none)
    (z5 : PySem.W.nsIn K mainGlobals "str" = some none)
    (z6 : PySem.W.nsIn K mainGlobals "int" = some none)
    (z7 : PySem.W.nsIn K mainGlobals "bool" = some none)
    (z8 : PySem.W.nsIn K mainGlobals "range" = some none)
    (z9 : PySem.W.nsIn K mainGlobals "sorted" = some none)
    (z10 : PySem.W.nsIn K mainGlobals "abs" = some none)
    (z11 : PySem.W.nsIn K mainGlobals "repr" = some none)
    (z12 : PySem.W.nsIn K mainGlobals "LookupError" = some none)
    (z13 : PySem.W.nsIn K mainGlobals "ValueError" = some none)
    (v1 : PySem.W.nsIn K mainGlobals "MAX_NODES" = some (some (.int 12 t1)))
    : ∀ (base : Heap) (H : Hp) (s : Shared) (a : Addr) (ns : List Int), K.In base → base.Ns mainGlobals mg → Env0 l.prog w K mg base callerA [] s H → SqL K H a (ns.map V.int) →
      codeAny (model l.prog w) callerA (.call (.ref fa) ⟨[.ref a], []⟩) (CR CX0 [] l.prog w H s (fun v _ => v = .bl true) fun _ _ _ => False) s := by
  intro base H s a ns _ _ en hS
  have e := hfa.symm.trans (PySem.W.mg_of X G a17)
  cases e
  have gC_NoPath := PySem.W.mg_of X G a_NoPath
  have gC_TooLarge := PySem.W.mg_of X G a_TooLarge
  have gC_WalkError := PySem.W.mg_of X G a_WalkError
  have gC_TooMany := PySem.W.mg_of X G a_TooMany
  have gC_BadTree := PySem.W.mg_of X G a_BadTree
  have gC_NotOpen := PySem.W.mg_of X G a_NotOpen
  have gC_NoKind := PySem.W.mg_of X G a_NoKind
  have gC_NoPlace := PySem.W.mg_of X G a_NoPlace
  have gC_NoIndex := PySem.W.mg_of X G a_NoIndex
  have gC_NoVersion := PySem.W.mg_of X G a_NoVersion
  have F1 := fun_mk (st := sSize) l1 c1 k1
  have g1 := PySem.W.mg_of X G a1
  have F2 := fun_mk (st := sPart) l2 c2 k2
  have g2 := PySem.W.mg_of X G a2
  have F3 := fun_mk (st := sRepl) l3 c3 k3
  have g3 := PySem.W.mg_of X G a3
  have F4 := fun_mk (st := sWith) l4 c4 k4
  have g4 := PySem.W.mg_of X G a4
  have F5 := fun_mk (st := sDeck) l5 c5 k5
  have g5 := PySem.W.mg_of X G a5
  have F6 := fun_mk (st := sNext) l6 c6 k6
  have g6 := PySem.W.mg_of X G a6
  have F7 := fun_mk (st := sSame) l7 c7 k7
  have g7 := PySem.W.mg_of X G a7
  have F8 := fun_mk (st := sLett) l8 c8 k8
  have g8 := PySem.W.mg_of X G a8
  have F9 := fun_mk (st := sGrown) l9 c9 k9
  have g9 := PySem.W.mg_of X G a9
  have F10 := fun_mk (st := sTree) l10 c10 k10
  have g10 := PySem.W.mg_of X G a10
  have F11 := fun_mk (st := sOdd) l11 c11 k11
  have g11 := PySem.W.mg_of X G a11
  have F12 := fun_mk (st := sCount) l12 c12 k12
  have g12 := PySem.W.mg_of X G a12
  have F13 := fun_mk (st := sPaths) l13 c13 k13
  have g13 := PySem.W.mg_of X G a13
  have F14 := fun_mk (st := sPut) l14 c14 k14
  have g14 := PySem.W.mg_of X G a14
  have F15 := fun_mk (st := sTold) l15 c15 k15
  have g15 := PySem.W.mg_of X G a15
  have F16 := fun_mk (st := sDue) l16 c16 k16
  have g16 := PySem.W.mg_of X G a16
  have F17 := fun_mk (st := sLaw) l17 c17 k17
  have m_len := PySem.W.mg_none_of X G z1
  have m_isinstance := PySem.W.mg_none_of X G z2
  have m_list := PySem.W.mg_none_of X G z3
  have m_tuple := PySem.W.mg_none_of X G z4
  have m_str := PySem.W.mg_none_of X G z5
  have m_int := PySem.W.mg_none_of X G z6
  have m_bool := PySem.W.mg_none_of X G z7
  have m_range := PySem.W.mg_none_of X G z8
  have m_sorted := PySem.W.mg_none_of X G z9
  have m_abs := PySem.W.mg_none_of X G z10
  have m_repr := PySem.W.mg_none_of X G z11
  have m_LookupError := PySem.W.mg_none_of X G z12
  have m_ValueError := PySem.W.mg_none_of X G z13
  have m1 := PySem.W.mg_of X G v1
  have b1 := F1.binds (ps := ["tree"]) fun _ _ _ _ _ _ us hl => match us, hl with | [_], _ => rfl
  have b2 := F2.binds (ps := ["tree", "path"]) fun _ _ _ _ _ _ us hl => match us, hl with | [_, _], _ => rfl
  have b3 := F3.binds (ps := ["tree", "path", "part"]) fun _ _ _ _ _ _ us hl => match us, hl with | [_, _, _], _ => rfl
  have b4 := F4.binds (ps := ["tree", "path", "part"]) fun _ _ _ _ _ _ us hl => match us, hl with | [_, _, _], _ => rfl
  have b5 := F5.binds (ps := ["_law_script"]) fun _ _ _ _ _ _ us hl => match us, hl with | [_], _ => rfl
  have b6 := F6.binds (ps := ["_law_deck_here", "_law_many"]) fun _ _ _ _ _ _ us hl => match us, hl with | [_, _], _ => rfl
  have b7 := F7.binds (ps := ["_law_found", "_law_due_here"]) fun _ _ _ _ _ _ us hl => match us, hl with | [_, _], _ => rfl
  have b8 := F8.binds (ps := ["_law_deck_here", "_law_size"]) fun _ _ _ _ _ _ us hl => match us, hl with | [_, _], _ => rfl
  have b9 := F9.binds (ps := ["_law_deck_here", "_law_size", "_law_way", "_law_letters_here"]) fun _ _ _ _ _ _ us hl => match us, hl with | [_, _, _, _], _ => rfl
  have b10 := F10.binds (ps := ["_law_deck_here", "_law_limit"]) fun _ _ _ _ _ _ us hl => match us, hl with | [_, _], _ => rfl
  have b11 := F11.binds (ps := ["_law_deck_here"]) fun _ _ _ _ _ _ us hl => match us, hl with | [_], _ => rfl
  have b12 := F12.binds (ps := ["_law_value"]) fun _ _ _ _ _ _ us hl => match us, hl with | [_], _ => rfl
  have b13 := F13.binds (ps := ["_law_tree_here"]) fun _ _ _ _ _ _ us hl => match us, hl with | [_], _ => rfl
  have b14 := F14.binds (ps := ["_law_tree_here", "_law_path", "_law_part"]) fun _ _ _ _ _ _ us hl => match us, hl with | [_, _, _], _ => rfl
  have b15 := F15.binds (ps := ["_law_door", "_law_tree_here", "_law_path", "_law_part"]) fun _ _ _ _ _ _ us hl => match us, hl with | [_, _, _, _], _ => rfl
  have b16 := F16.binds (ps := ["_law_door", "_law_tree_here", "_law_path", "_law_part"]) fun _ _ _ _ _ _ us hl => match us, hl with | [_, _, _, _], _ => rfl
  have E_NoPath : Err_value K mg "LookupError.__new__" leT "NoPath" "NoPath.__init__" C_NoPath i_NoPath :=
    { gC := gC_NoPath, nd := by decide +kernel, cls := ⟨nm_NoPath, q_NoPath, N_NoPath, bs_NoPath, _, sn_NoPath, sub_NoPath, ab_NoPath, col_NoPath, dd_NoPath, m0_NoPath, m1_NoPath, m2_NoPath, m3_NoPath, m5_NoPath, x_NoPath, by first | rfl | decide +kernel⟩, sa := sa_NoPath, ga := ga_NoPath, gg := gg_NoPath, noN := nb_NoPath, iC := ii_NoPath, tC := ti_NoPath, kC := kC_NoPath, exC := eC_NoPath, tyC := tC_NoPath, hdC := hC_NoPath,
      fn := ⟨_, _, _, _, _, _, _, _, _, _, _, _, _, _, li_NoPath, ci_NoPath⟩ }
  have E_TooLarge : Err_limit K mg "ValueError.__new__" veT "TooLarge" "TooLarge.__init__" C_TooLarge i_TooLarge :=
    { gC := gC_TooLarge, nd := by decide +kernel, cls := ⟨nm_TooLarge, q_TooLarge, N_TooLarge, bs_TooLarge, _, sn_TooLarge, sub_TooLarge, ab_TooLarge, col_TooLarge, dd_TooLarge, m0_TooLarge, m1_TooLarge, m2_TooLarge, m3_TooLarge, m5_TooLarge, x_TooLarge, by first | rfl | decide +kernel⟩, sa := sa_TooLarge, ga := ga_TooLarge, gg := gg_TooLarge, noN := nb_TooLarge, iC := ii_TooLarge, tC := ti_TooLarge, kC := kC_TooLarge, exC := eC_TooLarge, tyC := tC_TooLarge, hdC := hC_TooLarge,
      fn := ⟨_, _, _, _, _, _, _, _, _, _, _, _, _, _, li_TooLarge, ci_TooLarge⟩ }
  have X_NoPath : ExcC K C_NoPath := ⟨ga_NoPath, gg_NoPath, eC_NoPath, hC_NoPath, h1_NoPath, h2_NoPath, h3_NoPath, h4_NoPath⟩
  have X_TooLarge : ExcC K C_TooLarge := ⟨ga_TooLarge, gg_TooLarge, eC_TooLarge, hC_TooLarge, h1_TooLarge, h2_TooLarge, h3_TooLarge, h4_TooLarge⟩
  have kT : PySem.W.kitOne K (.ref C_TooLarge) (.ref C_TooLarge) = some true := by unfold PySem.W.kitOne; rw [if_pos (by simp)]
  have EC : ErrC K mg C_NoPath C_TooLarge := ⟨X_NoPath, X_TooLarge, gC_NoPath, gC_TooLarge, ⟨_, gC_WalkError, e3⟩, e1, e2, kL, kT, m_LookupError, m_ValueError, ⟨_, _, _, _, gC_NoIndex, gC_NoKind, gC_NoPlace, gC_NoVersion, kM⟩, ⟨_, _, _, gC_TooMany, gC_BadTree, gC_NotOpen, kS⟩⟩
  have M : Mgs mg := ⟨m_len, m_isinstance, m_list, m_tuple, m_str, m_int, m_bool, m_range⟩
  have G1 := ok_size (P := l.prog) (w := w) (base := base) F1 b1 g1 60
  have G2 := ok_part (P := l.prog) (w := w) (base := base) (k := 0) F2 E_NoPath m_isinstance m_str
  have G4 := ok_with (P := l.prog) (w := w) (base := base) F4 b4 g4 60
  have G3 := ok_repl (P := l.prog) (w := w) (base := base) F3 E_TooLarge m1 G2 b2 k2 g2 G1 b1 k1 g1 G4 b4 k4 g4
  have G5 := ok_deck (P := l.prog) (w := w) (mg := mg) (base := base) (k := 0) F5 m_len m_abs m_int
  have G6 := ok_next (P := l.prog) (w := w) (mg := mg) (base := base) (k := 0) F6 m_len
  have G7 := ok_same (P := l.prog) (w := w) (base := base) F7 b7 g7 M 20
  have G8 := ok_lett (P := l.prog) (w := w) (base := base) (k := 1) F8 G6 b6 k6 g6 M m_sorted
  have G9 := ok_grown (P := l.prog) (w := w) (base := base) F9 b9 g9 G6 b6 k6 g6 27
  have G10 := ok_tree (P := l.prog) (w := w) (base := base) F10 G6 b6 k6 g6 G8 b8 k8 g8 G9 b9 k9 g9
  have G11 := ok_odd (P := l.prog) (w := w) (base := base) (k := 1) F11 G6 b6 k6 g6
  have G12 := ok_cnt (P := l.prog) (w := w) (base := base) F12 b12 g12 M 60
  have G13 := ok_paths (P := l.prog) (w := w) (base := base) (k := 0) F13 m_len
  have G14 := ok_put (P := l.prog) (w := w) (base := base) (k := 0) F14 m_len m_range
  have G15 := ok_told (P := l.prog) (w := w) (base := base) F15 E_NoPath E_TooLarge EC m_isinstance m_repr G2 b2 k2 g2 G3 b3 k3 g3
  have G16 := ok_due (P := l.prog) (w := w) (base := base) F16 M m_repr G13 b13 k13 g13 G12 b12 k12 g12 G14 b14 k14 g14
  exact run_law F17 (.of_eq rfl) en hS M m_repr ⟨_, _, G5, b5, k5, g5⟩ ⟨_, _, G6, b6, k6, g6⟩ ⟨_, _, G7, b7, k7, g7⟩ ⟨_, _, G10, b10, k10, g10⟩ ⟨_, _, G11, b11, k11, g11⟩ ⟨_, _, G13, b13, k13, g13⟩ ⟨_, _, G15, b15, k15, g15⟩ ⟨_, _, G16, b16, k16, g16⟩
theorem walk_at {l : PySem.W.OpenLaw} {q : Program} {loose : List Str} {XP : (Str → Option Value) → Heap → Prop} {YP : World → Heap → Prop} {d : DefRec} {K : Params → PySem.W.Frag} (most : l.most = some 63) (noDf : d.params.defaults = [])
    (inK : ∀ (w : World) (h : Heap), YP w h → (K w.params).In h)
    (F : ∀ (w : World) (mg : Str → Option Value) (fa : Addr) (h : Heap), (K w.params).In h → h.Ns mainGlobals mg → mg d.name = some (.ref fa) →
      ∀ (base : Heap) (H : Hp) (s : Shared) (a : Addr) (ns : List Int), (K w.params).In base → base.Ns mainGlobals mg → Env0 l.prog w (K w.params) mg base callerA [] s H → SqL (K w.params) H a (ns.map V.int) →
        codeAny (model l.prog w) callerA (.call (.ref fa) ⟨[.ref a], []⟩) (CR CX0 [] l.prog w H s (fun v _ => v = .bl true) fun _ _ _ => False) s) :
    PySem.W.WalkO q loose XP YP l.row.toRowW d [] (fun f vs => PySem.call f vs) := by
  refine Att.attach_call most noDf ?_
  intro w s₀ s₁ mg mb fa o pm cd doc a vs ns G Y ho hd hcd hmg hobj hints hlen hg
  exact law_at (inK w _ Y) G.T.g G.T.b G.T.builtins G.T.nolimit hg hobj hints (Nat.le_trans hlen (by decide)) fun base H h1 h2 en hS => F w mg fa _ (inK w _ Y) G.T.g hmg base H s₁ a ns h1 h2 en hS
end Tw
open PySem PySem.W PyProof.Rows
set_option maxRecDepth 100000 in
set_option maxHeartbeats 0 in
theorem PySem.Challenge.cw_treewalks_k03_parts_and_replaced_parts_holds : PySem.Challenge.rw_treewalks_k03_parts_and_replaced_parts.Holds := by
  w_on; o_law; k_head; (case hw => w_witness2)
  k_fill
  refine Tw.walk_at (l := PySem.Challenge.rw_treewalks_k03_parts_and_replaced_parts) rfl rfl (fun w h Y => PySem.W.kIn_of Y) ?F
  case F =>
    intro w mg fa h KX G hmg
    refine' Tw.all_mk KX G hmg ?a_NoPath ?a_TooLarge ?a_WalkError ?a_TooMany ?a_BadTree ?a_NotOpen ?a_NoKind ?a_NoPlace ?a_NoIndex ?a_NoVersion ?x_NoPath ?sa_NoPath ?ga_NoPath ?gg_NoPath ?nb_NoPath ?ii_NoPath ?ti_NoPath ?li_NoPath ?ci_NoPath ?kC_NoPath ?eC_NoPath ?tC_NoPath ?hC_NoPath ?h1_NoPath ?h2_NoPath ?h3_NoPath ?h4_NoPath ?x_TooLarge ?sa_TooLarge ?ga_TooLarge ?gg_TooLarge ?nb_TooLarge ?ii_TooLarge ?ti_TooLarge ?li_TooLarge ?ci_TooLarge ?kC_TooLarge ?eC_TooLarge ?tC_TooLarge ?hC_TooLarge ?h1_TooLarge ?h2_TooLarge ?h3_TooLarge ?h4_TooLarge ?e1 ?e2 ?e3 ?kL ?kM ?kS ?a1 ?l1 ?c1 ?k1 ?a2 ?l2 ?c2 ?k2 ?a3 ?l3 ?c3 ?k3 ?a4 ?l4 ?c4 ?k4 ?a5 ?l5 ?c5 ?k5 ?a6 ?l6 ?c6 ?k6 ?a7 ?l7 ?c7 ?k7 ?a8 ?l8 ?c8 ?k8 ?a9 ?l9 ?c9 ?k9 ?a10 ?l10 ?c10 ?k10 ?a11 ?l11 ?c11 ?k11 ?a12 ?l12 ?c12 ?k12 ?a13 ?l13 ?c13 ?k13 ?a14 ?l14 ?c14 ?k14 ?a15 ?l15 ?c15 ?k15 ?a16 ?l16 ?c16 ?k16 ?a17 ?l17 ?c17 ?k17 ?z1 ?z2 ?z3 ?z4 ?z5 ?z6 ?z7 ?z8 ?z9 ?z10 ?z11 ?z12 ?z13 ?v1
    (case a_NoPath => k_is)
    (case a_TooLarge => k_is)
    (case a_WalkError => k_is)
    (case a_TooMany => k_is)
    (case a_BadTree => k_is)
    (case a_NotOpen => k_is)
    (case a_NoKind => k_is)
    (case a_NoPlace => k_is)
    (case a_NoIndex => k_is)
    (case a_NoVersion => k_is)
    (case x_NoPath => k_is)
    (case sa_NoPath => k_is)
    (case ga_NoPath => k_is)
    (case gg_NoPath => k_is)
    (case nb_NoPath => k_is)
    (case ii_NoPath => k_is)
    (case ti_NoPath => k_is)
    (case li_NoPath => k_is)
    (case ci_NoPath => k_is)
    (case kC_NoPath => k_is)
    (case eC_NoPath => k_is)
    (case tC_NoPath => k_is)
    (case hC_NoPath => k_is)
    (case h1_NoPath => k_is)
    (case h2_NoPath => k_is)
    (case h3_NoPath => k_is)
    (case h4_NoPath => k_is)
    (case x_TooLarge => k_is)
    (case sa_TooLarge => k_is)
    (case ga_TooLarge => k_is)
    (case gg_TooLarge => k_is)
    (case nb_TooLarge => k_is)
    (case ii_TooLarge => k_is)
    (case ti_TooLarge => k_is)
    (case li_TooLarge => k_is)
    (case ci_TooLarge => k_is)
    (case kC_TooLarge => k_is)
    (case eC_TooLarge => k_is)
    (case tC_TooLarge => k_is)
    (case hC_TooLarge => k_is)
    (case h1_TooLarge => k_is)
    (case h2_TooLarge => k_is)
    (case h3_TooLarge => k_is)
    (case h4_TooLarge => k_is)
    (case e1 => first | k_is | rfl | decide +kernel)
    (case e2 => first | k_is | rfl | decide +kernel)
    (case e3 => first | k_is | rfl | decide +kernel)
    (case kL => first | k_is | rfl | decide +kernel)
    (case kM => first | k_is | rfl | decide +kernel)
    (case kS => first | k_is | rfl | decide +kernel)
    (case a1 => k_is)
    (case l1 => k_is)
    (case c1 => k_is)
    (case k1 => k_is)
    (case a2 => k_is)
    (case l2 => k_is)
    (case c2 => k_is)
    (case k2 => k_is)
    (case a3 => k_is)
    (case l3 => k_is)
    (case c3 => k_is)
    (case k3 => k_is)
    (case a4 => k_is)
    (case l4 => k_is)
    (case c4 => k_is)
    (case k4 => k_is)
    (case a5 => k_is)
    (case l5 => k_is)
    (case c5 => k_is)
    (case k5 => k_is)
    (case a6 => k_is)
    (case l6 => k_is)
    (case c6 => k_is)
    (case k6 => k_is)
    (case a7 => k_is)
    (case l7 => k_is)
    (case c7 => k_is)
    (case k7 => k_is)
    (case a8 => k_is)
    (case l8 => k_is)
    (case c8 => k_is)
    (case k8 => k_is)
    (case a9 => k_is)
    (case l9 => k_is)
    (case c9 => k_is)
    (case k9 => k_is)
    (case a10 => k_is)
    (case l10 => k_is)
    (case c10 => k_is)
    (case k10 => k_is)
    (case a11 => k_is)
    (case l11 => k_is)
    (case c11 => k_is)
    (case k11 => k_is)
    (case a12 => k_is)
    (case l12 => k_is)
    (case c12 => k_is)
    (case k12 => k_is)
    (case a13 => k_is)
    (case l13 => k_is)
    (case c13 => k_is)
    (case k13 => k_is)
    (case a14 => k_is)
    (case l14 => k_is)
    (case c14 => k_is)
    (case k14 => k_is)
    (case a15 => k_is)
    (case l15 => k_is)
    (case c15 => k_is)
    (case k15 => k_is)
    (case a16 => k_is)
    (case l16 => k_is)
    (case c16 => k_is)
    (case k16 => k_is)
    (case a17 => k_is)
    (case l17 => k_is)
    (case c17 => k_is)
    (case k17 => k_is)
    (case z1 => k_is)
    (case z2 => k_is)
    (case z3 => k_is)
    (case z4 => k_is)
    (case z5 => k_is)
    (case z6 => k_is)
    (case z7 => k_is)
    (case z8 => k_is)
    (case z9 => k_is)
    (case z10 => k_is)
    (case z11 => k_is)
    (case z12 => k_is)
    (case z13 => k_is)
    (case v1 => k_is)
