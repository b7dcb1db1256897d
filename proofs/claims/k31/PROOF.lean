import PyProof.Rows.All
import Wide.All
import OpenK.AllK
import Wide.FinOn
import PyProof.EqAt
import PyProof.EqKinds
import PyProof.TupleCall
import HandS.Base
import HandS.Call
import HandS.List
import HandS.Ends
import HandS.Exc
import HandS.ExcInit
import HandS.Defaults
import HandS.ExcField
import HandS.ExcIs
import HandS.IsInst
import HandS.Words
import HandS.Wide
import HandS.Dict
import KE.KDictLaw
import PyProof.ReprRoads
import PyProof.ReprLen
import HandS.WordsList
import HandS.More
import HandS.Comp
import HandS.Iter
import HandS.Text
import HandS.Flow
import HandS.ForMost
import HandS.Conv
import HandS.Style
import HandS.ListItems
import HandS.Strs
import HandS.Walk
import HandS.WordsDict
import HandS.DictComp
import HandS.ExcOwn
import HandS.CallSlots
import HandS.DictEq
import KE.KDictList
import HandS.Lambda
import HandS.Nested
import KE.KOwnCellsLaws
import HandS.Sort
import HandS.SetKeys
import HandS.TupLen
import HandS.Zip
import PyProof.DictMoreH
import HandS.Property
import KE.SortData
import HandS.Deep
import KE.KFmtOwn
import HandS.SlotsOwn
import HandS.OwnEq
import KE.GoesRaise
import HandS.SetBool
import HandS.SetFor
import KE.KNest
import HandS.EndBits
import KE.KStateDown
import HandS.Head0
import HandS.Head1
import HandS.Head2
import HandS.HeadEnd
import HandS.HeadHook1
import HandS.HeadHook2
import HandS.HeadHook3
import HandS.HeadHook4
import PySem.Challenge.RW_lateeditions_k31_changes_put_together
set_option Elab.async false
set_option linter.all false
set_option maxRecDepth 100000
set_option maxHeartbeats 4000000
namespace PySem
namespace ErK
open PySem.W PySem.Calls PyProof.Rows PySem.HandSPX
section
variable {prog : Program} {w : World} {M : Model} {A : Around} {E : Value → Shared → Prop} {R : Result → Shared → Prop} {h : Heap} {g : Array GenState} {d : Drawn} {t : Nat} {os : OsState}
variable {nm q : Str} {C N : Addr} {bs bm bmB : List Value} {hdct : Bool} {sn : List Str} {sub : List Value} {ab : Bool} {col : Option Bool} {dd : Option Addr} {k0 k1 k2 k3 k5 : Option Value} {B nw ini : String}
/-- the check ahead of the class's __new__, with keywords -/
theorem new_seen (F : ExcBaseFacts B nw ini bmB) (hT : ∀ X : String, bm.contains (.type X) = bmB.contains (.type X)) {us : List Value} {kws : List (Str × Value)} {Q : Unit → Shared → Prop}
    (cls : h.get? C = some (excClassObj nm q C N bs bm hdct sn sub ab col dd k0 k1 k2 k3 k5 nw)) (fin : Q () ⟨h, g, d, t, os⟩) :
    wpAny M A (checkBuiltinCall nw ⟨.ref C :: us, kws⟩) Q E ⟨h, g, d, t, os⟩ := by
  have has : (Value.ref C :: bm).contains (.type B) = true := by
    rw [List.contains_cons, hT, F.hasB, Bool.or_true]
  have star := F.noStar
  simp only [checkBuiltinCall, F.newKind, F.newSplit, F.newRow]
  repeat (first
    | refine wpAny_loadPart_at cls ?_
    | (refine wpAny_isSubtype_exc cls ?_
       rw [has])
    | refine wpAny_staticBase_exc cls ?_
    | refine wpAny_madeBy_exc cls ?_
    | simp only [bne_self_eq_false, Bool.false_eq_true, if_false]
    | wp_step)
  exact fin
/-- BaseException.__new__ of such a class, with keywords: they are not looked at -/
theorem new_runs (F : ExcBaseFacts B nw ini bmB) (hT : ∀ X : String, bm.contains (.type X) = bmB.contains (.type X)) {us : List Value} {kws : List (Str × Value)}
    (cls : h.get? C = some (excClassObj nm q C N bs bm hdct sn sub ab col dd k0 k1 k2 k3 k5 nw)) (short : us.length ≤ sizeLine)
    (fin : R (.ok (.ret (.ref (h.objs.size + 1)))) ⟨(h.push (W.kdv_tup us)).push (excO C h.objs.size), g, d, t, os⟩) :
    codeAny (model prog w) A (.builtin nw ⟨.ref C :: us, kws⟩) R ⟨h, g, d, t, os⟩ := by
  have ends := F.ends
  have isB : (Value.ref C :: bm).contains (.type B) = true := by
    rw [List.contains_cons, hT, F.hasB, Bool.or_true]
  have notA : (Value.ref C :: bm).contains (.type "AttributeError") = false := by
    rw [List.contains_cons, hT, F.noAttr]
    rfl
  have notN : (Value.ref C :: bm).contains (.type "NameError") = false := by
    rw [List.contains_cons, hT, F.noName]
    rfl
  refine codeAny_builtinAt F.entry ?_
  unfold Builtin.«BaseException.__new__»
  refine wpAt_bind ?_
  show wpAt _ _ _ (stack >>= _) _ _ _
  refine wpAt_bind (wpAt_stack fun p below => wpAt_of_wpAny ?_)
  wp_walk
  refine wpAt_of_wpAny ?_
  rw [F.owner]
  repeat (first
    | with_reducible refine wpAny_madeHere_exc F.canon cls ?_
    | with_reducible refine wpAny_loadPart_at cls ?_
    | (with_reducible refine wpAny_isSubtype_exc cls ?_
       first
         | rw [isB]
         | rw [notA]
         | rw [notN])
    | wp_step)
  show R _ _
  rw [Heap.size_push]
  exact fin
/-- type.__call__ of such a class, with keywords -/
theorem type_runs (F : ExcBaseFacts B nw ini bmB) (hT : ∀ X : String, bm.contains (.type X) = bmB.contains (.type X)) {us : List Value} {kws : List (Str × Value)} {fI : Addr} {Q : Fin → Shared → Prop}
    (cls : h.get? C = some (excClassObj nm q C N bs bm hdct sn sub ab col dd k0 k1 k2 k3 k5 nw)) (short : us.length ≤ sizeLine)
    (look : W.Looks (model prog w) h (typeLookup (.ref C) "__init__") (some (.ref fI))) (bind : ∀ self, W.Looks (model prog w) h (bindSpecial (.ref fI) self) (.ref fI, [self]))
    (run : codeAny (model prog w) A (.call (.ref fI) ⟨.ref (h.objs.size + 1) :: us, kws⟩)
      (fun r s' => match r with
        | .ok (.ret v) => v = .none ∧ Q (.done (.ret (.ref (h.objs.size + 1)))) s'
        | .ok _ => False
        | .error e => E e s')
      ⟨(h.push (W.kdv_tup us)).push (excO C h.objs.size), g, d, t, os⟩) :
    wpAny (model prog w) A (Builtin.«type.__call__» ⟨.ref C :: us, kws⟩) Q E ⟨h, g, d, t, os⟩ := by
  repeat (first
    | with_reducible refine wpAny_loadPart_at cls ?_
    | with_reducible refine wpAny_madeBy_exc cls ?_
    | wp_step)
  refine codeAny_call_builtin_code (Code.quiet_builtin _ F.quiet) (new_seen F hT cls ?_)
  refine new_runs F hT cls short ?_
  show wpAny _ _ _ _ _ _
  have old : ∀ b o, h.get? b = some o → ((h.push (W.kdv_tup us)).push (excO C h.objs.size)).get? b = some o :=
    fun b o e => Heap.get?_push_of_some _ (Heap.get?_push_of_some _ e)
  have cls1 := old _ _ cls
  have made : ((h.push (W.kdv_tup us)).push (excO C h.objs.size)).get? (h.objs.size + 1) = some (excO C h.objs.size) := by
    heap_get
  have self : (Value.ref C :: bm).contains (.ref C) = true := by simp
  have l1 := look.keeps old
  have l2 := (bind (.ref (h.objs.size + 1))).keeps old
  unfold isInstance
  repeat (first
    | with_reducible refine wpAny_loadPart_at made ?_
    | (with_reducible refine wpAny_isSubtype_exc cls1 ?_
       rw [self])
    | wp_step)
  show wpAny _ _ (typeLookup (.ref C) _) _ _ _
  refine l1.at ?_
  refine wpAny_holding (wpAny_bind (l2.at ?_))
  refine wpAny_bind (wpAny_call (codeAny_mono run fun r s' z => ?_))
  rcases r with e | (v | _ | _ | _) <;> first | exact z | exact z.elim | skip
  obtain ⟨rfl, z⟩ := z
  first
    | exact wpAny_pure (wpAny_pure z)
    | (wp_walk
       exact z)
/-- C(.., k = v): an exception of an own class over ValueError with its own __init__ -/
theorem call_kws (F : ExcBaseFacts B nw ini bmB) (hT : ∀ X : String, bm.contains (.type X) = bmB.contains (.type X)) {us : List Value} {kws : List (Str × Value)} {fI : Addr}
    (cls : h.get? C = some (excClassObj nm q C N bs bm hdct sn sub ab col dd k0 k1 k2 k3 k5 nw)) (short : us.length ≤ sizeLine)
    (look : W.Looks (model prog w) h (typeLookup (.ref C) "__init__") (some (.ref fI))) (bind : ∀ self, W.Looks (model prog w) h (bindSpecial (.ref fI) self) (.ref fI, [self]))
    (run : codeAny (model prog w) (A.under (.builtin "type.__call__" ⟨.ref C :: us, kws⟩)) (.call (.ref fI) ⟨.ref (h.objs.size + 1) :: us, kws⟩) (W.InitBack (h.objs.size + 1) R)
      ⟨(h.push (W.kdv_tup us)).push (excO C h.objs.size), g, d, t, os⟩) :
    codeAny (model prog w) A (.call (.ref C) ⟨us, kws⟩) R ⟨h, g, d, t, os⟩ := by
  have f1 := tc_lookup
  have f2 := tc_bind (.ref C)
  have ty : (⟨h, g, d, t, os⟩ : Shared).TypeIs (.ref C) "type" := ⟨_, cls, rfl⟩
  refine codeAny_of_tree ?_
  show wpAny _ _ (callAny (.ref C) _) _ _ _
  repeat (any_goals (first
    | assumption
    | with_reducible refine wpAny_loadPart_at cls ?_
    | wp_step))
  refine ⟨rfl, ?_⟩
  refine codeAny_call_builtin_at (Code.quiet_builtin _ (by decide +kernel)) entry_typeCall ?_
  refine wpAny_check_type_call_sub cls (type_runs F hT cls short look bind ?_)
  refine codeAny_mono run fun r s' z => ?_
  rcases r with e | (v | _ | _ | _) <;> exact z
end
end ErK
end PySem
set_option Elab.async false
set_option linter.all false
set_option maxRecDepth 100000
set_option maxHeartbeats 4000000
namespace PySem
namespace ErK
open PySem.W PySem.Calls PyProof.Rows PySem.HandSPX
/-! ### the text of an error's __init__: self.f = f -/
def tA (f : Str) (p1 p2 : Pos) : Arguments :=
  { posonlyargs := [], args := [{ arg := "self", annotation := none, pos := p1 }, { arg := f, annotation := none, pos := p2 }], vararg := none, kwonlyargs := [], kw_defaults := [], kwarg := none, defaults := [] }
def tB (f : Str) (q1 q2 q3 q4 : Pos) : List Stmt := [.Assign [.Attribute (.Name "self" q1) f q2] (.Name f q3) q4]
def tS (f : Str) : Scope :=
  { kind := .function, names := [(PySem.Str.ofString "self", .local), (f, .local)], isGenerator := false, isCoroutine := false, more := [] }
/-- the fields' names -/
def fields : List Str := ["value", "position", "spot", "limit", "deed", "count", "words"]
/-- what the written part says of an error's class, at C, and of its __init__, at fI -/
structure EC (K : Frag) (x f : Str) (C fI : Addr) : Prop where
  ox : L2.OexC K C
  noN : findIn K (.ref C) f = some none
  iC : findIn K (.ref C) "__init__" = some (some (.ref fI))
  tI : typeIn K (.ref fI) = some (.type "function")
  xf : L2.XfC K C
  xc : L2.ExcC K C
  fl : f ∈ fields
  fn : ∃ (oc : Value) (od : Option Addr) (kV doc pm : Value) (an : Option Addr) (cdv ct : Value) (osl : Array (Option Value)) (ql : Str) (p1 p2 q1 q2 q3 q4 : Pos),
    K.lookup fI = some ⟨oc, od, .func (fnOf "__init__" ql (tA f p1 p2) (tB f q1 q2 q3 q4) (tS f) .none kV doc pm an cdv ct), osl⟩ ∧ codeIn K cdv ql = true
/-- what __init__ leaves of a new exception at x -/
structure Left (h h' : Heap) (x C dx t1 : Addr) (f : Str) (v : Value) : Prop where
  keep : ∀ b o, b ≠ x → h.get? b = some o → h'.get? b = some o
  obj : h'.get? x = some { cls := .ref C, dict := some dx, data := .fields #[.ref t1, .none, .none, .none, .bool false, .none] }
  big : h.objs.size ≤ dx
  ne : dx ≠ x
  ns : h'.Ns1 dx (fun y => if y = f then some v else none)
theorem ld {M : Model} {s : Shared} {name : Str} {scope : Scope} {L a : Addr} {cd : Value} {m : Str → Option Value} {x : Str} {pos : Pos} {v : Value} {Q : Value → Shared → Prop} {A : Around} {E : Value → Shared → Prop}
    (ns : s.heap.Ns L m) (at_ : m x = some v) (fin : Q v s) (kd : scope.kind = .function := by rfl) (lo : (envOfC name scope L a cd).kindOf x = some .local := by rfl) (db : (x == ("__debug__" : Str)) = false := by decide) :
    wpAny M A (eval (.Name x pos) (envOfC name scope L a cd)) Q E s :=
  wpAny_Name (wpAny_loadName_local kd lo ns at_ fin) db
section
variable {prog : Program} {w : World} {A : Around} {R : Result → Shared → Prop} {s : Shared} {K : Frag} {x f : Str} {C fI : Addr}
theorem init_any (T : EC K x f C fI) {e t0 : Addr} {v : Value} {args : Args} (ha : args = ⟨[.ref e, v], []⟩ ∨ args = ⟨[.ref e], [(f, v)]⟩) (X : K.In s.heap) (lim : s.heap.NoLimit) (he : s.heap.get? e = some (excO C t0)) (room : A.depth < recursionLimit)
    (fin : ∀ h' tk dx, Left s.heap h' e C dx t0 f v → R (.ok (.ret .none)) { s with heap := h', toks := tk }) :
    codeAny (model prog w) A (.call (.ref fI) args) R s := by
  obtain ⟨oc, od, kV, doc, pm, an, cdv, ct, osl, ql, p1, p2, q1, q2, q3, q4, ho, hcd⟩ := T.fn
  obtain ⟨nm, q, N, bs, bm, sn, sub, ab, col, dd, k0, k1, k2, k3, k5, hC, hbm⟩ := T.ox.cls
  have hcl : clsIn K C = some { name := nm, bases := bs, mro := .ref C :: bm, ns := N, qualname := q, hasDict := true, slotNames := sn, subclasses := sub, abstract := ab, collection := col, hasDel := false } := by
    unfold clsIn
    rw [hC] <;> rfl
  have noN := T.noN
  have fl := T.fl
  have sa := T.ox.sa
  have step : ∀ {s₁ : Shared} {m : Str → Option Value} {sc : Scope} {cdv : Value} {A' : Around} {E' : Value → Shared → Prop} {Q' : Flow → Shared → Prop} {L : Addr} {ql : Str}, (∀ b o, s.heap.get? b = some o → s₁.heap.get? b = some o) → s₁.heap.Ns L m → s.heap.objs.size ≤ L → sc.kind = .function →
      (envOfC ql sc L fI cdv).kindOf "self" = some .local → (envOfC ql sc L fI cdv).kindOf f = some .local → (f == ("__debug__" : Str)) = false → m "self" = some (.ref e) → m f = some v → (swapsWith (.Name f q3) (some (.Attribute (.Name "self" q1) f q2)) q4.line (envOfC ql sc L fI cdv) = pure false) →
      (∀ (h₂ : Heap) (tk : Nat × Addr), Left s.heap h₂ e C tk.2 t0 f v → Q' .next { s₁ with heap := h₂, toks := tk.1 }) → wpAny (model prog w) A' (execs (tB f q1 q2 q3 q4) (envOfC ql sc L fI cdv)) Q' E' s₁ := by
    intro s₁ m sc cdv A' E' Q' L ql k hn hL kd l1 l2 db m1 m2 sw fin'
    have X₁ : K.In s₁.heap := X.keeps k
    have he₁ := k _ _ he
    refine wpAny_execs_cons (plainObj_wpAny_Assign_Attribute ?_ sw)
    refine ld (v := v) hn m2 (ld (v := .ref e) hn m1 ?_ kd l1) kd l2 db
    refine set_plain X₁ (ox := excO C t0) (od := none) ⟨he₁, rfl, rfl, trivial⟩ sa ?_
    obtain ⟨h₁, g₁, d₁, t₁, o₁⟩ := s₁
    refine exc_osa X₁ he₁ hcl (show refsVE (.ref C :: bm) = true from hbm) rfl noN (fun h₃ tk₃ dx k₃ dn dne hx₃ hn₃ => ?_)
    show wpAny _ _ (execs _ _) _ _ _
    have z : L < h₁.objs.size := hn.lt
    exact wpAny_execs_nil (fin' h₃ (tk₃, dx) ⟨fun b o hb q => k₃ b o hb (k b o q), hx₃, Nat.le_of_lt (Nat.lt_of_le_of_lt hL (Nat.lt_of_lt_of_le z dn)), dne, hn₃⟩)
  simp only [fields, List.mem_cons, List.not_mem_nil, or_false] at fl
  rcases ha with rfl | rfl <;> rcases fl with rfl | rfl | rfl | rfl | rfl | rfl | rfl
  all_goals
    refine Att.call_fn (binds := [("self", .ref e), (_, v)]) X lim ho hcd room (BindsTo.of_eq (by first | rfl | with_unfolding_all rfl)) (by first | rfl | decide | with_unfolding_all rfl) (fun s₁ IC => ?_) rfl rfl rfl
    obtain ⟨h₁, tk₁, rfl⟩ := IC.toInCall.same
    refine step (m := _) IC.toInCall.keep IC.toInCall.ns (Nat.le_refl _) rfl rfl rfl (by decide) (by first | rfl | with_unfolding_all rfl | kernel_rfl) (by first | rfl | with_unfolding_all rfl | kernel_rfl) (by rfl) fun h₂ tk z => fin h₂ tk.1 tk.2 z
end
end ErK
end PySem
set_option Elab.async false
set_option linter.all false
set_option maxRecDepth 100000
set_option maxHeartbeats 4000000
namespace Er
open PySem PySem.Spec PyProof.Rows L2
open PySem.ErK (EC)
/-- what stood stands -/
def Sm (H H' : Hp) : Prop := ∀ b o, H b = some o → H' b = some o
theorem Sm.refl (H : Hp) : Sm H H := fun _ _ e => e
theorem Sm.trans {H H1 H2 : Hp} (a : Sm H H1) (b : Sm H1 H2) : Sm H H2 := fun c o e => b c o (a c o e)
theorem Sm.new {H : Hp} {a : Addr} {o : HO} (n : H a = none) : Sm H (upd H a o) := fun b u e => by
  rw [upd_ne (ne_of_none e n)]
  exact e
section
variable {X : Cx} {pins : List (Addr × Obj)} {σ : L2.St} {H : Hp} {s : Shared}
/-- two new objects at once -/
theorem laid2 {h' : Heap} {a d : Addr} {o u : HO} {t' : Nat} (I : Inv X pins σ H s) (k : ∀ b v, s.heap.get? b = some v → h'.get? b = some v) (la : s.heap.objs.size ≤ a) (ld : s.heap.objs.size ≤ d) (ne : d ≠ a)
    (oa : ObjOk X.prog X.w (upd (upd H d u) a o) h' a o) (od : ObjOk X.prog X.w (upd (upd H d u) a o) h' d u) :
    Inv X pins σ (upd (upd H d u) a o) { s with heap := h', toks := t' } := by
  have na := I.hok.fresh la
  have nd := I.hok.fresh ld
  have lt : ∀ {b : Addr} {v : Obj} {c : Addr}, s.heap.get? b = some v → s.heap.objs.size ≤ c → b ≠ c := fun q z => Nat.ne_of_lt (Nat.lt_of_lt_of_le (Heap.lt_size q) z)
  have st : ∀ {b : Addr} {v : HO}, H b = some v → upd (upd H d u) a o b = some v := fun {b v} q => by
    rw [upd_ne (ne_of_none q na), upd_ne (ne_of_none q nd)]
    exact q
  have U : Un X.fs [] H (upd (upd H d u) a o) s.heap h' := {
    keep := fun b v q _ _ _ => k b v q
    slot := fun b v q _ _ _ => ⟨v.slots, k b v q⟩
    free := fun b v q n _ => by
      rw [upd_ne (lt q la), upd_ne (lt q ld)]
      exact n
    there := fun b v q _ => ⟨v, k b v q⟩
    tups := fun b xs q => st q
    frzs := fun b v xs q => st q
    tbls := fun b ps q => ⟨#[], by
      rw [st q]
      simp⟩ }
  refine I.un (t' := t') U fun b v q => ?_
  by_cases hb : b = a
  · subst hb
    rw [upd_same] at q
    cases q
    exact oa
  · rw [upd_ne hb] at q
    by_cases hd : b = d
    · subst hd
      rw [upd_same] at q
      cases q
      exact od
    · rw [upd_ne hd] at q
      exact (I.hok b v q).stay (fun c z _ y => k c z y) (fun c y => st y) fun c xs y => st y
end
/-! ### errors as values -/
/-- v is an error of the class at C, whose only field f holds y -/
def IsE (H : Hp) (v : V) (C : Addr) (f : Str) (y : V) : Prop :=
  ∃ a d : Addr, v = .ref a ∧ H a = some (exo a C (some d)) ∧ H d = some (exd d [(f, y)])
theorem IsE.mono {H H' : Hp} {v : V} {C : Addr} {f : Str} {y : V} (e : IsE H v C f y) (k : Sm H H') : IsE H' v C f y := by
  obtain ⟨a, d, e1, e2, e3⟩ := e
  exact ⟨a, d, e1, k _ _ e2, k _ _ e3⟩
/-- the reading of X(e), X(f = e) -/
def tNew (C : Addr) (f : Str) (te : TE) : TE := fun σ H Q => te σ H fun y H1 => ∀ v H2, Sm H1 H2 → IsE H2 v C f y → Q v H2
theorem rel_one {y : V} {u : Value} (f : Str) (r : RelV y u) (g : Str) : RelO (List.lookup g [(f, y)]) (if g = f then some u else none) := by
  by_cases hw : g = f
  · subst hw
    rw [if_pos rfl]
    have q : List.lookup g [(g, y)] = some y := by simp [List.lookup]
    rw [q]
    exact r
  · rw [if_neg hw]
    have qw : (g == f) = false := by simpa using hw
    have q2 : List.lookup g [(f, y)] = none := by simp [List.lookup, qw]
    rw [q2]
    trivial
section
variable {X : Cx} {x f : Str} {C fI : Addr}
/-- the call itself, whichever way the value is handed in -/
theorem run_new {pins : List (Addr × Obj)} {σ : L2.St} {H : Hp} {s : Shared} {Q : VK} {y : V} {u : Value} {us : List Value} {kw : List (Str × Value)} (T : EC X.K x f C fI) (hr : Room 1 X.A) (I : Inv X pins σ H s) (r : RelV y u)
    (ha : (us = [u] ∧ kw = []) ∨ (us = [] ∧ kw = [(f, u)])) (h : ∀ v H2, Sm H H2 → IsE H2 v C f y → Q v H2) :
    wpAny (model X.prog X.w) X.A (call (.ref C) us kw) (EP X pins σ Q) X.xe s := by
  obtain ⟨nm, q, N, bs, bm, sn, sub, ab, col, dd, k0, k1, k2, k3, k5, hC, hbm⟩ := T.ox.cls
  have hlim := I.nolimit
  have kIn := I.kIn
  obtain ⟨hp, g, dr, tk, os⟩ := s
  have short : us.length ≤ sizeLine := by
    rw [sizeLine_eq]
    rcases ha with ⟨rfl, _⟩ | ⟨rfl, _⟩
    · exact (by decide : 1 ≤ 16777216)
    · exact (by decide : 0 ≤ 16777216)
  have k : ∀ b o, hp.get? b = some o → ((hp.push (PySem.W.kdv_tup us)).push (PySem.HandSPX.excO C hp.objs.size)).get? b = some o :=
    fun b o e => Heap.get?_push_of_some _ (Heap.get?_push_of_some _ e)
  have new : ((hp.push (PySem.W.kdv_tup us)).push (PySem.HandSPX.excO C hp.objs.size)).get? (hp.objs.size + 1) = some (PySem.HandSPX.excO C hp.objs.size) := by
    heap_get
  refine wpAny_call (PySem.ErK.call_kws F.excBase_ValueError (fun Y => PySem.HandSPX.refsVE_contains Y bm hbm) (kIn _ _ hC) short (PySem.W.looks_findIn kIn T.iC) (fun self => PySem.W.bind_fn kIn self T.tI) ?_)
  refine PySem.ErK.init_any (s := ⟨(hp.push (PySem.W.kdv_tup us)).push (PySem.HandSPX.excO C hp.objs.size), g, dr, tk, os⟩) (e := hp.objs.size + 1) (v := u) T ?_ (PySem.W.Frag.In.keeps kIn k) (hlim.keeps k) new ?_ fun h' tk' dx ⟨k', hx, dn, dne, hns⟩ => ?_
  · rcases ha with ⟨rfl, rfl⟩ | ⟨rfl, rfl⟩
    · exact .inl rfl
    · exact .inr rfl
  · have z := hr.dp
    show (X.A.under _).depth < recursionLimit
    rw [make_depth]
    omega
  · have old : ∀ b o, hp.get? b = some o → h'.get? b = some o :=
      fun b o e => k' b o (Nat.ne_of_lt (Nat.lt_succ_of_lt (Heap.lt_size e))) (k b o e)
    have big : hp.objs.size ≤ dx := by
      have z : hp.objs.size + 1 + 1 ≤ dx := by
        first
          | exact dn
          | (have q := dn
             rw [Heap.size_push, Heap.size_push] at q
             exact q)
          | (simpa only [Heap.size_push] using dn)
      exact Nat.le_trans (Nat.le_trans (Nat.le_succ _) (Nat.le_succ _)) z
    have J : Inv X pins σ (upd (upd H dx (exd dx [(f, y)])) (hp.objs.size + 1) (exo (hp.objs.size + 1) C (some dx))) ⟨h', g, dr, tk', os⟩ :=
      laid2 (t' := tk') I old (Nat.le_succ _) big dne (exo_ok hx) (exd_ok hns (rel_one f r))
    have n1 : H (hp.objs.size + 1) = none := I.hok.fresh (Nat.le_succ _)
    have n2 : H dx = none := I.hok.fresh big
    refine ⟨rfl, .ref (hp.objs.size + 1), _, J, rfl, h _ _ (fun b o e => ?_) ⟨_, dx, rfl, upd_same, ?_⟩⟩
    · rw [upd_ne (ne_of_none e n1), upd_ne (ne_of_none e n2)]
      exact e
    · rw [upd_ne dne]
      exact upd_same
/-- X(e) -/
theorem pe_new {e : Expr} {te : TE} {p pos : Pos} (T : EC X.K x f C fI) (hr : Room 1 X.A) (gl : Gl X x) (gC : X.mg x = some (.ref C)) (he : PE X e te) (db : (x == ("__debug__" : Str)) = false := by decide)
    (hs : starEach [e] X.env = (false, eval e X.env) :: starEach [] X.env := by rfl) (hp : (backTo pos (starEach [] X.env)).any (·.1) = false := by rfl) :
    PE X (.Call (.Name x p) [e] [] pos) (tNew C f te) := by
  refine ⟨fun pins s σ H Q I h => ?_⟩
  refine wpAny_Call_Name_kw (ld_glob I gl gC ?_ db)
  refine PySem.W.callWith_K (h₀ := X.base) I.ok.mod.kin T.ox.kC ?_ hs hp
  rw [hs]
  show wpAny _ _ (spliced ((false, eval e X.env) :: backTo pos (starEach [] X.env))) _ _ s
  refine Calls.spliced_cons (thn (he.run pins s σ H _ I h) fun u s1 ⟨y, H1, I1, r1, q1⟩ => ?_)
  refine Calls.spliced_nil ⟨I1.kIn, ?_⟩
  exact run_new T hr I1 r1 (.inl ⟨rfl, rfl⟩) q1
/-- X(f = e) -/
theorem pe_newK {e : Expr} {te : TE} {p pos kp : Pos} (T : EC X.K x f C fI) (hr : Room 1 X.A) (gl : Gl X x) (gC : X.mg x = some (.ref C)) (he : PE X e te) (db : (x == ("__debug__" : Str)) = false := by decide) :
    PE X (.Call (.Name x p) [] [⟨some f, e, kp⟩] pos) (tNew C f te) := by
  refine ⟨fun pins s σ H Q I h => ?_⟩
  refine wpAny_Call_Name_kw (ld_glob I gl gC ?_ db)
  refine PySem.W.callWith_KW0 (h₀ := X.base) I.ok.mod.kin T.ox.kC (by rfl) ?_
  show wpAny _ _ (evalAll [(do
    let v ← eval e X.env
    standAt pos
    pure v)]) _ _ s
  refine wpAny_evalAll_cons (wpAny_bind (thn (he.run pins s σ H _ I h) fun u s1 ⟨y, H1, I1, r1, q1⟩ => wpAny_bind (wpAny_standAt (wpAny_pure ?_))))
  refine wpAny_evalAll_nil ⟨I1.kIn, ?_⟩
  exact run_new T hr I1 r1 (.inr ⟨rfl, rfl⟩) q1
/-- e.f, e an error -/
def tGet (K : PySem.W.Frag) (f : Str) (te : TE) : TE := fun σ H Q => te σ H fun v H1 => ∃ (x : Str) (C fI : Addr) (y : V), EC K x f C fI ∧ IsE H1 v C f y ∧ Q y H1
theorem pe_get {e : Expr} {te : TE} {pos : Pos} (he : PE X e te) (hb : attributeBase e f X.env (eval e X.env) = eval e X.env := by rfl) : PE X (.Attribute e f pos) (tGet X.K f te) := by
  refine ⟨fun pins s σ H Q I h => ?_⟩
  refine attr_of hb (thn (he.run pins s σ H _ I h) fun u s1 hh => ?_)
  obtain ⟨v, H1, I1, rv, x, C, fI, y, T, ⟨a, d, rfl, ea, ed⟩, q⟩ := hh
  obtain rfl : u = Value.ref a := rv
  obtain ⟨t1, ho⟩ := exo_at I1.hok ea
  obtain ⟨mA, hns, hrel⟩ := exd_at I1.hok ed
  obtain ⟨od, hd, hl⟩ := lookIn_ns hns
  have l : List.lookup f [(f, y)] = some y := by simp [List.lookup]
  obtain ⟨u', hu, ru⟩ := RelO.some_of (v := y) (o := mA f) (by
    rw [← l]
    exact hrel f)
  have J : PySem.W.InstAt s1.heap a { cls := .ref C, dict := some d, data := .fields #[.ref t1, .none, .none, .none, .bool false, .none] } C (some od) := ⟨ho, rfl, rfl, hd⟩
  exact HandSPX.exc_get I1.kIn J T.xf.ga T.xf.gg T.xf.exC (PySem.W.findObj_own T.xf.hdC T.noN rfl (by rw [hl, hu])) (handed_of ru) ⟨y, H1, I1.tok _, ru, q⟩
end
end Er
set_option Elab.async false
set_option linter.all false
set_option maxRecDepth 100000
set_option maxHeartbeats 4000000
namespace PySem
namespace ErK
open PySem.W PySem.Calls PyProof.Rows PySem.HandSPX PySem.Spec
section
variable {prog : Program} {w : World} {A : Around} {E : Value → Shared → Prop} {s : Shared} {K : Frag} {x D : Addr} {ox : Obj} {od : Option Obj}
theorem found_data {C : Addr} {name : Str} {b g : Value} (c : (clsIn K C).isSome = true) (f : findIn K (.ref C) name = some (some b)) (g1 : specialIn K b "__get__" = some (some g)) (t1 : takesIn K b = some true) :
    findObj K C od name = some (.bind g b) := by
  obtain ⟨cd, c⟩ := Option.isSome_iff_exists.mp c
  unfold findObj
  rw [c, Option.bind_some, f, Option.bind_some]
  simp [g1, t1]
/-- x.__class__, x an error with its dict -/
theorem cls_asked {Q : Option Value → Shared → Prop} (T : L2.ExcC K D) (X : K.In s.heap) (I : InstAt s.heap x ox D od) (fin : Q (some (.ref D)) { s with toks := s.toks + 1 }) :
    wpAny (model prog w) A (getAttr? (.ref x) "__class__") Q E s := by
  have hf : findObj K D od "__class__" = some (.bind (.builtin "getset_descriptor.__get__") (.builtin "object.__class__")) := found_data (by
    obtain ⟨cd, hc, _⟩ := any_some T.hd
    rw [hc]
    rfl) T.ha T.hn T.ht
  obtain ⟨hp, g, d, t, os⟩ := s
  have l0 := I.type (M := model prog w)
  have l1 := looks_findIn (M := model prog w) X T.hg
  have l2 := looks_findIn (M := model prog w) X T.hk
  have l3 := looks_find (M := model prog w) X I hf
  have isB : Looks (model prog w) hp (isInstance (.ref x) (.type "BaseException")) true := l0.andThen (looks_subIn X T.hs)
  have z0 : (false && onTheHeap (Value.builtin "BaseException.__getattribute__")) = false := rfl
  have z2 : (Value.builtin "BaseException.__getattribute__" == Value.builtin "object.__getattribute__") = false := by
    decide +kernel
  have z1 : (onTheHeap (Value.ref D) && Value.builtin "BaseException.__getattribute__" == Value.builtin "object.__getattribute__") = false := by
    rw [z2]
    rfl
  unfold getAttr? getAttrBy? getAttrBy
  refine wpAny_bind (wpAny_mkText (wpAny_bind (wpAny_attempt (wpAny_holding (wpAny_bind (l0.at (wpAny_bind (l1.at ?_))))))))
  show wpAny _ _ (if (onTheHeap (Value.ref D) && Value.builtin "BaseException.__getattribute__" == Value.builtin "object.__getattribute__") = true then _ else _) _ _ _
  rw [z1, if_neg Bool.false_ne_true]
  unfold getAttrByItsOwn hookBefore
  refine wpAny_bind ?_
  rw [if_pos (show onTheHeap (Value.ref D) = true from rfl)]
  refine l2.at ?_
  refine wpAny_bind (wpAny_attempt (wpAny_holding ?_))
  unfold callGetattribute
  rw [z0, if_neg Bool.false_ne_true]
  unfold boundAndCalled
  rw [PySem.F.excAttr_ValueError.ga.bind (.ref x)]
  refine wpAny_bind (wpAny_pure ?_)
  show wpAny _ _ (call (.builtin "BaseException.__getattribute__") [.ref x, .str "__class__" t]) _ _ _
  refine wpAny_call (codeAny_call_builtin PySem.F.excAttr_ValueError.ga.plain PySem.F.entry_bexc_ga ?_)
  refine @check_slot (model prog w) _ _ ⟨hp, g, d, t + 1, os⟩ "BaseException.__getattribute__" "BaseException" "__getattribute__" (.ref x) [.str "__class__" t] [] _ (by decide +kernel) (by decide +kernel) isB (PySem.F.args_bexc_ga (.ref x) (.str "__class__" t)) ?_
  unfold Builtin.«object.__getattribute__»
  refine wpAny_bind (wpAny_of_eq (a := ((Value.ref x : Value), [Value.str "__class__" t])) (by
    first
      | rfl
      | (simp only [slotArgs]
         rfl)) ?_)
  refine wpAny_bind (wpAny_pure (wpAny_bind (l0.at (wpAny_bind (l3.at ?_)))))
  show wpAny _ _ (holding [Value.builtin "object.__class__"] (call (.builtin "getset_descriptor.__get__") [.builtin "object.__class__", .ref x, .ref D]) >>= ret) _ _ _
  refine wpAny_bind (wpAny_holding (wpAny_call (class_get (s := ⟨hp, g, d, t + 1, os⟩) (ox := ox) (od := od) X I T.hm ?_)))
  refine wpAny_pure ?_
  show wpAny _ _ (handedOut (.ref D)) _ _ _
  rw [handedOut_of (v := .ref D) rfl]
  first
    | exact wpAny_pure (wpAny_bind (wpAny_pure (wpAny_pure fin)))
    | exact wpAny_pure (wpAny_pure fin)
    | exact wpAny_pure fin
/-- what isinstance's rules ask of such an error -/
theorem kit_err (T : L2.ExcC K D) : KitX K (.ref x) (.ref D) (fun h => InstAt h x ox D od) where
  ty := fun _ _ _ I => I.type
  it := fun _ _ X _ => by
    obtain ⟨cdD, hcD, _⟩ := any_some T.hd
    unfold clsIn at hcD
    split at hcD
    · rename_i c' d' cd' sl' ho
      intro A' Q' E' s' k q
      unfold isType loadHead
      exact wpAny_bind (wpAny_loadPart (k _ _ (X _ _ ho)) (wpAny_pure q))
    · cases hcD
  ne := fun h tp dd its n sl X at_ => by
    obtain ⟨cdD, hcD, _⟩ := any_some T.hd
    refine Bool.eq_false_iff.mpr fun q => ?_
    have e : D = tp := Value.ref.inj (beq_iff_eq.mp q)
    subst e
    unfold clsIn at hcD
    split at hcD
    · rename_i c' d' cd' sl' ho
      have z := (X _ _ ho).symm.trans at_
      cases z
    · cases hcD
  ca := fun X I fin => cls_asked T X I fin
end
end ErK
end PySem
namespace Er
open PySem PySem.Spec PyProof.Rows L2
open PySem.ErK (EC)
section
variable {X : Cx}
/-- isinstance(e, c), e an error -/
def rIsA (K : PySem.W.Frag) : List V → Hp → VK → Prop := fun xs H Q => ∃ (v c : V) (cu : Value) (x f : Str) (C fI : Addr) (y : V) (b : Bool), xs = [v, c] ∧ ClsV c cu ∧ EC K x f C fI ∧ IsE H v C f y ∧ PySem.W.kitOne K (.ref C) cu = some b ∧ Q (.bl b) H
theorem call_isA : CallR X (.builtin "isinstance") (rIsA X.K) := by
  intro pins s σ H xs us Q I r h
  obtain ⟨v, c, cu, x, f, C, fI, y, b, rfl, k, T, ⟨a, d, rfl, ea, ed⟩, e, q⟩ := h
  obtain ⟨u1, u2, rfl, r1, r2⟩ := vals2 r
  have e2 := k.eq r2
  subst e2
  obtain rfl : u1 = Value.ref a := r1
  obtain ⟨t1, ho⟩ := exo_at I.hok ea
  obtain ⟨mA, hns, hrel⟩ := exd_at I.hok ed
  obtain ⟨od, hd, hl⟩ := lookIn_ns hns
  have J : PySem.W.InstAt s.heap a { cls := .ref C, dict := some d, data := .fields #[.ref t1, .none, .none, .none, .bool false, .none] } C (some od) := ⟨ho, rfl, rfl, hd⟩
  exact PySem.W.kia_one (PySem.ErK.kit_err T.xc) I.kIn J e (fun z => nomatch z) fun tk => ⟨.bl b, H, I.tok tk, rfl, q⟩
end
end Er
set_option Elab.async false
set_option linter.all false
set_option maxRecDepth 100000
set_option maxHeartbeats 4000000
namespace Er
open PySem PySem.Spec PyProof.Rows L2
/-! ### ** of a great number -/
def CPw (i j : Int) : Prop := 0 ≤ j ∧ (Builtin.Int.intBits i : Int) * j ≤ 2 ^ 27
theorem op_powB {X : Cx} : OpR X (binaryOp .Pow) (rI CPw fun i j => .int (i ^ j.toNat)) := opI fun _ _ _ _ _ _ _ hc q => pow_int hc.1 hc.2 q
/-! ### repr of a list that holds one thing again and again -/
/-- None, a bool, a number, a text -/
inductive Flat : V → PyData → Prop where
  | non : Flat .non .none
  | bl (b : Bool) : Flat (.bl b) (.bool b)
  | int (i : Int) (h : i.natAbs.log2 < 1920) : Flat (.int i) (.int i)
  | str (x : Str) : Flat (.str x) (.str x)
inductive Flats : List V → List PyData → Prop where
  | nil : Flats [] []
  | cons {v : V} {d : PyData} {vs : List V} {ds : List PyData} (h : Flat v d) (r : Flats vs ds) : Flats (v :: vs) (d :: ds)
/-- a thing: flat, or a list, a tuple, a dict with text keys of flat ones -/
inductive Thing (H : Hp) : V → PyData → Prop where
  | flat {v : V} {d : PyData} (h : Flat v d) : Thing H v d
  | lst {a : Addr} {xs : List V} {ds : List PyData} (e : H a = some (.lst xs)) (h : Flats xs ds) : Thing H (.ref a) (.list ds)
  | tup {a : Addr} {xs : List V} {ds : List PyData} (e : H a = some (.tup xs)) (h : Flats xs ds) : Thing H (.ref a) (.tuple ds)
  | dct {a : Addr} {ks : List Str} {xs : List V} {ds : List PyData} (e : H a = some (.dK ((ks.map Sum.inr).zip xs))) (l : ks.length = xs.length) (h : Flats xs ds) : Thing H (.ref a) (.dict ((ks.map PyData.str).zip ds))
theorem Flats.len {vs : List V} {ds : List PyData} (h : Flats vs ds) : vs.length = ds.length := by
  induction h with
  | nil => rfl
  | cons _ _ ih => simp [ih]
theorem Flat.reads {h : Heap} {v : V} {u : Value} {d : PyData} (f : Flat v d) (r : RelV v u) : Reads h u d [] := by
  cases f with
  | non =>
    cases (show u = Value.none from r)
    exact .none
  | bl b =>
    cases (show u = Value.bool b from r)
    exact .bool b
  | int i _ =>
    obtain ⟨t, q⟩ := (show ∃ t, u = Value.int i t from r)
    cases q
    exact .int i t
  | str x =>
    obtain ⟨t, q⟩ := (show ∃ t, u = Value.str x t from r)
    cases q
    exact .str x t
theorem Flats.reads {h : Heap} {vs : List V} {ds : List PyData} (f : Flats vs ds) : ∀ {us : List Value}, Vals vs us → ReadsAll h us ds [] := by
  induction f with
  | nil =>
    intro us r
    cases r
    exact .nil
  | cons f1 _ ih =>
    intro us r
    cases r with
    | cons r1 r2 => exact ReadsAll.cons (as := []) (bs := []) (f1.reads r1) (ih r2)
theorem Flat.show {v : V} {d : PyData} (f : Flat v d) : d.showable = true ∧ d.depth ≤ 1 := by
  cases f with
  | non => exact ⟨rfl, by decide⟩
  | bl b => exact ⟨rfl, by simp [PyData.depth]⟩
  | int i h => exact ⟨by simpa [PyData.showable] using h, by simp [PyData.depth]⟩
  | str x => exact ⟨rfl, by simp [PyData.depth]⟩
theorem Flats.show {vs : List V} {ds : List PyData} (f : Flats vs ds) : PyData.showableAll ds = true ∧ PyData.depthAll ds ≤ 1 := by
  induction f with
  | nil => exact ⟨by simp [PyData.showableAll], by simp [PyData.depthAll]⟩
  | cons f1 _ ih =>
    have h1 := f1.show
    exact ⟨by simp [PyData.showableAll, h1.1, ih.1], by
      have h2 := h1.2
      have h3 := ih.2
      simp only [PyData.depthAll]
      omega⟩
theorem rep_reads {h : Heap} {u : V} {d : PyData} {as : List Addr} (f : ∀ w, RelV u w → Reads h w d as) : ∀ (n : Nat) {us : List Value}, Vals (List.replicate n u) us → ∃ bs, ReadsAll h us (List.replicate n d) bs ∧ ∀ b ∈ bs, b ∈ as
  | 0, us, r => by
    cases r
    exact ⟨[], .nil, fun b z => nomatch z⟩
  | n + 1, us, r => by
    rw [List.replicate_succ] at r
    cases r with
    | cons r1 r2 =>
      obtain ⟨bs, h1, h2⟩ := rep_reads f n r2
      rw [List.replicate_succ]
      refine ⟨as ++ bs, .cons (f _ r1) h1, fun b z => ?_⟩
      rcases List.mem_append.mp z with z | z
      · exact z
      · exact h2 b z
theorem rep_show {d : PyData} (h : d.showable = true) : ∀ n : Nat, PyData.showableAll (List.replicate n d) = true ∧ PyData.depthAll (List.replicate n d) ≤ d.depth
  | 0 => ⟨by simp [PyData.showableAll], by simp [PyData.depthAll]⟩
  | n + 1 => by
    have ih := rep_show h n
    rw [List.replicate_succ]
    exact ⟨by simp [PyData.showableAll, h, ih.1], by
      have h3 := ih.2
      simp only [PyData.depthAll]
      omega⟩
theorem rep_len (d : PyData) : ∀ n : Nat, ((PyData.shownAll (List.replicate n d)).map (·.length)).sum = n * d.shown.length ∧ (PyData.shownAll (List.replicate n d)).length = n
  | 0 => by simp [PyData.shownAll]
  | n + 1 => by
    have ih := rep_len d n
    rw [List.replicate_succ]
    simp only [PyData.shownAll, List.map_cons, List.sum_cons, List.length_cons]
    rw [ih.1, ih.2, Nat.succ_mul]
    exact ⟨Nat.add_comm _ _, rfl⟩
theorem kvs_show : ∀ {ks : List Str} {ds : List PyData}, PyData.showableAll ds = true → PyData.depthAll ds ≤ 1 → PyData.showableKv ((ks.map PyData.str).zip ds) = true ∧ PyData.depthKv ((ks.map PyData.str).zip ds) ≤ 1
  | [], ds, _, _ => by simp [PyData.showableKv, PyData.depthKv]
  | k :: ks, [], _, _ => by simp [PyData.showableKv, PyData.depthKv]
  | k :: ks, d :: ds, h1, h2 => by
    simp only [PyData.showableAll, Bool.and_eq_true] at h1
    simp only [PyData.depthAll] at h2
    have ih := kvs_show (ks := ks) h1.2 (by omega)
    simp only [List.map_cons, List.zip_cons_cons]
    refine ⟨by simp [PyData.showableKv, PyData.showable, h1.1, ih.1], ?_⟩
    have h3 := ih.2
    simp only [PyData.depthKv, PyData.depth]
    omega
theorem Thing.show {H : Hp} {v : V} {d : PyData} (t : Thing H v d) : d.showable = true ∧ d.depth ≤ 4 := by
  cases t with
  | flat h => exact ⟨h.show.1, Nat.le_trans h.show.2 (by decide)⟩
  | lst e h =>
    have z := h.show
    exact ⟨by simpa [PyData.showable] using z.1, by
      have z2 := z.2
      simp only [PyData.depth]
      omega⟩
  | tup e h =>
    have z := h.show
    exact ⟨by simpa [PyData.showable] using z.1, by
      have z2 := z.2
      simp only [PyData.depth]
      omega⟩
  | @dct a ks xs ds e l h =>
    have z := kvs_show (ks := ks) h.show.1 h.show.2
    exact ⟨by simpa [PyData.showable] using z.1, by
      have z2 := z.2
      simp only [PyData.depth]
      omega⟩
/-- the dict of all modules is the text's own -/
def IsSys (K : PySem.W.Frag) : Prop := ∃ (o : Obj) (es : Array DictEntry) (n : Nat), K.lookup sysModules = some o ∧ o.data = .dict es n
section
variable {X : Cx} {pins : List (Addr × Obj)} {σ : L2.St} {H : Hp} {s : Shared}
theorem not_sys (S : IsSys X.K) (I : Inv X pins σ H s) {a : Addr} {o : Obj} {its : Array Value} {n : Nat} (e : s.heap.get? a = some o) (d : o.data = .seq its n) : a ≠ sysModules := fun z => by
  obtain ⟨o2, es, n2, hk, hd⟩ := S
  have e2 := I.kIn _ _ hk
  rw [z, e2] at e
  cases e
  rw [hd] at d
  cases d
theorem pairs_reads {h : Heap} : ∀ {ks : List Str} {xs : List V} {ds : List PyData} {vs : List (Key × Value)} {es : List DictEntry}, KV ((ks.map Sum.inr).zip xs) vs → Pairs (mixKind X.prog X.w) es vs → ks.length = xs.length → Flats xs ds →
    ReadsAll h (es.map (·.key)) (((ks.map PyData.str).zip ds).map (·.1)) [] ∧ ReadsAll h (es.map (·.val)) (((ks.map PyData.str).zip ds).map (·.2)) []
  | [], [], _, vs, es, r, p, _, f => by
    cases f
    cases r
    cases p
    exact ⟨.nil, .nil⟩
  | k :: ks, x :: xs, _, vs, es, r, p, l, f => by
    cases f with
    | cons f1 f2 =>
      cases r with
      | cons r1 r2 =>
        cases p with
        | @cons e kv es' kvs' p1 p2 p3 =>
          obtain ⟨q1, q2⟩ := r1
          have ih := pairs_reads (h := h) r2 p3 (by simpa using l) f2
          have hk : keyIs (Sum.inr k) e.key = true := by
            have z : (mixKind X.prog X.w).is _ e.key = true := p1
            rw [← q1] at z
            exact z
          rcases keyIs_shape hk with ⟨i, t, z, _⟩ | ⟨y, t, z, w⟩
          · cases z
          · cases z
            refine ⟨ReadsAll.cons (as := []) (bs := []) ?_ ih.1, ReadsAll.cons (as := []) (bs := []) ?_ ih.2⟩
            · show Reads h e.key (PyData.str k) []
              rw [w]
              exact .str _ _
            · show Reads h e.val _ []
              rw [p2]
              exact f1.reads q2
theorem Thing.reads (S : IsSys X.K) (I : Inv X pins σ H s) {v : V} {d : PyData} (t : Thing H v d) : ∃ as : List Addr, (∀ u, RelV v u → Reads s.heap u d as) ∧ sysModules ∉ as := by
  cases t with
  | flat h => exact ⟨[], fun u r => h.reads r, fun z => nomatch z⟩
  | @lst a xs ds e h =>
    obtain ⟨_, its, n, rv, ho⟩ := (show ObjOk X.prog X.w H s.heap a (.lst xs) from I.hok a _ e)
    have ne := not_sys S I ho rfl
    refine ⟨[a], fun u r => ?_, fun z => ne (List.mem_singleton.mp z).symm⟩
    cases (show u = Value.ref a from r)
    exact Reads.list ho rfl rfl (by simpa using h.reads rv)
  | @tup a xs ds e h =>
    obtain ⟨_, its, rv, o, ho, hc, n, hd⟩ := (show ObjOk X.prog X.w H s.heap a (.tup xs) from I.hok a _ e)
    refine ⟨[], fun u r => ?_, fun z => nomatch z⟩
    cases (show u = Value.ref a from r)
    exact Reads.tuple ho hc hd (by simpa using h.reads rv)
  | @dct a ks xs ds e l h =>
    obtain ⟨_, ns, vs, kv, o, es, ep, ho, hx, hd, _, hp, _⟩ := (show ObjOk X.prog X.w H s.heap a (.dK _) from I.hok a _ e)
    have ne : a ≠ sysModules := beq_eq_false_iff_ne.mp ns
    have z := pairs_reads (h := s.heap) kv hp l h
    refine ⟨[a], fun u r => ?_, fun z => ne (List.mem_singleton.mp z).symm⟩
    cases (show u = Value.ref a from r)
    exact Reads.dict (as := []) (bs := []) ho hx.1 hd z.1 z.2
/-- repr of n times one thing -/
def rShw : List V → Hp → VK → Prop := fun xs H Q => ∃ (p : Addr) (n : Nat) (v : V) (d : PyData), xs = [.ref p] ∧ H p = some (.lst (List.replicate n v)) ∧ Thing H v d ∧ n ≤ 1000 ∧ d.shown.length ≤ 1000 ∧ Q (.str (PyData.shown (.list (List.replicate n d)))) H
theorem call_rep (S : IsSys X.K) (hg : X.A.guards = some []) (hu : X.A.units + 64 < cLine) : CallR X (.builtin "repr") rShw := by
  intro pins s σ H xs us Q I r h
  obtain ⟨p, n, v, d, rfl, e, t, hn, hd, q⟩ := h
  cases r with
  | cons rp rr =>
    cases rr
    rename_i u
    obtain rfl : u = Value.ref p := rp
    obtain ⟨_, its, m, rv, ho⟩ := (show ObjOk X.prog X.w H s.heap p (.lst _) from I.hok p _ e)
    have ne := not_sys S I ho rfl
    obtain ⟨as, f, nas⟩ := t.reads S I
    obtain ⟨bs, hr, sub⟩ := rep_reads f n rv
    have hsh := rep_show t.show.1 n
    have rd : Reads s.heap (.ref p) (.list (List.replicate n d)) (p :: bs) := Reads.list ho rfl rfl (by simpa using hr)
    have dp := t.show.2
    have hl := rep_len d n
    have size : (PyData.shown (.list (List.replicate n d))).length ≤ sizeLine := by
      have z := listText_len_le (PyData.shownAll (List.replicate n d))
      rw [hl.1, hl.2] at z
      have m1 : n * d.shown.length ≤ 1000 * 1000 := Nat.mul_le_mul hn hd
      simp only [PyData.shown]
      rw [sizeLine_eq]
      omega
    refine repr_of_reads' rd (by simpa [PyData.showable] using hsh.1) (fun _ z => ?_) hg ?_ (fun _ _ z => z) (fun h' u tk k => ⟨.str _, H, ?_, ⟨u, rfl⟩, q⟩) size
    · rcases List.mem_cons.mp z with z | z
      · exact ne z.symm
      · exact nas (sub _ z)
    · have z := hsh.2
      simp only [PyData.depth]
      omega
    · exact I.kept (t' := tk) k
end
end Er
set_option Elab.async false
set_option linter.all false
set_option maxRecDepth 100000
set_option maxHeartbeats 4000000
namespace Dk
open PySem PySem.Spec PyProof.Rows L2 Er
def top (i : Nat) : Stmt := PySem.Challenge.pw_lateeditions_k31_changes_put_together.main.body.getD i (.Pass ⟨0, 0, 0, 0⟩)
abbrev FnP (K : PySem.W.Frag) (x : Str) (st : Stmt) (f : Addr) (fd : FuncData) : Prop := FunD K x x (defArgs st) (defBody st) (defScope st) [] [] f fd
/-! ### numbers -/
theorem bits_lt {z : Int} {n : Nat} (h : Builtin.Int.intBits z ≤ n) : z.natAbs < 2 ^ n := by
  unfold Builtin.Int.intBits at h
  split at h
  · rename_i e
    have e2 : z = 0 := by simpa using e
    rw [e2]
    exact Nat.pow_pos (by decide)
  · exact Nat.lt_of_lt_of_le (Nat.lt_log2_self) (Nat.pow_le_pow_right (by decide) h)
theorem bits_le {z : Int} {n : Nat} (h : z.natAbs < 2 ^ n) : Builtin.Int.intBits z ≤ n := by
  unfold Builtin.Int.intBits
  split
  · exact Nat.zero_le _
  · rename_i e
    have e2 : z.natAbs ≠ 0 := by
      intro q
      have q2 : z = 0 := by omega
      rw [q2] at e
      exact e rfl
    exact (Nat.log2_lt e2).mpr h
theorem bits_sum {m e : Int} {n : Nat} (hm : m.natAbs < 2 ^ 49) (hn : 49 ≤ n) (he : Builtin.Int.intBits e ≤ n) : Builtin.Int.intBits (m + e) ≤ n + 1 := by
  have h1 := bits_lt he
  have h2 : 2 ^ 49 ≤ 2 ^ n := Nat.pow_le_pow_right (by decide) hn
  refine bits_le ?_
  rw [Nat.pow_succ]
  generalize 2 ^ n = P at *
  omega
theorem pow_ok {m e : Int} (hm : 0 ≤ m) (hm2 : m < 2 ^ 32) (he : Builtin.Int.intBits e ≤ 1048576) : CPw (m * 70001 + e) 3 := by
  have h := bits_sum (m := m * 70001) (e := e) (n := 1048576) (by omega) (by omega) he
  refine ⟨by decide, ?_⟩
  have h2 : (2 : Int) ^ 27 = 134217728 := by decide
  rw [h2]
  omega
section
variable {P : Program} {w : World} {K : PySem.W.Frag} {mg : Str → Option Value} {base : Heap} {f : Addr} {fd : FuncData}
theorem pe_i {X : Cx} {e : Expr} {te : TE} {p pos : Pos} (he : PE X e te) (hm : X.mg "int" = none) (hg : Gl X "int" := by rfl) (hs : starEach [e] X.env = (false, eval e X.env) :: starEach [] X.env := by rfl) : PE X (.Call (.Name "int" p) [e] [] pos) (tCB (fun xs H Q => (∃ i, xs = [.int i] ∧ Q (.int i) H) ∨ ∃ k, xs = [.bl k] ∧ Q (.int (if k then 1 else 0)) H) (tCons te tNil)) :=
  pe_callTy call_int1 hg hm PyProof.Rows.boot_int (pa_cons he pa_nil hs) (he := hs)
/-! ### _law_source -/
def spSrc (K : PySem.W.Frag) : Sp := fun vs H Q _ => ∃ (a : Addr) (ns : List Int) (st : Nat), vs = [.ref a, .int st] ∧ SqL K H a (ns.map V.int) ∧ ns.length ≤ 63 ∧ st ≤ 3 ∧ (∀ z ∈ ns, Builtin.Int.intBits z ≤ 1048576) ∧
  ∀ (p : Addr) (own mix : Int), H p = none → 0 ≤ own → 0 ≤ mix → mix < 2 ^ 32 → Q (.ref p) (upd H p (.lst [.int own, .int mix]))
abbrev nSrc : List Str := ["_law_script", "_law_start", "_law_mixed_here", "_law_cell", "_law_own"]
/-! ### _law_draw -/
def spDraw (K : PySem.W.Frag) : Sp := fun vs H Q _ => ∃ (p : Addr) (own mix : Int) (n : Nat), vs = [.ref p, .int n] ∧ H p = some (.lst [.int own, .int mix]) ∧ 0 < n ∧ n ≤ 1000 ∧ 0 ≤ own ∧ 0 ≤ mix ∧ mix < 2 ^ 32 ∧
  ∀ (k : Nat) (own' mix' : Int), k < n → 0 ≤ own' → 0 ≤ mix' → mix' < 2 ^ 32 → Q (.int k) (upd H p (.lst [.int own', .int mix']))
abbrev nDraw : List Str := ["_law_source_here", "_law_span", "_law_found"]
theorem modN {x : Int} {n : Nat} (h : 0 < n) : ∃ k : Nat, k < n ∧ x % (n : Int) = (k : Int) := by
  have h1 := Int.emod_nonneg x (show (n : Int) ≠ 0 by omega)
  have h2 := Int.emod_lt_of_pos x (show (0 : Int) < n by omega)
  exact ⟨(x % (n : Int)).toNat, by omega, by omega⟩
end
end Dk
set_option Elab.async false
set_option linter.all false
set_option maxRecDepth 100000
set_option maxHeartbeats 4000000
namespace Dk
open PySem PySem.Spec PyProof.Rows L2 Er
/-! ### the source of draws -/
/-- at p: the numbers from which is drawn -/
def Src (H : Hp) (p : Addr) : Prop := ∃ own mix : Int, H p = some (.lst [.int own, .int mix]) ∧ 0 ≤ own ∧ 0 ≤ mix ∧ mix < 2 ^ 32
/-- all but p stands -/
def Sx (p : Addr) (H H' : Hp) : Prop := ∀ b o, b ≠ p → H b = some o → H' b = some o
theorem Sx.refl (p : Addr) (H : Hp) : Sx p H H := fun _ _ _ e => e
theorem Sx.trans {p : Addr} {H H1 H2 : Hp} (a : Sx p H H1) (b : Sx p H1 H2) : Sx p H H2 := fun c o n e => b c o n (a c o n e)
theorem Sx.of {p : Addr} {H H' : Hp} (m : Sm H H') : Sx p H H' := fun b o _ e => m b o e
theorem Sx.upd {p : Addr} {H : Hp} {o : HO} : Sx p H (upd H p o) := fun b u n e => by
  rw [upd_ne n]
  exact e
theorem Src.new {H : Hp} {p a : Addr} {o : HO} (h : Src H p) (n : H a = none) : Src (upd H a o) p := by
  obtain ⟨own, mix, e, r⟩ := h
  exact ⟨own, mix, Sm.new n _ _ e, r⟩
theorem Src.sm {H H' : Hp} {p : Addr} (h : Src H p) (m : Sm H H') : Src H' p := by
  obtain ⟨own, mix, e, r⟩ := h
  exact ⟨own, mix, m _ _ e, r⟩
theorem Src.ne {H : Hp} {p a : Addr} (h : Src H p) (n : H a = none) : a ≠ p := by
  obtain ⟨own, mix, e, r⟩ := h
  exact fun z => by
    rw [z, e] at n
    cases n
/-- the draw, told by its source -/
def spD : Sp := fun vs H Q _ => ∃ (p : Addr) (n : Nat), vs = [.ref p, .int n] ∧ Src H p ∧ 0 < n ∧ n ≤ 1000 ∧ ∀ (k : Nat) H', k < n → Sx p H H' → Src H' p → (∀ b, H b = none → H' b = none) → Q (.int k) H'
section
variable {P : Program} {w : World} {K : PySem.W.Frag} {mg : Str → Option Value} {base : Heap} {f fD fP fM fW fN : Addr} {fd dD dP dM dW dN : FuncData}
/-! ### _law_pick -/
/-- of a list, or of a text -/
def spPick (K : PySem.W.Frag) : Sp := fun vs H Q _ => ∃ (p : Addr) (x : V), vs = [.ref p, x] ∧ Src H p ∧
  ((∃ (l : Addr) (xs : List V), x = .ref l ∧ l ≠ p ∧ SqL K H l xs ∧ 0 < xs.length ∧ xs.length ≤ 1000 ∧ ∀ (k : Nat) v H', xs[k]? = some v → Sx p H H' → Src H' p → (∀ b, H b = none → H' b = none) → Q v H') ∨
    (∃ z : Str, x = .str z ∧ 0 < z.length ∧ z.length ≤ 1000 ∧ ∀ (k : Nat) c H', z.cps.toList[k]? = some c → Sx p H H' → Src H' p → (∀ b, H b = none → H' b = none) → Q (.str ⟨#[c]⟩) H'))
abbrev nPick : List Str := ["_law_source_here", "_law_things"]
theorem sq_sx {p l : Addr} {xs : List V} {H H' : Hp} (h : SqL K H l xs) (m : Sx p H H') (n : l ≠ p) : SqL K H' l xs := by
  rcases h with (e | ⟨o, e⟩) | k
  · exact .inl (.inl (m _ _ n e))
  · exact .inl (.inr ⟨o, m _ _ n e⟩)
  · exact .inr k
end
end Dk
set_option Elab.async false
set_option linter.all false
set_option maxRecDepth 100000
set_option maxHeartbeats 4000000
namespace Dk
open PySem PySem.Spec PyProof.Rows L2 Er
/-! ### _law_mixed -/
/-- a number or a text -/
inductive Fl : V → PyData → Prop where
  | int (i : Int) : Fl (.int i) (.int i)
  | str (x : Str) (h : PyData.strOk x = true) : Fl (.str x) (.str x)
theorem fl_dp {K : PySem.W.Frag} {H : Hp} : ∀ {xs : List V}, (∀ x ∈ xs, ∃ d, Fl x d) → ∃ ds, DpAll K H xs ds ∧ PyData.canLayAll0 ds = true ∧ PyData.depthAll ds ≤ 1 ∧ ds.length = xs.length
  | [], _ => ⟨[], .nil, by simp [PyData.canLayAll0], by simp [PyData.depthAll], rfl⟩
  | x :: xs, h => by
    obtain ⟨d, hd⟩ := h x List.mem_cons_self
    obtain ⟨ds, h1, h2, h3, h4⟩ := fl_dp (K := K) (H := H) (xs := xs) fun y hy => h y (List.mem_cons_of_mem _ hy)
    cases hd with
    | int i => exact ⟨_, .cons (.int i) h1, by simp [PyData.canLayAll0, PyData.canLay0, h2], by simp only [PyData.depthAll, PyData.depth]; omega, by simp [h4]⟩
    | str z hz => exact ⟨_, .cons (.str z) h1, by simp [PyData.canLayAll0, PyData.canLay0, h2, hz], by simp only [PyData.depthAll, PyData.depth]; omega, by simp [h4]⟩
theorem shaped_of {ds : List PyData} (h1 : PyData.canLayAll0 ds = true) (h2 : PyData.depthAll ds ≤ 1) : SeqAt.shaped (.list ds) = true := by
  unfold SeqAt.shaped
  have c : (PyData.list ds).canLay0 = true := by simpa [PyData.canLay0] using h1
  rw [c, Bool.true_and]
  refine decide_eq_true ?_
  simp only [PyData.depth]
  omega
theorem eqv_nil (ds : List PyData) : PyData.eqv (.list ds) (.list []) = ds.isEmpty := by
  cases ds with
  | nil => simp [PyData.eqv, PyData.eqvAll]
  | cons d ds => simp [PyData.eqv, PyData.eqvAll]
def spMixed (K : PySem.W.Frag) : Sp := fun vs H Q _ => ∃ (p l : Addr) (xs : List V), vs = [.ref p, .ref l] ∧ Src H p ∧ SqL K H l xs ∧ xs.length ≤ 1000 ∧ (∀ x ∈ xs, ∃ d, Fl x d) ∧
  ∀ (q : Addr) (ys : List V) H', Sx p H H' → Src H' p → H q = none → H' q = some (.lst ys) → ys.Perm xs → Q (.ref q) H'
abbrev nMixed : List Str := ["_law_source_here", "_law_things", "_law_lot", "_law_found"]
theorem cons_erase {α : Type} : ∀ (l : List α) (i : Nat) (h : i < l.length), (l[i] :: l.eraseIdx i).Perm l
  | x :: l, 0, _ => .refl _
  | x :: l, i + 1, h => (List.Perm.swap x (l[i]'(by simpa using h)) (l.eraseIdx i)).trans ((cons_erase l i (by simpa using h)).cons x)
theorem pop_perm {acc rem : List V} {k : Nat} (h : k < rem.length) : (acc ++ [rem[k]] ++ rem.eraseIdx k).Perm (acc ++ rem) := by
  rw [List.append_assoc]
  exact List.Perm.append_left acc (cons_erase rem k h)
section
variable {P : Program} {w : World} {K : PySem.W.Frag} {mg : Str → Option Value} {base : Heap} {f fD : Addr} {fd dD : FuncData}
end
end Dk
set_option Elab.async false
set_option linter.all false
set_option maxRecDepth 100000
set_option maxHeartbeats 4000000
namespace Dk
open PySem PySem.Spec PyProof.Rows L2 Er
/-! ### _law_word, _law_names -/
/-- a name: one to eight letters a to z -/
def IsWord (z : Str) : Prop := 1 ≤ z.length ∧ z.length ≤ 8 ∧ ∀ c ∈ z.cps.toList, 97 ≤ c ∧ c ≤ 122
def wordB (z : Str) : Bool := decide (1 ≤ z.length) && (decide (z.length ≤ 8) && z.cps.toList.all fun c => decide (97 ≤ c) && decide (c ≤ 122))
theorem word_of {z : Str} (h : wordB z = true) : IsWord z := by
  unfold wordB at h
  simp only [Bool.and_eq_true, decide_eq_true_eq, List.all_eq_true] at h
  exact ⟨h.1, h.2.1, fun c hc => h.2.2 c hc⟩
theorem IsWord.ok {z : Str} (h : IsWord z) : PyData.strOk z = true := by
  unfold PyData.strOk
  rw [← Array.all_toList]
  refine List.all_eq_true.mpr fun c hc => decide_eq_true ?_
  have := (h.2.2 c hc).2
  omega
def spWord : Sp := fun vs H Q _ => ∃ p : Addr, vs = [.ref p] ∧ Src H p ∧ ∀ (z : Str) H', IsWord z → Sx p H H' → Src H' p → (∀ b, H b = none → H' b = none) → Q (.str z) H'
abbrev nWord : List Str := ["_law_source_here", "_law_word_here", "_law_turn"]
def abc : Str := "abcdefghijklmnopqrstuvwxyz"
theorem abc_ok : (abc.cps.toList.all fun c => decide (97 ≤ c) && decide (c ≤ 122)) = true := by decide +kernel
section
variable {P : Program} {w : World} {K : PySem.W.Frag} {mg : Str → Option Value} {base : Heap} {f fD fP fM fW : Addr} {fd dD dP dM dW : FuncData}
end
theorem none_back {p : Addr} {H G : Hp} (m : Sx p H G) (s : Src G p) {r : Addr} (n : G r = none) : H r = none := by
  cases e : H r with
  | none => rfl
  | some o =>
    have z := m r o (s.ne n) e
    rw [n] at z
    cases z
theorem cut_to (xs : List V) (n : Nat) (h : n ≤ xs.length) : cutV xs none (some (n : Int)) = xs.take n := by
  unfold cutV
  rw [HT.sIx_none, HT.sIx_nat, show min n xs.length = n by omega]
  simp
theorem ix_n {n k : Nat} (h : k < n) : ixN n (k : Int) = some k := by
  unfold ixN
  rw [if_pos (by omega), if_pos (by omega)]
  simp
def spNames : Sp := fun vs H Q _ => ∃ (p : Addr) (n : Nat), vs = [.ref p, .int n] ∧ Src H p ∧ 1 ≤ n ∧ n ≤ 10 ∧
  ∀ (q : Addr) (ws : List Str) H', Sx p H H' → Src H' p → H q = none → H' q = some (.lst (ws.map V.str)) → ws.length = n → ws.Nodup → (∀ z ∈ ws, IsWord z) → Q (.ref q) H'
abbrev nNames : List Str := ["_law_source_here", "_law_many", "_law_some", "_law_word_here"]
def ten : List Str := ["a", "b", "ab", "carry", "on", "off", "press", "abcdefgh", "abcdefgi", "z"]
theorem ten_nd : ten.Nodup := by decide +kernel
theorem ten_ok : (ten.all wordB) = true := by decide +kernel
theorem strs_of : ∀ {ys : List V}, (∀ y ∈ ys, ∃ z, y = .str z) → ∃ ws : List Str, ys = ws.map V.str
  | [], _ => ⟨[], rfl⟩
  | y :: ys, h => by
    obtain ⟨z, e⟩ := h y List.mem_cons_self
    obtain ⟨ws, e2⟩ := strs_of (ys := ys) fun x hx => h x (List.mem_cons_of_mem _ hx)
    exact ⟨z :: ws, by rw [e, e2]; rfl⟩
theorem map_perm : ∀ {ws vs : List Str}, (ws.map V.str).Perm (vs.map V.str) → ws.Perm vs := fun {ws vs} h => by
  have z := h.map (fun v : V => match v with
    | .str x => x
    | _ => Str.empty)
  rw [List.map_map, List.map_map] at z
  have e : ((fun v : V => match v with
    | .str x => x
    | _ => Str.empty) ∘ V.str) = id := rfl
  rw [e, List.map_id, List.map_id] at z
  exact z
theorem nodup_set {α : Type} : ∀ {l : List α} {k : Nat} {x : α}, l.Nodup → x ∉ l → (l.set k x).Nodup
  | [], _, _, _, _ => by simp
  | a :: l, 0, x, h, hx => by
    have h2 := List.nodup_cons.mp h
    exact List.nodup_cons.mpr ⟨fun z => hx (List.mem_cons_of_mem _ z), h2.2⟩
  | a :: l, k + 1, x, h, hx => by
    have h2 := List.nodup_cons.mp h
    refine List.nodup_cons.mpr ⟨fun z => ?_, nodup_set h2.2 fun z => hx (List.mem_cons_of_mem _ z)⟩
    rcases List.mem_or_eq_of_mem_set z with e | e
    · exact h2.1 e
    · exact hx (by rw [e]; exact List.mem_cons_self)
theorem inV_str {x : Str} : ∀ {ws : List Str}, inV (.str x) (ws.map V.str) = false → x ∉ ws := fun {ws} h hx => by
  unfold inV at h
  have z := List.any_eq_false.mp h (.str x) (List.mem_map_of_mem hx)
  exact z (by simp [eqV])
theorem all_flat (ws : List Str) : (ws.map V.str).all flatV = true := by
  refine List.all_eq_true.mpr fun x hx => ?_
  obtain ⟨z, _, rfl⟩ := List.mem_map.mp hx
  rfl
section
variable {P : Program} {w : World} {K : PySem.W.Frag} {mg : Str → Option Value} {base : Heap} {f fD fP fM fW : Addr} {fd dD dP dM dW : FuncData}
end
end Dk
set_option Elab.async false
set_option linter.all false
set_option maxRecDepth 100000
set_option maxHeartbeats 4000000
namespace Dk
open PySem PySem.Spec PyProof.Rows L2 Er
/-! ### _law_twins -/
/-- natural numbers as the program has them -/
def nats (ts : List Nat) : List V := ts.map fun t => V.int ((t : Nat) : Int)
theorem nats_len (ts : List Nat) : (nats ts).length = ts.length := List.length_map _
theorem nats_at {ts : List Nat} {j t : Nat} (h : ts[j]? = some t) : (nats ts)[j]? = some (.int (t : Nat)) := by
  unfold nats
  rw [List.getElem?_map, h]
  rfl
theorem nats_more (ts : List Nat) (t : Nat) : nats (ts ++ [t]) = nats ts ++ [.int (t : Nat)] := by
  unfold nats
  rw [List.map_append]
  rfl
def spTwins : Sp := fun vs H Q _ => ∃ (p : Addr) (n : Nat), vs = [.ref p, .int n] ∧ Src H p ∧ 1 ≤ n ∧ n ≤ 10 ∧
  ∀ (q : Addr) (ts : List Nat) H', Sx p H H' → Src H' p → H q = none → H' q = some (.lst (nats ts)) → ts.length = n → (∀ j t : Nat, ts[j]? = some t → t ≤ j) → Q (.ref q) H'
abbrev nTwins : List Str := ["_law_source_here", "_law_many", "_law_found", "_law_some", "_law_at"]
theorem up_ts {ts : List Nat} {t : Nat} (h : ∀ j u : Nat, ts[j]? = some u → u ≤ j) (ht : t ≤ ts.length) : ∀ j u : Nat, (ts ++ [t])[j]? = some u → u ≤ j := fun j u e => by
  by_cases c : j < ts.length
  · rw [List.getElem?_append_left c] at e
    exact h j u e
  · rw [List.getElem?_append_right (by omega)] at e
    have z : j - ts.length = 0 := by
      by_cases z : j - ts.length = 0
      · exact z
      · rw [List.getElem?_eq_none (by simp; omega)] at e
        cases e
    rw [z] at e
    have e2 : t = u := by simpa using e
    omega
section
variable {P : Program} {w : World} {K : PySem.W.Frag} {mg : Str → Option Value} {base : Heap} {f fD : Addr} {fd dD : FuncData}
end
end Dk
set_option Elab.async false
set_option linter.all false
set_option maxRecDepth 100000
set_option maxHeartbeats 4000000
namespace Dk
open PySem PySem.Spec PyProof.Rows L2 Er
/-! ### _law_leads -/
def spLeads : Sp := fun vs H Q _ => ∃ (p t : Addr) (ts : List Nat), vs = [.ref p, .ref t] ∧ Src H p ∧ t ≠ p ∧ H t = some (.lst (nats ts)) ∧ 1 ≤ ts.length ∧ ts.length ≤ 10 ∧ (∀ x ∈ ts, x < ts.length) ∧
  ∀ (q : Addr) (ls : List Nat) H', Sx p H H' → Src H' p → H q = none → H' q = some (.lst (nats ls)) → ls.length = ts.length → (∀ x ∈ ls, x < ts.length) → Q (.ref q) H'
abbrev nLeads : List Str := ["_law_source_here", "_law_twins_here", "_law_many", "_law_kind", "_law_to", "_law_found", "_law_some", "_law_at", "_law_first", "_law_aims", "_law_like", "_law_one"]
theorem nats_of : ∀ {ys : List V} {n : Nat}, (∀ y ∈ ys, ∃ t : Nat, t < n ∧ y = .int (t : Nat)) → ∃ ms : List Nat, ys = nats ms ∧ ∀ x ∈ ms, x < n
  | [], _, _ => ⟨[], rfl, fun x hx => nomatch hx⟩
  | y :: ys, n, h => by
    obtain ⟨t, ht, e⟩ := h y List.mem_cons_self
    obtain ⟨ms, e2, h2⟩ := nats_of (ys := ys) (n := n) fun x hx => h x (List.mem_cons_of_mem _ hx)
    refine ⟨t :: ms, by rw [e, e2]; rfl, fun x hx => ?_⟩
    rcases List.mem_cons.mp hx with z | z
    · rw [z]
      exact ht
    · exact h2 x z
section
variable {P : Program} {w : World} {K : PySem.W.Frag} {mg : Str → Option Value} {base : Heap} {f fD fP fM : Addr} {fd dD dP dM : FuncData}
end
end Dk
set_option Elab.async false
set_option linter.all false
set_option maxRecDepth 100000
set_option maxHeartbeats 4000000
namespace Dk
open PySem PySem.Spec PyProof.Rows L2 Er
/-! ### dicts of texts -/
/-- the pairs of a dict with the keys ws -/
def dkv (ws : List Str) (vs : List V) : List (Key × V) := (ws.map (Sum.inr : Str → Key)).zip vs
theorem put_new {acc : List (Key × V)} {k : Key} {v : V} (h : k ∉ acc.map (·.1)) : putK acc k v = acc ++ [(k, v)] := by
  unfold putK
  rw [if_neg]
  intro z
  obtain ⟨q, hq, e⟩ := List.any_eq_true.mp z
  exact h (List.mem_map.mpr ⟨q, hq, of_decide_eq_true e⟩)
theorem merge_new : ∀ (more acc : List (Key × V)), ((acc ++ more).map (·.1)).Nodup → mergeK acc more = acc ++ more
  | [], acc, _ => by
    rw [List.append_nil]
    rfl
  | q :: more, acc, h => by
    have h2 : q.1 ∉ acc.map (·.1) := by
      rw [List.map_append, List.map_cons] at h
      intro z
      exact (List.nodup_append.mp h).2.2 q.1 z q.1 List.mem_cons_self rfl
    show mergeK (putK acc q.1 q.2) more = acc ++ q :: more
    rw [put_new h2, merge_new more (acc ++ [(q.1, q.2)]) (by rw [List.append_assoc]; exact h), List.append_assoc]
    rfl
theorem dkv_keys : ∀ {ws : List Str} {vs : List V}, ws.length = vs.length → (dkv ws vs).map (·.1) = ws.map Sum.inr
  | [], _, _ => rfl
  | w :: ws, [], h => by simp at h
  | w :: ws, v :: vs, h => by
    have ih := dkv_keys (ws := ws) (vs := vs) (by simpa using h)
    show Sum.inr w :: (dkv ws vs).map (·.1) = _
    rw [ih]
    rfl
theorem dkv_merge {ws : List Str} {vs : List V} (h : ws.length = vs.length) (nd : ws.Nodup) : mergeK [] (dkv ws vs) = dkv ws vs := by
  refine merge_new _ [] ?_
  rw [List.nil_append, dkv_keys h]
  exact List.Pairwise.map _ (fun a b n z => n (Sum.inr.inj z)) nd
theorem paired_of {α β : Type} {F : α → β → Prop} : ∀ {ps : List α} {qs : List β}, ps.length = qs.length → (∀ (j : Nat) (p : α) (q : β), ps[j]? = some p → qs[j]? = some q → F p q) → Paired F ps qs
  | [], [], _, _ => .nil
  | [], _ :: _, h, _ => by simp at h
  | _ :: _, [], h, _ => by simp at h
  | p :: ps, q :: qs, h, f => .cons (f 0 p q rfl rfl) (paired_of (by simpa using h) fun j a b e1 e2 => f (j + 1) a b (by simpa using e1) (by simpa using e2))
/-- [(e1, e2) for at in range(n)] -/
theorem lc_pairs {n : Nat} {fk fv : Nat → V} {t1 t2 : TE} {σ : L2.St} {i : Nat} {H1 : Hp} {Q : Addr → Hp → Prop} (hn : n ≤ 1000) (w1 : ∀ v, wipe ((wipe σ [i]).set i (some v)) [i] = wipe σ [i])
    (ev : ∀ (j : Nat) (G : Hp) (Q : List V → Hp → Prop), j < n → Sm H1 G → Q [fk j, fv j] G → (tCons t1 (tCons t2 tNil)) ((wipe σ [i]).set i (some (.int ((j : Nat) : Int)))) G Q)
    (q : ∀ (D : Addr) (ps : List Addr) (H' : Hp), Sm H1 H' → H1 D = none → H' D = some (.lst (ps.map V.ref)) → ps.length = n → (∀ (k : Nat) (p : Addr), ps[k]? = some p → H' p = some (.tup [fk k, fv k])) → Q D H') :
    ∀ D, H1 D = none → ∃ W : Nat → Nat → Hp → Prop, (∃ m, W 0 m (upd H1 D (.lst []))) ∧ ∀ i₁ m H, W i₁ m H →
      ((Itr 0 n).stop i₁ H ∧ Q D H) ∨ ((Itr 0 n).go i₁ H ∧ ∃ Nx : Hp → Prop, (∀ H', Nx H' → ∃ m', m' < m ∧ W (i₁ + 1) m' H') ∧ ∀ x H', (Itr 0 n).yld i₁ H x H' → gName i x (wipe σ [i]) H' fun σ2 H2 => wipe σ2 [i] = wipe σ [i] ∧ tYes σ2 H2 fun b H3 =>
        if b = true then (tTup (tCons t1 (tCons t2 tNil))) σ2 H3 fun y H4 => ∃ acc, H4 D = some (.lst acc) ∧ acc.length < sizeLine ∧ Nx (upd H4 D (.lst (acc ++ [y]))) else Nx H3) := by
  intro D hD
  refine lc_range (lo := 0) (n := n) (g := gName i) (tt := tYes) (te := tTup (tCons t1 (tCons t2 tNil))) (vs := [i]) (Qd := fun H => Q D H)
    (fun j H2 => ∃ ps : List Addr, H2 D = some (.lst (ps.map V.ref)) ∧ ps.length = j ∧ (∀ (k : Nat) (p : Addr), ps[k]? = some p → H2 p = some (.tup [fk k, fv k])) ∧ Sm H1 H2) ⟨[], upd_same, rfl, fun k p e => by simp at e, Sm.new hD⟩ ?_ ?_
  · rintro j G hj ⟨ps, ed, pl, pt, sg⟩
    have ez : (0 : Int) + ((j : Nat) : Int) = j := Int.zero_add _
    rw [ez]
    refine ⟨w1 _, ?_⟩
    unfold tYes
    dsimp only
    rw [if_pos rfl]
    refine ev j G _ hj sg ⟨by show 2 ≤ sizeLine; rw [sizeLine_eq]; decide, fun p np => ?_⟩
    have dp : D ≠ p := ne_of_none ed np
    refine ⟨ps.map V.ref, by rw [upd_ne dp]; exact ed, by rw [List.length_map, sizeLine_eq]; omega, ps ++ [p], ?_, by rw [List.length_append, pl]; rfl, ?_, ?_⟩
    · rw [upd_same, List.map_append]
      rfl
    · intro k r er
      by_cases c : k < ps.length
      · rw [List.getElem?_append_left c] at er
        have z := pt k r er
        have rD : r ≠ D := fun w => by
          rw [w, ed] at z
          cases z
        rw [upd_ne rD, upd_ne (ne_of_none z np)]
        exact z
      · rw [List.getElem?_append_right (by omega)] at er
        have z : k - ps.length = 0 := by
          by_cases z : k - ps.length = 0
          · exact z
          · rw [List.getElem?_eq_none (by simp; omega)] at er
            cases er
        rw [z] at er
        have e2 : p = r := by simpa using er
        have ek : k = j := by omega
        subst e2 ek
        rw [upd_ne (Ne.symm dp), upd_same]
    · intro b o eb
      rw [upd_ne (ne_of_none eb hD)]
      exact Sm.new np _ _ (sg _ _ eb)
  · rintro G ⟨ps, ed, pl, pt, sg⟩
    exact q D ps G sg hD ed pl pt
/-! ### _law_sights -/
def spSights : Sp := fun vs H Q _ => ∃ (p : Addr) (n : Nat), vs = [.ref p, .int n] ∧ Src H p ∧ 1 ≤ n ∧ n ≤ 10 ∧
  ∀ (q : Addr) (ws : List Str) H', Sx p H H' → Src H' p → H q = none → H' q = some (.lst (ws.map V.str)) → ws.length = n → (∀ z ∈ ws, IsWord z) → Q (.ref q) H'
abbrev nSights : List Str := ["_law_source_here", "_law_many", "_law_kind", "_law_some", "_law_at", "_law_one"]
/-- int(x) of a number, a bool -/
def rInt1 : List V → Hp → VK → Prop := fun xs H Q => (∃ i, xs = [.int i] ∧ Q (.int i) H) ∨ ∃ k, xs = [.bl k] ∧ Q (.int (if k then 1 else 0)) H
section
variable {P : Program} {w : World} {K : PySem.W.Frag} {mg : Str → Option Value} {base : Heap} {f fD fP fM fW fN : Addr} {fd dD dP dM dW dN : FuncData}
end
end Dk
set_option Elab.async false
set_option linter.all false
set_option maxRecDepth 100000
set_option maxHeartbeats 4000000
namespace Dk
open PySem PySem.Spec PyProof.Rows L2 Er
/-! ### a drawn desk -/
theorem pair_dkv {K : PySem.W.Frag} {H : Hp} {ps : List Addr} {ws : List Str} {vs : List V} (e1 : ps.length = ws.length) (e2 : ws.length = vs.length) (h : ∀ (k : Nat) (p : Addr), ps[k]? = some p → H p = some (.tup [.str (ws.getD k ⟨#[]⟩), vs.getD k .non])) :
    Paired (fun p (kv : Key × V) => SqT K H p [kV kv.1, kv.2]) ps (dkv ws vs) :=
  paired_of (by unfold dkv; rw [List.length_zip, List.length_map]; omega) fun j p q ep eq => by
    obtain ⟨a, b⟩ := List.getElem?_zip_eq_some.mp eq
    rw [List.getElem?_map] at a
    cases ew : ws[j]? with
    | none =>
      rw [ew] at a
      cases a
    | some wd =>
      rw [ew] at a
      have a2 : Sum.inr wd = q.1 := Option.some.inj a
      have z := h j p ep
      rw [List.getD_eq_getElem?_getD, List.getD_eq_getElem?_getD, ew, b] at z
      exact .inl (.inl (by rw [z, ← a2]; rfl))
/-- the desk at u: standings, for each deed a dict, sights -/
def DkAt (H : Hp) (u nm dd sg : Addr) (ws ds : List Str) (as : List Addr) (tb : List (List Str)) (ls : List Str) : Prop :=
  H u = some (.tup [.ref nm, .ref dd, .ref sg]) ∧ H nm = some (.lst (ws.map V.str)) ∧ H dd = some (.dK (dkv ds (as.map V.ref))) ∧ H sg = some (.dK (dkv ws (ls.map V.str))) ∧ Paired (fun a vs => H a = some (.dK (dkv ws (vs.map V.str)))) as tb
/-- what such a desk holds -/
structure DkIs (m : Nat) (ws ds : List Str) (tb : List (List Str)) (ls : List Str) : Prop where
  some : 1 ≤ ws.length
  most : ws.length ≤ m
  nd : ws.Nodup
  word : ∀ z ∈ ws, IsWord z
  dsome : 1 ≤ ds.length
  dmost : ds.length ≤ 4
  dnd : ds.Nodup
  dword : ∀ z ∈ ds, IsWord z
  rows : tb.length = ds.length
  row : ∀ vs ∈ tb, vs.length = ws.length ∧ ∀ z ∈ vs, z ∈ ws
  looks : ls.length = ws.length
  look : ∀ z ∈ ls, IsWord z
def spDesk : Sp := fun vs H Q _ => ∃ (p : Addr) (m : Nat), vs = [.ref p, .int m] ∧ Src H p ∧ 1 ≤ m ∧ m ≤ 9 ∧
  ∀ (u nm dd sg : Addr) (ws ds : List Str) (as : List Addr) (tb : List (List Str)) (ls : List Str) H', Sx p H H' → Src H' p → H u = none → nm ≠ p → dd ≠ p → sg ≠ p → (∀ a ∈ as, a ≠ p) → DkAt H' u nm dd sg ws ds as tb ls → DkIs m ws ds tb ls → Q (.ref u) H'
abbrev nDesk : List Str := ["_law_source_here", "_law_most", "_law_many", "_law_deeds", "_law_names_here", "_law_twins_here", "_law_deed", "_law_aims", "_law_looks", "_law_at"]
theorem put_dkv {ds : List Str} {as : List Addr} {d : Str} {a : Addr} (e : as.length = ds.length) (nd : (ds ++ [d]).Nodup) : putK (dkv ds (as.map V.ref)) (.inr d) (.ref a) = dkv (ds ++ [d]) ((as ++ [a]).map V.ref) := by
  rw [put_new]
  · unfold dkv
    rw [List.map_append, List.map_append, List.zip_append (by rw [List.length_map, List.length_map, e])]
    rfl
  · rw [dkv_keys (by rw [List.length_map, e])]
    intro z
    obtain ⟨x, hx, ex⟩ := List.mem_map.mp z
    have ex2 : x = d := Sum.inr.inj ex
    exact (List.nodup_append.mp nd).2.2 x hx d List.mem_cons_self ex2
theorem dkv_len {ds : List Str} {vs : List V} (e : vs.length = ds.length) : (dkv ds vs).length = ds.length := by
  unfold dkv
  rw [List.length_zip, List.length_map]
  omega
theorem pair_more {α β : Type} {F : α → β → Prop} {ps : List α} {qs : List β} {p : α} {q : β} (h : Paired F ps qs) (f : F p q) : Paired F (ps ++ [p]) (qs ++ [q]) := by
  induction h with
  | nil => exact .cons f .nil
  | cons a _ ih => exact .cons a ih
theorem pair_mono {α β : Type} {F G : α → β → Prop} {ps : List α} {qs : List β} (h : Paired F ps qs) (f : ∀ p ∈ ps, ∀ q, F p q → G p q) : Paired G ps qs := by
  induction h with
  | nil => exact .nil
  | cons a _ ih => exact .cons (f _ List.mem_cons_self _ a) (ih fun p hp => f p (List.mem_cons_of_mem _ hp))
/-- the things at some places -/
def tgt (ws : List Str) (ls : List Nat) : List Str := ls.map fun l => ws.getD l ⟨#[]⟩
theorem tgt_len {ws : List Str} {ls : List Nat} : (tgt ws ls).length = ls.length := List.length_map _
theorem tgt_in {ws : List Str} {ls : List Nat} (h : ∀ x ∈ ls, x < ws.length) : ∀ z ∈ tgt ws ls, z ∈ ws := fun z hz => by
  obtain ⟨l, hl, rfl⟩ := List.mem_map.mp hz
  have hl := h l hl
  rw [List.getD_eq_getElem?_getD, List.getElem?_eq_getElem hl]
  exact List.getElem_mem _
theorem gd {xs : List Str} {j : Nat} (h : j < xs.length) : (xs.map V.str)[j]? = some (.str (xs.getD j ⟨#[]⟩)) := by
  rw [List.getElem?_map, List.getD_eq_getElem?_getD, List.getElem?_eq_getElem h]
  rfl
theorem tgt_at {ws : List Str} {ls : List Nat} {j : Nat} (h : j < ls.length) : ((tgt ws ls).map V.str).getD j .non = .str (ws.getD (ls[j]'h) ⟨#[]⟩) := by
  unfold tgt
  rw [List.getD_eq_getElem?_getD, List.getElem?_map, List.getElem?_map, List.getElem?_eq_getElem h]
  rfl
/-- [(xs[at], ys[zs[at]]) for at ..], one entry of it -/
theorem ev_pair {K : PySem.W.Frag} {a b c i : Nat} {xa ya za : Addr} {xs ys : List Str} {zs : List Nat} {σ : L2.St} {G : Hp} {j : Nat} {Q : List V → Hp → Prop}
    (s1 : σ[a]? = some (some (.ref xa))) (s2 : σ[b]? = some (some (.ref ya))) (s3 : σ[c]? = some (some (.ref za))) (s4 : σ[i]? = some (some (.int (j : Nat))))
    (e1 : G xa = some (.lst (xs.map V.str))) (e2 : G ya = some (.lst (ys.map V.str))) (e3 : G za = some (.lst (nats zs))) (h1 : j < xs.length) (h2 : j < zs.length) (h3 : ∀ x ∈ zs, x < ys.length)
    (q : Q [.str (xs.getD j ⟨#[]⟩), ((tgt ys zs).map V.str).getD j .non] G) :
    (tCons (tOp (rIxL K) (tVar a) (tVar i)) (tCons (tOp (rIxL K) (tVar b) (tOp (rIxL K) (tVar c) (tVar i))) tNil)) σ G Q := by
  rw [tgt_at h2] at q
  exact ⟨_, s1, _, s4, xa, xs.map V.str, j, _, rfl, rfl, .inl (.inl e1), atI_nat (gd h1), _, s2, _, s3, _, s4, za, nats zs, j, _, rfl, rfl, .inl (.inl e3), atI_nat (nats_at (List.getElem?_eq_getElem h2)),
    ya, ys.map V.str, _, _, rfl, rfl, .inl (.inl e2), atI_nat (gd (h3 _ (List.getElem_mem _))), q⟩
section
variable {P : Program} {w : World} {K : PySem.W.Frag} {mg : Str → Option Value} {base : Heap} {f fD fN fT fL fS : Addr} {fd dD dN dT dL dS : FuncData}
end
end Dk
set_option Elab.async false
set_option linter.all false
set_option maxRecDepth 100000
set_option maxHeartbeats 4000000
namespace Dk
open PySem PySem.Spec PyProof.Rows L2 Er
/-! ### _law_turned -/
def spTurned : Sp := fun vs H Q _ => ∃ (d : Addr) (kvs : List (Key × V)), vs = [.ref d] ∧ H d = some (.dK kvs) ∧ (kvs.map (·.1)).Nodup ∧ ∀ q H', Sm H H' → H q = none → H' q = some (.dK kvs.reverse) → Q (.ref q) H'
abbrev nTurned : List Str := ["_law_some"]
theorem pair_rev {α β : Type} {F : α → β → Prop} {ps : List α} {qs : List β} (h : Paired F ps qs) : Paired F ps.reverse qs.reverse := by
  induction h with
  | nil => exact .nil
  | cons a _ ih =>
    rw [List.reverse_cons, List.reverse_cons]
    exact pair_more ih a
section
variable {P : Program} {w : World} {K : PySem.W.Frag} {mg : Str → Option Value} {base : Heap} {f : Addr} {fd : FuncData}
end
end Dk
set_option Elab.async false
set_option linter.all false
set_option maxRecDepth 100000
set_option maxHeartbeats 3200000
/-! len(set(xs)), xs a list or tuple of texts -/
namespace DkSet
open PySem PySem.Spec PyProof.Rows
theorem rev_ind {α : Type} {p : List α → Prop} (h0 : p []) (h1 : ∀ l x, p l → p (l ++ [x])) : ∀ l, p l := fun l => by
  have key : ∀ m : List α, p m.reverse := fun m => by
    induction m with
    | nil => exact h0
    | cons x m ih =>
      rw [List.reverse_cons]
      exact h1 _ _ ih
  rw [← List.reverse_reverse l]
  exact key _
/-- the different ones, as they come first -/
def metOf (xs : List Str) : List Str := xs.foldl (fun acc x => if x ∈ acc then acc else acc ++ [x]) []
theorem met_more (xs : List Str) (x : Str) : metOf (xs ++ [x]) = if x ∈ metOf xs then metOf xs else metOf xs ++ [x] := by
  unfold metOf
  rw [List.foldl_append]
  rfl
theorem met_nodup : ∀ xs : List Str, (metOf xs).Nodup := by
  refine rev_ind List.nodup_nil fun l x ih => ?_
  rw [met_more]
  split
  · exact ih
  · rename_i h
    refine List.nodup_append.mpr ⟨ih, by simp, fun a ha b hb e => h ?_⟩
    have e2 : b = x := by simpa using hb
    rw [← e2, ← e]
    exact ha
theorem met_le : ∀ xs : List Str, (metOf xs).length ≤ xs.length := by
  refine rev_ind (Nat.le_refl _) fun l x ih => ?_
  rw [met_more, List.length_append]
  split
  · exact Nat.le_succ_of_le ih
  · rw [List.length_append]
    exact Nat.succ_le_succ ih
theorem met_mem (xs : List Str) (y : Str) : y ∈ metOf xs ↔ y ∈ xs := by
  revert xs
  refine rev_ind (by unfold metOf; simp) fun l x ih => ?_
  rw [met_more, List.mem_append, ← ih]
  split
  · rename_i h
    constructor
    · exact .inl
    · rintro (z | z)
      · exact z
      · have e : y = x := by simpa using z
        rw [e]
        exact h
  · rw [List.mem_append]
/-- as many as there are: all different -/
theorem met_len : ∀ xs : List Str, (metOf xs).length = xs.length ↔ xs.Nodup := by
  refine rev_ind (by unfold metOf; simp) fun l x ih => ?_
  rw [met_more, List.length_append]
  have le := met_le l
  split
  · rename_i h
    constructor
    · intro z
      simp at z
      omega
    · intro z
      exact absurd rfl ((List.nodup_append.mp z).2.2 x ((met_mem l x).mp h) x List.mem_cons_self)
  · rename_i h
    rw [List.length_append]
    constructor
    · intro z
      have z2 : (metOf l).length = l.length := by simpa using z
      refine List.nodup_append.mpr ⟨ih.mp z2, by simp, fun a ha b hb e => h ?_⟩
      have e2 : b = x := by simpa using hb
      rw [← e2, ← e]
      exact (met_mem l a).mpr ha
    · intro z
      rw [ih.mpr (List.nodup_append.mp z).1]
section
variable {prog : Program} {w : World} {A : Around} {R : Result → Shared → Prop} {I : Addr} {fp wr : List Addr} {G : Array GenState → Array GenState → Prop} {n : Nat} {P : Nat → Value → Prop} {St : Nat → Shared → Prop}
abbrev Has (prog : Program) (w : World) (h : Heap) (S : Addr) (ys : List Str) : Prop := h.SetOf (PySem.strKind prog w) S (fun y => decide (y ∈ metOf ys)) (metOf ys).length
theorem Has.at {h h2 : Heap} {S : Addr} {ys : List Str} (x : Has prog w h S ys) (k : ∀ o, h.get? S = some o → h2.get? S = some o) : Has prog w h2 S ys := by
  obtain ⟨o, es, ep, t, ho, r⟩ := x
  exact ⟨o, es, ep, t, k o ho, r⟩
theorem putting (W : WalksS prog w A.in1 I fp wr G n P St) (S : Addr) (out : S ∉ fp) (xs : List Str) (len : xs.length = n) (few : n + 1 < scanBound) (val : ∀ i v, P i v → ∃ t, v = .str (xs.getD i Str.empty) t) :
    ∀ (left i : Nat) (s : Shared), i + left = n → St i s → Has prog w s.heap S (xs.take i) →
      (∀ s2, Moved (S :: wr) G s s2 → Has prog w s2.heap S xs → R (.ok (.ret .none)) s2) →
      codeAny (model prog w) A (.builtin "set.update.loop" ⟨[.ref S, .ref I], []⟩) R s := by
  have out2 : S ∉ wr := fun h => out (W.sub _ h)
  have more : ∀ b ∈ wr, b ∈ S :: wr := fun b => List.mem_cons_of_mem _
  intro left
  induction left with
  | zero =>
    intro i s e st hs fin
    have ei : i = n := e
    rw [ei, ← len, List.take_length] at hs
    rw [ei] at st
    refine codeAny_builtin PyProof.Rows.F.entry_set_update_loop ?_
    rw [Around.under_plainId PyProof.Rows.F.plain_set_update_loop _]
    show wpAny _ A.in1 (pyNext (.ref I) >>= _) _ _ s
    exact wpAny_bind (W.done s _ _ st fun s2 m => wpAny_pure (fin s2 (m.mono more) (hs.at fun o => m.heap S o out2)))
  | succ left ih =>
    intro i s e st hs fin
    have il : i < n := by omega
    refine codeAny_builtin PyProof.Rows.F.entry_set_update_loop ?_
    rw [Around.under_plainId PyProof.Rows.F.plain_set_update_loop _]
    show wpAny _ A.in1 (pyNext (.ref I) >>= _) _ _ s
    refine wpAny_bind (W.item i s _ _ il st fun v s2 hv st2 m => ?_)
    obtain ⟨t, rfl⟩ := val i v hv
    have hs2 : Has prog w s2.heap S (xs.take i) := hs.at fun o => m.heap S o out2
    show wpAny _ A.in1 (holding [Value.str (xs.getD i Str.empty) t] (setAdd S (.str (xs.getD i Str.empty) t)) >>= _) _ _ s2
    refine wpAny_bind (wpAny_holding ?_)
    unfold setAdd
    refine wpAny_holding (wpAny_bind ((PySem.strKind prog w).pyHash (k := xs.getD i Str.empty) (strKind_is _ _ _ _) ?_))
    have few2 : (metOf (xs.take i)).length + 1 < scanBound := by
      have a := met_le (xs.take i)
      rw [List.length_take] at a
      omega
    refine wpAny_setAddHashed_of (knd := PySem.strKind prog w) (s := { s2 with toks := s2.toks + 1 }) (strKind_is _ _ _ _) rfl hs2 few2 fun h2 same got => ?_
    have tk : xs.take (i + 1) = xs.take i ++ [xs.getD i Str.empty] := by
      rw [List.take_add_one, List.getD_eq_getElem?_getD, List.getElem?_eq_getElem (by omega)]
      rfl
    have got2 : Has prog w h2 S (xs.take (i + 1)) := by
      refine SetOf_congr got (fun y => ?_) ?_
      · rw [tk, met_more]
        by_cases c : xs.getD i Str.empty ∈ metOf (xs.take i)
        · rw [if_pos c]
          by_cases d : y = xs.getD i Str.empty
          · rw [d, decide_eq_true c]
            rfl
          · rw [decide_eq_false d, Bool.or_false]
        · rw [if_neg c, Bool.eq_iff_iff]
          simp
      · rw [tk, met_more]
        by_cases c : xs.getD i Str.empty ∈ metOf (xs.take i)
        · rw [if_pos c, if_pos (decide_eq_true c)]
        · rw [if_neg c, if_neg (by simpa using c), List.length_append]
          rfl
    refine wpAny_pure ⟨plainId_quiet PyProof.Rows.F.plain_set_update_loop _, ih (i + 1) _ (by omega) (W.frame _ s2 _ _ st2 (Nat.le_succ _) fun b hb o eb => ?_) got2 fun s3 m3 hs3 => ?_⟩
    · rw [same.2 b fun z => out (z ▸ hb)]
      exact eb
    · refine fin s3 (Moved.trans W.gtrans ((m.mono more).then_heap (Nat.le_succ _) fun b o hb eb => ?_) m3) hs3
      rw [same.2 b fun z => hb (z ▸ List.mem_cons_self)]
      exact eb
end
section
variable {prog : Program} {w : World} {A : Around} {E : Value → Shared → Prop} {s : Shared}
abbrev bare0 (led : Bool) : Obj := { cls := .type "set", dict := none, data := .set #[] 0 (.fresh 0 0 led) }
theorem txt_at : ∀ {us : List Value} {xs : List Str}, StrsAre us xs → ∀ (i : Nat) (v : Value), us[i]? = some v → ∃ t, v = .str (xs.getD i Str.empty) t
  | _, _, .nil, i, v, h => by cases h
  | _, _, .cons n t r, 0, v, h => ⟨t, (Option.some.inj h).symm⟩
  | _, _, .cons n t r, i + 1, v, h => txt_at r i v h
/-- a walk over what stands at l -/
abbrev Wl (T : String) (l : Addr) (items : Array Value) (h : Heap) : Prop := if T = "list" then h.IsList l items else h.IsTuple l items
theorem iter_of {T : String} {l : Addr} {items : Array Value} {Q : Value → Shared → Prop} (hh : A.handled = none) (hT : T = "list" ∨ T = "tuple") (hw : Wl T l items s.heap) (ll : l < s.heap.objs.size)
    (h : ∀ (J : Obj) (St : Nat → Shared → Prop), J.isFreed = false → WalksS prog w A.in1 s.heap.objs.size [s.heap.objs.size, l] [s.heap.objs.size] (fun a b => b = a) items.size (fun i v => items[i]? = some v) St →
      St 0 { s with heap := s.heap.push J } → Q (.ref s.heap.objs.size) { s with heap := s.heap.push J }) : wpAny (model prog w) A (pyIter (.ref l)) Q E s := by
  have ne : l ≠ s.heap.objs.size := Nat.ne_of_lt ll
  have h2 : A.in1.handled = none := by simp [hh]
  rcases hT with rfl | rfl
  · have hw : s.heap.IsList l items := hw
    exact wpAny_pyIter_list hw (h _ _ rfl (Walks.list h2 _ l ne items).toS ⟨⟨_, Heap.get?_push_size _ rfl, rfl, rfl⟩, hw.push _⟩)
  · have hw : s.heap.IsTuple l items := hw
    exact wpAny_pyIter_tuple hw (h _ _ rfl (Walks.tuple h2 _ l ne items).toS ⟨⟨_, Heap.get?_push_size _ rfl, rfl, rfl⟩, hw.push _⟩)
theorem call_txts {T : String} {l : Addr} {items : Array Value} {d : Option Addr} {nl : Nat} {sl : Array (Option Value)} {xs : List Str} {Q : Value → Shared → Prop} (hh : A.handled = none) (hT : T = "list" ∨ T = "tuple")
    (ho : s.heap.get? l = some { cls := .type T, dict := d, data := .seq items nl, slots := sl }) (hi : StrsAre items.toList xs) (few : xs.length + 1 < scanBound)
    (h : ∀ (h2 : Heap) (tk : Nat), Has prog w h2 s.heap.objs.size xs → (∀ b o, s.heap.get? b = some o → h2.get? b = some o) → Q (.ref s.heap.objs.size) { s with heap := h2, toks := tk }) :
    wpAny (model prog w) A (call (.type "set") [.ref l]) Q E s := by
  obtain ⟨c, tl, hmro⟩ := PySem.F.called_set.mro
  have hmade := PySem.F.called_set.made
  have hsub := PySem.F.called_set.sub
  refine wpAny_call (codeAny_of_tree ?_)
  show wpAny _ _ (callAny (.type "set") _) _ _ _
  refine wpAny_pure ⟨Code.quiet_builtin _ (by decide +kernel), codeAny_builtin PySem.F.entry_type_call ?_⟩
  rw [Around.under_plain (weight_type_call_type "set" [.ref l] []) rfl]
  have h1 := PySem.F.called_set.notType
  have h2 := PySem.F.called_set.canCreate
  have hct := PySem.F.typeCall_set_1 (.ref l)
  repeat (any_goals (first | assumption | wp_step))
  refine codeAny_mono (code_set_new_1 (.ref l) (E := E) (Q₁ := fun x s1 => ∃ led : Bool, x = .ref s.heap.objs.size ∧ s1 = { s with heap := s.heap.push (bare0 led) }) fun led => ⟨led, rfl, rfl⟩) fun r s1 hr => ?_
  cases r with
  | error e => exact hr
  | ok fl =>
    cases fl with
    | ret obj =>
      obtain ⟨led, rfl, rfl⟩ := hr
      have hS : (s.heap.push (bare0 led)).get? s.heap.objs.size = some (bare0 led) := Heap.get?_push_size _ rfl
      have hTy : Shared.TypeIs { s with heap := s.heap.push (bare0 led) } (.ref s.heap.objs.size) "set" := ⟨_, hS, rfl⟩
      have hli := PySem.F.called_set.init.lookup
      have hbi := PySem.F.called_set.init.bind (.ref s.heap.objs.size)
      repeat (any_goals (first | assumption | wp_step))
      refine codeAny_mono (codeAny_call_builtin (R := wants (fun r s2 => r = .none ∧ ∃ h2 tk, s2 = { s with heap := h2, toks := tk } ∧ Has prog w h2 s.heap.objs.size xs ∧ (∀ b o, s.heap.get? b = some o → h2.get? b = some o)) E) PySem.F.called_set.init.plain PySem.F.entry_set_init (check_set_init_1 hTy ?_)) fun r2 s2 hr2 => ?_
      · have ho2 : (s.heap.push (bare0 led)).get? l = some { cls := .type T, dict := d, data := .seq items nl, slots := sl } := Heap.get?_push_of_some _ ho
        have f1 : isSubtype (.type T) (.type "set") = pure false := by
          rcases hT with rfl | rfl
          · exact PySem.F.sub_list_set
          · exact PySem.F.sub_tuple_set
        have f2 : isSubtype (.type T) (.type "frozenset") = pure false := by
          rcases hT with rfl | rfl
          · exact PySem.F.sub_list_frozenset
          · exact PySem.F.sub_tuple_frozenset
        have f3 : (Value.type T == Value.type "dict") = false := by
          rcases hT with rfl | rfl <;> decide
        have hw : Wl T l items (s.heap.push (bare0 led)) := by
          rcases hT with rfl | rfl
          · exact ⟨_, ho2, rfl, nl, rfl⟩
          · exact ⟨_, ho2, rfl, nl, rfl⟩
        have ll : l < s.heap.objs.size := Heap.lt_size ho
        have ll2 : l < (s.heap.push (bare0 led)).objs.size := by
          rw [Heap.size_push]
          exact Nat.lt_succ_of_lt ll
        unfold Builtin.«set.__init__» noKeywords Builtin.Frozenset.updateFrom
        generalize hPI : pyIter = PI
        wp_walk
        subst hPI
        have hh3 : A.in1.in1.handled = none := by simp [hh]
        refine iter_of (T := T) (items := items) (by simp [hh]) hT hw ll2 fun J St fr W st0 => ?_
        refine wpAny_bind (wpAny_runValue ?_)
        have len : xs.length = items.size := by rw [← StrsAre.len_eq hi, Array.length_toList]
        refine putting W s.heap.objs.size ?_ xs len (by omega) (fun i v hv => txt_at hi i v (by rw [Array.getElem?_toList]; exact hv)) items.size 0 _ (Nat.zero_add _) st0 ?_ ?_
        · rw [Heap.size_push]
          simp only [List.mem_cons, List.not_mem_nil, or_false, not_or]
          exact ⟨Nat.ne_of_lt (Nat.lt_succ_self _), Nat.ne_of_gt ll⟩
        · exact SetOf_congr ((setObjOf_fresh (knd := PySem.strKind prog w) led).setOf (Heap.get?_push_of_some _ hS) (by unfold scanBound; omega)) (fun _ => rfl) rfl
        · rintro ⟨h3, g3, d3, tk3, os3⟩ m got
          have eg : g3 = s.gens := m.gens
          have ed : d3 = s.drawn := m.drawn
          have eo : os3 = s.os := m.os
          subst eg ed eo
          refine wpAny_pure ?_
          show wpAny _ _ (ret Value.none) _ _ _
          refine wpAny_pure ⟨rfl, h3, tk3, rfl, got, fun b o e => ?_⟩
          have b1 : b < s.heap.objs.size := Heap.lt_size e
          refine m.heap b o ?_ (Heap.get?_push_of_some _ (Heap.get?_push_of_some _ e))
          rw [Heap.size_push]
          simp only [List.mem_cons, List.not_mem_nil, or_false, not_or]
          exact ⟨Nat.ne_of_lt b1, Nat.ne_of_lt (Nat.lt_succ_of_lt b1)⟩
      · cases r2 with
        | error e => exact hr2
        | ok fl2 =>
          cases fl2 with
          | ret r =>
            obtain ⟨rfl, h3, tk, rfl, got, keep⟩ := hr2
            repeat (any_goals (first | assumption | wp_step))
            exact h _ _ got keep
          | _ => exact hr2.elim
    | _ => exact hr.elim
end
section
variable {X : Cx}
open L2
/-- len(set(xs)) of texts: as many as there are exactly if no two are the same -/
def tLenTxt (K : PySem.W.Frag) (ta : TE) : TE := fun σ H Q => ta σ H fun x H1 => ∃ (l : Addr) (xs : List Str), x = V.ref l ∧ (SqL K H1 l (xs.map V.str) ∨ SqT K H1 l (xs.map V.str)) ∧ xs.length ≤ 1000 ∧ ∀ n : Nat, (n = xs.length ↔ xs.Nodup) → n ≤ xs.length → Q (.int n) H1
theorem strs_of : ∀ {xs : List Str} {us : List Value}, Vals (xs.map V.str) us → StrsAre us xs
  | [], _, r => by
    cases r
    exact .nil
  | x :: xs, _, r => by
    cases r with
    | cons a t =>
      obtain ⟨tk, rfl⟩ := a
      exact .cons x tk (strs_of t)
theorem pe_lenTxt {a : Expr} {ta : TE} {p p2 q pos : Pos} (hc : X.calm = true) (hg : Gl X "len") (hm : X.mg "len" = none) (hg2 : Gl X "set") (hm2 : X.mg "set" = none) (ha : PE X a ta)
    (na : starEach [a] X.env = (false, eval a X.env) :: starEach [] X.env := by rfl) : PE X (.Call (.Name "len" p) [.Call (.Name "set" p2) [a] [] q] [] pos) (tLenTxt X.K ta) := by
  refine ⟨fun pins s σ H Q I h => Call_ (ld_blt I hg hm PySem.boot_len ?_)⟩
  refine PyProof.Rows.callWith_builtin1 (PyProof.Rows.args_cons ?_ rfl) rfl rfl
  refine Call_ (ld_blt I hg2 hm2 PyProof.Rows.boot_set ?_)
  refine PyProof.Rows.callWith_type1 (PyProof.Rows.args_cons (thn (ha.run pins s σ H _ I h) fun v s1 ⟨x, H1, I1, r1, l, xs, ex, hq, few, q1⟩ => PyProof.Rows.args_nil ?_) na) na rfl
  subst ex
  cases r1
  have there : ∃ (T : String) (its : List Value) (d : Option Addr) (nl : Nat) (sl : Array (Option Value)), (T = "list" ∨ T = "tuple") ∧ Vals (xs.map V.str) its ∧ s1.heap.get? l = some { cls := .type T, dict := d, data := .seq its.toArray nl, slots := sl } := by
    rcases hq with hq | hq
    · obtain ⟨its, r, pl, _⟩ := I1.list hq
      obtain ⟨⟨oc, od, ox, os⟩, ho, hc, nl, hd⟩ := pl.isList
      cases hc
      cases hd
      exact ⟨"list", its, od, nl, os, .inl rfl, r, ho⟩
    · obtain ⟨its, r, pl, _⟩ := I1.tuple hq
      obtain ⟨⟨oc, od, ox, os⟩, ho, hc, nl, hd⟩ := pl
      cases hc
      cases hd
      exact ⟨"tuple", its, od, nl, os, .inr rfl, r, ho⟩
  obtain ⟨T, its, d, nl, sl, hT, r, ho⟩ := there
  refine call_txts (xs := xs) (by simpa using I1.ok.hd hc) hT ho (strs_of r) (by unfold scanBound; omega) fun h2 tk got keep => ?_
  refine PyProof.Rows.args_nil ?_
  obtain ⟨o, es, ep, t, ho, hex, hd, _, _, _, hf, hn⟩ := got
  have I2 : L2.Inv X pins σ H1 { s1 with heap := h2, toks := tk } := I1.kept fun b o e => keep b o e
  have le := met_le xs
  refine call_len_set ho hex hd hf (by rw [hn] <;> omega) ⟨.int ((metOf xs).length : Nat), H1, I2.tok _, ⟨_, by rw [hn]⟩, q1 _ (met_len xs) le⟩
end
end DkSet
set_option Elab.async false
set_option linter.all false
set_option maxRecDepth 100000
set_option maxHeartbeats 4000000
namespace Dk
open PySem PySem.Spec PyProof.Rows L2 Er
/-! ### comprehensions of one name, walks over lists and tuples alike -/
theorem Sm.trans {H H1 H2 : Hp} (a : Sm H H1) (b : Sm H1 H2) : Sm H H2 := fun c o e => b c o (a c o e)
theorem Sm.refl (H : Hp) : Sm H H := fun _ _ e => e
/-- [e for x in ..]: one value for each turn -/
theorem lc_map {J : It} {n : Nat} {G : Hp → Prop} {Y : Nat → Hp → V → Hp → Prop} (w : Walk J n G Y) {te : TE} {fv : Nat → V} {σ : L2.St} {i : Nat} {H1 : Hp} {Q : Addr → Hp → Prop} (hn : n ≤ 1000) (g1 : ∀ H2, Sm H1 H2 → G H2)
    (w1 : ∀ v, wipe ((wipe σ [i]).set i (some v)) [i] = wipe σ [i]) (ys : ∀ j H2 x H3, j < n → Y j H2 x H3 → Sm H2 H3)
    (ev : ∀ (j : Nat) (x : V) (H2 H3 : Hp) (Q : VK), j < n → Sm H1 H2 → Y j H2 x H3 → Sm H1 H3 → (∀ H4, Sm H3 H4 → Q (fv j) H4) → te ((wipe σ [i]).set i (some x)) H3 Q)
    (q : ∀ (D : Addr) (H2 : Hp), Sm H1 H2 → H1 D = none → H2 D = some (.lst ((List.range n).map fv)) → Q D H2) :
    ∀ D, H1 D = none → ∃ W : Nat → Nat → Hp → Prop, (∃ m, W 0 m (upd H1 D (.lst []))) ∧ ∀ i₁ m H, W i₁ m H →
      (J.stop i₁ H ∧ Q D H) ∨ (J.go i₁ H ∧ ∃ Nx : Hp → Prop, (∀ H', Nx H' → ∃ m', m' < m ∧ W (i₁ + 1) m' H') ∧ ∀ x H', J.yld i₁ H x H' → gName i x (wipe σ [i]) H' fun σ2 H2 => wipe σ2 [i] = wipe σ [i] ∧ tYes σ2 H2 fun b H3 =>
        if b = true then te σ2 H3 fun y H4 => ∃ acc, H4 D = some (.lst acc) ∧ acc.length < sizeLine ∧ Nx (upd H4 D (.lst (acc ++ [y]))) else Nx H3) := by
  intro D hD
  refine lc_it w (g := gName i) (tt := tYes) (te := te) (vs := [i]) (Qd := fun H => Q D H) (fun j H2 => H2 D = some (.lst ((List.range j).map fv)) ∧ Sm H1 H2) ⟨upd_same, Sm.new hD⟩ (fun j H2 _ h => g1 H2 h.2) ?_ ?_
  · rintro j x H2 H3 hj ⟨ed, sm⟩ hy
    refine ⟨w1 x, ?_⟩
    unfold tYes
    dsimp only
    rw [if_pos rfl]
    have s23 := ys j H2 x H3 hj hy
    refine ev j x H2 H3 _ hj sm hy (Sm.trans sm s23) fun H4 s34 => ⟨_, s34 _ _ (s23 _ _ ed), ?_, ?_, ?_⟩
    · rw [List.length_map, List.length_range, sizeLine_eq]
      omega
    · rw [upd_same, List.range_succ, List.map_append]
      rfl
    · intro b o e
      rw [upd_ne (ne_of_none e hD)]
      exact s34 _ _ (s23 _ _ (sm _ _ e))
  · rintro H2 ⟨ed, sm⟩
    exact q D H2 sm hD ed
section
variable {X : Cx} {tg : Expr}
/-- a walk over a list or a tuple -/
def iSeq (K : PySem.W.Frag) (tl : TE) : TI := fun σ H R => tl σ H fun x H1 => ∃ (a : Addr) (xs : List V), x = .ref a ∧ ((SqL K H1 a xs ∧ R (Itl K a) H1) ∨ (SqT K H1 a xs ∧ R (Itt K a) H1))
theorem pi_seq {l : Expr} {tl : TE} (hl : PE X l tl) : PI X tg l (iSeq X.K tl) := by
  refine ⟨fun pins s σ H R I h => thn (hl.run pins s σ H _ I h) fun v s1 ⟨x, H1, I1, r1, a, xs, e, q1⟩ => ?_⟩
  subst e
  cases r1
  have fr : ∀ b ∈ [s1.heap.objs.size], b = s1.heap.objs.size := fun b hb => by simpa using hb
  rcases q1 with ⟨hq, q⟩ | ⟨hq, q⟩
  · obtain ⟨its, rv, p, hz⟩ := I1.list hq
    refine wpAny_pyIter_list p.isList ⟨s1.heap.objs.size, [s1.heap.objs.size], _, _, H1, rfl, I1.kept (t' := s1.toks) fun b o e => Heap.get?_push_of_some _ e, turn_list a _, ⟨_, Heap.get?_push_size _ rfl, rfl, rfl⟩, fun b hb => ?_, q⟩
    rw [fr b hb]
    exact I1.fpOk (Nat.le_refl _) (I1.hok.fresh (Nat.le_refl _))
  · obtain ⟨its, rv, p, hz⟩ := I1.tuple hq
    refine wpAny_pyIter_tuple (show s1.heap.IsTuple a its.toArray from p) ⟨s1.heap.objs.size, [s1.heap.objs.size], _, _, H1, rfl, I1.kept (t' := s1.toks) fun b o e => Heap.get?_push_of_some _ e, turn_tuple a _, ⟨_, Heap.get?_push_size _ rfl, rfl, rfl⟩, fun b hb => ?_, q⟩
    rw [fr b hb]
    exact I1.fpOk (Nat.le_refl _) (I1.hok.fresh (Nat.le_refl _))
end
/-! ### is_name -/
/-- a value that is no text, of a type that is known -/
def NoStr (K : PySem.W.Frag) (H : Hp) (x : V) : Prop := ∃ t, TyX K H x t ∧ PySem.W.kitOne K t (.type "str") = some false
theorem NoStr.non {K : PySem.W.Frag} {H : Hp} : NoStr K H .non := ⟨_, .base .non, kit_ty (by decide +kernel)⟩
theorem NoStr.int {K : PySem.W.Frag} {H : Hp} {i : Int} : NoStr K H (.int i) := ⟨_, .base (.int i), kit_ty (by decide +kernel)⟩
theorem NoStr.bl {K : PySem.W.Frag} {H : Hp} {b : Bool} : NoStr K H (.bl b) := ⟨_, .base (.bl b), kit_ty (by decide +kernel)⟩
theorem NoStr.lst {K : PySem.W.Frag} {H : Hp} {a : Addr} {xs : List V} (e : H a = some (.lst xs)) : NoStr K H (.ref a) := ⟨_, .base (.lst e), kit_ty (by decide +kernel)⟩
theorem NoStr.tup {K : PySem.W.Frag} {H : Hp} {a : Addr} {xs : List V} (e : H a = some (.tup xs)) : NoStr K H (.ref a) := ⟨_, .base (.tup e), kit_ty (by decide +kernel)⟩
theorem NoStr.dK {K : PySem.W.Frag} {H : Hp} {a : Addr} {xs : List (Key × V)} (e : H a = some (.dK xs)) : NoStr K H (.ref a) := ⟨_, .base (.dK e), kit_ty (by decide +kernel)⟩
instance (z : Str) : Decidable (IsWord z) := by
  unfold IsWord
  exact inferInstance
theorem le_a {c : Nat} : (!decide ((⟨#[c]⟩ : Str).cps.toList < (Str.ofString "a").cps.toList)) = decide (97 ≤ c) := by
  rw [Bool.eq_iff_iff]
  show (!decide ([c] < [97])) = true ↔ _
  rw [Bool.not_eq_true', decide_eq_false_iff_not, List.cons_lt_cons_iff]
  simp
theorem le_z {c : Nat} : (!decide ((Str.ofString "z").cps.toList < (⟨#[c]⟩ : Str).cps.toList)) = decide (c ≤ 122) := by
  rw [Bool.eq_iff_iff]
  show (!decide ([122] < [c])) = true ↔ _
  rw [Bool.not_eq_true', decide_eq_false_iff_not, List.cons_lt_cons_iff]
  simp
def spIsName (K : PySem.W.Frag) : Sp := fun vs H Q _ => ∃ x, vs = [x] ∧ ((∃ z : Str, x = .str z ∧ z.length ≤ 1000 ∧ ∀ H', Sm H H' → Q (.bl (decide (IsWord z))) H') ∨ (NoStr K H x ∧ Q (.bl false) H))
abbrev nIsName : List Str := ["value", "letter"]
theorem scIsName : FnScope nIsName ["value"] (defScope (top 18)) := ⟨rfl, rfl, rfl, by decide +kernel, rfl, by decide +kernel, by decide +kernel⟩
section
variable {P : Program} {w : World} {K : PySem.W.Frag} {mg : Str → Option Value} {base : Heap} {f : Addr} {fd : FuncData}
theorem ok_isname (F : FunD K "is_name" "is_name" (defArgs (top 18)) (defBody (top 18)) (defScope (top 18)) [] [] f fd) (mi : mg "isinstance" = none) (ms : mg "str" = none) (ml : mg "len" = none) (ma : mg "all" = none) :
    FnOk P w K mg base CX0 1 f fd ["value"] (spIsName K) := by
  refine F.ok (CX := CX0) scIsName (fun vs H Q E h => ?_) (fun cdv A outer s H vs Q E hr h => ?_)
  · obtain ⟨x, rfl, _⟩ := h
    rfl
  · refine ⟨_, PSs.nox (pss_cons (ps_if (PW.pt (pw_or (pt_not (pt_val (by exact (pe_callB call_isi rfl mi PyProof.Rows.boot_isinstance (pa_cons (pv 0) (pa_cons (pe_bltn (v := .ty "str") rfl ms (by decide +kernel) rfl) pa_nil)))))) (pw_or1 (pt_not (pt_chain op_le op_le pe_int (by exact (pe_callB call_len rfl ml boot_len (pa_cons (pv 0) pa_nil))) pe_int))))) (pss_one (ps_ret pe_bl)) pss_nil)
      (pss_one (ps_ret (by exact (pe_callB (cr_all rfl) rfl ma PyProof.Rows.boot_all (pa_cons (by exact (pe_lc (own := [("letter", 1)]) (g := gName 1) (tt := tYes) (te := tChain _ _ (tC (.str "a")) (tVar 1) (tC (.str "z"))) rfl scIsName.nd (pi_str (pv 0))
        (blkOk_by (N := nIsName) (sc := defScope (top 18)) (by decide +kernel)) (fun _ _ _ _ _ => pg_name (i := 1) scIsName.nd rfl (Or.inl rfl)) (fun _ _ _ _ _ => pts_nil) (fun _ _ _ _ _ => by exact (pe_chain op_le_str op_le_str pe_str (by exact (pv 1)) pe_str)))) pa_nil)))))), ?_⟩
    obtain ⟨x, rfl, h⟩ := h
    rcases h with ⟨z, rfl, z1, q⟩ | ⟨⟨t, ty, kk⟩, q⟩
    · refine ⟨_, rfl, .str z, .ty "str", _, _, true, rfl, .ty "str", .base (.str z), kit_ty (by decide +kernel), _, rfl, ?_⟩
      refine iteF ?_
      refine ⟨_, rfl, .str z, z.length, rfl, ⟨by rw [sizeLine_eq]; omega, rfl⟩, _, _, rfl, rfl, _, rfl, ?_⟩
      by_cases c1 : (1 : Int) ≤ (z.length : Nat)
      · rw [decide_eq_true c1]
        refine iteT ⟨_, _, rfl, rfl, _, rfl, ?_⟩
        by_cases c2 : ((z.length : Nat) : Int) ≤ 8
        · rw [decide_eq_true c2]
          refine iteF ⟨_, rfl, z, rfl, ?_⟩
          refine lc_map walk_str (fv := fun j => .bl (decide (97 ≤ z.cps.toList.getD j 0) && decide (z.cps.toList.getD j 0 ≤ 122))) (by show z.length ≤ 1000; exact z1) (fun _ _ => True.intro) (fun _ => rfl) (fun j H2 x H3 _ y => by rw [y.1]; exact Sm.refl _) (fun j x H2 H3 Q hj s2 y s3 q => ?_) fun D H2 sm nD ed => ?_
          · obtain ⟨rfl, c, ec, rfl⟩ := y
            have cd : z.cps.toList.getD j 0 = c := by
              rw [List.getD_eq_getElem?_getD, Array.getElem?_toList, ec]
              rfl
            have q := q H3 (Sm.refl _)
            rw [cd] at q
            refine ⟨_, rfl, _, _, rfl, rfl, _, rfl, ?_⟩
            by_cases l1 : 97 ≤ c
            · rw [le_a, decide_eq_true l1]
              refine iteT ⟨_, _, rfl, rfl, ?_⟩
              rw [le_z]
              rw [decide_eq_true l1] at q
              exact q
            · rw [le_a, decide_eq_false l1]
              refine iteF ?_
              rw [decide_eq_false l1] at q
              exact q
          · refine ⟨D, (List.range z.length).map fun j => (decide (97 ≤ z.cps.toList.getD j 0) && decide (z.cps.toList.getD j 0 ≤ 122)), rfl, .inl (.inl (by rw [ed, List.map_map]; rfl)), ?_⟩
            have e : ((List.range z.length).map fun j => (decide (97 ≤ z.cps.toList.getD j 0) && decide (z.cps.toList.getD j 0 ≤ 122))).all id = decide (IsWord z) := by
              rw [Bool.eq_iff_iff, List.all_eq_true, decide_eq_true_iff]
              have hl : z.cps.toList.length = z.length := Array.length_toList
              constructor
              · intro h
                refine ⟨by omega, by omega, fun c hc => ?_⟩
                obtain ⟨j, hj, rfl⟩ := List.mem_iff_getElem.mp hc
                have := h _ (List.mem_map.mpr ⟨j, List.mem_range.mpr (by omega), rfl⟩)
                rw [List.getD_eq_getElem?_getD, List.getElem?_eq_getElem hj] at this
                simpa using this
              · rintro ⟨_, _, h⟩ b hb
                obtain ⟨j, hj, rfl⟩ := List.mem_map.mp hb
                have hj := List.mem_range.mp hj
                have := h _ (List.getElem_mem (show j < z.cps.toList.length by omega))
                rw [List.getD_eq_getElem?_getD, List.getElem?_eq_getElem (by omega)]
                simpa using this
            rw [e]
            exact q H2 sm
        · rw [decide_eq_false c2]
          have e : IsWord z ↔ False := ⟨fun h => by have := h.2.1; omega, False.elim⟩
          have q := q H (Sm.refl H)
          rw [decide_eq_false (fun h => e.mp h)] at q
          exact iteT q
      · rw [decide_eq_false c1]
        have e : IsWord z ↔ False := ⟨fun h => by have := h.1; omega, False.elim⟩
        have q := q H (Sm.refl H)
        rw [decide_eq_false (fun h => e.mp h)] at q
        exact iteF ⟨_, rfl, iteT q⟩
    · refine ⟨_, rfl, x, .ty "str", _, _, false, rfl, .ty "str", ty, kk, _, rfl, ?_⟩
      exact iteT (iteT q)
end
end Dk
set_option Elab.async false
set_option linter.all false
set_option maxRecDepth 100000
set_option maxHeartbeats 4000000
namespace Dk
open PySem PySem.Spec PyProof.Rows L2 Er
/-! ### is_one_of, are_different, is_table -/
/-- some names: a list, a tuple, or the keys of a dict -/
def Nms (K : PySem.W.Frag) (H : Hp) (a : Addr) (ws : List Str) : Prop := SqL K H a (ws.map V.str) ∨ SqT K H a (ws.map V.str) ∨ ∃ vs : List V, Rd H a (.dK (dkv ws vs)) ∧ vs.length = ws.length
theorem dkv_none : ∀ {ws : List Str} {vs : List V} {z : Str}, z ∉ ws → valV (dkv ws vs) (.inr z) = none
  | [], _, _, _ => rfl
  | _ :: _, [], _, _ => rfl
  | w :: ws, v :: vs, z, h => by
    have ih := dkv_none (ws := ws) (vs := vs) (z := z) fun x => h (List.mem_cons_of_mem _ x)
    unfold valV at ih ⊢
    show ((((Sum.inr w, v) : Key × V) :: dkv ws vs).find? _).map _ = none
    rw [List.find?_cons_of_neg]
    · exact ih
    · intro x
      have e : (Sum.inr w : Key) = .inr z := of_decide_eq_true x
      exact h (Sum.inr.inj e ▸ List.mem_cons_self)
theorem dkv_some : ∀ {ws : List Str} {vs : List V} {z : Str}, vs.length = ws.length → z ∈ ws → ∃ (j : Nat) (v : V), ws[j]? = some z ∧ vs[j]? = some v ∧ valV (dkv ws vs) (.inr z) = some v
  | [], _, _, _, h => nomatch h
  | _ :: _, [], _, e, _ => by simp at e
  | w :: ws, v :: vs, z, e, h => by
    by_cases c : w = z
    · subst c
      refine ⟨0, v, rfl, rfl, ?_⟩
      unfold valV
      show ((((Sum.inr w, v) : Key × V) :: dkv ws vs).find? _).map _ = _
      rw [List.find?_cons_of_pos (by simp)]
      rfl
    · have h2 : z ∈ ws := by
        rcases List.mem_cons.mp h with x | x
        · exact absurd x.symm c
        · exact x
      obtain ⟨j, u, a, b, d⟩ := dkv_some (ws := ws) (vs := vs) (by simpa using e) h2
      refine ⟨j + 1, u, by simpa using a, by simpa using b, ?_⟩
      unfold valV at d ⊢
      show ((((Sum.inr w, v) : Key × V) :: dkv ws vs).find? _).map _ = _
      rw [List.find?_cons_of_neg]
      · exact d
      · intro x
        have e : (Sum.inr w : Key) = .inr z := of_decide_eq_true x
        exact c (Sum.inr.inj e)
theorem dkv_has {ws : List Str} {vs : List V} {z : Str} (e : vs.length = ws.length) : (valV (dkv ws vs) (.inr z)).isSome = decide (z ∈ ws) := by
  by_cases c : z ∈ ws
  · obtain ⟨j, v, _, _, d⟩ := dkv_some e c
    rw [d, decide_eq_true c]
    rfl
  · rw [dkv_none c, decide_eq_false c]
    rfl
theorem in_strs {ws : List Str} {z : Str} : inV (.str z) (ws.map V.str) = decide (z ∈ ws) := by
  unfold inV
  rw [List.any_map, Bool.eq_iff_iff, List.any_eq_true, decide_eq_true_iff]
  constructor
  · rintro ⟨y, hy, e⟩
    have e2 : y = z := by simpa [eqV] using e
    exact e2 ▸ hy
  · intro h
    exact ⟨z, h, by simp [eqV]⟩
def rInA (K : PySem.W.Frag) : V → V → Hp → VK → Prop := fun x y H Q => ∃ (z : Str) (a : Addr) (ws : List Str), x = .str z ∧ y = .ref a ∧ Nms K H a ws ∧ Q (.bl (decide (z ∈ ws))) H
theorem op_inA {X : Cx} (hu : X.A.units + 1 < cLine) : OpR X (compareOp .In) (rInA X.K) := by
  intro pins s σ H x y v u Q I rx ry h
  obtain ⟨z, a, ws, rfl, rfl, hn, q⟩ := h
  rcases hn with h | h | ⟨vs, h, e⟩
  · exact op_in_seq pins s σ H _ _ v u Q I rx ry ⟨a, _, rfl, .inl h, rfl, flat_strs ws, by rw [if_neg (by decide), in_strs]; exact q⟩
  · exact op_in_seq pins s σ H _ _ v u Q I rx ry ⟨a, _, rfl, .inr h, rfl, flat_strs ws, by rw [if_neg (by decide), in_strs]; exact q⟩
  · obtain rfl : u = Value.ref a := ry
    exact d_in hu I (.inl ⟨_, .inr z, h, rfl, rfl⟩) rx fun s2 I2 => ⟨.bl _, H, I2, rfl, by rw [dkv_has e]; exact q⟩
def spOneOf (K : PySem.W.Frag) : Sp := fun vs H Q _ => ∃ x a, vs = [x, .ref a] ∧ ((∃ (z : Str) (ws : List Str), x = .str z ∧ Nms K H a ws ∧ Q (.bl (decide (z ∈ ws))) H) ∨ (NoStr K H x ∧ Q (.bl false) H))
abbrev nOneOf : List Str := ["value", "names"]
theorem scOneOf : FnScope nOneOf nOneOf (defScope (top 19)) := ⟨rfl, rfl, rfl, by decide +kernel, rfl, by decide +kernel, by decide +kernel⟩
abbrev nDiff : List Str := ["names"]
theorem scDiff : FnScope nDiff nDiff (defScope (top 20)) := ⟨rfl, rfl, rfl, by decide +kernel, rfl, by decide +kernel, by decide +kernel⟩
def spDiff (K : PySem.W.Frag) : Sp := fun vs H Q _ => ∃ (a : Addr) (ws : List Str), vs = [.ref a] ∧ (SqL K H a (ws.map V.str) ∨ SqT K H a (ws.map V.str)) ∧ ws.length ≤ 1000 ∧ Q (.bl (decide ws.Nodup)) H
section
variable {P : Program} {w : World} {K : PySem.W.Frag} {mg : Str → Option Value} {base : Heap} {f : Addr} {fd : FuncData}
theorem ok_oneof (F : FnP K "is_one_of" (top 19) f fd) (mi : mg "isinstance" = none) (ms : mg "str" = none) : FnOk P w K mg base CX0 1 f fd nOneOf (spOneOf K) := by
  refine F.ok (CX := CX0) scOneOf (fun vs H Q E h => ?_) (fun cdv A outer s H vs Q E hr h => ?_)
  · obtain ⟨x, a, rfl, _⟩ := h
    rfl
  · refine ⟨_, PSs.nox (pss_one (ps_ret (by exact (pe_and (by exact (pe_callB call_isi rfl mi PyProof.Rows.boot_isinstance (pa_cons (pv 0) (pa_cons (pe_bltn (v := .ty "str") rfl ms (by decide +kernel) rfl) pa_nil)))) (pe_one (by exact (pe_cmpR (op_inA (hu_of hr)) (pv 0) (pv 1) rfl))))))), ?_⟩
    obtain ⟨x, a, rfl, h⟩ := h
    rcases h with ⟨z, ws, rfl, hn, q⟩ | ⟨⟨t, ty, kk⟩, q⟩
    · exact ⟨_, rfl, .str z, .ty "str", _, _, true, rfl, .ty "str", .base (.str z), kit_ty (by decide +kernel), _, rfl, iteT ⟨_, rfl, _, rfl, z, a, ws, rfl, rfl, hn, q⟩⟩
    · exact ⟨_, rfl, x, .ty "str", _, _, false, rfl, .ty "str", ty, kk, _, rfl, iteF q⟩
theorem ok_diff (F : FnP K "are_different" (top 20) f fd) (ms : mg "set" = none) (ml : mg "len" = none) : FnOk P w K mg base CX0 1 f fd nDiff (spDiff K) := by
  refine F.ok (CX := CX0) scDiff (fun vs H Q E h => ?_) (fun cdv A outer s H vs Q E hr h => ?_)
  · obtain ⟨a, ws, rfl, _⟩ := h
    rfl
  · refine ⟨_, PSs.nox (pss_one (ps_ret (by exact (pe_cmpR op_eq (by exact (DkSet.pe_lenTxt rfl rfl ml rfl ms (pv 0))) (by exact (pe_callB call_len rfl ml boot_len (pa_cons (pv 0) pa_nil))) (nomark _))))), ?_⟩
    obtain ⟨a, ws, rfl, hs, hl, q⟩ := h
    refine ⟨_, rfl, a, ws, rfl, hs, hl, fun n hn nl => ⟨_, rfl, _, ws.length, rfl, ?_, rfl, ?_⟩⟩
    · rcases hs with hs | hs
      · exact .inl ⟨_, hs, by rw [List.length_map]⟩
      · exact .inr ⟨_, hs, by rw [List.length_map]⟩
    · have e : decide (V.int ((n : Nat) : Int) = V.int ((ws.length : Nat) : Int)) = decide ws.Nodup := by
        rw [decide_eq_decide, ← hn]
        constructor
        · intro z
          have := V.int.inj z
          omega
        · intro z
          rw [z]
      rw [e]
      exact q
end
end Dk
set_option Elab.async false
set_option linter.all false
set_option maxRecDepth 100000
set_option maxHeartbeats 4000000
namespace Dk
open PySem PySem.Spec PyProof.Rows L2 Er
/-- what a comprehension of one name asks of its walk -/
abbrev LcR (te : TE) (σ : L2.St) (i : Nat) (H1 : Hp) (Q : Addr → Hp → Prop) (J : It) : Prop := ∀ D, H1 D = none → ∃ W : Nat → Nat → Hp → Prop, (∃ m, W 0 m (upd H1 D (.lst []))) ∧ ∀ i₁ m H, W i₁ m H →
      (J.stop i₁ H ∧ Q D H) ∨ (J.go i₁ H ∧ ∃ Nx : Hp → Prop, (∀ H', Nx H' → ∃ m', m' < m ∧ W (i₁ + 1) m' H') ∧ ∀ x H', J.yld i₁ H x H' → gName i x (wipe σ [i]) H' fun σ2 H2 => wipe σ2 [i] = wipe σ [i] ∧ tYes σ2 H2 fun b H3 =>
        if b = true then te σ2 H3 fun y H4 => ∃ acc, H4 D = some (.lst acc) ∧ acc.length < sizeLine ∧ Nx (upd H4 D (.lst (acc ++ [y]))) else Nx H3)
/-- a list or a tuple of texts -/
def Sq (K : PySem.W.Frag) (H : Hp) (a : Addr) (ws : List Str) : Prop := SqL K H a (ws.map V.str) ∨ SqT K H a (ws.map V.str)
theorem SqL.sm {K : PySem.W.Frag} {H H2 : Hp} {a : Addr} {xs : List V} (h : SqL K H a xs) (m : Sm H H2) : SqL K H2 a xs := by
  rcases h with (h | ⟨o, h⟩) | h
  · exact .inl (.inl (m _ _ h))
  · exact .inl (.inr ⟨o, m _ _ h⟩)
  · exact .inr h
theorem SqT.sm {K : PySem.W.Frag} {H H2 : Hp} {a : Addr} {xs : List V} (h : SqT K H a xs) (m : Sm H H2) : SqT K H2 a xs := by
  rcases h with (h | ⟨o, h⟩) | h
  · exact .inl (.inl (m _ _ h))
  · exact .inl (.inr ⟨o, m _ _ h⟩)
  · exact .inr h
theorem Sq.sm {K : PySem.W.Frag} {H H2 : Hp} {a : Addr} {ws : List Str} (h : Sq K H a ws) (m : Sm H H2) : Sq K H2 a ws := by
  rcases h with h | h
  · exact .inl (SqL.sm h m)
  · exact .inr (SqT.sm h m)
theorem Sq.len {K : PySem.W.Frag} {H : Hp} {a : Addr} {ws : List Str} (h : Sq K H a ws) : LenV K (.ref a) H ws.length := by
  rcases h with h | h
  · exact .inl ⟨_, h, by rw [List.length_map]⟩
  · exact .inr ⟨_, h, by rw [List.length_map]⟩
theorem lc_sq {K : PySem.W.Frag} {a : Addr} {ws : List Str} {te : TE} {fv : Nat → V} {σ : L2.St} {i : Nat} {H1 : Hp} {Q : Addr → Hp → Prop} (hk : Sq K H1 a ws) (hn : ws.length ≤ 1000) (w1 : ∀ v, wipe ((wipe σ [i]).set i (some v)) [i] = wipe σ [i])
    (ev : ∀ (j : Nat) (z : Str) (H2 : Hp) (Q : VK), ws[j]? = some z → Sm H1 H2 → (∀ H4, Sm H2 H4 → Q (fv j) H4) → te ((wipe σ [i]).set i (some (.str z))) H2 Q)
    (q : ∀ (D : Addr) (H2 : Hp), Sm H1 H2 → H1 D = none → H2 D = some (.lst ((List.range ws.length).map fv)) → Q D H2) :
    (SqL K H1 a (ws.map V.str) ∧ LcR te σ i H1 Q (Itl K a)) ∨ (SqT K H1 a (ws.map V.str) ∧ LcR te σ i H1 Q (Itt K a)) := by
  have hl : (ws.map V.str).length = ws.length := List.length_map _
  have yat : ∀ (j : Nat) (x : V), (ws.map V.str)[j]? = some x → ∃ z, ws[j]? = some z ∧ x = .str z := fun j x e => by
    rw [List.getElem?_map] at e
    cases ez : ws[j]? with
    | none =>
      rw [ez] at e
      cases e
    | some z =>
      rw [ez] at e
      exact ⟨z, rfl, (Option.some.inj e).symm⟩
  rcases hk with hk | hk
  · refine .inl ⟨hk, lc_map walk_list (by omega) (fun H2 m => SqL.sm hk m) w1 (fun j H2 x H3 _ y => by rw [y.1]; exact Sm.refl _) (fun j x H2 H3 Q hj s2 y s3 qq => ?_) fun D H2 m nD ed => q D H2 m nD (by rw [← hl]; exact ed)⟩
    obtain ⟨rfl, ex⟩ := y
    obtain ⟨z, ez, rfl⟩ := yat j x ex
    exact ev j z _ Q ez s2 qq
  · refine .inr ⟨hk, lc_map walk_tup (by omega) (fun H2 m => SqT.sm hk m) w1 (fun j H2 x H3 _ y => by rw [y.1]; exact Sm.refl _) (fun j x H2 H3 Q hj s2 y s3 qq => ?_) fun D H2 m nD ed => q D H2 m nD (by rw [← hl]; exact ed)⟩
    obtain ⟨rfl, ex⟩ := y
    obtain ⟨z, ez, rfl⟩ := yat j x ex
    exact ev j z _ Q ez s2 qq
theorem all_range {ws : List Str} {p : Str → Bool} : ((List.range ws.length).map fun j => p (ws.getD j ⟨#[]⟩)).all id = ws.all p := by
  rw [Bool.eq_iff_iff, List.all_eq_true, List.all_eq_true]
  constructor
  · intro h z hz
    obtain ⟨j, hj, rfl⟩ := List.mem_iff_getElem.mp hz
    have := h _ (List.mem_map.mpr ⟨j, List.mem_range.mpr hj, rfl⟩)
    rw [List.getD_eq_getElem?_getD, List.getElem?_eq_getElem hj] at this
    exact this
  · intro h b hb
    obtain ⟨j, hj, rfl⟩ := List.mem_map.mp hb
    have hj := List.mem_range.mp hj
    rw [List.getD_eq_getElem?_getD, List.getElem?_eq_getElem hj]
    exact h _ (List.getElem_mem hj)
/-! ### is_table -/
/-- a value that is no dict, of a type that is known -/
def NoDict (K : PySem.W.Frag) (H : Hp) (x : V) : Prop := ∃ t, TyX K H x t ∧ PySem.W.kitOne K t (.type "dict") = some false
/-- what is a table: just these keys -/
def tableB (kvs : List (Key × V)) (ws : List Str) : Bool := decide (kvs.length = ws.length) && ws.all fun z => (valV kvs (.inr z)).isSome
def spTable (K : PySem.W.Frag) : Sp := fun vs H Q _ => ∃ (x : V) (k : Addr) (ws : List Str), vs = [x, .ref k] ∧ Sq K H k ws ∧ ws.length ≤ 1000 ∧
  ((∃ (d : Addr) (kvs : List (Key × V)), x = .ref d ∧ H d = some (.dK kvs) ∧ ∀ H', Sm H H' → Q (.bl (tableB kvs ws)) H') ∨ (NoDict K H x ∧ Q (.bl false) H))
abbrev nTable : List Str := ["value", "keys", "key"]
theorem scTable : FnScope nTable ["value", "keys"] (defScope (top 21)) := ⟨rfl, rfl, rfl, by decide +kernel, rfl, by decide +kernel, by decide +kernel⟩
def rInD1 : V → V → Hp → VK → Prop := fun x y H Q => ∃ (z : Str) (a : Addr) (kvs : List (Key × V)), x = .str z ∧ y = .ref a ∧ Rd H a (.dK kvs) ∧ Q (.bl (valV kvs (.inr z)).isSome) H
theorem op_inD1 {X : Cx} (hu : X.A.units + 1 < cLine) : OpR X (compareOp .In) rInD1 := by
  intro pins s σ H x y v u Q I rx ry h
  obtain ⟨z, a, kvs, rfl, rfl, h, q⟩ := h
  obtain rfl : u = Value.ref a := ry
  exact d_in hu I (.inl ⟨_, .inr z, h, rfl, rfl⟩) rx fun s2 I2 => ⟨.bl _, H, I2, rfl, q⟩
section
variable {P : Program} {w : World} {K : PySem.W.Frag} {mg : Str → Option Value} {base : Heap} {f : Addr} {fd : FuncData}
theorem ok_table (F : FnP K "is_table" (top 21) f fd) (mi : mg "isinstance" = none) (md : mg "dict" = none) (ml : mg "len" = none) (ma : mg "all" = none) : FnOk P w K mg base CX0 1 f fd ["value", "keys"] (spTable K) := by
  refine F.ok (CX := CX0) scTable (fun vs H Q E h => ?_) (fun cdv A outer s H vs Q E hr h => ?_)
  · obtain ⟨x, a, ws, rfl, _⟩ := h
    rfl
  · refine ⟨_, PSs.nox (pss_cons (ps_if (PW.pt (pw_or (pt_not (pt_val (by exact (pe_callB call_isi rfl mi PyProof.Rows.boot_isinstance (pa_cons (pv 0) (pa_cons (pe_bltn (v := .ty "dict") rfl md (by decide +kernel) rfl) pa_nil))))))
        (pw_or1 (pt_cmpR op_ne (by exact (pe_callB call_lenD rfl ml boot_len (pa_cons (pv 0) pa_nil))) (by exact (pe_callB call_len rfl ml boot_len (pa_cons (pv 1) pa_nil))) (nomark _))))) (pss_one (ps_ret pe_bl)) pss_nil)
      (pss_one (ps_ret (by exact (pe_callB (cr_all rfl) rfl ma PyProof.Rows.boot_all (pa_cons (by exact (pe_lc (own := [("key", 2)]) (g := gName 2) (tt := tYes) (te := tOp rInD1 (tVar 2) (tVar 0)) rfl scTable.nd (pi_seq (pv 1))
        (blkOk_by (N := nTable) (sc := defScope (top 21)) (by decide +kernel)) (fun _ _ _ _ _ => pg_name (i := 2) scTable.nd rfl (Or.inl rfl)) (fun _ _ _ _ _ => pts_nil) (fun _ _ _ _ _ => by exact (pe_cmpR (op_inD1 (hu_of hr)) (by exact (pv 2)) (by exact (pv 0)) rfl)))) pa_nil)))))), ?_⟩
    obtain ⟨x, k, ws, rfl, hk, kl, h⟩ := h
    rcases h with ⟨d, kvs, rfl, hd, q⟩ | ⟨⟨t, ty, kk⟩, q⟩
    · refine ⟨_, rfl, .ref d, .ty "dict", _, _, true, rfl, .ty "dict", .base (.dK hd), kit_ty (by decide +kernel), _, rfl, ?_⟩
      refine iteF ⟨_, rfl, d, kvs, rfl, hd, _, rfl, .ref k, ws.length, rfl, ?_, rfl, _, rfl, ?_⟩
      · exact Sq.len hk
      · by_cases c : kvs.length = ws.length
        · have e : decide (V.int ((kvs.length : Nat) : Int) = V.int ((ws.length : Nat) : Int)) = true := decide_eq_true (by rw [c])
          rw [e]
          refine iteF ⟨_, rfl, k, ws.map V.str, rfl, ?_⟩
          refine lc_sq (fv := fun j => .bl (valV kvs (.inr (ws.getD j ⟨#[]⟩))).isSome) hk kl (fun _ => rfl) (fun j z H2 Q ez s2 qq => ?_) fun D H2 m nD ed => ?_
          · have z2 := qq H2 (Sm.refl _)
            rw [List.getD_eq_getElem?_getD, ez] at z2
            exact ⟨_, rfl, _, rfl, z, d, kvs, rfl, rfl, .inl (s2 _ _ hd), z2⟩
          · refine ⟨D, (List.range ws.length).map fun j => (valV kvs (.inr (ws.getD j ⟨#[]⟩))).isSome, rfl, .inl (.inl (by rw [ed, List.map_map]; rfl)), ?_⟩
            rw [all_range (p := fun z => (valV kvs (.inr z)).isSome)]
            have q := q H2 m
            unfold tableB at q
            rw [decide_eq_true c, Bool.true_and] at q
            exact q
        · have e : decide (V.int ((kvs.length : Nat) : Int) = V.int ((ws.length : Nat) : Int)) = false := decide_eq_false fun z => c (by have := V.int.inj z; omega)
          rw [e]
          have q := q H (Sm.refl _)
          unfold tableB at q
          rw [decide_eq_false c, Bool.false_and] at q
          exact iteT q
    · refine ⟨_, rfl, x, .ty "dict", _, _, false, rfl, .ty "dict", ty, kk, _, rfl, ?_⟩
      exact iteT (iteT q)
end
end Dk
set_option Elab.async false
set_option linter.all false
set_option maxRecDepth 100000
set_option maxHeartbeats 4000000
namespace Dk
open PySem PySem.Spec PyProof.Rows L2 Er
/-! ### are_standings, of any list or tuple -/
/-- a list or a tuple of anything -/
def Sv (K : PySem.W.Frag) (H : Hp) (a : Addr) (xs : List V) : Prop := SqL K H a xs ∨ SqT K H a xs
theorem Sv.sm {K : PySem.W.Frag} {H H2 : Hp} {a : Addr} {xs : List V} (h : Sv K H a xs) (m : Sm H H2) : Sv K H2 a xs := by
  rcases h with h | h
  · exact .inl (SqL.sm h m)
  · exact .inr (SqT.sm h m)
theorem Sv.len {K : PySem.W.Frag} {H : Hp} {a : Addr} {xs : List V} (h : Sv K H a xs) : LenV K (.ref a) H xs.length := by
  rcases h with h | h
  · exact .inl ⟨_, h, rfl⟩
  · exact .inr ⟨_, h, rfl⟩
theorem sv_is {K : PySem.W.Frag} {H : Hp} {a : Addr} {xs : List V} (h : Sv K H a xs) : ∃ t, TyX K H (.ref a) (.type t) ∧ (t = "list" ∨ t = "tuple") := by
  rcases h with ((h | ⟨o, h⟩) | ⟨o, its, n, h, c, _⟩) | ((h | ⟨o, h⟩) | ⟨o, its, n, h, c, _⟩)
  · exact ⟨_, .base (.lst h), .inl rfl⟩
  · exact ⟨_, .base (.frz h), .inl rfl⟩
  · exact ⟨_, .kList h c, .inl rfl⟩
  · exact ⟨_, .base (.tup h), .inr rfl⟩
  · exact ⟨_, .fTuple h, .inr rfl⟩
  · exact ⟨_, .kTuple h c, .inr rfl⟩
/-- a text, or something that is none -/
def Itm (K : PySem.W.Frag) (H : Hp) (v : V) : Prop := (∃ z : Str, v = .str z ∧ z.length ≤ 1000) ∨ NoStr K H v
def nameB : V → Bool
  | .str z => decide (IsWord z)
  | _ => false
theorem NoStr.name {K : PySem.W.Frag} {H : Hp} {v : V} (h : NoStr K H v) : nameB v = false := by
  cases v with
  | str z =>
    obtain ⟨t, ty, k⟩ := h
    cases ty with
    | base b =>
      cases b
      rw [show PySem.W.kitOne K (.type "str") (.type "str") = some true from kit_ty (by decide +kernel)] at k
      cases k
  | _ => rfl
def standB (xs : List V) : Bool := decide (1 ≤ xs.length ∧ xs.length ≤ 9) && (xs.all nameB && decide xs.Nodup)
theorem lc_sv {K : PySem.W.Frag} {a : Addr} {xs : List V} {te : TE} {fv : Nat → V} {σ : L2.St} {i : Nat} {H1 : Hp} {Q : Addr → Hp → Prop} (hk : Sv K H1 a xs) (hn : xs.length ≤ 1000) (w1 : ∀ v, wipe ((wipe σ [i]).set i (some v)) [i] = wipe σ [i])
    (ev : ∀ (j : Nat) (x : V) (H2 : Hp) (Q : VK), xs[j]? = some x → Sm H1 H2 → (∀ H4, Sm H2 H4 → Q (fv j) H4) → te ((wipe σ [i]).set i (some x)) H2 Q)
    (q : ∀ (D : Addr) (H2 : Hp), Sm H1 H2 → H1 D = none → H2 D = some (.lst ((List.range xs.length).map fv)) → Q D H2) :
    (SqL K H1 a xs ∧ LcR te σ i H1 Q (Itl K a)) ∨ (SqT K H1 a xs ∧ LcR te σ i H1 Q (Itt K a)) := by
  rcases hk with hk | hk
  · refine .inl ⟨hk, lc_map walk_list hn (fun H2 m => SqL.sm hk m) w1 (fun j H2 x H3 _ y => by rw [y.1]; exact Sm.refl _) (fun j x H2 H3 Q hj s2 y s3 qq => ?_) q⟩
    obtain ⟨rfl, ex⟩ := y
    exact ev j x _ Q ex s2 qq
  · refine .inr ⟨hk, lc_map walk_tup hn (fun H2 m => SqT.sm hk m) w1 (fun j H2 x H3 _ y => by rw [y.1]; exact Sm.refl _) (fun j x H2 H3 Q hj s2 y s3 qq => ?_) q⟩
    obtain ⟨rfl, ex⟩ := y
    exact ev j x _ Q ex s2 qq
theorem all_rangeV {xs : List V} {p : V → Bool} : ((List.range xs.length).map fun j => p (xs.getD j .non)).all id = xs.all p := by
  rw [Bool.eq_iff_iff, List.all_eq_true, List.all_eq_true]
  constructor
  · intro h z hz
    obtain ⟨j, hj, rfl⟩ := List.mem_iff_getElem.mp hz
    have := h _ (List.mem_map.mpr ⟨j, List.mem_range.mpr hj, rfl⟩)
    rw [List.getD_eq_getElem?_getD, List.getElem?_eq_getElem hj] at this
    exact this
  · intro h b hb
    obtain ⟨j, hj, rfl⟩ := List.mem_map.mp hb
    have hj := List.mem_range.mp hj
    rw [List.getD_eq_getElem?_getD, List.getElem?_eq_getElem hj]
    exact h _ (List.getElem_mem hj)
theorem names_all : ∀ {xs : List V}, xs.all nameB = true → ∃ ws : List Str, xs = ws.map V.str ∧ ∀ z ∈ ws, IsWord z
  | [], _ => ⟨[], rfl, fun z hz => nomatch hz⟩
  | x :: xs, h => by
    rw [List.all_cons, Bool.and_eq_true] at h
    obtain ⟨ws, e, hw⟩ := names_all h.2
    cases x with
    | str z =>
      refine ⟨z :: ws, by rw [e]; rfl, fun y hy => ?_⟩
      rcases List.mem_cons.mp hy with r | r
      · rw [r]
        exact of_decide_eq_true h.1
      · exact hw y r
    | _ => exact absurd (show false = true from h.1) (by decide)
theorem nodup_strs {ws : List Str} : (ws.map V.str).Nodup ↔ ws.Nodup := by
  constructor
  · intro h
    exact List.Pairwise.of_map V.str (fun a b n e => n (by rw [e])) h
  · intro h
    exact List.Pairwise.map _ (fun a b n e => n (V.str.inj e)) h
/-- neither a list nor a tuple -/
def NoSq (K : PySem.W.Frag) (H : Hp) (x : V) : Prop := ∃ t, TyX K H x t ∧ PySem.W.kitOne K t (.type "list") = some false ∧ PySem.W.kitOne K t (.type "tuple") = some false
theorem tyx_new {K : PySem.W.Frag} {H : Hp} {x : V} {t : Value} {T : Addr} {o : HO} (h : TyX K H x t) (n : H T = none) : TyX K (upd H T o) x t := by
  have m := Sm.new (o := o) n
  cases h with
  | base b =>
    refine .base ?_
    cases b with
    | non => exact .non
    | bl y => exact .bl y
    | int i => exact .int i
    | str y => exact .str y
    | flt y => exact .flt y
    | lst e => exact .lst (m _ _ e)
    | frz e => exact .frz (m _ _ e)
    | tup e => exact .tup (m _ _ e)
    | dK e => exact .dK (m _ _ e)
    | dT e => exact .dT (m _ _ e)
    | ins e a b c d f => exact .ins (m _ _ e) a b c d f
  | byt b => exact .byt b
  | set e => exact .set (m _ _ e)
  | kList e c => exact .kList e c
  | kTuple e c => exact .kTuple e c
  | kDict e c => exact .kDict e c
  | fTuple e => exact .fTuple (m _ _ e)
  | fDict e => exact .fDict (m _ _ e)
theorem tyx_sm {K : PySem.W.Frag} {H H2 : Hp} {x : V} {t : Value} (h : TyX K H x t) (m : Sm H H2) : TyX K H2 x t := by
  cases h with
  | base b =>
    refine .base ?_
    cases b with
    | non => exact .non
    | bl y => exact .bl y
    | int i => exact .int i
    | str y => exact .str y
    | flt y => exact .flt y
    | lst e => exact .lst (m _ _ e)
    | frz e => exact .frz (m _ _ e)
    | tup e => exact .tup (m _ _ e)
    | dK e => exact .dK (m _ _ e)
    | dT e => exact .dT (m _ _ e)
    | ins e a b c d f => exact .ins (m _ _ e) a b c d f
  | byt b => exact .byt b
  | set e => exact .set (m _ _ e)
  | kList e c => exact .kList e c
  | kTuple e c => exact .kTuple e c
  | kDict e c => exact .kDict e c
  | fTuple e => exact .fTuple (m _ _ e)
  | fDict e => exact .fDict (m _ _ e)
theorem NoStr.sm {K : PySem.W.Frag} {H H2 : Hp} {x : V} (h : NoStr K H x) (m : Sm H H2) : NoStr K H2 x := by
  obtain ⟨t, ty, k⟩ := h
  exact ⟨t, tyx_sm ty m, k⟩
def spStand (K : PySem.W.Frag) : Sp := fun vs H Q _ => ∃ x : V, vs = [x] ∧ ((∃ (a : Addr) (xs : List V), x = .ref a ∧ Sv K H a xs ∧ xs.length ≤ 1000 ∧ (∀ y ∈ xs, Itm K H y) ∧ ∀ H', Sm H H' → Q (.bl (standB xs)) H') ∨ (NoSq K H x ∧ ∀ H', Sm H H' → Q (.bl false) H'))
abbrev nStand : List Str := ["value", "name"]
theorem scStand : FnScope nStand ["value"] (defScope (top 27)) := ⟨rfl, rfl, rfl, by decide +kernel, rfl, by decide +kernel, by decide +kernel⟩
section
variable {P : Program} {w : World} {K : PySem.W.Frag} {mg : Str → Option Value} {base : Heap} {f fI fF : Addr} {fd dI dF : FuncData}
theorem bI (F : FnP K "is_name" (top 18) fI dI) : Binds K dI ["value"] [] := F.bindsN fun _ _ _ _ _ _ us hl => match us, hl with
  | [_], _ => rfl
theorem bF (F : FnP K "are_different" (top 20) fF dF) : Binds K dF ["names"] [] := F.bindsN fun _ _ _ _ _ _ us hl => match us, hl with
  | [_], _ => rfl
theorem ok_stand (F : FnP K "are_standings" (top 27) f fd) (mi : mg "isinstance" = none) (mL : mg "list" = none) (mT : mg "tuple" = none) (ml : mg "len" = none) (ma : mg "all" = none)
    (GI : FnOk P w K mg base CX0 1 fI dI ["value"] (spIsName K)) (FI : FnP K "is_name" (top 18) fI dI) (gI : mg "is_name" = some (.ref fI)) (GF : FnOk P w K mg base CX0 1 fF dF ["names"] (spDiff K)) (FF : FnP K "are_different" (top 20) fF dF) (gF : mg "are_different" = some (.ref fF)) :
    FnOk P w K mg base CX0 2 f fd ["value"] (spStand K) := by
  refine F.ok (CX := CX0) scStand (fun vs H Q E h => ?_) (fun cdv A outer s H vs Q E hr h => ?_)
  · obtain ⟨x, rfl, _⟩ := h
    rfl
  · refine ⟨_, PSs.nox (pss_cons (ps_if (PW.pt (pw_or (pt_not (pt_val (by exact (pe_callB call_isiT rfl mi PyProof.Rows.boot_isinstance (pa_cons (pv 0) (pa_cons (by exact (pe_tup (pa_cons (pe_bltn (v := .ty "list") rfl mL (by decide +kernel) rfl) (pa_cons (pe_bltn (v := .ty "tuple") rfl mT (by decide +kernel) rfl) pa_nil)))) pa_nil))))))
        (pw_or1 (pt_not (pt_chain op_le op_le pe_int (by exact (pe_callB call_len rfl ml boot_len (pa_cons (pv 0) pa_nil))) pe_int))))) (pss_one (ps_ret pe_bl)) pss_nil)
      (pss_one (ps_ret (by exact (pe_and (by exact (pe_callB (cr_all rfl) rfl ma PyProof.Rows.boot_all (pa_cons (by exact (pe_lc (own := [("name", 1)]) (g := gName 1) (tt := tYes) (te := tCall (spIsName K) [] E0 (tCons (tVar 1) tNil)) rfl scStand.nd (pi_seq (pv 0))
        (blkOk_by (N := nStand) (sc := defScope (top 27)) (by decide +kernel)) (fun _ _ _ _ _ => pg_name (i := 1) scStand.nd rfl (Or.inl rfl)) (fun _ _ _ _ _ => pts_nil) (fun _ _ _ _ _ => by exact (pe_call GI hr rfl gI FI.kp (bI FI) .nil pass0 (pa_cons (by exact (pv 1)) pa_nil))))) pa_nil)))
        (pe_one (by exact (pe_call GF hr rfl gF FF.kp (bF FF) .nil pass0 (pa_cons (pv 0) pa_nil))))))))), ?_⟩
    obtain ⟨x, rfl, h⟩ := h
    have c2 : 2 ≤ sizeLine := by
      rw [sizeLine_eq]
      omega
    have pr : Paired ClsV [V.ty "list", V.ty "tuple"] [Value.type "list", Value.type "tuple"] := .cons (.ty _) (.cons (.ty _) .nil)
    rcases h with ⟨a, xs, rfl, hs, hl, hi, q⟩ | ⟨⟨t, ty, k1, k2⟩, q⟩
    · obtain ⟨t, ty, et⟩ := sv_is hs
      have kk : PySem.W.kitAny K (.type t) [.type "list", .type "tuple"] = some true := by
        rcases et with rfl | rfl
        · exact kitAny_cons (b := true) (kit_ty (by decide +kernel)) (fun z => nomatch z) fun _ => rfl
        · exact kitAny_cons (b := false) (kit_ty (by decide +kernel)) (fun _ => kitAny_cons (b := true) (kit_ty (by decide +kernel)) (fun z => nomatch z) fun _ => rfl) fun z => nomatch z
      refine ⟨_, rfl, c2, fun T nT => ⟨.ref a, T, _, .type t, _, true, rfl, upd_same, pr, tyx_new ty nT, kk, _, rfl, ?_⟩⟩
      have m1 := Sm.new (o := .tup [.ty "list", .ty "tuple"]) nT
      generalize upd H T (.tup [.ty "list", .ty "tuple"]) = G at m1 ⊢
      have hs := Sv.sm hs m1
      refine iteF ⟨_, rfl, .ref a, xs.length, rfl, Sv.len hs, _, _, rfl, rfl, _, rfl, ?_⟩
      have bad : ¬(1 ≤ xs.length ∧ xs.length ≤ 9) → standB xs = false := fun z => by
        unfold standB
        rw [decide_eq_false z]
        rfl
      by_cases c1 : (1 : Int) ≤ (xs.length : Nat)
      · rw [decide_eq_true c1]
        refine iteT ⟨_, _, rfl, rfl, _, rfl, ?_⟩
        by_cases c9 : ((xs.length : Nat) : Int) ≤ 9
        · rw [decide_eq_true c9]
          have good : standB xs = (xs.all nameB && decide xs.Nodup) := by
            unfold standB
            rw [decide_eq_true (by omega), Bool.true_and]
          rw [good] at q
          refine iteF ⟨_, rfl, a, xs, rfl, ?_⟩
          refine lc_sv (fv := fun j => .bl (nameB (xs.getD j .non))) hs hl (fun _ => rfl) (fun j y H2 Q ey s2 qq => ?_) fun D H2 m nD ed => ?_
          · have z2 := qq
            rw [List.getD_eq_getElem?_getD, ey] at z2
            refine ⟨_, rfl, y, rfl, ?_⟩
            rcases hi y (List.mem_of_getElem? ey) with ⟨z, rfl, zl⟩ | ns
            · exact .inl ⟨z, rfl, zl, fun H4 m4 => z2 H4 m4⟩
            · have e0 := NoStr.name ns
              refine .inr ⟨NoStr.sm (NoStr.sm ns m1) s2, ?_⟩
              have z3 := z2 H2 (Sm.refl _)
              rw [show nameB ((some y).getD .non) = nameB y from rfl, e0] at z3
              exact z3
          · refine ⟨D, (List.range xs.length).map fun j => nameB (xs.getD j .non), rfl, .inl (.inl (by rw [ed, List.map_map]; rfl)), _, rfl, ?_⟩
            rw [all_rangeV (p := nameB)]
            by_cases ca : xs.all nameB = true
            · obtain ⟨ws, ew, _⟩ := names_all ca
              rw [ca, Bool.true_and] at q
              rw [ca]
              refine iteT ⟨_, rfl, a, ws, rfl, ew ▸ Sv.sm hs m, by rw [ew, List.length_map] at hl; exact hl, ?_⟩
              have q := q H2 (Sm.trans m1 m)
              rw [ew, decide_eq_decide.mpr nodup_strs] at q
              exact q
            · rw [Bool.not_eq_true] at ca
              rw [ca, Bool.false_and] at q
              rw [ca]
              exact iteF (q H2 (Sm.trans m1 m))
        · rw [decide_eq_false c9]
          rw [bad (by omega)] at q
          exact iteT (q _ m1)
      · rw [decide_eq_false c1]
        rw [bad (by omega)] at q
        exact iteF ⟨_, rfl, iteT (q _ m1)⟩
    · have kk : PySem.W.kitAny K t [.type "list", .type "tuple"] = some false := kitAny_cons (b := false) k1 (fun _ => kitAny_cons (b := false) k2 (fun _ => rfl) fun z => nomatch z) fun z => nomatch z
      refine ⟨_, rfl, c2, fun T nT => ⟨x, T, _, t, _, false, rfl, upd_same, pr, tyx_new ty nT, kk, _, rfl, ?_⟩⟩
      exact iteT (iteT (q _ (Sm.new nT)))
end
end Dk
set_option Elab.async false
set_option linter.all false
set_option maxRecDepth 100000
set_option maxHeartbeats 4000000
namespace Dk
open PySem PySem.Spec PyProof.Rows L2 Er
/-! ### walks over the values of a dict; is_lead, are_sights -/
theorem lc_vals {d : Addr} {o : Obj} {kvs : List (Key × V)} {te : TE} {fv : Nat → V} {σ : L2.St} {i : Nat} {H1 : Hp} {Q : Addr → Hp → Prop} (hd : H1 d = some (.frz o (.dK kvs))) (hn : kvs.length ≤ 1000) (w1 : ∀ v, wipe ((wipe σ [i]).set i (some v)) [i] = wipe σ [i])
    (ev : ∀ (j : Nat) (x : V) (H2 : Hp) (Q : VK), (kvs.map (·.2))[j]? = some x → Sm H1 H2 → (∀ H4, Sm H2 H4 → Q (fv j) H4) → te ((wipe σ [i]).set i (some x)) H2 Q)
    (q : ∀ (D : Addr) (H2 : Hp), Sm H1 H2 → H1 D = none → H2 D = some (.lst ((List.range kvs.length).map fv)) → Q D H2) : LcR te σ i H1 Q (Itd d o kvs) := by
  refine lc_map walk_values hn (fun H2 m => m _ _ hd) w1 (fun j H2 x H3 _ y => by rw [y.1]; exact Sm.refl _) (fun j x H2 H3 Q hj s2 y s3 qq => ?_) q
  obtain ⟨rfl, k, ex⟩ := y
  exact ev j x _ Q (by rw [List.getElem?_map, ex]; rfl) s2 qq
theorem tyx_lock {K : PySem.W.Frag} {H : Hp} {x : V} {t : Value} {d : Addr} {kvs : List (Key × V)} (o : Obj) (h : TyX K H x t) (hd : H d = some (.dK kvs)) : TyX K (upd H d (.frz o (.dK kvs))) x t := by
  have keep : ∀ {a : Addr} {u : HO}, H a = some u → u ≠ .dK kvs → upd H d (.frz o (.dK kvs)) a = some u := fun {a u} e n => by
    rw [upd_ne (fun z => n (by rw [z, hd] at e; exact (Option.some.inj e).symm))]
    exact e
  cases h with
  | base b =>
    cases b with
    | non => exact .base .non
    | bl y => exact .base (.bl y)
    | int i => exact .base (.int i)
    | str y => exact .base (.str y)
    | flt y => exact .base (.flt y)
    | lst e => exact .base (.lst (keep e (fun z => nomatch z)))
    | frz e => exact .base (.frz (keep e (fun z => nomatch z)))
    | tup e => exact .base (.tup (keep e (fun z => nomatch z)))
    | @dK a ks e =>
      by_cases c : a = d
      · subst c
        exact .fDict upd_same
      · exact .base (.dK (by rw [upd_ne c]; exact e))
    | dT e => exact .base (.dT (keep e (fun z => nomatch z)))
    | ins e a b c d f => exact .base (.ins (keep e (fun z => nomatch z)) a b c d f)
  | byt b => exact .byt b
  | set e => exact .set (keep e (fun z => nomatch z))
  | kList e c => exact .kList e c
  | kTuple e c => exact .kTuple e c
  | kDict e c => exact .kDict e c
  | fTuple e => exact .fTuple (keep e (fun z => nomatch z))
  | fDict e => exact .fDict (keep e (fun z => nomatch z))
theorem NoStr.lock {K : PySem.W.Frag} {H : Hp} {x : V} {d : Addr} {kvs : List (Key × V)} (o : Obj) (h : NoStr K H x) (hd : H d = some (.dK kvs)) : NoStr K (upd H d (.frz o (.dK kvs))) x := by
  obtain ⟨t, ty, k⟩ := h
  exact ⟨t, tyx_lock o ty hd, k⟩
theorem Sq.lock {K : PySem.W.Frag} {H : Hp} {a : Addr} {ws : List Str} {d : Addr} {kvs : List (Key × V)} (o : Obj) (h : Sq K H a ws) (hd : H d = some (.dK kvs)) : Sq K (upd H d (.frz o (.dK kvs))) a ws := by
  have keep : ∀ {u : HO}, H a = some u → u ≠ .dK kvs → upd H d (.frz o (.dK kvs)) a = some u := fun {u} e n => by
    rw [upd_ne (fun z => n (by rw [z, hd] at e; exact (Option.some.inj e).symm))]
    exact e
  rcases h with ((h | ⟨p, h⟩) | h) | ((h | ⟨p, h⟩) | h)
  · exact .inl (.inl (.inl (keep h (fun z => nomatch z))))
  · exact .inl (.inl (.inr ⟨p, keep h (fun z => nomatch z)⟩))
  · exact .inl (.inr h)
  · exact .inr (.inl (.inl (keep h (fun z => nomatch z))))
  · exact .inr (.inl (.inr ⟨p, keep h (fun z => nomatch z)⟩))
  · exact .inr (.inr h)
theorem sm_unlock {H H1 : Hp} {d : Addr} {u : HO} {o : Obj} (hd : H d = some u) (m : Sm (upd H d (.frz o u)) H1) : Sm H (upd H1 d u) := fun b v e => by
  by_cases c : b = d
  · subst c
    rw [hd] at e
    rw [upd_same]
    exact e
  · rw [upd_ne c]
    exact m b v (by rw [upd_ne c]; exact e)
def oneB (ws : List Str) : V → Bool
  | .str z => decide (z ∈ ws)
  | _ => false
theorem NoStr.one {K : PySem.W.Frag} {H : Hp} {v : V} (ws : List Str) (h : NoStr K H v) : oneB ws v = false := by
  have e := NoStr.name h
  cases v with
  | str z =>
    obtain ⟨t, ty, k⟩ := h
    cases ty with
    | base b =>
      cases b
      rw [show PySem.W.kitOne K (.type "str") (.type "str") = some true from kit_ty (by decide +kernel)] at k
      cases k
  | _ => rfl
def leadB (kvs : List (Key × V)) (ws : List Str) : Bool := tableB kvs ws && (kvs.map (·.2)).all (oneB ws)
def sightB (kvs : List (Key × V)) (ws : List Str) : Bool := tableB kvs ws && (kvs.map (·.2)).all nameB
/-- a table or no table, whose keys are some names -/
def spTab (K : PySem.W.Frag) (B : List (Key × V) → List Str → Bool) : Sp := fun vs H Q _ => ∃ (x : V) (k : Addr) (ws : List Str), vs = [x, .ref k] ∧ Sq K H k ws ∧ ws.length ≤ 1000 ∧
  ((∃ (d : Addr) (kvs : List (Key × V)), x = .ref d ∧ H d = some (.dK kvs) ∧ kvs.length ≤ 1000 ∧ (∀ y ∈ kvs.map (·.2), Itm K H y) ∧ ∀ H', Sm H H' → Q (.bl (B kvs ws)) H') ∨ (NoDict K H x ∧ ∀ H', Sm H H' → Q (.bl false) H'))
abbrev nLead : List Str := ["value", "standings", "target"]
theorem scLead : FnScope nLead ["value", "standings"] (defScope (top 29)) := ⟨rfl, rfl, rfl, by decide +kernel, rfl, by decide +kernel, by decide +kernel⟩
abbrev nAreS : List Str := ["value", "standings", "sight"]
theorem scAreS : FnScope nAreS ["value", "standings"] (defScope (top 30)) := ⟨rfl, rfl, rfl, by decide +kernel, rfl, by decide +kernel, by decide +kernel⟩
section
variable {P : Program} {w : World} {K : PySem.W.Frag} {mg : Str → Option Value} {base : Heap} {f fI fT fO : Addr} {fd dI dT dO : FuncData}
theorem bTb (F : FnP K "is_table" (top 21) fT dT) : Binds K dT ["value", "keys"] [] := F.bindsN fun _ _ _ _ _ _ us hl => match us, hl with
  | [_, _], _ => rfl
theorem bO (F : FnP K "is_one_of" (top 19) fO dO) : Binds K dO ["value", "names"] [] := F.bindsN fun _ _ _ _ _ _ us hl => match us, hl with
  | [_, _], _ => rfl
theorem ok_lead (F : FnP K "is_lead" (top 29) f fd) (ma : mg "all" = none)
    (GT : FnOk P w K mg base CX0 1 fT dT ["value", "keys"] (spTable K)) (FT : FnP K "is_table" (top 21) fT dT) (gT : mg "is_table" = some (.ref fT)) (GO : FnOk P w K mg base CX0 1 fO dO nOneOf (spOneOf K)) (FO : FnP K "is_one_of" (top 19) fO dO) (gO : mg "is_one_of" = some (.ref fO)) :
    FnOk P w K mg base CX0 2 f fd ["value", "standings"] (spTab K leadB) := by
  refine F.ok (CX := CX0) scLead (fun vs H Q E h => ?_) (fun cdv A outer s H vs Q E hr h => ?_)
  · obtain ⟨x, k, ws, rfl, _⟩ := h
    rfl
  · refine ⟨_, PSs.nox (pss_cons (ps_if (pt_not (pt_val (by exact (pe_call GT hr rfl gT FT.kp (bTb FT) .nil pass0 (pa_cons (pv 0) (pa_cons (pv 1) pa_nil)))) (fun _ => rfl))) (pss_one (ps_ret pe_bl)) pss_nil)
      (pss_one (ps_ret (by exact (pe_callB (cr_all rfl) rfl ma PyProof.Rows.boot_all (pa_cons (pe_lock (by exact (pe_lc (own := [("target", 2)]) (g := gName 2) (tt := tYes) (te := tCall (spOneOf K) [] E0 (tCons (tVar 2) (tCons (tVar 1) tNil))) rfl scLead.nd (pi_values (pv 0))
        (blkOk_by (N := nLead) (sc := defScope (top 29)) (by decide +kernel)) (fun _ _ _ _ _ => pg_name (i := 2) scLead.nd rfl (Or.inl rfl)) (fun _ _ _ _ _ => pts_nil) (fun _ _ _ _ _ => by exact (pe_call GO hr rfl gO FO.kp (bO FO) .nil pass0 (pa_cons (by exact (pv 2)) (pa_cons (by exact (pv 1)) pa_nil))))))) pa_nil)))))), ?_⟩
    obtain ⟨x, k, ws, rfl, hk, kl, h⟩ := h
    refine ⟨_, rfl, _, rfl, x, k, ws, rfl, hk, kl, ?_⟩
    rcases h with ⟨d, kvs, rfl, hd, dl, hi, q⟩ | ⟨nd, q⟩
    · refine .inl ⟨d, kvs, rfl, hd, fun H1 m1 => ⟨_, rfl, ?_⟩⟩
      by_cases c : tableB kvs ws = true
      · rw [c]
        have hd1 := m1 _ _ hd
        refine iteF ⟨d, .dK kvs, hd1, True.intro, fun od => ⟨_, rfl, d, od, kvs, rfl, upd_same, ?_⟩⟩
        have hk1 := Sq.lock od (Sq.sm hk m1) hd1
        refine lc_vals (fv := fun j => .bl (oneB ws ((kvs.map (·.2)).getD j .non))) upd_same dl (fun _ => rfl) (fun j y H2 Q ey s2 qq => ?_) fun D H2 m nD ed => ?_
        · have z2 := qq H2 (Sm.refl _)
          rw [List.getD_eq_getElem?_getD, ey] at z2
          refine ⟨_, rfl, _, rfl, y, k, rfl, ?_⟩
          rcases hi y (List.mem_of_getElem? ey) with ⟨z, rfl, zl⟩ | ns
          · exact .inl ⟨z, ws, rfl, by rcases Sq.sm hk1 s2 with a | a; exact .inl a; exact .inr (.inl a), z2⟩
          · refine .inr ⟨NoStr.sm (NoStr.lock od (NoStr.sm ns m1) hd1) s2, ?_⟩
            rw [show oneB ws ((some y).getD .non) = oneB ws y from rfl, NoStr.one ws ns] at z2
            exact z2
        · refine ⟨m _ _ upd_same, D, (List.range kvs.length).map fun j => oneB ws ((kvs.map (·.2)).getD j .non), rfl, ?_, ?_⟩
          · have nd : D ≠ d := fun z => by
              rw [z, upd_same] at nD
              cases nD
            exact .inl (.inl (by rw [upd_ne nd, ed, List.map_map]; rfl))
          · have e : ((List.range kvs.length).map fun j => oneB ws ((kvs.map (·.2)).getD j .non)).all id = leadB kvs ws := by
              have := all_rangeV (xs := kvs.map (·.2)) (p := oneB ws)
              rw [List.length_map] at this
              rw [this]
              unfold leadB
              rw [c, Bool.true_and]
            rw [e]
            exact q _ (Sm.trans m1 (sm_unlock hd1 m))
      · rw [Bool.not_eq_true] at c
        have q := q H1 m1
        unfold leadB at q
        rw [c, Bool.false_and] at q
        rw [c]
        exact iteT q
    · exact .inr ⟨nd, _, rfl, iteT (q H (Sm.refl H))⟩
theorem ok_areS (F : FnP K "are_sights" (top 30) f fd) (ma : mg "all" = none)
    (GT : FnOk P w K mg base CX0 1 fT dT ["value", "keys"] (spTable K)) (FT : FnP K "is_table" (top 21) fT dT) (gT : mg "is_table" = some (.ref fT)) (GI : FnOk P w K mg base CX0 1 fI dI ["value"] (spIsName K)) (FI : FnP K "is_name" (top 18) fI dI) (gI : mg "is_name" = some (.ref fI)) :
    FnOk P w K mg base CX0 2 f fd ["value", "standings"] (spTab K sightB) := by
  refine F.ok (CX := CX0) scAreS (fun vs H Q E h => ?_) (fun cdv A outer s H vs Q E hr h => ?_)
  · obtain ⟨x, k, ws, rfl, _⟩ := h
    rfl
  · refine ⟨_, PSs.nox (pss_one (ps_ret (by exact (pe_and (by exact (pe_call GT hr rfl gT FT.kp (bTb FT) .nil pass0 (pa_cons (pv 0) (pa_cons (pv 1) pa_nil)))) (pe_one (by exact (pe_callB (cr_all rfl) rfl ma PyProof.Rows.boot_all (pa_cons (pe_lock (by exact (pe_lc (own := [("sight", 2)]) (g := gName 2) (tt := tYes) (te := tCall (spIsName K) [] E0 (tCons (tVar 2) tNil)) rfl scAreS.nd (pi_values (pv 0))
        (blkOk_by (N := nAreS) (sc := defScope (top 30)) (by decide +kernel)) (fun _ _ _ _ _ => pg_name (i := 2) scAreS.nd rfl (Or.inl rfl)) (fun _ _ _ _ _ => pts_nil) (fun _ _ _ _ _ => by exact (pe_call GI hr rfl gI FI.kp (bI FI) .nil pass0 (pa_cons (by exact (pv 2)) pa_nil)))))) pa_nil)))))))), ?_⟩
    obtain ⟨x, k, ws, rfl, hk, kl, h⟩ := h
    refine ⟨_, rfl, _, rfl, x, k, ws, rfl, hk, kl, ?_⟩
    rcases h with ⟨d, kvs, rfl, hd, dl, hi, q⟩ | ⟨nd, q⟩
    · refine .inl ⟨d, kvs, rfl, hd, fun H1 m1 => ⟨_, rfl, ?_⟩⟩
      by_cases c : tableB kvs ws = true
      · rw [c]
        have hd1 := m1 _ _ hd
        refine iteT ⟨d, .dK kvs, hd1, True.intro, fun od => ⟨_, rfl, d, od, kvs, rfl, upd_same, ?_⟩⟩
        refine lc_vals (fv := fun j => .bl (nameB ((kvs.map (·.2)).getD j .non))) upd_same dl (fun _ => rfl) (fun j y H2 Q ey s2 qq => ?_) fun D H2 m nD ed => ?_
        · have z2 := qq
          rw [List.getD_eq_getElem?_getD, ey] at z2
          refine ⟨_, rfl, y, rfl, ?_⟩
          rcases hi y (List.mem_of_getElem? ey) with ⟨z, rfl, zl⟩ | ns
          · exact .inl ⟨z, rfl, zl, fun H4 m4 => z2 H4 m4⟩
          · refine .inr ⟨NoStr.sm (NoStr.lock od (NoStr.sm ns m1) hd1) s2, ?_⟩
            have z3 := z2 H2 (Sm.refl _)
            rw [show nameB ((some y).getD .non) = nameB y from rfl, NoStr.name ns] at z3
            exact z3
        · refine ⟨m _ _ upd_same, D, (List.range kvs.length).map fun j => nameB ((kvs.map (·.2)).getD j .non), rfl, ?_, ?_⟩
          · have nd : D ≠ d := fun z => by
              rw [z, upd_same] at nD
              cases nD
            exact .inl (.inl (by rw [upd_ne nd, ed, List.map_map]; rfl))
          · have e : ((List.range kvs.length).map fun j => nameB ((kvs.map (·.2)).getD j .non)).all id = sightB kvs ws := by
              have := all_rangeV (xs := kvs.map (·.2)) (p := nameB)
              rw [List.length_map] at this
              rw [this]
              unfold sightB
              rw [c, Bool.true_and]
            rw [e]
            exact q _ (Sm.trans m1 (sm_unlock hd1 m))
      · rw [Bool.not_eq_true] at c
        have q := q H1 m1
        unfold sightB at q
        rw [c, Bool.false_and] at q
        rw [c]
        exact iteF q
    · exact .inr ⟨nd, _, rfl, iteF (q H (Sm.refl H))⟩
end
end Dk
set_option Elab.async false
set_option linter.all false
set_option maxRecDepth 100000
set_option maxHeartbeats 4000000
namespace Dk
open PySem PySem.Spec PyProof.Rows L2 Er
/-! ### are_deeds -/
theorem pair_at {α β : Type} {F : α → β → Prop} : ∀ {ps : List α} {qs : List β}, Paired F ps qs → ∀ {j : Nat} {p : α}, ps[j]? = some p → ∃ q, qs[j]? = some q ∧ F p q
  | _, _, .nil, j, p, e => by cases e
  | _, _, .cons a t, 0, p, e => by
    have e2 := Option.some.inj e
    subst e2
    exact ⟨_, rfl, a⟩
  | _, _, .cons a t, j + 1, p, e => pair_at t (j := j) e
theorem paired_len {α β : Type} {F : α → β → Prop} {ps : List α} {qs : List β} (h : Paired F ps qs) : ps.length = qs.length := by
  induction h with
  | nil => rfl
  | cons a _ ih => rw [List.length_cons, List.length_cons, ih]
theorem valV_of : ∀ {kvs : List (Key × V)} {j : Nat} {k : Key} {v : V}, (kvs.map (·.1)).Nodup → kvs[j]? = some (k, v) → valV kvs k = some v
  | [], _, _, _, _, e => by cases e
  | (k0, v0) :: kvs, 0, k, v, _, e => by
    have e2 := Option.some.inj e
    cases e2
    unfold valV
    rw [List.find?_cons_of_pos (by simp)]
    rfl
  | (k0, v0) :: kvs, j + 1, k, v, nd, e => by
    have e2 : kvs[j]? = some (k, v) := e
    have nd2 := List.nodup_cons.mp nd
    have ne : k0 ≠ k := fun z => nd2.1 (z ▸ List.mem_map.mpr ⟨_, List.mem_of_getElem? e2, rfl⟩)
    have ih := valV_of nd2.2 e2
    unfold valV at ih ⊢
    rw [List.find?_cons_of_neg (by simpa using ne)]
    exact ih
/-- a value of a dict of deeds: a dict, or something that is none -/
def TabAt (K : PySem.W.Frag) (H : Hp) (d : Addr) (v : V) : Option (List (Key × V)) → Prop
  | some ks => ∃ e, v = .ref e ∧ e ≠ d ∧ H e = some (.dK ks) ∧ ks.length ≤ 1000 ∧ ∀ y ∈ ks.map (·.2), Itm K H y
  | none => NoDict K H v
def entB (ws : List Str) (kv : Key × V) (t : Option (List (Key × V))) : Bool := nameB (kV kv.1) && (match t with
  | some ks => leadB ks ws
  | none => false)
def deedB (kvs : List (Key × V)) (tabs : List (Option (List (Key × V)))) (ws : List Str) : Bool := decide (1 ≤ kvs.length ∧ kvs.length ≤ 4) && ((kvs.zip tabs).map fun p => entB ws p.1 p.2).all id
def spDeeds (K : PySem.W.Frag) : Sp := fun vs H Q _ => ∃ (x : V) (k : Addr) (ws : List Str), vs = [x, .ref k] ∧ Sq K H k ws ∧ ws.length ≤ 1000 ∧
  ((∃ (d : Addr) (kvs : List (Key × V)) (tabs : List (Option (List (Key × V)))), x = .ref d ∧ H d = some (.dK kvs) ∧ kvs.length ≤ 1000 ∧ (kvs.map (·.1)).Nodup ∧ (∀ kv ∈ kvs, ∀ z, kv.1 = .inr z → z.length ≤ 1000) ∧ Paired (fun kv t => TabAt K H d kv.2 t) kvs tabs ∧ ∀ H', Sm H H' → Q (.bl (deedB kvs tabs ws)) H') ∨
    (NoDict K H x ∧ ∀ H', Sm H H' → Q (.bl false) H'))
abbrev nDeeds : List Str := ["value", "standings", "name"]
theorem scDeeds : FnScope nDeeds ["value", "standings"] (defScope (top 28)) := ⟨rfl, rfl, rfl, by decide +kernel, rfl, by decide +kernel, by decide +kernel⟩
theorem range_bools (bs : List Bool) : ((List.range bs.length).map fun j => bs.getD j false) = bs := by
  refine List.ext_getElem (by simp) fun j h1 h2 => ?_
  rw [List.getElem_map, List.getElem_range, List.getD_eq_getElem?_getD, List.getElem?_eq_getElem h2]
  rfl
theorem Itm.sm {K : PySem.W.Frag} {H H2 : Hp} {x : V} (h : Itm K H x) (m : Sm H H2) : Itm K H2 x := by
  rcases h with h | h
  · exact .inl h
  · exact .inr (NoStr.sm h m)
theorem Itm.lock {K : PySem.W.Frag} {H : Hp} {x : V} {d : Addr} {kvs : List (Key × V)} (o : Obj) (h : Itm K H x) (hd : H d = some (.dK kvs)) : Itm K (upd H d (.frz o (.dK kvs))) x := by
  rcases h with h | h
  · exact .inl h
  · exact .inr (NoStr.lock o h hd)
theorem NoDict.sm {K : PySem.W.Frag} {H H2 : Hp} {x : V} (h : NoDict K H x) (m : Sm H H2) : NoDict K H2 x := by
  obtain ⟨t, ty, k⟩ := h
  exact ⟨t, tyx_sm ty m, k⟩
theorem NoDict.lock {K : PySem.W.Frag} {H : Hp} {x : V} {d : Addr} {kvs : List (Key × V)} (o : Obj) (h : NoDict K H x) (hd : H d = some (.dK kvs)) : NoDict K (upd H d (.frz o (.dK kvs))) x := by
  obtain ⟨t, ty, k⟩ := h
  exact ⟨t, tyx_lock o ty hd, k⟩
section
variable {P : Program} {w : World} {K : PySem.W.Frag} {mg : Str → Option Value} {base : Heap} {f fI fL : Addr} {fd dI dL : FuncData}
theorem bLd (F : FnP K "is_lead" (top 29) fL dL) : Binds K dL ["value", "standings"] [] := F.bindsN fun _ _ _ _ _ _ us hl => match us, hl with
  | [_, _], _ => rfl
theorem ok_deeds (F : FnP K "are_deeds" (top 28) f fd) (mi : mg "isinstance" = none) (md : mg "dict" = none) (ml : mg "len" = none) (ma : mg "all" = none)
    (GI : FnOk P w K mg base CX0 1 fI dI ["value"] (spIsName K)) (FI : FnP K "is_name" (top 18) fI dI) (gI : mg "is_name" = some (.ref fI)) (GL : FnOk P w K mg base CX0 2 fL dL ["value", "standings"] (spTab K leadB)) (FL : FnP K "is_lead" (top 29) fL dL) (gL : mg "is_lead" = some (.ref fL)) :
    FnOk P w K mg base CX0 3 f fd ["value", "standings"] (spDeeds K) := by
  refine F.ok (CX := CX0) scDeeds (fun vs H Q E h => ?_) (fun cdv A outer s H vs Q E hr h => ?_)
  · obtain ⟨x, k, ws, rfl, _⟩ := h
    rfl
  · have hr1 := hr.mono (show 1 ≤ 2 by decide)
    refine ⟨_, PSs.nox (pss_cons (ps_if (PW.pt (pw_or (pt_not (pt_val (by exact (pe_callB call_isi rfl mi PyProof.Rows.boot_isinstance (pa_cons (pv 0) (pa_cons (pe_bltn (v := .ty "dict") rfl md (by decide +kernel) rfl) pa_nil))))))
        (pw_or1 (pt_not (pt_chain op_le op_le pe_int (by exact (pe_callB call_lenD rfl ml boot_len (pa_cons (pv 0) pa_nil))) pe_int))))) (pss_one (ps_ret pe_bl)) pss_nil)
      (pss_one (ps_ret (by exact (pe_callB (cr_all rfl) rfl ma PyProof.Rows.boot_all (pa_cons (pe_lock (by exact (pe_lc (own := [("name", 2)]) (g := gName 2) (tt := tYes) (te := tAndV (tCall (spIsName K) [] E0 (tCons (tVar 2) tNil)) (tCall (spTab K leadB) [] E0 (tCons (tDGet (tVar 0) (tVar 2)) (tCons (tVar 1) tNil)))) rfl scDeeds.nd (pi_keys (pv 0))
        (blkOk_by (N := nDeeds) (sc := defScope (top 28)) (by decide +kernel)) (fun _ _ _ _ _ => pg_name (i := 2) scDeeds.nd rfl (Or.inl rfl)) (fun _ _ _ _ _ => pts_nil)
        (fun _ _ _ _ _ => by exact (pe_and (by exact (pe_call GI hr1 rfl gI FI.kp (bI FI) .nil pass0 (pa_cons (by exact (pv 2)) pa_nil))) (pe_one (by exact (pe_call GL hr rfl gL FL.kp (bLd FL) .nil pass0 (pa_cons (by exact (pe_dget (hu_of hr) (by exact (pv 0)) (by exact (pv 2)) (fun _ _ => rfl))) (pa_cons (by exact (pv 1)) pa_nil)))))))))) pa_nil)))))), ?_⟩
    obtain ⟨x, k, ws, rfl, hk, kl, h⟩ := h
    rcases h with ⟨d, kvs, tabs, rfl, hd, dl, nd, zl, pr, q⟩ | ⟨⟨t, ty, kk⟩, q⟩
    · refine ⟨_, rfl, .ref d, .ty "dict", _, _, true, rfl, .ty "dict", .base (.dK hd), kit_ty (by decide +kernel), _, rfl, ?_⟩
      refine iteF ⟨_, rfl, d, kvs, rfl, hd, _, _, rfl, rfl, _, rfl, ?_⟩
      have bad : ¬(1 ≤ kvs.length ∧ kvs.length ≤ 4) → deedB kvs tabs ws = false := fun z => by
        unfold deedB
        rw [decide_eq_false z]
        rfl
      by_cases c1 : (1 : Int) ≤ (kvs.length : Nat)
      · rw [decide_eq_true c1]
        refine iteT ⟨_, _, rfl, rfl, _, rfl, ?_⟩
        by_cases c4 : ((kvs.length : Nat) : Int) ≤ 4
        · rw [decide_eq_true c4]
          have tl : tabs.length = kvs.length := (paired_len pr).symm
          have bl : ((kvs.zip tabs).map fun p => entB ws p.1 p.2).length = kvs.length := by
            rw [List.length_map, List.length_zip]
            omega
          have good : deedB kvs tabs ws = ((kvs.zip tabs).map fun p => entB ws p.1 p.2).all id := by
            unfold deedB
            rw [decide_eq_true (by omega), Bool.true_and]
          rw [good] at q
          refine iteF ⟨d, .dK kvs, hd, True.intro, fun od => ⟨_, rfl, d, od, rfl, .inl ⟨kvs, upd_same, ?_⟩⟩⟩
          have hk1 := Sq.lock od hk hd
          refine lc_map walk_keys (fv := fun j => .bl (((kvs.zip tabs).map fun p => entB ws p.1 p.2).getD j false)) dl (fun H2 m => m _ _ upd_same) (fun _ => rfl) (fun j H2 x H3 _ y => by rw [y.1]; exact Sm.refl _) (fun j x H2 H3 Q hj s2 y s3 qq => ?_) fun D H2 m nD ed => ?_
          · obtain ⟨rfl, kx, v, ekv, rfl⟩ := y
            obtain ⟨tb, et, ht⟩ := pair_at pr ekv
            have eb : ((kvs.zip tabs).map fun p => entB ws p.1 p.2).getD j false = entB ws (kx, v) tb := by
              rw [List.getD_eq_getElem?_getD, List.getElem?_map, List.getElem?_zip_eq_some (z := ((kx, v), tb)) |>.mpr ⟨ekv, et⟩]
              rfl
            rw [eb] at qq
            refine ⟨_, rfl, kV kx, rfl, ?_⟩
            have hd2 : H3 d = some (.frz od (.dK kvs)) := s2 _ _ upd_same
            have go : ∀ H4, Sm H3 H4 → nameB (kV kx) = true → (tCall (spTab K leadB) [] E0 (tCons (tDGet (tVar 0) (tVar 2)) (tCons (tVar 1) tNil))) ((wipe (L2.start nDeeds [V.ref d, V.ref k]) [2]).set 2 (some (kV kx))) H4 Q := fun H4 m4 en => by
              refine ⟨_, rfl, _, rfl, d, v, rfl, .inl ⟨kvs, kx, .inr ⟨od, m4 _ _ hd2⟩, rfl, (valV_of nd ekv).symm⟩, _, rfl, v, k, ws, rfl, Sq.sm hk1 (Sm.trans s2 m4), kl, ?_⟩
              cases tb with
              | some ks =>
                obtain ⟨e, rfl, ned, he, kl2, hi⟩ := ht
                refine .inl ⟨e, ks, rfl, m4 _ _ (s2 _ _ (by rw [upd_ne ned]; exact he)), kl2, fun y hy => Itm.sm (Itm.lock od (hi y hy) hd) (Sm.trans s2 m4), fun H5 m5 => ?_⟩
                have z := qq H5 (Sm.trans m4 m5)
                unfold entB at z
                rw [show nameB (kV (kx, V.ref e).1) = true from en, Bool.true_and] at z
                exact z
              | none =>
                refine .inr ⟨NoDict.sm (NoDict.lock od ht hd) (Sm.trans s2 m4), fun H5 m5 => ?_⟩
                have z := qq H5 (Sm.trans m4 m5)
                unfold entB at z
                rw [Bool.and_false] at z
                exact z
            have stop : ∀ H4, Sm H3 H4 → nameB (kV kx) = false → Q (.bl false) H4 := fun H4 m4 en => by
              have z := qq H4 m4
              unfold entB at z
              rw [show nameB (kV (kx, v).1) = false from en, Bool.false_and] at z
              exact z
            cases kx with
            | inl i => exact .inr ⟨NoStr.int, _, rfl, iteF (stop H3 (Sm.refl _) rfl)⟩
            | inr z =>
              refine .inl ⟨z, rfl, zl _ (List.mem_of_getElem? ekv) z rfl, fun H4 m4 => ⟨_, rfl, ?_⟩⟩
              by_cases cz : IsWord z
              · rw [decide_eq_true cz]
                exact iteT (go H4 m4 (decide_eq_true cz))
              · rw [decide_eq_false cz]
                exact iteF (stop H4 m4 (decide_eq_false cz))
          · refine ⟨m _ _ upd_same, D, (List.range kvs.length).map fun j => ((kvs.zip tabs).map fun p => entB ws p.1 p.2).getD j false, rfl, ?_, ?_⟩
            · have nd : D ≠ d := fun z => by
                rw [z, upd_same] at nD
                cases nD
              exact .inl (.inl (by rw [upd_ne nd, ed, List.map_map]; rfl))
            · rw [← bl, range_bools]
              exact q _ (sm_unlock hd m)
        · rw [decide_eq_false c4]
          rw [bad (by omega)] at q
          exact iteT (q _ (Sm.refl _))
      · rw [decide_eq_false c1]
        rw [bad (by omega)] at q
        exact iteF ⟨_, rfl, iteT (q _ (Sm.refl _))⟩
    · refine ⟨_, rfl, x, .ty "dict", _, _, false, rfl, .ty "dict", ty, kk, _, rfl, ?_⟩
      exact iteT (iteT (q _ (Sm.refl _)))
end
end Dk
set_option Elab.async false
set_option linter.all false
set_option maxRecDepth 100000
set_option maxHeartbeats 4000000
namespace Dk
open PySem PySem.Spec PyProof.Rows L2 Er
/-! ### comprehensions of dicts -/
/-- what a dict comprehension without conditions asks of its walk -/
abbrev DcR (g : TG) (tk tv : TE) (σ : L2.St) (vs : List Nat) (H1 : Hp) (Q : Addr → Hp → Prop) (J : It) : Prop := ∀ D, H1 D = none → ∃ W : Nat → Nat → Hp → Prop, (∃ m, W 0 m (upd H1 D (.dK []))) ∧ ∀ i m H, W i m H →
      (J.stop i H ∧ Q D H) ∨ (J.go i H ∧ ∃ Nx : Hp → Prop, (∀ H', Nx H' → ∃ m', m' < m ∧ W (i + 1) m' H') ∧ ∀ x H', J.yld i H x H' → g x (wipe σ vs) H' fun σ2 H2 => wipe σ2 vs = wipe σ vs ∧ tYes σ2 H2 fun b H3 =>
        if b = true then tk σ2 H3 fun y H4 => tv σ2 H4 fun z H5 => ∃ kvs k, y = kV k ∧ H5 D = some (.dK kvs) ∧ kvs.length < sizeLine ∧ Nx (upd H5 D (.dK (putK kvs k z))) else Nx H3)
theorem dc_it {J : It} {n : Nat} {G : Hp → Prop} {Y : Nat → Hp → V → Hp → Prop} (w : Walk J n G Y) {tk tv : TE} {i : Nat} {σ : L2.St} {H1 : Hp} {Q : Addr → Hp → Prop} (w1 : ∀ v, wipe ((wipe σ [i]).set i (some v)) [i] = wipe σ [i]) (Pv : Addr → Nat → Hp → Prop)
    (h0 : ∀ D, H1 D = none → Pv D 0 (upd H1 D (.dK []))) (hG : ∀ D j H, j ≤ n → Pv D j H → G H)
    (hs : ∀ D j x H H', H1 D = none → j < n → Pv D j H → Y j H x H' → tk ((wipe σ [i]).set i (some x)) H' fun y H4 => tv ((wipe σ [i]).set i (some x)) H4 fun z H5 => ∃ kvs k, y = kV k ∧ H5 D = some (.dK kvs) ∧ kvs.length < sizeLine ∧ Pv D (j + 1) (upd H5 D (.dK (putK kvs k z))))
    (hd : ∀ D H, H1 D = none → Pv D n H → Q D H) : DcR (gName i) tk tv σ [i] H1 Q J := by
  intro D nD
  refine ⟨fun j m H => m = n - j ∧ j ≤ n ∧ Pv D j H, ⟨n, rfl, Nat.zero_le _, h0 D nD⟩, ?_⟩
  rintro j m H ⟨rfl, hj, p⟩
  have q := hG D j H hj p
  by_cases lt : j < n
  · refine .inr ⟨w.goes j H lt q, Pv D (j + 1), fun H' p2 => ⟨n - (j + 1), by omega, rfl, lt, p2⟩, fun x H' y => ⟨w1 x, ?_⟩⟩
    unfold tYes
    dsimp only
    rw [if_pos rfl]
    exact hs D j x H H' nD lt p (w.yields j H x H' lt q y)
  · have e : j = n := by omega
    subst e
    exact .inl ⟨w.stops H q, hd D H nD p⟩
/-- {x: e for x in names} -/
theorem dc_names {K : PySem.W.Frag} {a : Addr} {ws : List Str} {tv : TE} {fv : Nat → V} {σ : L2.St} {i : Nat} {H1 : Hp} {Q : Addr → Hp → Prop} (hk : Sq K H1 a ws) (nd : ws.Nodup) (hn : ws.length ≤ 1000) (w1 : ∀ v, wipe ((wipe σ [i]).set i (some v)) [i] = wipe σ [i])
    (s1 : ∀ v, ((wipe σ [i]).set i (some v))[i]? = some (some v))
    (ev : ∀ (j : Nat) (z : Str) (H2 : Hp) (Q : VK), ws[j]? = some z → Sm H1 H2 → Q (fv j) H2 → tv ((wipe σ [i]).set i (some (.str z))) H2 Q)
    (q : ∀ (D : Addr) (H2 : Hp), Sm H1 H2 → H1 D = none → H2 D = some (.dK (dkv ws ((List.range ws.length).map fv))) → Q D H2) :
    (SqL K H1 a (ws.map V.str) ∧ DcR (gName i) (tVar i) tv σ [i] H1 Q (Itl K a)) ∨ (SqT K H1 a (ws.map V.str) ∧ DcR (gName i) (tVar i) tv σ [i] H1 Q (Itt K a)) := by
  have hl : (ws.map V.str).length = ws.length := List.length_map _
  have step : ∀ (D : Addr) (j : Nat) (x : V) (H : Hp), H1 D = none → j < ws.length → (H D = some (.dK (dkv (ws.take j) ((List.range j).map fv))) ∧ Sm H1 H) → (ws.map V.str)[j]? = some x →
      (tVar i) ((wipe σ [i]).set i (some x)) H fun y H4 => tv ((wipe σ [i]).set i (some x)) H4 fun z H5 => ∃ kvs k, y = kV k ∧ H5 D = some (.dK kvs) ∧ kvs.length < sizeLine ∧ ((upd H5 D (.dK (putK kvs k z))) D = some (.dK (dkv (ws.take (j + 1)) ((List.range (j + 1)).map fv))) ∧ Sm H1 (upd H5 D (.dK (putK kvs k z)))) := by
    rintro D j x H nD hj ⟨ed, sm⟩ ex
    have ez : ws[j]? = some (ws[j]'hj) := List.getElem?_eq_getElem hj
    have e2 : x = .str (ws[j]'hj) := by
      rw [List.getElem?_map, ez] at ex
      exact (Option.some.inj ex).symm
    subst e2
    refine ⟨_, s1 _, ev j _ H _ ez sm ?_⟩
    have l1 : ((List.range j).map fv).length = (ws.take j).length := by
      rw [List.length_map, List.length_range, List.length_take]
      omega
    have tk : ws.take (j + 1) = ws.take j ++ [ws[j]'hj] := by
      rw [List.take_add_one, ez]
      rfl
    refine ⟨_, .inr (ws[j]'hj), rfl, ed, by rw [dkv_len l1, List.length_take, sizeLine_eq]; omega, ?_, ?_⟩
    · rw [upd_same, put_new]
      · rw [tk, List.range_succ, List.map_append]
        unfold dkv
        rw [List.map_append, List.zip_append (by rw [List.length_map]; exact l1.symm)]
        rfl
      · rw [dkv_keys l1.symm]
        intro z
        obtain ⟨y, hy, e⟩ := List.mem_map.mp z
        have e3 : y = ws[j]'hj := Sum.inr.inj e
        have nd2 : (ws.take j ++ [ws[j]'hj]).Nodup := by
          rw [← tk]
          exact nd.sublist (List.take_sublist _ _)
        exact (List.nodup_append.mp nd2).2.2 y hy _ List.mem_cons_self e3
    · intro b o e
      rw [upd_ne (ne_of_none e nD)]
      exact sm _ _ e
  have fin : ∀ D H, H1 D = none → (H D = some (.dK (dkv (ws.take ws.length) ((List.range ws.length).map fv))) ∧ Sm H1 H) → Q D H := fun D H nD ⟨ed, sm⟩ => q D H sm nD (by rw [List.take_length] at ed; exact ed)
  rcases hk with hk | hk
  · refine .inl ⟨hk, dc_it walk_list w1 (fun D j H => H D = some (.dK (dkv (ws.take j) ((List.range j).map fv))) ∧ Sm H1 H) (fun D nD => ⟨upd_same, Sm.new nD⟩) (fun D j H _ p => SqL.sm hk p.2) (fun D j x H H' nD hj p y => ?_) fun D H nD p => fin D H nD (by rw [hl] at p; exact p)⟩
    obtain ⟨rfl, ex⟩ := y
    exact step D j x _ nD (by omega) p ex
  · refine .inr ⟨hk, dc_it walk_tup w1 (fun D j H => H D = some (.dK (dkv (ws.take j) ((List.range j).map fv))) ∧ Sm H1 H) (fun D nD => ⟨upd_same, Sm.new nD⟩) (fun D j H _ p => SqT.sm hk p.2) (fun D j x H H' nD hj p y => ?_) fun D H nD p => fin D H nD (by rw [hl] at p; exact p)⟩
    obtain ⟨rfl, ex⟩ := y
    exact step D j x _ nD (by omega) p ex
/-- a statement that is never reached -/
def tNever : TS := fun _ _ _ => False
theorem ps_never {X : Cx} {st : Stmt} : PS X st tNever := ⟨fun _ _ _ _ _ _ h => h.elim⟩
end Dk
set_option Elab.async false
set_option linter.all false
set_option maxRecDepth 100000
set_option maxHeartbeats 4000000
namespace Dk
open PySem PySem.Spec PyProof.Rows L2 Er
/-! ### the class of desks: its making -/
def clsBody (s : Stmt) : List Stmt := match s with
  | .ClassDef _ _ _ b _ _ _ _ _ _ _ => b
  | _ => []
def meth (i : Nat) : Stmt := (clsBody (top 26)).getD i (.Pass ⟨0, 0, 0, 0⟩)
/-- the names of the outer comprehension of __init__ -/
abbrev scI1 : Scope := { kind := .function, names := [(".0", .local), ("deed", .cell), ("deeds", .cell), ("standings", .cell)], isGenerator := false, isCoroutine := false }
abbrev nInit : List Str := ["self", "standings", "deeds", "sights", "deed", "one"]
theorem scInit : FnScope nInit ["self", "standings", "deeds", "sights"] (defScope (meth 0)) := ⟨rfl, rfl, rfl, by decide +kernel, rfl, by decide +kernel, by decide +kernel⟩
/-- a desk's own fields -/
def fldsOf (st ld si : Addr) : List (Str × V) := [("_standings", .ref st), ("_leads", .ref ld), ("_sights", .ref si)]
/-- what stands under the names ws in a table -/
def picked (ks : List (Key × V)) (ws : List Str) : List V := ws.map fun z => (valV ks (.inr z)).getD .non
def spInit (K : PySem.W.Frag) (C : Addr) : Sp := fun vs H Q _ => ∃ (x dx sa da ga : Addr) (ws ds : List Str) (us : List V) (tabs : List (List (Key × V))) (gs : List (Key × V)), vs = [.ref x, .ref sa, .ref da, .ref ga] ∧
  H x = some (.ins C dx []) ∧ Sq K H sa ws ∧ ws.Nodup ∧ standB (ws.map V.str) = true ∧ H da = some (.dK (dkv ds us)) ∧ us.length = ds.length ∧ ds.Nodup ∧ (∀ z ∈ ds, IsWord z) ∧
  Paired (fun v t => ∃ e, v = V.ref e ∧ e ≠ da ∧ H e = some (.dK t) ∧ t.length ≤ 1000 ∧ ∀ y ∈ t.map (·.2), Itm K H y) us tabs ∧ deedB (dkv ds us) (tabs.map some) ws = true ∧
  H ga = some (.dK gs) ∧ gs.length ≤ 1000 ∧ (∀ y ∈ gs.map (·.2), Itm K H y) ∧ sightB gs ws = true ∧
  ∀ (st ld si : Addr) (as : List Addr) H', Sx x H H' → H' x = some (.ins C dx (fldsOf st ld si)) → ld ≠ x → si ≠ x → SqT K H' st (ws.map V.str) → H' ld = some (.dK (dkv ds (as.map V.ref))) → H' si = some (.dK (dkv ws (picked gs ws))) →
    Paired (fun a t => a ≠ x ∧ H' a = some (.dK (dkv ws (picked t ws)))) as tabs → Q .non H'
theorem SqL.x {K : PySem.W.Frag} {H H2 : Hp} {a x C dx : Addr} {fs : List (Str × V)} {xs : List V} (h : SqL K H a xs) (hx : H x = some (.ins C dx fs)) (m : Sx x H H2) : SqL K H2 a xs := by
  have ne : ∀ {u : HO}, H a = some u → u ≠ .ins C dx fs → a ≠ x := fun {u} e n z => n (by rw [z, hx] at e; exact (Option.some.inj e).symm)
  rcases h with (h | ⟨o, h⟩) | h
  · exact .inl (.inl (m _ _ (ne h (fun z => nomatch z)) h))
  · exact .inl (.inr ⟨o, m _ _ (ne h (fun z => nomatch z)) h⟩)
  · exact .inr h
theorem SqT.x {K : PySem.W.Frag} {H H2 : Hp} {a x C dx : Addr} {fs : List (Str × V)} {xs : List V} (h : SqT K H a xs) (hx : H x = some (.ins C dx fs)) (m : Sx x H H2) : SqT K H2 a xs := by
  have ne : ∀ {u : HO}, H a = some u → u ≠ .ins C dx fs → a ≠ x := fun {u} e n z => n (by rw [z, hx] at e; exact (Option.some.inj e).symm)
  rcases h with (h | ⟨o, h⟩) | h
  · exact .inl (.inl (m _ _ (ne h (fun z => nomatch z)) h))
  · exact .inl (.inr ⟨o, m _ _ (ne h (fun z => nomatch z)) h⟩)
  · exact .inr h
theorem Sq.x {K : PySem.W.Frag} {H H2 : Hp} {a x C dx : Addr} {fs : List (Str × V)} {ws : List Str} (h : Sq K H a ws) (hx : H x = some (.ins C dx fs)) (m : Sx x H H2) : Sq K H2 a ws := by
  rcases h with h | h
  · exact .inl (SqL.x h hx m)
  · exact .inr (SqT.x h hx m)
theorem tup_either {K : PySem.W.Frag} {H : Hp} {a : Addr} {xs : List V} {R : V → Hp → Prop} (h : SqL K H a xs ∨ SqT K H a xs) (r : ∀ st G, Sm H G → SqT K G st xs → R (.ref st) G) :
    (SqL K H a xs ∧ ∀ l, H l = none → R (.ref l) (upd H l (.tup xs))) ∨ (SqT K H a xs ∧ R (.ref a) H) := by
  rcases h with h | h
  · exact .inl ⟨h, fun l nl => r l _ (Sm.new nl) (.inl (.inl upd_same))⟩
  · exact .inr ⟨h, r a H (Sm.refl _) h⟩
/-- tuple(xs) of a list or a tuple -/
def rTupA (K : PySem.W.Frag) : List V → Hp → VK → Prop := fun vs H Q => ∃ (a : Addr) (xs : List V), vs = [.ref a] ∧ (SqL K H a xs ∨ SqT K H a xs) ∧ ∀ st G, Sm H G → SqT K G st xs → Q (.ref st) G
theorem call_tupA {X : Cx} : CallR X (.type "tuple") (rTupA X.K) := by
  intro pins s σ H vs us Q I r h
  obtain ⟨a, xs, e, h, q⟩ := h
  exact call_tuple_of pins s σ H vs us Q I r ⟨a, xs, e, tup_either (R := Q) h q⟩
theorem range_picked {t : List (Key × V)} {ws : List Str} : ((List.range ws.length).map fun j => (valV t (.inr (ws.getD j ⟨#[]⟩))).getD .non) = picked t ws := by
  unfold picked
  refine List.ext_getElem (by simp) fun j h1 h2 => ?_
  rw [List.length_map] at h2
  rw [List.getElem_map, List.getElem_range, List.getElem_map, List.getD_eq_getElem?_getD, List.getElem?_eq_getElem h2]
  rfl
theorem table_has {t : List (Key × V)} {ws : List Str} {z : Str} (h : tableB t ws = true) (hz : z ∈ ws) : valV t (.inr z) = some ((valV t (.inr z)).getD .non) := by
  unfold tableB at h
  rw [Bool.and_eq_true] at h
  have := List.all_eq_true.mp h.2 z hz
  cases e : valV t (.inr z) with
  | none =>
    rw [e] at this
    cases this
  | some v => rfl
theorem dkv_at {ds : List Str} {us : List V} {j : Nat} {k : Key} {v : V} (h : (dkv ds us)[j]? = some (k, v)) : ∃ z, ds[j]? = some z ∧ k = .inr z ∧ us[j]? = some v := by
  obtain ⟨a, b⟩ := List.getElem?_zip_eq_some.mp h
  rw [List.getElem?_map] at a
  cases e : ds[j]? with
  | none =>
    rw [e] at a
    cases a
  | some z =>
    rw [e] at a
    exact ⟨z, rfl, (Option.some.inj a).symm, b⟩
section
variable {P : Program} {w : World} {K : PySem.W.Frag} {mg : Str → Option Value} {base : Heap} {f C fS fD fG : Addr} {fd dS dD dG : FuncData}
theorem bSt (F : FnP K "are_standings" (top 27) fS dS) : Binds K dS ["value"] [] := F.bindsN fun _ _ _ _ _ _ us hl => match us, hl with
  | [_], _ => rfl
theorem bDd (F : FnP K "are_deeds" (top 28) fD dD) : Binds K dD ["value", "standings"] [] := F.bindsN fun _ _ _ _ _ _ us hl => match us, hl with
  | [_, _], _ => rfl
theorem bSg (F : FnP K "are_sights" (top 30) fG dG) : Binds K dG ["value", "standings"] [] := F.bindsN fun _ _ _ _ _ _ us hl => match us, hl with
  | [_, _], _ => rfl
theorem ok_init (F : FunD K "__init__" "Desk.__init__" (defArgs (meth 0)) (defBody (meth 0)) (defScope (meth 0)) [] [] f fd) (mT : mg "tuple" = none) (hC : Cls K C) (n1 : NoAttr K C "_standings") (n2 : NoAttr K C "_leads") (n3 : NoAttr K C "_sights")
    (GS : FnOk P w K mg base CX0 2 fS dS ["value"] (spStand K)) (FS : FnP K "are_standings" (top 27) fS dS) (gS : mg "are_standings" = some (.ref fS)) (GD : FnOk P w K mg base CX0 3 fD dD ["value", "standings"] (spDeeds K)) (FD : FnP K "are_deeds" (top 28) fD dD) (gD : mg "are_deeds" = some (.ref fD))
    (GG : FnOk P w K mg base CX0 2 fG dG ["value", "standings"] (spTab K sightB)) (FG : FnP K "are_sights" (top 30) fG dG) (gG : mg "are_sights" = some (.ref fG)) :
    FnOk P w K mg base CX0 4 f fd ["self", "standings", "deeds", "sights"] (spInit K C) := by
  refine F.ok (CX := CX0) scInit (fun vs H Q E h => ?_) (fun cdv A outer s H vs Q E hr h => ?_)
  · obtain ⟨x, dx, sa, da, ga, ws, ds, us, tabs, gs, rfl, _⟩ := h
    rfl
  · have hr2 := hr.mono (show 2 ≤ 3 by decide)
    refine ⟨_, PSs.nox (pss_cons (ps_if (pt_not (pt_val (by exact (pe_call GS hr2 rfl gS FS.kp (bSt FS) .nil pass0 (pa_cons (pv 1) pa_nil))) (fun _ => rfl))) (pss_one ps_never) pss_nil)
      (pss_cons (ps_if (pt_not (pt_val (by exact (pe_call GD hr rfl gD FD.kp (bDd FD) .nil pass0 (pa_cons (pv 2) (pa_cons (pv 1) pa_nil)))) (fun _ => rfl))) (pss_one ps_never) pss_nil)
      (pss_cons (ps_if (pt_not (pt_val (by exact (pe_call GG hr2 rfl gG FG.kp (bSg FG) .nil pass0 (pa_cons (pv 3) (pa_cons (pv 1) pa_nil)))) (fun _ => rfl))) (pss_one ps_never) pss_nil)
      (pss_cons (ps_fld (pv 0) (by exact (pe_callTy call_tupA rfl mT PyProof.Rows.boot_tuple (pa_cons (pv 1) pa_nil))) (by rfl))
      (pss_cons (ps_fld (pv 0) (pe_lock (by exact (pe_dc (own := [("deed", 4)]) (g := gName 4) (tt := tYes) (tk := tVar 4) (tv := tDc (iSeq K (tVar 1)) (gName 5) tYes (tVar 5) (tDGet (tDGet (tVar 2) (tVar 4)) (tVar 5)) [5]) rfl scInit.nd (pi_keys (pv 2))
        (blkOk_by (N := nInit) (sc := defScope (meth 0)) (by decide +kernel)) (fun _ _ _ _ _ => pg_name (i := 4) scInit.nd rfl (Or.inr rfl)) (fun _ _ _ _ _ => pts_nil) (fun _ _ _ _ _ => by exact (pv 4))
        (fun _ _ _ _ _ => by exact (pe_dc (own := [("one", 5)]) (g := gName 5) (tt := tYes) rfl scInit.nd (pi_seq (by exact (pv 1)))
          (blkOk_by (N := nInit) (sc := scI1) (by decide +kernel)) (fun _ _ _ _ _ => pg_name (i := 5) scInit.nd rfl (Or.inl rfl)) (fun _ _ _ _ _ => pts_nil) (fun _ _ _ _ _ => by exact (pv 5))
          (fun _ _ _ _ _ => by exact (pe_dget (hu_of hr) (by exact (pe_dget (hu_of hr) (by exact (pv 2)) (by exact (pv 4)) (fun _ _ => rfl))) (by exact (pv 5)) (fun _ _ => rfl)))))))) (by rfl))
      (pss_one (ps_fld (pv 0) (by exact (pe_dc (own := [("one", 5)]) (g := gName 5) (tt := tYes) (tk := tVar 5) (tv := tDGet (tVar 3) (tVar 5)) rfl scInit.nd (pi_seq (pv 1))
        (blkOk_by (N := nInit) (sc := defScope (meth 0)) (by decide +kernel)) (fun _ _ _ _ _ => pg_name (i := 5) scInit.nd rfl (Or.inl rfl)) (fun _ _ _ _ _ => pts_nil) (fun _ _ _ _ _ => by exact (pv 5)) (fun _ _ _ _ _ => by exact (pe_dget (hu_of hr) (by exact (pv 3)) (by exact (pv 5)) (fun _ _ => rfl))))) (by rfl)))))))), ?_⟩
    obtain ⟨x, dx, sa, da, ga, ws, ds, us, tabs, gs, rfl, hx, hs, wnd, hst, hda, ul, dnd, dw, pr, hdeed, hga, gl, gi, hsig, q⟩ := h
    have st9 : ws.length ≤ 9 ∧ ∀ z ∈ ws, z.length ≤ 1000 := by
      unfold standB at hst
      rw [Bool.and_eq_true, Bool.and_eq_true, decide_eq_true_iff, List.length_map] at hst
      refine ⟨hst.1.2, fun z hz => ?_⟩
      have h8 : IsWord z := of_decide_eq_true (List.all_eq_true.mp hst.2.1 (.str z) (List.mem_map.mpr ⟨z, hz, rfl⟩))
      have := h8.2.1
      omega
    have tl : tabs.length = us.length := (paired_len pr).symm
    have dkl : (dkv ds us).length = ds.length := dkv_len (by omega)
    have d4 : ds.length ≤ 4 ∧ ∀ t ∈ tabs, leadB t ws = true := by
      unfold deedB at hdeed
      rw [Bool.and_eq_true, decide_eq_true_iff, dkl] at hdeed
      refine ⟨hdeed.1.2, fun t ht => ?_⟩
      obtain ⟨j, hj, rfl⟩ := List.mem_iff_getElem.mp ht
      have hj2 : j < (dkv ds us).length := by omega
      have := List.all_eq_true.mp hdeed.2 (entB ws ((dkv ds us)[j]'hj2) (some tabs[j])) (List.mem_map.mpr ⟨((dkv ds us)[j]'hj2, some tabs[j]), List.mem_of_getElem? (i := j) (List.getElem?_zip_eq_some.mpr ⟨List.getElem?_eq_getElem hj2, by rw [List.getElem?_map, List.getElem?_eq_getElem hj]; rfl⟩), rfl⟩)
      unfold entB at this
      have this : (nameB (kV ((dkv ds us)[j]'hj2).1) && leadB tabs[j] ws) = true := this
      rw [Bool.and_eq_true] at this
      exact this.2
    have knd : ((dkv ds us).map (·.1)).Nodup := by
      rw [dkv_keys ul.symm]
      exact List.Pairwise.map _ (fun a b n z => n (Sum.inr.inj z)) dnd
    refine ⟨_, rfl, .ref sa, rfl, .inl ⟨sa, ws.map V.str, rfl, hs, by rw [List.length_map]; omega, fun y hy => ?_, fun H1 m1 => ⟨_, rfl, ?_⟩⟩⟩
    · obtain ⟨z, hz, rfl⟩ := List.mem_map.mp hy
      exact .inl ⟨z, rfl, st9.2 z hz⟩
    rw [hst]
    refine iteF ⟨_, rfl, _, rfl, .ref da, sa, ws, rfl, Sq.sm hs m1, by omega, .inl ⟨da, dkv ds us, tabs.map some, rfl, m1 _ _ hda, by omega, knd, fun kv hk z ez => ?_, ?_, fun H2 m2 => ⟨_, rfl, ?_⟩⟩⟩
    · obtain ⟨j, hj⟩ := List.mem_iff_getElem?.mp hk
      obtain ⟨k, v⟩ := kv
      obtain ⟨z2, e1, e2, _⟩ := dkv_at hj
      have ez : k = .inr z := ez
      rw [e2] at ez
      have e3 : z2 = z := Sum.inr.inj ez
      have := (dw z2 (List.mem_of_getElem? e1)).2.1
      rw [← e3]
      omega
    · refine paired_of (by rw [List.length_map]; omega) fun j kv t e1 e2 => ?_
      obtain ⟨k, v⟩ := kv
      obtain ⟨z2, _, _, ev⟩ := dkv_at e1
      obtain ⟨t2, et, e, ee, ne, he, hl, hi⟩ := pair_at pr ev
      rw [List.getElem?_map, et] at e2
      have e3 : some t2 = t := Option.some.inj e2
      subst e3
      exact ⟨e, ee, ne, m1 _ _ he, hl, fun y hy => Itm.sm (hi y hy) m1⟩
    rw [hdeed]
    have m12 := Sm.trans m1 m2
    refine iteF ⟨_, rfl, _, rfl, .ref ga, sa, ws, rfl, Sq.sm hs m12, by omega, .inl ⟨ga, gs, rfl, m12 _ _ hga, gl, fun y hy => Itm.sm (gi y hy) m12, fun H3 m3 => ⟨_, rfl, ?_⟩⟩⟩
    rw [hsig]
    refine iteF ?_
    have m := Sm.trans m12 m3
    clear m1 m2 m3 m12
    have hx3 := m _ _ hx
    have hs3 := Sq.sm hs m
    have hda3 := m _ _ hda
    have hga3 := m _ _ hga
    have pr3 : Paired (fun v t => ∃ e, v = V.ref e ∧ e ≠ da ∧ H3 e = some (.dK t)) us tabs := pair_mono pr fun v _ t ⟨e, a, b, c, _⟩ => ⟨e, a, b, m _ _ c⟩
    have htab : ∀ t ∈ tabs, tableB t ws = true := fun t ht => by
      have := d4.2 t ht
      unfold leadB at this
      rw [Bool.and_eq_true] at this
      exact this.1
    have hgt : tableB gs ws = true := by
      unfold sightB at hsig
      rw [Bool.and_eq_true] at hsig
      exact hsig.1
    refine ⟨_, rfl, sa, ws.map V.str, rfl, hs3, fun st G mG hst2 => ?_⟩
    have hxG := mG _ _ hx3
    refine ⟨_, rfl, x, C, dx, [], rfl, hxG, hC, n1, by show 0 < 1000; decide, ?_⟩
    have m4 : Sx x H (upd G x (.ins C dx (putF "_standings" (.ref st) []))) := (Sx.of (Sm.trans m mG)).trans Sx.upd
    have hs4 : Sq K (upd G x (.ins C dx (putF "_standings" (.ref st) []))) sa ws := Sq.x (Sq.sm hs3 mG) hxG Sx.upd
    have st4 : SqT K (upd G x (.ins C dx (putF "_standings" (.ref st) []))) st (ws.map V.str) := SqT.x hst2 hxG Sx.upd
    have x4 : upd G x (.ins C dx (putF "_standings" (.ref st) [])) x = some (.ins C dx [("_standings", .ref st)]) := upd_same
    have dax : da ≠ x := fun z => by
      rw [z, hx3] at hda3
      cases hda3
    have gax : ga ≠ x := fun z => by
      rw [z, hx3] at hga3
      cases hga3
    have hda4 := m4 _ _ dax hda
    have hga4 := m4 _ _ gax hga
    have pr4 : Paired (fun v t => ∃ e, v = V.ref e ∧ e ≠ da ∧ upd G x (.ins C dx (putF "_standings" (.ref st) [])) e = some (.dK t)) us tabs := pair_mono pr fun v _ t ⟨e, a, b, c, _⟩ => ⟨e, a, b, m4 _ _ (fun z => by rw [z, hx] at c; cases c) c⟩
    generalize upd G x (.ins C dx (putF "_standings" (.ref st) [])) = G4 at m4 hs4 st4 x4 hda4 hga4 pr4 ⊢
    clear hs3 hda3 hga3 pr3 hx3 hst2 hxG mG m
    refine ⟨da, .dK (dkv ds us), hda4, True.intro, fun od => ⟨_, rfl, da, od, rfl, .inl ⟨dkv ds us, upd_same, ?_⟩⟩⟩
    have ndx : da ≠ x := dax
    have hsL := Sq.lock od hs4 hda4
    have xL : upd G4 da (.frz od (.dK (dkv ds us))) x = some (.ins C dx [("_standings", .ref st)]) := by rw [upd_ne (Ne.symm dax)]; exact x4
    have prL : Paired (fun v t => ∃ e, v = V.ref e ∧ e ≠ da ∧ upd G4 da (.frz od (.dK (dkv ds us))) e = some (.dK t)) us tabs := pair_mono pr4 fun v _ t ⟨e, a, b, c⟩ => ⟨e, a, b, by rw [upd_ne b]; exact c⟩
    have dL : upd G4 da (.frz od (.dK (dkv ds us))) da = some (.frz od (.dK (dkv ds us))) := upd_same
    have unl : ∀ H5, Sm (upd G4 da (.frz od (.dK (dkv ds us)))) H5 → Sm G4 (upd H5 da (.dK (dkv ds us))) := fun H5 mm => sm_unlock hda4 mm
    generalize upd G4 da (.frz od (.dK (dkv ds us))) = L at hsL xL prL dL unl ⊢
    refine dc_it walk_keys (fun _ => rfl) (fun D j H => ∃ as : List Addr, as.length = j ∧ H D = some (.dK (dkv (ds.take j) (as.map V.ref))) ∧ Paired (fun a t => H a = some (.dK (dkv ws (picked t ws)))) as (tabs.take j) ∧ (∀ a ∈ as, L a = none ∧ a ≠ D) ∧ Sm L H) (fun D nD => ?_) (fun D j H _ ⟨_, _, _, _, _, sm⟩ => sm _ _ dL) (fun D j x0 H5 H6 nD hj p y => ?_) (fun D H5 nD p => ?_)
    · exact ⟨[], rfl, upd_same, .nil, (fun a ha => nomatch ha), Sm.new nD⟩
    · obtain ⟨as, al, ed, pr5, ap, sm⟩ := p
      obtain ⟨rfl, k, v, ekv, rfl⟩ := y
      obtain ⟨d, e1, rfl, ev⟩ := dkv_at ekv
      obtain ⟨t, et, e, rfl, ne, he⟩ := pair_at prL ev
      have ht := htab t (List.mem_of_getElem? et)
      refine ⟨_, rfl, _, rfl, sa, ws.map V.str, rfl, ?_⟩
      refine dc_names (fv := fun i => (valV t (.inr (ws.getD i ⟨#[]⟩))).getD .non) (Sq.sm hsL sm) wnd (by omega) (fun _ => rfl) (fun _ => rfl) (fun i z H7 Q7 ez s7 hQ => ?_) fun a H7 m7 na ea => ?_
      · have gz : ws.getD i ⟨#[]⟩ = z := by
          rw [List.getD_eq_getElem?_getD, ez]
          rfl
        rw [gz] at hQ
        exact ⟨_, rfl, _, rfl, da, .ref e, rfl, .inl ⟨dkv ds us, .inr d, .inr ⟨od, s7 _ _ (sm _ _ dL)⟩, rfl, (valV_of knd ekv).symm⟩, _, rfl, e, _, rfl, .inl ⟨t, .inr z, .inl (s7 _ _ (sm _ _ he)), rfl, (table_has ht (List.mem_of_getElem? ez)).symm⟩, hQ⟩
      · rw [range_picked] at ea
        have jl : j < ds.length := by omega
        have ej : ds[j]'jl = d := by
          rw [List.getElem?_eq_getElem jl] at e1
          exact Option.some.inj e1
        have tk : ds.take (j + 1) = ds.take j ++ [d] := by
          rw [List.take_add_one, e1]
          rfl
        have tt : tabs.take (j + 1) = tabs.take j ++ [t] := by
          rw [List.take_add_one, et]
          rfl
        have l1 : as.length = (ds.take j).length := by
          rw [List.length_take]
          omega
        have aD : a ≠ D := Ne.symm (ne_of_none ed na)
        refine ⟨_, .inr d, rfl, m7 _ _ ed, by rw [dkv_len (by rw [List.length_map]; omega), List.length_take, sizeLine_eq]; omega, as ++ [a], by rw [List.length_append, al]; rfl, ?_, ?_, ?_, ?_⟩
        · rw [upd_same, put_dkv l1 (by rw [← tk]; exact dnd.sublist (List.take_sublist _ _)), tk]
        · rw [tt]
          refine pair_more (pair_mono pr5 fun b hb t2 eb => ?_) ?_
          · rw [upd_ne (ap b hb).2]
            exact m7 _ _ eb
          · rw [upd_ne aD]
            exact ea
        · intro b hb
          rcases List.mem_append.mp hb with z | z
          · exact ap b z
          · have z2 : b = a := by simpa using z
            rw [z2]
            refine ⟨?_, aD⟩
            cases q2 : L a with
            | none => rfl
            | some u =>
              rw [sm _ _ q2] at na
              cases na
        · intro b o eb
          rw [upd_ne (ne_of_none eb nD)]
          exact m7 _ _ (sm _ _ eb)
    · obtain ⟨as, al, ed, pr5, ap, sm⟩ := p
      rw [dkl] at al ed pr5
      rw [List.take_length] at ed
      rw [List.take_of_length_le (by omega)] at pr5
      refine ⟨sm _ _ dL, _, rfl, x, C, dx, [("_standings", .ref st)], rfl, ?_, hC, n2, by show 1 < 1000; decide, ?_⟩
      · rw [upd_ne (Ne.symm dax)]
        exact sm _ _ xL
      have Dd : D ≠ da := fun z => by
        rw [z, dL] at nD
        cases nD
      have Dx : D ≠ x := fun z => by
        rw [z, xL] at nD
        cases nD
      have asd : ∀ a ∈ as, a ≠ da ∧ a ≠ x := fun a ha => ⟨(fun z => by have := (ap a ha).1; rw [z, dL] at this; cases this), (fun z => by have := (ap a ha).1; rw [z, xL] at this; cases this)⟩
      have u5 := unl H5 sm
      have m6 : Sx x H (upd (upd H5 da (.dK (dkv ds us))) x (.ins C dx (putF "_leads" (.ref D) [("_standings", .ref st)]))) := m4.trans ((Sx.of u5).trans Sx.upd)
      have x5 := u5 _ _ x4
      have hs6 := Sq.x (H2 := (upd (upd H5 da (.dK (dkv ds us))) x (.ins C dx (putF "_leads" (.ref D) [("_standings", .ref st)])))) (Sq.sm hs4 u5) x5 Sx.upd
      have st6 := SqT.x (H2 := (upd (upd H5 da (.dK (dkv ds us))) x (.ins C dx (putF "_leads" (.ref D) [("_standings", .ref st)])))) (SqT.sm st4 u5) x5 Sx.upd
      have x6 : (upd (upd H5 da (.dK (dkv ds us))) x (.ins C dx (putF "_leads" (.ref D) [("_standings", .ref st)]))) x = some (.ins C dx [("_standings", .ref st), ("_leads", .ref D)]) := upd_same
      have hga6 := m6 _ _ gax hga
      have ed6 : (upd (upd H5 da (.dK (dkv ds us))) x (.ins C dx (putF "_leads" (.ref D) [("_standings", .ref st)]))) D = some (.dK (dkv ds (as.map V.ref))) := by
        rw [upd_ne Dx, upd_ne Dd]
        exact ed
      have pr6 : Paired (fun a t => a ≠ x ∧ (upd (upd H5 da (.dK (dkv ds us))) x (.ins C dx (putF "_leads" (.ref D) [("_standings", .ref st)]))) a = some (.dK (dkv ws (picked t ws)))) as tabs := pair_mono pr5 fun a ha t e => ⟨(asd a ha).2, by
        rw [upd_ne (asd a ha).2, upd_ne (asd a ha).1]
        exact e⟩
      generalize (upd (upd H5 da (.dK (dkv ds us))) x (.ins C dx (putF "_leads" (.ref D) [("_standings", .ref st)]))) = G6 at m6 hs6 st6 x6 hga6 ed6 pr6 ⊢
      refine ⟨_, rfl, sa, ws.map V.str, rfl, ?_⟩
      refine dc_names (fv := fun i => (valV gs (.inr (ws.getD i ⟨#[]⟩))).getD .non) hs6 wnd (by omega) (fun _ => rfl) (fun _ => rfl) (fun i z H7 Q7 ez s7 hQ => ?_) fun si H7 m7 nsi esi => ?_
      · have gz : ws.getD i ⟨#[]⟩ = z := by
          rw [List.getD_eq_getElem?_getD, ez]
          rfl
        rw [gz] at hQ
        exact ⟨_, rfl, _, rfl, ga, _, rfl, .inl ⟨gs, .inr z, .inl (s7 _ _ hga6), rfl, (table_has hgt (List.mem_of_getElem? ez)).symm⟩, hQ⟩
      · rw [range_picked] at esi
        have six : si ≠ x := fun z => by
          rw [z, x6] at nsi
          cases nsi
        refine ⟨_, rfl, x, C, dx, [("_standings", .ref st), ("_leads", .ref D)], rfl, m7 _ _ x6, hC, n3, by show 2 < 1000; decide, ?_⟩
        refine q st D si as _ (m6.trans ((Sx.of m7).trans Sx.upd)) upd_same Dx six (SqT.x (SqT.sm st6 m7) (m7 _ _ x6) Sx.upd) ?_ ?_ ?_
        · rw [upd_ne Dx]
          exact m7 _ _ ed6
        · rw [upd_ne six]
          exact esi
        · exact pair_mono pr6 fun a _ t e => ⟨e.1, by
            rw [upd_ne e.1]
            exact m7 _ _ e.2⟩
end
end Dk
set_option Elab.async false
set_option linter.all false
set_option maxRecDepth 100000
set_option maxHeartbeats 4000000
namespace Dk
open PySem PySem.Spec PyProof.Rows L2 Er
/-! ### _law_made -/
/-- a desk of the program at x -/
def DeskOb (K : PySem.W.Frag) (C : Addr) (H : Hp) (x : Addr) (ws ds : List Str) (tb : List (List Str)) (ls : List Str) : Prop := ∃ (dx st ld si : Addr) (as : List Addr), H x = some (.ins C dx (fldsOf st ld si)) ∧ SqT K H st (ws.map V.str) ∧
  H ld = some (.dK (dkv ds (as.map V.ref))) ∧ H si = some (.dK (dkv ws (ls.map V.str))) ∧ Paired (fun a vs => H a = some (.dK (dkv ws (vs.map V.str)))) as tb
/-- the entries of a table in the opposite sequence -/
def back (ws vs : List Str) : List (Key × V) := (dkv ws (vs.map V.str)).reverse
theorem back_nd {ws vs : List Str} (e : vs.length = ws.length) (nd : ws.Nodup) : ((back ws vs).map (·.1)).Nodup := by
  unfold back
  rw [List.map_reverse, dkv_keys (by rw [List.length_map, e])]
  exact List.pairwise_reverse.mpr (List.Pairwise.map _ (fun a b n z => n (Sum.inr.inj z).symm) nd)
theorem back_len {ws vs : List Str} (e : vs.length = ws.length) : (back ws vs).length = ws.length := by
  unfold back
  rw [List.length_reverse, dkv_len (by rw [List.length_map, e])]
theorem back_at {ws vs : List Str} (e : vs.length = ws.length) (nd : ws.Nodup) {j : Nat} {z v : Str} (h1 : ws[j]? = some z) (h2 : vs[j]? = some v) : valV (back ws vs) (.inr z) = some (.str v) := by
  have m : ((Sum.inr z, V.str v) : Key × V) ∈ back ws vs := by
    unfold back
    refine List.mem_reverse.mpr (List.mem_of_getElem? (i := j) (List.getElem?_zip_eq_some.mpr ⟨?_, ?_⟩))
    · rw [List.getElem?_map, h1]
      rfl
    · rw [List.getElem?_map, h2]
      rfl
  obtain ⟨i, hi⟩ := List.mem_iff_getElem?.mp m
  exact valV_of (back_nd e nd) hi
theorem picked_back {ws vs : List Str} (e : vs.length = ws.length) (nd : ws.Nodup) : picked (back ws vs) ws = vs.map V.str := by
  unfold picked
  refine List.ext_getElem (by rw [List.length_map, List.length_map, e]) fun j h1 h2 => ?_
  rw [List.length_map] at h1 h2
  rw [List.getElem_map, List.getElem_map, back_at e nd (List.getElem?_eq_getElem h1) (List.getElem?_eq_getElem h2)]
  rfl
theorem back_table {ws vs : List Str} (e : vs.length = ws.length) (nd : ws.Nodup) : tableB (back ws vs) ws = true := by
  unfold tableB
  rw [back_len e, decide_eq_true rfl, Bool.true_and, List.all_eq_true]
  intro z hz
  obtain ⟨j, hj, rfl⟩ := List.mem_iff_getElem.mp hz
  rw [back_at e nd (List.getElem?_eq_getElem hj) (List.getElem?_eq_getElem (by omega))]
  rfl
theorem back_vals {ws vs : List Str} (e : vs.length = ws.length) : (back ws vs).map (·.2) = (vs.map V.str).reverse := by
  unfold back
  rw [List.map_reverse]
  congr 1
  exact List.map_snd_zip (by rw [List.length_map, List.length_map, e]; exact Nat.le_refl _)
theorem back_lead {ws vs : List Str} (e : vs.length = ws.length) (nd : ws.Nodup) (h : ∀ z ∈ vs, z ∈ ws) : leadB (back ws vs) ws = true := by
  unfold leadB
  rw [back_table e nd, Bool.true_and, back_vals e, List.all_eq_true]
  intro y hy
  obtain ⟨z, hz, rfl⟩ := List.mem_map.mp (List.mem_reverse.mp hy)
  exact decide_eq_true (h z hz)
theorem back_sight {ws vs : List Str} (e : vs.length = ws.length) (nd : ws.Nodup) (h : ∀ z ∈ vs, IsWord z) : sightB (back ws vs) ws = true := by
  unfold sightB
  rw [back_table e nd, Bool.true_and, back_vals e, List.all_eq_true]
  intro y hy
  obtain ⟨z, hz, rfl⟩ := List.mem_map.mp (List.mem_reverse.mp hy)
  exact decide_eq_true (h z hz)
theorem back_itm {K : PySem.W.Frag} {H : Hp} {ws vs : List Str} (e : vs.length = ws.length) (h : ∀ z ∈ vs, IsWord z) : ∀ y ∈ (back ws vs).map (·.2), Itm K H y := fun y hy => by
  rw [back_vals e] at hy
  obtain ⟨z, hz, rfl⟩ := List.mem_map.mp (List.mem_reverse.mp hy)
  have := (h z hz).2.1
  exact .inl ⟨z, rfl, by omega⟩
theorem deeds_ok {ws ds : List Str} {us : List V} {tb : List (List Str)} (ul : us.length = ds.length) (tl : tb.length = ds.length) (d1 : 1 ≤ ds.length) (d4 : ds.length ≤ 4) (dw : ∀ z ∈ ds, IsWord z) (nd : ws.Nodup) (h : ∀ vs ∈ tb, vs.length = ws.length ∧ ∀ z ∈ vs, z ∈ ws) :
    deedB (dkv ds us) ((tb.map (back ws)).map some) ws = true := by
  unfold deedB
  rw [dkv_len ul, decide_eq_true ⟨d1, d4⟩, Bool.true_and, List.all_eq_true]
  intro b hb
  obtain ⟨⟨kv, t⟩, hp, rfl⟩ := List.mem_map.mp hb
  obtain ⟨j, hj⟩ := List.mem_iff_getElem?.mp hp
  obtain ⟨a, c⟩ := List.getElem?_zip_eq_some.mp hj
  obtain ⟨k, v⟩ := kv
  obtain ⟨z, ez, ek, _⟩ := dkv_at a
  rw [List.getElem?_map, List.getElem?_map] at c
  cases e : tb[j]? with
  | none =>
    rw [e] at c
    cases c
  | some vs =>
    rw [e] at c
    have c2 : some (back ws vs) = t := Option.some.inj c
    subst c2 ek
    have q := h vs (List.mem_of_getElem? e)
    show (decide (IsWord z) && leadB (back ws vs) ws) = true
    rw [decide_eq_true (dw z (List.mem_of_getElem? ez)), back_lead q.1 nd q.2]
    rfl
theorem stand_ok {ws : List Str} (n1 : 1 ≤ ws.length) (n9 : ws.length ≤ 9) (nd : ws.Nodup) (h : ∀ z ∈ ws, IsWord z) : standB (ws.map V.str) = true := by
  unfold standB
  rw [List.length_map, decide_eq_true ⟨n1, n9⟩, decide_eq_true (nodup_strs.mpr nd), Bool.true_and, Bool.and_true, List.all_eq_true]
  intro y hy
  obtain ⟨z, hz, rfl⟩ := List.mem_map.mp hy
  exact decide_eq_true (h z hz)
theorem dkv_ne {ws ds vs : List Str} {as : List Addr} (n1 : 1 ≤ ws.length) (e : vs.length = ws.length) : dkv ws (vs.map V.str) ≠ dkv ds (as.map V.ref) := by
  intro h
  cases ws with
  | nil => exact absurd n1 (by decide)
  | cons w ws =>
    cases vs with
    | nil => simp at e
    | cons v vs =>
      cases ds with
      | nil => exact nomatch (show ((Sum.inr w, V.str v) : Key × V) :: dkv ws (vs.map V.str) = [] from h)
      | cons d ds =>
        cases as with
        | nil => exact nomatch (show ((Sum.inr w, V.str v) : Key × V) :: dkv ws (vs.map V.str) = [] from h)
        | cons a as =>
          have h2 : ((Sum.inr w, V.str v) : Key × V) :: dkv ws (vs.map V.str) = (Sum.inr d, V.ref a) :: dkv ds (as.map V.ref) := h
          have h3 := congrArg (fun l : List (Key × V) => (l.head?.map (·.2))) h2
          exact nomatch (show (some (V.str v) : Option V) = some (V.ref a) from h3)
def spMade (K : PySem.W.Frag) (C : Addr) : Sp := fun vs H Q _ => ∃ (u nm dd sg : Addr) (ws ds : List Str) (as : List Addr) (tb : List (List Str)) (ls : List Str) (m : Nat), vs = [.ref u] ∧ DkAt H u nm dd sg ws ds as tb ls ∧ DkIs m ws ds tb ls ∧ m ≤ 9 ∧
  ∀ x H', Sm H H' → H x = none → DeskOb K C H' x ws ds tb ls → Q (.ref x) H'
abbrev nMade : List Str := ["_law_desk_here", "_law_deeds", "_law_deed"]
section
variable {P : Program} {w : World} {K : PySem.W.Frag} {mg : Str → Option Value} {base : Heap} {f C fI fT : Addr} {fd dI dT : FuncData}
end
end Dk
set_option Elab.async false
set_option linter.all false
set_option maxRecDepth 100000
set_option maxHeartbeats 4000000
namespace Dk
open PySem PySem.Spec PyProof.Rows L2 Er
/-! ### where rows lead -/
/-- the standing to which a deed leads one -/
def nxt (ws ds : List Str) (tb : List (List Str)) (z d : Str) : Str := (tb.getD (ds.idxOf d) []).getD (ws.idxOf z) ⟨#[]⟩
theorem dkv_get {ws : List Str} {us : List V} {z : Str} (e : us.length = ws.length) (hz : z ∈ ws) : valV (dkv ws us) (.inr z) = us[ws.idxOf z]? := by
  induction ws generalizing us with
  | nil => cases hz
  | cons w ws ih =>
    cases us with
    | nil => simp at e
    | cons u us =>
      by_cases c : w = z
      · subst c
        rw [List.idxOf_cons_self]
        unfold valV
        show ((((Sum.inr w, u) : Key × V) :: dkv ws us).find? _).map _ = _
        rw [List.find?_cons_of_pos (by simp)]
        rfl
      · have h2 : z ∈ ws := by
          rcases List.mem_cons.mp hz with x | x
          · exact absurd x.symm c
          · exact x
        rw [List.idxOf_cons, show (w == z) = false from by simpa using c, cond_false, List.getElem?_cons_succ, ← ih (by simpa using e) h2]
        unfold valV
        show ((((Sum.inr w, u) : Key × V) :: dkv ws us).find? _).map _ = _
        rw [List.find?_cons_of_neg]
        intro x
        have e2 : (Sum.inr w : Key) = .inr z := of_decide_eq_true x
        exact c (Sum.inr.inj e2)
theorem idx_lt {ws : List Str} {z : Str} (h : z ∈ ws) : ws.idxOf z < ws.length := List.idxOf_lt_length_iff.mpr h
/-- what a drawn desk's dicts hold -/
theorem dk_step {H : Hp} {u nm dd sg : Addr} {ws ds : List Str} {as : List Addr} {tb : List (List Str)} {ls : List Str} {m : Nat} (h : DkAt H u nm dd sg ws ds as tb ls) (is : DkIs m ws ds tb ls) {d z : Str} (hd : d ∈ ds) (hz : z ∈ ws) :
    ∃ a, valV (dkv ds (as.map V.ref)) (.inr d) = some (.ref a) ∧ DGet H a (.str z) (some (.str (nxt ws ds tb z d))) ∧ nxt ws ds tb z d ∈ ws := by
  obtain ⟨_, _, _, _, pr⟩ := h
  have al : as.length = ds.length := by rw [paired_len pr, is.rows]
  have il := idx_lt hd
  have e1 : as[ds.idxOf d]? = some (as[ds.idxOf d]'(by omega)) := List.getElem?_eq_getElem _
  obtain ⟨vs, et, ha⟩ := pair_at pr e1
  have hv := is.row vs (List.mem_of_getElem? et)
  have zl := idx_lt hz
  have e2 : vs[ws.idxOf z]? = some (vs[ws.idxOf z]'(by omega)) := List.getElem?_eq_getElem _
  have en : nxt ws ds tb z d = vs[ws.idxOf z]'(by omega) := by
    unfold nxt
    rw [List.getD_eq_getElem?_getD, List.getD_eq_getElem?_getD, et]
    show (vs[ws.idxOf z]?).getD _ = _
    rw [e2]
    rfl
  refine ⟨as[ds.idxOf d]'(by omega), ?_, ?_, ?_⟩
  · rw [dkv_get (by rw [List.length_map, al]) hd, List.getElem?_map, e1]
    rfl
  · refine .inl ⟨_, .inr z, .inl ha, rfl, ?_⟩
    rw [dkv_get (by rw [List.length_map, hv.1]) hz, List.getElem?_map, e2, en]
    rfl
  · rw [en]
    exact hv.2 _ (List.getElem_mem _)
/-- where a row leads -/
def ledBy (ws ds : List Str) (tb : List (List Str)) (z : Str) (row : List Str) : Str := row.foldl (nxt ws ds tb) z
def spLeadL (K : PySem.W.Frag) : Sp := fun vs H Q _ => ∃ (u r nm dd sg : Addr) (z : Str) (row ws ds : List Str) (as : List Addr) (tb : List (List Str)) (ls : List Str) (m : Nat), vs = [.ref u, .str z, .ref r] ∧ DkAt H u nm dd sg ws ds as tb ls ∧ DkIs m ws ds tb ls ∧ z ∈ ws ∧ SqL K H r (row.map V.str) ∧ (∀ d ∈ row, d ∈ ds) ∧
  (ledBy ws ds tb z row ∈ ws → Q (.str (ledBy ws ds tb z row)) H)
abbrev nLeadL : List Str := ["_law_desk_here", "_law_standing", "_law_row", "_law_deed"]
section
variable {P : Program} {w : World} {K : PySem.W.Frag} {mg : Str → Option Value} {base : Heap} {f fD fP : Addr} {fd dD dP : FuncData}
end
end Dk
set_option Elab.async false
set_option linter.all false
set_option maxRecDepth 100000
set_option maxHeartbeats 4000000
namespace Dk
open PySem PySem.Spec PyProof.Rows L2 Er
/-! ### _law_stranger -/
def menu : List Str := ["onn", "nxt", "sett", "keys", "up", "low", "lit", "dim", "fail", "stop", "d", "e", "f", "g", "h", "i", "j"]
theorem menu_nd : menu.Nodup := by decide +kernel
theorem nodup_le : ∀ {l m : List Str}, l.Nodup → (∀ x ∈ l, x ∈ m) → l.length ≤ m.length
  | [], _, _, _ => Nat.zero_le _
  | x :: l, m, hn, hs => by
    obtain ⟨h1, h2⟩ := List.nodup_cons.mp hn
    have hx : x ∈ m := hs x List.mem_cons_self
    have ih := nodup_le (l := l) (m := m.erase x) h2 fun y hy => (List.mem_erase_of_ne (fun e : y = x => h1 (by rw [← e]; exact hy))).2 (hs y (List.mem_cons_of_mem _ hy))
    have hp : 0 < m.length := List.length_pos_of_mem hx
    rw [List.length_erase_of_mem hx] at ih
    rw [List.length_cons]
    omega
/-- a menu that is longer than what is left out -/
theorem left_some {ws : List Str} (h : ws.length ≤ 16) : menu.filter (fun z => decide (z ∉ ws)) ≠ [] := by
  intro e
  have all : ∀ z ∈ menu, z ∈ ws := fun z hz => by
    by_cases c : z ∈ ws
    · exact c
    · have : z ∈ menu.filter (fun z => decide (z ∉ ws)) := List.mem_filter.mpr ⟨hz, decide_eq_true c⟩
      rw [e] at this
      cases this
  have := nodup_le menu_nd all
  rw [show menu.length = 17 from rfl] at this
  omega
def spStranger (K : PySem.W.Frag) : Sp := fun vs H Q _ => ∃ (l : Addr) (ws : List Str), vs = [.ref l] ∧ SqL K H l (ws.map V.str) ∧ ws.length ≤ 16 ∧ ∀ z H', Sm H H' → z ∈ menu → z ∉ ws → Q (.str z) H'
abbrev nStr : List Str := ["_law_names_here", "_law_some", "_law_name"]
section
variable {P : Program} {w : World} {K : PySem.W.Frag} {mg : Str → Option Value} {base : Heap} {f : Addr} {fd : FuncData}
end
end Dk
set_option Elab.async false
set_option linter.all false
set_option maxRecDepth 100000
set_option maxHeartbeats 4000000
namespace Dk
open PySem PySem.Spec PyProof.Rows L2 Er
/-! ### _law_nexts -/
theorem idx_of {ds : List Str} {j : Nat} {d : Str} (nd : ds.Nodup) (h : ds[j]? = some d) : ds.idxOf d = j := by
  obtain ⟨hj, e⟩ := List.getElem?_eq_some_iff.mp h
  have hd : d ∈ ds := List.mem_of_getElem? h
  have il := idx_lt hd
  have eg : ds[ds.idxOf d]'il = d := List.getElem_idxOf il
  have pw := List.pairwise_iff_getElem.mp nd
  rcases Nat.lt_trichotomy (ds.idxOf d) j with c | c | c
  · exact absurd (eg.trans e.symm) (pw _ _ il hj c)
  · exact c
  · exact absurd (e.trans eg.symm) (pw _ _ hj il c)
theorem row_get {ws ds vs : List Str} {tb : List (List Str)} {j : Nat} {z d : Str} (nd : ds.Nodup) (e1 : ds[j]? = some d) (e2 : tb[j]? = some vs) (vl : vs.length = ws.length) (hz : z ∈ ws) : valV (dkv ws (vs.map V.str)) (.inr z) = some (.str (nxt ws ds tb z d)) := by
  have zl := idx_lt hz
  have e3 : vs[ws.idxOf z]? = some (vs[ws.idxOf z]'(by omega)) := List.getElem?_eq_getElem _
  have en : nxt ws ds tb z d = vs[ws.idxOf z]'(by omega) := by
    unfold nxt
    rw [idx_of nd e1, List.getD_eq_getElem?_getD, List.getD_eq_getElem?_getD, e2]
    show (vs[ws.idxOf z]?).getD _ = _
    rw [e3]
    rfl
  rw [dkv_get (by rw [List.length_map, vl]) hz, List.getElem?_map, e3, en]
  rfl
theorem dk_rows {H : Hp} {u nm dd sg : Addr} {ws ds : List Str} {as : List Addr} {tb : List (List Str)} {ls : List Str} {m : Nat} (h : DkAt H u nm dd sg ws ds as tb ls) (is : DkIs m ws ds tb ls) : Paired (fun a vs => a ≠ dd ∧ H a = some (.dK (dkv ws (vs.map V.str)))) as tb := by
  obtain ⟨_, _, hdd, _, pr⟩ := h
  refine paired_of (paired_len pr) fun j a vs e1 e2 => ?_
  obtain ⟨vs2, e3, e4⟩ := pair_at pr e1
  rw [e2] at e3
  have e5 := Option.some.inj e3
  subst e5
  refine ⟨fun z => ?_, e4⟩
  rw [z, hdd] at e4
  exact dkv_ne is.some (is.row vs (List.mem_of_getElem? e2)).1 (HO.dK.inj (Option.some.inj e4)).symm
/-- the standings to which the deeds lead one -/
def nexts (ws ds : List Str) (tb : List (List Str)) (z : Str) : List Str := ds.map (nxt ws ds tb z)
def spNexts : Sp := fun vs H Q _ => ∃ (u nm dd sg : Addr) (ws ds : List Str) (as : List Addr) (tb : List (List Str)) (ls : List Str) (m : Nat), vs = [.ref u] ∧ DkAt H u nm dd sg ws ds as tb ls ∧ DkIs m ws ds tb ls ∧ m ≤ 9 ∧
  ∀ (q : Addr) (bs : List Addr) H', Sm H H' → H q = none → H' q = some (.dK (dkv ws (bs.map V.ref))) → Paired (fun b z => H' b = some (.lst ((nexts ws ds tb z).map V.str))) bs ws → Q (.ref q) H'
abbrev nNexts : List Str := ["_law_desk_here", "_law_found", "_law_one", "_law_leads_here"]
section
variable {P : Program} {w : World} {K : PySem.W.Frag} {mg : Str → Option Value} {base : Heap} {f : Addr} {fd : FuncData}
end
end Dk
set_option Elab.async false
set_option linter.all false
set_option maxRecDepth 100000
set_option maxHeartbeats 4000000
namespace Dk
open PySem PySem.Spec PyProof.Rows L2 Er
open PySem.ErK (EC)
/-! ### a desk's errors; Desk.sight, Desk.lead -/
def ini (s : Stmt) : Stmt := (clsBody s).getD 0 (.Pass ⟨0, 0, 0, 0⟩)
def spErr (K : PySem.W.Frag) (g : Str) : Sp := fun vs H Q _ => ∃ (a C : Addr) (v : V), vs = [.ref a, v] ∧ OexC K C ∧ PySem.W.findIn K (.ref C) g = some none ∧ H a = some (exo a C none) ∧
  ∀ dx, H dx = none → dx ≠ a → Q .non (upd (upd H dx (exd dx [(g, v)])) a (exo a C (some dx)))
theorem scErV : FnScope ["self", "value"] ["self", "value"] (defScope (ini (top 5))) := ⟨rfl, rfl, rfl, by decide +kernel, rfl, by decide +kernel, by decide +kernel⟩
theorem scErP : FnScope ["self", "position"] ["self", "position"] (defScope (ini (top 6))) := ⟨rfl, rfl, rfl, by decide +kernel, rfl, by decide +kernel, by decide +kernel⟩
/-- what the written part says of an error: its class, its __init__ -/
structure Bad (K : PySem.W.Frag) (mg : Str → Option Value) (x g : Str) (st : Stmt) (C fI : Addr) (dI : FuncData) : Prop where
  ec : EC K x g C fI
  F : FunD K "__init__" (x ++ ".__init__") (defArgs st) (defBody st) (defScope st) [] [] fI dI
  gl : mg x = some (.ref C)
section
variable {P : Program} {w : World} {K : PySem.W.Frag} {mg : Str → Option Value} {base : Heap} {fI C : Addr} {dI : FuncData}
theorem ok_erV (B : Bad K mg "BadStanding" "value" (ini (top 5)) C fI dI) : FnOk P w K mg base CX0 1 fI dI ["self", "value"] (spErr K "value") := by
  refine B.F.ok (CX := CX0) scErV (fun vs H Q E h => ?_) (fun cdv A outer s H vs Q E hr h => ?_)
  · obtain ⟨a, C, v, rfl, _⟩ := h
    rfl
  · refine ⟨_, PSs.nox (pss_one (ps_ost (pv 0) (pv 1))), ?_⟩
    obtain ⟨a, C, v, rfl, T, no, ha, q⟩ := h
    exact ⟨_, rfl, _, rfl, a, C, rfl, T, no, .inl ⟨ha, q⟩⟩
theorem ok_erP (B : Bad K mg "BadRow" "position" (ini (top 6)) C fI dI) : FnOk P w K mg base CX0 1 fI dI ["self", "position"] (spErr K "position") := by
  refine B.F.ok (CX := CX0) scErP (fun vs H Q E h => ?_) (fun cdv A outer s H vs Q E hr h => ?_)
  · obtain ⟨a, C, v, rfl, _⟩ := h
    rfl
  · refine ⟨_, PSs.nox (pss_one (ps_ost (pv 0) (pv 1))), ?_⟩
    obtain ⟨a, C, v, rfl, T, no, ha, q⟩ := h
    exact ⟨_, rfl, _, rfl, a, C, rfl, T, no, .inl ⟨ha, q⟩⟩
theorem bErV (B : Bad K mg "BadStanding" "value" (ini (top 5)) C fI dI) : Binds K dI ["self", "value"] [] := B.F.bindsN fun _ _ _ _ _ _ us hl => match us, hl with
  | [_, _], _ => rfl
theorem bErP (B : Bad K mg "BadRow" "position" (ini (top 6)) C fI dI) : Binds K dI ["self", "position"] [] := B.F.bindsN fun _ _ _ _ _ _ us hl => match us, hl with
  | [_, _], _ => rfl
theorem upd_del {H : Hp} {a d : Addr} {o u v x : HO} (na : H a = none) (ne : d ≠ a) : upd (del (upd (upd (upd H a o) d u) a v) a) d x = upd H d x := by
  funext b
  by_cases hd : b = d
  · rw [hd, upd_same, upd_same]
  · rw [upd_ne hd, upd_ne hd]
    by_cases ha : b = a
    · rw [ha, del_same, na]
    · rw [del_ne ha, upd_ne ha, upd_ne hd, upd_ne ha]
/-- what raising one asks -/
theorem bad_reads {g : Str} {v : V} {H1 : Hp} {Q : XK} (T : OexC K C) (no : PySem.W.findIn K (.ref C) g = some none) (q : ∀ d, H1 d = none → Q (.ref C) (some d) (upd H1 d (.xd [(g, v)]))) :
    [v].length ≤ 1000 ∧ ∀ a, H1 a = none → spErr K g (.ref a :: ([v] ++ [])) (upd H1 a (exo a C none)) (fun u H2 => u = .non ∧ ∃ (d : Addr) (fs : List (Str × V)), H2 a = some (exo a C (some d)) ∧ H2 d = some (exd d fs) ∧ H1 d = none ∧ Q (.ref C) (some d) (upd (del H2 a) d (.xd fs))) (fun _ _ _ => False) := by
  refine ⟨by show 1 ≤ 1000; decide, fun a na => ⟨a, C, v, rfl, T, no, upd_same, fun dx nd ne => ⟨rfl, dx, [(g, v)], upd_same, ?_, ?_, ?_⟩⟩⟩
  · rw [upd_ne ne, upd_same]
  · rw [upd_ne ne] at nd
    exact nd
  · rw [upd_ne ne] at nd
    rw [upd_del na ne]
    exact q dx nd
end
/-- what stands in a told desk's dicts -/
theorem ob_step {H : Hp} {ws ds : List Str} {as : List Addr} {tb : List (List Str)} {ls : List Str} {m : Nat} (pr : Paired (fun a vs => H a = some (.dK (dkv ws (vs.map V.str)))) as tb) (is : DkIs m ws ds tb ls) {d z : Str} (hd : d ∈ ds) (hz : z ∈ ws) :
    ∃ a, valV (dkv ds (as.map V.ref)) (.inr d) = some (.ref a) ∧ DGet H a (.str z) (some (.str (nxt ws ds tb z d))) ∧ nxt ws ds tb z d ∈ ws := by
  have al : as.length = ds.length := by rw [paired_len pr, is.rows]
  have il := idx_lt hd
  have e1 : as[ds.idxOf d]? = some (as[ds.idxOf d]'(by omega)) := List.getElem?_eq_getElem _
  obtain ⟨vs, et, ha⟩ := pair_at pr e1
  have hv := is.row vs (List.mem_of_getElem? et)
  have zl := idx_lt hz
  have e2 : vs[ws.idxOf z]? = some (vs[ws.idxOf z]'(by omega)) := List.getElem?_eq_getElem _
  have en : nxt ws ds tb z d = vs[ws.idxOf z]'(by omega) := by
    unfold nxt
    rw [List.getD_eq_getElem?_getD, List.getD_eq_getElem?_getD, et]
    show (vs[ws.idxOf z]?).getD _ = _
    rw [e2]
    rfl
  refine ⟨as[ds.idxOf d]'(by omega), ?_, ?_, ?_⟩
  · rw [dkv_get (by rw [List.length_map, al]) hd, List.getElem?_map, e1]
    rfl
  · refine .inl ⟨_, .inr z, .inl ha, rfl, ?_⟩
    rw [dkv_get (by rw [List.length_map, hv.1]) hz, List.getElem?_map, e2, en]
    rfl
  · rw [en]
    exact hv.2 _ (List.getElem_mem _)
/-- no text of these -/
def NotOf (K : PySem.W.Frag) (H : Hp) (ws : List Str) (v : V) : Prop := (∃ z : Str, v = .str z ∧ z ∉ ws) ∨ NoStr K H v
theorem NotOf.sm {K : PySem.W.Frag} {H H' : Hp} {ws : List Str} {v : V} (h : NotOf K H ws v) (m : Sm H H') : NotOf K H' ws v := by
  rcases h with h | h
  · exact .inl h
  · exact .inr (NoStr.sm h m)
def spSight (K : PySem.W.Frag) (C CS : Addr) : Sp := fun vs H Q E => ∃ (x : Addr) (v : V) (ws ds : List Str) (tb : List (List Str)) (ls : List Str), vs = [.ref x, v] ∧ DeskOb K C H x ws ds tb ls ∧ ls.length = ws.length ∧
  ((∃ z l : Str, v = .str z ∧ z ∈ ws ∧ ls[ws.idxOf z]? = some l ∧ Q (.str l) H) ∨ (NotOf K H ws v ∧ ∀ d, H d = none → E (.ref CS) (some d) (upd H d (.xd [("value", v)]))))
abbrev nSight : List Str := ["self", "standing"]
theorem scSight : FnScope nSight nSight (defScope (meth 5)) := ⟨rfl, rfl, rfl, by decide +kernel, rfl, by decide +kernel, by decide +kernel⟩
section
variable {P : Program} {w : World} {K : PySem.W.Frag} {mg : Str → Option Value} {base : Heap} {f fI fJ C CS CR fO : Addr} {fd dI dJ dO : FuncData}
theorem bOne (F : FnP K "is_one_of" (top 19) fO dO) : Binds K dO nOneOf [] := F.bindsN fun _ _ _ _ _ _ us hl => match us, hl with
  | [_, _], _ => rfl
theorem ok_sight (F : FunD K "sight" "Desk.sight" (defArgs (meth 5)) (defBody (meth 5)) (defScope (meth 5)) [] [] f fd) (hC : Cls K C) (n1 : NoAttr K C "_standings") (n3 : NoAttr K C "_sights") (B : Bad K mg "BadStanding" "value" (ini (top 5)) CS fI dI)
    (GO : FnOk P w K mg base CX0 1 fO dO nOneOf (spOneOf K)) (FO : FnP K "is_one_of" (top 19) fO dO) (gO : mg "is_one_of" = some (.ref fO)) : FnOk P w K mg base (L2.CX P w) 3 f fd nSight (spSight K C CS) := by
  refine F.ok (CX := L2.CX P w) scSight (fun vs H Q E h => ?_) (fun cdv A outer s H vs Q E hr h => ?_)
  · obtain ⟨x, v, ws, ds, tb, ls, rfl, _⟩ := h
    rfl
  · have hr1 := hr.mono (show 1 ≤ 2 by decide)
    have GE : FnOk P w K mg base CX0 1 fI dI ["self", "value"] (spErr K "value") := ok_erV B
    refine ⟨_, pss_cons (ps_if (pt_not (pt_val (by exact (pe_call GO hr1 rfl gO FO.kp (bOne FO) .nil pass0 (pa_cons (pv 1) (pa_cons (by exact (pe_fld (pv 0) rfl)) pa_nil)))))) (pss_one (ps_raise rfl (takes_of rfl rfl rfl rfl) (pmk_oex (e := .Name "standing" _) (es := []) B.ec.ox B.ec.iC B.ec.tI GE hr (bErV B) .nil pass0 rfl B.gl (pa_cons (pv 1) pa_nil)))) pss_nil)
      (PSs.nox (pss_one (ps_ret (by exact (pe_dget (hu_of hr) (by exact (pe_fld (pv 0) rfl)) (pv 1) (fun _ _ => rfl)))))), ?_⟩
    obtain ⟨x, v, ws, ds, tb, ls, rfl, ⟨dx, st, ld, si, as, hx, hst, hld, hsi, pr⟩, ll, h⟩ := h
    refine ⟨_, rfl, _, rfl, x, C, dx, _, _, rfl, hx, hC, n1, rfl, v, st, rfl, ?_⟩
    rcases h with ⟨z, l, rfl, hz, el, q⟩ | ⟨hv, q⟩
    · refine .inl ⟨z, ws, rfl, .inr (.inl hst), _, rfl, ?_⟩
      rw [decide_eq_true hz]
      refine iteF ⟨_, rfl, x, C, dx, _, _, rfl, hx, hC, n3, rfl, _, rfl, si, .str l, rfl, .inl ⟨_, .inr z, .inl hsi, rfl, ?_⟩, q⟩
      rw [dkv_get (by rw [List.length_map, ll]) hz, List.getElem?_map, el]
      rfl
    · rcases hv with ⟨z, rfl, nz⟩ | hv
      · refine .inl ⟨z, ws, rfl, .inr (.inl hst), _, rfl, ?_⟩
        rw [decide_eq_false nz]
        exact iteT ⟨_, rfl, bad_reads B.ec.ox B.ec.noN q⟩
      · exact .inr ⟨hv, _, rfl, iteT ⟨_, rfl, bad_reads B.ec.ox B.ec.noN q⟩⟩
end
theorem DeskOb.sm {K : PySem.W.Frag} {C : Addr} {H H' : Hp} {x : Addr} {ws ds : List Str} {tb : List (List Str)} {ls : List Str} (h : DeskOb K C H x ws ds tb ls) (m : Sm H H') : DeskOb K C H' x ws ds tb ls := by
  obtain ⟨dx, st, ld, si, as, h1, h2, h3, h4, pr⟩ := h
  exact ⟨dx, st, ld, si, as, m _ _ h1, SqT.sm h2 m, m _ _ h3, m _ _ h4, pair_mono pr fun a _ vs e => m _ _ e⟩
/-- a row: its first deeds are a desk's, and then it ends, or what stands there is none -/
def spLeadD (K : PySem.W.Frag) (C CS CR : Addr) : Sp := fun vs H Q E => ∃ (x r : Addr) (v : V) (xs : List V) (ws ds : List Str) (tb : List (List Str)) (ls : List Str) (m : Nat), vs = [.ref x, v, .ref r] ∧ DeskOb K C H x ws ds tb ls ∧ DkIs m ws ds tb ls ∧ SqL K H r xs ∧ xs.length ≤ 1000 ∧
  ((NotOf K H ws v ∧ ∀ d, H d = none → E (.ref CS) (some d) (upd H d (.xd [("value", v)]))) ∨
   ∃ (z : Str) (row : List Str), v = .str z ∧ z ∈ ws ∧ (∀ d ∈ row, d ∈ ds) ∧
    ((xs = row.map V.str ∧ ∀ H', Sm H H' → ledBy ws ds tb z row ∈ ws → Q (.str (ledBy ws ds tb z row)) H') ∨
     (∃ y : V, xs.take row.length = row.map V.str ∧ xs[row.length]? = some y ∧ NotOf K H ds y ∧ ∀ d H', Sm H H' → H' d = some (.xd [("position", .int (row.length : Nat))]) → H d = none → E (.ref CR) (some d) H')))
abbrev nLeadD : List Str := ["self", "standing", "row", "position", "deed"]
theorem scLeadD : FnScope nLeadD ["self", "standing", "row"] (defScope (meth 4)) := ⟨rfl, rfl, rfl, by decide +kernel, rfl, by decide +kernel, by decide +kernel⟩
theorem none_of_sm {H H' : Hp} {a : Addr} (m : Sm H H') (n : H' a = none) : H a = none := by
  cases e : H a with
  | none => rfl
  | some o =>
    rw [m _ _ e] at n
    cases n
theorem led_more {ws ds : List Str} {tb : List (List Str)} {z d : Str} {row : List Str} {i : Nat} (e : row[i]? = some d) : ledBy ws ds tb z (row.take (i + 1)) = nxt ws ds tb (ledBy ws ds tb z (row.take i)) d := by
  unfold ledBy
  rw [List.take_add_one, e, List.foldl_append]
  rfl
section
variable {P : Program} {w : World} {K : PySem.W.Frag} {mg : Str → Option Value} {base : Heap} {f fI fJ C CS CR fO : Addr} {fd dI dJ dO : FuncData}
theorem ok_leadD (F : FunD K "lead" "Desk.lead" (defArgs (meth 4)) (defBody (meth 4)) (defScope (meth 4)) [] [] f fd) (hC : Cls K C) (n1 : NoAttr K C "_standings") (n2 : NoAttr K C "_leads") (B : Bad K mg "BadStanding" "value" (ini (top 5)) CS fI dI) (B2 : Bad K mg "BadRow" "position" (ini (top 6)) CR fJ dJ)
    (me : mg "enumerate" = none) (GO : FnOk P w K mg base CX0 1 fO dO nOneOf (spOneOf K)) (FO : FnP K "is_one_of" (top 19) fO dO) (gO : mg "is_one_of" = some (.ref fO)) : FnOk P w K mg base (L2.CX P w) 3 f fd ["self", "standing", "row"] (spLeadD K C CS CR) := by
  refine F.ok (CX := L2.CX P w) scLeadD (fun vs H Q E h => ?_) (fun cdv A outer s H vs Q E hr h => ?_)
  · obtain ⟨x, r, v, xs, ws, ds, tb, ls, m, rfl, _⟩ := h
    rfl
  · have hr1 := hr.mono (show 1 ≤ 2 by decide)
    have GE : FnOk P w K mg base CX0 1 fI dI ["self", "value"] (spErr K "value") := ok_erV B
    have GP : FnOk P w K mg base CX0 1 fJ dJ ["self", "position"] (spErr K "position") := ok_erP B2
    refine ⟨_, pss_cons (ps_if (pt_not (pt_val (by exact (pe_call GO hr1 rfl gO FO.kp (bOne FO) .nil pass0 (pa_cons (pv 1) (pa_cons (by exact (pe_fld (pv 0) rfl)) pa_nil)))))) (pss_one (ps_raise rfl (takes_of rfl rfl rfl rfl) (pmk_oex (e := .Name "standing" _) (es := []) B.ec.ox B.ec.iC B.ec.tI GE hr (bErV B) .nil pass0 rfl B.gl (pa_cons (pv 1) pa_nil)))) pss_nil)
      (pss_cons (ps_for (passes_of rfl) rfl (pi_enum rfl me (pa_cons (pv 2) pa_nil)) (pg_tup rfl (pgs_cons (pg_name (i := 3) scLeadD.nd rfl (.inl rfl)) (pgs_cons (pg_name (i := 4) scLeadD.nd rfl (.inl rfl)) pgs_nil)))
        (pss_cons (ps_if (pt_not (pt_val (by exact (pe_call GO hr1 rfl gO FO.kp (bOne FO) .nil pass0 (pa_cons (pv 4) (pa_cons (by exact (pe_fld (pv 0) rfl)) pa_nil)))))) (pss_one (ps_raise rfl (takes_of rfl rfl rfl rfl) (pmk_oex (e := .Name "position" _) (es := []) B2.ec.ox B2.ec.iC B2.ec.tI GP hr (bErP B2) .nil pass0 rfl B2.gl (pa_cons (pv 3) pa_nil)))) pss_nil)
          (PSs.nox (pss_one (ps_set (i := 1) scLeadD.nd rfl (.inl rfl) (by exact (pe_dget (hu_of hr) (by exact (pe_dget (hu_of hr) (by exact (pe_fld (pv 0) rfl)) (by exact (pv 4)) (fun _ _ => rfl))) (by exact (pv 1)) (fun _ _ => rfl))))))))
      (PSs.nox (pss_one (ps_ret (pv 1))))), ?_⟩
    obtain ⟨x, r, v, xs, ws, ds, tb, ls, m, rfl, ⟨dx, st, ld, si, as, hx, hst, hld, hsi, pr⟩, is, hr0, xl, h⟩ := h
    refine ⟨_, rfl, _, rfl, x, C, dx, _, _, rfl, hx, hC, n1, rfl, v, st, rfl, ?_⟩
    rcases h with ⟨hv, q⟩ | ⟨z, row, rfl, hz, hrow, h⟩
    · rcases hv with ⟨z, rfl, nz⟩ | hv
      · refine .inl ⟨z, ws, rfl, .inr (.inl hst), _, rfl, ?_⟩
        rw [decide_eq_false nz]
        exact iteT ⟨_, rfl, bad_reads B.ec.ox B.ec.noN q⟩
      · exact .inr ⟨hv, _, rfl, iteT ⟨_, rfl, bad_reads B.ec.ox B.ec.noN q⟩⟩
    · refine .inl ⟨z, ws, rfl, .inr (.inl hst), _, rfl, ?_⟩
      rw [decide_eq_true hz]
      refine iteF ⟨_, rfl, r, xs, rfl, hr0, ?_⟩
      have al : as.length = ds.length := by rw [paired_len pr, is.rows]
      have same : ∀ (i : Nat) (y : V), i < row.length → xs[i]? = some y → ∃ d, row[i]? = some d ∧ y = .str d := fun i y hi e => by
        have e2 : (row.map V.str)[i]? = some y := by
          rcases h with ⟨e1, _⟩ | ⟨_, e1, _⟩
          · rw [← e1]
            exact e
          · rw [← e1, List.getElem?_take_of_lt hi]
            exact e
        rw [List.getElem?_map] at e2
        cases e3 : row[i]? with
        | none =>
          rw [e3] at e2
          cases e2
        | some d =>
          rw [e3] at e2
          exact ⟨d, rfl, (Option.some.inj e2).symm⟩
      refine for_it (walk_enum (xs := xs)) (fun i σ G => i ≤ row.length ∧ ∃ (v3 v4 : Option V), σ = [some (.ref x), some (.str (ledBy ws ds tb z (row.take i))), some (.ref r), v3, v4] ∧ ledBy ws ds tb z (row.take i) ∈ ws ∧ Sm H G) ⟨Nat.zero_le _, none, none, rfl, hz, Sm.refl _⟩ (fun i σ G _ p => ?_) (fun i y σ G G' hi p yy => ?_) (fun σ G p => ?_)
      · obtain ⟨_, _, _, _, _, mm⟩ := p
        exact SqL.sm hr0 mm
      · obtain ⟨il, v3, v4, rfl, hin, mm⟩ := p
        obtain ⟨T, x1, x2, rfl, hT, rfl, e1, e2⟩ := yy
        have e1 := Option.some.inj e1
        subst e1
        have m2 := mm.trans (Sm.new (o := .tup [.int (i : Nat), x2]) hT)
        refine ⟨T, _, rfl, .inl (.inl upd_same), rfl, _, _, rfl, _, _, rfl, rfl, ?_⟩
        generalize upd G T (.tup [.int (i : Nat), x2]) = G2 at m2 ⊢
        by_cases c : i < row.length
        · obtain ⟨d, ed, rfl⟩ := same i x2 c e2
          have hd := hrow d (List.mem_of_getElem? ed)
          refine ⟨_, rfl, _, rfl, x, C, dx, _, _, rfl, m2 _ _ hx, hC, n2, rfl, .str d, ld, rfl, .inl ⟨d, ds, rfl, .inr (.inr ⟨as.map V.ref, .inl (m2 _ _ hld), by rw [List.length_map, al]⟩), _, rfl, ?_⟩⟩
          rw [decide_eq_true hd]
          have pr2 : Paired (fun a vs => G2 a = some (.dK (dkv ws (vs.map V.str)))) as tb := pair_mono pr fun a _ vs e => m2 _ _ e
          obtain ⟨a, b1, b2, b3⟩ := ob_step pr2 is hd hin
          refine iteF ⟨_, rfl, x, C, dx, _, _, rfl, m2 _ _ hx, hC, n2, rfl, _, rfl, ld, .ref a, rfl, .inl ⟨_, .inr d, .inl (m2 _ _ hld), rfl, b1.symm⟩, _, rfl, a, _, rfl, b2, c, some (.int (i : Nat)), some (.str d), ?_, ?_, m2⟩
          · rw [led_more ed]
            rfl
          · rw [led_more ed]
            exact b3
        · have ei : i = row.length := by omega
          subst ei
          rcases h with ⟨e3, _⟩ | ⟨y, _, e3, ny, q⟩
          · rw [e3, List.length_map] at hi
            omega
          · have e3 := Option.some.inj ((show xs[row.length]? = some x2 from e2).symm.trans e3)
            subst e3
            have out : ∀ d, G2 d = none → E (.ref CR) (some d) (upd G2 d (.xd [("position", .int (row.length : Nat))])) := fun d nd => q d _ (m2.trans (Sm.new nd)) upd_same (none_of_sm m2 nd)
            refine ⟨_, rfl, _, rfl, x, C, dx, _, _, rfl, m2 _ _ hx, hC, n2, rfl, x2, ld, rfl, ?_⟩
            rcases ny with ⟨d, rfl, nd⟩ | ny
            · refine .inl ⟨d, ds, rfl, .inr (.inr ⟨as.map V.ref, .inl (m2 _ _ hld), by rw [List.length_map, al]⟩), _, rfl, ?_⟩
              rw [decide_eq_false nd]
              exact iteT ⟨_, rfl, bad_reads B2.ec.ox B2.ec.noN out⟩
            · exact .inr ⟨NoStr.sm ny m2, _, rfl, iteT ⟨_, rfl, bad_reads B2.ec.ox B2.ec.noN out⟩⟩
      · obtain ⟨il, v3, v4, rfl, hin, mm⟩ := p
        rcases h with ⟨e3, q⟩ | ⟨y, _, e3, _⟩
        · have ln : xs.length = row.length := by rw [e3, List.length_map]
          rw [ln, List.take_length] at hin
          rw [ln, List.take_length]
          exact ⟨_, rfl, q G mm hin⟩
        · have := (List.getElem?_eq_some_iff.mp e3).1
          omega
end
end Dk
set_option Elab.async false
set_option linter.all false
set_option maxRecDepth 100000
set_option maxHeartbeats 4000000
namespace Dk
open PySem PySem.Spec PyProof.Rows L2 Er
/-! ### several clauses, each with a name of its own -/
/-- how a suite ends whose name is gone behind it -/
def endsAs (D : Ends) (i : Nat) : Ends := { nx := fun σ G => D.nx (σ.set i none) G, rt := D.rt, bk := fun σ G => D.bk (σ.set i none) G, ct := fun σ G => D.ct (σ.set i none) G }
abbrev Cl : Type := Value × Nat × (Addr → Value → Option Addr → TS)
/-- what the clauses wish of what a body raises -/
def wClauses (K : PySem.W.Frag) (Wout : WX) (D : Ends) : List Cl → WX
  | [] => Wout
  | q :: r => fun kl d σ G => ∃ b, PySem.W.exmOne K kl q.1 = some b ∧ (b = true → ∀ x, G x = none → q.2.2 x kl d (endsAs D q.2.1) (σ.set q.2.1 (some (.ref x))) G) ∧ (b = false → wClauses K Wout D r kl d σ G)
inductive Clauses (X : Cx) : List ExceptHandler → List Cl → Prop
  | nil : Clauses X [] []
  | cons {x n : Str} {c : Value} {i : Nat} {ts : Addr → Value → Option Addr → TS} {b0 : Stmt} {su : List Stmt} {p1 p2 : Pos} {hs : List ExceptHandler} {l : List Cl} (hc : Names X x c) (hi : X.N[i]? = some n) (hn : X.env.kindOf n = some .local)
      (hsu : ∀ (xa : Addr) (ob : Obj) (kl : Value) (d : Option Addr) (pn : List (Addr × Obj)), Zc kl d ob → (∃ vs, ob.data = .fields vs) → PSs (X.suite xa ((xa, ob) :: pn)) (b0 :: su) (ts xa kl d)) (r : Clauses X hs l) :
      Clauses X (.ExceptHandler (some (.Name x p1)) (some n) (b0 :: su) p2 :: hs) ((c, i, ts) :: l)
section
variable {X : Cx} {body : List Stmt} {h0 : ExceptHandler} {hs : List ExceptHandler} {l : List Cl} {pos : Pos} {tb : WX → TS} {Wout : WX}
theorem ps_try_clauses (st : X.stack = X.env :: X.outer) (fr : X.env.frame = some X.env.locals) (nd : X.N.Nodup) (tk : Takes X Wout)
    (hb : ∀ (W : WX) (pn : List (Addr × Obj)) (xe : Value → Shared → Prop), Takes (X.tr pn xe) W → PassesOwn (model X.prog X.w) X.A X.env xe → PSs (X.tr pn xe) body (tb W))
    (hh : Clauses X (h0 :: hs) l) : PS X (.Try body (h0 :: hs) [] [] pos) (fun D σ G => tb (wClauses X.K Wout D l) D σ G) := by
  refine ⟨fun ps sh sg G D I h => ?_⟩
  have ok := I.ok
  have frs0 : X.A.frames = some (X.env :: X.outer) := ok.frames.trans (congrArg some st)
  refine wpAny_Try_except (wpAny_mono ((hb (wClauses X.K Wout D l) (X.pn ++ ps) (fun e z1 => wpAny (model X.prog X.w) X.A (noteFrame e X.env) (fun _ z2 => wpAny (model X.prog X.w) X.A (setFlight e none) (fun _ z3 =>
    wpAny (model X.prog X.w) X.A (handleBy e X.env (h0 :: hs)) (SP X ps D) X.xe z3) X.xe z2) X.xe z1) (fun u s2 xx => ?_) PassesOwn.looking).run [] sh sg G D (I.toTry _) h) (fun fl s2 hsp => ?_) (fun _ _ z => z))
  · obtain ⟨xa, Bs, si, ps2, s3, G3, kl, d, rfl, Jt, nb, ups, sky, na, eos, ags, w⟩ := xx
    have Ja : Inv X ps s3 G3 si := Jt.ofTry ok
    have sky2 : Sky Bs (X.env :: X.outer) xa (Zc kl d) X.env.locals s2.heap := st ▸ sky
    show wpAny (model X.prog X.w) X.A (noteFrame (.ref xa) X.env) _ _ _
    refine Sky.land Zc.steady frs0 fr sky2 fun g1 f1 u1 => ?_
    have J1 : Inv X ps s3 G3 { s2 with heap := g1 } := Ja.landed nb f1.1 (ups.trans u1) eos ags
    obtain ⟨ob1, vs1, at1, zc1, fd1⟩ := f1.there
    -- the exception is no frame of those that run
    have out : xa ∉ frs (X.env :: X.outer) := fun hm => by
      obtain ⟨_, ob2, at2, no2⟩ := f1.2.2.1.mem hm
      exact no2 _ ((Option.some.inj (at1.symm.trans at2)) ▸ fd1)
    have out1 : xa ≠ X.env.locals := fun z => out (List.mem_filterMap.mpr ⟨_, List.mem_cons_self, fr.trans (congrArg some z.symm)⟩)
    have out2 : xa ∉ X.fs := fun hm => by
      obtain ⟨en, hen, q⟩ := List.mem_filterMap.mp hm
      exact out (List.mem_filterMap.mpr ⟨en, List.mem_cons_of_mem _ hen, q⟩)
    have S1 := J1.suite at1 fd1 na out1 out2
    have lk : PySem.W.Looks (model X.prog X.w) g1 (typeOf (.ref xa)) kl := fun _ _ _ _ kk q => wpAny_typeOf_ref (kk _ _ at1) (zc1.1 ▸ q)
    have all : ∀ {hs2 : List ExceptHandler} {l2 : List Cl}, Clauses X hs2 l2 → wClauses X.K Wout D l2 kl d s3 G3 → wpAny (model X.prog X.w) X.A (handleBy (.ref xa) X.env hs2) (SP X ps D) X.xe { s2 with heap := g1 } := by
      intro hs2 l2 hk
      induction hk with
      | nil =>
        intro w
        obtain ⟨_, _, _, ob2, vs2, Tr, _, _, e2, _, d2, v2, _⟩ := id f1
        refine wpAny_handleBy_nil ?_
        unfold PySem.passOn
        refine wpAny_bind (wpAny_field e2 d2 v2 ?_)
        rw [if_neg (by simp)]
        have last : wpAny (model X.prog X.w) X.A (setFlight (.ref xa) X.env.frame) (fun _ z => wpAny (model X.prog X.w) X.A (throw (.ref xa) : Sem Flow) (SP X ps D) X.xe z) X.xe { s2 with heap := g1 } := by
          rw [fr]
          exact HandSPX.setFlight_upZ f1 fun g2 f2 u2 => wpAny_throw (tk _ _ ⟨xa, Bs, si, ps, s3, G3, kl, d, rfl, Ja, nb, (ups.trans u1).trans u2, .inr (.inr (by rw [st]; exact f2)), na, eos, ags, w⟩)
        first
          | exact wpAny_bind (wpAny_pure (wpAny_bind last))
          | exact wpAny_bind last
      | @cons x n c i ts b0 su p1 p2 hs3 l3 hc hi hn hsu r ih =>
        rintro ⟨b, e, yes, no⟩
        have named : ∀ {Q : Value → Shared → Prop} {E : Value → Shared → Prop}, Q c { s2 with heap := g1 } → wpAny (model X.prog X.w) (X.A.mark (some (.ref xa))) (eval (.Name x p1) X.env) Q E { s2 with heap := g1 } := fun {Q E} q => by
          obtain ⟨gl, db, gm | ⟨gm, bv, ne⟩⟩ := hc
          · exact ld_glob (X := X.suite xa ((xa, ob1) :: (X.pn ++ ps))) S1 gl gm q db
          · exact ld_blt (X := X.suite xa ((xa, ob1) :: (X.pn ++ ps))) S1 gl gm bv q ne db
        refine wpAny_handleBy_cons (codeAny_handlers_test (named ((PySem.W.exm_one (M := model X.prog X.w) J1.kIn lk e).here ?_))) (fun z => nomatch z)
        cases b with
        | false => exact ih (no rfl)
        | true =>
          refine codeAny_handlers_suite_as (HandSPX.lands_againZ f1 fun g2 f2 u2 => ?_)
          obtain ⟨ob2, vs2, at2, zc2, fd2⟩ := f2.there
          have J2 : Inv X ps s3 G3 { s2 with heap := g2 } := Ja.landed nb f2.1 ((ups.trans u1).trans u2) eos ags
          refine store_ok (X := X.suite xa ((xa, ob2) :: (X.pn ++ ps))) (v := .ref xa) (J2.suite at2 fd2 na out1 out2) nd hi (.inl hn) rfl (fun s5 S5 => ?_) (.inr hn)
          refine wpAny_mono ((hsu xa ob2 kl d (X.pn ++ ps) zc2 ⟨_, fd2⟩).run [] s5 _ G3 _ S5 (yes rfl xa na)) (fun fl s6 q => ?_) fun _ _ z => z.elim
          have gone : ∀ {sg6 : L2.St} {G6 : Hp} {Q : Shared → Prop}, Inv (X.suite xa ((xa, ob2) :: (X.pn ++ ps))) [] sg6 G6 s6 → (∀ s7, Inv X ps (sg6.set i none) G6 s7 → Q s7) → wpAny (model X.prog X.w) X.A (do bindName X.env n .none; unbindBehindTheSuite X.env n p2) (fun _ s7 => Q s7) X.xe s6 :=
            fun I6 k => gone_ok (I6.unsuite ok) nd hi hn k
          match fl, q with
          | .next, ⟨_, _, I6, q6⟩ => exact gone I6 fun _ I7 => ⟨_, _, I7, q6⟩
          | .brk, ⟨_, _, I6, q6⟩ => exact gone I6 fun _ I7 => ⟨_, _, I7, q6⟩
          | .cont, ⟨_, _, I6, q6⟩ => exact gone I6 fun _ I7 => ⟨_, _, I7, q6⟩
          | .ret _, ⟨_, _, _, I6, r6, q6⟩ => exact gone I6 fun _ I7 => ⟨_, _, _, I7, r6, q6⟩
    exact all hh w
  · match fl, hsp with
    | .next, ⟨_, _, I6, q6⟩ => exact wpAny_execs_nil ⟨_, _, I6.ofTry ok, q6⟩
    | .brk, ⟨_, _, I6, q6⟩ => exact ⟨_, _, I6.ofTry ok, q6⟩
    | .cont, ⟨_, _, I6, q6⟩ => exact ⟨_, _, I6.ofTry ok, q6⟩
    | .ret _, ⟨_, _, _, I6, r6, q6⟩ => exact ⟨_, _, _, I6.ofTry ok, r6, q6⟩
end
end Dk
set_option Elab.async false
set_option linter.all false
set_option maxRecDepth 100000
set_option maxHeartbeats 4000000
namespace Dk
open PySem PySem.Spec PyProof.Rows L2 Er
open PySem.ErK (EC)
/-! ### o.m(..) under a try; _law_saw, _law_told -/
def tMethT (C : Addr) (m : Str) (sp : Sp) (E : L2.St → XK) (ta : TE) (t : TA) : TE := fun σ H Q => ta σ H fun y H1 => ∃ o dx fs, y = .ref o ∧ H1 o = some (.ins C dx fs) ∧ fs.lookup m = none ∧ t σ H1 fun vs H2 => sp (y :: (vs ++ [])) H2 Q (E σ)
theorem pe_methT {X : Cx} {CX : CXT} {k : Nat} {f C : Addr} {fd : FuncData} {ps : List Str} {sp : Sp} {E : L2.St → XK} {m : Str} {pos apos : Pos} {o e : Expr} {es : List Expr} {ta : TE} {t : TA} {pl : Sem Bool} (ho : PE X o ta) (c : Cls X.K C) (hm : Meth X.K C m f) (F : FnOk X.prog X.w X.K X.mg X.base CX k f fd ps sp)
    (hr : Room k X.A) (hb : Binds X.K fd ps []) (hx : ∀ σ, PassesAt CX X σ (E σ)) (ha : PA X (e :: es) t) (hst : starEach (e :: es) X.env = (false, eval e X.env) :: starEach es X.env := by rfl) (hpl : (backTo pos (starEach es X.env)).any (·.1) = false := by rfl)
    (ht : eval (.Call (.Attribute o m apos) (e :: es) [] pos) X.env = (do let ov ← eval o X.env; standAt apos.atName; let (g, first) ← holding [ov] (getMethod ov m pl); callWith pos g first (backTo pos (starEach (e :: es) X.env)) (backToKw pos (keywordEach [] X.env))) := by rfl) :
    PE X (.Call (.Attribute o m apos) (e :: es) [] pos) (tMethT C m sp E ta t) := by
  refine ⟨fun ps sh σ H Q I h => ?_⟩
  refine PySem.W.methodCall_KW (pl := pl) (thn (ho.run ps sh σ H _ I h) fun u s1 ⟨y, H1, I1, ry, a, dx, fs, ey, ea, l, q⟩ => ?_) ht
  subst ey
  obtain rfl : u = Value.ref a := ry
  refine getmeth_ok I1 ea c hm l (PySem.W.callWith_K (first := [.ref a]) (h₀ := X.base) I.ok.mod.kin hm.kp (thn (ha.run pos ps s1 σ H1 _ I1 q) fun us s2 ⟨vs, H2, I2, r, q2⟩ => ⟨I2.kIn, ?_⟩) hst hpl)
  exact run_fnSD (dvs := []) (us := .ref a :: us) (vs := .ref a :: vs) F hr hb .nil (hx σ) I2 (.cons rfl r) q2
/-- what a list of two tells -/
def Pair2 (H : Hp) (p : Addr) (x : Str) (y : V) : Prop := H p = some (.lst [.str x, y])
theorem takesN {X : Cx} : Takes X (fun _ _ _ _ => False) := fun _ _ ⟨_, _, _, _, _, _, _, _, _, _, _, _, _, _, _, _, w⟩ => w.elim
section
variable {P : Program} {w : World} {K : PySem.W.Frag} {mg : Str → Option Value} {base : Heap} {f fI fJ fS fL C CS CR : Addr} {fd dI dJ dS dL : FuncData}
theorem bSight (F : FunD K "sight" "Desk.sight" (defArgs (meth 5)) (defBody (meth 5)) (defScope (meth 5)) [] [] f fd) : Binds K fd nSight [] := F.bindsN fun _ _ _ _ _ _ us hl => match us, hl with
  | [_, _], _ => rfl
theorem bLead (F : FunD K "lead" "Desk.lead" (defArgs (meth 4)) (defBody (meth 4)) (defScope (meth 4)) [] [] f fd) : Binds K fd ["self", "standing", "row"] [] := F.bindsN fun _ _ _ _ _ _ us hl => match us, hl with
  | [_, _, _], _ => rfl
end
end Dk
set_option Elab.async false
set_option linter.all false
set_option maxRecDepth 100000
set_option maxHeartbeats 4000000
namespace Dk
open PySem PySem.Spec PyProof.Rows L2 Er
/-! ### == of dicts, whichever the answer -/
def sameF (F : V → V → Bool) (ks ls : List (Key × V)) : Bool := decide (ks.length = ls.length) && ks.all fun p => match valV ls p.1 with
  | none => false
  | some u => F p.2 u
theorem valV_in {ls : List (Key × V)} {k : Key} {u : V} (e : valV ls k = some u) : ∃ p ∈ ls, p.2 = u := by
  unfold valV at e
  cases h : ls.find? fun kv => decide (kv.1 = k) with
  | none =>
    rw [h] at e
    cases e
  | some p =>
    rw [h] at e
    exact ⟨p, List.mem_of_find?_eq_some h, Option.some.inj e⟩
theorem hits_P {P : Program} {w : World} {A : Around} {s : Shared} {F : V → V → Bool} {ls : List (Key × V)} {vb : List (Key × Value)} (rb : KV ls vb) : ∀ {ks : List (Key × V)} {va : List (Key × Value)}, KV ks va →
    (∀ p ∈ ks, ∀ u, valV ls p.1 = some u → ∀ y z, RelV p.2 y → RelV u z → SeqAt.EqP P w A s y z (F p.2 u)) → PySem.W.KeqHitsP P w A s vb va (ks.all fun p => match valV ls p.1 with
      | none => false
      | some u => F p.2 u)
  | [], _, ra, _ => by
    cases ra
    exact .nil
  | p :: ks, _, ra, ih => by
    cases ra with
    | @cons _ q _ qs h t =>
      obtain ⟨h1, h2⟩ := h
      obtain ⟨key, y⟩ := q
      have h1 : p.1 = key := h1
      subst h1
      have rest := hits_P (P := P) (w := w) (A := A) (s := s) (F := F) rb t fun p' hm => ih p' (List.mem_cons_of_mem _ hm)
      have rv := rb.val p.1
      rw [List.all_cons]
      cases e : valV ls p.1 with
      | none =>
        rw [e] at rv
        cases g : valueAt vb p.1 with
        | none => exact .miss g
        | some z =>
          rw [g] at rv
          exact rv.elim
      | some u =>
        rw [e] at rv
        cases g : valueAt vb p.1 with
        | none =>
          rw [g] at rv
          exact rv.elim
        | some z =>
          rw [g] at rv
          exact .hit g (ih p List.mem_cons_self u e y z h2 rv) rest
theorem hits_F {A : Around} {s : Shared} {ls : List (Key × V)} {vb : List (Key × Value)} (rb : KV ls vb) (fl : ∀ p ∈ ls, flatV p.2 = true) : ∀ {ks : List (Key × V)} {va : List (Key × Value)}, KV ks va → (∀ p ∈ ks, flatV p.2 = true) →
    PySem.W.KeqHits A s vb va (ks.all fun p => match valV ls p.1 with
      | none => false
      | some u => eqV p.2 u)
  | [], _, ra, _ => by
    cases ra
    exact .nil
  | p :: ks, _, ra, fk => by
    cases ra with
    | @cons _ q _ qs h t =>
      obtain ⟨h1, h2⟩ := h
      obtain ⟨key, y⟩ := q
      have h1 : p.1 = key := h1
      subst h1
      have rest := hits_F (A := A) (s := s) rb fl t fun p' hm => fk p' (List.mem_cons_of_mem _ hm)
      have rv := rb.val p.1
      rw [List.all_cons]
      cases e : valV ls p.1 with
      | none =>
        rw [e] at rv
        cases g : valueAt vb p.1 with
        | none => exact .miss g
        | some z =>
          rw [g] at rv
          exact rv.elim
      | some u =>
        rw [e] at rv
        obtain ⟨pu, hpu, rfl⟩ := valV_in e
        cases g : valueAt vb p.1 with
        | none =>
          rw [g] at rv
          exact rv.elim
        | some z =>
          rw [g] at rv
          exact .hit g (eqAt_V h2 rv (fk p List.mem_cons_self) (fl pu hpu)) rest
section
variable {X : Cx}
/-- a != b, two dicts of flat values -/
def rNeF : R2 := fun x y H Q => ∃ a b ks ls, x = .ref a ∧ y = .ref b ∧ H a = some (.dK ks) ∧ H b = some (.dK ls) ∧ (∀ p ∈ ks, flatV p.2 = true) ∧ (∀ p ∈ ls, flatV p.2 = true) ∧ Q (.bl (!sameF eqV ks ls)) H
theorem op_neF (hu : X.A.units + 1 < cLine) : OpR X (compareOp .NotEq) rNeF := by
  intro ps s σ H x y v u Q I rx ry h
  obtain ⟨a, b, ks, ls, rfl, rfl, ea, eb, fk, fl, q⟩ := h
  obtain rfl : v = Value.ref a := rx
  obtain rfl : u = Value.ref b := ry
  obtain ⟨_, ya, va, ra, da⟩ := (show ObjOk X.prog X.w H s.heap a (.dK ks) from I.hok a _ ea)
  obtain ⟨_, yb, vb, rb, db⟩ := (show ObjOk X.prog X.w H s.heap b (.dK ls) from I.hok b _ eb)
  refine PySem.W.keq_ne (knd := mixKind X.prog X.w) ya yb da db (by omega) (fun _ => hits_F rb fl ra fk) (fin_bl I q ?_)
  unfold sameF
  rw [ra.length, rb.length]
  rfl
/-- how the parts of two dicts of dicts compare -/
def sub (T : Addr → List (Key × V)) : V → V → Bool
  | .ref c, .ref d => if c = d then true else sameF eqV (T c) (T d)
  | _, _ => false
/-- a == b, two dicts of dicts of flat values -/
def rEqN : R2 := fun x y H Q => ∃ (a b : Addr) (ks ls : List (Key × V)) (T : Addr → List (Key × V)), x = .ref a ∧ y = .ref b ∧ H a = some (.dK ks) ∧ H b = some (.dK ls) ∧
  (∀ p ∈ ks, ∃ c, p.2 = .ref c ∧ H c = some (.dK (T c)) ∧ ∀ q ∈ T c, flatV q.2 = true) ∧ (∀ p ∈ ls, ∃ c, p.2 = .ref c ∧ H c = some (.dK (T c)) ∧ ∀ q ∈ T c, flatV q.2 = true) ∧ Q (.bl (sameF (sub T) ks ls)) H
theorem op_eqN (hu : X.A.units + 1 < cLine) : OpR X (compareOp .Eq) rEqN := by
  intro ps s σ H x y v u Q I rx ry h
  obtain ⟨a, b, ks, ls, T, rfl, rfl, ea, eb, fk, fl, q⟩ := h
  obtain rfl : v = Value.ref a := rx
  obtain rfl : u = Value.ref b := ry
  obtain ⟨_, ya, va, ra, da⟩ := (show ObjOk X.prog X.w H s.heap a (.dK ks) from I.hok a _ ea)
  obtain ⟨_, yb, vb, rb, db⟩ := (show ObjOk X.prog X.w H s.heap b (.dK ls) from I.hok b _ eb)
  have part : ∀ p ∈ ks, ∀ u, valV ls p.1 = some u → ∀ y z, RelV p.2 y → RelV u z → SeqAt.EqP X.prog X.w X.A.in1 s y z (sub T p.2 u) := fun p hp u e y z ry rz => by
    obtain ⟨pu, hpu, rfl⟩ := valV_in e
    obtain ⟨c, ec, hc, fc⟩ := fk p hp
    obtain ⟨d, ed, hd, fd⟩ := fl pu hpu
    rw [ec] at ry ⊢
    rw [ed] at rz ⊢
    obtain rfl : y = Value.ref c := ry
    obtain rfl : z = Value.ref d := rz
    show SeqAt.EqP X.prog X.w X.A.in1 s (.ref c) (.ref d) (if c = d then true else sameF eqV (T c) (T d))
    by_cases g : c = d
    · subst g
      rw [if_pos rfl]
      exact (SeqAt.EqAt.same _).eqP
    · rw [if_neg g]
      obtain ⟨_, yc, vc, rc, dc⟩ := (show ObjOk X.prog X.w H s.heap c (.dK (T c)) from I.hok c _ hc)
      obtain ⟨_, yd, vd, rd, dd⟩ := (show ObjOk X.prog X.w H s.heap d (.dK (T d)) from I.hok d _ hd)
      refine SeqAt.eqP_refs g fun E Q2 q2 => PySem.W.keq_eq (knd := mixKind X.prog X.w) yc yd dc dd (show X.A.in1.units < cLine from hu) (fun _ => hits_F rd fd rc fc) ?_
      unfold sameF at q2
      rw [rc.length, rd.length] at q2
      exact q2
  refine PySem.W.rcP_dicts (knd := mixKind X.prog X.w) ya yb da db (by omega) (fun _ => hits_P rb ra part) _ _ ?_
  refine fin_bl I q ?_
  unfold sameF
  rw [ra.length, rb.length]
  rfl
end
end Dk
set_option Elab.async false
set_option linter.all false
set_option maxRecDepth 100000
set_option maxHeartbeats 4000000
namespace Dk
open PySem PySem.Spec PyProof.Rows L2 Er
/-! ### tuple(x), x a dict -/
section
variable {prog : Program} {w : World} {A : Around} {E : Value → Shared → Prop} {s : Shared} {T : String} {r d : Addr} {n : Nat} {P : Nat → Value → Prop} {OK : Heap → Prop}
theorem gather_src {Q : List Value → Shared → Prop} (K : PySem.W.KdlSrc prog w T r d n P OK) (hh : A.handled = none) (ok : OK s.heap) (hn : n ≤ sizeLine)
    (fin : ∀ (g : Heap) (tk : Nat) (acc : Array Value), (∀ b o, s.heap.get? b = some o → g.get? b = some o) → ItemsOf P acc n → Q acc.toList { s with heap := g, toks := tk }) : wpAny (model prog w) A (collect (.ref r)) Q E s := by
  have lt := K.there _ ok
  have new : (s.heap.push { cls := .type "list", data := .seq ([] : List Value).toArray }).get? s.heap.objs.size = some { cls := .type "list", data := .seq #[] 0 } := Heap.get?_push_size _ rfl
  unfold collect
  refine wpAny_bind (wpAny_runValue (codeAny_builtin F.entry_proto_collect ?_))
  rw [Around.under_plainId F.plain_proto_collect _]
  show wpAny _ A.in1 (newList [] >>= fun z => again (.builtin "list.__iadd__" ⟨[z, .ref r], []⟩)) _ _ s
  refine wpAny_bind (wpAny_newObj_type (wpAny_pure ⟨plainId_quiet F.plain_list_iadd _, codeAny_builtin F.entry_list_iadd ?_⟩))
  rw [Around.under_plainId F.plain_list_iadd _]
  show wpAny _ A.in1 (Builtin.List.listExtendWith (.ref s.heap.objs.size) (.ref r) (.ref s.heap.objs.size)) _ _ _
  refine wpAny_mono (PySem.W.kdl_extend (A := A) (R := fun rr s2 => rr = .ok (.ret (.ref s.heap.objs.size)) ∧ ∃ (g : Heap) (tk : Nat) (acc : Array Value) (c2 : Nat), s2 = { s with heap := g, toks := tk } ∧ (∀ b o, s.heap.get? b = some o → g.get? b = some o) ∧
      g.get? s.heap.objs.size = some { cls := .type "list", dict := none, data := .seq acc c2, slots := #[] } ∧ ItemsOf P acc n)
    (s := { s with heap := s.heap.push { cls := .type "list", data := .seq ([] : List Value).toArray } }) K hh (K.keep _ _ ok fun b _ o e => Heap.get?_push_of_some _ e) _ (Nat.ne_of_gt lt.1) (Nat.ne_of_gt lt.2) _ 0 new
    (fun g tk acc c2 k e i => ⟨rfl, g, tk, acc, c2, rfl, fun b o q => k b o (Nat.ne_of_lt (Heap.lt_size q)) (Heap.get?_push_of_some _ q), e, i⟩) hn) (fun f s2 h => ?_) (fun e s2 h => absurd h.1 (by simp))
  cases f with
  | done f =>
    obtain ⟨ef, g, tk, acc, c2, rfl, k, e, i⟩ := h
    cases ef
    show wpAny _ A (load s.heap.objs.size >>= _) _ _ _
    exact wpAny_bind (wpAny_load e (wpAny_pure (fin g tk acc k i)))
  | again c1 =>
    refine ⟨h.1, codeAny_mono h.2 fun rr s3 q => ?_⟩
    obtain ⟨rfl, g, tk, acc, c2, rfl, k, e, i⟩ := q
    show wpAny _ A (load s.heap.objs.size >>= _) _ _ _
    exact wpAny_bind (wpAny_load e (wpAny_pure (fin g tk acc k i)))
theorem code_tup_src {Q1 : Value → Shared → Prop} (K : PySem.W.KdlSrc prog w T r d n P OK) (hh : A.handled = none) (ok : OK s.heap) (hn : n ≤ sizeLine) (nt : (Value.type T == Value.type "tuple") = false)
    (fin : ∀ (g : Heap) (tk : Nat) (acc : Array Value), (∀ b o, s.heap.get? b = some o → g.get? b = some o) → ItemsOf P acc n → Q1 (.ref g.objs.size) { s with heap := g.push { cls := .type "tuple", data := .seq acc }, toks := tk }) :
    codeAny (model prog w) A (.call (.builtin "tuple.__new__") ⟨[.type "tuple", .ref r], []⟩) (wants Q1 E) s := by
  refine codeAny_of_tree ?_
  show wpAny _ A.in1 (do checkBuiltinCall "tuple.__new__" ⟨[.type "tuple", .ref r], []⟩; again (.builtin "tuple.__new__" ⟨[.type "tuple", .ref r], []⟩)) _ _ s
  refine wpAny_bind (wpAny_of_eq (F.newCall_tuple_1 _) (wpAny_pure ⟨plainId_quiet F.plain_tuple_new _, codeAny_builtin F.entry_tuple_new ?_⟩))
  rw [Around.under_plainId F.plain_tuple_new _]
  have h1 := sub_tuple_self
  have h2 := init_tuple_lookup
  have h3 := madeHere_tuple
  have h4 := K.type _ ok
  have h5 : A.in1.handled = none := hh
  wp_walk using wpAny_typeOf h4, gather_src (A := A.in1) K h5 ok hn
  intro g tk acc k i
  show wpAny _ _ (Builtin.Tuple.tupleExact acc.toList.toArray >>= fun v => ret v) _ _ _
  unfold Builtin.Tuple.tupleExact
  refine wpAny_bind (wpAny_newObj_type ?_ (by show acc.toList.toArray.size ≤ sizeLine; simp only [Array.toArray_toList]; rw [i.1]; exact hn))
  refine wpAny_pure ?_
  rw [show acc.toList.toArray = acc from by simp]
  exact fin g tk acc k i
end
def rTupD : List V → Hp → VK → Prop := fun xs H Q => ∃ p kvs, xs = [.ref p] ∧ H p = some (.dK kvs) ∧ ∀ q, H q = none → Q (.ref q) (upd H q (.tup (kvs.map fun kv => kV kv.1)))
theorem call_tup_dK {X : Cx} (hc : X.calm = true) : CallR X (.type "tuple") rTupD := by
  intro ps s σ H xs us Q I r h
  obtain ⟨p, kvs, rfl, hk, q⟩ := h
  obtain ⟨u, rfl, rx⟩ := vals1 r
  obtain rfl : u = Value.ref p := rx
  obtain ⟨z, lo, vs, rk, hd⟩ := (show ObjOk X.prog X.w H s.heap p (.dK kvs) from I.hok p _ hk)
  obtain ⟨ep, at_⟩ := hd.dictAt
  have hl : kvs.length = vs.length := Paired.length rk
  refine callType_codes (Q₁ := fun obj s1 => s1.TypeIs obj "tuple" ∧ EP X ps σ Q obj s1) F.called_tuple (F.typeCall_tuple_1 _) F.entry_object_init
    (code_tup_src (A := X.A.in1) (PySem.W.kdl_dict (knd := mixKind X.prog X.w) (kvs := vs) (ep := ep) lo) (I.ok.hd hc) at_ (by rw [← hl]; exact z) (by decide) fun g tk acc k i => ⟨⟨_, Heap.get?_push_size _ rfl, rfl⟩, ?_⟩) fun obj s1 h1 => ?_
  · have I1 : Inv X ps σ H { s with heap := g, toks := tk } := I.kept k
    refine ⟨.ref g.objs.size, upd H g.objs.size (.tup (kvs.map fun kv => kV kv.1)), I1.laid (t' := tk) (fun c o e => Heap.get?_push_of_some _ e) (Nat.le_refl _) (show ObjOk X.prog X.w _ _ _ (.tup (kvs.map fun kv => kV kv.1)) from ⟨?_, acc.toList, ?_, ?_⟩), rfl, q _ (I1.hok.fresh (Nat.le_refl _))⟩
    · rw [List.length_map]
      exact z
    · have el : acc.toList.length = acc.size := by simp
      refine vals_of_at (by rw [List.length_map, el, i.1, hl]) fun j x w e1 e2 => ?_
      obtain ⟨ky, y, hky, hi⟩ := i.2 j w (by rw [← Array.getElem?_toList]; exact e2)
      have g1 : (kvs.map (·.1))[j]? = some ky := by
        rw [KV.keys rk, List.getElem?_map, hky]
        rfl
      have g2 : (kvs.map fun kv => kV kv.1)[j]? = some (kV ky) := by
        rw [show (kvs.map fun kv => kV kv.1) = (kvs.map (·.1)).map kV from by rw [List.map_map]; rfl, List.getElem?_map, g1]
        rfl
      rw [g2] at e1
      cases Option.some.inj e1
      exact keyIs_rel hi
    · rw [Array.toArray_toList]
      exact IsTup.new _ _
  · exact ⟨h1.1, F.args_object_init_2 obj _, object_init_meets F.called_tuple.init.lookup F.called_tuple.made (by decide) X.prog X.w X.A.in1 _ s1 ⟨h1.1, rfl, h1.2⟩⟩
end Dk
set_option Elab.async false
set_option linter.all false
set_option maxRecDepth 100000
set_option maxHeartbeats 4000000
namespace Dk
open PySem PySem.Spec PyProof.Rows L2 Er
/-! ### Desk.__eq__ -/
theorem same_iff {F : V → V → Bool} {ws : List Str} {us vs : List V} (nd : ws.Nodup) (h1 : us.length = ws.length) (h2 : vs.length = ws.length) : sameF F (dkv ws us) (dkv ws vs) = true ↔ ∀ (j : Nat) (u v : V), us[j]? = some u → vs[j]? = some v → F u v = true := by
  have knd : ((dkv ws vs).map (·.1)).Nodup := by
    rw [dkv_keys h2.symm]
    exact List.Pairwise.map _ (fun a b n z => n (Sum.inr.inj z)) nd
  unfold sameF
  rw [dkv_len h1, dkv_len h2, decide_eq_true rfl, Bool.true_and, List.all_eq_true]
  constructor
  · intro h j u v e1 e2
    have jl : j < ws.length := by
      have := (List.getElem?_eq_some_iff.mp e1).1
      omega
    have ew : (ws.map Sum.inr : List Key)[j]? = some (.inr (ws[j]'jl)) := by
      rw [List.getElem?_map, List.getElem?_eq_getElem jl]
      rfl
    have m1 : (dkv ws us)[j]? = some (.inr (ws[j]'jl), u) := List.getElem?_zip_eq_some.mpr ⟨ew, e1⟩
    have m2 : (dkv ws vs)[j]? = some (.inr (ws[j]'jl), v) := List.getElem?_zip_eq_some.mpr ⟨ew, e2⟩
    have q := h _ (List.mem_of_getElem? m1)
    rw [valV_of knd m2] at q
    exact q
  · intro h p hp
    obtain ⟨j, hj⟩ := List.mem_iff_getElem?.mp hp
    obtain ⟨k, u⟩ := p
    obtain ⟨z, ez, rfl, eu⟩ := dkv_at hj
    have jl : j < vs.length := by
      have := (List.getElem?_eq_some_iff.mp ez).1
      omega
    have m2 : (dkv ws vs)[j]? = some (.inr z, vs[j]'jl) := List.getElem?_zip_eq_some.mpr ⟨by rw [List.getElem?_map, ez]; rfl, List.getElem?_eq_getElem jl⟩
    rw [valV_of knd m2]
    exact h j u _ eu (List.getElem?_eq_getElem jl)
theorem same_strs {ws ls ms : List Str} (nd : ws.Nodup) (h1 : ls.length = ws.length) (h2 : ms.length = ws.length) : sameF eqV (dkv ws (ls.map V.str)) (dkv ws (ms.map V.str)) = decide (ls = ms) := by
  rw [Bool.eq_iff_iff, decide_eq_true_iff, same_iff nd (by rw [List.length_map, h1]) (by rw [List.length_map, h2])]
  constructor
  · intro h
    refine List.ext_getElem (by omega) fun j j1 j2 => ?_
    have q := h j (.str (ls[j]'j1)) (.str (ms[j]'j2)) (by rw [List.getElem?_map, List.getElem?_eq_getElem j1]; rfl) (by rw [List.getElem?_map, List.getElem?_eq_getElem j2]; rfl)
    exact beq_iff_eq.mp q
  · rintro rfl j u v e1 e2
    rw [e1] at e2
    cases e2
    rw [List.getElem?_map] at e1
    cases g : ls[j]? with
    | none =>
      rw [g] at e1
      cases e1
    | some z =>
      rw [g] at e1
      cases e1
      exact beq_self_eq_true z
/-- the dict at an address -/
def dictAt (H : Hp) (a : Addr) : List (Key × V) := match H a with
  | some (.dK t) => t
  | _ => []
theorem dictAt_of {H : Hp} {a : Addr} {t : List (Key × V)} (e : H a = some (.dK t)) : dictAt H a = t := by
  unfold dictAt
  rw [e]
theorem same_tabs {H : Hp} {ws ds : List Str} {as bs : List Addr} {tb tc : List (List Str)} (nd : ws.Nodup) (dnd : ds.Nodup) (h1 : tb.length = ds.length) (h2 : tc.length = ds.length) (r1 : ∀ vs ∈ tb, vs.length = ws.length) (r2 : ∀ vs ∈ tc, vs.length = ws.length)
    (p1 : Paired (fun a vs => H a = some (.dK (dkv ws (vs.map V.str)))) as tb) (p2 : Paired (fun a vs => H a = some (.dK (dkv ws (vs.map V.str)))) bs tc) : sameF (sub (dictAt H)) (dkv ds (as.map V.ref)) (dkv ds (bs.map V.ref)) = decide (tb = tc) := by
  have l1 := paired_len p1
  have l2 := paired_len p2
  have step : ∀ (c d : Addr) (vs us : List Str), vs.length = ws.length → us.length = ws.length → H c = some (.dK (dkv ws (vs.map V.str))) → H d = some (.dK (dkv ws (us.map V.str))) → sub (dictAt H) (.ref c) (.ref d) = decide (vs = us) := fun c d vs us e1 e2 e3 e4 => by
    show (if c = d then true else sameF eqV (dictAt H c) (dictAt H d)) = _
    by_cases g : c = d
    · subst g
      rw [e3] at e4
      have e5 := HO.dK.inj (Option.some.inj e4)
      have e6 := same_strs nd e1 e2
      rw [← e5, same_strs nd e1 e1, decide_eq_true rfl] at e6
      rw [if_pos rfl]
      exact e6
    · rw [if_neg g, dictAt_of e3, dictAt_of e4, same_strs nd e1 e2]
  rw [Bool.eq_iff_iff, decide_eq_true_iff, same_iff dnd (by rw [List.length_map, l1, h1]) (by rw [List.length_map, l2, h2])]
  constructor
  · intro h
    refine List.ext_getElem (by omega) fun j j1 j2 => ?_
    have ja : j < as.length := by omega
    have jb : j < bs.length := by omega
    obtain ⟨vs, e1, e2⟩ := pair_at p1 (List.getElem?_eq_getElem ja)
    obtain ⟨us, e3, e4⟩ := pair_at p2 (List.getElem?_eq_getElem jb)
    have q := h j (.ref (as[j]'ja)) (.ref (bs[j]'jb)) (by rw [List.getElem?_map, List.getElem?_eq_getElem ja]; rfl) (by rw [List.getElem?_map, List.getElem?_eq_getElem jb]; rfl)
    rw [step _ _ vs us (r1 _ (List.mem_of_getElem? e1)) (r2 _ (List.mem_of_getElem? e3)) e2 e4, decide_eq_true_iff] at q
    rw [List.getElem?_eq_getElem j1] at e1
    rw [List.getElem?_eq_getElem j2] at e3
    rw [Option.some.inj e1, Option.some.inj e3, q]
  · rintro rfl j u v e1 e2
    rw [List.getElem?_map] at e1 e2
    cases ga : as[j]? with
    | none =>
      rw [ga] at e1
      cases e1
    | some c =>
      cases gb : bs[j]? with
      | none =>
        rw [gb] at e2
        cases e2
      | some d =>
        rw [ga] at e1
        rw [gb] at e2
        cases e1
        cases e2
        obtain ⟨vs, e3, e4⟩ := pair_at p1 ga
        obtain ⟨us, e5, e6⟩ := pair_at p2 gb
        rw [e3] at e5
        cases Option.some.inj e5
        have lv := r1 _ (List.mem_of_getElem? e3)
        rw [step _ _ vs vs lv lv e4 e6, decide_eq_true rfl]
theorem dp_strs {K : PySem.W.Frag} {H : Hp} : ∀ (ws : List Str), DpAll K H (ws.map V.str) (ws.map PyData.str)
  | [] => .nil
  | z :: ws => .cons (.str z) (dp_strs ws)
theorem lay_strs : ∀ {ws : List Str}, (∀ z ∈ ws, IsWord z) → PyData.canLayAll0 (ws.map PyData.str) = true ∧ PyData.depthAll (ws.map PyData.str) ≤ 1
  | [], _ => ⟨by simp [PyData.canLayAll0], by simp [PyData.depthAll]⟩
  | z :: ws, h => by
    have ih := lay_strs (ws := ws) fun y hy => h y (List.mem_cons_of_mem _ hy)
    exact ⟨by simp [PyData.canLayAll0, PyData.canLay0, (h z List.mem_cons_self).ok, ih.1], by simp only [List.map_cons, PyData.depthAll, PyData.depth]; omega⟩
theorem shaped_tupS {ws : List Str} (h : ∀ z ∈ ws, IsWord z) : SeqAt.shaped (.tuple (ws.map PyData.str)) = true := by
  have z := lay_strs h
  unfold SeqAt.shaped
  have c : (PyData.tuple (ws.map PyData.str)).canLay0 = true := by simpa [PyData.canLay0] using z.1
  rw [c, Bool.true_and, decide_eq_true_iff]
  have d : (PyData.tuple (ws.map PyData.str)).depth ≤ 2 := by
    simp only [PyData.depth]
    omega
  omega
theorem eqv_strs : ∀ {ws vs : List Str}, PyData.eqvAll (ws.map PyData.str) (vs.map PyData.str) = decide (ws = vs)
  | [], [] => by simp [PyData.eqvAll]
  | [], _ :: _ => by simp [PyData.eqvAll]
  | _ :: _, [] => by simp [PyData.eqvAll]
  | z :: ws, y :: vs => by
    have ih := eqv_strs (ws := ws) (vs := vs)
    simp only [List.map_cons, PyData.eqvAll, PyData.eqv, ih]
    rw [Bool.eq_iff_iff]
    simp
theorem eqv_tupS {ws vs : List Str} : PyData.eqv (.tuple (ws.map PyData.str)) (.tuple (vs.map PyData.str)) = decide (ws = vs) := by
  rw [← eqv_strs]
  simp only [PyData.eqv]
/-- what the written part says of Desk -/
structure DkC (K : PySem.W.Frag) (mg : Str → Option Value) (C : Addr) : Prop where
  cl : Cls K C
  ha : PySem.W.findIn K (.ref C) "__class__" = some (some (.builtin "object.__class__"))
  hn : PySem.W.specialIn K (.builtin "object.__class__") "__get__" = some (some (.builtin "getset_descriptor.__get__"))
  htk : PySem.W.takesIn K (.builtin "object.__class__") = some true
  hm : PySem.W.mroIn K C (.type "object") = some true
  kC : PySem.W.kitOne K (.ref C) (.ref C) = some true
  n1 : NoAttr K C "_standings"
  n2 : NoAttr K C "_leads"
  n3 : NoAttr K C "_sights"
  g : mg "Desk" = some (.ref C)
def spEqK (K : PySem.W.Frag) (C : Addr) : Sp := fun vs H Q _ => ∃ (x : Addr) (y : V) (ws ds : List Str) (tb : List (List Str)) (ls : List Str) (m : Nat), vs = [.ref x, y] ∧ DeskOb K C H x ws ds tb ls ∧ DkIs m ws ds tb ls ∧
  ((∃ (z : Addr) (ws' ds' : List Str) (tb' : List (List Str)) (ls' : List Str) (m' : Nat), y = .ref z ∧ DeskOb K C H z ws' ds' tb' ls' ∧ DkIs m' ws' ds' tb' ls' ∧ ∀ H', Sm H H' → Q (.bl (decide (ws = ws' ∧ ls = ls' ∧ ds = ds' ∧ tb = tb'))) H') ∨
   ∃ t, TyX K H y t ∧ PySem.W.kitOne K t (.ref C) = some false ∧ Q (.bl false) H)
abbrev nEq : List Str := ["self", "other"]
theorem scEq : FnScope nEq nEq (defScope (meth 7)) := ⟨rfl, rfl, rfl, by decide +kernel, rfl, by decide +kernel, by decide +kernel⟩
theorem keys_dkv {ds : List Str} {us : List V} (e : us.length = ds.length) : ((dkv ds us).map fun kv => kV kv.1) = ds.map V.str := by
  have z := dkv_keys e.symm
  rw [show ((dkv ds us).map fun kv => kV kv.1) = ((dkv ds us).map (·.1)).map kV from by rw [List.map_map]; rfl, z, List.map_map]
  rfl
section
variable {P : Program} {w : World} {K : PySem.W.Frag} {mg : Str → Option Value} {base : Heap} {f C : Addr} {fd : FuncData}
theorem ok_eqK (F : FunD K "__eq__" "Desk.__eq__" (defArgs (meth 7)) (defBody (meth 7)) (defScope (meth 7)) [] [] f fd) (mi : mg "isinstance" = none) (mT : mg "tuple" = none) (T : DkC K mg C) : FnOk P w K mg base CX0 1 f fd nEq (spEqK K C) := by
  refine F.ok (CX := CX0) scEq (fun vs H Q E h => ?_) (fun cdv A outer s H vs Q E hr h => ?_)
  · obtain ⟨x, y, ws, ds, tb, ls, m, rfl, _⟩ := h
    rfl
  · refine ⟨_, PSs.nox (pss_cons (ps_if (pt_not (pt_val (by exact (pe_callB call_isi rfl mi PyProof.Rows.boot_isinstance (pa_cons (pv 1) (pa_cons (pe_glob (v := .ref C) rfl T.g rfl) pa_nil)))))) (pss_one (ps_ret pe_bl)) pss_nil)
      (pss_cons (ps_if (PW.pt (pw_or (pt_cmpR (op_neD hr.units) (pe_fld (pv 0) rfl) (pe_fld (pv 1) rfl) (nomark _)) (pw_or1 (pt_cmpR (op_neF (hu_of hr)) (pe_fld (pv 0) rfl) (pe_fld (pv 1) rfl) (nomark _))))) (pss_one (ps_ret pe_bl)) pss_nil)
      (pss_one (ps_ret (by exact (pe_and (by exact (pe_cmpR (op_eqD hr.units) (by exact (pe_callTy (call_tup_dK rfl) rfl mT PyProof.Rows.boot_tuple (pa_cons (by exact (pe_fld (pv 0) rfl)) pa_nil))) (by exact (pe_callTy (call_tup_dK rfl) rfl mT PyProof.Rows.boot_tuple (pa_cons (by exact (pe_fld (pv 1) rfl)) pa_nil))) (nomark _)))
        (pe_one (by exact (pe_cmpR (op_eqN (hu_of hr)) (pe_fld (pv 0) rfl) (pe_fld (pv 1) rfl) (nomark _)))))))))), ?_⟩
    obtain ⟨x, y, ws, ds, tb, ls, m, rfl, ⟨dx, st, ld, si, as, hx, hst, hld, hsi, pr⟩, is, h⟩ := h
    rcases h with ⟨z, ws', ds', tb', ls', m', rfl, ⟨dz, st', ld', si', as', hz, hst', hld', hsi', pr'⟩, is', q⟩ | ⟨t, ty, kk, q⟩
    · refine ⟨_, rfl, _, .ref C, _, _, true, rfl, .own C, .base (.ins hz T.cl T.ha T.hn T.htk T.hm), T.kC, _, rfl, ?_⟩
      refine iteF ⟨_, rfl, x, C, dx, _, _, rfl, hx, T.cl, T.n1, rfl, _, rfl, z, C, dz, _, _, rfl, hz, T.cl, T.n1, rfl, .tuple (ws.map PyData.str), .tuple (ws'.map PyData.str), .tup hst (dp_strs ws), .tup hst' (dp_strs ws'), shaped_tupS is.word, shaped_tupS is'.word, _, rfl, ?_⟩
      rw [eqv_tupS]
      by_cases e1 : ws = ws'
      · subst e1
        rw [decide_eq_true rfl]
        refine iteF ⟨_, rfl, x, C, dx, _, _, rfl, hx, T.cl, T.n3, rfl, _, rfl, z, C, dz, _, _, rfl, hz, T.cl, T.n3, rfl, si, si', _, _, rfl, rfl, hsi, hsi', ?f1, ?f2, _, rfl, ?g1⟩
        case f1 =>
          intro p hp
          obtain ⟨u, hu, e⟩ := List.mem_map.mp (List.of_mem_zip (show (p.1, p.2) ∈ _ from hp)).2
          rw [← e]
          rfl
        case f2 =>
          intro p hp
          obtain ⟨u, hu, e⟩ := List.mem_map.mp (List.of_mem_zip (show (p.1, p.2) ∈ _ from hp)).2
          rw [← e]
          rfl
        case g1 =>
          rw [same_strs is.nd is.looks is'.looks]
          by_cases e2 : ls = ls'
          · subst e2
            rw [decide_eq_true rfl]
            have al : as.length = ds.length := by rw [paired_len pr, is.rows]
            have al' : as'.length = ds'.length := by rw [paired_len pr', is'.rows]
            refine iteF ⟨_, rfl, x, C, dx, _, _, rfl, hx, T.cl, T.n2, rfl, ld, _, rfl, hld, fun t1 n1 => ⟨_, rfl, z, C, dz, _, _, rfl, Sm.new n1 _ _ hz, T.cl, T.n2, rfl, ld', _, rfl, Sm.new n1 _ _ hld', fun t2 n2 => ?_⟩⟩
            have m1 := Sm.new (o := .tup ((dkv ds (as.map V.ref)).map fun kv => kV kv.1)) n1
            have m2 := m1.trans (Sm.new (o := .tup ((dkv ds' (as'.map V.ref)).map fun kv => kV kv.1)) n2)
            have a1 := Sm.new (o := .tup ((dkv ds' (as'.map V.ref)).map fun kv => kV kv.1)) n2 _ _ (show upd H t1 (.tup ((dkv ds (as.map V.ref)).map fun kv => kV kv.1)) t1 = _ from upd_same)
            have a2 : upd (upd H t1 (.tup ((dkv ds (as.map V.ref)).map fun kv => kV kv.1))) t2 (.tup ((dkv ds' (as'.map V.ref)).map fun kv => kV kv.1)) t2 = _ := upd_same
            have k1 := keys_dkv (ds := ds) (us := as.map V.ref) (by rw [List.length_map, al])
            have k2 := keys_dkv (ds := ds') (us := as'.map V.ref) (by rw [List.length_map, al'])
            clear m1
            generalize ((dkv ds (as.map V.ref)).map fun kv => kV kv.1) = l1 at k1 m2 a1 a2 n2 ⊢
            generalize ((dkv ds' (as'.map V.ref)).map fun kv => kV kv.1) = l2 at k2 m2 a1 a2 ⊢
            generalize upd (upd H t1 (.tup l1)) t2 (.tup l2) = G at m2 a1 a2 ⊢
            subst k1 k2
            refine ⟨.tuple (ds.map PyData.str), .tuple (ds'.map PyData.str), .tup (.inl (.inl a1)) (dp_strs ds), .tup (.inl (.inl a2)) (dp_strs ds'), shaped_tupS is.dword, shaped_tupS is'.dword, _, rfl, ?_⟩
            rw [eqv_tupS]
            have q := q G m2
            by_cases e3 : ds = ds'
            · subst e3
              rw [decide_eq_true rfl]
              have prG : Paired (fun a vs => G a = some (.dK (dkv ws (vs.map V.str)))) as tb := pair_mono pr fun a _ vs e => m2 _ _ e
              have prG' : Paired (fun a vs => G a = some (.dK (dkv ws (vs.map V.str)))) as' tb' := pair_mono pr' fun a _ vs e => m2 _ _ e
              have flats : ∀ {bs : List Addr} {tc : List (List Str)}, Paired (fun a vs => G a = some (.dK (dkv ws (vs.map V.str)))) bs tc → ∀ p ∈ dkv ds (bs.map V.ref), ∃ c, p.2 = .ref c ∧ G c = some (.dK (dictAt G c)) ∧ ∀ r ∈ dictAt G c, flatV r.2 = true := fun {bs tc} pp p hp => by
                obtain ⟨c, hc, e⟩ := List.mem_map.mp (List.of_mem_zip (show (p.1, p.2) ∈ _ from hp)).2
                obtain ⟨j, hj⟩ := List.mem_iff_getElem?.mp hc
                obtain ⟨vs, _, e5⟩ := pair_at pp hj
                refine ⟨c, e.symm, by rw [dictAt_of e5]; exact e5, fun r hr => ?_⟩
                rw [dictAt_of e5] at hr
                obtain ⟨u, hu, e6⟩ := List.mem_map.mp (List.of_mem_zip (show (r.1, r.2) ∈ _ from hr)).2
                rw [← e6]
                rfl
              refine iteT ⟨_, rfl, x, C, dx, _, _, rfl, m2 _ _ hx, T.cl, T.n2, rfl, _, rfl, z, C, dz, _, _, rfl, m2 _ _ hz, T.cl, T.n2, rfl, ld, ld', _, _, dictAt G, rfl, rfl, m2 _ _ hld, m2 _ _ hld', flats prG, flats prG', ?_⟩
              rw [same_tabs is.nd is.dnd is.rows is'.rows (fun vs hv => (is.row vs hv).1) (fun vs hv => (is'.row vs hv).1) prG prG']
              rw [show decide (ws = ws ∧ ls = ls ∧ ds = ds ∧ tb = tb') = decide (tb = tb') from by simp] at q
              exact q
            · rw [decide_eq_false e3]
              rw [decide_eq_false (fun z => e3 z.2.2.1)] at q
              exact iteF q
          · rw [decide_eq_false e2]
            have q := q H (Sm.refl H)
            rw [decide_eq_false (fun z => e2 z.2.1)] at q
            exact iteT q
      · rw [decide_eq_false e1]
        have q := q H (Sm.refl H)
        rw [decide_eq_false (fun z => e1 z.1)] at q
        exact iteT q
    · exact ⟨_, rfl, y, .ref C, _, _, false, rfl, .own C, ty, kk, _, rfl, iteT q⟩
end
end Dk
set_option Elab.async false
set_option linter.all false
set_option maxRecDepth 100000
set_option maxHeartbeats 4000000
namespace Dk
open PySem PySem.Spec PyProof.Rows L2 Er
/-! ### a function with one parameter, which is a cell, and with captured names: its frame -/
section
variable {M : Model} {A : Around} {E : Value → Shared → Prop} {s : Shared}
theorem env_one {scope : Scope} {globals : Addr} {closure : List (Str × Addr)} {x : Str} {v : Value} {qual : Str} {func : Option Addr} {code : Value} {builtins : Addr} {Q : Env → Shared → Prop}
    (hk : scope.kind = .function) (hx : scope.names.lookup x = some .cell) (hcl : closure.lookup x = none)
    (hQ : ∀ (c : Addr) (g : Heap) (tk : Nat), (cellsFrom (s.heap.objs.size + 1) scope.names closure).lookup x = some c → s.heap.objs.size < c → g.IsCell c (some v) → g.Ns s.heap.objs.size (fun _ => none) → (∀ b o, s.heap.get? b = some o → g.get? b = some o) →
      Q (newEnv scope s.heap.objs.size globals (cellsFrom (s.heap.objs.size + 1) scope.names closure) qual func code none builtins) { s with heap := g, toks := tk }) :
    wpAny M A (newFunctionEnv scope globals closure [(x, v)] qual func code none builtins) Q E s := by
  simp only [newFunctionEnv, Option.isSome_none, Bool.false_eq_true, if_false]
  refine wpAny_bind (wpAny_alloc ?_)
  refine wpAny_bind (wpAny_layCells _ (fun n k c => by cases e : k == NameKind.cell <;> simp [e]) _ _ _ _ ?_)
  obtain ⟨c, hc, lc, ic⟩ := oc_cell (h := s.heap.push { cls := .type "frame", data := .dict #[] }) hx hcl
  rw [Heap.size_push] at hc lc
  rw [show ({ s with heap := s.heap.push { cls := .type "frame", data := .dict #[] } } : Shared).heap.objs.size = s.heap.objs.size + 1 from Heap.size_push ..]
  have ns0 : (pushCells (s.heap.push { cls := .type "frame", data := .dict #[] }) scope.names).Ns s.heap.objs.size (fun _ => none) := (Heap.Ns.new s.heap (.type "frame")).keeps (pushCells_keeps _ _)
  have kp0 : ∀ b o, s.heap.get? b = some o → (pushCells (s.heap.push { cls := .type "frame", data := .dict #[] }) scope.names).get? b = some o := fun b o e => pushCells_keeps _ _ b o (Heap.get?_push_of_some _ e)
  refine wpAny_bind ?_
  rw [List.forIn_cons]
  refine wpAny_bind (wpAny_bind (wpAny_storeName_cell (env := newEnv scope s.heap.objs.size globals (cellsFrom (s.heap.objs.size + 1) scope.names closure) qual func code none builtins) hk hx hc ic fun g e k => wpAny_pure ?_))
  show wpAny M A (forIn ([] : List (Str × Value)) _ _) _ _ _
  rw [List.forIn_nil]
  refine wpAny_pure (wpAny_pure (hQ c g _ hc lc e (ns0.sameBut k (Nat.ne_of_lt lc)) fun b o q => ?_))
  have nb : b ≠ c := Nat.ne_of_lt (Nat.lt_trans (Heap.lt_size q) lc)
  exact k.extBut b o nb (kp0 b o q)
end
end Dk
set_option Elab.async false
set_option linter.all false
set_option maxRecDepth 100000
set_option maxHeartbeats 4000000
namespace Dk
open PySem PySem.Spec PyProof.Rows L2 Er
/-! ### list(d.values()) -/
def tListVals (td : TE) : TE := fun σ H Q => td σ H fun x H1 => ∃ a kvs, x = .ref a ∧ H1 a = some (.dK kvs) ∧ ∀ q, H1 q = none → Q (.ref q) (upd H1 q (.lst (kvs.map (·.2))))
section
variable {X : Cx} {e : Expr} {td : TE} {apos cpos p pos : Pos}
theorem pe_listVals (hc : X.calm = true) (hg : Gl X "list") (hm : X.mg "list" = none) (he : PE X e td) (hbase : attributeBase e "values" X.env (eval e X.env) = eval e X.env := by rfl) (hline : (apos.endLine == cpos.line) = true := by rfl)
    (na : starEach [Expr.Call (.Attribute e "values" apos) [] [] cpos] X.env = (false, eval (Expr.Call (.Attribute e "values" apos) [] [] cpos) X.env) :: starEach [] X.env := by rfl) :
    PE X (.Call (.Name "list" p) [.Call (.Attribute e "values" apos) [] [] cpos] [] pos) (tListVals td) := by
  refine ⟨fun ps s σ H Q I h => ?_⟩
  refine Call_ (ld_blt I hg hm boot_list (PyProof.Rows.callWith_type1 (args_cons ?_ na) na))
  refine wpAny_Call_method (T := "dict") (id := "dict.values") hbase rfl hline F.plainAttrs_dict F.slot_dict_values F.type_dict_values (thn (he.run ps s σ H _ I h) fun u s1 ⟨x, H1, I1, rx, a, kvs, ex, ha, q⟩ => ?_)
  subst ex
  obtain rfl : u = Value.ref a := rx
  obtain ⟨z, lo, vs, kv, hd⟩ := (show ObjOk X.prog X.w H1 s1.heap a (.dK kvs) from I1.hok a _ ha)
  obtain ⟨ep, at_⟩ := hd.dictAt
  have hl : kvs.length = vs.length := Paired.length kv
  refine ⟨at_.dictOf.typeIs, at_.dictOf.mapOf.noDict, ?_⟩
  have I2 : Inv X ps σ H1 { s1 with heap := s1.heap.push { cls := .type "dict_values", data := .fields #[.ref a] } } := I1.kept (t' := s1.toks) fun b ob q => Heap.get?_push_of_some _ q
  have at2 : (s1.heap.push { cls := .type "dict_values", data := .fields #[.ref a] }).DictAt (mixKind X.prog X.w) a vs ep := at_.keep fun b u e => Heap.get?_push_of_some _ e
  show wpAny _ _ (callWith cpos (.builtin "dict.values") [.ref a] [] []) _ X.xe s1
  refine method_meetsIn F.slot_dict_values F.entry_dict_values rfl (PySem.evalArgs_none ⟨rfl, at_.dictOf.typeIs, F.args_dict_values_1 _, _, meets_dict_values (mixKind X.prog X.w) a lo, ⟨vs, hd⟩, args_nil ?_⟩)
  refine PySem.W.kdl_call (PySem.W.kdl_values (knd := mixKind X.prog X.w) (kvs := vs) (ep := ep)) (I1.ok.hd hc) ⟨⟨_, Heap.get?_push_size _ rfl, rfl, rfl⟩, at2⟩ (by rw [← hl]; exact z) fun g tk acc c2 k hS i => ?_
  refine ⟨.ref _, upd H1 _ (.lst (kvs.map (·.2))), I2.laid k (Nat.le_refl _) (show ObjOk X.prog X.w _ _ _ (.lst (kvs.map (·.2))) from ⟨?_, acc.toList, c2, ?_, ?_⟩), rfl, q _ (I2.hok.fresh (Nat.le_refl _))⟩
  · rw [List.length_map]
    exact z
  · have el : acc.toList.length = acc.size := by simp
    refine vals_of_at (by rw [List.length_map, el, i.1, hl]) fun j x w e1 e2 => ?_
    obtain ⟨ky, hky⟩ := i.2 j w (by rw [← Array.getElem?_toList]; exact e2)
    obtain ⟨x2, h1, h2⟩ := KV.at' kv hky
    rw [List.getElem?_map, h1] at e1
    cases Option.some.inj e1
    exact h2
  · rw [Array.toArray_toList]
    exact hS
end
end Dk
set_option linter.all false
namespace Ap
/-! ### which are told apart, and in how many steps -/
section
variable {S D V : Type} [DecidableEq S] [DecidableEq V]
def led (nx : S → D → S) (z : S) (r : List D) : S := r.foldl nx z
/-- a row of k deeds parts two -/
def Sep (nx : S → D → S) (si : S → V) (ds : List D) (z y : S) (k : Nat) : Prop := ∃ r : List D, r.length = k ∧ (∀ d ∈ r, d ∈ ds) ∧ si (led nx z r) ≠ si (led nx y r)
/-- k is the least such number -/
def Min (nx : S → D → S) (si : S → V) (ds : List D) (z y : S) (k : Nat) : Prop := Sep nx si ds z y k ∧ ∀ j, j < k → ¬ Sep nx si ds z y j
/-- no row of at most k deeds parts two -/
def Eq (nx : S → D → S) (si : S → V) (ds : List D) (k : Nat) (z y : S) : Prop := ∀ j, j ≤ k → ¬ Sep nx si ds z y j
variable {nx : S → D → S} {si : S → V} {ds : List D}
theorem sep_zero {z y : S} : Sep nx si ds z y 0 ↔ si z ≠ si y := by
  constructor
  · rintro ⟨r, e, _, h⟩
    have : r = [] := List.eq_nil_of_length_eq_zero e
    subst this
    exact h
  · exact fun h => ⟨[], rfl, (fun d hd => nomatch hd), h⟩
theorem sep_succ {z y : S} {k : Nat} : Sep nx si ds z y (k + 1) ↔ ∃ d ∈ ds, Sep nx si ds (nx z d) (nx y d) k := by
  constructor
  · rintro ⟨r, e, h1, h2⟩
    cases r with
    | nil => cases e
    | cons d r => exact ⟨d, h1 d List.mem_cons_self, r, by simpa using e, fun x hx => h1 x (List.mem_cons_of_mem _ hx), h2⟩
  · rintro ⟨d, hd, r, e, h1, h2⟩
    exact ⟨d :: r, by simp [e], fun x hx => by
      rcases List.mem_cons.mp hx with h | h
      · rw [h]
        exact hd
      · exact h1 x h, h2⟩
theorem sep_symm {z y : S} {k : Nat} (h : Sep nx si ds z y k) : Sep nx si ds y z k := by
  obtain ⟨r, e, h1, h2⟩ := h
  exact ⟨r, e, h1, fun x => h2 x.symm⟩
theorem sep_trans {z y x : S} {k : Nat} (h : Sep nx si ds z y k) : Sep nx si ds z x k ∨ Sep nx si ds x y k := by
  obtain ⟨r, e, h1, h2⟩ := h
  by_cases c : si (led nx z r) = si (led nx x r)
  · exact .inr ⟨r, e, h1, by rw [← c]; exact h2⟩
  · exact .inl ⟨r, e, h1, c⟩
theorem sep_self {z : S} {k : Nat} : ¬ Sep nx si ds z z k := fun ⟨_, _, _, h⟩ => h rfl
theorem min_one {z y : S} {k j : Nat} (a : Min nx si ds z y k) (b : Min nx si ds z y j) : k = j := by
  rcases Nat.lt_trichotomy k j with c | c | c
  · exact absurd a.1 (b.2 k c)
  · exact c
  · exact absurd b.1 (a.2 j c)
theorem min_some {z y : S} : ∀ {k : Nat}, Sep nx si ds z y k → ∃ j, j ≤ k ∧ Min nx si ds z y j := by
  intro k
  induction k using Nat.strongRecOn with
  | ind k ih =>
    intro h
    by_cases c : ∃ j, j < k ∧ Sep nx si ds z y j
    · obtain ⟨j, hj, s⟩ := c
      obtain ⟨i, hi, m⟩ := ih j hj s
      exact ⟨i, by omega, m⟩
    · exact ⟨k, Nat.le_refl _, h, fun j hj s => c ⟨j, hj, s⟩⟩
theorem min_succ {z y : S} {k : Nat} (h : Min nx si ds z y (k + 1)) : ∃ d ∈ ds, Min nx si ds (nx z d) (nx y d) k := by
  obtain ⟨d, hd, s⟩ := sep_succ.mp h.1
  exact ⟨d, hd, s, fun j hj s2 => h.2 (j + 1) (by omega) (sep_succ.mpr ⟨d, hd, s2⟩)⟩
/-- where some need more than m, some need m + 1 -/
theorem min_next {ws : List S} (cl : ∀ z ∈ ws, ∀ d ∈ ds, nx z d ∈ ws) {m : Nat} : ∀ {k : Nat} {z y : S}, z ∈ ws → y ∈ ws → m < k → Min nx si ds z y k → ∃ z2 ∈ ws, ∃ y2 ∈ ws, Min nx si ds z2 y2 (m + 1) := by
  intro k
  induction k with
  | zero => intro z y _ _ h
            exact absurd h (Nat.not_lt_zero _)
  | succ k ih =>
    intro z y hz hy hk hm
    by_cases c : m = k
    · subst c
      exact ⟨z, hz, y, hy, hm⟩
    · obtain ⟨d, hd, m2⟩ := min_succ hm
      exact ih (cl z hz d hd) (cl y hy d hd) (by omega) m2
/-! ### how many rounds there can be -/
theorem countP_lt {α : Type} {p q : α → Bool} : ∀ {l : List α}, (∀ x ∈ l, p x = true → q x = true) → (∃ x ∈ l, q x = true ∧ p x = false) → l.countP p < l.countP q
  | [], _, ⟨x, hx, _⟩ => nomatch hx
  | a :: l, h, ⟨x, hx, h1, h2⟩ => by
    have le : l.countP p ≤ l.countP q := List.countP_mono_left fun y hy => h y (List.mem_cons_of_mem _ hy)
    rw [List.countP_cons, List.countP_cons]
    rcases List.mem_cons.mp hx with e | e
    · subst e
      rw [h1, h2]
      simp
      omega
    · have ih := countP_lt (l := l) (fun y hy => h y (List.mem_cons_of_mem _ hy)) ⟨x, e, h1, h2⟩
      have ha := h a List.mem_cons_self
      cases pa : p a with
      | true =>
        rw [ha pa]
        simp
        omega
      | false =>
        cases q a <;> simp <;> omega
open Classical in
/-- the first of its lot -/
noncomputable def rep (nx : S → D → S) (si : S → V) (ds : List D) (ws : List S) (k : Nat) (i : Nat) : Bool := decide (∀ j x y, j < i → ws[j]? = some x → ws[i]? = some y → ¬ Eq nx si ds k x y)
open Classical in
theorem rep_iff {ws : List S} {k i : Nat} : rep nx si ds ws k i = true ↔ ∀ j x y, j < i → ws[j]? = some x → ws[i]? = some y → ¬ Eq nx si ds k x y := by
  unfold rep
  exact decide_eq_true_iff
theorem rep_not {ws : List S} {k i : Nat} : rep nx si ds ws k i = false ↔ ¬ ∀ j x y, j < i → ws[j]? = some x → ws[i]? = some y → ¬ Eq nx si ds k x y := by
  rw [← rep_iff (ws := ws) (k := k) (i := i)]
  cases rep nx si ds ws k i <;> simp
noncomputable def lots (nx : S → D → S) (si : S → V) (ds : List D) (ws : List S) (k : Nat) : Nat := (List.range ws.length).countP (rep nx si ds ws k)
theorem lots_le {ws : List S} {k : Nat} : lots nx si ds ws k ≤ ws.length := by
  have := List.countP_le_length (p := rep nx si ds ws k) (l := List.range ws.length)
  rw [List.length_range] at this
  exact this
theorem lots_some {ws : List S} {k : Nat} (h : 1 ≤ ws.length) : 1 ≤ lots nx si ds ws k := by
  refine List.countP_pos_iff.mpr ⟨0, List.mem_range.mpr h, ?_⟩
  rw [rep_iff]
  exact fun j x y hj => absurd hj (Nat.not_lt_zero _)
theorem eq_symm {k : Nat} {z y : S} (h : Eq nx si ds k z y) : Eq nx si ds k y z := fun j hj s => h j hj (sep_symm s)
theorem eq_trans {k : Nat} {z y x : S} (h : Eq nx si ds k z y) (g : Eq nx si ds k y x) : Eq nx si ds k z x := fun j hj s => by
  rcases sep_trans (x := y) s with a | a
  · exact h j hj a
  · exact g j hj a
theorem eq_less {k j : Nat} {z y : S} (h : Eq nx si ds k z y) (l : j ≤ k) : Eq nx si ds j z y := fun i hi => h i (Nat.le_trans hi l)
theorem eq_refl {k : Nat} {z : S} : Eq nx si ds k z z := fun _ _ => sep_self
/-- the first one that is like one -/
theorem rep_of {ws : List S} {k : Nat} {z : S} : ∀ {i : Nat}, ws[i]? = some z → ∃ (j : Nat) (x : S), j ≤ i ∧ ws[j]? = some x ∧ Eq nx si ds k x z ∧ rep nx si ds ws k j = true := by
  intro i
  induction i using Nat.strongRecOn generalizing z with
  | ind i ih =>
    intro e
    cases c : rep nx si ds ws k i with
    | true => exact ⟨i, z, Nat.le_refl _, e, eq_refl, c⟩
    | false =>
      rw [rep_not] at c
      have ⟨j, x, y, hj, e1, e2, q⟩ : ∃ j x y, j < i ∧ ws[j]? = some x ∧ ws[i]? = some y ∧ Eq nx si ds k x y := by
        refine Classical.byContradiction fun n => c fun j x y h1 h2 h3 h4 => n ⟨j, x, y, h1, h2, h3, h4⟩
      rw [e] at e2
      cases Option.some.inj e2
      obtain ⟨j2, x2, h1, h2, h3, h4⟩ := ih j hj e1
      exact ⟨j2, x2, by omega, h2, eq_trans h3 q, h4⟩
theorem lots_more {ws : List S} {k : Nat} {z y : S} (hz : z ∈ ws) (hy : y ∈ ws) (h : Min nx si ds z y (k + 1)) : lots nx si ds ws k < lots nx si ds ws (k + 1) := by
  refine countP_lt (fun i _ c => ?_) ?_
  · rw [rep_iff] at c ⊢
    exact fun j x y h1 h2 h3 h4 => c j x y h1 h2 h3 (eq_less h4 (Nat.le_succ _))
  · obtain ⟨i, hi⟩ := List.mem_iff_getElem?.mp hz
    obtain ⟨i2, hi2⟩ := List.mem_iff_getElem?.mp hy
    have zy : Eq nx si ds k z y := fun j hj => h.2 j (by omega)
    have nzy : ¬ Eq nx si ds (k + 1) z y := fun e => e (k + 1) (Nat.le_refl _) h.1
    obtain ⟨a, x, _, ea, ax, ra⟩ := rep_of (nx := nx) (si := si) (ds := ds) (k := k) hi
    -- one of both is no longer like x
    obtain ⟨v, iv, ev, vx, nvx⟩ : ∃ (v : S) (iv : Nat), ws[iv]? = some v ∧ Eq nx si ds k x v ∧ ¬ Eq nx si ds (k + 1) x v := by
      by_cases c : Eq nx si ds (k + 1) x z
      · exact ⟨y, i2, hi2, eq_trans ax zy, fun e => nzy (eq_trans (eq_symm c) e)⟩
      · exact ⟨z, i, hi, ax, c⟩
    obtain ⟨b, u, _, eb, bu, rb⟩ := rep_of (nx := nx) (si := si) (ds := ds) (k := k + 1) ev
    refine ⟨b, List.mem_range.mpr (List.getElem?_eq_some_iff.mp eb).1, rb, ?_⟩
    have xu : Eq nx si ds k x u := eq_trans vx (eq_symm (eq_less bu (Nat.le_succ _)))
    have nxu : x ≠ u := fun e => nvx (by rw [e]; exact bu)
    -- a stands ahead of b
    have ab : a < b := by
      rcases Nat.lt_trichotomy a b with c | c | c
      · exact c
      · subst c
        rw [ea] at eb
        exact absurd (Option.some.inj eb) nxu
      · rw [rep_iff] at ra
        exact absurd (eq_symm xu) (ra b u x c eb ea)
    rw [rep_not]
    exact fun f => f a x u ab ea eb xu
end
end Ap
set_option linter.all false
namespace Lo
/-! ### numbers in the sequence in which they are met -/
section
variable {S κ : Type} [DecidableEq κ]
def seen (f : S → κ) (ws : List S) : List κ := ws.foldl (fun acc z => if f z ∈ acc then acc else acc ++ [f z]) []
theorem seen_nil {f : S → κ} : seen f [] = [] := rfl
theorem seen_snoc {f : S → κ} {ws : List S} {z : S} : seen f (ws ++ [z]) = if f z ∈ seen f ws then seen f ws else seen f ws ++ [f z] := by
  unfold seen
  rw [List.foldl_append]
  rfl
theorem rev_ind {α : Type} {p : List α → Prop} (h0 : p []) (h1 : ∀ l a, p l → p (l ++ [a])) : ∀ l, p l := by
  intro l
  have : ∀ l : List α, p l.reverse := fun l => by
    induction l with
    | nil => exact h0
    | cons a l ih =>
      rw [List.reverse_cons]
      exact h1 _ _ ih
  have h := this l.reverse
  rw [List.reverse_reverse] at h
  exact h
theorem mem_seen0 {f : S → κ} {k : κ} : ∀ ws : List S, k ∈ seen f ws ↔ ∃ z ∈ ws, f z = k := by
  refine rev_ind ?_ fun ws a ih => ?_
  · rw [seen_nil]
    exact ⟨fun h => (List.not_mem_nil h).elim, fun ⟨_, h, _⟩ => (List.not_mem_nil h).elim⟩
  · rw [seen_snoc]
    by_cases c : f a ∈ seen f ws
    · rw [if_pos c, ih]
      refine ⟨fun ⟨z, hz, e⟩ => ⟨z, List.mem_append_left _ hz, e⟩, fun ⟨z, hz, e⟩ => ?_⟩
      rcases List.mem_append.mp hz with h | h
      · exact ⟨z, h, e⟩
      · rw [List.mem_singleton.mp h] at e
        exact ih.mp (e ▸ c)
    · rw [if_neg c, List.mem_append, ih]
      refine ⟨fun h => ?_, fun ⟨z, hz, e⟩ => ?_⟩
      · rcases h with ⟨z, hz, e⟩ | h
        · exact ⟨z, List.mem_append_left _ hz, e⟩
        · exact ⟨a, List.mem_append_right _ (List.mem_singleton.mpr rfl), (List.mem_singleton.mp h).symm⟩
      · rcases List.mem_append.mp hz with h | h
        · exact .inl ⟨z, h, e⟩
        · rw [List.mem_singleton.mp h] at e
          exact .inr (List.mem_singleton.mpr e.symm)
theorem mem_seen {f : S → κ} {k : κ} {ws : List S} : k ∈ seen f ws ↔ ∃ z ∈ ws, f z = k := mem_seen0 ws
theorem seen_more {f : S → κ} {ws : List S} : ∀ vs : List S, ∃ t, seen f (ws ++ vs) = seen f ws ++ t := by
  refine rev_ind ⟨[], by rw [List.append_nil, List.append_nil]⟩ fun vs a ⟨t, ih⟩ => ?_
  rw [← List.append_assoc, seen_snoc, ih]
  by_cases c : f a ∈ seen f ws ++ t
  · exact ⟨t, by rw [if_pos c]⟩
  · exact ⟨t ++ [f a], by rw [if_neg c, List.append_assoc]⟩
theorem seen_len0 {f : S → κ} : ∀ ws : List S, (seen f ws).length ≤ ws.length := by
  refine rev_ind (Nat.le_refl _) fun ws a ih => ?_
  rw [seen_snoc]
  by_cases c : f a ∈ seen f ws
  · rw [if_pos c, List.length_append]
    omega
  · rw [if_neg c, List.length_append, List.length_append]
    exact Nat.add_le_add_right ih _
theorem seen_len {f : S → κ} {ws : List S} : (seen f ws).length ≤ ws.length := seen_len0 ws
/-- the number of a thing -/
def num (f : S → κ) (ws : List S) (z : S) : Nat := (seen f ws).idxOf (f z)
theorem num_iff {f : S → κ} {ws : List S} {z y : S} (hz : z ∈ ws) (hy : y ∈ ws) : num f ws z = num f ws y ↔ f z = f y := by
  have mz : f z ∈ seen f ws := mem_seen.mpr ⟨z, hz, rfl⟩
  have my : f y ∈ seen f ws := mem_seen.mpr ⟨y, hy, rfl⟩
  refine ⟨fun h => ?_, fun h => by unfold num; rw [h]⟩
  have lz := List.idxOf_lt_length_of_mem mz
  have ly := List.idxOf_lt_length_of_mem my
  have e1 := List.getElem_idxOf lz
  have e2 := List.getElem_idxOf ly
  unfold num at h
  rw [← e1, ← e2]
  congr 1
theorem num_lt {f : S → κ} {ws : List S} {z : S} (hz : z ∈ ws) : num f ws z < (seen f ws).length := List.idxOf_lt_length_of_mem (mem_seen.mpr ⟨z, hz, rfl⟩)
theorem num_more {f : S → κ} {ws vs : List S} {z : S} (hz : z ∈ ws) : num f (ws ++ vs) z = num f ws z := by
  obtain ⟨t, e⟩ := seen_more (f := f) (ws := ws) vs
  unfold num
  rw [e, List.idxOf_append, if_pos (mem_seen.mpr ⟨z, hz, rfl⟩)]
theorem num_take {f : S → κ} {ws : List S} {i : Nat} {z : S} (hz : z ∈ ws.take i) : num f ws z = num f (ws.take i) z := by
  have e := num_more (f := f) (vs := ws.drop i) hz
  rw [List.take_append_drop] at e
  exact e
end
/-! ### how many there are -/
section
variable {S D V κ : Type} [DecidableEq S] [DecidableEq V] [DecidableEq κ] {nx : S → D → S} {si : S → V} {ds : List D} {h : S → κ} {ws : List S} {k : Nat}
theorem seen_lots (e : ∀ z ∈ ws, ∀ y ∈ ws, h z = h y ↔ Ap.Eq nx si ds k z y) : (seen h ws).length = Ap.lots nx si ds ws k := by
  have main : ∀ i, i ≤ ws.length → (seen h (ws.take i)).length = (List.range i).countP (Ap.rep nx si ds ws k) := by
    intro i
    induction i with
    | zero => intro _; rfl
    | succ i ih =>
      intro hi
      have ih := ih (by omega)
      have ei : ws[i]? = some (ws[i]'(by omega)) := List.getElem?_eq_getElem _
      generalize ws[i]'(by omega) = z at ei
      have tk : ws.take (i + 1) = ws.take i ++ [z] := by
        rw [List.take_add_one, ei]
        rfl
      have hz : z ∈ ws := List.mem_of_getElem? ei
      rw [tk, seen_snoc, List.range_succ, List.countP_append, ← ih]
      have one : (h z ∈ seen h (ws.take i)) ↔ Ap.rep nx si ds ws k i = false := by
        rw [mem_seen, Ap.rep_not]
        refine ⟨fun ⟨y, hy, e1⟩ g => ?_, fun g => ?_⟩
        · obtain ⟨j, hj, e2⟩ := List.mem_take_iff_getElem.mp hy
          have jl : j < i := by omega
          exact g j y z jl (by rw [List.getElem?_eq_getElem (by omega), e2]) ei ((e y (List.mem_of_mem_take hy) z hz).mp e1)
        · refine Classical.byContradiction fun n => g fun j x y hj e1 e2 q => ?_
          rw [ei] at e2
          cases Option.some.inj e2
          have hx : x ∈ ws := List.mem_of_getElem? e1
          exact n ⟨x, List.mem_take_iff_getElem.mpr ⟨j, by have := (List.getElem?_eq_some_iff.mp e1).1; omega, (List.getElem?_eq_some_iff.mp e1).2⟩, (e x hx z hz).mpr q⟩
      by_cases c : h z ∈ seen h (ws.take i)
      · rw [if_pos c, List.countP_cons, one.mp c]
        simp
      · rw [if_neg c, List.length_append, List.countP_cons]
        have : Ap.rep nx si ds ws k i = true := by
          cases r : Ap.rep nx si ds ws k i with
          | true => rfl
          | false => exact absurd (one.mpr r) c
        rw [this]
        simp
  have e := main ws.length (Nat.le_refl _)
  rw [List.take_length] at e
  exact e
/-- all are alone in their lots -/
theorem lots_all (nd : ws.Nodup) (full : Ap.lots nx si ds ws k = ws.length) {z y : S} (hz : z ∈ ws) (hy : y ∈ ws) (e : Ap.Eq nx si ds k z y) : z = y := by
  have all : ∀ i ∈ List.range ws.length, Ap.rep nx si ds ws k i = true := by
    refine List.countP_eq_length.mp ?_
    rw [List.length_range]
    exact full
  obtain ⟨i, hi⟩ := List.mem_iff_getElem?.mp hz
  obtain ⟨j, hj⟩ := List.mem_iff_getElem?.mp hy
  have il := (List.getElem?_eq_some_iff.mp hi).1
  have jl := (List.getElem?_eq_some_iff.mp hj).1
  have ri := Ap.rep_iff.mp (all i (List.mem_range.mpr il))
  have rj := Ap.rep_iff.mp (all j (List.mem_range.mpr jl))
  rcases Nat.lt_trichotomy i j with c | c | c
  · exact absurd e (rj i z y c hi hj)
  · rw [c, hj] at hi
    exact (Option.some.inj hi).symm
  · exact absurd (Ap.eq_symm e) (ri j y z c hj hi)
/-- one step further -/
theorem eq_succ {z y : S} : Ap.Eq nx si ds (k + 1) z y ↔ Ap.Eq nx si ds k z y ∧ ∀ d ∈ ds, Ap.Eq nx si ds k (nx z d) (nx y d) := by
  constructor
  · intro h
    exact ⟨fun j hj => h j (by omega), fun d hd j hj s => h (j + 1) (by omega) (Ap.sep_succ.mpr ⟨d, hd, s⟩)⟩
  · rintro ⟨h0, h1⟩ j hj s
    cases j with
    | zero => exact h0 0 (Nat.zero_le _) s
    | succ j =>
      obtain ⟨d, hd, s2⟩ := Ap.sep_succ.mp s
      exact h1 d hd j (by omega) s2
theorem eq_zero {z y : S} : Ap.Eq nx si ds 0 z y ↔ si z = si y := by
  constructor
  · intro h
    exact Classical.byContradiction fun n => h 0 (Nat.le_refl _) (Ap.sep_zero.mpr n)
  · intro e j hj s
    have : j = 0 := by omega
    subst this
    exact Ap.sep_zero.mp s e
/-- where no lots are parted any more, none are parted ever -/
theorem eq_still (cl : ∀ z ∈ ws, ∀ d ∈ ds, nx z d ∈ ws) (st : Ap.lots nx si ds ws (k + 1) ≤ Ap.lots nx si ds ws k) {z y : S} (hz : z ∈ ws) (hy : y ∈ ws) : Ap.Eq nx si ds (k + 1) z y ↔ ∀ j, ¬ Ap.Sep nx si ds z y j := by
  constructor
  · intro e j s
    obtain ⟨i, _, m⟩ := Ap.min_some s
    by_cases c : i ≤ k + 1
    · exact e i c m.1
    · obtain ⟨z2, hz2, y2, hy2, m2⟩ := Ap.min_next cl (m := k) hz hy (by omega) m
      have := Ap.lots_more (ws := ws) hz2 hy2 m2
      omega
  · exact fun h j _ => h j
theorem eq_alone (nd : ws.Nodup) (full : Ap.lots nx si ds ws k = ws.length) {z y : S} (hz : z ∈ ws) (hy : y ∈ ws) : Ap.Eq nx si ds k z y ↔ ∀ j, ¬ Ap.Sep nx si ds z y j := by
  constructor
  · intro e j s
    rw [lots_all nd full hz hy e] at s
    exact Ap.sep_self s
  · exact fun h j _ => h j
end
end Lo
set_option Elab.async false
set_option linter.all false
set_option maxRecDepth 100000
set_option maxHeartbeats 4000000
namespace Dk
open PySem PySem.Spec PyProof.Rows L2 Er
/-! ### setdefault by tuples; len(set(..)) of ints; tables of numbers -/
/-- each thing's place -/
def tabOf {κ : Type} (l : List κ) : List (κ × V) := l.mapIdx fun i k => (k, V.int ((i : Nat) : Int))
section
variable {κ : Type} [DecidableEq κ] {l : List κ} {k : κ} {v : V}
theorem tab_len : (tabOf l).length = l.length := by
  unfold tabOf
  rw [List.length_mapIdx]
theorem tab_snoc : tabOf (l ++ [k]) = tabOf l ++ [(k, V.int ((l.length : Nat) : Int))] := by
  unfold tabOf
  rw [List.mapIdx_concat]
theorem val_snoc {kvs : List (κ × V)} : valV (kvs ++ [(k, v)]) k = (valV kvs k).or (some v) := by
  unfold valV
  rw [List.find?_append, List.find?_cons_of_pos (by exact decide_eq_true rfl)]
  cases List.find? (fun kv => decide (kv.1 = k)) kvs <;> rfl
theorem val_snoc_ne {kvs : List (κ × V)} {j : κ} (n : j ≠ k) : valV (kvs ++ [(j, v)]) k = valV kvs k := by
  unfold valV
  rw [List.find?_append, List.find?_cons_of_neg (by simpa using n)]
  cases List.find? (fun kv => decide (kv.1 = k)) kvs <;> rfl
theorem tab_out0 : ∀ l : List κ, k ∉ l → valV (tabOf l) k = none := by
  refine Lo.rev_ind (fun _ => rfl) fun l a ih n => ?_
  rw [tab_snoc, val_snoc_ne (fun e => n (List.mem_append_right _ (List.mem_singleton.mpr e.symm)))]
  exact ih fun h => n (List.mem_append_left _ h)
theorem tab_out (n : k ∉ l) : valV (tabOf l) k = none := tab_out0 l n
theorem tab_in0 : ∀ l : List κ, k ∈ l → valV (tabOf l) k = some (V.int ((l.idxOf k : Nat) : Int)) := by
  refine Lo.rev_ind (fun h => (List.not_mem_nil h).elim) fun l a ih h => ?_
  rw [tab_snoc, List.idxOf_append]
  by_cases c : k ∈ l
  · rw [if_pos c]
    by_cases e : a = k
    · subst e
      rw [val_snoc, ih c]
      rfl
    · rw [val_snoc_ne e, ih c]
  · have e : k = a := List.mem_singleton.mp ((List.mem_append.mp h).resolve_left c)
    subst e
    rw [if_neg c, val_snoc, tab_out c]
    show some _ = some _
    congr 2
    simp
theorem tab_in (h : k ∈ l) : valV (tabOf l) k = some (V.int ((l.idxOf k : Nat) : Int)) := tab_in0 l h
theorem tab_put (n : k ∉ l) : putK (tabOf l) k (V.int ((l.length : Nat) : Int)) = tabOf (l ++ [k]) := by
  rw [tab_snoc]
  unfold putK
  rw [valV_any, tab_out n]
  rfl
end
/-- d.setdefault(y, z), d by tuples -/
def tDSetT (td ty tx : TE) : TE := fun σ H Q => td σ H fun x H1 => ∃ a, x = .ref a ∧ IsD H1 a ∧ ty σ H1 fun y H2 => tx σ H2 fun z H3 => ∃ (kvs : List (List Key × V)) (k : List Key) (b : Addr), y = .ref b ∧ H3 a = some (.dT kvs) ∧ H3 b = some (.tup (k.map kV)) ∧ kvs.length < sizeLine ∧
  (∀ v, valV kvs k = some v → Q v H3) ∧ (valV kvs k = none → Q z (upd H3 a (.dT (putK kvs k z))))
section
variable {X : Cx} {o e f : Expr} {td ty tx : TE} {apos cpos : Pos}
theorem pe_dsetT (hu : X.A.units + 1 < cLine) (ho : PE X o td) (he : PE X e ty) (hf : PE X f tx) (m : M2 X o "setdefault" apos e f cpos) : PE X (.Call (.Attribute o "setdefault" apos) [e, f] [] cpos) (tDSetT td ty tx) := by
  refine ⟨fun pins s σ H Q I h => wpAny_Call_method m.base m.few m.line PySem.F.plainAttrs_dict PySem.F.slot_dict_setdefault PySem.F.type_dict_setdefault (thn (ho.run pins s σ H _ I h) fun u s1 ⟨x, H1, I1, rx, a, ex, d, q1⟩ => ?_)⟩
  subst ex
  obtain rfl : u = Value.ref a := rx
  obtain ⟨t1, t2, _⟩ := isD_at I1 d
  refine ⟨t1, t2, ?_⟩
  rw [m.trees]
  refine Calls.callWith_builtin rfl (Calls.evalArgs_plain (Calls.spliced_cons (thn (he.run pins s1 σ H1 _ I1 q1) fun iv s2 ⟨y, H2, I2, ry, q2⟩ => Calls.spliced_cons (thn (hf.run pins s2 σ H2 _ I2 q2) fun fv s3 ⟨z, H3, I3, rz, kvs, k, b, ey, ea, eb, hl, q3, q4⟩ => Calls.spliced_nil ?_))))
  subst ey
  cases (show iv = Value.ref b from ry)
  obtain ⟨zz, hd, xs, rel, dd⟩ := dt_of I3.hok ea
  refine call_setdefault_heap (knd := tupleKind (mixKind X.prog X.w)) (tupleKind_room_in1 hu) (key_of I3.hok eb) hd dd (fun p hp => ?_) (fun hn h' dd' hs => ?_) (hsz := by rw [← Paired.length rel]; exact zz)
  · have r := rel.val k
    rw [hp] at r
    cases ev : valV kvs k with
    | none =>
      rw [ev] at r
      exact (show False from r).elim
    | some v =>
      rw [ev] at r
      exact ⟨v, H3, I3.tok _, r, q3 v ev⟩
  · have r := rel.val k
    rw [hn] at r
    cases ev : valV kvs k with
    | some v =>
      rw [ev] at r
      exact (show False from r).elim
    | none =>
      have hl2 : (putK kvs k z).length ≤ sizeLine := by
        have := length_putK kvs k z
        omega
      obtain ⟨q, es, ep, hq, h2, h3, h4, _, h5⟩ := dd'
      refine ⟨z, _, d_write (ob := .dT (putK kvs k z)) I3 (by rw [ea]; exact True.intro) hs ⟨q, hq⟩ ⟨hl2, hd, _, (rel.put k eb rz).keeps fun c ys ec => ?_, q, es, ep, hq, h2, h3, h4, h5⟩, rz, q4 ev⟩
      rw [upd_ne (ne_of ec ea (fun w => nomatch w))]
      exact ec
end
/-! ### len(set(xs)) of ints -/
theorem met_seen (ns : List Int) : ∀ i, i ≤ ns.length → firstMet (fun i => ns.getD i 0) i = Lo.seen id (ns.take i)
  | 0, _ => rfl
  | i + 1, hi => by
    have ei : ns[i]? = some (ns[i]'hi) := List.getElem?_eq_getElem _
    have ed : ns.getD i 0 = ns[i]'hi := by
      rw [List.getD_eq_getElem?_getD, ei]
      rfl
    have tk : ns.take (i + 1) = ns.take i ++ [ns[i]'hi] := by
      rw [List.take_add_one, ei]
      rfl
    rw [firstMet_succ, met_seen ns i (by omega), tk, Lo.seen_snoc, ed]
    unfold step_dedup
    by_cases c : ns[i]'hi ∈ Lo.seen id (ns.take i)
    · rw [if_pos (show id (ns[i]'hi) ∈ _ from c), if_pos (List.any_eq_true.mpr ⟨_, c, by simp⟩)]
    · rw [if_neg (show ¬ id (ns[i]'hi) ∈ _ from c), if_neg (fun h => by
        obtain ⟨x, hx, e⟩ := List.any_eq_true.mp h
        exact c ((by simpa using e : x = _) ▸ hx))]
      rfl
def tLenNums (K : PySem.W.Frag) (ta : TE) : TE := fun σ H Q => ta σ H fun x H1 => ∃ (l : Addr) (ns : List Int), x = .ref l ∧ SqL K H1 l (ns.map V.int) ∧ ns.length ≤ 1000 ∧ Q (.int ((Lo.seen id ns).length : Nat)) H1
theorem pe_lenNums {X : Cx} {a : Expr} {ta : TE} {p p2 q pos : Pos} (hc : X.calm = true) (hg : Gl X "len") (hm : X.mg "len" = none) (hg2 : Gl X "set") (hm2 : X.mg "set" = none) (ha : PE X a ta)
    (na : starEach [a] X.env = (false, eval a X.env) :: starEach [] X.env := by rfl) : PE X (.Call (.Name "len" p) [.Call (.Name "set" p2) [a] [] q] [] pos) (tLenNums X.K ta) := by
  refine ⟨fun pins s σ H Q I h => Call_ (ld_blt I hg hm PySem.boot_len ?_)⟩
  refine PyProof.Rows.callWith_builtin1 (PyProof.Rows.args_cons ?_ rfl) rfl rfl
  refine Call_ (ld_blt I hg2 hm2 PyProof.Rows.boot_set ?_)
  refine PyProof.Rows.callWith_type1 (PyProof.Rows.args_cons (thn (ha.run pins s σ H _ I h) fun v s1 ⟨x, H1, I1, r1, l, ns, ex, hq, few, q1⟩ => PyProof.Rows.args_nil ?_) na) na rfl
  subst ex
  cases r1
  obtain ⟨its, r, pl, _⟩ := I1.list hq
  have hn : its.toArray.size = ns.length := by rw [List.size_toArray, ← r.length, List.length_map]
  refine call_set_list (I1.ok.hd hc) pl.isList (ns := ns) (by simpa using RZ.intsAre_vals r) (by unfold scanBound; omega) fun h2 tk got keep => ?_
  refine PyProof.Rows.args_nil ?_
  rw [hn, met_seen ns ns.length (Nat.le_refl _), List.take_length] at got
  obtain ⟨o, es, ep, t, ho, hex, hd, _, _, _, hf, hn2⟩ := got
  have le := Lo.seen_len (f := id) (ws := ns)
  have I2 : L2.Inv X pins σ H1 { s1 with heap := h2, toks := tk } := I1.kept fun b o e => keep b o (Heap.lt_size e) e
  refine call_len_set ho hex hd hf (by rw [hn2] <;> omega) ⟨.int ((Lo.seen id ns).length : Nat), H1, I2.tok _, ⟨_, by rw [hn2]⟩, q1⟩
end Dk
set_option Elab.async false
set_option linter.all false
set_option maxRecDepth 100000
set_option maxHeartbeats 8000000
namespace Dk
open PySem PySem.Spec PyProof.Rows L2 Er LamX NdefX
open PySem.ErK (EC)
theorem has_putK {κ : Type} [DecidableEq κ] {kvs : List (κ × V)} {k : κ} {v : V} (j : κ) : (valV (putK kvs k v) j).isSome = true ↔ j = k ∨ (valV kvs j).isSome = true := by
  rw [valV_put]
  by_cases c : j = k
  · rw [if_pos c]
    simp [c]
  · rw [if_neg c]
    simp [c]
theorem nodup_leG {α : Type} [DecidableEq α] : ∀ {l m : List α}, l.Nodup → (∀ x ∈ l, x ∈ m) → l.length ≤ m.length
  | [], _, _, _ => Nat.zero_le _
  | x :: l, m, hn, hs => by
    obtain ⟨h1, h2⟩ := List.nodup_cons.mp hn
    have hx : x ∈ m := hs x List.mem_cons_self
    have ih := nodup_leG (l := l) (m := m.erase x) h2 fun y hy => (List.mem_erase_of_ne (fun e : y = x => h1 (by rw [← e]; exact hy))).2 (hs y (List.mem_cons_of_mem _ hy))
    have hp : 0 < m.length := List.length_pos_of_mem hx
    rw [List.length_erase_of_mem hx] at ih
    rw [List.length_cons]
    omega
abbrev St2 : Type := List Key
def pr (z y : Str) : St2 := [.inr z, .inr y]
def look (ns ls : List Str) (z : Str) : Str := ls.getD (ns.idxOf z) ⟨#[]⟩
theorem look_at {ns ls : List Str} {z : Str} (e : ls.length = ns.length) (hz : z ∈ ns) : valV (dkv ns (ls.map V.str)) (.inr z) = some (.str (look ns ls z)) := by
  have il := idx_lt hz
  rw [dkv_get (by rw [List.length_map, e]) hz, List.getElem?_map]
  unfold look
  rw [List.getD_eq_getElem?_getD, List.getElem?_eq_getElem (by omega)]
  rfl
def fdP (lk : Str → Str) : St2 → Bool
  | [.inr z, .inr y] => decide (lk z ≠ lk y)
  | _ => false
structure MvAt (H : Hp) (mo : Addr) (ns ds : List Str) (bs : List Addr) (nx : Str → Str → Str) : Prop where
  at_ : H mo = some (.dK (dkv ns (bs.map V.ref)))
  rows : Paired (fun b z => b ≠ mo ∧ H b = some (.dK (dkv ds ((ds.map (nx z)).map V.str)))) bs ns
  few : ns.length ≤ 9
  deeds : ds.length ≤ 4
  dnd : ds.Nodup
theorem MvAt.sm {H G : Hp} {mo : Addr} {ns ds : List Str} {bs : List Addr} {nx : Str → Str → Str} (m : MvAt H mo ns ds bs nx) (s : Sm H G) : MvAt G mo ns ds bs nx := ⟨s _ _ m.at_, pair_mono m.rows fun b _ z e => ⟨e.1, s _ _ e.2⟩, m.few, m.deeds, m.dnd⟩
theorem MvAt.row {H : Hp} {mo : Addr} {ns ds : List Str} {bs : List Addr} {nx : Str → Str → Str} (m : MvAt H mo ns ds bs nx) {z : Str} (hz : z ∈ ns) : ∃ b, valV (dkv ns (bs.map V.ref)) (.inr z) = some (.ref b) ∧ b ≠ mo ∧ H b = some (.dK (dkv ds ((ds.map (nx z)).map V.str))) := by
  have bl : bs.length = ns.length := paired_len m.rows
  have il := idx_lt hz
  have e1 : bs[ns.idxOf z]? = some (bs[ns.idxOf z]'(by omega)) := List.getElem?_eq_getElem _
  obtain ⟨z2, e2, e3⟩ := pair_at m.rows e1
  rw [List.getElem?_eq_getElem il, List.getElem_idxOf il] at e2
  cases Option.some.inj e2
  exact ⟨_, by rw [dkv_get (by rw [List.length_map, bl]) hz, List.getElem?_map, e1]; rfl, e3⟩
theorem row_at {ds : List Str} {f : Str → Str} {d : Str} (hd : d ∈ ds) : valV (dkv ds ((ds.map f).map V.str)) (.inr d) = some (.str (f d)) := by
  rw [look_at (by rw [List.length_map]) hd]
  unfold look
  have il := idx_lt hd
  rw [List.getD_eq_getElem?_getD, List.getElem?_map, List.getElem?_eq_getElem il, List.getElem_idxOf il]
  rfl
theorem Rd.sm {H G : Hp} {a : Addr} {u : HO} (r : Rd H a u) (m : Sm H G) : Rd G a u := by
  rcases r with h | ⟨o, h⟩
  · exact .inl (m _ _ h)
  · exact .inr ⟨o, m _ _ h⟩
def pairs (ns : List Str) : List St2 := ns.flatMap fun z => ns.map fun y => pr z y
theorem pairs_mem {ns : List Str} {k : St2} : k ∈ pairs ns ↔ ∃ z ∈ ns, ∃ y ∈ ns, k = pr z y := by
  unfold pairs
  rw [List.mem_flatMap]
  constructor
  · rintro ⟨z, hz, h⟩
    obtain ⟨y, hy, rfl⟩ := List.mem_map.mp h
    exact ⟨z, hz, y, hy, rfl⟩
  · rintro ⟨z, hz, y, hy, rfl⟩
    exact ⟨z, hz, List.mem_map.mpr ⟨y, hy, rfl⟩⟩
theorem flat_len {α β : Type} (f : α → List β) (m : Nat) : ∀ {l : List α}, (∀ x ∈ l, (f x).length ≤ m) → (l.flatMap f).length ≤ l.length * m
  | [], _ => Nat.zero_le _
  | x :: l, h => by
    have ih := flat_len f m (l := l) fun y hy => h y (List.mem_cons_of_mem _ hy)
    have hx := h x List.mem_cons_self
    rw [List.flatMap_cons, List.length_append, List.length_cons, Nat.succ_mul]
    omega
theorem pairs_few {ns : List Str} (h : ns.length ≤ 9) : (pairs ns).length ≤ 1000 := by
  have z := flat_len (fun z => ns.map fun y => pr z y) 9 (l := ns) fun x _ => by
    rw [List.length_map]
    exact h
  unfold pairs
  omega
/-! ### Desk.standings; desk_leads, desk_moves, desk_sights -/
def spStd (C : Addr) : Sp := fun vs H Q _ => ∃ (x dx st ld si : Addr), vs = [.ref x] ∧ H x = some (.ins C dx (fldsOf st ld si)) ∧ Q (.ref st) H
abbrev nSelf : List Str := ["self"]
theorem scStd : FnScope nSelf nSelf (defScope (meth 1)) := ⟨rfl, rfl, rfl, by decide +kernel, rfl, by decide +kernel, by decide +kernel⟩
/-- a dict comprehension over a dict's items -/
theorem dc_items {K : PySem.W.Frag} {d : Addr} {od : Obj} {kvs : List (Key × V)} {i j : Nat} {tk tv : TE} {σ : L2.St} {H1 : Hp} {Q : Addr → Hp → Prop} (w1 : ∀ v u, wipe ((((wipe σ [i, j]).set i (some v)).set j (some u))) [i, j] = wipe σ [i, j]) (Pv : Addr → Nat → Hp → Prop)
    (h0 : ∀ D, H1 D = none → Pv D 0 (upd H1 D (.dK []))) (hG : ∀ D n H, n ≤ kvs.length → Pv D n H → H d = some (.frz od (.dK kvs)))
    (hs : ∀ D n k v H H', H1 D = none → kvs[n]? = some (k, v) → Pv D n H → Sm H H' → tk (((wipe σ [i, j]).set i (some (kV k))).set j (some v)) H' fun y H4 => tv (((wipe σ [i, j]).set i (some (kV k))).set j (some v)) H4 fun z H5 => ∃ ks k2, y = kV k2 ∧ H5 D = some (.dK ks) ∧ ks.length < sizeLine ∧ Pv D (n + 1) (upd H5 D (.dK (putK ks k2 z))))
    (hd : ∀ D H, H1 D = none → Pv D kvs.length H → Q D H) : DcR (gTup K 2 (gCons (gName i) (gCons (gName j) gNil))) tk tv σ [i, j] H1 Q (Iti d od kvs) := by
  intro D nD
  have w := walk_items (d := d) (o := od) (kvs := kvs)
  refine ⟨fun n m H => m = kvs.length - n ∧ n ≤ kvs.length ∧ Pv D n H, ⟨kvs.length, rfl, Nat.zero_le _, h0 D nD⟩, ?_⟩
  rintro n m H ⟨rfl, hn, p⟩
  have q := hG D n H hn p
  by_cases lt : n < kvs.length
  · refine .inr ⟨w.goes n H lt q, Pv D (n + 1), fun H' p2 => ⟨kvs.length - (n + 1), by omega, rfl, lt, p2⟩, fun x H' y => ?_⟩
    obtain ⟨T, x1, x2, rfl, hT, rfl, e1, e2⟩ := w.yields n H x H' lt q y
    have ek : kvs[n]? = some (kvs[n]'lt) := List.getElem?_eq_getElem lt
    generalize kvs[n]'lt = kv at ek
    obtain ⟨k, v⟩ := kv
    have e1 : Option.map (fun kv : Key × V => kV kv.1) kvs[n]? = some x1 := e1
    have e2 : Option.map Prod.snd kvs[n]? = some x2 := e2
    rw [ek] at e1 e2
    have z1 : kV k = x1 := Option.some.inj (show some (kV k) = some x1 from e1)
    have z2 : v = x2 := Option.some.inj (show some v = some x2 from e2)
    subst z1 z2
    refine ⟨T, _, rfl, .inl (.inl upd_same), rfl, _, _, rfl, _, _, rfl, rfl, w1 _ _, ?_⟩
    unfold tYes
    dsimp only
    rw [if_pos rfl]
    exact hs D n k v H _ nD ek p (Sm.new hT)
  · have e : n = kvs.length := by omega
    subst e
    exact .inl ⟨w.stops H q, hd D H nD p⟩
def rDictD : List V → Hp → VK → Prop := fun xs H Q => ∃ (a : Addr) (kvs : List (Key × V)), xs = [.ref a] ∧ Rd H a (.dK kvs) ∧ ∀ p, H p = none → Q (.ref p) (upd H p (.dK kvs))
def spDl (K : PySem.W.Frag) (C : Addr) : Sp := fun vs H Q _ => ∃ (x : Addr) (ws ds : List Str) (tb : List (List Str)) (ls : List Str) (m : Nat), vs = [.ref x] ∧ DeskOb K C H x ws ds tb ls ∧ DkIs m ws ds tb ls ∧
  ∀ (q : Addr) (as : List Addr) H', Sm H H' → H q = none → H' q = some (.dK (dkv ds (as.map V.ref))) → Paired (fun a vs => a ≠ q ∧ H' a = some (.dK (dkv ws (vs.map V.str)))) as tb → Q (.ref q) H'
abbrev nDl : List Str := ["desk", "deed", "lead"]
/-- the dict of dicts that desk_moves tells -/
def spMv (K : PySem.W.Frag) (C : Addr) : Sp := fun vs H Q _ => ∃ (x : Addr) (ws ds : List Str) (tb : List (List Str)) (ls : List Str) (m : Nat), vs = [.ref x] ∧ DeskOb K C H x ws ds tb ls ∧ DkIs m ws ds tb ls ∧ m ≤ 9 ∧
  ∀ (q : Addr) (bs : List Addr) H', Sm H H' → H q = none → MvAt H' q ws ds bs (nxt ws ds tb) → Q (.ref q) H'
abbrev nMv : List Str := ["desk", "leads", "one", "deed"]
abbrev scMv1 : Scope := { kind := .function, names := [(".0", .local), ("one", .cell), ("leads", .cell)], isGenerator := false, isCoroutine := false }
def spSi (K : PySem.W.Frag) (C : Addr) : Sp := fun vs H Q _ => ∃ (x : Addr) (ws ds : List Str) (tb : List (List Str)) (ls : List Str) (m : Nat), vs = [.ref x] ∧ DeskOb K C H x ws ds tb ls ∧ DkIs m ws ds tb ls ∧ m ≤ 9 ∧
  ∀ (q : Addr) H', Sm H H' → H q = none → H' q = some (.dK (dkv ws (ls.map V.str))) → Q (.ref q) H'
abbrev nSi : List Str := ["desk", "standing"]
/-- Desk.sight of a standing -/
def spSight0 (K : PySem.W.Frag) (C : Addr) : Sp := fun vs H Q _ => ∃ (x : Addr) (z l : Str) (ws ds : List Str) (tb : List (List Str)) (ls : List Str), vs = [.ref x, .str z] ∧ DeskOb K C H x ws ds tb ls ∧ ls.length = ws.length ∧ z ∈ ws ∧ ls[ws.idxOf z]? = some l ∧ Q (.str l) H
section
variable {P : Program} {w : World} {K : PySem.W.Frag} {mg : Str → Option Value} {base : Heap} {f C fO fL fS pS gS : Addr} {fd dO dL dS dG : FuncData}
theorem ok_std (F : FunD K "standings" "Desk.standings" (defArgs (meth 1)) (defBody (meth 1)) (defScope (meth 1)) [] [] f fd) (hC : Cls K C) (n1 : NoAttr K C "_standings") : FnOk P w K mg base CX0 1 f fd nSelf (spStd C) := by
  refine F.ok (CX := CX0) scStd (fun vs H Q E h => ?_) (fun cdv A outer s H vs Q E hr h => ?_)
  · obtain ⟨x, dx, st, ld, si, rfl, _⟩ := h
    rfl
  · refine ⟨_, PSs.nox (pss_one (ps_ret (by exact (pe_fld (pv 0) rfl)))), ?_⟩
    obtain ⟨x, dx, st, ld, si, rfl, hx, q⟩ := h
    exact ⟨_, rfl, x, C, dx, _, _, rfl, hx, hC, n1, rfl, q⟩
theorem bStd (F : FunD K "standings" "Desk.standings" (defArgs (meth 1)) (defBody (meth 1)) (defScope (meth 1)) [] [] f fd) : Binds K fd nSelf [] := F.bindsN fun _ _ _ _ _ _ us hl => match us, hl with
  | [_], _ => rfl
theorem ok_sight0 (F : FunD K "sight" "Desk.sight" (defArgs (meth 5)) (defBody (meth 5)) (defScope (meth 5)) [] [] f fd) (hC : Cls K C) (n1 : NoAttr K C "_standings") (n3 : NoAttr K C "_sights")
    (GO : FnOk P w K mg base CX0 1 fO dO nOneOf (spOneOf K)) (FO : FnP K "is_one_of" (top 19) fO dO) (gO : mg "is_one_of" = some (.ref fO)) : FnOk P w K mg base CX0 2 f fd nSight (spSight0 K C) := by
  refine F.ok (CX := CX0) scSight (fun vs H Q E h => ?_) (fun cdv A outer s H vs Q E hr h => ?_)
  · obtain ⟨x, z, l, ws, ds, tb, ls, rfl, _⟩ := h
    rfl
  · refine ⟨_, PSs.nox (pss_cons (ps_if (pt_not (pt_val (by exact (pe_call GO hr rfl gO FO.kp (bOne FO) .nil pass0 (pa_cons (pv 1) (pa_cons (by exact (pe_fld (pv 0) rfl)) pa_nil)))))) (pss_one ps_never) pss_nil)
      (pss_one (ps_ret (by exact (pe_dget (hu_of hr) (by exact (pe_fld (pv 0) rfl)) (pv 1) (fun _ _ => rfl)))))), ?_⟩
    obtain ⟨x, z, l, ws, ds, tb, ls, rfl, ⟨dx, st, ld, si, as, hx, hst, hld, hsi, pr⟩, ll, hz, el, q⟩ := h
    refine ⟨_, rfl, _, rfl, x, C, dx, _, _, rfl, hx, hC, n1, rfl, .str z, st, rfl, .inl ⟨z, ws, rfl, .inr (.inl hst), _, rfl, ?_⟩⟩
    rw [decide_eq_true hz]
    refine iteF ⟨_, rfl, x, C, dx, _, _, rfl, hx, hC, n3, rfl, _, rfl, si, .str l, rfl, .inl ⟨_, .inr z, .inl hsi, rfl, ?_⟩, q⟩
    rw [dkv_get (by rw [List.length_map, ll]) hz, List.getElem?_map, el]
    rfl
end

theorem put_dkvV {ds : List Str} {us : List V} {d : Str} {v : V} (e : us.length = ds.length) (nd : (ds ++ [d]).Nodup) : putK (dkv ds us) (.inr d) v = dkv (ds ++ [d]) (us ++ [v]) := by
  rw [put_new]
  · unfold dkv
    rw [List.map_append, List.zip_append (by rw [List.length_map, e])]
    rfl
  · rw [dkv_keys e.symm]
    intro z
    obtain ⟨x, hx, ex⟩ := List.mem_map.mp z
    have ex2 : x = d := Sum.inr.inj ex
    exact (List.nodup_append.mp nd).2.2 x hx d List.mem_cons_self ex2
/-- {k: e for k in d} -/
theorem dc_keysS {d : Addr} {od : Obj} {ds : List Str} {us : List V} {tv : TE} {fv : Str → V} {σ : L2.St} {i : Nat} {H1 : Hp} {Q : Addr → Hp → Prop} (hd : H1 d = some (.frz od (.dK (dkv ds us)))) (ul : us.length = ds.length) (nd : ds.Nodup) (hn : ds.length ≤ 1000)
    (w1 : ∀ v, wipe ((wipe σ [i]).set i (some v)) [i] = wipe σ [i]) (s1 : ∀ v, ((wipe σ [i]).set i (some v))[i]? = some (some v))
    (ev : ∀ (z : Str) (H2 : Hp) (Q : VK), z ∈ ds → Sm H1 H2 → Q (fv z) H2 → tv ((wipe σ [i]).set i (some (.str z))) H2 Q)
    (q : ∀ (D : Addr) (H2 : Hp), Sm H1 H2 → H1 D = none → H2 D = some (.dK (dkv ds (ds.map fv))) → Q D H2) : DcR (gName i) (tVar i) tv σ [i] H1 Q (Itk d od (dkv ds us)) := by
  have kl : (dkv ds us).length = ds.length := dkv_len ul
  refine dc_it walk_keys w1 (fun D j H => H D = some (.dK (dkv (ds.take j) ((ds.take j).map fv))) ∧ Sm H1 H) (fun D nD => ⟨upd_same, Sm.new nD⟩) (fun D j H _ p => p.2 _ _ hd) (fun D j x H H' nD hj p y => ?_) (fun D H nD p => ?_)
  · obtain ⟨ed, sm⟩ := p
    obtain ⟨rfl, k, v, ekv, rfl⟩ := y
    obtain ⟨z, ez, rfl, _⟩ := dkv_at ekv
    have tk : ds.take (j + 1) = ds.take j ++ [z] := by
      rw [List.take_add_one, ez]
      rfl
    refine ⟨_, s1 _, ev z _ _ (List.mem_of_getElem? ez) sm ⟨_, .inr z, rfl, ed, ?_, ?_, ?_⟩⟩
    · rw [dkv_len (by rw [List.length_map]), List.length_take, sizeLine_eq]
      omega
    · rw [upd_same, put_dkvV (by rw [List.length_map]) (by rw [← tk]; exact nd.sublist (List.take_sublist _ _)), tk, List.map_append]
      rfl
    · intro b o e
      rw [upd_ne (ne_of_none e nD)]
      exact sm _ _ e
  · obtain ⟨ed, sm⟩ := p
    rw [kl, List.take_length] at ed
    exact q D H sm nD ed
section
variable {P : Program} {w : World} {K : PySem.W.Frag} {mg : Str → Option Value} {base : Heap} {f C fO fL fS pS gS : Addr} {fd dO dL dS dG : FuncData}
end

/-! ### _law_apart -/
/-- for each standing a list of those to which the deeds lead -/
structure NxAt (H : Hp) (n : Addr) (ws ds : List Str) (bs : List Addr) (nx : Str → Str → Str) : Prop where
  at_ : H n = some (.dK (dkv ws (bs.map V.ref)))
  rows : Paired (fun b z => H b = some (.lst ((ds.map (nx z)).map V.str))) bs ws
theorem NxAt.sm {H G : Hp} {n : Addr} {ws ds : List Str} {bs : List Addr} {nx : Str → Str → Str} (h : NxAt H n ws ds bs nx) (m : Sm H G) : NxAt G n ws ds bs nx := ⟨m _ _ h.at_, pair_mono h.rows fun b _ z e => m _ _ e⟩
theorem NxAt.row {H : Hp} {n : Addr} {ws ds : List Str} {bs : List Addr} {nx : Str → Str → Str} (m : NxAt H n ws ds bs nx) {z : Str} (hz : z ∈ ws) : ∃ b, valV (dkv ws (bs.map V.ref)) (.inr z) = some (.ref b) ∧ H b = some (.lst ((ds.map (nx z)).map V.str)) := by
  have bl : bs.length = ws.length := paired_len m.rows
  have il := idx_lt hz
  have e1 : bs[ws.idxOf z]? = some (bs[ws.idxOf z]'(by omega)) := List.getElem?_eq_getElem _
  obtain ⟨z2, e2, e3⟩ := pair_at m.rows e1
  rw [List.getElem?_eq_getElem il, List.getElem_idxOf il] at e2
  cases Option.some.inj e2
  exact ⟨_, by rw [dkv_get (by rw [List.length_map, bl]) hz, List.getElem?_map, e1]; rfl, e3⟩
/-- what the table tells of the pairs that at most m deeds part -/
def FarTo (nx : Str → Str → Str) (lk : Str → Str) (ws ds : List Str) (m : Nat) (far : List (St2 × V)) : Prop := ∀ z ∈ ws, ∀ y ∈ ws, (∀ k, k ≤ m → Ap.Min nx lk ds z y k → valV far (pr z y) = some (.int k)) ∧ ((∀ k, k ≤ m → ¬ Ap.Min nx lk ds z y k) → valV far (pr z y) = none)
def FarAll (nx : Str → Str → Str) (lk : Str → Str) (ws ds : List Str) (far : List (St2 × V)) : Prop := ∀ z ∈ ws, ∀ y ∈ ws, (∀ k, Ap.Min nx lk ds z y k → valV far (pr z y) = some (.int k)) ∧ ((∀ k, ¬ Ap.Sep nx lk ds z y k) → valV far (pr z y) = none)
theorem pr_inj {z y z2 y2 : Str} (h : pr z y = pr z2 y2) : z = z2 ∧ y = y2 := by
  unfold pr at h
  have h1 := (List.cons.inj h).1
  have h2 := (List.cons.inj (List.cons.inj h).2).1
  exact ⟨Sum.inr.inj h1, Sum.inr.inj h2⟩
theorem some_of_far {nx : Str → Str → Str} {lk : Str → Str} {ws ds : List Str} {m : Nat} {far : List (St2 × V)} (F : FarTo nx lk ws ds m far) {z y : Str} (hz : z ∈ ws) (hy : y ∈ ws) (h : (valV far (pr z y)).isSome = true) : ∃ k, k ≤ m ∧ Ap.Min nx lk ds z y k := by
  refine Classical.byContradiction fun n => ?_
  rw [(F z hz y hy).2 fun k hk hm => n ⟨k, hk, hm⟩] at h
  cases h
theorem far_next {nx : Str → Str → Str} {lk : Str → Str} {ws ds : List Str} {m : Nat} {far : List (St2 × V)} (F : FarTo nx lk ws ds m far) (cl : ∀ z ∈ ws, ∀ d ∈ ds, nx z d ∈ ws) {z y : Str} (hz : z ∈ ws) (hy : y ∈ ws) (h : valV far (pr z y) = none) :
    (∃ d ∈ ds, (valV far (pr (nx z d) (nx y d))).isSome = true) ↔ Ap.Min nx lk ds z y (m + 1) := by
  constructor
  · rintro ⟨d, hd, e⟩
    obtain ⟨k, hk, mk⟩ := some_of_far F (cl z hz d hd) (cl y hy d hd) e
    obtain ⟨j, hj, mj⟩ := Ap.min_some (Ap.sep_succ.mpr ⟨d, hd, mk.1⟩)
    by_cases c : j ≤ m
    · rw [(F z hz y hy).1 j c mj] at h
      cases h
    · have e : j = m + 1 := by omega
      rw [e] at mj
      exact mj
  · intro hm
    obtain ⟨d, hd, m2⟩ := Ap.min_succ hm
    exact ⟨d, hd, by rw [(F _ (cl z hz d hd) _ (cl y hy d hd)).1 m (Nat.le_refl _) m2]; rfl⟩
theorem far_not {nx : Str → Str → Str} {lk : Str → Str} {ws ds : List Str} {m : Nat} {far : List (St2 × V)} (F : FarTo nx lk ws ds m far) {z y : Str} (hz : z ∈ ws) (hy : y ∈ ws) (h : (valV far (pr z y)).isSome = true) : ¬ Ap.Min nx lk ds z y (m + 1) := fun hm => by
  obtain ⟨k, hk, mk⟩ := some_of_far F hz hy h
  have := Ap.min_one hm mk
  omega
theorem dp_prs {K : PySem.W.Frag} {G : Hp} {ts : List Addr} {ps : List St2} (h : Paired (fun t (k : St2) => G t = some (.tup (k.map kV)) ∧ ∃ z y, k = pr z y ∧ IsWord z ∧ IsWord y) ts ps) : ∃ ds, DpAll K G (ts.map V.ref) ds ∧ PyData.canLayAll0 ds = true ∧ PyData.depthAll ds ≤ 2 ∧ ds.length = ps.length := by
  induction h with
  | nil => exact ⟨[], .nil, by simp [PyData.canLayAll0], by simp [PyData.depthAll], rfl⟩
  | @cons t k ts ps h _ ih =>
    obtain ⟨ds, i1, i2, i3, i4⟩ := ih
    obtain ⟨e, z, y, rfl, hz, hy⟩ := h
    have l := lay_strs (ws := [z, y]) fun x hx => by
      rcases List.mem_cons.mp hx with a | a
      · rw [a]
        exact hz
      · rw [List.mem_singleton.mp a]
        exact hy
    refine ⟨.tuple ([z, y].map PyData.str) :: ds, .cons (.tup (.inl (.inl e)) (dp_strs [z, y])) i1, ?_, ?_, by simp [i4]⟩
    · simp only [PyData.canLayAll0, PyData.canLay0, l.1, i2, Bool.and_true]
    · have := l.2
      simp only [PyData.depthAll, PyData.depth]
      omega
theorem shaped_two {ds : List PyData} (h1 : PyData.canLayAll0 ds = true) (h2 : PyData.depthAll ds ≤ 2) : SeqAt.shaped (.list ds) = true := by
  unfold SeqAt.shaped
  have c : (PyData.list ds).canLay0 = true := by simpa [PyData.canLay0] using h1
  rw [c, Bool.true_and]
  refine decide_eq_true ?_
  simp only [PyData.depth]
  omega
theorem shaped_nil : SeqAt.shaped (.list []) = true := shaped_two (by simp [PyData.canLayAll0]) (by simp [PyData.depthAll])
theorem pairs_take {ws : List Str} {i : Nat} {z : Str} (h : ws[i]? = some z) : pairs (ws.take (i + 1)) = pairs (ws.take (i + 1)) := rfl
/-- the pairs gone through: all of the first i, and of the next one the first j -/
def gone (ws : List Str) (i : Nat) : List St2 := (ws.take i).flatMap fun z => ws.map fun y => pr z y
theorem gone_next {ws : List Str} {i : Nat} {z : Str} (h : ws[i]? = some z) : gone ws (i + 1) = gone ws i ++ ws.map (pr z) := by
  unfold gone
  rw [List.take_add_one, h, List.flatMap_append]
  simp
theorem gone_all {ws : List Str} : gone ws ws.length = pairs ws := by
  unfold gone pairs
  rw [List.take_length]
abbrev nApart : List Str := ["_law_names_here", "_law_visible", "_law_nexts_here", "_law_far", "_law_one", "_law_other", "_law_many_here", "_law_more", "_law_pair", "_law_at"]
section
variable {P : Program} {w : World} {K : PySem.W.Frag} {mg : Str → Option Value} {base : Heap} {f : Addr} {fd : FuncData}
open Classical in
end
end Dk
set_option Elab.async false
set_option linter.all false
set_option maxRecDepth 100000
set_option maxHeartbeats 8000000
namespace Dk
open PySem PySem.Spec PyProof.Rows L2 Er LamX NdefX
/-! ### desk_lots; Desk.lead of what can be led; Desk.deeds -/
abbrev nDo : List Str := ["desk"]
/-- a desk, its leads held by a walk or not -/
def DeskR (K : PySem.W.Frag) (C : Addr) (H : Hp) (x : Addr) (ws ds : List Str) (tb : List (List Str)) : Prop := ∃ (dx st ld si : Addr) (as : List Addr), H x = some (.ins C dx (fldsOf st ld si)) ∧ SqT K H st (ws.map V.str) ∧ Rd H ld (.dK (dkv ds (as.map V.ref))) ∧
  Paired (fun a vs => H a = some (.dK (dkv ws (vs.map V.str)))) as tb
theorem DeskOb.r {K : PySem.W.Frag} {C : Addr} {H : Hp} {x : Addr} {ws ds : List Str} {tb : List (List Str)} {ls : List Str} (h : DeskOb K C H x ws ds tb ls) : DeskR K C H x ws ds tb := by
  obtain ⟨dx, st, ld, si, as, hx, hst, hld, _, pr⟩ := h
  exact ⟨dx, st, ld, si, as, hx, hst, .inl hld, pr⟩
theorem DeskR.sm {K : PySem.W.Frag} {C : Addr} {H G : Hp} {x : Addr} {ws ds : List Str} {tb : List (List Str)} (h : DeskR K C H x ws ds tb) (m : Sm H G) : DeskR K C G x ws ds tb := by
  obtain ⟨dx, st, ld, si, as, hx, hst, hld, pr⟩ := h
  exact ⟨dx, st, ld, si, as, m _ _ hx, SqT.sm hst m, Rd.sm hld m, pair_mono pr fun a _ vs e => m _ _ e⟩
def spLead0 (K : PySem.W.Frag) (C : Addr) : Sp := fun vs H Q _ => ∃ (x r : Addr) (z : Str) (row ws ds : List Str) (tb : List (List Str)) (ls : List Str) (m : Nat), vs = [.ref x, .str z, .ref r] ∧ DeskR K C H x ws ds tb ∧ DkIs m ws ds tb ls ∧ SqL K H r (row.map V.str) ∧ row.length ≤ 1000 ∧ z ∈ ws ∧ (∀ d ∈ row, d ∈ ds) ∧
  ∀ H', Sm H H' → ledBy ws ds tb z row ∈ ws → Q (.str (ledBy ws ds tb z row)) H'
def spDds (K : PySem.W.Frag) (C : Addr) : Sp := fun vs H Q _ => ∃ (x : Addr) (ws ds : List Str) (tb : List (List Str)) (ls : List Str), vs = [.ref x] ∧ DeskOb K C H x ws ds tb ls ∧ tb.length = ds.length ∧ ∀ q G, Sm H G → H q = none → G q = some (.tup (ds.map V.str)) → Q (.ref q) G
theorem scDds : FnScope nSelf nSelf (defScope (meth 2)) := ⟨rfl, rfl, rfl, by decide +kernel, rfl, by decide +kernel, by decide +kernel⟩
section
variable {P : Program} {w : World} {K : PySem.W.Frag} {mg : Str → Option Value} {base : Heap} {f C fO fN fS fM pS gS : Addr} {fd dO dN dS dM dG : FuncData}
theorem bLead0 (F : FunD K "lead" "Desk.lead" (defArgs (meth 4)) (defBody (meth 4)) (defScope (meth 4)) [] [] f fd) : Binds K fd ["self", "standing", "row"] [] := F.bindsN fun _ _ _ _ _ _ us hl => match us, hl with
  | [_, _, _], _ => rfl
theorem bDds (F : FunD K "deeds" "Desk.deeds" (defArgs (meth 2)) (defBody (meth 2)) (defScope (meth 2)) [] [] f fd) : Binds K fd nSelf [] := F.bindsN fun _ _ _ _ _ _ us hl => match us, hl with
  | [_], _ => rfl
theorem ok_lead0 (F : FunD K "lead" "Desk.lead" (defArgs (meth 4)) (defBody (meth 4)) (defScope (meth 4)) [] [] f fd) (hC : Cls K C) (n1 : NoAttr K C "_standings") (n2 : NoAttr K C "_leads")
    (me : mg "enumerate" = none) (GO : FnOk P w K mg base CX0 1 fO dO nOneOf (spOneOf K)) (FO : FnP K "is_one_of" (top 19) fO dO) (gO : mg "is_one_of" = some (.ref fO)) : FnOk P w K mg base CX0 2 f fd ["self", "standing", "row"] (spLead0 K C) := by
  refine F.ok (CX := CX0) scLeadD (fun vs H Q E h => ?_) (fun cdv A outer s H vs Q E hr h => ?_)
  · obtain ⟨x, r, z, row, ws, ds, tb, ls, m, rfl, _⟩ := h
    rfl
  · refine ⟨_, PSs.nox (pss_cons (ps_if (pt_not (pt_val (by exact (pe_call GO hr rfl gO FO.kp (bOne FO) .nil pass0 (pa_cons (pv 1) (pa_cons (by exact (pe_fld (pv 0) rfl)) pa_nil)))))) (pss_one ps_never) pss_nil)
      (pss_cons (ps_for PassesOwn.never rfl (pi_enum rfl me (pa_cons (pv 2) pa_nil)) (pg_tup rfl (pgs_cons (pg_name (i := 3) scLeadD.nd rfl (.inl rfl)) (pgs_cons (pg_name (i := 4) scLeadD.nd rfl (.inl rfl)) pgs_nil)))
        (pss_cons (ps_if (pt_not (pt_val (by exact (pe_call GO hr rfl gO FO.kp (bOne FO) .nil pass0 (pa_cons (pv 4) (pa_cons (by exact (pe_fld (pv 0) rfl)) pa_nil)))))) (pss_one ps_never) pss_nil)
          (pss_one (ps_set (i := 1) scLeadD.nd rfl (.inl rfl) (by exact (pe_dget (hu_of hr) (by exact (pe_dget (hu_of hr) (by exact (pe_fld (pv 0) rfl)) (by exact (pv 4)) (fun _ _ => rfl))) (by exact (pv 1)) (fun _ _ => rfl)))))))
      (pss_one (ps_ret (pv 1))))), ?_⟩
    obtain ⟨x, r, z, row, ws, ds, tb, ls, m, rfl, ⟨dx, st, ld, si, as, hx, hst, hld, pr⟩, is, hr0, xl, hz, hrow, q⟩ := h
    refine ⟨_, rfl, _, rfl, x, C, dx, _, _, rfl, hx, hC, n1, rfl, .str z, st, rfl, ?_⟩
    refine .inl ⟨z, ws, rfl, .inr (.inl hst), _, rfl, ?_⟩
    rw [decide_eq_true hz]
    refine iteF ⟨_, rfl, r, row.map V.str, rfl, hr0, ?_⟩
    have al : as.length = ds.length := by rw [paired_len pr, is.rows]
    refine for_it (walk_enum (xs := row.map V.str)) (fun i σ G => ∃ (v3 v4 : Option V), σ = [some (.ref x), some (.str (ledBy ws ds tb z (row.take i))), some (.ref r), v3, v4] ∧ ledBy ws ds tb z (row.take i) ∈ ws ∧ Sm H G) ⟨none, none, rfl, hz, Sm.refl _⟩ (fun i σ G _ p => ?_) (fun i y σ G G' hi p yy => ?_) (fun σ G p => ?_)
    · obtain ⟨_, _, _, _, mm⟩ := p
      exact SqL.sm hr0 mm
    · obtain ⟨v3, v4, rfl, hin, mm⟩ := p
      obtain ⟨T, x1, x2, rfl, hT, rfl, e1, e2⟩ := yy
      have e1 := Option.some.inj e1
      subst e1
      have m2 := mm.trans (Sm.new (o := .tup [.int (i : Nat), x2]) hT)
      obtain ⟨d, ed, rfl⟩ : ∃ d, row[i]? = some d ∧ x2 = .str d := by
        have e3 : (row.map V.str)[i]? = some x2 := e2
        rw [List.getElem?_map] at e3
        cases e4 : row[i]? with
        | none =>
          rw [e4] at e3
          cases e3
        | some d =>
          rw [e4] at e3
          exact ⟨d, rfl, (Option.some.inj e3).symm⟩
      refine ⟨T, _, rfl, .inl (.inl upd_same), rfl, _, _, rfl, _, _, rfl, rfl, ?_⟩
      generalize upd G T (.tup [.int (i : Nat), .str d]) = G2 at m2 ⊢
      have hd := hrow d (List.mem_of_getElem? ed)
      refine ⟨_, rfl, _, rfl, x, C, dx, _, _, rfl, m2 _ _ hx, hC, n2, rfl, .str d, ld, rfl, .inl ⟨d, ds, rfl, .inr (.inr ⟨as.map V.ref, Rd.sm hld m2, by rw [List.length_map, al]⟩), _, rfl, ?_⟩⟩
      rw [decide_eq_true hd]
      have pr2 : Paired (fun a vs => G2 a = some (.dK (dkv ws (vs.map V.str)))) as tb := pair_mono pr fun a _ vs e => m2 _ _ e
      obtain ⟨a, b1, b2, b3⟩ := ob_step pr2 is hd hin
      refine iteF ⟨_, rfl, x, C, dx, _, _, rfl, m2 _ _ hx, hC, n2, rfl, _, rfl, ld, .ref a, rfl, .inl ⟨_, .inr d, Rd.sm hld m2, rfl, b1.symm⟩, _, rfl, a, _, rfl, b2, some (.int (i : Nat)), some (.str d), ?_, ?_, m2⟩
      · rw [led_more ed]
        rfl
      · rw [led_more ed]
        exact b3
    · obtain ⟨v3, v4, rfl, hin, mm⟩ := p
      rw [List.length_map, List.take_length] at hin
      rw [List.length_map, List.take_length]
      exact ⟨_, rfl, q G mm hin⟩
theorem ok_dds (F : FunD K "deeds" "Desk.deeds" (defArgs (meth 2)) (defBody (meth 2)) (defScope (meth 2)) [] [] f fd) (hC : Cls K C) (n2 : NoAttr K C "_leads") (mT : mg "tuple" = none) : FnOk P w K mg base CX0 1 f fd nSelf (spDds K C) := by
  refine F.ok (CX := CX0) scDds (fun vs H Q E h => ?_) (fun cdv A outer s H vs Q E hr h => ?_)
  · obtain ⟨x, ws, ds, tb, ls, rfl, _⟩ := h
    rfl
  · refine ⟨_, PSs.nox (pss_one (ps_ret (by exact (pe_callTy (call_tup_dK rfl) rfl mT PyProof.Rows.boot_tuple (pa_cons (by exact (pe_fld (pv 0) rfl)) pa_nil))))), ?_⟩
    obtain ⟨x, ws, ds, tb, ls, rfl, ⟨dx, st, ld, si, as, hx, hst, hld, hsi, pr⟩, tl, q⟩ := h
    have al : as.length = ds.length := by rw [paired_len pr, tl]
    refine ⟨_, rfl, x, C, dx, _, _, rfl, hx, hC, n2, rfl, ld, _, rfl, hld, fun p np => ?_⟩
    rw [keys_dkv (by rw [List.length_map, al])]
    exact q p _ (Sm.new np) np upd_same
end
end Dk
set_option Elab.async false
set_option linter.all false
set_option maxRecDepth 100000
set_option maxHeartbeats 4000000
namespace Dk
open PySem PySem.Spec PyProof.Rows L2 Er LamX NdefX
/-! ### name = {k: e for ..} on one line, the name a local -/
section
variable {X : Cx} {i : Nat} {y : Str} {py : Pos} {kx vx tg iter : Expr} {ifs : List Expr} {scope : Scope} {own : List (Str × Nat)} {pos spos : Pos} {wi : TI} {g : TG} {tt : TT} {tk tv : TE}
/-- read in a comprehension's own block -/
abbrev InBlk (X : Cx) (scope : Scope) (p : Cx → Prop) : Prop := ∀ (s : Shared) (H : Hp) (C : Addr) (cl : List (Str × Addr)) (fp : List Addr), p (X.blk s H scope (compEnvC scope cl C X.env) fp)
theorem ps_setDc (hc : X.calm = true) (hN : X.N.Nodup) (hy : X.N[i]? = some y) (hyl : X.env.scope.names.lookup y = some .local) (hsw : swapsWith (.DictComp kx vx [⟨tg, iter, ifs, 0⟩] scope pos) (some (.Name y py)) spos.line X.env = pure true)
    (hi : PI X tg iter wi) (ok : BlkOk X.N X.env.scope scope own) (hg : InBlk X scope fun B => PG B tg g) (ht : InBlk X scope fun B => PTs B ifs tt) (hk : InBlk X scope fun B => PE B kx tk) (he : InBlk X scope fun B => PE B vx tv) (hs : ∀ x, foldedSetIterable iter X.env x = pure x := by intro _; rfl) :
    PS X (.Assign [.Name y py] (.DictComp kx vx [⟨tg, iter, ifs, 0⟩] scope pos) spos) (tAsg (tDc wi g tt tk tv (own.map (·.2))) (gName i)) := by
  refine ⟨fun ps s σ H D I h => ?_⟩
  rw [exec_Assign_Name_used _ _ _ _ hsw]
  refine wpAny_bind (wpAny_standAt (wpAny_bind ?_))
  show wpAny _ X.A (do let _ ← comprehension (.DictComp kx vx [⟨tg, iter, ifs, 0⟩] scope pos) scope X.env (firstIterPos [⟨tg, iter, ifs, 0⟩] pos) newDict false (eval iter X.env) (some (assign (.Name y py) X.env))) _ _ s
  have h : tDc wi g tt tk tv (own.map (·.2)) σ H (fun x H1 => gName i x σ H1 D.nx) := h
  refine wpAny_bind (thn (dc_core (Qf := fun _ s2 => SP X ps D .next s2) hc hN I hi ok hg ht hk he hs h fun L C s2 m H2 I2 q hn ⟨f0, f1, _, f3, f4, f5⟩ => ?_) fun _ _ hq => wpAny_pure (wpAny_pure hq))
  refine (show wpAny _ _ (assign (.Name y py) X.env (.ref L)) _ _ _ from wpAny_assign_Name (store_ok2 (v := V.ref L) I2 hN hy (.inl hyl) rfl (fun s3 I3 ⟨a, sb, ha⟩ => ⟨m, hn.sameBut sb ?_, fun h3 sb3 => ⟨_, H2, I3.turned (t' := s3.toks) (fun b o hb e => (sb3.2 b hb).trans e) f0 f1 f3 f4 f5, q⟩⟩) (.inr hyl)))
  rcases ha with z | z
  · exact z ▸ f1
  · exact fun e => f4 y a z e.symm
theorem sw_dict {gs : List Comprehension} {l : Nat} {env : Env} (hk : env.scope.kind = .function) (hy : env.scope.names.lookup y = some .local) (hl : (py.line == pos.line) = true) (ha : (scope.names.any fun (n, k) => n == y && (k == .local || k == .cell)) = false) :
    swapsWith (.DictComp kx vx gs scope pos) (some (.Name y py)) l env = pure true := by
  have h1 : env.kindOf y = some .local := hy
  have h2 : env.blockKind = .function := by
    unfold Env.blockKind
    rw [hk]
    rfl
  unfold swapsWith
  simp only [h2, h1, ha, Expr.pos, hl]
  rfl
end
end Dk
set_option Elab.async false
set_option linter.all false
set_option maxRecDepth 100000
set_option maxHeartbeats 4000000
namespace Dk
open PySem PySem.Spec PyProof.Rows L2 Er LamX NdefX
/-! ### sorted(xs), xs a list of tuples of numbers, or of texts, of any length -/
/-- how an entry stands: a value, and as data -/
structure Ent1 (κ : Type) where
  v : κ → V
  e : κ → PyData
  dp : ∀ (K : PySem.W.Frag) (H : Hp) (L : List κ), DpAll K H (L.map v) (L.map e)
  al : ∀ a b, PySem.W.alike (e a) (e b) = true
  d0 : ∀ a, (e a).depth = 0
  ok : κ → Prop
  lay : ∀ a, ok a → (e a).canLay0 = true
  eq : ∀ a b, PyData.eqv (e a) (e b) = true ↔ a = b
def entI : Ent1 Int where
  v := V.int
  e := PyData.int
  dp := fun K H L => by
    induction L with
    | nil => exact .nil
    | cons a L ih => exact .cons (.int a) ih
  al := fun a b => by simp [PySem.W.alike]
  d0 := fun a => by simp [PyData.depth]
  ok := fun _ => True
  lay := fun a _ => by simp [PyData.canLay0]
  eq := fun a b => by simp [PyData.eqv]
def entS : Ent1 Str where
  v := V.str
  e := PyData.str
  dp := fun K H L => by
    induction L with
    | nil => exact .nil
    | cons a L ih => exact .cons (.str a) ih
  al := fun a b => by simp [PySem.W.alike]
  d0 := fun a => by simp [PyData.depth]
  ok := fun z => PyData.strOk z = true
  lay := fun a h => by
    rw [PyData.canLay0]
    exact h
  eq := fun a b => by simp [PyData.eqv]
section
variable {κ : Type} (N : Ent1 κ)
theorem Ent1.alAll : ∀ L M : List κ, PySem.W.alikeAll (L.map N.e) (M.map N.e) = true
  | [], _ => by simp [PySem.W.alikeAll]
  | a :: L, [] => by simp [PySem.W.alikeAll]
  | a :: L, b :: M => by
    show PySem.W.alikeAll (N.e a :: L.map N.e) (N.e b :: M.map N.e) = true
    rw [PySem.W.alikeAll, N.al, Ent1.alAll L M]
    rfl
theorem Ent1.dAll : ∀ L : List κ, PyData.depthAll (L.map N.e) = 0
  | [] => by simp [PyData.depthAll]
  | a :: L => by
    show PyData.depthAll (N.e a :: L.map N.e) = 0
    rw [PyData.depthAll, N.d0, Ent1.dAll L]
    rfl
theorem Ent1.layAll : ∀ L : List κ, (∀ a ∈ L, N.ok a) → PyData.canLayAll0 (L.map N.e) = true
  | [], _ => by simp [PyData.canLayAll0]
  | a :: L, h => by
    show PyData.canLayAll0 (N.e a :: L.map N.e) = true
    rw [PyData.canLayAll0, N.lay a (h a List.mem_cons_self), Ent1.layAll L fun b hb => h b (List.mem_cons_of_mem _ hb)]
    rfl
theorem Ent1.eqAll : ∀ L M : List κ, PyData.eqvAll (L.map N.e) (M.map N.e) = true ↔ L = M
  | [], [] => by simp [PyData.eqvAll]
  | [], b :: M => by simp [PyData.eqvAll]
  | a :: L, [] => by simp [PyData.eqvAll]
  | a :: L, b :: M => by
    show PyData.eqvAll (N.e a :: L.map N.e) (N.e b :: M.map N.e) = true ↔ _
    rw [PyData.eqvAll, Bool.and_eq_true, N.eq, Ent1.eqAll L M, List.cons.injEq]
def Ent1.tp (L : List κ) : PyData := .tuple (L.map N.e)
theorem Ent1.tp_eq [DecidableEq κ] {L M : List κ} : PyData.eqv (N.tp L) (N.tp M) = decide (L = M) := by
  rw [Bool.eq_iff_iff, decide_eq_true_iff]
  unfold Ent1.tp
  rw [PyData.eqv]
  exact N.eqAll L M
theorem Ent1.tp_any [DecidableEq κ] {Ls : List (List κ)} {p : List κ} : ((Ls.map N.tp).any fun z => PyData.eqv z (N.tp p)) = decide (p ∈ Ls) := by
  rw [Bool.eq_iff_iff, List.any_eq_true, decide_eq_true_iff]
  constructor
  · rintro ⟨x, hx, e⟩
    obtain ⟨L, hL, rfl⟩ := List.mem_map.mp hx
    rw [N.tp_eq, decide_eq_true_iff] at e
    exact e ▸ hL
  · exact fun h => ⟨N.tp p, List.mem_map_of_mem h, by rw [N.tp_eq]; exact decide_eq_true rfl⟩
theorem Ent1.tp_lay {Ls : List (List κ)} (h : ∀ L ∈ Ls, ∀ a ∈ L, N.ok a) : PyData.canLayAll0 (Ls.map N.tp) = true ∧ PyData.depthAll (Ls.map N.tp) ≤ 1 := by
  induction Ls with
  | nil => exact ⟨by simp [PyData.canLayAll0], by simp [PyData.depthAll]⟩
  | cons L Ls ih =>
    obtain ⟨i1, i2⟩ := ih fun M hM => h M (List.mem_cons_of_mem _ hM)
    have c : (N.tp L).canLay0 = true := by
      unfold Ent1.tp
      rw [PyData.canLay0]
      exact N.layAll L (h L List.mem_cons_self)
    have d : (N.tp L).depth ≤ 1 := by
      unfold Ent1.tp
      rw [PyData.depth, N.dAll]
      omega
    constructor
    · rw [List.map_cons, PyData.canLayAll0, c, i1]
      rfl
    · rw [List.map_cons, PyData.depthAll]
      omega
theorem Ent1.tp_shaped {L : List κ} (h : ∀ a ∈ L, N.ok a) : SeqAt.shaped (N.tp L) = true := by
  obtain ⟨a, b⟩ := N.tp_lay (Ls := [L]) fun M hM => by rw [List.mem_singleton.mp hM]; exact h
  rw [List.map_singleton] at a b
  rw [PyData.canLayAll0] at a
  rw [PyData.depthAll] at b
  unfold SeqAt.shaped
  rw [(Bool.and_eq_true_iff.mp a).1, Bool.true_and]
  exact decide_eq_true (by omega)
theorem Ent1.ls_shaped {Ls : List (List κ)} (h : ∀ L ∈ Ls, ∀ a ∈ L, N.ok a) : SeqAt.shaped (.list (Ls.map N.tp)) = true := by
  obtain ⟨a, b⟩ := N.tp_lay h
  unfold SeqAt.shaped
  rw [PyData.canLay0, a, Bool.true_and, PyData.depth]
  exact decide_eq_true (by omega)
def Ent1.so (Ls : List (List κ)) : List (List κ) := Ls.mergeSort (PySem.W.dataLe false fun L => PyData.tuple (L.map N.e))
theorem Ent1.so_perm (Ls : List (List κ)) : (N.so Ls).Perm Ls := List.mergeSort_perm _ _
/-- a tuple of such entries stands at t -/
def Ent1.At (H : Hp) (t : Addr) (L : List κ) : Prop := H t = some (.tup (L.map N.v))
theorem Ent1.At.sm {H G : Hp} {t : Addr} {L : List κ} (h : N.At H t L) (m : Sm H G) : N.At G t L := m _ _ h
theorem Ent1.At.dp {K : PySem.W.Frag} {H : Hp} {t : Addr} {L : List κ} (h : N.At H t L) : Dp K H (.ref t) (N.tp L) := .tup (.inl (.inl h)) (N.dp _ _ L)
theorem Ent1.dps {K : PySem.W.Frag} {H : Hp} {ts : List Addr} {Ls : List (List κ)} (h : Paired (N.At H) ts Ls) : DpAll K H (ts.map V.ref) (Ls.map N.tp) := by
  induction h with
  | nil => exact .nil
  | cons e _ ih => exact .cons (Ent1.At.dp N e) ih
def rSortD (K : PySem.W.Frag) : List V → Hp → VK → Prop := fun vs H Q => ∃ (a : Addr) (ts : List Addr) (Ls : List (List κ)), vs = [.ref a] ∧ SqL K H a (ts.map V.ref) ∧ Paired (N.At H) ts Ls ∧ (∀ L ∈ Ls, L ≠ []) ∧
  ∀ (us : List Addr) (p : Addr), Paired (N.At H) us (N.so Ls) → H p = none → Q (.ref p) (upd H p (.lst (us.map V.ref)))
theorem vals_refs : ∀ {ts : List Addr} {us : List Value}, Vals (ts.map V.ref) us → us = ts.map Value.ref
  | [], _, h => by cases h; rfl
  | t :: ts, _, h => by
    cases h with
    | cons r1 r2 =>
      have r1 : _ = Value.ref t := r1
      rw [r1, vals_refs r2]
      rfl
theorem refs_vals : ∀ ts : List Addr, Vals (ts.map V.ref) (ts.map Value.ref)
  | [] => .nil
  | t :: ts => .cons rfl (refs_vals ts)
theorem cr_sortD {X : Cx} (hu : X.A.units + 64 < cLine) : CallR X (.builtin "sorted") (rSortD N X.K) := by
  intro pins s σ H vs us Q I r h
  obtain ⟨a, ts, Ls, rfl, hs, pp, ne, q⟩ := h
  rw [Vals.ref1 r]
  obtain ⟨its, rv, hl, hz⟩ := I.list hs
  rw [vals_refs rv] at hl
  have e1 : ∀ {ts : List Addr} {Ls : List (List κ)}, Paired (N.At H) ts Ls → PySem.W.EachIs (fun (v : Value) L => ∃ t, v = .ref t ∧ N.At H t L) (ts.map Value.ref) Ls := by
    intro ts Ls h
    induction h with
    | nil => exact .nil
    | cons h _ ih => exact .cons ⟨_, rfl, h⟩ ih
  have e2 : ∀ {vs : List Value} {Ls : List (List κ)}, PySem.W.EachIs (fun (v : Value) L => ∃ t, v = .ref t ∧ N.At H t L) vs Ls → ∃ us : List Addr, vs = us.map Value.ref ∧ Paired (N.At H) us Ls := by
    intro vs Ls h
    induction h with
    | nil => exact ⟨[], rfl, .nil⟩
    | cons h _ ih =>
      obtain ⟨us, rfl, i⟩ := ih
      obtain ⟨t, rfl, ht⟩ := h
      exact ⟨t :: us, rfl, .cons ht i⟩
  have E := e1 pp
  have er : PySem.W.EachIs (fun (v : Value) (L : List κ) => ∃ as, Reads s.heap v (PyData.tuple (L.map N.e)) as) (ts.map Value.ref) Ls := E.mono fun v L ⟨t, ev, ht⟩ => Dp.reads I _ (.ref t) v (.tup (.inl (.inl ht)) (N.dp _ _ L)) ev
  have hz2 : Ls.length ≤ sizeLine := by
    rw [← paired_len pp]
    rw [List.length_map] at hz
    exact hz
  refine PySem.W.sorted_data (enc := fun L => PyData.tuple (L.map N.e)) hl.isList E er (fun d hd d2 hd2 => ?_) (.inl fun d hd => ?_) hz2 (fun L hL => ?_) fun out ol hout => ?_
  · obtain ⟨L, _, rfl⟩ := List.mem_map.mp hd
    obtain ⟨M, _, rfl⟩ := List.mem_map.mp hd2
    show PySem.W.alike (PyData.tuple (L.map N.e)) (PyData.tuple (M.map N.e)) = true
    rw [PySem.W.alike]
    exact N.alAll L M
  · obtain ⟨L, hL, rfl⟩ := List.mem_map.mp hd
    cases L with
    | nil => exact absurd rfl (ne _ hL)
    | cons x L => exact ⟨N.e x, L.map N.e, rfl⟩
  · show X.A.units + 2 + (PyData.tuple (L.map N.e)).depth < cLine
    rw [PyData.depth, N.dAll]
    omega
  · obtain ⟨us, rfl, pu⟩ := e2 hout
    obtain ⟨ep, he'⟩ := PyProof.Rows.sortedAll_at s.heap (ts.map Value.ref) (us.map Value.ref).toArray
    have hlen : (us.map V.ref).length ≤ sizeLine := by
      rw [List.length_map] at ol ⊢
      omega
    exact ⟨.ref _, upd H (s.heap.objs.size + 1) (.lst (us.map V.ref)), I.laid (t' := s.toks) (fun _ _ => PyProof.Rows.sortedAll_old) (Nat.le_succ _) ⟨hlen, us.map Value.ref, ep, refs_vals us, he'⟩, rfl, q us _ pu (I.hok.fresh (Nat.le_succ _))⟩
end
end Dk
set_option Elab.async false
set_option linter.all false
set_option maxRecDepth 100000
set_option maxHeartbeats 8000000
namespace Dk
open PySem PySem.Spec PyProof.Rows L2 Er LamX NdefX
/-! ### comprehensions over a tuple: all, some -/
section
variable {κ : Type} (N : Ent1 κ) {K : PySem.W.Frag} {t D : Addr} {L : List κ} {σ : L2.St} {i : Nat} {H1 : Hp} {Qd : Hp → Prop}
theorem Ent1.at_ {j : Nat} {x : V} (e : (L.map N.v)[j]? = some x) : ∃ a, L[j]? = some a ∧ x = N.v a := by
  rw [List.getElem?_map] at e
  cases h : L[j]? with
  | none =>
    rw [h] at e
    cases e
  | some a =>
    rw [h] at e
    exact ⟨a, rfl, (Option.some.inj e).symm⟩
theorem lc_pick {p : κ → Bool} {tt : TT} (ht : SqT K H1 t (L.map N.v)) (nD : H1 D = none) (few : L.length ≤ 1000) (w1 : ∀ v, wipe ((wipe σ [i]).set i (some v)) [i] = wipe σ [i]) (s1 : ∀ v, ((wipe σ [i]).set i (some v))[i]? = some (some v))
    (ev : ∀ a ∈ L, ∀ (H2 : Hp) (Qt : Bool → Hp → Prop), Sm H1 H2 → (∀ G, Sm H2 G → Qt (p a) G) → tt ((wipe σ [i]).set i (some (N.v a))) H2 Qt) (q : ∀ H2, Sm H1 H2 → H2 D = some (.lst ((L.filter p).map N.v)) → Qd H2) :
    ∃ W : Nat → Nat → Hp → Prop, (∃ m, W 0 m (upd H1 D (.lst []))) ∧ ∀ j m H, W j m H → ((Itt K t).stop j H ∧ Qd H) ∨ ((Itt K t).go j H ∧ ∃ Nx : Hp → Prop, (∀ H', Nx H' → ∃ m', m' < m ∧ W (j + 1) m' H') ∧ ∀ x H', (Itt K t).yld j H x H' → gName i x (wipe σ [i]) H' fun σ2 H2 => wipe σ2 [i] = wipe σ [i] ∧ tt σ2 H2 fun b H3 =>
      if b = true then tVar i σ2 H3 fun y H4 => ∃ acc, H4 D = some (.lst acc) ∧ acc.length < sizeLine ∧ Nx (upd H4 D (.lst (acc ++ [y]))) else Nx H3) := by
  refine lc_it (walk_tup (xs := L.map N.v)) (vs := [i]) (g := gName i) (fun j G => G D = some (.lst (((L.take j).filter p).map N.v)) ∧ Sm H1 G) ⟨upd_same, Sm.new nD⟩ (fun j G _ h => SqT.sm ht h.2) (fun j x G G' hj h yy => ?_) (fun G h => ?_)
  · obtain ⟨eD, m⟩ := h
    obtain ⟨rfl, ex⟩ := yy
    obtain ⟨a, ea, rfl⟩ := N.at_ ex
    have tk : L.take (j + 1) = L.take j ++ [a] := by
      rw [List.take_add_one, ea]
      rfl
    refine ⟨w1 _, ev a (List.mem_of_getElem? ea) _ _ m fun G2 m2 => ?_⟩
    have eD := m2 _ _ eD
    have m := m.trans m2
    have e1 : (L.take (j + 1)).filter p = (L.take j).filter p ++ if p a = true then [a] else [] := by
      rw [tk, List.filter_append, List.filter_cons, List.filter_nil]
    rw [e1]
    cases c : p a with
    | true =>
      refine iteT ⟨_, s1 _, _, eD, ?_, ?_, fun b o e => ?_⟩
      · have h1 := List.length_filter_le p (L.take j)
        rw [List.length_take] at h1
        rw [List.length_map, sizeLine_eq]
        omega
      · rw [upd_same, if_pos rfl, List.map_append]
        rfl
      · rw [upd_ne (ne_of_none e nD)]
        exact m _ _ e
    | false =>
      refine iteF ⟨?_, m⟩
      rw [if_neg (by decide), List.append_nil]
      exact eD
  · obtain ⟨eD, m⟩ := h
    rw [List.length_map, List.take_length] at eD
    exact q G m eD
theorem lc_each {u : κ → V} {te : TE} (ht : SqT K H1 t (L.map N.v)) (nD : H1 D = none) (few : L.length ≤ 1000) (w1 : ∀ v, wipe ((wipe σ [i]).set i (some v)) [i] = wipe σ [i])
    (ev : ∀ a ∈ L, ∀ (H2 : Hp) (Q : VK), Sm H1 H2 → (∀ G, Sm H2 G → Q (u a) G) → te ((wipe σ [i]).set i (some (N.v a))) H2 Q) (q : ∀ H2, Sm H1 H2 → H2 D = some (.lst (L.map u)) → Qd H2) :
    ∃ W : Nat → Nat → Hp → Prop, (∃ m, W 0 m (upd H1 D (.lst []))) ∧ ∀ j m H, W j m H → ((Itt K t).stop j H ∧ Qd H) ∨ ((Itt K t).go j H ∧ ∃ Nx : Hp → Prop, (∀ H', Nx H' → ∃ m', m' < m ∧ W (j + 1) m' H') ∧ ∀ x H', (Itt K t).yld j H x H' → gName i x (wipe σ [i]) H' fun σ2 H2 => wipe σ2 [i] = wipe σ [i] ∧ tYes σ2 H2 fun b H3 =>
      if b = true then te σ2 H3 fun y H4 => ∃ acc, H4 D = some (.lst acc) ∧ acc.length < sizeLine ∧ Nx (upd H4 D (.lst (acc ++ [y]))) else Nx H3) := by
  refine lc_it (walk_tup (xs := L.map N.v)) (vs := [i]) (g := gName i) (fun j G => G D = some (.lst ((L.take j).map u)) ∧ Sm H1 G) ⟨upd_same, Sm.new nD⟩ (fun j G _ h => SqT.sm ht h.2) (fun j x G G' hj h yy => ?_) (fun G h => ?_)
  · obtain ⟨eD, m⟩ := h
    obtain ⟨rfl, ex⟩ := yy
    obtain ⟨a, ea, rfl⟩ := N.at_ ex
    have tk : L.take (j + 1) = L.take j ++ [a] := by
      rw [List.take_add_one, ea]
      rfl
    refine ⟨w1 _, ?_⟩
    unfold tYes
    dsimp only
    rw [if_pos rfl]
    refine ev a (List.mem_of_getElem? ea) _ _ m fun G2 m2 => ⟨_, m2 _ _ eD, ?_, ?_, fun b o e => ?_⟩
    · rw [List.length_map, List.length_take, sizeLine_eq]
      omega
    · rw [upd_same, tk, List.map_append]
      rfl
    · rw [upd_ne (ne_of_none e nD)]
      exact m2 _ _ (m _ _ e)
  · obtain ⟨eD, m⟩ := h
    rw [List.length_map, List.take_length] at eD
    exact q G m eD
end
/-! ### first_met -/
def fm (xs : List Str) : List Str := xs.foldl (fun acc x => if x ∈ acc then acc else acc ++ [x]) []
theorem fm_snoc {xs : List Str} {x : Str} : fm (xs ++ [x]) = if x ∈ fm xs then fm xs else fm xs ++ [x] := by
  unfold fm
  rw [List.foldl_append]
  rfl
theorem mem_fm {s : Str} : ∀ l : List Str, s ∈ fm l ↔ s ∈ l := by
  refine DkSet.rev_ind (by simp [fm]) fun l x ih => ?_
  rw [fm_snoc]
  split
  · rename_i h
    rw [List.mem_append, List.mem_singleton, ih]
    exact ⟨.inl, fun z => z.elim id fun e => e ▸ (ih.mp (e ▸ h : s ∈ fm l))⟩
  · rw [List.mem_append, List.mem_append, ih]
theorem fm_nd : ∀ l : List Str, (fm l).Nodup := by
  refine DkSet.rev_ind List.nodup_nil fun l x ih => ?_
  rw [fm_snoc]
  split
  · exact ih
  · rename_i h
    exact List.nodup_append.mpr ⟨ih, by simp, fun a ha b hb e => h (by rw [← List.mem_singleton.mp hb, ← e]; exact ha)⟩
theorem fm_len : ∀ l : List Str, (fm l).length ≤ l.length := by
  refine DkSet.rev_ind (Nat.le_refl _) fun l x ih => ?_
  rw [fm_snoc, List.length_append, List.length_singleton]
  split
  · omega
  · rw [List.length_append, List.length_singleton]
    omega
def spFm (K : PySem.W.Frag) : Sp := fun vs H Q _ => ∃ (a : Addr) (xs : List Str), vs = [.ref a] ∧ H a = some (.lst (xs.map V.str)) ∧ xs.length ≤ 1000 ∧ ∀ p G, Sm H G → H p = none → G p = some (.lst ((fm xs).map V.str)) → Q (.ref p) G
abbrev nFm : List Str := ["things", "thing"]
theorem scFm : FnScope nFm ["things"] (defScope (top 22)) := ⟨rfl, rfl, rfl, by decide +kernel, rfl, by decide +kernel, by decide +kernel⟩
open Classical in
theorem putK_keys {kvs : List (Key × V)} {k : Key} {v : V} : (putK kvs k v).map (·.1) = if k ∈ kvs.map (·.1) then kvs.map (·.1) else kvs.map (·.1) ++ [k] := by
  unfold putK
  by_cases c : k ∈ kvs.map (·.1)
  · have e : (kvs.any fun kv => decide (kv.1 = k)) = true := by
      rw [List.any_eq_true]
      obtain ⟨x, hx, e⟩ := List.mem_map.mp c
      exact ⟨x, hx, decide_eq_true e⟩
    rw [if_pos e, if_pos c, List.map_map]
    refine List.map_congr_left fun x _ => ?_
    show (if x.1 = k then (x.1, v) else x).1 = x.1
    split <;> rfl
  · have e : ¬ (kvs.any fun kv => decide (kv.1 = k)) = true := fun z => by
      rw [List.any_eq_true] at z
      obtain ⟨x, hx, e⟩ := z
      exact c (List.mem_map.mpr ⟨x, hx, of_decide_eq_true e⟩)
    rw [if_neg e, if_neg c, List.map_append]
    rfl
section
variable {P : Program} {w : World} {K : PySem.W.Frag} {mg : Str → Option Value} {base : Heap} {f : Addr} {fd : FuncData}
theorem bFm (F : FnP K "first_met" (top 22) f fd) : Binds K fd ["things"] [] := F.bindsN fun _ _ _ _ _ _ us hl => match us, hl with
  | [_], _ => rfl
theorem ok_fm (F : FnP K "first_met" (top 22) f fd) (mL : mg "list" = none) : FnOk P w K mg base CX0 1 f fd ["things"] (spFm K) := by
  refine F.ok (CX := CX0) scFm (fun vs H Q E h => ?_) (fun cdv A outer s H vs Q E hr h => ?_)
  · obtain ⟨a, xs, rfl, _⟩ := h
    rfl
  · refine ⟨_, PSs.nox (pss_one (ps_ret (by exact (pe_callTy (call_list_dK rfl) rfl mL PyProof.Rows.boot_list (pa_cons (by exact (pe_dc (own := [("thing", 1)]) (g := gName 1) (tt := tYes) (tk := tVar 1) (tv := tC (.bl true)) rfl scFm.nd (pi_list (pv 0))
      (blkOk_by (N := nFm) (sc := defScope (top 22)) (by decide +kernel)) (fun _ _ _ _ _ => pg_name (i := 1) scFm.nd rfl (Or.inl rfl)) (fun _ _ _ _ _ => pts_nil) (fun _ _ _ _ _ => by exact (pv 1)) (fun _ _ _ _ _ => by exact pe_bl))) pa_nil))))), ?_⟩
    obtain ⟨a, xs, rfl, ha, few, q⟩ := h
    refine ⟨_, rfl, a, rfl, ⟨xs.map V.str, .inl (.inl ha)⟩, ?_⟩
    refine dc_it walk_list (fun _ => rfl) (fun D j G => ∃ kvs : List (Key × V), G D = some (.dK kvs) ∧ kvs.map (·.1) = (fm (xs.take j)).map Sum.inr ∧ Sm H G) (fun D nD => ⟨[], upd_same, rfl, Sm.new nD⟩) (fun D j G _ ⟨_, _, _, mm⟩ => .inl (.inl (mm _ _ ha))) (fun D j x0 G G' nD hj p y => ?_) (fun D G nD p => ?_)
    · obtain ⟨kvs, eD, ek, mm⟩ := p
      obtain ⟨rfl, ex⟩ := y
      obtain ⟨z, ez, rfl⟩ := entS.at_ ex
      have tk : xs.take (j + 1) = xs.take j ++ [z] := by
        rw [List.take_add_one, ez]
        rfl
      refine ⟨_, rfl, kvs, .inr z, rfl, eD, ?_, _, upd_same, ?_, fun b o e => ?_⟩
      · have h1 := congrArg List.length ek
        rw [List.length_map, List.length_map] at h1
        have h2 := fm_len (xs.take j)
        rw [List.length_take] at h2
        rw [sizeLine_eq]
        omega
      · rw [putK_keys, ek, tk, fm_snoc]
        by_cases c : z ∈ fm (xs.take j)
        · rw [if_pos c, if_pos (List.mem_map_of_mem c)]
        · rw [if_neg c, if_neg (fun h => ?_), List.map_append]
          · rfl
          · obtain ⟨y, hy, e⟩ := List.mem_map.mp h
            exact c (Sum.inr.inj e ▸ hy)
      · rw [upd_ne (ne_of_none e nD)]
        exact mm _ _ e
    · obtain ⟨kvs, eD, ek, mm⟩ := p
      rw [List.length_map, List.take_length] at ek
      refine ⟨D, kvs, rfl, eD, fun l nl => q l _ (mm.trans (Sm.new nl)) (none_of_sm mm nl) ?_⟩
      rw [upd_same]
      have e : (kvs.map fun kv => kV kv.1) = (kvs.map (·.1)).map kV := by rw [List.map_map]; rfl
      rw [e, ek, List.map_map]
      rfl
end
end Dk
set_option Elab.async false
set_option linter.all false
set_option maxRecDepth 100000
set_option maxHeartbeats 8000000
namespace Dk
open PySem PySem.Spec PyProof.Rows L2 Er LamX NdefX
/-! ### functions, methods, properties with what they promise, in one -/
section
variable (P : Program) (w : World) (K : PySem.W.Frag) (mg : Str → Option Value) (base : Heap)
def Fx (CX : CXT) (k : Nat) (x : Str) (ps : List Str) (sp : Sp) : Prop := ∃ f d, FnOk P w K mg base CX k f d ps sp ∧ PySem.W.keepIn K (.ref f) = true ∧ mg x = some (.ref f) ∧ Binds K d ps []
def Mx (CX : CXT) (C : Addr) (k : Nat) (m : Str) (ps : List Str) (sp : Sp) : Prop := ∃ f d, FnOk P w K mg base CX k f d ps sp ∧ Meth K C m f ∧ Binds K d ps []
def Px (C : Addr) (k : Nat) (m : Str) (ps : List Str) (sp : Sp) : Prop := ∃ p g d, FnOk P w K mg base CX0 k g d ps sp ∧ PropOf K C m p g ∧ Binds K d ps []
def Cx_ (CX : CXT) (C : Addr) (k : Nat) (x : Str) (ps : List Str) (sp : Sp) : Prop := ∃ f d, FnOk P w K mg base CX k f d ps sp ∧ Mk K C f ∧ mg x = some (.ref C) ∧ Binds K d ps []
end
section
variable {X : Cx} {C : Addr} {j k : Nat} {x m : Str} {p pos apos : Pos} {e o : Expr} {es : List Expr} {ta : TE} {t : TA} {ps : List Str} {sp : Sp}
theorem pe_fx (F : Fx X.prog X.w X.K X.mg X.base CX0 k x ps sp) (hr : Room j X.A) (hk : k ≤ j) (hg : Gl X x) (ha : PA X (e :: es) t) (hdb : (x == ("__debug__" : Str)) = false := by decide)
    (he : starEach (e :: es) X.env = (false, eval e X.env) :: starEach es X.env := by rfl) (hpl : (backTo pos (starEach es X.env)).any (·.1) = false := by rfl) : PE X (.Call (.Name x p) (e :: es) [] pos) (tCall sp [] E0 t) := by
  obtain ⟨f, d, F, kp, gf, b⟩ := F
  exact pe_call F (hr.mono hk) hg gf kp b .nil pass0 ha hdb he hpl
theorem pe_mx {pl : Sem Bool} (F : Mx X.prog X.w X.K X.mg X.base CX0 C k m ps sp) (he : PE X o ta) (c : Cls X.K C) (hr : Room j X.A) (hk : k ≤ j) (ha : PA X (e :: es) t)
    (hst : starEach (e :: es) X.env = (false, eval e X.env) :: starEach es X.env := by rfl) (hpl : (backTo pos (starEach es X.env)).any (·.1) = false := by rfl)
    (ht : eval (.Call (.Attribute o m apos) (e :: es) [] pos) X.env = (do
      let ov ← eval o X.env
      standAt apos.atName
      let (f, first) ← holding [ov] (getMethod ov m pl)
      callWith pos f first (backTo pos (starEach (e :: es) X.env)) (backToKw pos (keywordEach [] X.env))) := by rfl) : PE X (.Call (.Attribute o m apos) (e :: es) [] pos) (tMeth C m sp [] E0 ta t) := by
  obtain ⟨f, d, F, M, b⟩ := F
  exact pe_meth he c M F (hr.mono hk) b .nil pass0 ha hst hpl ht
theorem pe_px (F : Px X.prog X.w X.K X.mg X.base C k m ps sp) (he : PE X e ta) (c : Cls X.K C) (hr : Room j X.A) (hk : k + 1 ≤ j) (hab : attributeBase e m X.env (eval e X.env) = eval e X.env) : PE X (.Attribute e m pos) (tProp C sp [] E0 ta) := by
  obtain ⟨p, g, d, F, M, b⟩ := F
  exact pe_prop he c M F (hr.mono hk) b .nil pass0 hab
theorem pe_cx (F : Cx_ X.prog X.w X.K X.mg X.base CX0 C k x ps sp) (hr : Room j X.A) (hk : k + 1 ≤ j) (hg : Gl X x) (ha : PA X (e :: es) t) (hdb : (x == ("__debug__" : Str)) = false := by decide)
    (he : starEach (e :: es) X.env = (false, eval e X.env) :: starEach es X.env := by rfl) (hpl : (backTo pos (starEach es X.env)).any (·.1) = false := by rfl) : PE X (.Call (.Name x p) (e :: es) [] pos) (tMake C sp [] E0 t) := by
  obtain ⟨f, d, F, M, g, b⟩ := F
  exact pe_make M F (hr.mono hk) hg g b .nil pass0 ha hdb he hpl
end
/-! ### a desk's data in one -/
structure DkD where
  ws : List Str
  ds : List Str
  tb : List (List Str)
  ls : List Str
deriving DecidableEq
abbrev DOb (K : PySem.W.Frag) (C : Addr) (H : Hp) (x : Addr) (D : DkD) : Prop := DeskOb K C H x D.ws D.ds D.tb D.ls
abbrev DkD.Is (D : DkD) : Prop := DkIs 9 D.ws D.ds D.tb D.ls
theorem DkD.eq_iff {D E : DkD} : D = E ↔ (D.ws = E.ws ∧ D.ls = E.ls ∧ D.ds = E.ds ∧ D.tb = E.tb) := by
  constructor
  · rintro rfl
    exact ⟨rfl, rfl, rfl, rfl⟩
  · obtain ⟨a, b, c, d⟩ := D
    obtain ⟨a2, b2, c2, d2⟩ := E
    rintro ⟨h1, h2, h3, h4⟩
    dsimp only at h1 h2 h3 h4
    rw [h1, h2, h3, h4]
/-! ### all_sights -/
def spAs (K : PySem.W.Frag) (CD : Addr) : Sp := fun vs H Q _ => ∃ (x : Addr) (D : DkD), vs = [.ref x] ∧ DOb K CD H x D ∧ D.Is ∧ ∀ p G, Sm H G → H p = none → G p = some (.lst ((fm D.ls).map V.str)) → Q (.ref p) G
abbrev nAs : List Str := ["desk", "standing"]
theorem scAs : FnScope nAs ["desk"] (defScope (top 35)) := ⟨rfl, rfl, rfl, by decide +kernel, rfl, by decide +kernel, by decide +kernel⟩
section
variable {P : Program} {w : World} {K : PySem.W.Frag} {mg : Str → Option Value} {base : Heap} {f CD : Addr} {fd : FuncData}
theorem ok_as (F : FnP K "all_sights" (top 35) f fd) (hC : Cls K CD) (PS_ : Px P w K mg base CD 1 "standings" nSelf (spStd CD)) (MS : Mx P w K mg base CX0 CD 2 "sight" nSight (spSight0 K CD)) (FM : Fx P w K mg base CX0 1 "first_met" ["things"] (spFm K)) :
    FnOk P w K mg base CX0 3 f fd ["desk"] (spAs K CD) := by
  refine F.ok (CX := CX0) scAs (fun vs H Q E h => ?_) (fun cdv A outer s H vs Q E hr h => ?_)
  · obtain ⟨x, D, rfl, _⟩ := h
    rfl
  · refine ⟨_, PSs.nox (pss_one (ps_ret (by exact (pe_fx FM hr (by decide) rfl (pa_cons (by exact (pe_lc (own := [("standing", 1)]) (g := gName 1) (tt := tYes) (te := tMeth CD "sight" (spSight0 K CD) [] E0 (tVar 0) (tCons (tVar 1) tNil)) rfl scAs.nd (pi_seq (by exact (pe_px PS_ (pv 0) hC hr (by decide) rfl)))
      (blkOk_by (N := nAs) (sc := defScope (top 35)) (by decide +kernel)) (fun _ _ _ _ _ => pg_name (i := 1) scAs.nd rfl (Or.inl rfl)) (fun _ _ _ _ _ => pts_nil) (fun _ _ _ _ _ => by exact (pe_mx MS (by exact (pv 0)) hC hr (by decide) (pa_cons (by exact (pv 1)) pa_nil))))) pa_nil))))), ?_⟩
    obtain ⟨x, D, rfl, ob, is, q⟩ := h
    obtain ⟨dx, st, ld, si, as, hx, hst, hld, hsi, _⟩ := id ob
    have w9 := is.most
    refine ⟨_, rfl, x, dx, _, rfl, hx, x, dx, st, ld, si, rfl, hx, st, D.ws.map V.str, rfl, ?_⟩
    refine lc_sv (fv := fun j => .str (D.ls.getD j ⟨#[]⟩)) (.inr hst) (by rw [List.length_map]; omega) (fun _ => rfl) (fun j v G Q2 ez m2 q2 => ?_) (fun L G m2 nD eD => ?_)
    · rw [List.getElem?_map] at ez
      cases e : D.ws[j]? with
      | none =>
        rw [e] at ez
        cases ez
      | some z =>
        rw [e] at ez
        obtain rfl : V.str z = v := Option.some.inj ez
        have jl : j < D.ls.length := by
          rw [is.looks]
          exact (List.getElem?_eq_some_iff.mp e).1
        have el : D.ls[j]? = some (D.ls[j]'jl) := List.getElem?_eq_getElem jl
        have q3 := q2 G (Sm.refl _)
        rw [List.getD_eq_getElem?_getD, el] at q3
        exact ⟨_, rfl, x, dx, _, rfl, m2 _ _ hx, rfl, _, rfl, x, z, D.ls[j]'jl, D.ws, D.ds, D.tb, D.ls, rfl, ob.sm m2, is.looks, List.mem_of_getElem? e, by rw [idx_of is.nd e]; exact el, q3⟩
    · refine ⟨L, D.ls, rfl, ?_, by rw [is.looks]; omega, fun p G2 m3 np e => q p G2 (m2.trans m3) (none_of_sm m2 np) e⟩
      rw [eD, List.length_map]
      congr 2
      refine List.ext_getElem (by rw [List.length_map, List.length_range, List.length_map, is.looks]) fun j h1 h2 => ?_
      rw [List.length_map] at h2
      rw [List.getElem_map, List.getElem_range, List.getElem_map, List.getD_eq_getElem?_getD, List.getElem?_eq_getElem h2]
      rfl
end
end Dk
set_option Elab.async false
set_option linter.all false
set_option maxRecDepth 100000
set_option maxHeartbeats 8000000
namespace Dk
open PySem PySem.Spec PyProof.Rows L2 Er LamX NdefX
/-! ### a change's data; what is read of it -/
def methC (i : Nat) : Stmt := (clsBody (top 34)).getD i (.Pass ⟨0, 0, 0, 0⟩)
structure ChD where
  pf : Str → Str
  rf : Str → List Str
  ef : Str → Str
structure ChD.Ok (X : ChD) (D E : DkD) : Prop where
  p : ∀ z ∈ D.ws, X.pf z ∈ E.ws
  r : ∀ d ∈ D.ds, (X.rf d).length ≤ 16 ∧ ∀ c ∈ X.rf d, c ∈ E.ds
  e : ∀ l ∈ fm E.ls, X.ef l ∈ fm D.ls
/-- a table of texts -/
abbrev tabS (ks : List Str) (f : Str → Str) : List (Key × V) := dkv ks ((ks.map f).map V.str)
theorem tabS_len {ks : List Str} {f : Str → Str} : ((ks.map f).map V.str).length = ks.length := by rw [List.length_map, List.length_map]
def fldsCh (a b p r e : Addr) : List (Str × V) := [("_first", .ref a), ("_second", .ref b), ("_places", .ref p), ("_rows", .ref r), ("_eyes", .ref e)]
/-- rows held by their deeds -/
def RowsAt (K : PySem.W.Frag) (H : Hp) (as : List Addr) (ds : List Str) (rf : Str → List Str) : Prop := Paired (fun a d => SqT K H a ((rf d).map V.str)) as ds
def ChOb (K : PySem.W.Frag) (CD CC : Addr) (H : Hp) (c : Addr) (D E : DkD) (X : ChD) : Prop := ∃ (dx a b p r e : Addr) (as : List Addr), H c = some (.ins CC dx (fldsCh a b p r e)) ∧ DOb K CD H a D ∧ DOb K CD H b E ∧
  H p = some (.dK (tabS D.ws X.pf)) ∧ H r = some (.dK (dkv D.ds (as.map V.ref))) ∧ RowsAt K H as D.ds X.rf ∧ H e = some (.dK (tabS (fm E.ls) X.ef))
theorem RowsAt.sm {K : PySem.W.Frag} {H G : Hp} {as : List Addr} {ds : List Str} {rf : Str → List Str} (h : RowsAt K H as ds rf) (m : Sm H G) : RowsAt K G as ds rf := pair_mono h fun a _ d t => SqT.sm t m
theorem ChOb.sm {K : PySem.W.Frag} {CD CC : Addr} {H G : Hp} {c : Addr} {D E : DkD} {X : ChD} (h : ChOb K CD CC H c D E X) (m : Sm H G) : ChOb K CD CC G c D E X := by
  obtain ⟨dx, a, b, p, r, e, as, h1, h2, h3, h4, h5, h6, h7⟩ := h
  exact ⟨dx, a, b, p, r, e, as, m _ _ h1, h2.sm m, h3.sm m, m _ _ h4, m _ _ h5, h6.sm m, m _ _ h7⟩
/-- what the written part says of Change -/
structure ChC (K : PySem.W.Frag) (mg : Str → Option Value) (C : Addr) : Prop where
  cl : Cls K C
  ha : PySem.W.findIn K (.ref C) "__class__" = some (some (.builtin "object.__class__"))
  hn : PySem.W.specialIn K (.builtin "object.__class__") "__get__" = some (some (.builtin "getset_descriptor.__get__"))
  htk : PySem.W.takesIn K (.builtin "object.__class__") = some true
  hm : PySem.W.mroIn K C (.type "object") = some true
  kC : PySem.W.kitOne K (.ref C) (.ref C) = some true
  n1 : NoAttr K C "_first"
  n2 : NoAttr K C "_second"
  n3 : NoAttr K C "_places"
  n4 : NoAttr K C "_rows"
  n5 : NoAttr K C "_eyes"
  g : mg "Change" = some (.ref C)
/-- the getters -/
def spFi (C : Addr) : Sp := fun vs H Q _ => ∃ (c dx a b p r e : Addr), vs = [.ref c] ∧ H c = some (.ins C dx (fldsCh a b p r e)) ∧ Q (.ref a) H
def spSe (C : Addr) : Sp := fun vs H Q _ => ∃ (c dx a b p r e : Addr), vs = [.ref c] ∧ H c = some (.ins C dx (fldsCh a b p r e)) ∧ Q (.ref b) H
theorem scFi : FnScope nSelf nSelf (defScope (methC 1)) := ⟨rfl, rfl, rfl, by decide +kernel, rfl, by decide +kernel, by decide +kernel⟩
theorem scSe : FnScope nSelf nSelf (defScope (methC 2)) := ⟨rfl, rfl, rfl, by decide +kernel, rfl, by decide +kernel, by decide +kernel⟩
def spCar (K : PySem.W.Frag) (CD CC : Addr) : Sp := fun vs H Q _ => ∃ (c : Addr) (z : Str) (D E : DkD) (X : ChD), vs = [.ref c, .str z] ∧ ChOb K CD CC H c D E X ∧ z ∈ D.ws ∧ Q (.str (X.pf z)) H
def spRow (K : PySem.W.Frag) (CD CC : Addr) : Sp := fun vs H Q _ => ∃ (c : Addr) (d : Str) (D E : DkD) (X : ChD), vs = [.ref c, .str d] ∧ ChOb K CD CC H c D E X ∧ d ∈ D.ds ∧ ∀ l, H l = none → Q (.ref l) (upd H l (.lst ((X.rf d).map V.str)))
def spEye (K : PySem.W.Frag) (CD CC : Addr) : Sp := fun vs H Q _ => ∃ (c : Addr) (l : Str) (D E : DkD) (X : ChD), vs = [.ref c, .str l] ∧ ChOb K CD CC H c D E X ∧ l ∈ fm E.ls ∧ Q (.str (X.ef l)) H
abbrev nCar : List Str := ["self", "standing"]
theorem scCar : FnScope nCar nCar (defScope (methC 3)) := ⟨rfl, rfl, rfl, by decide +kernel, rfl, by decide +kernel, by decide +kernel⟩
abbrev nRow : List Str := ["self", "deed"]
theorem scRow : FnScope nRow nRow (defScope (methC 4)) := ⟨rfl, rfl, rfl, by decide +kernel, rfl, by decide +kernel, by decide +kernel⟩
abbrev nEye : List Str := ["self", "sight"]
theorem scEye : FnScope nEye nEye (defScope (methC 5)) := ⟨rfl, rfl, rfl, by decide +kernel, rfl, by decide +kernel, by decide +kernel⟩
theorem RowsAt.at_ {K : PySem.W.Frag} {H : Hp} {as : List Addr} {ds : List Str} {rf : Str → List Str} (h : RowsAt K H as ds rf) {d : Str} (hd : d ∈ ds) : ∃ a, valV (dkv ds (as.map V.ref)) (.inr d) = some (.ref a) ∧ SqT K H a ((rf d).map V.str) := by
  have al := paired_len h
  have il := idx_lt hd
  have e1 : as[ds.idxOf d]? = some (as[ds.idxOf d]'(by omega)) := List.getElem?_eq_getElem _
  obtain ⟨d2, e2, t⟩ := pair_at h e1
  rw [List.getElem?_eq_getElem il, List.getElem_idxOf il] at e2
  obtain rfl := Option.some.inj e2
  refine ⟨_, ?_, t⟩
  rw [dkv_get (by rw [List.length_map, al]) hd, List.getElem?_map, e1]
  rfl
section
variable {P : Program} {w : World} {K : PySem.W.Frag} {mg : Str → Option Value} {base : Heap} {f CC CD : Addr} {fd : FuncData}
theorem ok_fi (F : FunD K "first" "Change.first" (defArgs (methC 1)) (defBody (methC 1)) (defScope (methC 1)) [] [] f fd) (T : ChC K mg CC) : FnOk P w K mg base CX0 1 f fd nSelf (spFi CC) := by
  refine F.ok (CX := CX0) scFi (fun vs H Q E h => ?_) (fun cdv A outer s H vs Q E hr h => ?_)
  · obtain ⟨c, dx, a, b, p, r, e, rfl, _⟩ := h
    rfl
  · refine ⟨_, PSs.nox (pss_one (ps_ret (by exact (pe_fld (pv 0) rfl)))), ?_⟩
    obtain ⟨c, dx, a, b, p, r, e, rfl, hc, q⟩ := h
    exact ⟨_, rfl, c, CC, dx, _, _, rfl, hc, T.cl, T.n1, rfl, q⟩
theorem ok_se (F : FunD K "second" "Change.second" (defArgs (methC 2)) (defBody (methC 2)) (defScope (methC 2)) [] [] f fd) (T : ChC K mg CC) : FnOk P w K mg base CX0 1 f fd nSelf (spSe CC) := by
  refine F.ok (CX := CX0) scSe (fun vs H Q E h => ?_) (fun cdv A outer s H vs Q E hr h => ?_)
  · obtain ⟨c, dx, a, b, p, r, e, rfl, _⟩ := h
    rfl
  · refine ⟨_, PSs.nox (pss_one (ps_ret (by exact (pe_fld (pv 0) rfl)))), ?_⟩
    obtain ⟨c, dx, a, b, p, r, e, rfl, hc, q⟩ := h
    exact ⟨_, rfl, c, CC, dx, _, _, rfl, hc, T.cl, T.n2, rfl, q⟩
theorem ok_car (F : FunD K "carried" "Change.carried" (defArgs (methC 3)) (defBody (methC 3)) (defScope (methC 3)) [] [] f fd) (T : ChC K mg CC) (GO : Fx P w K mg base CX0 1 "is_one_of" nOneOf (spOneOf K)) : FnOk P w K mg base CX0 2 f fd nCar (spCar K CD CC) := by
  refine F.ok (CX := CX0) scCar (fun vs H Q E h => ?_) (fun cdv A outer s H vs Q E hr h => ?_)
  · obtain ⟨c, z, D, E, X, rfl, _⟩ := h
    rfl
  · refine ⟨_, PSs.nox (pss_cons (ps_if (pt_not (pt_val (by exact (pe_fx GO hr (by decide) rfl (pa_cons (pv 1) (pa_cons (by exact (pe_fld (pv 0) rfl)) pa_nil)))))) (pss_one ps_never) pss_nil)
      (pss_one (ps_ret (by exact (pe_dget (hu_of hr) (by exact (pe_fld (pv 0) rfl)) (pv 1) (fun _ _ => rfl)))))), ?_⟩
    obtain ⟨c, z, D, E, X, rfl, ⟨dx, a, b, p, r, e, as, h1, h2, h3, h4, h5, h6, h7⟩, hz, q⟩ := h
    refine ⟨_, rfl, _, rfl, c, CC, dx, _, _, rfl, h1, T.cl, T.n3, rfl, .str z, p, rfl, .inl ⟨z, D.ws, rfl, .inr (.inr ⟨_, .inl h4, tabS_len⟩), _, rfl, ?_⟩⟩
    rw [decide_eq_true hz]
    exact iteF ⟨_, rfl, c, CC, dx, _, _, rfl, h1, T.cl, T.n3, rfl, _, rfl, p, .str (X.pf z), rfl, .inl ⟨_, .inr z, .inl h4, rfl, (row_at hz).symm⟩, q⟩
theorem ok_eye (F : FunD K "eye" "Change.eye" (defArgs (methC 5)) (defBody (methC 5)) (defScope (methC 5)) [] [] f fd) (T : ChC K mg CC) (GO : Fx P w K mg base CX0 1 "is_one_of" nOneOf (spOneOf K)) : FnOk P w K mg base CX0 2 f fd nEye (spEye K CD CC) := by
  refine F.ok (CX := CX0) scEye (fun vs H Q E h => ?_) (fun cdv A outer s H vs Q E hr h => ?_)
  · obtain ⟨c, z, D, E, X, rfl, _⟩ := h
    rfl
  · refine ⟨_, PSs.nox (pss_cons (ps_if (pt_not (pt_val (by exact (pe_fx GO hr (by decide) rfl (pa_cons (pv 1) (pa_cons (by exact (pe_fld (pv 0) rfl)) pa_nil)))))) (pss_one ps_never) pss_nil)
      (pss_one (ps_ret (by exact (pe_dget (hu_of hr) (by exact (pe_fld (pv 0) rfl)) (pv 1) (fun _ _ => rfl)))))), ?_⟩
    obtain ⟨c, z, D, E, X, rfl, ⟨dx, a, b, p, r, e, as, h1, h2, h3, h4, h5, h6, h7⟩, hz, q⟩ := h
    refine ⟨_, rfl, _, rfl, c, CC, dx, _, _, rfl, h1, T.cl, T.n5, rfl, .str z, e, rfl, .inl ⟨z, fm E.ls, rfl, .inr (.inr ⟨_, .inl h7, tabS_len⟩), _, rfl, ?_⟩⟩
    rw [decide_eq_true hz]
    exact iteF ⟨_, rfl, c, CC, dx, _, _, rfl, h1, T.cl, T.n5, rfl, _, rfl, e, .str (X.ef z), rfl, .inl ⟨_, .inr z, .inl h7, rfl, (row_at hz).symm⟩, q⟩
theorem ok_row (F : FunD K "row" "Change.row" (defArgs (methC 4)) (defBody (methC 4)) (defScope (methC 4)) [] [] f fd) (T : ChC K mg CC) (mL : mg "list" = none) (GO : Fx P w K mg base CX0 1 "is_one_of" nOneOf (spOneOf K)) : FnOk P w K mg base CX0 2 f fd nRow (spRow K CD CC) := by
  refine F.ok (CX := CX0) scRow (fun vs H Q E h => ?_) (fun cdv A outer s H vs Q E hr h => ?_)
  · obtain ⟨c, z, D, E, X, rfl, _⟩ := h
    rfl
  · refine ⟨_, PSs.nox (pss_cons (ps_if (pt_not (pt_val (by exact (pe_fx GO hr (by decide) rfl (pa_cons (pv 1) (pa_cons (by exact (pe_fld (pv 0) rfl)) pa_nil)))))) (pss_one ps_never) pss_nil)
      (pss_one (ps_ret (by exact (pe_callTy call_list_of rfl mL PyProof.Rows.boot_list (pa_cons (by exact (pe_dget (hu_of hr) (by exact (pe_fld (pv 0) rfl)) (pv 1) (fun _ _ => rfl))) pa_nil)))))), ?_⟩
    obtain ⟨c, z, D, E, X, rfl, ⟨dx, a, b, p, r, e, as, h1, h2, h3, h4, h5, h6, h7⟩, hz, q⟩ := h
    obtain ⟨t, et, ht⟩ := h6.at_ hz
    refine ⟨_, rfl, _, rfl, c, CC, dx, _, _, rfl, h1, T.cl, T.n4, rfl, .str z, r, rfl, .inl ⟨z, D.ds, rfl, .inr (.inr ⟨_, .inl h5, by rw [List.length_map, paired_len h6]⟩), _, rfl, ?_⟩⟩
    rw [decide_eq_true hz]
    exact iteF ⟨_, rfl, c, CC, dx, _, _, rfl, h1, T.cl, T.n4, rfl, _, rfl, r, .ref t, rfl, .inl ⟨_, .inr z, .inl h5, rfl, et.symm⟩, t, (X.rf z).map V.str, rfl, .inr ht, q⟩
end
end Dk
set_option Elab.async false
set_option linter.all false
set_option maxRecDepth 100000
set_option maxHeartbeats 8000000
namespace Dk
open PySem PySem.Spec PyProof.Rows L2 Er LamX NdefX
/-! ### are_places, are_eyes, is_change_row, are_rows, of right values -/
theorem dkv_table {ks ws : List Str} {us : List V} (ul : us.length = ks.length) (pm : ks.Perm ws) : tableB (dkv ks us) ws = true := by
  unfold tableB
  rw [Bool.and_eq_true, decide_eq_true_iff, dkv_len ul]
  exact ⟨pm.length_eq, List.all_eq_true.mpr fun z hz => by rw [dkv_has ul, decide_eq_true (pm.mem_iff.mpr hz)]⟩
theorem dkv_vals {ks : List Str} {us : List V} (ul : us.length = ks.length) : (dkv ks us).map (·.2) = us := by
  unfold dkv
  rw [List.map_snd_zip]
  rw [List.length_map, ul]
  exact Nat.le_refl _
theorem ins_lock {H : Hp} {b p C dx : Addr} {fs : List (Str × V)} {kvs : List (Key × V)} {o : HO} (hb : H b = some (.ins C dx fs)) (hp : H p = some (.dK kvs)) : upd H p o b = some (.ins C dx fs) := by
  rw [upd_ne (fun z => by rw [z, hp] at hb; cases hb)]
  exact hb
theorem tup_lock {K : PySem.W.Frag} {H : Hp} {a p : Addr} {ws : List Str} {kvs : List (Key × V)} (od : Obj) (ha : SqT K H a (ws.map V.str)) (hp : H p = some (.dK kvs)) : SqT K (upd H p (.frz od (.dK kvs))) a (ws.map V.str) := by
  have ne : ∀ {u : HO}, H a = some u → u ≠ .dK kvs → a ≠ p := fun {u} e n z => n (by rw [z, hp] at e; exact (Option.some.inj e).symm)
  rcases ha with (h | ⟨o, h⟩) | h
  · exact .inl (.inl (by rw [upd_ne (ne h (fun z => nomatch z))]; exact h))
  · exact .inl (.inr ⟨o, by rw [upd_ne (ne h (fun z => nomatch z))]; exact h⟩)
  · exact .inr h
def spArP (K : PySem.W.Frag) (CD : Addr) : Sp := fun vs H Q _ => ∃ (a b p : Addr) (D E : DkD) (ks : List Str) (pf : Str → Str), vs = [.ref a, .ref b, .ref p] ∧ DOb K CD H a D ∧ D.Is ∧ DOb K CD H b E ∧ E.Is ∧
  H p = some (.dK (tabS ks pf)) ∧ ks.Perm D.ws ∧ (∀ z ∈ D.ws, pf z ∈ E.ws) ∧ ∀ H', Sm H H' → Q (.bl true) H'
abbrev nArP : List Str := ["first", "second", "value", "target"]
theorem scArP : FnScope nArP ["first", "second", "value"] (defScope (top 36)) := ⟨rfl, rfl, rfl, by decide +kernel, rfl, by decide +kernel, by decide +kernel⟩
def spArE (K : PySem.W.Frag) (CD : Addr) : Sp := fun vs H Q _ => ∃ (a b p : Addr) (D E : DkD) (ks : List Str) (ef : Str → Str), vs = [.ref a, .ref b, .ref p] ∧ DOb K CD H a D ∧ D.Is ∧ DOb K CD H b E ∧ E.Is ∧
  H p = some (.dK (tabS ks ef)) ∧ ks.Perm (fm E.ls) ∧ (∀ z ∈ fm E.ls, ef z ∈ fm D.ls) ∧ ∀ H', Sm H H' → Q (.bl true) H'
abbrev nArE : List Str := ["first", "second", "value", "elder", "sight"]
theorem scArE : FnScope nArE ["first", "second", "value"] (defScope (top 39)) := ⟨rfl, rfl, rfl, by decide +kernel, rfl, by decide +kernel, by decide +kernel⟩
def spCr (K : PySem.W.Frag) : Sp := fun vs H Q _ => ∃ (a k : Addr) (row ds : List Str), vs = [.ref a, .ref k] ∧ Sq K H a row ∧ SqT K H k (ds.map V.str) ∧ row.length ≤ 16 ∧ (∀ d ∈ row, d ∈ ds) ∧ ∀ H', Sm H H' → Q (.bl true) H'
abbrev nCr : List Str := ["value", "deeds", "deed"]
theorem scCr : FnScope nCr ["value", "deeds"] (defScope (top 38)) := ⟨rfl, rfl, rfl, by decide +kernel, rfl, by decide +kernel, by decide +kernel⟩
/-- rows that are given: by deeds, lists or tuples -/
def RowsIn (H : Hp) (us : List V) (ks : List Str) (rf : Str → List Str) : Prop := Paired (fun u d => ∃ a, u = V.ref a ∧ (H a = some (.lst ((rf d).map V.str)) ∨ H a = some (.tup ((rf d).map V.str)))) us ks
theorem RowsIn.sm {H G : Hp} {us : List V} {ks : List Str} {rf : Str → List Str} (h : RowsIn H us ks rf) (m : Sm H G) : RowsIn G us ks rf := pair_mono h fun u _ d ⟨a, e, t⟩ => ⟨a, e, t.elim (fun t => .inl (m _ _ t)) (fun t => .inr (m _ _ t))⟩
theorem sq_of {K : PySem.W.Frag} {H : Hp} {a : Addr} {row : List Str} (h : H a = some (.lst (row.map V.str)) ∨ H a = some (.tup (row.map V.str))) : Sq K H a row := h.elim (fun t => .inl (.inl (.inl t))) (fun t => .inr (.inl (.inl t)))
theorem val_mem {ks : List Str} {us : List V} {u : V} (ul : us.length = ks.length) (h : u ∈ us) : ∃ k, (k, u) ∈ dkv ks us := by
  obtain ⟨j, hj⟩ := List.mem_iff_getElem?.mp h
  have jl : j < ks.length := by
    have := (List.getElem?_eq_some_iff.mp hj).1
    omega
  exact ⟨_, List.mem_of_getElem? (List.getElem?_zip_eq_some.mpr ⟨by rw [List.getElem?_map, List.getElem?_eq_getElem jl]; rfl, hj⟩)⟩
/-- a desk stands while a table of rows is walked -/
theorem DeskOb.rows {K : PySem.W.Frag} {C : Addr} {H : Hp} {x p : Addr} {ws ds : List Str} {tb : List (List Str)} {ls : List Str} {ks : List Str} {us : List V} {rf : Str → List Str} {od : Obj} (ob : DeskOb K C H x ws ds tb ls) (hp : H p = some (.dK (dkv ks us)))
    (hr : RowsIn H us ks rf) (n : 1 ≤ ks.length) : DeskOb K C (upd H p (.frz od (.dK (dkv ks us)))) x ws ds tb ls := by
  obtain ⟨dx, st, ld, si, as, hx, hst, hld, hsi, pr⟩ := ob
  have ul := paired_len hr
  obtain ⟨u, hu⟩ : ∃ u, u ∈ us := by
    cases us with
    | nil => exact absurd n (by have : (0 : Nat) = ks.length := ul; omega)
    | cons u us => exact ⟨u, List.mem_cons_self⟩
  obtain ⟨j, hj⟩ := List.mem_iff_getElem?.mp hu
  obtain ⟨d, _, a, rfl, ha⟩ := pair_at hr hj
  obtain ⟨k, hk⟩ := val_mem ul hu
  have flat : ∀ {b : Addr} {zs vs : List Str}, H b = some (.dK (dkv zs (vs.map V.str))) → b ≠ p := fun {b zs vs} e z => by
    rw [z, hp] at e
    have e2 := HO.dK.inj (Option.some.inj e)
    rw [e2] at hk
    have := (List.of_mem_zip hk).2
    obtain ⟨y, _, ey⟩ := List.mem_map.mp this
    cases ey
  have nld : ld ≠ p := fun z => by
    rw [z, hp] at hld
    have e2 := HO.dK.inj (Option.some.inj hld)
    rw [e2] at hk
    obtain ⟨b, hb, eb⟩ := List.mem_map.mp (List.of_mem_zip hk).2
    cases eb
    obtain ⟨i, hi⟩ := List.mem_iff_getElem?.mp hb
    obtain ⟨vs, _, e3⟩ := pair_at pr hi
    rcases ha with ha | ha <;> rw [e3] at ha <;> cases ha
  exact ⟨dx, st, ld, si, as, ins_lock hx hp, tup_lock od hst hp, by rw [upd_ne nld]; exact hld, by rw [upd_ne (flat hsi)]; exact hsi, pair_mono pr fun b _ vs e => by rw [upd_ne (flat e)]; exact e⟩
def spArR (K : PySem.W.Frag) (CD : Addr) : Sp := fun vs H Q _ => ∃ (a b p : Addr) (D E : DkD) (ks : List Str) (us : List V) (rf : Str → List Str), vs = [.ref a, .ref b, .ref p] ∧ DOb K CD H a D ∧ D.Is ∧ DOb K CD H b E ∧ E.Is ∧
  H p = some (.dK (dkv ks us)) ∧ RowsIn H us ks rf ∧ ks.Perm D.ds ∧ (∀ d ∈ D.ds, (rf d).length ≤ 16 ∧ ∀ c ∈ rf d, c ∈ E.ds) ∧ ∀ H', Sm H H' → Q (.bl true) H'
abbrev nArR : List Str := ["first", "second", "value", "row"]
theorem scArR : FnScope nArR ["first", "second", "value"] (defScope (top 37)) := ⟨rfl, rfl, rfl, by decide +kernel, rfl, by decide +kernel, by decide +kernel⟩
theorem all_true {n : Nat} : ((List.range n).map fun _ => true).all id = true := List.all_eq_true.mpr fun b hb => by
  obtain ⟨j, _, rfl⟩ := List.mem_map.mp hb
  rfl
theorem fm_few {D : DkD} (is : D.Is) : (fm D.ls).length ≤ 9 := by
  have := fm_len D.ls
  have := is.looks
  have := is.most
  omega
section
variable {P : Program} {w : World} {K : PySem.W.Frag} {mg : Str → Option Value} {base : Heap} {f CD : Addr} {fd : FuncData}
theorem ok_arP (F : FnP K "are_places" (top 36) f fd) (ma : mg "all" = none) (hC : Cls K CD) (PS_ : Px P w K mg base CD 1 "standings" nSelf (spStd CD)) (GT : Fx P w K mg base CX0 1 "is_table" ["value", "keys"] (spTable K)) (GO : Fx P w K mg base CX0 1 "is_one_of" nOneOf (spOneOf K)) :
    FnOk P w K mg base CX0 3 f fd ["first", "second", "value"] (spArP K CD) := by
  refine F.ok (CX := CX0) scArP (fun vs H Q E h => ?_) (fun cdv A outer s H vs Q E hr h => ?_)
  · obtain ⟨a, b, p, D, E, ks, pf, rfl, _⟩ := h
    rfl
  · refine ⟨_, PSs.nox (pss_cons (ps_if (pt_not (pt_val (by exact (pe_fx GT hr (by decide) rfl (pa_cons (pv 2) (pa_cons (by exact (pe_px PS_ (pv 0) hC hr (by decide) rfl)) pa_nil)))) (fun _ => rfl))) (pss_one (ps_ret pe_bl)) pss_nil)
      (pss_one (ps_ret (by exact (pe_callB (cr_all rfl) rfl ma PyProof.Rows.boot_all (pa_cons (pe_lock (by exact (pe_lc (own := [("target", 3)]) (g := gName 3) (tt := tYes) (te := tCall (spOneOf K) [] E0 (tCons (tVar 3) (tCons (tProp CD (spStd CD) [] E0 (tVar 1)) tNil))) rfl scArP.nd (pi_values (pv 2))
        (blkOk_by (N := nArP) (sc := defScope (top 36)) (by decide +kernel)) (fun _ _ _ _ _ => pg_name (i := 3) scArP.nd rfl (Or.inl rfl)) (fun _ _ _ _ _ => pts_nil) (fun _ _ _ _ _ => by exact (pe_fx GO hr (by decide) rfl (pa_cons (by exact (pv 3)) (pa_cons (by exact (pe_px PS_ (by exact (pv 1)) hC hr (by decide) rfl)) pa_nil))))))) pa_nil)))))), ?_⟩
    obtain ⟨a, b, p, D, E, ks, pf, rfl, oa, ia, ob, ib, hp, pm, good, q⟩ := h
    obtain ⟨dx, st, ld, si, as, hx, hst, _⟩ := oa
    obtain ⟨dy, st2, ld2, si2, as2, hy, hst2, _⟩ := ob
    have w9 := ia.most
    refine ⟨_, rfl, _, rfl, a, dx, _, rfl, hx, a, dx, st, ld, si, rfl, hx, .ref p, st, D.ws, rfl, .inr hst, by omega, .inl ⟨p, tabS ks pf, rfl, hp, fun H1 m1 => ⟨_, rfl, ?_⟩⟩⟩
    rw [dkv_table tabS_len pm]
    have hp1 := m1 _ _ hp
    refine iteF ⟨p, .dK (tabS ks pf), hp1, True.intro, fun od => ⟨_, rfl, p, od, tabS ks pf, rfl, upd_same, ?_⟩⟩
    have hy1 := ins_lock (o := .frz od (.dK (tabS ks pf))) (m1 _ _ hy) hp1
    have ht1 := tup_lock od (SqT.sm hst2 m1) hp1
    refine lc_vals (fv := fun _ => .bl true) upd_same (by rw [dkv_len tabS_len, pm.length_eq]; omega) (fun _ => rfl) (fun j y H2 Q ey s2 qq => ?_) fun L H2 m nL el => ?_
    · rw [dkv_vals tabS_len, List.getElem?_map, List.getElem?_map] at ey
      cases e : ks[j]? with
      | none =>
        rw [e] at ey
        cases ey
      | some z =>
        rw [e] at ey
        obtain rfl : V.str (pf z) = y := Option.some.inj ey
        have hz := good z (pm.mem_iff.mp (List.mem_of_getElem? e))
        refine ⟨_, rfl, _, rfl, b, dy, _, rfl, s2 _ _ hy1, b, dy, st2, ld2, si2, rfl, s2 _ _ hy1, .str (pf z), st2, rfl, .inl ⟨pf z, E.ws, rfl, .inr (.inl (SqT.sm ht1 s2)), ?_⟩⟩
        rw [decide_eq_true hz]
        exact qq H2 (Sm.refl _)
    · refine ⟨m _ _ upd_same, L, (List.range (tabS ks pf).length).map fun _ => true, rfl, ?_, ?_⟩
      · have nd : L ≠ p := fun z => by
          rw [z, upd_same] at nL
          cases nL
        exact .inl (.inl (by rw [upd_ne nd, el, List.map_map]; rfl))
      · rw [all_true]
        exact q _ (Sm.trans m1 (sm_unlock hp1 m))
theorem ok_arE (F : FnP K "are_eyes" (top 39) f fd) (ma : mg "all" = none) (GA : Fx P w K mg base CX0 3 "all_sights" ["desk"] (spAs K CD)) (GT : Fx P w K mg base CX0 1 "is_table" ["value", "keys"] (spTable K)) (GO : Fx P w K mg base CX0 1 "is_one_of" nOneOf (spOneOf K)) :
    FnOk P w K mg base CX0 4 f fd ["first", "second", "value"] (spArE K CD) := by
  refine F.ok (CX := CX0) scArE (fun vs H Q E h => ?_) (fun cdv A outer s H vs Q E hr h => ?_)
  · obtain ⟨a, b, p, D, E, ks, pf, rfl, _⟩ := h
    rfl
  · refine ⟨_, PSs.nox (pss_cons (ps_if (pt_not (pt_val (by exact (pe_fx GT hr (by decide) rfl (pa_cons (pv 2) (pa_cons (by exact (pe_fx GA hr (by decide) rfl (pa_cons (pv 1) pa_nil))) pa_nil)))) (fun _ => rfl))) (pss_one (ps_ret pe_bl)) pss_nil)
      (pss_cons (ps_set (i := 3) scArE.nd rfl (.inr rfl) (by exact (pe_fx GA hr (by decide) rfl (pa_cons (pv 0) pa_nil))))
      (pss_one (ps_ret (by exact (pe_callB (cr_all rfl) rfl ma PyProof.Rows.boot_all (pa_cons (pe_lock (by exact (pe_lc (own := [("sight", 4)]) (g := gName 4) (tt := tYes) (te := tCall (spOneOf K) [] E0 (tCons (tVar 4) (tCons (tVar 3) tNil))) rfl scArE.nd (pi_values (pv 2))
        (blkOk_by (N := nArE) (sc := defScope (top 39)) (by decide +kernel)) (fun _ _ _ _ _ => pg_name (i := 4) scArE.nd rfl (Or.inl rfl)) (fun _ _ _ _ _ => pts_nil) (fun _ _ _ _ _ => by exact (pe_fx GO hr (by decide) rfl (pa_cons (by exact (pv 4)) (pa_cons (by exact (pv 3)) pa_nil))))))) pa_nil))))))), ?_⟩
    obtain ⟨a, b, p, D, E, ks, ef, rfl, oa, ia, ob, ib, hp, pm, good, q⟩ := h
    have f9 := fm_few ib
    refine ⟨_, rfl, _, rfl, b, E, rfl, ob, ib, fun l1 G1 m1 n1 e1 => ⟨.ref p, l1, fm E.ls, rfl, .inl (.inl (.inl e1)), by omega, .inl ⟨p, tabS ks ef, rfl, m1 _ _ hp, fun H1 m2 => ⟨_, rfl, ?_⟩⟩⟩⟩
    rw [dkv_table tabS_len pm]
    have m12 := m1.trans m2
    refine iteF ⟨_, rfl, a, D, rfl, oa.sm m12, ia, fun l2 G2 m3 n2 e2 => ?_⟩
    have m13 := m12.trans m3
    have hp1 := m13 _ _ hp
    refine ⟨p, .dK (tabS ks ef), hp1, True.intro, fun od => ⟨_, rfl, p, od, tabS ks ef, rfl, upd_same, ?_⟩⟩
    have he1 : upd G2 p (.frz od (.dK (tabS ks ef))) l2 = some (.lst ((fm D.ls).map V.str)) := by
      rw [upd_ne (fun z => by rw [z, hp1] at e2; cases e2)]
      exact e2
    refine lc_vals (fv := fun _ => .bl true) upd_same (by rw [dkv_len tabS_len, pm.length_eq]; omega) (fun _ => rfl) (fun j y H2 Q ey s2 qq => ?_) fun L H2 m nL el => ?_
    · rw [dkv_vals tabS_len, List.getElem?_map, List.getElem?_map] at ey
      cases e : ks[j]? with
      | none =>
        rw [e] at ey
        cases ey
      | some z =>
        rw [e] at ey
        obtain rfl : V.str (ef z) = y := Option.some.inj ey
        have hz := good z (pm.mem_iff.mp (List.mem_of_getElem? e))
        refine ⟨_, rfl, _, rfl, .str (ef z), l2, rfl, .inl ⟨ef z, fm D.ls, rfl, .inl (.inl (.inl (s2 _ _ he1))), ?_⟩⟩
        rw [decide_eq_true hz]
        exact qq H2 (Sm.refl _)
    · refine ⟨m _ _ upd_same, L, (List.range (tabS ks ef).length).map fun _ => true, rfl, ?_, ?_⟩
      · have nd : L ≠ p := fun z => by
          rw [z, upd_same] at nL
          cases nL
        exact .inl (.inl (by rw [upd_ne nd, el, List.map_map]; rfl))
      · rw [all_true]
        exact q _ (Sm.trans m13 (sm_unlock hp1 m))
theorem ok_cr (F : FnP K "is_change_row" (top 38) f fd) (mi : mg "isinstance" = none) (mL : mg "list" = none) (mT : mg "tuple" = none) (ml : mg "len" = none) (ma : mg "all" = none) (gM : ∃ t, mg "MOST_ROW" = some (.int 16 t)) (GO : Fx P w K mg base CX0 1 "is_one_of" nOneOf (spOneOf K)) :
    FnOk P w K mg base CX0 2 f fd ["value", "deeds"] (spCr K) := by
  refine F.ok (CX := CX0) scCr (fun vs H Q E h => ?_) (fun cdv A outer s H vs Q E hr h => ?_)
  · obtain ⟨a, k, row, ds, rfl, _⟩ := h
    rfl
  · refine ⟨_, PSs.nox (pss_cons (ps_if (PW.pt (pw_or (pt_not (pt_val (by exact (pe_callB call_isiT rfl mi PyProof.Rows.boot_isinstance (pa_cons (pv 0) (pa_cons (by exact (pe_tup (pa_cons (pe_bltn (v := .ty "list") rfl mL (by decide +kernel) rfl) (pa_cons (pe_bltn (v := .ty "tuple") rfl mT (by decide +kernel) rfl) pa_nil)))) pa_nil))))))
        (pw_or1 (pt_cmpR op_gt (by exact (pe_callB call_len rfl ml boot_len (pa_cons (pv 0) pa_nil))) (pe_glob (v := .int 16) rfl gM.choose_spec ⟨_, rfl⟩) (nomark _))))) (pss_one (ps_ret pe_bl)) pss_nil)
      (pss_one (ps_ret (by exact (pe_callB (cr_all rfl) rfl ma PyProof.Rows.boot_all (pa_cons (by exact (pe_lc (own := [("deed", 2)]) (g := gName 2) (tt := tYes) (te := tCall (spOneOf K) [] E0 (tCons (tVar 2) (tCons (tVar 1) tNil))) rfl scCr.nd (pi_seq (pv 0))
        (blkOk_by (N := nCr) (sc := defScope (top 38)) (by decide +kernel)) (fun _ _ _ _ _ => pg_name (i := 2) scCr.nd rfl (Or.inl rfl)) (fun _ _ _ _ _ => pts_nil) (fun _ _ _ _ _ => by exact (pe_fx GO hr (by decide) rfl (pa_cons (by exact (pv 2)) (pa_cons (by exact (pv 1)) pa_nil)))))) pa_nil)))))), ?_⟩
    obtain ⟨a, k, row, ds, rfl, hs, hk, few, good, q⟩ := h
    have c2 : 2 ≤ sizeLine := by
      rw [sizeLine_eq]
      omega
    have pr : Paired ClsV [V.ty "list", V.ty "tuple"] [Value.type "list", Value.type "tuple"] := .cons (.ty _) (.cons (.ty _) .nil)
    obtain ⟨t, ty, et⟩ := sv_is hs
    have kk : PySem.W.kitAny K (.type t) [.type "list", .type "tuple"] = some true := by
      rcases et with rfl | rfl
      · exact kitAny_cons (b := true) (kit_ty (by decide +kernel)) (fun z => nomatch z) fun _ => rfl
      · exact kitAny_cons (b := false) (kit_ty (by decide +kernel)) (fun _ => kitAny_cons (b := true) (kit_ty (by decide +kernel)) (fun z => nomatch z) fun _ => rfl) fun z => nomatch z
    refine ⟨_, rfl, c2, fun T nT => ⟨.ref a, T, _, .type t, _, true, rfl, upd_same, pr, tyx_new ty nT, kk, _, rfl, ?_⟩⟩
    have m1 := Sm.new (o := .tup [.ty "list", .ty "tuple"]) nT
    generalize upd H T (.tup [.ty "list", .ty "tuple"]) = G at m1 ⊢
    have hs := Sq.sm hs m1
    have hk := SqT.sm hk m1
    refine iteF ⟨_, rfl, .ref a, row.length, rfl, Sq.len hs, _, _, rfl, rfl, _, rfl, ?_⟩
    rw [decide_eq_false (show ¬ ((row.length : Nat) : Int) > 16 by omega)]
    refine iteF ⟨_, rfl, a, row.map V.str, rfl, ?_⟩
    refine lc_sv (fv := fun _ => .bl true) hs (by rw [List.length_map]; omega) (fun _ => rfl) (fun j v G2 Q2 ez m2 q2 => ?_) (fun L G2 m2 nL eL => ?_)
    · rw [List.getElem?_map] at ez
      cases e : row[j]? with
      | none =>
        rw [e] at ez
        cases ez
      | some z =>
        rw [e] at ez
        obtain rfl : V.str z = v := Option.some.inj ez
        refine ⟨_, rfl, _, rfl, .str z, k, rfl, .inl ⟨z, ds, rfl, .inr (.inl (SqT.sm hk m2)), ?_⟩⟩
        rw [decide_eq_true (good z (List.mem_of_getElem? e))]
        exact q2 G2 (Sm.refl _)
    · refine ⟨L, (List.range (row.map V.str).length).map fun _ => true, rfl, .inl (.inl (by rw [eL, List.map_map]; rfl)), ?_⟩
      rw [all_true]
      exact q _ (m1.trans m2)
theorem ok_arR (F : FnP K "are_rows" (top 37) f fd) (ma : mg "all" = none) (hC : Cls K CD) (PD : Px P w K mg base CD 1 "deeds" nSelf (spDds K CD)) (GT : Fx P w K mg base CX0 1 "is_table" ["value", "keys"] (spTable K)) (GR : Fx P w K mg base CX0 2 "is_change_row" ["value", "deeds"] (spCr K)) :
    FnOk P w K mg base CX0 3 f fd ["first", "second", "value"] (spArR K CD) := by
  refine F.ok (CX := CX0) scArR (fun vs H Q E h => ?_) (fun cdv A outer s H vs Q E hr h => ?_)
  · obtain ⟨a, b, p, D, E, ks, us, rf, rfl, _⟩ := h
    rfl
  · refine ⟨_, PSs.nox (pss_cons (ps_if (pt_not (pt_val (by exact (pe_fx GT hr (by decide) rfl (pa_cons (pv 2) (pa_cons (by exact (pe_px PD (pv 0) hC hr (by decide) rfl)) pa_nil)))) (fun _ => rfl))) (pss_one (ps_ret pe_bl)) pss_nil)
      (pss_one (ps_ret (by exact (pe_callB (cr_all rfl) rfl ma PyProof.Rows.boot_all (pa_cons (pe_lock (by exact (pe_lc (own := [("row", 3)]) (g := gName 3) (tt := tYes) (te := tCall (spCr K) [] E0 (tCons (tVar 3) (tCons (tProp CD (spDds K CD) [] E0 (tVar 1)) tNil))) rfl scArR.nd (pi_values (pv 2))
        (blkOk_by (N := nArR) (sc := defScope (top 37)) (by decide +kernel)) (fun _ _ _ _ _ => pg_name (i := 3) scArR.nd rfl (Or.inl rfl)) (fun _ _ _ _ _ => pts_nil) (fun _ _ _ _ _ => by exact (pe_fx GR hr (by decide) rfl (pa_cons (by exact (pv 3)) (pa_cons (by exact (pe_px PD (by exact (pv 1)) hC hr (by decide) rfl)) pa_nil))))))) pa_nil)))))), ?_⟩
    obtain ⟨a, b, p, D, E, ks, us, rf, rfl, oa, ia, ob, ib, hp, hr2, pm, good, q⟩ := h
    have w9 := ia.dmost
    have ul := paired_len hr2
    obtain ⟨dxa, _, _, _, _, hxa, _⟩ := id oa
    refine ⟨_, rfl, _, rfl, a, dxa, _, rfl, hxa, a, D.ws, D.ds, D.tb, D.ls, rfl, oa, ia.rows, fun l1 G1 m1 n1 e1 => ⟨.ref p, l1, D.ds, rfl, .inr (.inl (.inl e1)), by omega, .inl ⟨p, dkv ks us, rfl, m1 _ _ hp, fun H1 m2 => ⟨_, rfl, ?_⟩⟩⟩⟩
    rw [dkv_table ul pm]
    have m12 := m1.trans m2
    have hp1 := m12 _ _ hp
    refine iteF ⟨p, .dK (dkv ks us), hp1, True.intro, fun od => ⟨_, rfl, p, od, dkv ks us, rfl, upd_same, ?_⟩⟩
    have ob1 := (ob.sm m12).rows (od := od) hp1 (hr2.sm m12) (by rw [pm.length_eq]; exact ia.dsome)
    have rw1 : Paired (fun u d => ∃ a, u = V.ref a ∧ (upd H1 p (.frz od (.dK (dkv ks us))) a = some (.lst ((rf d).map V.str)) ∨ upd H1 p (.frz od (.dK (dkv ks us))) a = some (.tup ((rf d).map V.str)))) us ks := pair_mono (hr2.sm m12) fun u _ d ⟨a, e, t⟩ => by
      have ne : a ≠ p := fun z => by
        rw [z, hp1] at t
        rcases t with t | t <;> cases t
      exact ⟨a, e, by rw [upd_ne ne]; exact t⟩
    refine lc_vals (fv := fun _ => .bl true) upd_same (by rw [dkv_len ul, pm.length_eq]; omega) (fun _ => rfl) (fun j y H2 Q ey s2 qq => ?_) fun L H2 m nL el => ?_
    · rw [dkv_vals ul] at ey
      obtain ⟨d, ed, ra, rfl, hra⟩ := pair_at rw1 ey
      have hd := good d (pm.mem_iff.mp (List.mem_of_getElem? ed))
      obtain ⟨dxb, _, _, _, _, hxb, _⟩ := id ob1
      refine ⟨_, rfl, _, rfl, b, dxb, _, rfl, s2 _ _ hxb, b, E.ws, E.ds, E.tb, E.ls, rfl, ob1.sm s2, ib.rows, fun l2 G2 m3 n2 e2 => ⟨ra, l2, rf d, E.ds, rfl, Sq.sm (sq_of (hra.elim (fun t => .inl (s2 _ _ t)) (fun t => .inr (s2 _ _ t)))) m3, .inl (.inl e2), hd.1, hd.2, fun H4 m4 => qq H4 (m3.trans m4)⟩⟩
    · refine ⟨m _ _ upd_same, L, (List.range (dkv ks us).length).map fun _ => true, rfl, ?_, ?_⟩
      · have nd : L ≠ p := fun z => by
          rw [z, upd_same] at nL
          cases nL
        exact .inl (.inl (by rw [upd_ne nd, el, List.map_map]; rfl))
      · rw [all_true]
        exact q _ (Sm.trans m12 (sm_unlock hp1 m))
end
end Dk
set_option Elab.async false
set_option linter.all false
set_option maxRecDepth 100000
set_option maxHeartbeats 8000000
namespace Dk
open PySem PySem.Spec PyProof.Rows L2 Er LamX NdefX
/-! ### a dict of new things by names; Change.__init__ of right values -/
theorem dc_refs {K : PySem.W.Frag} {a : Addr} {ws : List Str} {tv : TE} {F : Hp → Addr → Str → Prop} {σ : L2.St} {i : Nat} {H1 : Hp} {Q : Addr → Hp → Prop} (hk : Sq K H1 a ws) (nd : ws.Nodup) (hn : ws.length ≤ 1000) (w1 : ∀ v, wipe ((wipe σ [i]).set i (some v)) [i] = wipe σ [i])
    (s1 : ∀ v, ((wipe σ [i]).set i (some v))[i]? = some (some v)) (fm1 : ∀ G G' b z, Sm G G' → F G b z → F G' b z) (fd1 : ∀ G D ks ks' b z, G D = some (.dK ks) → F G b z → F (upd G D (.dK ks')) b z)
    (ev : ∀ (z : Str) (H2 : Hp) (Q : VK), z ∈ ws → Sm H1 H2 → (∀ b H4, Sm H2 H4 → F H4 b z → Q (.ref b) H4) → tv ((wipe σ [i]).set i (some (.str z))) H2 Q)
    (q : ∀ (D : Addr) (H2 : Hp) (as : List Addr), Sm H1 H2 → H1 D = none → H2 D = some (.dK (dkv ws (as.map V.ref))) → Paired (F H2) as ws → Q D H2) :
    (SqL K H1 a (ws.map V.str) ∧ DcR (gName i) (tVar i) tv σ [i] H1 Q (Itl K a)) ∨ (SqT K H1 a (ws.map V.str) ∧ DcR (gName i) (tVar i) tv σ [i] H1 Q (Itt K a)) := by
  have hl : (ws.map V.str).length = ws.length := List.length_map _
  have step : ∀ (D : Addr) (j : Nat) (x : V) (H : Hp), H1 D = none → j < ws.length → (∃ as : List Addr, H D = some (.dK (dkv (ws.take j) (as.map V.ref))) ∧ Paired (F H) as (ws.take j) ∧ Sm H1 H) → (ws.map V.str)[j]? = some x →
      (tVar i) ((wipe σ [i]).set i (some x)) H fun y H4 => tv ((wipe σ [i]).set i (some x)) H4 fun z H5 => ∃ kvs k, y = kV k ∧ H5 D = some (.dK kvs) ∧ kvs.length < sizeLine ∧ ∃ as : List Addr, (upd H5 D (.dK (putK kvs k z))) D = some (.dK (dkv (ws.take (j + 1)) (as.map V.ref))) ∧ Paired (F (upd H5 D (.dK (putK kvs k z)))) as (ws.take (j + 1)) ∧ Sm H1 (upd H5 D (.dK (putK kvs k z))) := by
    rintro D j x H nD hj ⟨as, ed, pr, sm⟩ ex
    have ez : ws[j]? = some (ws[j]'hj) := List.getElem?_eq_getElem hj
    have e2 : x = .str (ws[j]'hj) := by
      rw [List.getElem?_map, ez] at ex
      exact (Option.some.inj ex).symm
    subst e2
    have tk : ws.take (j + 1) = ws.take j ++ [ws[j]'hj] := by
      rw [List.take_add_one, ez]
      rfl
    have l1 := paired_len pr
    refine ⟨_, s1 _, ev _ H _ (List.mem_of_getElem? ez) sm fun b H4 m4 hf => ?_⟩
    have ed4 := m4 _ _ ed
    refine ⟨_, .inr (ws[j]'hj), rfl, ed4, by rw [dkv_len (by rw [List.length_map, l1]), List.length_take, sizeLine_eq]; omega, as ++ [b], ?_, ?_, ?_⟩
    · rw [upd_same, put_dkv l1 (by rw [← tk]; exact nd.sublist (List.take_sublist _ _)), tk]
    · rw [tk]
      exact pair_more (pair_mono pr fun c _ z hc => fd1 _ _ _ _ _ _ ed4 (fm1 _ _ _ _ m4 hc)) (fd1 _ _ _ _ _ _ ed4 hf)
    · intro c o e
      rw [upd_ne (ne_of_none e nD)]
      exact m4 _ _ (sm _ _ e)
  have fin : ∀ D H, H1 D = none → (∃ as : List Addr, H D = some (.dK (dkv (ws.take ws.length) (as.map V.ref))) ∧ Paired (F H) as (ws.take ws.length) ∧ Sm H1 H) → Q D H := fun D H nD ⟨as, ed, pr, sm⟩ => by
    rw [List.take_length] at ed pr
    exact q D H as sm nD ed pr
  rcases hk with hk | hk
  · refine .inl ⟨hk, dc_it walk_list w1 (fun D j H => ∃ as : List Addr, H D = some (.dK (dkv (ws.take j) (as.map V.ref))) ∧ Paired (F H) as (ws.take j) ∧ Sm H1 H) (fun D nD => ⟨[], upd_same, .nil, Sm.new nD⟩) (fun D j H _ ⟨_, _, _, p⟩ => SqL.sm hk p) (fun D j x H H' nD hj p y => ?_) fun D H nD p => fin D H nD (by rw [hl] at p; exact p)⟩
    obtain ⟨rfl, ex⟩ := y
    exact step D j x _ nD (by omega) p ex
  · refine .inr ⟨hk, dc_it walk_tup w1 (fun D j H => ∃ as : List Addr, H D = some (.dK (dkv (ws.take j) (as.map V.ref))) ∧ Paired (F H) as (ws.take j) ∧ Sm H1 H) (fun D nD => ⟨[], upd_same, .nil, Sm.new nD⟩) (fun D j H _ ⟨_, _, _, p⟩ => SqT.sm hk p) (fun D j x H H' nD hj p y => ?_) fun D H nD p => fin D H nD (by rw [hl] at p; exact p)⟩
    obtain ⟨rfl, ex⟩ := y
    exact step D j x _ nD (by omega) p ex
theorem range_f {ws : List Str} {f : Str → Str} : ((List.range ws.length).map fun j => V.str (f (ws.getD j ⟨#[]⟩))) = (ws.map f).map V.str := by
  refine List.ext_getElem (by simp) fun j h1 h2 => ?_
  rw [List.length_map, List.length_map] at h2
  rw [List.getElem_map, List.getElem_range, List.getElem_map, List.getElem_map, List.getD_eq_getElem?_getD, List.getElem?_eq_getElem h2]
  rfl
/-- as dc_names, of texts -/
theorem dc_strs {K : PySem.W.Frag} {a : Addr} {ws : List Str} {tv : TE} {f : Str → Str} {σ : L2.St} {i : Nat} {H1 : Hp} {Q : Addr → Hp → Prop} (hk : Sq K H1 a ws) (nd : ws.Nodup) (hn : ws.length ≤ 1000) (w1 : ∀ v, wipe ((wipe σ [i]).set i (some v)) [i] = wipe σ [i])
    (s1 : ∀ v, ((wipe σ [i]).set i (some v))[i]? = some (some v)) (ev : ∀ (z : Str) (H2 : Hp) (Q : VK), z ∈ ws → Sm H1 H2 → Q (.str (f z)) H2 → tv ((wipe σ [i]).set i (some (.str z))) H2 Q)
    (q : ∀ (D : Addr) (H2 : Hp), Sm H1 H2 → H1 D = none → H2 D = some (.dK (tabS ws f)) → Q D H2) :
    (SqL K H1 a (ws.map V.str) ∧ DcR (gName i) (tVar i) tv σ [i] H1 Q (Itl K a)) ∨ (SqT K H1 a (ws.map V.str) ∧ DcR (gName i) (tVar i) tv σ [i] H1 Q (Itt K a)) :=
  dc_names (fv := fun j => .str (f (ws.getD j ⟨#[]⟩))) hk nd hn w1 s1 (fun j z H2 Q2 ez m2 q2 => ev z H2 Q2 (List.mem_of_getElem? ez) m2 (by rw [List.getD_eq_getElem?_getD, ez] at q2; exact q2)) fun D H2 m2 nD e => q D H2 m2 nD (by rw [e, range_f])
theorem DeskOb.x {K : PySem.W.Frag} {C : Addr} {H G : Hp} {x c CC dx : Addr} {ws ds : List Str} {tb : List (List Str)} {ls : List Str} {fs : List (Str × V)} (ob : DeskOb K C H x ws ds tb ls) (ne : x ≠ c) (hc : H c = some (.ins CC dx fs)) (m : Sx c H G) : DeskOb K C G x ws ds tb ls := by
  obtain ⟨dy, st, ld, si, as, hx, hst, hld, hsi, pr⟩ := ob
  have n : ∀ {b : Addr} {t : List (Key × V)}, H b = some (.dK t) → b ≠ c := fun {b t} e z => by
    rw [z, hc] at e
    cases e
  exact ⟨dy, st, ld, si, as, m _ _ ne hx, SqT.x hst hc m, m _ _ (n hld) hld, m _ _ (n hsi) hsi, pair_mono pr fun b _ vs e => m _ _ (n e) e⟩
theorem RowsAt.x {K : PySem.W.Frag} {H G : Hp} {c C dx : Addr} {fs : List (Str × V)} {as : List Addr} {ds : List Str} {rf : Str → List Str} (h : RowsAt K H as ds rf) (hc : H c = some (.ins C dx fs)) (m : Sx c H G) : RowsAt K G as ds rf := pair_mono h fun a _ d t => SqT.x t hc m
theorem tup_upd {K : PySem.W.Frag} {H : Hp} {a p : Addr} {xs : List V} {kvs : List (Key × V)} {o : HO} (ha : SqT K H a xs) (hp : H p = some (.dK kvs)) : SqT K (upd H p o) a xs := by
  have ne : ∀ {u : HO}, H a = some u → u ≠ .dK kvs → a ≠ p := fun {u} e n z => n (by rw [z, hp] at e; exact (Option.some.inj e).symm)
  rcases ha with (h | ⟨o, h⟩) | h
  · exact .inl (.inl (by rw [upd_ne (ne h (fun z => nomatch z))]; exact h))
  · exact .inl (.inr ⟨o, by rw [upd_ne (ne h (fun z => nomatch z))]; exact h⟩)
  · exact .inr h
def spChI (K : PySem.W.Frag) (CD CC : Addr) : Sp := fun vs H Q _ => ∃ (c dx a b p r e : Addr) (D E : DkD) (X : ChD) (k1 k2 k3 : List Str) (us : List V), vs = [.ref c, .ref a, .ref b, .ref p, .ref r, .ref e] ∧ H c = some (.ins CC dx []) ∧ DOb K CD H a D ∧ D.Is ∧ DOb K CD H b E ∧ E.Is ∧ X.Ok D E ∧
  H p = some (.dK (tabS k1 X.pf)) ∧ k1.Perm D.ws ∧ H r = some (.dK (dkv k2 us)) ∧ RowsIn H us k2 X.rf ∧ k2.Perm D.ds ∧ H e = some (.dK (tabS k3 X.ef)) ∧ k3.Perm (fm E.ls) ∧
  ∀ H', Sx c H H' → ChOb K CD CC H' c D E X → Q .non H'
abbrev nChI : List Str := ["self", "first", "second", "places", "rows", "eyes", "standing", "deed", "sight"]
theorem scChI : FnScope nChI ["self", "first", "second", "places", "rows", "eyes"] (defScope (methC 0)) := ⟨rfl, rfl, rfl, by decide +kernel, rfl, by decide +kernel, by decide +kernel⟩
theorem RowsIn.at_ {H : Hp} {us : List V} {ks : List Str} {rf : Str → List Str} (h : RowsIn H us ks rf) {d : Str} (hd : d ∈ ks) : ∃ a, valV (dkv ks us) (.inr d) = some (.ref a) ∧ (H a = some (.lst ((rf d).map V.str)) ∨ H a = some (.tup ((rf d).map V.str))) := by
  have al := paired_len h
  have il := idx_lt hd
  have e1 : us[ks.idxOf d]? = some (us[ks.idxOf d]'(by omega)) := List.getElem?_eq_getElem _
  obtain ⟨d2, e2, a, ea, t⟩ := pair_at h e1
  rw [List.getElem?_eq_getElem il, List.getElem_idxOf il] at e2
  obtain rfl := Option.some.inj e2
  exact ⟨a, by rw [dkv_get al hd, e1, ea], t⟩
section
variable {P : Program} {w : World} {K : PySem.W.Frag} {mg : Str → Option Value} {base : Heap} {f CD CC : Addr} {fd : FuncData}
theorem ok_chI (F : FunD K "__init__" "Change.__init__" (defArgs (methC 0)) (defBody (methC 0)) (defScope (methC 0)) [] [] f fd) (mT : mg "tuple" = none) (hC : Cls K CD) (T : ChC K mg CC)
    (PS_ : Px P w K mg base CD 1 "standings" nSelf (spStd CD)) (PD : Px P w K mg base CD 1 "deeds" nSelf (spDds K CD)) (GA : Fx P w K mg base CX0 3 "all_sights" ["desk"] (spAs K CD))
    (G1 : Fx P w K mg base CX0 3 "are_places" ["first", "second", "value"] (spArP K CD)) (G2 : Fx P w K mg base CX0 3 "are_rows" ["first", "second", "value"] (spArR K CD)) (G3 : Fx P w K mg base CX0 4 "are_eyes" ["first", "second", "value"] (spArE K CD)) :
    FnOk P w K mg base CX0 5 f fd ["self", "first", "second", "places", "rows", "eyes"] (spChI K CD CC) := by
  refine F.ok (CX := CX0) scChI (fun vs H Q E h => ?_) (fun cdv A outer s H vs Q E hr h => ?_)
  · obtain ⟨c, dx, a, b, p, r, e, D, E, X, k1, k2, k3, us, rfl, _⟩ := h
    rfl
  · refine ⟨_, PSs.nox (pss_cons (ps_if (pt_not (pt_val (by exact (pe_fx G1 hr (by decide) rfl (pa_cons (pv 1) (pa_cons (pv 2) (pa_cons (pv 3) pa_nil))))) (fun _ => rfl))) (pss_one ps_never) pss_nil)
      (pss_cons (ps_if (pt_not (pt_val (by exact (pe_fx G2 hr (by decide) rfl (pa_cons (pv 1) (pa_cons (pv 2) (pa_cons (pv 4) pa_nil))))) (fun _ => rfl))) (pss_one ps_never) pss_nil)
      (pss_cons (ps_if (pt_not (pt_val (by exact (pe_fx G3 hr (by decide) rfl (pa_cons (pv 1) (pa_cons (pv 2) (pa_cons (pv 5) pa_nil))))) (fun _ => rfl))) (pss_one ps_never) pss_nil)
      (pss_cons (ps_fld (pv 0) (pv 1) (by rfl))
      (pss_cons (ps_fld (pv 0) (pv 2) (by rfl))
      (pss_cons (ps_fld (pv 0) (by exact (pe_dc (own := [("standing", 6)]) (g := gName 6) (tt := tYes) (tk := tVar 6) (tv := tDGet (tVar 3) (tVar 6)) rfl scChI.nd (pi_seq (by exact (pe_px PS_ (pv 1) hC hr (by decide) rfl)))
        (blkOk_by (N := nChI) (sc := defScope (methC 0)) (by decide +kernel)) (fun _ _ _ _ _ => pg_name (i := 6) scChI.nd rfl (Or.inl rfl)) (fun _ _ _ _ _ => pts_nil) (fun _ _ _ _ _ => by exact (pv 6)) (fun _ _ _ _ _ => by exact (pe_dget (hu_of hr) (by exact (pv 3)) (by exact (pv 6)) (fun _ _ => rfl))))) (by rfl))
      (pss_cons (ps_fld (pv 0) (by exact (pe_dc (own := [("deed", 7)]) (g := gName 7) (tt := tYes) (tk := tVar 7) (tv := tCB (rTupA K) (tCons (tDGet (tVar 4) (tVar 7)) tNil)) rfl scChI.nd (pi_seq (by exact (pe_px PD (pv 1) hC hr (by decide) rfl)))
        (blkOk_by (N := nChI) (sc := defScope (methC 0)) (by decide +kernel)) (fun _ _ _ _ _ => pg_name (i := 7) scChI.nd rfl (Or.inl rfl)) (fun _ _ _ _ _ => pts_nil) (fun _ _ _ _ _ => by exact (pv 7)) (fun _ _ _ _ _ => by exact (pe_callTy call_tupA rfl mT PyProof.Rows.boot_tuple (pa_cons (by exact (pe_dget (hu_of hr) (by exact (pv 4)) (by exact (pv 7)) (fun _ _ => rfl))) pa_nil))))) (by rfl))
      (pss_one (ps_fld (pv 0) (by exact (pe_dc (own := [("sight", 8)]) (g := gName 8) (tt := tYes) (tk := tVar 8) (tv := tDGet (tVar 5) (tVar 8)) rfl scChI.nd (pi_seq (by exact (pe_fx GA hr (by decide) rfl (pa_cons (pv 2) pa_nil))))
        (blkOk_by (N := nChI) (sc := defScope (methC 0)) (by decide +kernel)) (fun _ _ _ _ _ => pg_name (i := 8) scChI.nd rfl (Or.inl rfl)) (fun _ _ _ _ _ => pts_nil) (fun _ _ _ _ _ => by exact (pv 8)) (fun _ _ _ _ _ => by exact (pe_dget (hu_of hr) (by exact (pv 5)) (by exact (pv 8)) (fun _ _ => rfl))))) (by rfl)))))))))), ?_⟩
    obtain ⟨c, dx, a, b, p, r, e, D, E, X, k1, k2, k3, us, rfl, hc, oa, ia, ob, ib, ok, hp, pm1, hr1, rin, pm2, he, pm3, q⟩ := h
    refine ⟨_, rfl, _, rfl, _, rfl, a, b, p, D, E, k1, X.pf, rfl, oa, ia, ob, ib, hp, pm1, ok.p, fun H1 m1 => ⟨_, rfl, iteF ⟨_, rfl, _, rfl, _, rfl, a, b, r, D, E, k2, us, X.rf, rfl, oa.sm m1, ia, ob.sm m1, ib, m1 _ _ hr1, rin.sm m1, pm2, ok.r, fun H2 m2 => ⟨_, rfl, iteF ?_⟩⟩⟩⟩
    have m12 := m1.trans m2
    refine ⟨_, rfl, _, rfl, _, rfl, a, b, e, D, E, k3, X.ef, rfl, oa.sm m12, ia, ob.sm m12, ib, m12 _ _ he, pm3, ok.e, fun H3 m3 => ⟨_, rfl, iteF ?_⟩⟩
    have m := m12.trans m3
    have ndx : ∀ {y : Addr} {D : DkD}, DOb K CD H y D → y ≠ c := fun {y D} o z => by
      obtain ⟨_, _, _, _, _, hy, _⟩ := o
      rw [z, hc] at hy
      have := HO.ins.inj (Option.some.inj hy)
      exact nomatch this.2.2
    have ac := ndx oa
    have bc := ndx ob
    have pc : p ≠ c := fun z => by
      rw [z, hc] at hp
      cases hp
    have rc : r ≠ c := fun z => by
      rw [z, hc] at hr1
      cases hr1
    have ec : e ≠ c := fun z => by
      rw [z, hc] at he
      cases he
    have uc : ∀ G, Sx c H G → RowsIn G us k2 X.rf := fun G mm => pair_mono rin fun u _ d ⟨y, ey, t⟩ => ⟨y, ey, t.elim (fun t => .inl (mm _ _ (fun z => by rw [z, hc] at t; cases t) t)) (fun t => .inr (mm _ _ (fun z => by rw [z, hc] at t; cases t) t))⟩
    have hc3 := m _ _ hc
    clear m1 m2 m3 m12
    -- two fields
    refine ⟨_, rfl, _, rfl, c, CC, dx, [], rfl, hc3, T.cl, T.n1, by show 0 < 1000; decide, ?_⟩
    refine ⟨_, rfl, _, rfl, c, CC, dx, [("_first", .ref a)], rfl, upd_same, T.cl, T.n2, by show 1 < 1000; decide, ?_⟩
    have s5 : Sx c H (upd (upd H3 c (.ins CC dx (putF "_first" (.ref a) []))) c (.ins CC dx (putF "_second" (.ref b) [("_first", .ref a)]))) := ((Sx.of m).trans Sx.upd).trans Sx.upd
    have h5 : (upd (upd H3 c (.ins CC dx (putF "_first" (.ref a) []))) c (.ins CC dx (putF "_second" (.ref b) [("_first", .ref a)]))) c = some (.ins CC dx [("_first", .ref a), ("_second", .ref b)]) := upd_same
    generalize upd (upd H3 c (.ins CC dx (putF "_first" (.ref a) []))) c (.ins CC dx (putF "_second" (.ref b) [("_first", .ref a)])) = G5 at s5 h5 ⊢
    have oa5 := oa.x ac hc s5
    obtain ⟨da, sta, lda, sia, asa, hxa, hsta, _⟩ := id oa5
    -- _places
    refine ⟨_, rfl, a, da, _, rfl, hxa, a, da, sta, lda, sia, rfl, hxa, sta, D.ws.map V.str, rfl, ?_⟩
    have w9 := ia.most
    have d4 := ia.dmost
    refine dc_strs (f := X.pf) (.inr hsta) ia.nd (by omega) (fun _ => rfl) (fun _ => rfl) (fun z H6 Q6 hz m6 q6 => ⟨_, rfl, _, rfl, p, .str (X.pf z), rfl, .inl ⟨_, .inr z, .inl (m6 _ _ (s5 _ _ pc hp)), rfl, (row_at (pm1.mem_iff.mpr hz)).symm⟩, q6⟩) fun P1 G6 m6 nP eP => ?_
    have h6 := m6 _ _ h5
    refine ⟨_, rfl, c, CC, dx, _, rfl, h6, T.cl, T.n3, by show 2 < 1000; decide, ?_⟩
    have P1c : P1 ≠ c := fun z => by
      rw [z, h6] at eP
      cases eP
    have s7 : Sx c H (upd G6 c (.ins CC dx (putF "_places" (.ref P1) [("_first", .ref a), ("_second", .ref b)]))) := (s5.trans (Sx.of m6)).trans Sx.upd
    have h7 : (upd G6 c (.ins CC dx (putF "_places" (.ref P1) [("_first", .ref a), ("_second", .ref b)]))) c = some (.ins CC dx [("_first", .ref a), ("_second", .ref b), ("_places", .ref P1)]) := upd_same
    have eP7 : (upd G6 c (.ins CC dx (putF "_places" (.ref P1) [("_first", .ref a), ("_second", .ref b)]))) P1 = some (.dK (tabS D.ws X.pf)) := by
      rw [upd_ne P1c]
      exact eP
    generalize upd G6 c (.ins CC dx (putF "_places" (.ref P1) [("_first", .ref a), ("_second", .ref b)])) = G7 at s7 h7 eP7 ⊢
    have oa7 := oa.x ac hc s7
    obtain ⟨da7, _, _, _, _, hxa7, _⟩ := id oa7
    -- _rows
    refine ⟨_, rfl, a, da7, _, rfl, hxa7, a, D.ws, D.ds, D.tb, D.ls, rfl, oa7, ia.rows, fun l8 G8 m8 n8 e8 => ⟨l8, D.ds.map V.str, rfl, ?_⟩⟩
    have s8 := s7.trans (Sx.of m8)
    have h8 := m8 _ _ h7
    have r8 := s8 _ _ rc hr1
    have u8 := uc _ s8
    refine dc_refs (F := fun G y z => SqT K G y ((X.rf z).map V.str)) (.inr (.inl (.inl e8))) ia.dnd (by omega) (fun _ => rfl) (fun _ => rfl) (fun G G' y z mm t => SqT.sm t mm) (fun G D0 ks ks' y z e0 t => tup_upd t e0) (fun z H9 Q9 hz m9 q9 => ?_) fun R1 G9 as m9 nR eR pR => ?_
    · obtain ⟨y, ey, ty⟩ := (u8.sm m9).at_ (pm2.mem_iff.mpr hz)
      refine ⟨_, rfl, _, rfl, r, .ref y, rfl, .inl ⟨_, .inr z, .inl (m9 _ _ r8), rfl, ey.symm⟩, y, (X.rf z).map V.str, rfl, ?_, fun st G mG ht => q9 st G mG ht⟩
      exact ty.elim (fun t => .inl (.inl (.inl t))) (fun t => .inr (.inl (.inl t)))
    have h9 := m9 _ _ h8
    refine ⟨_, rfl, c, CC, dx, _, rfl, h9, T.cl, T.n4, by show 3 < 1000; decide, ?_⟩
    have R1c : R1 ≠ c := fun z => by
      rw [z, h9] at eR
      cases eR
    have eP9 := m9 _ _ (m8 _ _ eP7)
    have su : Sx c G9 (upd G9 c (.ins CC dx (putF "_rows" (.ref R1) [("_first", .ref a), ("_second", .ref b), ("_places", .ref P1)]))) := Sx.upd
    have sx : Sx c H (upd G9 c (.ins CC dx (putF "_rows" (.ref R1) [("_first", .ref a), ("_second", .ref b), ("_places", .ref P1)]))) := (s8.trans (Sx.of m9)).trans su
    have hx : (upd G9 c (.ins CC dx (putF "_rows" (.ref R1) [("_first", .ref a), ("_second", .ref b), ("_places", .ref P1)]))) c = some (.ins CC dx [("_first", .ref a), ("_second", .ref b), ("_places", .ref P1), ("_rows", .ref R1)]) := upd_same
    have ePx := su _ _ P1c eP9
    have eRx := su _ _ R1c eR
    have pRx := RowsAt.x (rf := X.rf) pR h9 su
    generalize upd G9 c (.ins CC dx (putF "_rows" (.ref R1) [("_first", .ref a), ("_second", .ref b), ("_places", .ref P1)])) = Gx at su sx hx ePx eRx pRx ⊢
    -- _eyes
    refine ⟨_, rfl, b, E, rfl, ob.x bc hc sx, ib, fun l10 G10 m10 n10 e10 => ⟨l10, (fm E.ls).map V.str, rfl, ?_⟩⟩
    have f9 := fm_few ib
    have he10 := m10 _ _ (sx _ _ ec he)
    refine dc_strs (f := X.ef) (.inl (.inl (.inl e10))) (fm_nd _) (by omega) (fun _ => rfl) (fun _ => rfl) (fun z H6 Q6 hz m6 q6 => ⟨_, rfl, _, rfl, e, .str (X.ef z), rfl, .inl ⟨_, .inr z, .inl (m6 _ _ he10), rfl, (row_at (pm3.mem_iff.mpr hz)).symm⟩, q6⟩) fun Y1 G11 m11 nY eY => ?_
    have m20 := m10.trans m11
    have h11 := m20 _ _ hx
    refine ⟨_, rfl, c, CC, dx, _, rfl, h11, T.cl, T.n5, by show 4 < 1000; decide, ?_⟩
    have Y1c : Y1 ≠ c := fun z => by
      rw [z, h11] at eY
      cases eY
    have sv : Sx c G11 (upd G11 c (.ins CC dx (putF "_eyes" (.ref Y1) [("_first", .ref a), ("_second", .ref b), ("_places", .ref P1), ("_rows", .ref R1)]))) := Sx.upd
    have sz := (sx.trans (Sx.of m20)).trans sv
    exact q _ sz ⟨dx, a, b, P1, R1, Y1, as, upd_same, oa.x ac hc sz, ob.x bc hc sz, sv _ _ P1c (m20 _ _ ePx), sv _ _ R1c (m20 _ _ eRx), RowsAt.x (pRx.sm m20) h11 sv, sv _ _ Y1c eY⟩
end
end Dk
set_option Elab.async false
set_option linter.all false
set_option maxRecDepth 100000
set_option maxHeartbeats 8000000
namespace Dk
open PySem PySem.Spec PyProof.Rows L2 Er LamX NdefX
open PySem.ErK (EC)
/-! ### == and != of an instance with its own __eq__, and of anything whose type is known -/
section
open PySem.W PySem.Calls
variable {prog : Program} {w : World} {M : Model} {A A₀ : Around} {E : Value → Shared → Prop} {s : Shared} {K : PySem.W.Frag} {x C L f : Addr} {h₀ : Heap} {m : Str → Option Value} {ox : Obj} {od : Option Obj} {name : Str} {b tb : Value} {id : String}
theorem ifBound_B {args : List Value} {Q : Option Value → Shared → Prop} (X : K.In s.heap) (I : InstAt s.heap x ox C od) (hs : findIn K (.ref C) name = some (some (.builtin id))) (hb : ∀ self, bindSpecial (.builtin id) self = pure (.builtin id, [self]))
    (h : wpAny M A (call (.builtin id) (.ref x :: args)) (fun v => Q (some v)) E s) : wpAny M A (callSpecialIfBound? (.ref x) name args) Q E s := by
  simp only [callSpecialIfBound?, bindSpecialIfBound?]
  refine wpAny_holding (wpAny_bind (wpAny_bind (wpAny_bind (I.type.here ((looks_findIn X hs).here ?_)))))
  refine wpAny_bind (wpAny_askSetting (wpAny_ite ?_))
  have fin : wpAny M A (call (.builtin id) ([.ref x] ++ args) >>= fun v => pure (some v)) Q E s := wpAny_bind (wpAny_mono h (fun v s' h' => wpAny_pure h') fun _ _ h' => h')
  split
  · exact wpAny_bind ((Looks.of_pure (hb _)).here (wpAny_pure (by exact fin)))
  · exact wpAny_tryCatch (wpAny_bind ((Looks.of_pure (hb _)).here (wpAny_pure (by exact fin))))
open Builtin in
theorem one_ne {Q : Value → Shared → Prop} (hu : A.in1.units < cLine) (X : K.In s.heap) (I : InstAt s.heap x ox C od) (hm : mroIn K C (.type "object") = some true) (hr : findIn K (.ref C) "__eq__" = some (some (.ref f))) (hf : isFn K (.ref f) = true)
    (h : wpAny (model prog w) A.in1 (call (.ref f) [.ref x, b]) (fun v s' => ∃ k, v = .bool k ∧ Q (.bool (!k)) s') E s) : wpAny (model prog w) A (call (.builtin "object.__ne__") [.ref x, b]) Q E s := by
  refine wpAny_call (codeAny_call_builtin PySem.F.slot_object_ne.plain PySem.F.entry_object_ne (PySem.W.check_slot (i := "object.__ne__") (owner := "object") (n := "__ne__") (by decide +kernel) (by decide +kernel) (I.type.andThen (looks_mroIn X hm)) (F.cmpArgs_ne _ _) ?_))
  unfold Builtin.«object.__ne__»
  refine wpAny_bind (m := slotArgs "__ne__" 1 _) (wpAny_pure ?_)
  refine wpAny_bind (m := cRoomFor _ _) (wpAny_cRoomFor hu ?_)
  refine wpAny_bind (m := callSpecialIfBound? (.ref x) (Str.ofString "__eq__") _) (ifBound_K X I hr hf (wpAny_mono h (fun r s' hq => ?_) fun _ _ y => y))
  obtain ⟨k, rfl, q⟩ := hq
  exact wpAny_bind (wpAny_truthy_bool (wpAny_pure q))
open PySem.W in
theorem ne_K {Q : Value → Shared → Prop} (hu : A.in1.units < cLine) (hu0 : A.units < cLine) (F : Fr h₀ L s.heap m) (X₀ : K.In h₀) (I : InstAt s.heap x ox C od) (hb : Looks (model prog w) s.heap (typeOf b) tb) (hn : notFirst K C tb = true)
    (hm : mroIn K C (.type "object") = some true) (hs : findIn K (.ref C) "__ne__" = some (some (.builtin "object.__ne__"))) (hr : findIn K (.ref C) "__eq__" = some (some (.ref f))) (hf : isFn K (.ref f) = true)
    (h : wpAny (model prog w) A.in1 (call (.ref f) [.ref x, b]) (fun v s' => ∃ k, v = .bool k ∧ Q (.bool (!k)) s') E s) : wpAny (model prog w) A (richCompare .NotEq (.ref x) b) Q E s := by
  have X := X₀.keeps F.keep
  have one : wpAny (model prog w) A (tryCompare (.ref x) (cmpInfo .NotEq).2.1 b) (fun r s' => ∃ v, r = some v ∧ Q v s') E s := by
    unfold tryCompare
    refine wpAny_bind (ifBound_B X I hs PySem.F.slot_object_ne.bind (one_ne hu X I hm hr hf (wpAny_mono h (fun v s' hv => ?_) fun _ _ e => e)))
    obtain ⟨k, rfl, q⟩ := hv
    exact ⟨k, rfl, wpAny_pure ⟨_, rfl, q⟩⟩
  unfold richCompare
  simp only [oneThing_ref]
  refine wpAny_holding (wpAny_bind (wpAny_cRoomFor hu0 ?_))
  refine wpAny_bind (I.type.here (wpAny_bind (hb.here ?_)))
  split
  · rename_i q
    have e : subIn K tb (.ref C) = some false := by
      rcases Bool.or_eq_true_iff.mp hn with e | e
      · rw [beq_iff_eq.mp e] at q; simp at q
      · exact beq_iff_eq.mp e
    refine wpAny_bind ((looks_subIn X e).here ?_)
    simp only [Bool.false_eq_true, if_false]
    refine wpAny_bind (wpAny_mono one (fun r s' z => ?_) fun _ _ e => e)
    obtain ⟨v, rfl, hq⟩ := z
    exact wpAny_pure hq
  · refine wpAny_bind (wpAny_pure ?_)
    simp only [Bool.false_eq_true, if_false]
    refine wpAny_bind (wpAny_mono one (fun r s' z => ?_) fun _ _ e => e)
    obtain ⟨v, rfl, hq⟩ := z
    exact wpAny_pure hq
end
/-- None, a number, a text, a list, a tuple, a dict, an object of the class -/
inductive EqY (C : Addr) (H : Hp) : V → Prop
  | own {b dy : Addr} {gs : List (Str × V)} (e : H b = some (.ins C dy gs)) : EqY C H (.ref b)
  | non : EqY C H .non
  | int (i : Int) : EqY C H (.int i)
  | str (z : Str) : EqY C H (.str z)
  | lst {b : Addr} {xs : List V} (e : H b = some (.lst xs)) : EqY C H (.ref b)
  | tup {b : Addr} {xs : List V} (e : H b = some (.tup xs)) : EqY C H (.ref b)
  | dK {b : Addr} {kvs : List (Key × V)} (e : H b = some (.dK kvs)) : EqY C H (.ref b)
abbrev eqTypes : List String := ["NoneType", "int", "str", "list", "tuple", "dict"]
section
variable {X : Cx} {CX : CXT} {n : Nat} {C f : Addr} {fd : FuncData} {ps : List Str} {sp : Sp} {E : XK}
theorem eqy_ty {pins : List (Addr × Obj)} {σ : L2.St} {s : Shared} {H : Hp} {y : V} {u : Value} (I : Inv X pins σ H s) (N : ∀ t ∈ eqTypes, PySem.W.notFirst X.K C (.type t) = true) (h : EqY C H y) (ry : RelV y u) :
    ∃ t, PySem.W.Looks (model X.prog X.w) s.heap (typeOf u) t ∧ PySem.W.notFirst X.K C t = true := by
  cases h with
  | own hb =>
    rename_i b dy gs
    cases (show u = Value.ref b from ry)
    obtain ⟨mB, J', _⟩ := ins_get I.hok hb
    obtain ⟨od', J', _⟩ := J'.look
    exact ⟨_, J'.type, by simp [PySem.W.notFirst]⟩
  | non =>
    cases (show u = Value.none from ry)
    exact ⟨_, PySem.W.Looks.of_pure rfl, N "NoneType" (by decide)⟩
  | int i =>
    obtain ⟨t, e⟩ := (show ∃ t, u = Value.int i t from ry)
    subst e
    exact ⟨_, PySem.W.Looks.of_pure rfl, N "int" (by decide)⟩
  | str z =>
    obtain ⟨t, e⟩ := (show ∃ t, u = Value.str z t from ry)
    subst e
    exact ⟨_, PySem.W.Looks.of_pure rfl, N "str" (by decide)⟩
  | lst e =>
    rename_i b xs
    cases (show u = Value.ref b from ry)
    obtain ⟨_, its, k, rv, ho⟩ := (show ObjOk X.prog X.w H s.heap b (.lst xs) from I.hok b _ e)
    exact ⟨.type "list", (PySem.W.Looks.ld ho).andThen .now, N "list" (by decide)⟩
  | tup e =>
    rename_i b xs
    cases (show u = Value.ref b from ry)
    obtain ⟨_, its, rv, o, ho, hc, k, hd⟩ := (show ObjOk X.prog X.w H s.heap b (.tup xs) from I.hok b _ e)
    exact ⟨.type "tuple", hc ▸ (PySem.W.Looks.ld ho).andThen .now, N "tuple" (by decide)⟩
  | dK e =>
    rename_i b kvs
    cases (show u = Value.ref b from ry)
    obtain ⟨_, ns, vs, kv, o, es, ep, ho, hx, hd, _, hp, _⟩ := (show ObjOk X.prog X.w H s.heap b (.dK kvs) from I.hok b _ e)
    exact ⟨.type "dict", hx.1 ▸ (PySem.W.Looks.ld ho).andThen .now, N "dict" (by decide)⟩
def rEqY (C : Addr) (sp : Sp) (E : XK) : R2 := fun x y H Q => ∃ a dx fs, x = .ref a ∧ H a = some (.ins C dx fs) ∧ EqY C H y ∧ sp [x, y] H Q E
def rNeY (C : Addr) (sp : Sp) (E : XK) : R2 := fun x y H Q => ∃ a dx fs, x = .ref a ∧ H a = some (.ins C dx fs) ∧ EqY C H y ∧ sp [x, y] H (fun v H' => ∃ k, v = .bl k ∧ Q (.bl (!k)) H') E
theorem op_eqY (F : FnOk X.prog X.w X.K X.mg X.base CX n f fd ps sp) (hs : PySem.W.findIn X.K (.ref C) "__eq__" = some (some (.ref f))) (hf : PySem.W.isFn X.K (.ref f) = true) (hb : Binds X.K fd ps []) (hr : Room n X.A) (hx : Passes CX X E)
    (N : ∀ t ∈ eqTypes, PySem.W.notFirst X.K C (.type t) = true) : OpR X (compareOp .Eq) (rEqY C sp E) := by
  intro pins s σ H x y v u Q I rx ry h
  obtain ⟨a, dx, fs, rfl, ha, hy, q⟩ := h
  cases (show v = Value.ref a from rx)
  obtain ⟨mA, J, _⟩ := ins_get I.hok ha
  obtain ⟨od, J, _⟩ := J.look
  obtain ⟨m, hF⟩ := I.fr
  obtain ⟨t, lk, nf⟩ := eqy_ty I N hy ry
  show wpAny (model X.prog X.w) X.A (richCompare .Eq _ u) (EP X pins σ Q) X.xe s
  refine PySem.W.cmp_K (op := .Eq) hr.units0 hF I.ok.mod.kin J lk nf hs hf ?_
  refine wpAny_mono (run_fn (us := [.ref a, u]) (vs := [.ref a, y]) F hr hb .nil hx I (.cons rfl (.cons ry .nil)) q) (fun w s' z => ?_) fun _ _ x => x
  obtain ⟨z', H', I', rz, qz⟩ := z
  exact SlX.cmpback rz ⟨z', H', I', rz, qz⟩
theorem op_neY (F : FnOk X.prog X.w X.K X.mg X.base CX n f fd ps sp) (hm : PySem.W.mroIn X.K C (.type "object") = some true) (hne : PySem.W.findIn X.K (.ref C) "__ne__" = some (some (.builtin "object.__ne__"))) (hs : PySem.W.findIn X.K (.ref C) "__eq__" = some (some (.ref f))) (hf : PySem.W.isFn X.K (.ref f) = true) (hb : Binds X.K fd ps []) (hr : Room (n + 1) X.A) (hx : Passes CX X E)
    (N : ∀ t ∈ eqTypes, PySem.W.notFirst X.K C (.type t) = true) : OpR X (compareOp .NotEq) (rNeY C sp E) := by
  intro pins s σ H x y v u Q I rx ry h
  obtain ⟨a, dx, fs, rfl, ha, hy, q⟩ := h
  cases (show v = Value.ref a from rx)
  obtain ⟨mA, J, _⟩ := ins_get I.hok ha
  obtain ⟨od, J, _⟩ := J.look
  obtain ⟨m, hF⟩ := I.fr
  obtain ⟨t, lk, nf⟩ := eqy_ty I N hy ry
  show wpAny (model X.prog X.w) X.A (richCompare .NotEq _ u) (EP X pins σ Q) X.xe s
  have r2 : Vals [V.ref a, y] [Value.ref a, u] := .cons rfl (.cons ry .nil)
  have hl : [Value.ref a, u].length = ps.length := by rw [← r2.length]; exact F.len _ _ _ _ q
  refine ne_K hr.in1.units0 hr.units0 hF I.ok.mod.kin J lk nf hm hne hs hf ?_
  refine wpAny_call (codeAny_mono (F.run X.A.in1 X.stack s H ⟨[.ref a, u], []⟩ [.ref a, u] [.ref a, y] _ E hr.in1 I.env0.in1 (by simpa using hb s [.ref a, u] I.kIn (by simpa using hl)) r2 q) fun r s' hq => ?_)
  cases r with
  | error e => exact hx pins σ H s e s' I hq
  | ok fl =>
    cases fl with
    | ret u' =>
      obtain ⟨z', H', I', rz, k, rfl, qz⟩ := I.after hq
      cases (show u' = Value.bool k from rz)
      exact ⟨k, rfl, .bl (!k), H', I', rfl, qz⟩
    | next => exact False.elim hq
    | brk => exact False.elim hq
    | cont => exact False.elim hq
end
end Dk
set_option Elab.async false
set_option linter.all false
set_option maxRecDepth 100000
set_option maxHeartbeats 8000000
namespace Dk
open PySem PySem.Spec PyProof.Rows L2 Er LamX NdefX
/-! ### Change.__eq__ of two that are equal -/
theorem hits_E {A : Around} {s : Shared} {F : V → V → Bool} {ls : List (Key × V)} {vb : List (Key × Value)} (rb : KV ls vb) : ∀ {ks : List (Key × V)} {va : List (Key × Value)}, KV ks va →
    (∀ p ∈ ks, ∀ u, valV ls p.1 = some u → ∀ y z, RelV p.2 y → RelV u z → SeqAt.EqAt A s y z (F p.2 u)) → PySem.W.KeqHits A s vb va (ks.all fun p => match valV ls p.1 with
      | none => false
      | some u => F p.2 u)
  | [], _, ra, _ => by
    cases ra
    exact .nil
  | p :: ks, _, ra, ih => by
    cases ra with
    | @cons _ q _ qs h t =>
      obtain ⟨h1, h2⟩ := h
      obtain ⟨key, y⟩ := q
      have h1 : p.1 = key := h1
      subst h1
      have rest := hits_E (A := A) (s := s) (F := F) rb t fun p' hm => ih p' (List.mem_cons_of_mem _ hm)
      have rv := rb.val p.1
      rw [List.all_cons]
      cases e : valV ls p.1 with
      | none =>
        rw [e] at rv
        cases g : valueAt vb p.1 with
        | none => exact .miss g
        | some z =>
          rw [g] at rv
          exact rv.elim
      | some u =>
        rw [e] at rv
        cases g : valueAt vb p.1 with
        | none =>
          rw [g] at rv
          exact rv.elim
        | some z =>
          rw [g] at rv
          exact .hit g (ih p List.mem_cons_self u e y z h2 rv) rest
theorem alike_strs : ∀ ws : List Str, PySem.W.alikeAll (ws.map PyData.str) (ws.map PyData.str) = true
  | [] => rfl
  | z :: ws => by
    rw [List.map_cons, PySem.W.alikeAll, alike_strs ws]
    rfl
theorem depth_strs : ∀ ws : List Str, PyData.depthAll (ws.map PyData.str) ≤ 1
  | [] => by simp [PyData.depthAll]
  | z :: ws => by
    have := depth_strs ws
    simp only [List.map_cons, PyData.depthAll, PyData.depth]
    omega
def rNeT (K : PySem.W.Frag) : R2 := fun x y H Q => ∃ (a b : Addr) (as bs : List Addr) (ws : List Str) (rf : Str → List Str), x = .ref a ∧ y = .ref b ∧ H a = some (.dK (dkv ws (as.map V.ref))) ∧ H b = some (.dK (dkv ws (bs.map V.ref))) ∧ RowsAt K H as ws rf ∧ RowsAt K H bs ws rf ∧ ws.Nodup ∧ Q (.bl false) H
theorem op_neT {X : Cx} (hu : X.A.units + 64 < cLine) : OpR X (compareOp .NotEq) (rNeT X.K) := by
  intro ps s σ H x y v u Q I rx ry h
  obtain ⟨a, b, as, bs, ws, rf, rfl, rfl, ea, eb, pa, pb, nd, q⟩ := h
  obtain rfl : v = Value.ref a := rx
  obtain rfl : u = Value.ref b := ry
  obtain ⟨_, ya, va, ra, da⟩ := (show ObjOk X.prog X.w H s.heap a (.dK (dkv ws (as.map V.ref))) from I.hok a _ ea)
  obtain ⟨_, yb, vb, rb, db⟩ := (show ObjOk X.prog X.w H s.heap b (.dK (dkv ws (bs.map V.ref))) from I.hok b _ eb)
  have la := paired_len pa
  have lb := paired_len pb
  have part : ∀ p ∈ dkv ws (as.map V.ref), ∀ u, valV (dkv ws (bs.map V.ref)) p.1 = some u → ∀ y z, RelV p.2 y → RelV u z → SeqAt.EqAt X.A.in1 s y z ((fun _ _ => true) p.2 u) := fun p hp u e y z ry rz => by
    obtain ⟨j, hj⟩ := List.mem_iff_getElem?.mp hp
    obtain ⟨k, v⟩ := p
    obtain ⟨d, ed, rfl, ev⟩ := dkv_at hj
    have jb : j < (bs.map V.ref).length := by
      have := (List.getElem?_eq_some_iff.mp ed).1
      rw [List.length_map]
      omega
    have e2 := valV_of (by rw [dkv_keys (by rw [List.length_map, lb])]; exact List.Pairwise.map _ (fun a b n z => n (Sum.inr.inj z)) nd) (show (dkv ws (bs.map V.ref))[j]? = some (.inr d, (bs.map V.ref)[j]'jb) from List.getElem?_zip_eq_some.mpr ⟨by rw [List.getElem?_map, ed]; rfl, List.getElem?_eq_getElem jb⟩)
    have e : valV (dkv ws (bs.map V.ref)) (.inr d) = some u := e
    rw [e2] at e
    obtain rfl := Option.some.inj e
    rw [List.getElem?_map] at ev
    cases eA : as[j]? with
    | none =>
      rw [eA] at ev
      cases ev
    | some t =>
      rw [eA] at ev
      obtain rfl := Option.some.inj ev
      have jb2 : j < bs.length := by rw [List.length_map] at jb; exact jb
      have eB : bs[j]? = some (bs[j]'jb2) := List.getElem?_eq_getElem _
      obtain ⟨d1, e1, t1⟩ := pair_at pa eA
      obtain ⟨d2, e3, t2⟩ := pair_at pb eB
      rw [ed] at e1 e3
      obtain rfl := Option.some.inj e1
      obtain rfl := Option.some.inj e3
      rw [List.getElem_map] at rz
      have D1 : Dp X.K H (.ref t) (.tuple ((rf d).map PyData.str)) := .tup t1 (dp_strs _)
      have D2 : Dp X.K H (.ref (bs[j]'jb2)) (.tuple ((rf d).map PyData.str)) := .tup t2 (dp_strs _)
      obtain ⟨c1, r1⟩ := Dp.reads I _ _ _ D1 ry
      obtain ⟨c2, r2⟩ := Dp.reads I _ _ _ D2 rz
      have dd := depth_strs (rf d)
      have e4 := PySem.W.eqAt_alike _ _ X.A.in1 s y z _ _ r1 r2 (by simp only [PySem.W.alike]; exact alike_strs _) (by
        simp only [PyData.depth]
        show X.A.units + 1 + _ < cLine
        omega)
      rw [show PyData.eqv (.tuple ((rf d).map PyData.str)) (.tuple ((rf d).map PyData.str)) = true from by rw [eqv_tupS]; exact decide_eq_true rfl] at e4
      exact e4
  refine PySem.W.keq_ne (knd := mixKind X.prog X.w) ya yb da db (by omega) (fun _ => hits_E (F := fun _ _ => true) rb ra part) (fin_bl I q ?_)
  rw [← ra.length, ← rb.length, dkv_len (by rw [List.length_map, la]), dkv_len (by rw [List.length_map, lb])]
  have al : ((dkv ws (as.map V.ref)).all fun p => match valV (dkv ws (bs.map V.ref)) p.1 with
      | none => false
      | some u => true) = true := List.all_eq_true.mpr fun p hp => by
    obtain ⟨k, v⟩ := p
    obtain ⟨j, hj⟩ := List.mem_iff_getElem?.mp hp
    obtain ⟨d, ed, rfl, ev⟩ := dkv_at hj
    have h := dkv_has (ws := ws) (vs := bs.map V.ref) (z := d) (by rw [List.length_map, lb])
    rw [decide_eq_true (List.mem_of_getElem? ed)] at h
    show (match valV (dkv ws (bs.map V.ref)) (.inr d) with
      | none => false
      | some u => true) = true
    cases g : valV (dkv ws (bs.map V.ref)) (.inr d) with
    | none =>
      rw [g] at h
      cases h
    | some u => rfl
  rw [al]
  simp
section
variable {X : Cx}
def rEqF : R2 := fun x y H Q => ∃ a b ks ls, x = .ref a ∧ y = .ref b ∧ H a = some (.dK ks) ∧ H b = some (.dK ls) ∧ (∀ p ∈ ks, flatV p.2 = true) ∧ (∀ p ∈ ls, flatV p.2 = true) ∧ Q (.bl (sameF eqV ks ls)) H
theorem op_eqF (hu : X.A.units + 1 < cLine) : OpR X (compareOp .Eq) rEqF := by
  intro ps s σ H x y v u Q I rx ry h
  obtain ⟨a, b, ks, ls, rfl, rfl, ea, eb, fk, fl, q⟩ := h
  obtain rfl : v = Value.ref a := rx
  obtain rfl : u = Value.ref b := ry
  obtain ⟨_, ya, va, ra, da⟩ := (show ObjOk X.prog X.w H s.heap a (.dK ks) from I.hok a _ ea)
  obtain ⟨_, yb, vb, rb, db⟩ := (show ObjOk X.prog X.w H s.heap b (.dK ls) from I.hok b _ eb)
  refine PySem.W.keq_eq (knd := mixKind X.prog X.w) ya yb da db (by omega) (fun _ => hits_F rb fl ra fk) (fin_bl I q ?_)
  unfold sameF
  rw [ra.length, rb.length]
  rfl
end
/-- an own ==, with what Python asks of the class -/
def Eqx (P : Program) (w : World) (K : PySem.W.Frag) (mg : Str → Option Value) (base : Heap) (C : Addr) (k : Nat) (sp : Sp) : Prop := ∃ f d ps, FnOk P w K mg base CX0 k f d ps sp ∧ PySem.W.findIn K (.ref C) "__eq__" = some (some (.ref f)) ∧ PySem.W.isFn K (.ref f) = true ∧ Binds K d ps []
structure EqC (K : PySem.W.Frag) (C : Addr) : Prop where
  hm : PySem.W.mroIn K C (.type "object") = some true
  hne : PySem.W.findIn K (.ref C) "__ne__" = some (some (.builtin "object.__ne__"))
  N : ∀ t ∈ eqTypes, PySem.W.notFirst K C (.type t) = true
theorem op_eqX {X : Cx} {C : Addr} {j k : Nat} {sp : Sp} (F : Eqx X.prog X.w X.K X.mg X.base C k sp) (T : EqC X.K C) (hr : Room j X.A) (hk : k ≤ j) : OpR X (compareOp .Eq) (rEqY C sp E0) := by
  obtain ⟨f, d, ps, F, hs, hf, b⟩ := F
  exact op_eqY F hs hf b (hr.mono hk) pass0 T.N
theorem op_neX {X : Cx} {C : Addr} {j k : Nat} {sp : Sp} (F : Eqx X.prog X.w X.K X.mg X.base C k sp) (T : EqC X.K C) (hr : Room j X.A) (hk : k + 1 ≤ j) : OpR X (compareOp .NotEq) (rNeY C sp E0) := by
  obtain ⟨f, d, ps, F, hs, hf, b⟩ := F
  exact op_neY F T.hm T.hne hs hf b (hr.mono hk) pass0 T.N
/-- == of two desks -/
def spEqD (K : PySem.W.Frag) (C : Addr) : Sp := fun vs H Q _ => ∃ (x y : Addr) (D E : DkD), vs = [.ref x, .ref y] ∧ DOb K C H x D ∧ D.Is ∧ DOb K C H y E ∧ E.Is ∧ ∀ H', Sm H H' → Q (.bl (decide (D = E))) H'
theorem spEqD.of {K : PySem.W.Frag} {C : Addr} {vs : List V} {H : Hp} {Q : VK} {E : XK} (h : spEqD K C vs H Q E) : spEqK K C vs H Q E := by
  obtain ⟨x, y, D, E, rfl, o1, i1, o2, i2, q⟩ := h
  refine ⟨x, .ref y, D.ws, D.ds, D.tb, D.ls, 9, rfl, o1, i1, .inl ⟨y, E.ws, E.ds, E.tb, E.ls, 9, rfl, o2, i2, fun H' m => ?_⟩⟩
  rw [decide_eq_decide.mpr (DkD.eq_iff (D := D) (E := E)).symm]
  exact q H' m
def spChE (K : PySem.W.Frag) (CD CC : Addr) : Sp := fun vs H Q _ => ∃ (x y : Addr) (D E : DkD) (X : ChD), vs = [.ref x, .ref y] ∧ ChOb K CD CC H x D E X ∧ ChOb K CD CC H y D E X ∧ D.Is ∧ E.Is ∧ ∀ H', Sm H H' → Q (.bl true) H'
theorem scChE : FnScope nEq nEq (defScope (methC 6)) := ⟨rfl, rfl, rfl, by decide +kernel, rfl, by decide +kernel, by decide +kernel⟩
theorem same_tab {ws : List Str} {f : Str → Str} (nd : ws.Nodup) : sameF eqV (tabS ws f) (tabS ws f) = true := by
  rw [same_strs nd (by rw [List.length_map]) (by rw [List.length_map])]
  exact decide_eq_true rfl
theorem flat_tab {ws : List Str} {f : Str → Str} : ∀ p ∈ tabS ws f, flatV p.2 = true := fun p hp => by
  obtain ⟨u, hu, e⟩ := List.mem_map.mp (List.of_mem_zip (show (p.1, p.2) ∈ _ from hp)).2
  rw [← e]
  rfl
section
variable {P : Program} {w : World} {K : PySem.W.Frag} {mg : Str → Option Value} {base : Heap} {f CD CC : Addr} {fd : FuncData}
theorem ok_chE (F : FunD K "__eq__" "Change.__eq__" (defArgs (methC 6)) (defBody (methC 6)) (defScope (methC 6)) [] [] f fd) (mi : mg "isinstance" = none) (T : ChC K mg CC) (TD : EqC K CD) (QD : Eqx P w K mg base CD 1 (spEqD K CD)) : FnOk P w K mg base CX0 3 f fd nEq (spChE K CD CC) := by
  refine F.ok (CX := CX0) scChE (fun vs H Q E h => ?_) (fun cdv A outer s H vs Q E hr h => ?_)
  · obtain ⟨x, y, D, E, X, rfl, _⟩ := h
    rfl
  · refine ⟨_, PSs.nox (pss_cons (ps_if (pt_not (pt_val (by exact (pe_callB call_isi rfl mi PyProof.Rows.boot_isinstance (pa_cons (pv 1) (pa_cons (pe_glob (v := .ref CC) rfl T.g rfl) pa_nil)))))) (pss_one (ps_ret pe_bl)) pss_nil)
      (pss_cons (ps_if (PW.pt (pw_or (pt_cmpR (op_neX QD TD hr (by decide)) (pe_fld (pv 0) rfl) (pe_fld (pv 1) rfl) (nomark _)) (pw_or1 (pt_cmpR (op_neX QD TD hr (by decide)) (pe_fld (pv 0) rfl) (pe_fld (pv 1) rfl) (nomark _))))) (pss_one (ps_ret pe_bl)) pss_nil)
      (pss_cons (ps_if (PW.pt (pw_or (pt_cmpR (op_neF (hu_of hr)) (pe_fld (pv 0) rfl) (pe_fld (pv 1) rfl) (nomark _)) (pw_or1 (pt_cmpR (op_neT hr.units) (pe_fld (pv 0) rfl) (pe_fld (pv 1) rfl) (nomark _))))) (pss_one (ps_ret pe_bl)) pss_nil)
      (pss_one (ps_ret (by exact (pe_cmpR (op_eqF (hu_of hr)) (pe_fld (pv 0) rfl) (pe_fld (pv 1) rfl) (nomark _)))))))), ?_⟩
    obtain ⟨x, y, D, E, X, rfl, ⟨dx, a, b, p, r, e, as, h1, h2, h3, h4, h5, h6, h7⟩, ⟨dx', a', b', p', r', e', as', h1', h2', h3', h4', h5', h6', h7'⟩, i1, i2, q⟩ := h
    obtain ⟨ya, _, _, _, _, hya, _⟩ := id h2
    obtain ⟨yb, _, _, _, _, hyb, _⟩ := id h2'
    obtain ⟨za, _, _, _, _, hza, _⟩ := id h3
    obtain ⟨zb, _, _, _, _, hzb, _⟩ := id h3'
    refine ⟨_, rfl, _, .ref CC, _, _, true, rfl, .own CC, .base (.ins h1' T.cl T.ha T.hn T.htk T.hm), T.kC, _, rfl, ?_⟩
    refine iteF ⟨_, rfl, x, CC, dx, _, _, rfl, h1, T.cl, T.n1, rfl, _, rfl, y, CC, dx', _, _, rfl, h1', T.cl, T.n1, rfl, a, _, _, rfl, hya, .own hyb, a, a', D, D, rfl, h2, i1, h2', i1, fun H1 m1 => ⟨_, rfl, _, rfl, ?_⟩⟩
    rw [decide_eq_true rfl]
    refine iteF ⟨_, rfl, x, CC, dx, _, _, rfl, m1 _ _ h1, T.cl, T.n2, rfl, _, rfl, y, CC, dx', _, _, rfl, m1 _ _ h1', T.cl, T.n2, rfl, b, _, _, rfl, m1 _ _ hza, .own (m1 _ _ hzb), b, b', E, E, rfl, h3.sm m1, i2, h3'.sm m1, i2, fun H2 m2 => ⟨_, rfl, _, rfl, ?_⟩⟩
    rw [decide_eq_true rfl]
    have m := m1.trans m2
    refine iteF ⟨_, rfl, x, CC, dx, _, _, rfl, m _ _ h1, T.cl, T.n3, rfl, _, rfl, y, CC, dx', _, _, rfl, m _ _ h1', T.cl, T.n3, rfl, p, p', _, _, rfl, rfl, m _ _ h4, m _ _ h4', flat_tab, flat_tab, _, rfl, ?_⟩
    rw [same_tab i1.nd]
    refine iteF ⟨_, rfl, x, CC, dx, _, _, rfl, m _ _ h1, T.cl, T.n4, rfl, _, rfl, y, CC, dx', _, _, rfl, m _ _ h1', T.cl, T.n4, rfl, r, r', as, as', D.ds, X.rf, rfl, rfl, m _ _ h5, m _ _ h5', h6.sm m, h6'.sm m, i1.dnd, _, rfl, ?_⟩
    refine iteF ⟨_, rfl, x, CC, dx, _, _, rfl, m _ _ h1, T.cl, T.n5, rfl, _, rfl, y, CC, dx', _, _, rfl, m _ _ h1', T.cl, T.n5, rfl, e, e', _, _, rfl, rfl, m _ _ h7, m _ _ h7', flat_tab, flat_tab, ?_⟩
    rw [same_tab (fm_nd _)]
    exact q _ m
end
end Dk
set_option Elab.async false
set_option linter.all false
set_option maxRecDepth 100000
set_option maxHeartbeats 8000000
namespace Dk
open PySem PySem.Spec PyProof.Rows L2 Er LamX NdefX
/-! ### books: are_desks, are_changes, Book -/
/-- [i] of a list or a tuple -/
def rIxA (K : PySem.W.Frag) : R2 := fun x y H Q => ∃ p xs i v, x = .ref p ∧ y = .int i ∧ Sv K H p xs ∧ atI xs i = some v ∧ Q v H
theorem ix_any {X : Cx} : IxR X (rIxA X.K) := by
  intro value slice pins s σ H x y v u Q I rx ry h hs
  obtain ⟨p, xs, i, z, e1, e2, hq, he, q⟩ := h
  rcases hq with hq | hq
  · exact ix_list value slice pins s σ H x y v u Q I rx ry ⟨p, xs, i, z, e1, e2, hq, he, q⟩ hs
  · exact ix_tup value slice pins s σ H x y v u Q I rx ry ⟨p, xs, i, z, e1, e2, hq, he, q⟩ hs
/-- desks behind one another, and the changes between them -/
def lnk (Ds : List DkD) (Xs : List ChD) : List (DkD × DkD × ChD) := Ds.zip (Ds.tail.zip Xs)
def DksAt (K : PySem.W.Frag) (CD : Addr) (H : Hp) (xs : List Addr) (Ds : List DkD) : Prop := Paired (fun x D => DOb K CD H x D ∧ D.Is) xs Ds
def ChsAt (K : PySem.W.Frag) (CD CC : Addr) (H : Hp) (cs : List Addr) (Ds : List DkD) (Xs : List ChD) : Prop := Paired (fun c t => ChOb K CD CC H c t.1 t.2.1 t.2.2) cs (lnk Ds Xs)
theorem DksAt.sm {K : PySem.W.Frag} {CD : Addr} {H G : Hp} {xs : List Addr} {Ds : List DkD} (h : DksAt K CD H xs Ds) (m : Sm H G) : DksAt K CD G xs Ds := pair_mono h fun x _ D t => ⟨t.1.sm m, t.2⟩
theorem ChsAt.sm {K : PySem.W.Frag} {CD CC : Addr} {H G : Hp} {cs : List Addr} {Ds : List DkD} {Xs : List ChD} (h : ChsAt K CD CC H cs Ds Xs) (m : Sm H G) : ChsAt K CD CC G cs Ds Xs := pair_mono h fun x _ D t => t.sm m
theorem lnk_at {Ds : List DkD} {Xs : List ChD} {j : Nat} {t : DkD × DkD × ChD} (h : (lnk Ds Xs)[j]? = some t) : Ds[j]? = some t.1 ∧ Ds[j + 1]? = some t.2.1 ∧ Xs[j]? = some t.2.2 := by
  obtain ⟨a, b, c⟩ := t
  obtain ⟨h1, h2⟩ := List.getElem?_zip_eq_some.mp h
  obtain ⟨h3, h4⟩ := List.getElem?_zip_eq_some.mp h2
  exact ⟨h1, by rw [← List.getElem?_tail]; exact h3, h4⟩
def methB (i : Nat) : Stmt := (clsBody (top 40)).getD i (.Pass ⟨0, 0, 0, 0⟩)
def fldsBk (d c : Addr) (v1 v2 : V) : List (Str × V) := [("_desks", .ref d), ("_changes", .ref c), ("_last", v1), ("_start", v2)]
def BkOb (K : PySem.W.Frag) (CD CC CB : Addr) (H : Hp) (b : Addr) (xs cs : List Addr) (Ds : List DkD) (Xs : List ChD) : Prop := ∃ (dx d c : Addr) (v1 v2 : V), H b = some (.ins CB dx (fldsBk d c v1 v2)) ∧ SqT K H d (xs.map V.ref) ∧ DksAt K CD H xs Ds ∧ SqT K H c (cs.map V.ref) ∧ ChsAt K CD CC H cs Ds Xs
theorem BkOb.sm {K : PySem.W.Frag} {CD CC CB : Addr} {H G : Hp} {b : Addr} {xs cs : List Addr} {Ds : List DkD} {Xs : List ChD} (h : BkOb K CD CC CB H b xs cs Ds Xs) (m : Sm H G) : BkOb K CD CC CB G b xs cs Ds Xs := by
  obtain ⟨dx, d, c, v1, v2, h1, h2, h3, h4, h5⟩ := h
  exact ⟨dx, d, c, v1, v2, m _ _ h1, SqT.sm h2 m, h3.sm m, SqT.sm h4 m, h5.sm m⟩
structure BkC (K : PySem.W.Frag) (mg : Str → Option Value) (C : Addr) : Prop where
  cl : Cls K C
  ha : PySem.W.findIn K (.ref C) "__class__" = some (some (.builtin "object.__class__"))
  hn : PySem.W.specialIn K (.builtin "object.__class__") "__get__" = some (some (.builtin "getset_descriptor.__get__"))
  htk : PySem.W.takesIn K (.builtin "object.__class__") = some true
  hm : PySem.W.mroIn K C (.type "object") = some true
  kC : PySem.W.kitOne K (.ref C) (.ref C) = some true
  n1 : NoAttr K C "_desks"
  n2 : NoAttr K C "_changes"
  n3 : NoAttr K C "_last"
  n4 : NoAttr K C "_start"
  g : mg "Book" = some (.ref C)
def spArDk (K : PySem.W.Frag) (CD : Addr) : Sp := fun vs H Q _ => ∃ (a : Addr) (xs : List Addr) (Ds : List DkD), vs = [.ref a] ∧ Sv K H a (xs.map V.ref) ∧ DksAt K CD H xs Ds ∧ 1 ≤ Ds.length ∧ Ds.length ≤ 3 ∧ ∀ H', Sm H H' → Q (.bl true) H'
abbrev nArDk : List Str := ["value", "desk"]
theorem scArDk : FnScope nArDk ["value"] (defScope (top 41)) := ⟨rfl, rfl, rfl, by decide +kernel, rfl, by decide +kernel, by decide +kernel⟩
def spIco (K : PySem.W.Frag) (CD CC : Addr) : Sp := fun vs H Q _ => ∃ (a c : Addr) (j : Nat) (xs : List Addr) (Ds : List DkD) (D E : DkD) (X : ChD), vs = [.ref a, .int j, .ref c] ∧ Sv K H a (xs.map V.ref) ∧ DksAt K CD H xs Ds ∧ ChOb K CD CC H c D E X ∧ Ds[j]? = some D ∧ Ds[j + 1]? = some E ∧ ∀ H', Sm H H' → Q (.bl true) H'
abbrev nIco : List Str := ["desks", "number", "value"]
theorem scIco : FnScope nIco nIco (defScope (top 43)) := ⟨rfl, rfl, rfl, by decide +kernel, rfl, by decide +kernel, by decide +kernel⟩
def spArCh (K : PySem.W.Frag) (CD CC : Addr) : Sp := fun vs H Q _ => ∃ (a l : Addr) (xs cs : List Addr) (Ds : List DkD) (Xs : List ChD), vs = [.ref a, .ref l] ∧ Sv K H a (xs.map V.ref) ∧ DksAt K CD H xs Ds ∧ SqL K H l (cs.map V.ref) ∧ ChsAt K CD CC H cs Ds Xs ∧ Xs.length + 1 = Ds.length ∧ Ds.length ≤ 3 ∧ ∀ H', Sm H H' → Q (.bl true) H'
abbrev nArCh : List Str := ["desks", "value", "number", "change"]
theorem scArCh : FnScope nArCh ["desks", "value"] (defScope (top 42)) := ⟨rfl, rfl, rfl, by decide +kernel, rfl, by decide +kernel, by decide +kernel⟩
theorem lnk_len {Ds : List DkD} {Xs : List ChD} (h : Xs.length + 1 = Ds.length) : (lnk Ds Xs).length = Xs.length := by
  unfold lnk
  rw [List.length_zip, List.length_zip, List.length_tail]
  omega
section
variable {P : Program} {w : World} {K : PySem.W.Frag} {mg : Str → Option Value} {base : Heap} {f CD CC CB : Addr} {fd : FuncData}
theorem ok_arDk (F : FnP K "are_desks" (top 41) f fd) (mi : mg "isinstance" = none) (mL : mg "list" = none) (mT : mg "tuple" = none) (ml : mg "len" = none) (ma : mg "all" = none) (gM : ∃ t, mg "MOST_DESKS" = some (.int 3 t)) (T : DkC K mg CD) : FnOk P w K mg base CX0 1 f fd ["value"] (spArDk K CD) := by
  refine F.ok (CX := CX0) scArDk (fun vs H Q E h => ?_) (fun cdv A outer s H vs Q E hr h => ?_)
  · obtain ⟨a, xs, Ds, rfl, _⟩ := h
    rfl
  · refine ⟨_, PSs.nox (pss_cons (ps_if (PW.pt (pw_or (pt_not (pt_val (by exact (pe_callB call_isiT rfl mi PyProof.Rows.boot_isinstance (pa_cons (pv 0) (pa_cons (by exact (pe_tup (pa_cons (pe_bltn (v := .ty "list") rfl mL (by decide +kernel) rfl) (pa_cons (pe_bltn (v := .ty "tuple") rfl mT (by decide +kernel) rfl) pa_nil)))) pa_nil))))))
        (pw_or1 (pt_not (pt_chain op_le op_le pe_int (by exact (pe_callB call_len rfl ml boot_len (pa_cons (pv 0) pa_nil))) (pe_glob (v := .int 3) rfl gM.choose_spec ⟨_, rfl⟩)))))) (pss_one (ps_ret pe_bl)) pss_nil)
      (pss_one (ps_ret (by exact (pe_callB (cr_all rfl) rfl ma PyProof.Rows.boot_all (pa_cons (by exact (pe_lc (own := [("desk", 1)]) (g := gName 1) (tt := tYes) (te := tCB (rIsi K) (tCons (tVar 1) (tCons (tC (.ref CD)) tNil))) rfl scArDk.nd (pi_seq (pv 0))
        (blkOk_by (N := nArDk) (sc := defScope (top 41)) (by decide +kernel)) (fun _ _ _ _ _ => pg_name (i := 1) scArDk.nd rfl (Or.inl rfl)) (fun _ _ _ _ _ => pts_nil) (fun _ _ _ _ _ => by exact (pe_callB call_isi rfl mi PyProof.Rows.boot_isinstance (pa_cons (by exact (pv 1)) (pa_cons (by exact (pe_glob (v := .ref CD) rfl T.g rfl)) pa_nil)))))) pa_nil)))))), ?_⟩
    obtain ⟨a, xs, Ds, rfl, hs, ds, n1, n3, q⟩ := h
    have c2 : 2 ≤ sizeLine := by
      rw [sizeLine_eq]
      omega
    have pr : Paired ClsV [V.ty "list", V.ty "tuple"] [Value.type "list", Value.type "tuple"] := .cons (.ty _) (.cons (.ty _) .nil)
    obtain ⟨t, ty, et⟩ := sv_is hs
    have kk : PySem.W.kitAny K (.type t) [.type "list", .type "tuple"] = some true := by
      rcases et with rfl | rfl
      · exact kitAny_cons (b := true) (kit_ty (by decide +kernel)) (fun z => nomatch z) fun _ => rfl
      · exact kitAny_cons (b := false) (kit_ty (by decide +kernel)) (fun _ => kitAny_cons (b := true) (kit_ty (by decide +kernel)) (fun z => nomatch z) fun _ => rfl) fun z => nomatch z
    refine ⟨_, rfl, c2, fun T0 nT => ⟨.ref a, T0, _, .type t, _, true, rfl, upd_same, pr, tyx_new ty nT, kk, _, rfl, ?_⟩⟩
    have m1 := Sm.new (o := .tup [.ty "list", .ty "tuple"]) nT
    generalize upd H T0 (.tup [.ty "list", .ty "tuple"]) = G at m1 ⊢
    have hs := Sv.sm hs m1
    have ds1 := ds.sm m1
    have xl := paired_len ds
    refine iteF ⟨_, rfl, .ref a, (xs.map V.ref).length, rfl, Sv.len hs, _, _, rfl, rfl, _, rfl, ?_⟩
    rw [List.length_map, xl, decide_eq_true (show (1 : Int) ≤ ((Ds.length : Nat) : Int) by omega)]
    refine iteT ⟨_, _, rfl, rfl, _, rfl, ?_⟩
    rw [decide_eq_true (show ((Ds.length : Nat) : Int) ≤ 3 by omega)]
    refine iteF ⟨_, rfl, a, xs.map V.ref, rfl, ?_⟩
    refine lc_sv (fv := fun _ => .bl true) hs (by rw [List.length_map]; omega) (fun _ => rfl) (fun j v G2 Q2 ez m2 q2 => ?_) (fun L G2 m2 nL eL => ?_)
    · rw [List.getElem?_map] at ez
      cases e : xs[j]? with
      | none =>
        rw [e] at ez
        cases ez
      | some x =>
        rw [e] at ez
        obtain rfl : V.ref x = v := Option.some.inj ez
        obtain ⟨D, _, ⟨⟨_, _, _, _, _, hx, _⟩, _⟩⟩ := pair_at (ds1.sm m2) e
        exact ⟨_, rfl, .ref x, .ref CD, _, _, true, rfl, .own CD, .base (.ins hx T.cl T.ha T.hn T.htk T.hm), T.kC, q2 G2 (Sm.refl _)⟩
    · refine ⟨L, (List.range (xs.map V.ref).length).map fun _ => true, rfl, .inl (.inl (by rw [eL, List.map_map]; rfl)), ?_⟩
      rw [all_true]
      exact q _ (m1.trans m2)
theorem ok_ico (F : FnP K "is_change_of" (top 43) f fd) (mi : mg "isinstance" = none) (T : ChC K mg CC) (PF : Px P w K mg base CC 1 "first" nSelf (spFi CC)) (PE_ : Px P w K mg base CC 1 "second" nSelf (spSe CC)) (TD : EqC K CD) (QD : Eqx P w K mg base CD 1 (spEqD K CD)) :
    FnOk P w K mg base CX0 3 f fd nIco (spIco K CD CC) := by
  refine F.ok (CX := CX0) scIco (fun vs H Q E h => ?_) (fun cdv A outer s H vs Q E hr h => ?_)
  · obtain ⟨a, c, j, xs, Ds, D, E, X, rfl, _⟩ := h
    rfl
  · refine ⟨_, PSs.nox (pss_cons (ps_if (pt_not (pt_val (by exact (pe_callB call_isi rfl mi PyProof.Rows.boot_isinstance (pa_cons (pv 2) (pa_cons (pe_glob (v := .ref CC) rfl T.g rfl) pa_nil)))))) (pss_one (ps_ret pe_bl)) pss_nil)
      (pss_one (ps_ret (by exact (pe_and (by exact (pe_cmpR (op_eqX QD TD hr (by decide)) (by exact (pe_px PF (pv 2) T.cl hr (by decide) rfl)) (by exact (pe_ix ix_any (pv 0) (pv 1) (fun _ _ => rfl))) (nomark _)))
        (pe_one (by exact (pe_cmpR (op_eqX QD TD hr (by decide)) (by exact (pe_px PE_ (pv 2) T.cl hr (by decide) rfl)) (by exact (pe_ix ix_any (pv 0) (by exact (pe_op op_add (pv 1) pe_int)) (fun _ _ => rfl))) (nomark _))))))))), ?_⟩
    obtain ⟨a, c, j, xs, Ds, D, E, X, rfl, hs, ds, oc, eD, eE, q⟩ := h
    obtain ⟨dx, x1, x2, p, r, e, as, h1, h2, h3, h4, h5, h6, h7⟩ := id oc
    have at_ : ∀ {j : Nat} {D : DkD}, Ds[j]? = some D → ∃ x, xs[j]? = some x ∧ DOb K CD H x D ∧ D.Is := fun {j D} e => by
      have jl : j < xs.length := by
        have := (List.getElem?_eq_some_iff.mp e).1
        rw [paired_len ds]
        exact this
      obtain ⟨D2, e2, o⟩ := pair_at ds (List.getElem?_eq_getElem jl)
      rw [e] at e2
      obtain rfl := Option.some.inj e2
      exact ⟨_, List.getElem?_eq_getElem jl, o⟩
    obtain ⟨y1, e1, o1, i1⟩ := at_ eD
    obtain ⟨y2, e2, o2, i2⟩ := at_ eE
    obtain ⟨_, _, _, _, _, hx1, _⟩ := id h2
    obtain ⟨_, _, _, _, _, hx2, _⟩ := id h3
    obtain ⟨_, _, _, _, _, hy1, _⟩ := id o1
    obtain ⟨_, _, _, _, _, hy2, _⟩ := id o2
    refine ⟨_, rfl, _, .ref CC, _, _, true, rfl, .own CC, .base (.ins h1 T.cl T.ha T.hn T.htk T.hm), T.kC, _, rfl, ?_⟩
    refine iteF ⟨_, rfl, c, dx, _, rfl, h1, c, dx, x1, x2, p, r, e, rfl, h1, ?_⟩
    refine ⟨_, rfl, _, rfl, a, xs.map V.ref, _, .ref y1, rfl, rfl, hs, atI_nat (by rw [List.getElem?_map, e1]; rfl), ?_⟩
    refine ⟨x1, _, _, rfl, hx1, .own hy1, x1, y1, D, D, rfl, h2, i1, o1, i1, fun H1 m1 => ⟨_, rfl, ?_⟩⟩
    rw [decide_eq_true rfl]
    refine iteT ⟨_, rfl, c, dx, _, rfl, m1 _ _ h1, c, dx, x1, x2, p, r, e, rfl, m1 _ _ h1, ?_⟩
    refine ⟨_, rfl, _, rfl, _, _, rfl, rfl, a, xs.map V.ref, _, .ref y2, rfl, rfl, Sv.sm hs m1, atI_nat (j := j + 1) (by rw [List.getElem?_map, e2]; rfl), ?_⟩
    refine ⟨x2, _, _, rfl, m1 _ _ hx2, .own (m1 _ _ hy2), x2, y2, E, E, rfl, h3.sm m1, i2, o2.sm m1, i2, fun H2 m2 => ?_⟩
    rw [decide_eq_true rfl]
    exact q _ (m1.trans m2)
theorem ok_arCh (F : FnP K "are_changes" (top 42) f fd) (mi : mg "isinstance" = none) (mL : mg "list" = none) (mT : mg "tuple" = none) (ml : mg "len" = none) (ma : mg "all" = none) (me : mg "enumerate" = none) (GI : Fx P w K mg base CX0 3 "is_change_of" nIco (spIco K CD CC)) :
    FnOk P w K mg base CX0 4 f fd ["desks", "value"] (spArCh K CD CC) := by
  refine F.ok (CX := CX0) scArCh (fun vs H Q E h => ?_) (fun cdv A outer s H vs Q E hr h => ?_)
  · obtain ⟨a, l, xs, cs, Ds, Xs, rfl, _⟩ := h
    rfl
  · refine ⟨_, PSs.nox (pss_cons (ps_if (PW.pt (pw_or (pt_not (pt_val (by exact (pe_callB call_isiT rfl mi PyProof.Rows.boot_isinstance (pa_cons (pv 1) (pa_cons (by exact (pe_tup (pa_cons (pe_bltn (v := .ty "list") rfl mL (by decide +kernel) rfl) (pa_cons (pe_bltn (v := .ty "tuple") rfl mT (by decide +kernel) rfl) pa_nil)))) pa_nil))))))
        (pw_or1 (pt_cmpR op_ne (by exact (pe_callB call_len rfl ml boot_len (pa_cons (pv 1) pa_nil))) (by exact (pe_op op_sub (by exact (pe_callB call_len rfl ml boot_len (pa_cons (pv 0) pa_nil))) pe_int)) (nomark _))))) (pss_one (ps_ret pe_bl)) pss_nil)
      (pss_one (ps_ret (by exact (pe_callB (cr_all rfl) rfl ma PyProof.Rows.boot_all (pa_cons (by exact (pe_lc (own := [("number", 2), ("change", 3)]) (g := gTup K 2 (gCons (gName 2) (gCons (gName 3) gNil))) (tt := tYes) (te := tCall (spIco K CD CC) [] E0 (tCons (tVar 0) (tCons (tVar 2) (tCons (tVar 3) tNil)))) rfl scArCh.nd (pi_enum rfl me (pa_cons (pv 1) pa_nil))
        (blkOk_by (N := nArCh) (sc := defScope (top 42)) (by decide +kernel)) (fun _ _ _ _ _ => by exact (pg_tup rfl (pgs_cons (pg_name (i := 2) scArCh.nd rfl (Or.inl rfl)) (pgs_cons (pg_name (i := 3) scArCh.nd rfl (Or.inl rfl)) pgs_nil)))) (fun _ _ _ _ _ => pts_nil)
        (fun _ _ _ _ _ => by exact (pe_fx GI hr (by decide) rfl (pa_cons (by exact (pv 0)) (pa_cons (by exact (pv 2)) (pa_cons (by exact (pv 3)) pa_nil))))))) pa_nil)))))), ?_⟩
    obtain ⟨a, l, xs, cs, Ds, Xs, rfl, hs, ds, hl, chs, xl, few, q⟩ := h
    have c2 : 2 ≤ sizeLine := by
      rw [sizeLine_eq]
      omega
    have pr : Paired ClsV [V.ty "list", V.ty "tuple"] [Value.type "list", Value.type "tuple"] := .cons (.ty _) (.cons (.ty _) .nil)
    obtain ⟨t, ty, et⟩ := sv_is (.inl hl)
    have kk : PySem.W.kitAny K (.type t) [.type "list", .type "tuple"] = some true := by
      rcases et with rfl | rfl
      · exact kitAny_cons (b := true) (kit_ty (by decide +kernel)) (fun z => nomatch z) fun _ => rfl
      · exact kitAny_cons (b := false) (kit_ty (by decide +kernel)) (fun _ => kitAny_cons (b := true) (kit_ty (by decide +kernel)) (fun z => nomatch z) fun _ => rfl) fun z => nomatch z
    have cl := paired_len chs
    rw [lnk_len xl] at cl
    have dl := paired_len ds
    refine ⟨_, rfl, c2, fun T0 nT => ⟨.ref l, T0, _, .type t, _, true, rfl, upd_same, pr, tyx_new ty nT, kk, _, rfl, ?_⟩⟩
    have m1 := Sm.new (o := .tup [.ty "list", .ty "tuple"]) nT
    generalize upd H T0 (.tup [.ty "list", .ty "tuple"]) = G at m1 ⊢
    have hs := Sv.sm hs m1
    have hl := SqL.sm hl m1
    have ds := ds.sm m1
    have chs := chs.sm m1
    refine iteF ⟨_, rfl, .ref l, (cs.map V.ref).length, rfl, Sv.len (.inl hl), _, rfl, .ref a, (xs.map V.ref).length, rfl, Sv.len hs, _, _, rfl, rfl, rfl, _, rfl, ?_⟩
    rw [List.length_map, List.length_map]
    rw [show decide (V.int ((cs.length : Nat) : Int) = V.int (((xs.length : Nat) : Int) - 1)) = true from decide_eq_true (by congr 1; omega)]
    refine iteF ⟨_, rfl, l, cs.map V.ref, rfl, hl, fun L nL => ?_⟩
    refine lc_it (walk_enum (xs := cs.map V.ref)) (vs := [2, 3]) (g := gTup K 2 (gCons (gName 2) (gCons (gName 3) gNil))) (fun j G2 => G2 L = some (.lst ((List.range j).map fun _ => V.bl true)) ∧ Sm G G2) ⟨upd_same, Sm.new nL⟩ (fun j G2 _ p => SqL.sm hl p.2) (fun j v G2 G3 hj p y => ?_) (fun G2 p => ?_)
    · obtain ⟨eL, mm⟩ := p
      obtain ⟨T, z1, z2, rfl, nT, rfl, f1, f2⟩ := y
      cases Option.some.inj f1
      have f2 : (cs.map V.ref)[j]? = some z2 := f2
      rw [List.getElem?_map] at f2
      cases e : cs[j]? with
      | none =>
        rw [e] at f2
        cases f2
      | some c =>
        rw [e] at f2
        cases Option.some.inj f2
        obtain ⟨tt, et, oc⟩ := pair_at chs e
        obtain ⟨g1, g2, g3⟩ := lnk_at et
        have mT := Sm.new (o := .tup [.int ((j : Nat) : Int), .ref c]) nT
        have eT : upd G2 T (.tup [.int ((j : Nat) : Int), .ref c]) T = some (.tup [.int ((j : Nat) : Int), .ref c]) := upd_same
        have eL := mT _ _ eL
        have mm := Sm.trans mm mT
        generalize upd G2 T (.tup [.int ((j : Nat) : Int), .ref c]) = G4 at eT eL mm ⊢
        refine ⟨T, _, rfl, .inl (.inl eT), rfl, _, _, rfl, _, _, rfl, rfl, rfl, ?_⟩
        refine ⟨_, rfl, _, rfl, _, rfl, a, c, j, xs, Ds, tt.1, tt.2.1, tt.2.2, rfl, Sv.sm hs mm, ds.sm mm, oc.sm mm, g1, g2, fun H5 m5 => ?_⟩
        refine ⟨_, m5 _ _ eL, by rw [List.length_map, List.length_range, sizeLine_eq]; rw [List.length_map] at hj; omega, ?_, fun b o eb => ?_⟩
        · rw [upd_same, List.range_succ, List.map_append]
          rfl
        · rw [upd_ne (ne_of_none eb nL)]
          exact m5 _ _ (mm _ _ eb)
    · obtain ⟨eL, mm⟩ := p
      refine ⟨L, (List.range (cs.map V.ref).length).map fun _ => true, rfl, .inl (.inl (by rw [eL, List.map_map]; rfl)), ?_⟩
      rw [all_true]
      exact q _ (m1.trans mm)
end
end Dk
set_option Elab.async false
set_option linter.all false
set_option maxRecDepth 100000
set_option maxHeartbeats 8000000
namespace Dk
open PySem PySem.Spec PyProof.Rows L2 Er LamX NdefX
/-! ### Book: its making, what is read of it, == of two that are equal -/
theorem DeskOb.x0 {K : PySem.W.Frag} {C : Addr} {H G : Hp} {x b CB dx : Addr} {ws ds : List Str} {tb : List (List Str)} {ls : List Str} (ob : DeskOb K C H x ws ds tb ls) (hb : H b = some (.ins CB dx [])) (m : Sx b H G) : DeskOb K C G x ws ds tb ls := by
  refine ob.x (fun z => ?_) hb m
  obtain ⟨_, _, _, _, _, hx, _⟩ := ob
  rw [z, hb] at hx
  exact nomatch (HO.ins.inj (Option.some.inj hx)).2.2
theorem ChOb.x0 {K : PySem.W.Frag} {CD CC : Addr} {H G : Hp} {c b CB dy : Addr} {D E : DkD} {X : ChD} (h : ChOb K CD CC H c D E X) (hb : H b = some (.ins CB dy [])) (m : Sx b H G) : ChOb K CD CC G c D E X := by
  obtain ⟨dx, x1, x2, p, r, e, as, h1, h2, h3, h4, h5, h6, h7⟩ := h
  have cb : c ≠ b := fun z => by
    rw [z, hb] at h1
    exact nomatch (HO.ins.inj (Option.some.inj h1)).2.2
  have n : ∀ {y : Addr} {t : List (Key × V)}, H y = some (.dK t) → y ≠ b := fun {y t} e z => by
    rw [z, hb] at e
    cases e
  exact ⟨dx, x1, x2, p, r, e, as, m _ _ cb h1, h2.x0 hb m, h3.x0 hb m, m _ _ (n h4) h4, m _ _ (n h5) h5, h6.x hb m, m _ _ (n h7) h7⟩
theorem DksAt.x0 {K : PySem.W.Frag} {CD b CB dy : Addr} {H G : Hp} {xs : List Addr} {Ds : List DkD} (h : DksAt K CD H xs Ds) (hb : H b = some (.ins CB dy [])) (m : Sx b H G) : DksAt K CD G xs Ds := pair_mono h fun x _ D t => ⟨t.1.x0 hb m, t.2⟩
theorem ChsAt.x0 {K : PySem.W.Frag} {CD CC b CB dy : Addr} {H G : Hp} {cs : List Addr} {Ds : List DkD} {Xs : List ChD} (h : ChsAt K CD CC H cs Ds Xs) (hb : H b = some (.ins CB dy [])) (m : Sx b H G) : ChsAt K CD CC G cs Ds Xs := pair_mono h fun x _ D t => t.x0 hb m
theorem Sv.x {K : PySem.W.Frag} {H G : Hp} {a x C dx : Addr} {fs : List (Str × V)} {xs : List V} (h : Sv K H a xs) (hx : H x = some (.ins C dx fs)) (m : Sx x H G) : Sv K G a xs := h.elim (fun h => .inl (SqL.x h hx m)) (fun h => .inr (SqT.x h hx m))
/-- Desk.start -/
def spSt0 (K : PySem.W.Frag) (CD : Addr) : Sp := fun vs H Q _ => ∃ (x : Addr) (D : DkD), vs = [.ref x] ∧ DOb K CD H x D ∧ D.Is ∧ ∀ z, Q (.str z) H
theorem scSt0 : FnScope nSelf nSelf (defScope (meth 3)) := ⟨rfl, rfl, rfl, by decide +kernel, rfl, by decide +kernel, by decide +kernel⟩
def spBkI (K : PySem.W.Frag) (CD CC CB : Addr) : Sp := fun vs H Q _ => ∃ (b dx a l : Addr) (xs cs : List Addr) (Ds : List DkD) (Xs : List ChD), vs = [.ref b, .ref a, .ref l] ∧ H b = some (.ins CB dx []) ∧ Sv K H a (xs.map V.ref) ∧ DksAt K CD H xs Ds ∧ 1 ≤ Ds.length ∧ Ds.length ≤ 3 ∧
  SqL K H l (cs.map V.ref) ∧ ChsAt K CD CC H cs Ds Xs ∧ Xs.length + 1 = Ds.length ∧ ∀ H', Sx b H H' → BkOb K CD CC CB H' b xs cs Ds Xs → Q .non H'
abbrev nBkI : List Str := ["self", "desks", "changes"]
theorem scBkI : FnScope nBkI nBkI (defScope (methB 0)) := ⟨rfl, rfl, rfl, by decide +kernel, rfl, by decide +kernel, by decide +kernel⟩
def spBkD (C : Addr) : Sp := fun vs H Q _ => ∃ (b dx d c : Addr) (v1 v2 : V), vs = [.ref b] ∧ H b = some (.ins C dx (fldsBk d c v1 v2)) ∧ Q (.ref d) H
def spBkC (C : Addr) : Sp := fun vs H Q _ => ∃ (b dx d c : Addr) (v1 v2 : V), vs = [.ref b] ∧ H b = some (.ins C dx (fldsBk d c v1 v2)) ∧ Q (.ref c) H
theorem scBkD : FnScope nSelf nSelf (defScope (methB 1)) := ⟨rfl, rfl, rfl, by decide +kernel, rfl, by decide +kernel, by decide +kernel⟩
theorem scBkC : FnScope nSelf nSelf (defScope (methB 2)) := ⟨rfl, rfl, rfl, by decide +kernel, rfl, by decide +kernel, by decide +kernel⟩
def spBkE (K : PySem.W.Frag) (CD CC CB : Addr) : Sp := fun vs H Q _ => ∃ (x y : Addr) (xs xs' cs cs' : List Addr) (Ds : List DkD) (Xs : List ChD), vs = [.ref x, .ref y] ∧ BkOb K CD CC CB H x xs cs Ds Xs ∧ BkOb K CD CC CB H y xs' cs' Ds Xs ∧ ∀ H', Sm H H' → Q (.bl true) H'
theorem scBkE : FnScope nEq nEq (defScope (methB 5)) := ⟨rfl, rfl, rfl, by decide +kernel, rfl, by decide +kernel, by decide +kernel⟩
/-- two equal desks, two equal changes -/
def EqvD (K : PySem.W.Frag) (CD : Addr) : Addr → Addr → Hp → Prop := fun a b H => ∃ D, DOb K CD H a D ∧ DOb K CD H b D ∧ D.Is
def EqvC (K : PySem.W.Frag) (CD CC : Addr) : Addr → Addr → Hp → Prop := fun a b H => ∃ D E X, ChOb K CD CC H a D E X ∧ ChOb K CD CC H b D E X ∧ D.Is ∧ E.Is
theorem at_map {xs : List Addr} {i : Nat} {v : V} (h : (xs.map V.ref)[i]? = some v) : ∃ x, xs[i]? = some x ∧ v = .ref x := by
  rw [List.getElem?_map] at h
  cases e : xs[i]? with
  | none =>
    rw [e] at h
    cases h
  | some x =>
    rw [e] at h
    exact ⟨x, rfl, (Option.some.inj h).symm⟩
section
variable {P : Program} {w : World} {K : PySem.W.Frag} {mg : Str → Option Value} {base : Heap} {f CD CC CB : Addr} {fd : FuncData}
theorem ok_st0 (F : FunD K "start" "Desk.start" (defArgs (meth 3)) (defBody (meth 3)) (defScope (meth 3)) [] [] f fd) (hC : Cls K CD) (n1 : NoAttr K CD "_standings") : FnOk P w K mg base CX0 1 f fd nSelf (spSt0 K CD) := by
  refine F.ok (CX := CX0) scSt0 (fun vs H Q E h => ?_) (fun cdv A outer s H vs Q E hr h => ?_)
  · obtain ⟨x, D, rfl, _⟩ := h
    rfl
  · refine ⟨_, PSs.nox (pss_one (ps_ret (by exact (pe_ix ix_tup (pe_fld (pv 0) rfl) pe_int (fun _ _ => rfl))))), ?_⟩
    obtain ⟨x, D, rfl, ⟨dx, st, ld, si, as, hx, hst, _⟩, is, q⟩ := h
    have h1 := is.some
    exact ⟨_, rfl, x, CD, dx, _, _, rfl, hx, hC, n1, rfl, st, D.ws.map V.str, 0, .str (D.ws[0]'h1), rfl, rfl, hst, atI_nat (j := 0) (by rw [List.getElem?_map, List.getElem?_eq_getElem h1]; rfl), q _⟩
theorem ok_bkD (F : FunD K "desks" "Book.desks" (defArgs (methB 1)) (defBody (methB 1)) (defScope (methB 1)) [] [] f fd) (T : BkC K mg CB) : FnOk P w K mg base CX0 1 f fd nSelf (spBkD CB) := by
  refine F.ok (CX := CX0) scBkD (fun vs H Q E h => ?_) (fun cdv A outer s H vs Q E hr h => ?_)
  · obtain ⟨b, dx, d, c, v1, v2, rfl, _⟩ := h
    rfl
  · refine ⟨_, PSs.nox (pss_one (ps_ret (by exact (pe_fld (pv 0) rfl)))), ?_⟩
    obtain ⟨b, dx, d, c, v1, v2, rfl, hb, q⟩ := h
    exact ⟨_, rfl, b, CB, dx, _, _, rfl, hb, T.cl, T.n1, rfl, q⟩
theorem ok_bkC (F : FunD K "changes" "Book.changes" (defArgs (methB 2)) (defBody (methB 2)) (defScope (methB 2)) [] [] f fd) (T : BkC K mg CB) : FnOk P w K mg base CX0 1 f fd nSelf (spBkC CB) := by
  refine F.ok (CX := CX0) scBkC (fun vs H Q E h => ?_) (fun cdv A outer s H vs Q E hr h => ?_)
  · obtain ⟨b, dx, d, c, v1, v2, rfl, _⟩ := h
    rfl
  · refine ⟨_, PSs.nox (pss_one (ps_ret (by exact (pe_fld (pv 0) rfl)))), ?_⟩
    obtain ⟨b, dx, d, c, v1, v2, rfl, hb, q⟩ := h
    exact ⟨_, rfl, b, CB, dx, _, _, rfl, hb, T.cl, T.n2, rfl, q⟩
theorem ok_bkI (F : FunD K "__init__" "Book.__init__" (defArgs (methB 0)) (defBody (methB 0)) (defScope (methB 0)) [] [] f fd) (mT : mg "tuple" = none) (ml : mg "len" = none) (hC : Cls K CD) (T : BkC K mg CB)
    (PS_ : Px P w K mg base CD 1 "start" nSelf (spSt0 K CD)) (G1 : Fx P w K mg base CX0 1 "are_desks" ["value"] (spArDk K CD)) (G2 : Fx P w K mg base CX0 4 "are_changes" ["desks", "value"] (spArCh K CD CC)) :
    FnOk P w K mg base CX0 5 f fd nBkI (spBkI K CD CC CB) := by
  refine F.ok (CX := CX0) scBkI (fun vs H Q E h => ?_) (fun cdv A outer s H vs Q E hr h => ?_)
  · obtain ⟨b, dx, a, l, xs, cs, Ds, Xs, rfl, _⟩ := h
    rfl
  · refine ⟨_, PSs.nox (pss_cons (ps_if (pt_not (pt_val (by exact (pe_fx G1 hr (by decide) rfl (pa_cons (pv 1) pa_nil))) (fun _ => rfl))) (pss_one ps_never) pss_nil)
      (pss_cons (ps_if (pt_not (pt_val (by exact (pe_fx G2 hr (by decide) rfl (pa_cons (pv 1) (pa_cons (pv 2) pa_nil)))) (fun _ => rfl))) (pss_one ps_never) pss_nil)
      (pss_cons (ps_fld (pv 0) (by exact (pe_callTy call_tupA rfl mT PyProof.Rows.boot_tuple (pa_cons (pv 1) pa_nil))) (by rfl))
      (pss_cons (ps_fld (pv 0) (by exact (pe_callTy call_tupA rfl mT PyProof.Rows.boot_tuple (pa_cons (pv 2) pa_nil))) (by rfl))
      (pss_cons (ps_fld (pv 0) (by exact (pe_op op_sub (by exact (pe_callB call_len rfl ml boot_len (pa_cons (pv 1) pa_nil))) pe_int)) (by rfl))
      (pss_one (ps_fld (pv 0) (by exact (pe_tup (pa_cons pe_int (pa_cons (by exact (pe_px PS_ (by exact (pe_ix ix_any (pv 1) pe_int (fun _ _ => rfl))) hC hr (by decide) rfl)) pa_nil)))) (by rfl)))))))), ?_⟩
    obtain ⟨b, dx, a, l, xs, cs, Ds, Xs, rfl, hb, hs, ds, n1, n3, hl, chs, xl, q⟩ := h
    refine ⟨_, rfl, a, xs, Ds, rfl, hs, ds, n1, n3, fun H1 m1 => ⟨_, rfl, iteF ⟨_, rfl, _, rfl, a, l, xs, cs, Ds, Xs, rfl, Sv.sm hs m1, ds.sm m1, SqL.sm hl m1, chs.sm m1, xl, n3, fun H2 m2 => ⟨_, rfl, iteF ?_⟩⟩⟩⟩
    have m := m1.trans m2
    have al := paired_len ds
    refine ⟨_, rfl, a, xs.map V.ref, rfl, Sv.sm hs m, fun d G mG hd => ?_⟩
    have sG : Sx b H G := Sx.of (m.trans mG)
    have hbG := (m.trans mG) _ _ hb
    refine ⟨_, rfl, b, CB, dx, [], rfl, hbG, T.cl, T.n1, by show 0 < 1000; decide, ?_⟩
    have s5 : Sx b H (upd G b (.ins CB dx (putF "_desks" (.ref d) []))) := sG.trans Sx.upd
    have h5 : (upd G b (.ins CB dx (putF "_desks" (.ref d) []))) b = some (.ins CB dx [("_desks", .ref d)]) := upd_same
    have d5 : SqT K (upd G b (.ins CB dx (putF "_desks" (.ref d) []))) d (xs.map V.ref) := SqT.x hd hbG Sx.upd
    generalize upd G b (.ins CB dx (putF "_desks" (.ref d) [])) = G5 at s5 h5 d5 ⊢
    refine ⟨_, rfl, l, cs.map V.ref, rfl, .inl (SqL.x hl hb s5), fun c G6 m6 hc => ?_⟩
    have h6 := m6 _ _ h5
    refine ⟨_, rfl, b, CB, dx, _, rfl, h6, T.cl, T.n2, by show 1 < 1000; decide, ?_⟩
    have s7 : Sx b H (upd G6 b (.ins CB dx (putF "_changes" (.ref c) [("_desks", .ref d)]))) := (s5.trans (Sx.of m6)).trans Sx.upd
    have h7 : (upd G6 b (.ins CB dx (putF "_changes" (.ref c) [("_desks", .ref d)]))) b = some (.ins CB dx [("_desks", .ref d), ("_changes", .ref c)]) := upd_same
    have d7 : SqT K (upd G6 b (.ins CB dx (putF "_changes" (.ref c) [("_desks", .ref d)]))) d (xs.map V.ref) := SqT.x (SqT.sm d5 m6) h6 Sx.upd
    have c7 : SqT K (upd G6 b (.ins CB dx (putF "_changes" (.ref c) [("_desks", .ref d)]))) c (cs.map V.ref) := SqT.x hc h6 Sx.upd
    generalize upd G6 b (.ins CB dx (putF "_changes" (.ref c) [("_desks", .ref d)])) = G7 at s7 h7 d7 c7 ⊢
    refine ⟨_, rfl, .ref a, (xs.map V.ref).length, rfl, Sv.len (Sv.x hs hb s7), _, _, rfl, rfl, _, rfl, b, CB, dx, _, rfl, h7, T.cl, T.n3, by show 2 < 1000; decide, ?_⟩
    generalize (fun i j : Int => V.int (i - j)) (((xs.map V.ref).length : Nat) : Int) 1 = v1
    have s8 : Sx b H (upd G7 b (.ins CB dx (putF "_last" v1 [("_desks", .ref d), ("_changes", .ref c)]))) := s7.trans Sx.upd
    have h8 : (upd G7 b (.ins CB dx (putF "_last" v1 [("_desks", .ref d), ("_changes", .ref c)]))) b = some (.ins CB dx [("_desks", .ref d), ("_changes", .ref c), ("_last", v1)]) := upd_same
    have d8 : SqT K (upd G7 b (.ins CB dx (putF "_last" v1 [("_desks", .ref d), ("_changes", .ref c)]))) d (xs.map V.ref) := SqT.x d7 h7 Sx.upd
    have c8 : SqT K (upd G7 b (.ins CB dx (putF "_last" v1 [("_desks", .ref d), ("_changes", .ref c)]))) c (cs.map V.ref) := SqT.x c7 h7 Sx.upd
    generalize upd G7 b (.ins CB dx (putF "_last" v1 [("_desks", .ref d), ("_changes", .ref c)])) = G8 at s8 h8 d8 c8 ⊢
    have x0 : 0 < xs.length := by omega
    obtain ⟨D0, _, o0⟩ := pair_at (ds.x0 hb s8) (List.getElem?_eq_getElem x0)
    obtain ⟨dy, _, _, _, _, hy, _⟩ := id o0.1
    refine ⟨_, rfl, a, xs.map V.ref, 0, .ref (xs[0]'x0), rfl, rfl, Sv.x hs hb s8, atI_nat (j := 0) (by rw [List.getElem?_map, List.getElem?_eq_getElem x0]; rfl), _, dy, _, rfl, hy, _, D0, rfl, o0.1, o0.2, fun z => ⟨by rw [sizeLine_eq]; show 2 ≤ _; omega, fun t nt => ?_⟩⟩
    have mt := Sm.new (o := .tup [.int 0, .str z]) nt
    generalize upd G8 t (.tup [.int 0, .str z]) = G9 at mt ⊢
    have h9 := mt _ _ h8
    refine ⟨_, rfl, b, CB, dx, _, rfl, h9, T.cl, T.n4, by show 3 < 1000; decide, ?_⟩
    have sz : Sx b G9 (upd G9 b (.ins CB dx (putF "_start" (.ref t) [("_desks", .ref d), ("_changes", .ref c), ("_last", v1)]))) := Sx.upd
    have sH := (s8.trans (Sx.of mt)).trans sz
    exact q _ sH ⟨dx, d, c, v1, .ref t, upd_same, SqT.x (SqT.sm d8 mt) h9 sz, ds.x0 hb sH, SqT.x (SqT.sm c8 mt) h9 sz, chs.x0 hb sH⟩
theorem ok_bkE (F : FunD K "__eq__" "Book.__eq__" (defArgs (methB 5)) (defBody (methB 5)) (defScope (methB 5)) [] [] f fd) (mi : mg "isinstance" = none) (T : BkC K mg CB) (QD : Eqx P w K mg base CD 1 (spEqD K CD)) (QC : Eqx P w K mg base CC 3 (spChE K CD CC)) : FnOk P w K mg base CX0 5 f fd nEq (spBkE K CD CC CB) := by
  obtain ⟨fD, dD, pD, FD, hsD, hfD, bD⟩ := QD
  obtain ⟨fC, dC, pC, FC, hsC, hfC, bC⟩ := QC
  have FD2 : FnOk P w K mg base CX0 1 fD dD pD (spEq (EqvD K CD)) := FD.imp fun vs H Q E ⟨a, b, e, ⟨D, o1, o2, i⟩, q⟩ => ⟨a, b, D, D, e, o1, i, o2, i, fun H' m => by rw [decide_eq_true rfl]; exact q H' m⟩
  have FC2 : FnOk P w K mg base CX0 3 fC dC pC (spEq (EqvC K CD CC)) := FC.imp fun vs H Q E ⟨a, b, e, ⟨D, E2, X, o1, o2, i1, i2⟩, q⟩ => ⟨a, b, D, E2, X, e, o1, o2, i1, i2, q⟩
  have mD : Mon (DIns CD (EqvD K CD)) := mon_ins fun a b H H' e ⟨D, o1, o2, i⟩ => ⟨D, o1.sm e, o2.sm e, i⟩
  have mC : Mon (DIns CC (EqvC K CD CC)) := mon_ins fun a b H H' e ⟨D, E2, X, o1, o2, i1, i2⟩ => ⟨D, E2, X, o1.sm e, o2.sm e, i1, i2⟩
  refine F.ok (CX := CX0) scBkE (fun vs H Q E h => ?_) (fun cdv A outer s H vs Q E hr h => ?_)
  · obtain ⟨x, y, xs, xs', cs, cs', Ds, Xs, rfl, _⟩ := h
    rfl
  · refine ⟨_, PSs.nox (pss_cons (ps_if (pt_not (pt_val (by exact (pe_callB call_isi rfl mi PyProof.Rows.boot_isinstance (pa_cons (pv 1) (pa_cons (pe_glob (v := .ref CB) rfl T.g rfl) pa_nil)))))) (pss_one (ps_ret pe_bl)) pss_nil)
      (pss_one (ps_ret (by exact (pe_and (by exact (pe_cmpR (op_eqG (n := 2) (rcG_tup mD (eqG_ins FD2 hsD hfD bD pass0)) (hr.mono (by decide))) (by exact (pe_fld (pv 0) rfl)) (by exact (pe_fld (pv 1) rfl)) (nomark _)))
        (pe_one (by exact (pe_cmpR (op_eqG (n := 4) (rcG_tup mC (eqG_ins FC2 hsC hfC bC pass0)) hr) (by exact (pe_fld (pv 0) rfl)) (by exact (pe_fld (pv 1) rfl)) (nomark _))))))))), ?_⟩
    obtain ⟨x, y, xs, xs', cs, cs', Ds, Xs, rfl, ⟨dx, d, c, v1, v2, h1, h2, h3, h4, h5⟩, ⟨dx', d', c', v1', v2', h1', h2', h3', h4', h5'⟩, q⟩ := h
    refine ⟨_, rfl, _, .ref CB, _, _, true, rfl, .own CB, .base (.ins h1' T.cl T.ha T.hn T.htk T.hm), T.kC, _, rfl, ?_⟩
    have l1 := paired_len h3
    have l2 := paired_len h3'
    have l3 := paired_len h5
    have l4 := paired_len h5'
    have both : ∀ {α : Type} {R : Addr → α → Prop} {as bs : List Addr} {ts : List α}, Paired R as ts → Paired R bs ts → ∀ {i : Nat} {a b : Addr}, as[i]? = some a → bs[i]? = some b → ∃ t ∈ ts, R a t ∧ R b t := fun {α R as bs ts} p1 p2 {i a b} e1 e2 => by
      obtain ⟨t, et, r1⟩ := pair_at p1 e1
      obtain ⟨t2, et2, r2⟩ := pair_at p2 e2
      rw [et] at et2
      cases et2
      exact ⟨t, List.mem_of_getElem? et, r1, r2⟩
    refine iteF ⟨_, rfl, x, CB, dx, _, _, rfl, h1, T.cl, T.n1, rfl, _, rfl, y, CB, dx', _, _, rfl, h1', T.cl, T.n1, rfl, ⟨d, d', xs.map V.ref, xs'.map V.ref, rfl, rfl, h2, h2', by rw [List.length_map, List.length_map, l1, l2], fun i u v eu ev => ?_⟩, fun H1 m1 => ⟨_, rfl, iteT ?_⟩⟩
    · obtain ⟨a, ea, rfl⟩ := at_map eu
      obtain ⟨b, eb, rfl⟩ := at_map ev
      obtain ⟨D, _, o1, o2⟩ := both h3 h3' ea eb
      obtain ⟨_, _, _, _, _, ha, _⟩ := id o1.1
      obtain ⟨_, _, _, _, _, hb, _⟩ := id o2.1
      exact ⟨a, b, _, _, _, _, rfl, rfl, ha, hb, D, o1.1, o2.1, o1.2⟩
    · refine ⟨_, rfl, x, CB, dx, _, _, rfl, m1 _ _ h1, T.cl, T.n2, rfl, _, rfl, y, CB, dx', _, _, rfl, m1 _ _ h1', T.cl, T.n2, rfl, ⟨c, c', cs.map V.ref, cs'.map V.ref, rfl, rfl, SqT.sm h4 m1, SqT.sm h4' m1, by rw [List.length_map, List.length_map, l3, l4], fun i u v eu ev => ?_⟩, fun H2 m2 => q _ (Sm.trans m1 m2)⟩
      obtain ⟨a, ea, rfl⟩ := at_map eu
      obtain ⟨b, eb, rfl⟩ := at_map ev
      obtain ⟨t, ht, o1, o2⟩ := both (h5.sm m1) (h5'.sm m1) ea eb
      obtain ⟨i, hi⟩ := List.mem_iff_getElem?.mp ht
      obtain ⟨g1, g2, _⟩ := lnk_at hi
      have isd : ∀ {j : Nat} {D : DkD}, Ds[j]? = some D → D.Is := fun {j D} e => by
        have jl : j < xs.length := by
          have := (List.getElem?_eq_some_iff.mp e).1
          omega
        obtain ⟨D2, e2, o⟩ := pair_at h3 (List.getElem?_eq_getElem jl)
        rw [e] at e2
        cases e2
        exact o.2
      obtain ⟨_, _, _, _, _, _, _, ha, _⟩ := id o1
      obtain ⟨_, _, _, _, _, _, _, hb, _⟩ := id o2
      exact ⟨a, b, _, _, _, _, rfl, rfl, ha, hb, t.1, t.2.1, t.2.2, o1, o2, isd g1, isd g2⟩
end
end Dk
set_option Elab.async false
set_option linter.all false
set_option maxRecDepth 100000
set_option maxHeartbeats 8000000
namespace CmX
open PySem PySem.Spec PyProof.Rows L2
/-! ### a dict comprehension whose values are calls that may raise -/
/-- the block's context; what a call lets out -/
abbrev blkX (X : Cx) (E : XK) (s : Shared) (H : Hp) (scope : Scope) (ce : Env) (fp : List Addr) : Cx :=
  { X.blk s H scope ce fp with xe := fun u s' => ∃ (pins : List (Addr × Obj)) (σ : L2.St) (H1 : Hp) (s1 : Shared), Inv (X.blk s H scope ce fp) pins σ H1 s1 ∧ L2.CX X.prog X.w X.stack H1 s1 E u s' }
section
variable {X : Cx} {E : XK} {s : Shared} {H : Hp} {scope : Scope} {ce : Env} {fp : List Addr} {pins : List (Addr × Obj)} {σ : L2.St} {H1 : Hp} {s1 : Shared}
theorem to_blk (I : Inv (blkX X E s H scope ce fp) pins σ H1 s1) : Inv (X.blk s H scope ce fp) pins σ H1 s1 :=
  ⟨⟨I.ok.mod, I.ok.kind, I.ok.glob, I.ok.blt, I.ok.above, I.ok.inj, I.ok.has, I.ok.cab, I.ok.hd, I.ok.frames, I.ok.stk, I.ok.exf, I.ok.bs, I.ok.bsz, I.ok.noex, I.ok.exfs, I.ok.funs, I.ok.frf⟩, I.os, I.bare, I.base, I.loc, I.cell, I.free, I.freeC, I.pin, I.hok, I.len⟩
theorem of_blk (I : Inv (X.blk s H scope ce fp) pins σ H1 s1) : Inv (blkX X E s H scope ce fp) pins σ H1 s1 :=
  ⟨⟨I.ok.mod, I.ok.kind, I.ok.glob, I.ok.blt, I.ok.above, I.ok.inj, I.ok.has, I.ok.cab, I.ok.hd, I.ok.frames, I.ok.stk, I.ok.exf, I.ok.bs, I.ok.bsz, I.ok.noex, I.ok.exfs, I.ok.funs, I.ok.frf⟩, I.os, I.bare, I.base, I.loc, I.cell, I.free, I.freeC, I.pin, I.hok, I.len⟩
theorem passX {P : Program} {w : World} (hp : X.prog = P) (hw : X.w = w) : Passes (L2.CX P w) (blkX X E s H scope ce fp) E := fun pins σ H1 s1 e s' I c => ⟨pins, σ, H1, s1, to_blk I, by rw [hp, hw]; exact c⟩
end
theorem note_env (e : Value) {ce env : Env} (h : ce.frame = env.frame) : noteFrame e ce = noteFrame e env := by
  unfold noteFrame PySem.frameOf
  rw [h]
/-- out of a call, through the block, into the def's own air -/
theorem fails_of {X : Cx} {E : XK} {pins : List (Addr × Obj)} {σ : L2.St} {H : Hp} {s1 s' : Shared} {ce : Env} {u : Value} (st : X.stack = X.env :: X.outer) (hf : X.env.frame = some X.env.locals) (tk : Takes X (fun cls d _ H => E cls d H))
    (I : Inv X pins σ H s1) (hcf : ce.frame = X.env.frame) (hns : ∃ m, s1.heap.Ns ce.locals m) (hfp : FpOk X pins H ce.locals) (c : L2.CX X.prog X.w X.stack H s1 E u s') :
    notedBy (model X.prog X.w) X.A ce (CompFails (model X.prog X.w) X.A X.xe ce) u s' := by
  obtain ⟨a, B, H', cls, d, rfl, fl, hokB, ub, na, os, ag, w⟩ := c
  obtain ⟨f0, f1, f2, f3, f4, f5⟩ := hfp
  obtain ⟨m0, oC, es, ep, hC, dC, rC⟩ := hns
  have nfr : ce.locals ∉ frs X.stack := fun hm => by
    rcases List.mem_cons.mp (I.stkSub _ hm) with z | z
    · exact f1 z
    · exact f2 z
  have hfr : X.A.frames = some (X.env :: X.outer) := by rw [I.ok.frames, st]
  have bC : B.get? ce.locals = some oC := ub.keep _ _ hC f0 nfr
  have cs' : s'.heap.get? ce.locals = some oC := fl.1 _ _ bC
  show wpAny _ _ (noteFrame (.ref a) ce) _ _ s'
  rw [note_env _ hcf]
  have fl2 := fl
  rw [st] at fl2
  refine HandSPX.looks_onZ (base := B) (L := X.env.locals) Zc.steady hfr hf fl2 fun h1 hh up => ?_
  obtain ⟨slC, c1⟩ := up _ _ cs' (fun vs q => by rw [dC] at q; cases q)
  refine ⟨m0, ⟨_, es, ep, c1, dC, rC⟩, fun h2 m2 hn2 hs2 => ?_⟩
  obtain ⟨b1, b0, ff1, oe, vs, T, oT, ts, he, hz, hd, hv1, hnT, hTe, hT, hdT, h3⟩ := hh
  have aC : a ≠ ce.locals := fun z => by
    rw [z, c1] at he
    obtain rfl := Option.some.inj he
    have q : oC.data = .fields vs := hd
    rw [dC] at q
    cases q
  have TC : T ≠ ce.locals := fun z => by
    rw [z, c1] at hT
    obtain rfl := Option.some.inj hT
    have q : oC.data = .fields ts := hdT
    rw [dC] at q
    cases q
  obtain ⟨B2, g1, g2⟩ := restrict h2 fun b => (B.get? b).isSome
  have onB : ∀ b o, B.get? b = some o → b ≠ ce.locals → h2.get? b = some o := fun b o e n => (hs2.2 b n).trans (b1 b o e)
  have inB : ∀ b o, B2.get? b = some o → ∃ o', B.get? b = some o' := fun b o e => by
    cases q : (B.get? b).isSome with
    | false =>
      rw [g2 b q] at e
      cases e
    | true => exact Option.isSome_iff_exists.mp q
  have noB : ∀ b, B.get? b = none → B2.get? b = none := fun b e => g2 b (by rw [e]; rfl)
  have stay2 : B2.StaysIn h2 := fun b o e => by
    obtain ⟨o', e'⟩ := inB b o e
    rw [← g1 b (by rw [e']; rfl)]
    exact e
  have onB2 : ∀ b o, B.get? b = some o → b ≠ ce.locals → B2.get? b = some o := fun b o e n => by
    rw [g1 b (by rw [e]; rfl)]
    exact onB b o e n
  have ff2 : h2.FunFrames B2 (X.env :: X.outer) := funFrames_none (Heap.FunFrames.sameBut hs2 hn2 ff1) fun L hL => noB L (by
    obtain ⟨q, _⟩ := ff1.mem hL
    exact q)
  have he2 := (hs2.2 a aC).trans he
  have hT2 := (hs2.2 T TC).trans hT
  unfold PySem.passOn
  refine wpAny_bind (wpAny_field he2 hd hv1 ?_)
  rw [if_neg (show ¬ ((Value.ref T == Value.none) = true) from by simp)]
  rw [hcf, hf]
  refine wpAny_bind (HandSPX.setFlight_anyZ (fr := some X.env.locals) (Z := Zc cls d) stay2 ff2 ⟨oe, vs, T, oT, ts, he2, hz, hd, hv1, noB _ hnT, hTe, hT2, hdT, h3⟩ fun h4 k1 k2 k3 k4 => wpAny_throw (tk _ _ ?_))
  obtain ⟨G, p1, p2⟩ := restrict h4 fun b => (B.get? b).isSome || decide (b ∈ frs X.stack)
  have toG : ∀ b o, B.get? b = some o → b ≠ ce.locals → G.get? b = some o := fun b o e n => by
    rw [p1 b (by rw [e]; rfl)]
    exact k1 b o (onB2 b o e n)
  have frG : ∀ b o, s1.heap.get? b = some o → b ∈ frs X.stack → ∃ sl, G.get? b = some { o with slots := sl } := fun b o e hb => by
    obtain ⟨_, o', e', hnf⟩ := I.stack.mem hb
    rw [e] at e'
    obtain rfl := Option.some.inj e'
    obtain ⟨sl, q⟩ := ub.slot b o e hb
    obtain ⟨sl2, q2⟩ := up b _ q hnf
    have q3 := (hs2.2 b (fun z => nfr (z ▸ hb))).trans q2
    obtain ⟨sl4, q4⟩ := k4 b _ q3 hnf
    exact ⟨sl4, by rw [p1 b (by rw [decide_eq_true hb, Bool.or_true])]; exact q4⟩
  have offG : ∀ b o, G.get? b = some o → h4.get? b = some o ∧ ((B.get? b).isSome = true ∨ b ∈ frs X.stack) := fun b o e => by
    cases q : ((B.get? b).isSome || decide (b ∈ frs X.stack)) with
    | false =>
      rw [p2 b q] at e
      cases e
    | true =>
      rw [p1 b q] at e
      exact ⟨e, by simpa [Bool.or_eq_true] using q⟩
  have nC' : H' ce.locals = none := ub.free _ _ hC f0
  refine ⟨a, B2, { s1 with heap := G, gens := s'.gens, drawn := s'.drawn, toks := s'.toks }, pins, σ, H', cls, d, rfl, ?_, fun b o e hb => ?_, Heap.UpToSlots.of_keeps fun b o e => (offG b o e).1, .inr (.inr ?_), na, os, ag, w⟩
  · refine I.call' (ch := [ce.locals]) rfl ⟨fun b o e n hb hc => toG b o (ub.keep b o e n hb) (fun z => hc (by simp [z])), fun b o e n hb hc => frG b o e hb, fun b o e n hc => ub.free b o e n, fun b o e hc => ?_, ub.tups, ub.frzs, ub.tbls⟩ (fun b o q => (hokB b o q).stay (fun c u hc r => toG c u r (fun z => ?_)) (fun _ r => r) fun _ _ r => r) ag (fun b hb => ?_)
    · by_cases hb : b ∈ frs X.stack
      · obtain ⟨sl, q⟩ := frG b o e hb
        exact ⟨_, q⟩
      · obtain ⟨o', q⟩ := ub.there b o e hb
        exact ⟨o', toG b o' q (fun z => hc (by simp [z]))⟩
    · rcases hc with hc | hc
      · rw [← hc, z, nC'] at q
        cases q
      · rw [z, nC'] at hc
        cases hc
    · have e : b = ce.locals := by simpa using hb
      rw [e]
      exact ⟨f3, f1, f4, f5⟩
  · obtain ⟨e', h⟩ := offG b o e
    rcases h with h | h
    · have q : B2.get? b = h2.get? b := g1 b h
      obtain ⟨o', q'⟩ := Option.isSome_iff_exists.mp h
      have x2 : ∃ o2, h2.get? b = some o2 := by
        by_cases z : b = ce.locals
        · obtain ⟨oC2, _, _, e2, _⟩ := id hn2
          exact ⟨oC2, by rw [z]; exact e2⟩
        · exact ⟨o', onB b o' q' z⟩
      obtain ⟨o2, e2⟩ := x2
      have q4 := k1 b o2 (q.trans e2)
      have e'' : h4.get? b = some o := e'
      rw [e''] at q4
      rw [q, e2, q4]
    · exact absurd h hb
  · rw [st]
    exact ⟨k1, noB _ b0, k2, k3⟩
end CmX
set_option Elab.async false
set_option linter.all false
set_option maxRecDepth 100000
set_option maxHeartbeats 8000000
namespace CmX
open PySem PySem.Spec PyProof.Rows L2
/-- what a block owes at its end: its value, or what is done with it -/
def endsC (X : Cx) (use : Option (Value → Sem Unit)) (Qf : Value → Shared → Prop) (D C : Addr) (s' : Shared) : Prop := match use with
  | none => ∃ m, s'.heap.Ns C m ∧ ∀ h', Heap.SameBut C s'.heap h' → Qf (.ref D) { s' with heap := h' }
  | some u => wpAny (model X.prog X.w) X.A (u (.ref D)) (fun _ s2 => ∃ m, s2.heap.Ns C m ∧ ∀ h', Heap.SameBut C s2.heap h' → Qf .none { s2 with heap := h' }) X.xe s'
theorem ends_ok {X : Cx} {use : Option (Value → Sem Unit)} {Qf : Value → Shared → Prop} {D : Addr} {ce : Env} {s' : Shared} (h : endsC X use Qf D ce.locals s') : compEnds (model X.prog X.w) X.A X.xe use Qf (.ref D) ce (.ok .next) s' := by
  cases use <;> exact h
theorem ends_err {X : Cx} {use : Option (Value → Sem Unit)} {Qf : Value → Shared → Prop} {v x : Value} {ce : Env} {s' : Shared} (h : CompFails (model X.prog X.w) X.A X.xe ce x s') : compEnds (model X.prog X.w) X.A X.xe use Qf v ce (.error x) s' := by
  cases use <;> exact h
theorem dcX_core {X : Cx} {E : XK} {pins : List (Addr × Obj)} {s : Shared} {σ : L2.St} {H : Hp} {Q : VK} {kx vx tg iter : Expr} {ifs : List Expr} {scope : Scope} {own : List (Str × Nat)} {pos pos' : Pos} {wi : TI} {g : TG} {tt : TT} {tk tv : TE} {use : Option (Value → Sem Unit)} {Qf : Value → Shared → Prop}
    (st : X.stack = X.env :: X.outer) (fr : X.env.frame = some X.env.locals) (tks : Takes X (fun cls d _ H => E cls d H)) (hc : X.calm = true) (hN : X.N.Nodup) (I : Inv X pins σ H s) (hi : PI X tg iter wi) (ok : BlkOk X.N X.env.scope scope own)
    (hg : ∀ (s : Shared) (H : Hp) (C : Addr) (cl : List (Str × Addr)) (fp : List Addr), PG (X.blk s H scope (compEnvC scope cl C X.env) fp) tg g) (ht : ∀ (s : Shared) (H : Hp) (C : Addr) (cl : List (Str × Addr)) (fp : List Addr), PTs (X.blk s H scope (compEnvC scope cl C X.env) fp) ifs tt)
    (hk : ∀ (s : Shared) (H : Hp) (C : Addr) (cl : List (Str × Addr)) (fp : List Addr), PE (X.blk s H scope (compEnvC scope cl C X.env) fp) kx tk)
    (he : ∀ (s : Shared) (H : Hp) (C : Addr) (cl : List (Str × Addr)) (fp : List Addr), PE (blkX X E s H scope (compEnvC scope cl C X.env) fp) vx tv) (hs : ∀ x, foldedSetIterable iter X.env x = pure x)
    (h : tDc wi g tt tk tv (own.map (·.2)) σ H Q)
    (hRR : ∀ D C s' m H', Inv X pins σ H' s' → Q (.ref D) H' → s'.heap.Ns C m → FpOk X pins H' C → endsC X use Qf D C s') :
    wpAny (model X.prog X.w) X.A (comprehension (.DictComp kx vx [⟨tg, iter, ifs, 0⟩] scope pos) scope X.env pos' newDict false (eval iter X.env) use) Qf X.xe s := by
  have frees : ∀ y ∈ scope.names, y.2 = .free → ∃ c, X.env.cells.lookup y.1 = some c := fun y hy e => by
    rcases ok.free y hy e with k | k
    · exact I.ok.has _ (.inl k)
    · exact I.ok.has _ (.inr k)
  refine comprehension_at (use := use) rfl hs (closure_ok frees) ok.kind (fun y hy e => by rw [ok.uniq y hy, e])
    (thn (hi.run pins s σ H _ I h) fun xval v1 hxv => thn hxv fun itval v2 h2 => ?_)
  obtain ⟨itr, fps, tnn, Jt, G2, e, J2, Tn, st2, f2, q⟩ := h2
  subst e
  refine wpAny_newObj_type (newEnv_comp ?_)
  generalize hD : v2.heap.objs.size = Dn
  have noD : G2 Dn = none := J2.hok.fresh (Nat.le_of_eq hD)
  obtain ⟨Ww, ⟨mz, wz⟩, turns⟩ := q Dn noD
  -- the new list
  generalize hv3 : ({ v2 with heap := v2.heap.push { cls := .type "dict", data := .dict #[] } } : Shared) = v3
  have J3 : Inv X pins σ (upd G2 Dn (.dK [])) v3 := by
    rw [← hv3]
    refine J2.laid (t' := v2.toks) (fun b o e => Heap.get?_push_of_some _ e) (Nat.le_of_eq hD) ?_
    rw [← hD]
    exact dk_empty v2.heap J2.big
  have e3 : v3.heap = v2.heap.push { cls := .type "dict", data := .dict #[] } := by rw [← hv3]
  have szs : ∀ b ∈ fps, b < v2.heap.objs.size := fun b hb => by
    obtain ⟨o, e, _⟩ := Tn.obj _ _ st2 b hb
    exact Heap.lt_size e
  have ff3 : ∀ b ∈ fps, FpOk X pins (upd G2 Dn (.dK [])) b ∧ b < v3.heap.objs.size := fun b hb => by
    have hlt := szs b hb
    refine ⟨⟨?_, (f2 b hb).2⟩, by rw [e3, Heap.size_push]; exact Nat.lt_succ_of_lt hlt⟩
    rw [upd_ne (by rw [← hD]; exact Nat.ne_of_lt hlt)]
    exact (f2 b hb).1
  have tn3 : tnn 0 v3.heap := Tn.keep _ _ _ st2 fun b _ o e => by rw [e3]; exact Heap.get?_push_of_some _ e
  have J4 := block_start J3 ok hN ff3
  have pgo := hg v3 (upd G2 Dn (.dK [])) v3.heap.objs.size (cellsFrom (v3.heap.objs.size + 1) scope.names (cloFrom X.env.cells scope.names [])) fps
  have pto := ht v3 (upd G2 Dn (.dK [])) v3.heap.objs.size (cellsFrom (v3.heap.objs.size + 1) scope.names (cloFrom X.env.cells scope.names [])) fps
  have pko := hk v3 (upd G2 Dn (.dK [])) v3.heap.objs.size (cellsFrom (v3.heap.objs.size + 1) scope.names (cloFrom X.env.cells scope.names [])) fps
  have peo := he v3 (upd G2 Dn (.dK [])) v3.heap.objs.size (cellsFrom (v3.heap.objs.size + 1) scope.names (cloFrom X.env.cells scope.names [])) fps
  show codeAny _ _ (.compStart (.DictComp kx vx [⟨tg, iter, ifs, 0⟩] scope pos) 0 (.ref itr) (.ref Dn) (compEnvC scope (cellsFrom (v3.heap.objs.size + 1) scope.names (cloFrom X.env.cells scope.names [])) v3.heap.objs.size X.env)) (compEnds (model X.prog X.w) X.A X.xe use Qf (.ref Dn) (compEnvC scope (cellsFrom (v3.heap.objs.size + 1) scope.names (cloFrom X.env.cells scope.names [])) v3.heap.objs.size X.env)) { v3 with heap := pushCells (v3.heap.push { cls := .type "dict", data := .dict #[] }) scope.names }
  have nofp : ∀ b ∈ fps, (upd G2 Dn (.dK [])) b = none := fun b hb => (ff3 b hb).1.1
  generalize hcen : compEnvC scope (cellsFrom (v3.heap.objs.size + 1) scope.names (cloFrom X.env.cells scope.names [])) v3.heap.objs.size X.env = cen at J4 pgo pto pko peo ⊢
  have cloc : cen.locals = v3.heap.objs.size := by subst hcen; rfl
  generalize hG3 : upd G2 Dn (.dK []) = G3 at J3 J4 pgo pto pko peo wz nofp ff3
  generalize hv4 : ({ v3 with heap := pushCells (v3.heap.push { cls := .type "dict", data := .dict #[] }) scope.names } : Shared) = v4 at J4 ⊢
  have tn4 : tnn 0 v4.heap := Tn.keep _ _ _ tn3 fun b _ o e => by rw [← hv4]; exact pushCells_keeps _ _ _ _ (Heap.get?_push_of_some _ e)
  have stood : ∀ {σ' : L2.St} {H' : Hp} {s' : Shared}, Inv (X.blk v3 G3 scope cen fps) [] σ' H' s' → (∀ b ∈ fps, H' b = none) → ∀ b ∈ fps, FpOk (X.blk v3 G3 scope cen fps) [] H' b := fun {σ' H' s'} I' hnames b hb =>
    ⟨hnames b hb, (I'.ok.exf b hb).1, I'.ok.exfs b hb, .inl hb, fun x c e => (I'.ok.exf b hb).2 x c e, fun p hp => absurd (show p ∈ ([] : List (Addr × Obj)) ++ [] from hp) (by simp)⟩
  have looped : codeAny (model X.prog X.w) X.A (.compLoop (.DictComp kx vx [⟨tg, iter, ifs, 0⟩] scope pos) 0 (.ref itr) (.ref Dn) cen) (compEnds (model X.prog X.w) X.A X.xe use Qf (.ref Dn) cen) v4 := by
    refine compLoop_anyD (fun n s' => ∃ i H', Inv (X.blk v3 G3 scope cen fps) [] (wipe σ (own.map (·.2))) H' s' ∧ tnn i s'.heap ∧ (∀ b ∈ fps, H' b = none) ∧ Ww i n H') ?_ mz ⟨0, G3, J4, tn4, nofp, wz⟩
    rintro n v5 ⟨i, G5, J5, tn5, nn5, ww5⟩
    rcases turns i n G5 ww5 with ⟨stop, qfin⟩ | ⟨go, Nx, hNx, step⟩
    · have tdone := Tn.done (X.blk v3 G3 scope cen fps) rfl rfl rfl hc i [] v5 _ G5 (fun _ _ => False) J5 (stood J5 nn5) tn5 stop
      refine thnF tdone fun r v6 ⟨hres, J6⟩ => ?_
      subst hres
      -- back in the def's context
      have J7 : Inv X pins σ G5 v6 := J3.call' (ch := fps) J6.os J6.base J6.hok J6.bare fun b hb => ⟨(ff3 b hb).1.2.2.2.1, (ff3 b hb).1.2.1, (ff3 b hb).1.2.2.2.2.1, (ff3 b hb).1.2.2.2.2.2⟩
      have noC : G5 v3.heap.objs.size = none := by
        have z : G5 cen.locals = none := J6.free
        rw [cloc] at z
        exact z
      obtain ⟨m, hnames, _⟩ := J6.loc
      have hnames : v6.heap.Ns cen.locals m := hnames
      rw [cloc] at hnames
      refine ends_ok ?_
      rw [cloc]
      exact hRR Dn v3.heap.objs.size v6 m G5 J7 qfin hnames (J3.fpOk (Nat.le_refl _) noC)
    · have titem := Tn.item (X.blk v3 G3 scope cen fps) rfl rfl rfl hc i [] v5 _ G5 (fun _ _ => False) J5 (stood J5 nn5) tn5 go
      refine thnF titem fun r v6 ⟨u, hres, h6⟩ => ?_
      subst hres
      refine thnF h6 fun _ v7 ⟨x, G7, J7, r7, y7, tn7, nn7⟩ => ?_
      have I7' := J7.pinned (stood J7 nn7) (Tn.obj _ _ tn7)
      refine thnF (pgo.run _ v7 _ G7 x u _ I7' r7 (step x G7 y7)) fun _ v8 ⟨τ8, G8, J8, hwp8, qq8⟩ => ?_
      refine thnF (pto.run _ v8 τ8 G8 _ J8 qq8) fun b v9 ⟨G9, J9, qq9⟩ => ?_
      -- the turn's end
      have fine : ∀ {s' : Shared} {H' : Hp}, Inv (X.blk v3 G3 scope cen fps) ([] ++ pinsAt fps v7.heap) τ8 H' s' → Nx H' → ∃ m, m < n ∧ ∃ i H', Inv (X.blk v3 G3 scope cen fps) [] (wipe σ (own.map (·.2))) H' s' ∧ tnn i s'.heap ∧ (∀ b ∈ fps, H' b = none) ∧ Ww i m H' := fun {s' H'} I' nxt1 => by
        obtain ⟨m', hmm, wn⟩ := hNx H' nxt1
        have pinned2 : ∀ b ∈ fps, ∀ o, v7.heap.get? b = some o → s'.heap.get? b = some o ∧ H' b = none := fun b hb o e =>
          let z := I'.pin (b, o) (List.mem_append_right _ (List.mem_append_right _ (mem_pinsAt hb e)))
          ⟨z.1, z.2.1⟩
        have hlen : (wipe σ (own.map (·.2))).length = τ8.length := by rw [← hwp8, wipe_length]
        refine ⟨m', hmm, i + 1, H', (I'.unpinned (pins := [])).weak hlen (fun j v e => ?_), Tn.keep _ _ _ tn7 fun b hb o e => (pinned2 b hb o e).1, fun b hb => ?_, wn⟩
        · rw [← hwp8] at e
          exact (wipe_some e).1
        · obtain ⟨o, e, _⟩ := Tn.obj _ _ tn7 b hb
          exact (pinned2 b hb o e).2
      cases b with
      | false =>
        simp only [Bool.false_eq_true, if_false] at qq9 ⊢
        exact fine J9 qq9
      | true =>
        simp only [if_true] at qq9 ⊢
        refine thnF (pko.run _ v9 τ8 G9 _ J9 qq9) fun z v10 ⟨yk, G10, J10, r10, q10⟩ => ?_
        refine wpAny_mono (peo.run _ v10 τ8 G10 _ (of_blk J10) q10) (fun z2 v11 ⟨yv, G11, J11x, r11, kvs, k, ekk, hdd11, hsz11, nxt1⟩ => ?_) fun ee sx bad => ?airs
        case airs =>
          obtain ⟨pins1, σ1, H1, s1, I1, c1⟩ := bad
          have noC : H1 v3.heap.objs.size = none := by
            have z : H1 cen.locals = none := I1.free
            rw [cloc] at z
            exact z
          have J7 : Inv X pins σ H1 s1 := J3.call' (ch := fps) I1.os I1.base I1.hok I1.bare fun b hb => ⟨(ff3 b hb).1.2.2.2.1, (ff3 b hb).1.2.1, (ff3 b hb).1.2.2.2.2.1, (ff3 b hb).1.2.2.2.2.2⟩
          obtain ⟨m, hm1, _⟩ := I1.loc
          refine (show wpAny _ _ _ _ _ _ from wpAny_mono (?f1 : notedBy (model X.prog X.w) X.A cen (CompFails (model X.prog X.w) X.A X.xe cen) ee sx) (fun _ _ q => ends_err q) fun _ _ q => ends_err q)
          exact fails_of st fr tks J7 (by rw [← hcen]; rfl) ⟨m, hm1⟩ (by rw [cloc]; exact J3.fpOk (Nat.le_refl _) noC) c1
        have J11 := to_blk J11x
        subst ekk
        exact d_dictSet (X := X.blk v3 G3 scope cen fps) J11 hdd11 hsz11 r10 r11 fun v12 J12 => fine J12 nxt1
  exact codeAny_compStart_dict looped (Tn.self X.A 0 _ _ _ tn4 looped)
/-- {k: v for target in iter}, v a call that may raise -/
theorem pe_dcX {X : Cx} {E : XK} {kx vx tg iter : Expr} {ifs : List Expr} {scope : Scope} {own : List (Str × Nat)} {pos : Pos} {wi : TI} {g : TG} {tt : TT} {tk tv : TE} (st : X.stack = X.env :: X.outer) (fr : X.env.frame = some X.env.locals) (tks : Takes X (fun cls d _ H => E cls d H)) (hc : X.calm = true) (hN : X.N.Nodup)
    (hi : PI X tg iter wi) (ok : BlkOk X.N X.env.scope scope own)
    (hg : ∀ (s : Shared) (H : Hp) (C : Addr) (cl : List (Str × Addr)) (fp : List Addr), PG (X.blk s H scope (compEnvC scope cl C X.env) fp) tg g) (ht : ∀ (s : Shared) (H : Hp) (C : Addr) (cl : List (Str × Addr)) (fp : List Addr), PTs (X.blk s H scope (compEnvC scope cl C X.env) fp) ifs tt)
    (hk : ∀ (s : Shared) (H : Hp) (C : Addr) (cl : List (Str × Addr)) (fp : List Addr), PE (X.blk s H scope (compEnvC scope cl C X.env) fp) kx tk)
    (he : ∀ (s : Shared) (H : Hp) (C : Addr) (cl : List (Str × Addr)) (fp : List Addr), PE (blkX X E s H scope (compEnvC scope cl C X.env) fp) vx tv) (hs : ∀ x, foldedSetIterable iter X.env x = pure x := by intro _; rfl) :
    PE X (.DictComp kx vx [⟨tg, iter, ifs, 0⟩] scope pos) (tDc wi g tt tk tv (own.map (·.2))) := by
  refine ⟨fun pins s σ H Q I h => ?_⟩
  rw [arm_eval_DictComp]
  refine dcX_core st fr tks hc hN I hi ok hg ht hk he hs h fun D C s' m H' I' q hn f => ⟨m, hn, fun h'' sb => ?_⟩
  obtain ⟨f0, f1, f2, f3, f4, f5⟩ := f
  exact ⟨.ref D, H', I'.turned (t' := s'.toks) (fun b o hb e => (sb.2 b hb).trans e) f0 f1 f3 f4 f5, rfl, q⟩
section
variable {X : Cx} {E : XK} {i : Nat} {y : Str} {py : Pos} {kx vx tg iter : Expr} {ifs : List Expr} {scope : Scope} {own : List (Str × Nat)} {pos spos : Pos} {wi : TI} {g : TG} {tt : TT} {tk tv : TE}
/-- name = {k: v for ..} on one line, the name a local, v a call that may raise -/
theorem ps_setDcX (st : X.stack = X.env :: X.outer) (fr : X.env.frame = some X.env.locals) (tks : Takes X (fun cls d _ H => E cls d H)) (hc : X.calm = true) (hN : X.N.Nodup) (hy : X.N[i]? = some y) (hyl : X.env.scope.names.lookup y = some .local) (hsw : swapsWith (.DictComp kx vx [⟨tg, iter, ifs, 0⟩] scope pos) (some (.Name y py)) spos.line X.env = pure true)
    (hi : PI X tg iter wi) (ok : BlkOk X.N X.env.scope scope own) (hg : Dk.InBlk X scope fun B => PG B tg g) (ht : Dk.InBlk X scope fun B => PTs B ifs tt) (hk : Dk.InBlk X scope fun B => PE B kx tk)
    (he : ∀ (s : Shared) (H : Hp) (C : Addr) (cl : List (Str × Addr)) (fp : List Addr), PE (blkX X E s H scope (compEnvC scope cl C X.env) fp) vx tv) (hs : ∀ x, foldedSetIterable iter X.env x = pure x := by intro _; rfl) :
    PS X (.Assign [.Name y py] (.DictComp kx vx [⟨tg, iter, ifs, 0⟩] scope pos) spos) (tAsg (tDc wi g tt tk tv (own.map (·.2))) (gName i)) := by
  refine ⟨fun ps s σ H D I h => ?_⟩
  rw [exec_Assign_Name_used _ _ _ _ hsw]
  refine wpAny_bind (wpAny_standAt (wpAny_bind ?_))
  show wpAny _ X.A (do let _ ← comprehension (.DictComp kx vx [⟨tg, iter, ifs, 0⟩] scope pos) scope X.env (firstIterPos [⟨tg, iter, ifs, 0⟩] pos) newDict false (eval iter X.env) (some (assign (.Name y py) X.env))) _ _ s
  have h : tDc wi g tt tk tv (own.map (·.2)) σ H (fun x H1 => gName i x σ H1 D.nx) := h
  refine wpAny_bind (thn (dcX_core (Qf := fun _ s2 => SP X ps D .next s2) st fr tks hc hN I hi ok hg ht hk he hs h fun L C s2 m H2 I2 q hn ⟨f0, f1, _, f3, f4, f5⟩ => ?_) fun _ _ hq => wpAny_pure (wpAny_pure hq))
  refine (show wpAny _ _ (assign (.Name y py) X.env (.ref L)) _ _ _ from wpAny_assign_Name (store_ok2 (v := V.ref L) I2 hN hy (.inl hyl) rfl (fun s3 I3 ⟨a, sb, ha⟩ => ⟨m, hn.sameBut sb ?_, fun h3 sb3 => ⟨_, H2, I3.turned (t' := s3.toks) (fun b o hb e => (sb3.2 b hb).trans e) f0 f1 f3 f4 f5, q⟩⟩) (.inr hyl)))
  rcases ha with z | z
  · exact z ▸ f1
  · exact fun e => f4 y a z e.symm
end
end CmX
set_option Elab.async false
set_option linter.all false
set_option maxRecDepth 100000
set_option maxHeartbeats 8000000
namespace Dk
open PySem PySem.Spec PyProof.Rows L2 Er LamX NdefX
open PySem.ErK (EC)
/-! ### the errors of joins; joined_row; plain_change -/
theorem walk_X {J : It} {n : Nat} {G : Hp → Prop} {Y : Nat → Hp → V → Hp → Prop} (w : Walk J n G Y) {H0 : Hp} {Fin : Hp → Prop} {Body : (Hp → Prop) → V → Hp → Prop} (Pv : Nat → Hp → Prop) (h0 : Pv 0 H0) (hG : ∀ i H, i ≤ n → Pv i H → G H)
    (hs : ∀ i x H H2, i < n → Pv i H → Y i H x H2 → Body (Pv (i + 1)) x H2) (hd : ∀ H, Pv n H → Fin H) :
    ∃ U : Nat → Nat → Hp → Prop, (∃ m, U 0 m H0) ∧ ∀ i m H, U i m H → (J.stop i H ∧ Fin H) ∨ (J.go i H ∧ ∃ Nx : Hp → Prop, (∀ H2, Nx H2 → ∃ m2, m2 < m ∧ U (i + 1) m2 H2) ∧ ∀ x H2, J.yld i H x H2 → Body Nx x H2) := by
  refine ⟨fun i m H => m = n - i ∧ i ≤ n ∧ Pv i H, ⟨n, rfl, Nat.zero_le _, h0⟩, ?_⟩
  rintro i m H ⟨rfl, hi, p⟩
  have g := hG i H hi p
  by_cases c : i < n
  · exact .inr ⟨w.goes i H c g, Pv (i + 1), fun H2 p2 => ⟨n - (i + 1), by omega, rfl, c, p2⟩, fun x H2 y => hs i x H H2 c p (w.yields i H x H2 c g y)⟩
  · have e : i = n := by omega
    subst e
    exact .inl ⟨w.stops H g, hd H p⟩
theorem scErL : FnScope ["self", "value"] ["self", "value"] (defScope (ini (top 15))) := ⟨rfl, rfl, rfl, by decide +kernel, rfl, by decide +kernel, by decide +kernel⟩
theorem scErN : FnScope ["self", "value"] ["self", "value"] (defScope (ini (top 14))) := ⟨rfl, rfl, rfl, by decide +kernel, rfl, by decide +kernel, by decide +kernel⟩
theorem scErT : FnScope ["self", "deed"] ["self", "deed"] (defScope (ini (top 16))) := ⟨rfl, rfl, rfl, by decide +kernel, rfl, by decide +kernel, by decide +kernel⟩
section
variable {P : Program} {w : World} {K : PySem.W.Frag} {mg : Str → Option Value} {base : Heap} {fI C : Addr} {dI : FuncData}
theorem ok_erL (B : Bad K mg "BadLink" "value" (ini (top 15)) C fI dI) : FnOk P w K mg base CX0 1 fI dI ["self", "value"] (spErr K "value") := by
  refine B.F.ok (CX := CX0) scErL (fun vs H Q E h => ?_) (fun cdv A outer s H vs Q E hr h => ?_)
  · obtain ⟨a, C, v, rfl, _⟩ := h
    rfl
  · refine ⟨_, PSs.nox (pss_one (ps_ost (pv 0) (pv 1))), ?_⟩
    obtain ⟨a, C, v, rfl, T, no, ha, q⟩ := h
    exact ⟨_, rfl, _, rfl, a, C, rfl, T, no, .inl ⟨ha, q⟩⟩
theorem ok_erN (B : Bad K mg "BadNumber" "value" (ini (top 14)) C fI dI) : FnOk P w K mg base CX0 1 fI dI ["self", "value"] (spErr K "value") := by
  refine B.F.ok (CX := CX0) scErN (fun vs H Q E h => ?_) (fun cdv A outer s H vs Q E hr h => ?_)
  · obtain ⟨a, C, v, rfl, _⟩ := h
    rfl
  · refine ⟨_, PSs.nox (pss_one (ps_ost (pv 0) (pv 1))), ?_⟩
    obtain ⟨a, C, v, rfl, T, no, ha, q⟩ := h
    exact ⟨_, rfl, _, rfl, a, C, rfl, T, no, .inl ⟨ha, q⟩⟩
theorem ok_erT (B : Bad K mg "TooLong" "deed" (ini (top 16)) C fI dI) : FnOk P w K mg base CX0 1 fI dI ["self", "deed"] (spErr K "deed") := by
  refine B.F.ok (CX := CX0) scErT (fun vs H Q E h => ?_) (fun cdv A outer s H vs Q E hr h => ?_)
  · obtain ⟨a, C, v, rfl, _⟩ := h
    rfl
  · refine ⟨_, PSs.nox (pss_one (ps_ost (pv 0) (pv 1))), ?_⟩
    obtain ⟨a, C, v, rfl, T, no, ha, q⟩ := h
    exact ⟨_, rfl, _, rfl, a, C, rfl, T, no, .inl ⟨ha, q⟩⟩
theorem bErL (B : Bad K mg "BadLink" "value" (ini (top 15)) C fI dI) : Binds K dI ["self", "value"] [] := B.F.bindsN fun _ _ _ _ _ _ us hl => match us, hl with
  | [_, _], _ => rfl
theorem bErN (B : Bad K mg "BadNumber" "value" (ini (top 14)) C fI dI) : Binds K dI ["self", "value"] [] := B.F.bindsN fun _ _ _ _ _ _ us hl => match us, hl with
  | [_, _], _ => rfl
theorem bErT (B : Bad K mg "TooLong" "deed" (ini (top 16)) C fI dI) : Binds K dI ["self", "deed"] [] := B.F.bindsN fun _ _ _ _ _ _ us hl => match us, hl with
  | [_, _], _ => rfl
end
/-- the row that both play -/
def rowJ (X Y : ChD) (d : Str) : List Str := (X.rf d).flatMap Y.rf
theorem rowJ_len {X Y : ChD} {D M N : DkD} (ok1 : X.Ok D M) (ok2 : Y.Ok M N) {d : Str} (hd : d ∈ D.ds) : (rowJ X Y d).length ≤ 256 := by
  have h1 := (ok1.r d hd).1
  have h2 := flat_len Y.rf 16 (l := X.rf d) fun x hx => (ok2.r x ((ok1.r d hd).2 x hx)).1
  unfold rowJ
  omega
def spJr (K : PySem.W.Frag) (CD CC CT : Addr) : Sp := fun vs H Q E => ∃ (c1 c2 : Addr) (d : Str) (D M N : DkD) (X Y : ChD), vs = [.ref c1, .ref c2, .str d] ∧ ChOb K CD CC H c1 D M X ∧ ChOb K CD CC H c2 M N Y ∧ X.Ok D M ∧ Y.Ok M N ∧ d ∈ D.ds ∧
  (((rowJ X Y d).length ≤ 16 ∧ ∀ l G, Sm H G → G l = some (.lst ((rowJ X Y d).map V.str)) → Q (.ref l) G) ∨ (16 < (rowJ X Y d).length ∧ ∀ e G, Sm H G → H e = none → G e = some (.xd [("deed", .str d)]) → E (.ref CT) (some e) G))
abbrev nJr : List Str := ["first", "second", "deed", "row", "newer", "newest"]
theorem scJr : FnScope nJr ["first", "second", "deed"] (defScope (top 47)) := ⟨rfl, rfl, rfl, by decide +kernel, rfl, by decide +kernel, by decide +kernel⟩
theorem str_atS {ws : List Str} {j : Nat} {v : V} (h : (ws.map V.str)[j]? = some v) : ∃ z, ws[j]? = some z ∧ v = .str z := by
  rw [List.getElem?_map] at h
  cases e : ws[j]? with
  | none =>
    rw [e] at h
    cases h
  | some z =>
    rw [e] at h
    exact ⟨z, rfl, (Option.some.inj h).symm⟩
section
variable {P : Program} {w : World} {K : PySem.W.Frag} {mg : Str → Option Value} {base : Heap} {f fI CD CC CT : Addr} {fd dI : FuncData}
theorem ok_jr (F : FnP K "joined_row" (top 47) f fd) (ml : mg "len" = none) (gM : ∃ t, mg "MOST_ROW" = some (.int 16 t)) (T : ChC K mg CC) (MR : Mx P w K mg base CX0 CC 2 "row" nRow (spRow K CD CC)) (B : Bad K mg "TooLong" "deed" (ini (top 16)) CT fI dI) :
    FnOk P w K mg base (L2.CX P w) 3 f fd ["first", "second", "deed"] (spJr K CD CC CT) := by
  refine F.ok (CX := L2.CX P w) scJr (fun vs H Q E h => ?_) (fun cdv A outer s H vs Q E hr h => ?_)
  · obtain ⟨c1, c2, d, D, M, N, X, Y, rfl, _⟩ := h
    rfl
  · have GE : FnOk P w K mg base CX0 1 fI dI ["self", "deed"] (spErr K "deed") := ok_erT B
    refine ⟨_, pss_cons (by exact (ps_setLc2 (i := 3) (own := [("newer", 4), ("newest", 5)]) (vs1 := [5]) (wi1 := iList K (tMeth CC "row" (spRow K CD CC) [] E0 (tVar 1) (tCons (tVar 4) tNil))) (g := gName 4) (tt := tYes) (g1 := gName 5) (tt1 := tYes) (te := tVar 5) rfl scJr.nd rfl rfl (sw_true rfl rfl rfl (by decide +kernel))
        (pi_list (by exact (pe_mx MR (pv 0) T.cl hr (by decide) (pa_cons (pv 2) pa_nil)))) (blkOk_by (N := nJr) (sc := defScope (top 47)) (by decide +kernel)) (by decide)
        (fun _ _ _ _ _ => pg_name (i := 4) scJr.nd rfl (Or.inl rfl)) (fun _ _ _ _ _ => pts_nil) (fun _ _ _ _ _ => by exact (pi_list (by exact (pe_mx MR (by exact (pv 1)) T.cl hr (by decide) (pa_cons (by exact (pv 4)) pa_nil))))) (fun _ _ _ _ _ => pg_name (i := 5) scJr.nd rfl (Or.inl rfl)) (fun _ _ _ _ _ => pts_nil) (fun _ _ _ _ _ => by exact (pv 5))))
      (pss_cons (ps_if (pt_cmpR op_gt (by exact (pe_callB call_len rfl ml boot_len (pa_cons (pv 3) pa_nil))) (pe_glob (v := .int 16) rfl gM.choose_spec ⟨_, rfl⟩) (nomark _)) (pss_one (ps_raise rfl (takes_of rfl rfl rfl rfl) (pmk_oex (e := .Name "deed" _) (es := []) B.ec.ox B.ec.iC B.ec.tI GE hr (bErT B) .nil pass0 rfl B.gl (pa_cons (pv 2) pa_nil)))) pss_nil)
      (PSs.nox (pss_one (ps_ret (pv 3))))), ?_⟩
    obtain ⟨c1, c2, d, D, M, N, X, Y, rfl, o1, o2, k1, k2, hd, h⟩ := h
    obtain ⟨dx1, _, _, _, _, _, _, h1, _⟩ := id o1
    obtain ⟨dx2, _, _, _, _, _, _, h2, _⟩ := id o2
    refine ⟨_, rfl, c1, dx1, _, rfl, h1, rfl, _, rfl, c1, d, D, M, X, rfl, o1, hd, fun l nl => ⟨l, rfl, ⟨_, .inl (.inl upd_same)⟩, fun L nL => ?_⟩⟩
    have m1 := Sm.new (o := .lst ((X.rf d).map V.str)) nl
    have el : upd H l (.lst ((X.rf d).map V.str)) l = some (.lst ((X.rf d).map V.str)) := upd_same
    generalize upd H l (.lst ((X.rf d).map V.str)) = G1 at m1 el nL ⊢
    have good := (k1.r d hd).2
    have few : ∀ i, (((X.rf d).take i).flatMap Y.rf).length ≤ 256 := fun i => by
      have h1 := (k1.r d hd).1
      have h2 := flat_len Y.rf 16 (l := (X.rf d).take i) fun x hx => (k2.r x (good x (List.mem_of_mem_take hx))).1
      rw [List.length_take] at h2
      have : min i (X.rf d).length * 16 ≤ 16 * 16 := Nat.mul_le_mul_right _ (by omega)
      omega
    refine walk_X (walk_list (xs := (X.rf d).map V.str)) (fun i G => G L = some (.lst ((((X.rf d).take i).flatMap Y.rf).map V.str)) ∧ Sm G1 G) ⟨upd_same, Sm.new nL⟩ (fun i G _ p => .inl (.inl (p.2 _ _ el))) (fun i v G G' hi p yy => ?_) (fun G p => ?_)
    · obtain ⟨eL, mG⟩ := p
      obtain ⟨rfl, ex⟩ := yy
      obtain ⟨e, ee, rfl⟩ := str_atS ex
      have he := good e (List.mem_of_getElem? ee)
      have mm := m1.trans mG
      refine ⟨rfl, ?_⟩
      unfold tYes
      dsimp only
      rw [if_pos rfl]
      refine ⟨_, rfl, c2, dx2, _, rfl, mm _ _ h2, rfl, _, rfl, c2, e, M, N, Y, rfl, o2.sm mm, he, fun l2 n2 => ⟨l2, rfl, ⟨_, .inl (.inl upd_same)⟩, ?_⟩⟩
      have m2 := Sm.new (o := .lst ((Y.rf e).map V.str)) n2
      have e2 : upd G' l2 (.lst ((Y.rf e).map V.str)) l2 = some (.lst ((Y.rf e).map V.str)) := upd_same
      have eL2 := m2 _ _ eL
      have mG2 := mG.trans m2
      have n20 : L ≠ l2 := fun z => by
        rw [← z, eL] at n2
        cases n2
      generalize upd G' l2 (.lst ((Y.rf e).map V.str)) = G2 at m2 e2 eL2 mG2 ⊢
      have tk : (X.rf d).take (i + 1) = (X.rf d).take i ++ [e] := by
        rw [List.take_add_one, ee]
        rfl
      refine walk_X (walk_list (xs := (Y.rf e).map V.str)) (fun j G => G L = some (.lst ((((X.rf d).take i).flatMap Y.rf ++ (Y.rf e).take j).map V.str)) ∧ Sm G1 G ∧ G l2 = some (.lst ((Y.rf e).map V.str))) ⟨by rw [List.take_zero, List.append_nil]; exact eL2, mG2, e2⟩ (fun j G _ p => .inl (.inl p.2.2)) (fun j v G G' hj p yy => ?_) (fun G p => ?_)
      · obtain ⟨eL3, m3, e3⟩ := p
        obtain ⟨rfl, ex⟩ := yy
        obtain ⟨y, ey, rfl⟩ := str_atS ex
        refine ⟨rfl, ?_⟩
        dsimp only
        rw [if_pos rfl]
        have f1 := few i
        have f2 := (k2.r e he).1
        refine ⟨_, rfl, _, eL3, ?_, ?_, ?_, ?_⟩
        · rw [List.length_map, List.length_append, List.length_take, sizeLine_eq]
          omega
        · rw [upd_same, List.take_add_one, ey, Option.toList_some, ← List.append_assoc, List.map_append (l₂ := [y])]
          rfl
        · intro b o eb
          rw [upd_ne (ne_of_none eb nL)]
          exact m3 _ _ eb
        · rw [upd_ne (Ne.symm n20)]
          exact e3
      · obtain ⟨eL3, m3, e3⟩ := p
        rw [List.length_map, List.take_length] at eL3
        refine ⟨?_, m3⟩
        rw [eL3, tk, List.flatMap_append, List.flatMap_cons, List.flatMap_nil, List.append_nil]
    · obtain ⟨eL, mG⟩ := p
      rw [List.length_map, List.take_length] at eL
      have eL : G L = some (.lst ((rowJ X Y d).map V.str)) := eL
      have mm := m1.trans mG
      refine ⟨_, rfl, .ref L, ((rowJ X Y d).map V.str).length, rfl, .inl ⟨_, .inl (.inl eL), rfl⟩, _, _, rfl, rfl, _, rfl, ?_⟩
      rw [List.length_map]
      rcases h with ⟨h16, q⟩ | ⟨h16, q⟩
      · rw [decide_eq_false (show ¬ (((rowJ X Y d).length : Nat) : Int) > 16 by omega)]
        exact iteF ⟨_, rfl, q L G mm eL⟩
      · rw [decide_eq_true (show (((rowJ X Y d).length : Nat) : Int) > 16 by omega)]
        exact iteT ⟨_, rfl, bad_reads B.ec.ox B.ec.noN fun e ne => q e _ (mm.trans (Sm.new ne)) (none_of_sm mm ne) upd_same⟩
end
end Dk
set_option Elab.async false
set_option linter.all false
set_option maxRecDepth 100000
set_option maxHeartbeats 8000000
namespace Dk
open PySem PySem.Spec PyProof.Rows L2 Er LamX NdefX CmX
open PySem.ErK (EC)
/-! ### plain_change, joined -/
theorem dc_refsX {K : PySem.W.Frag} {a : Addr} {ws : List Str} {tv : TE} {F : Hp → Addr → Str → Prop} {σ : L2.St} {i : Nat} {H1 : Hp} {Q : Addr → Hp → Prop} (n0 : Nat) (hk : Sq K H1 a ws) (nd : ws.Nodup) (hn : ws.length ≤ 1000) (w1 : ∀ v, wipe ((wipe σ [i]).set i (some v)) [i] = wipe σ [i])
    (s1 : ∀ v, ((wipe σ [i]).set i (some v))[i]? = some (some v)) (fm1 : ∀ G G' b z, Sm G G' → F G b z → F G' b z) (fd1 : ∀ G D ks ks' b z, G D = some (.dK ks) → F G b z → F (upd G D (.dK ks')) b z)
    (ev : ∀ (j : Nat) (z : Str) (H2 : Hp) (Q : VK), ws[j]? = some z → j < n0 → Sm H1 H2 → (∀ b H4, Sm H2 H4 → F H4 b z → Q (.ref b) H4) → tv ((wipe σ [i]).set i (some (.str z))) H2 Q)
    (bad : ∀ (z : Str) (H2 : Hp) (Q : VK), ws[n0]? = some z → Sm H1 H2 → tv ((wipe σ [i]).set i (some (.str z))) H2 Q)
    (q : ∀ (D : Addr) (H2 : Hp) (as : List Addr), ws.length ≤ n0 → Sm H1 H2 → H1 D = none → H2 D = some (.dK (dkv ws (as.map V.ref))) → Paired (F H2) as ws → Q D H2) :
    (SqL K H1 a (ws.map V.str) ∧ DcR (gName i) (tVar i) tv σ [i] H1 Q (Itl K a)) ∨ (SqT K H1 a (ws.map V.str) ∧ DcR (gName i) (tVar i) tv σ [i] H1 Q (Itt K a)) := by
  have hl : (ws.map V.str).length = ws.length := List.length_map _
  have step : ∀ (D : Addr) (j : Nat) (x : V) (H : Hp), H1 D = none → j < ws.length → (j ≤ n0 ∧ ∃ as : List Addr, H D = some (.dK (dkv (ws.take j) (as.map V.ref))) ∧ Paired (F H) as (ws.take j) ∧ Sm H1 H) → (ws.map V.str)[j]? = some x →
      (tVar i) ((wipe σ [i]).set i (some x)) H fun y H4 => tv ((wipe σ [i]).set i (some x)) H4 fun z H5 => ∃ kvs k, y = kV k ∧ H5 D = some (.dK kvs) ∧ kvs.length < sizeLine ∧ (j + 1 ≤ n0 ∧ ∃ as : List Addr, (upd H5 D (.dK (putK kvs k z))) D = some (.dK (dkv (ws.take (j + 1)) (as.map V.ref))) ∧ Paired (F (upd H5 D (.dK (putK kvs k z)))) as (ws.take (j + 1)) ∧ Sm H1 (upd H5 D (.dK (putK kvs k z)))) := by
    rintro D j x H nD hj ⟨jn, as, ed, pr, sm⟩ ex
    have ez : ws[j]? = some (ws[j]'hj) := List.getElem?_eq_getElem hj
    have e2 : x = .str (ws[j]'hj) := by
      rw [List.getElem?_map, ez] at ex
      exact (Option.some.inj ex).symm
    subst e2
    have tk : ws.take (j + 1) = ws.take j ++ [ws[j]'hj] := by
      rw [List.take_add_one, ez]
      rfl
    have l1 := paired_len pr
    by_cases c : j < n0
    · refine ⟨_, s1 _, ev j _ H _ ez c sm fun b H4 m4 hf => ?_⟩
      have ed4 := m4 _ _ ed
      refine ⟨_, .inr (ws[j]'hj), rfl, ed4, by rw [dkv_len (by rw [List.length_map, l1]), List.length_take, sizeLine_eq]; omega, c, as ++ [b], ?_, ?_, ?_⟩
      · rw [upd_same, put_dkv l1 (by rw [← tk]; exact nd.sublist (List.take_sublist _ _)), tk]
      · rw [tk]
        exact pair_more (pair_mono pr fun c _ z hc => fd1 _ _ _ _ _ _ ed4 (fm1 _ _ _ _ m4 hc)) (fd1 _ _ _ _ _ _ ed4 hf)
      · intro c o e
        rw [upd_ne (ne_of_none e nD)]
        exact m4 _ _ (sm _ _ e)
    · have e : j = n0 := by omega
      refine ⟨_, s1 _, bad _ H _ ?_ sm⟩
      rw [← e]
      exact ez
  have fin : ∀ D H, H1 D = none → (ws.length ≤ n0 ∧ ∃ as : List Addr, H D = some (.dK (dkv (ws.take ws.length) (as.map V.ref))) ∧ Paired (F H) as (ws.take ws.length) ∧ Sm H1 H) → Q D H := fun D H nD ⟨ln, as, ed, pr, sm⟩ => by
    rw [List.take_length] at ed pr
    exact q D H as ln sm nD ed pr
  rcases hk with hk | hk
  · refine .inl ⟨hk, dc_it walk_list w1 (fun D j H => j ≤ n0 ∧ ∃ as : List Addr, H D = some (.dK (dkv (ws.take j) (as.map V.ref))) ∧ Paired (F H) as (ws.take j) ∧ Sm H1 H) (fun D nD => ⟨Nat.zero_le _, [], upd_same, .nil, Sm.new nD⟩) (fun D j H _ ⟨_, _, _, _, p⟩ => SqL.sm hk p) (fun D j x H H' nD hj p y => ?_) fun D H nD p => fin D H nD (by rw [hl] at p; exact p)⟩
    obtain ⟨rfl, ex⟩ := y
    exact step D j x _ nD (by omega) p ex
  · refine .inr ⟨hk, dc_it walk_tup w1 (fun D j H => j ≤ n0 ∧ ∃ as : List Addr, H D = some (.dK (dkv (ws.take j) (as.map V.ref))) ∧ Paired (F H) as (ws.take j) ∧ Sm H1 H) (fun D nD => ⟨Nat.zero_le _, [], upd_same, .nil, Sm.new nD⟩) (fun D j H _ ⟨_, _, _, _, p⟩ => SqT.sm hk p) (fun D j x H H' nD hj p y => ?_) fun D H nD p => fin D H nD (by rw [hl] at p; exact p)⟩
    obtain ⟨rfl, ex⟩ := y
    exact step D j x _ nD (by omega) p ex
def LstAt (rf : Str → List Str) : Hp → Addr → Str → Prop := fun G b z => G b = some (.lst ((rf z).map V.str))
theorem LstAt.mono {rf : Str → List Str} : ∀ G G' b z, Sm G G' → LstAt rf G b z → LstAt rf G' b z := fun _ _ _ _ m h => m _ _ h
theorem LstAt.put {rf : Str → List Str} : ∀ G D ks ks' b z, G D = some (.dK ks) → LstAt rf G b z → LstAt rf (upd G D (.dK ks')) b z := fun G D ks ks' b z e h => by
  unfold LstAt
  rw [upd_ne (fun q => by unfold LstAt at h; rw [q, e] at h; cases h)]
  exact h
theorem rows_of {rf : Str → List Str} {H : Hp} : ∀ {as : List Addr} {ds : List Str}, Paired (LstAt rf H) as ds → RowsIn H (as.map V.ref) ds rf
  | _, _, .nil => .nil
  | _, _, .cons h t => .cons ⟨_, rfl, .inl h⟩ (rows_of t)
/-- what stood stands behind the making of x -/
theorem make_sm {H G : Hp} {x dx : Addr} {o u : HO} (nx : H x = none) (nd : H dx = none) (m : Sx x (upd (upd H dx o) x u) G) : Sm H G := fun b v e => by
  have b1 : b ≠ x := ne_of_none e nx
  refine m _ _ b1 ?_
  rw [upd_ne b1, upd_ne (ne_of_none e nd)]
  exact e
theorem new2 {H : Hp} {x dx : Addr} {o u : HO} (nx : H x = none) (nd : H dx = none) : Sm H (upd (upd H dx o) x u) := fun b v e => by
  rw [upd_ne (ne_of_none e nx), upd_ne (ne_of_none e nd)]
  exact e
def idX : ChD := ⟨fun z => z, fun d => [d], fun l => l⟩
theorem idX_ok {D : DkD} : idX.Ok D D := ⟨fun z hz => hz, fun d hd => ⟨by show 1 ≤ 16; decide, fun c hc => (show c = d from by simpa [idX] using hc) ▸ hd⟩, fun l hl => hl⟩
def spPc (K : PySem.W.Frag) (CD CC : Addr) : Sp := fun vs H Q _ => ∃ (x : Addr) (D : DkD), vs = [.ref x] ∧ DOb K CD H x D ∧ D.Is ∧ ∀ c G, Sm H G → ChOb K CD CC G c D D idX → Q (.ref c) G
abbrev nPc : List Str := ["desk", "places", "rows", "standing", "deed", "sight"]
theorem scPc : FnScope nPc ["desk"] (defScope (top 45)) := ⟨rfl, rfl, rfl, by decide +kernel, rfl, by decide +kernel, by decide +kernel⟩
def joinX (X Y : ChD) : ChD := ⟨fun z => Y.pf (X.pf z), rowJ X Y, fun l => X.ef (Y.ef l)⟩
def spJo (K : PySem.W.Frag) (CD CC CL CT : Addr) : Sp := fun vs H Q E => ∃ (c1 c2 : Addr) (D M M' N : DkD) (X Y : ChD), vs = [.ref c1, .ref c2] ∧ ChOb K CD CC H c1 D M X ∧ ChOb K CD CC H c2 M' N Y ∧ X.Ok D M ∧ Y.Ok M' N ∧ D.Is ∧ M.Is ∧ M'.Is ∧ N.Is ∧
  ((M ≠ M' ∧ ∀ e G, Sm H G → H e = none → G e = some (.xd [("value", .ref c2)]) → E (.ref CL) (some e) G) ∨
   (M = M' ∧ ∃ n0, (∀ j d, D.ds[j]? = some d → j < n0 → (rowJ X Y d).length ≤ 16) ∧ (∀ d, D.ds[n0]? = some d → 16 < (rowJ X Y d).length ∧ ∀ e G, Sm H G → H e = none → G e = some (.xd [("deed", .str d)]) → E (.ref CT) (some e) G) ∧
     (D.ds.length ≤ n0 → ∀ c G, Sm H G → ChOb K CD CC G c D N (joinX X Y) → Q (.ref c) G)))
abbrev nJo : List Str := ["first", "second", "elder", "newer", "places", "rows", "eyes", "one", "deed", "sight"]
theorem scJo : FnScope nJo ["first", "second"] (defScope (top 46)) := ⟨rfl, rfl, rfl, by decide +kernel, rfl, by decide +kernel, by decide +kernel⟩
section
variable {P : Program} {w : World} {K : PySem.W.Frag} {mg : Str → Option Value} {base : Heap} {f fI CD CC CL CT : Addr} {fd dI : FuncData}
theorem ok_pc (F : FnP K "plain_change" (top 45) f fd) (hC : Cls K CD) (PS_ : Px P w K mg base CD 1 "standings" nSelf (spStd CD)) (PD : Px P w K mg base CD 1 "deeds" nSelf (spDds K CD)) (GA : Fx P w K mg base CX0 3 "all_sights" ["desk"] (spAs K CD))
    (GC : Cx_ P w K mg base CX0 CC 5 "Change" ["self", "first", "second", "places", "rows", "eyes"] (spChI K CD CC)) : FnOk P w K mg base CX0 7 f fd ["desk"] (spPc K CD CC) := by
  refine F.ok (CX := CX0) scPc (fun vs H Q E h => ?_) (fun cdv A outer s H vs Q E hr h => ?_)
  · obtain ⟨x, D, rfl, _⟩ := h
    rfl
  · refine ⟨_, PSs.nox (pss_cons (by exact (ps_setDc (i := 1) (own := [("standing", 3)]) (g := gName 3) (tt := tYes) (tk := tVar 3) (tv := tVar 3) rfl scPc.nd rfl rfl (sw_dict rfl rfl rfl (by decide +kernel)) (pi_seq (by exact (pe_px PS_ (pv 0) hC hr (by decide) rfl)))
        (blkOk_by (N := nPc) (sc := defScope (top 45)) (by decide +kernel)) (fun _ _ _ _ _ => pg_name (i := 3) scPc.nd rfl (Or.inl rfl)) (fun _ _ _ _ _ => pts_nil) (fun _ _ _ _ _ => by exact (pv 3)) (fun _ _ _ _ _ => by exact (pv 3))))
      (pss_cons (by exact (ps_setDc (i := 2) (own := [("deed", 4)]) (g := gName 4) (tt := tYes) (tk := tVar 4) (tv := tLst (tCons (tVar 4) tNil)) rfl scPc.nd rfl rfl (sw_dict rfl rfl rfl (by decide +kernel)) (pi_seq (by exact (pe_px PD (pv 0) hC hr (by decide) rfl)))
        (blkOk_by (N := nPc) (sc := defScope (top 45)) (by decide +kernel)) (fun _ _ _ _ _ => pg_name (i := 4) scPc.nd rfl (Or.inl rfl)) (fun _ _ _ _ _ => pts_nil) (fun _ _ _ _ _ => by exact (pv 4)) (fun _ _ _ _ _ => by exact (pe_lst (pa_cons (by exact (pv 4)) pa_nil)))))
      (pss_one (ps_ret (by exact (pe_cx GC hr (by decide) rfl (pa_cons (pv 0) (pa_cons (pv 0) (pa_cons (pv 1) (pa_cons (pv 2) (pa_cons (by exact (pe_dc (own := [("sight", 5)]) (g := gName 5) (tt := tYes) (tk := tVar 5) (tv := tVar 5) rfl scPc.nd (pi_seq (by exact (pe_fx GA hr (by decide) rfl (pa_cons (pv 0) pa_nil))))
        (blkOk_by (N := nPc) (sc := defScope (top 45)) (by decide +kernel)) (fun _ _ _ _ _ => pg_name (i := 5) scPc.nd rfl (Or.inl rfl)) (fun _ _ _ _ _ => pts_nil) (fun _ _ _ _ _ => by exact (pv 5)) (fun _ _ _ _ _ => by exact (pv 5)))) pa_nil))))))))))), ?_⟩
    obtain ⟨x, D, rfl, ob, is, q⟩ := h
    obtain ⟨dx, st, ld, si, as, hx, hst, hld, hsi, _⟩ := id ob
    have w9 := is.most
    have d4 := is.dmost
    refine ⟨_, rfl, x, dx, _, rfl, hx, x, dx, st, ld, si, rfl, hx, st, D.ws.map V.str, rfl, ?_⟩
    refine dc_strs (f := fun z => z) (.inr hst) is.nd (by omega) (fun _ => rfl) (fun _ => rfl) (fun z H6 Q6 hz m6 q6 => ⟨_, rfl, q6⟩) fun P1 G1 m1 nP eP => ?_
    refine ⟨_, rfl, x, dx, _, rfl, m1 _ _ hx, x, D.ws, D.ds, D.tb, D.ls, rfl, ob.sm m1, is.rows, fun l G2 m2 nl el => ⟨l, D.ds.map V.str, rfl, ?_⟩⟩
    refine dc_refs (F := LstAt idX.rf) (.inr (.inl (.inl el))) is.dnd (by omega) (fun _ => rfl) (fun _ => rfl) LstAt.mono LstAt.put (fun z H9 Q9 hz m9 q9 => ?_) fun R1 G3 rs m3 nR eR pR => ?_
    · exact ⟨_, rfl, by rw [sizeLine_eq]; show 1 ≤ _; omega, fun b nb => q9 b _ (Sm.new nb) upd_same⟩
    have m13 := (m1.trans m2).trans m3
    refine ⟨_, rfl, _, rfl, _, rfl, _, rfl, _, rfl, x, D, rfl, ob.sm m13, is, fun l4 G4 m4 n4 e4 => ⟨l4, (fm D.ls).map V.str, rfl, ?_⟩⟩
    have f9 := fm_few is
    refine dc_strs (f := fun z => z) (.inl (.inl (.inl e4))) (fm_nd _) (by omega) (fun _ => rfl) (fun _ => rfl) (fun z H6 Q6 hz m6 q6 => ⟨_, rfl, q6⟩) fun Y1 G5 m5 nY eY => ?_
    intro c dc nc ndc ne
    have mN := new2 (o := .own c) (u := .ins CC dc []) nc ndc
    have m15 := m13.trans (m4.trans m5)
    have mA := m15.trans mN
    refine ⟨c, dc, x, x, P1, R1, Y1, D, D, idX, D.ws, D.ds, fm D.ls, _, rfl, upd_same, ob.sm mA, is, ob.sm mA, is, idX_ok, mN _ _ (m5 _ _ (m4 _ _ (m3 _ _ (m2 _ _ eP)))), List.Perm.refl _, mN _ _ (m5 _ _ (m4 _ _ eR)), (rows_of pR).sm (m4.trans (m5.trans mN)), List.Perm.refl _, mN _ _ eY, List.Perm.refl _, fun H' sx oc => ⟨rfl, q c H' (m15.trans (make_sm nc ndc sx)) oc⟩⟩
end
end Dk
set_option Elab.async false
set_option linter.all false
set_option maxRecDepth 100000
set_option maxHeartbeats 8000000
namespace Dk
open PySem PySem.Spec PyProof.Rows L2 Er LamX NdefX CmX
open PySem.ErK (EC)
/-! ### joined, without_middle -/
theorem mem_lnk {D M : DkD} {X : ChD} (h : (D, M, X) ∈ lnk [D, M] [X]) : True := trivial
def spWm (K : PySem.W.Frag) (CD CC CB CT CN : Addr) : Sp := fun vs H Q E => ∃ (b : Addr) (xs cs : List Addr) (Ds : List DkD) (Xs : List ChD), vs = [.ref b] ∧ BkOb K CD CC CB H b xs cs Ds Xs ∧ Xs.length + 1 = Ds.length ∧
  ((Ds.length ≠ 3 ∧ Ds.length ≤ 3 ∧ ∀ e G, Sm H G → H e = none → G e = some (.xd [("value", .int 1)]) → E (.ref CN) (some e) G) ∨
   ∃ (D M N : DkD) (X Y : ChD) (n0 : Nat), Ds = [D, M, N] ∧ Xs = [X, Y] ∧ X.Ok D M ∧ Y.Ok M N ∧ (∀ j d, D.ds[j]? = some d → j < n0 → (rowJ X Y d).length ≤ 16) ∧
     (∀ d, D.ds[n0]? = some d → 16 < (rowJ X Y d).length ∧ ∀ e G, Sm H G → H e = none → G e = some (.xd [("deed", .str d)]) → E (.ref CT) (some e) G) ∧
     (D.ds.length ≤ n0 → ∀ c G ys js, Sm H G → BkOb K CD CC CB G c ys js [D, N] [joinX X Y] → Q (.ref c) G))
abbrev nWm : List Str := ["book", "first", "_", "last"]
theorem scWm : FnScope nWm ["book"] (defScope (top 48)) := ⟨rfl, rfl, rfl, by decide +kernel, rfl, by decide +kernel, by decide +kernel⟩
section
variable {P : Program} {w : World} {K : PySem.W.Frag} {mg : Str → Option Value} {base : Heap} {f fI fJ CD CC CB CL CT CN : Addr} {fd dI dJ : FuncData}
theorem ok_jo (F : FnP K "joined" (top 46) f fd) (hC : Cls K CD) (T : ChC K mg CC) (PS_ : Px P w K mg base CD 1 "standings" nSelf (spStd CD)) (PD : Px P w K mg base CD 1 "deeds" nSelf (spDds K CD)) (GA : Fx P w K mg base CX0 3 "all_sights" ["desk"] (spAs K CD))
    (PF : Px P w K mg base CC 1 "first" nSelf (spFi CC)) (PE_ : Px P w K mg base CC 1 "second" nSelf (spSe CC)) (TD : EqC K CD) (QD : Eqx P w K mg base CD 1 (spEqD K CD)) (MC : Mx P w K mg base CX0 CC 2 "carried" nCar (spCar K CD CC)) (ME : Mx P w K mg base CX0 CC 2 "eye" nEye (spEye K CD CC))
    (GJ : Fx P w K mg base (L2.CX P w) 3 "joined_row" ["first", "second", "deed"] (spJr K CD CC CT)) (GC : Cx_ P w K mg base CX0 CC 5 "Change" ["self", "first", "second", "places", "rows", "eyes"] (spChI K CD CC)) (B : Bad K mg "BadLink" "value" (ini (top 15)) CL fI dI) :
    FnOk P w K mg base (L2.CX P w) 7 f fd ["first", "second"] (spJo K CD CC CL CT) := by
  obtain ⟨fR, dR, FR, kR, gR, bR⟩ := GJ
  refine F.ok (CX := L2.CX P w) scJo (fun vs H Q E h => ?_) (fun cdv A outer s H vs Q E hr h => ?_)
  · obtain ⟨c1, c2, D, M, M', N, X, Y, rfl, _⟩ := h
    rfl
  · have GE : FnOk P w K mg base CX0 1 fI dI ["self", "value"] (spErr K "value") := ok_erL B
    refine ⟨_, pss_cons (ps_if (pt_cmpR (op_neX QD TD hr (by decide)) (by exact (pe_px PE_ (pv 0) T.cl hr (by decide) rfl)) (by exact (pe_px PF (pv 1) T.cl hr (by decide) rfl)) (nomark _)) (pss_one (ps_raise rfl (takes_of rfl rfl rfl rfl) (pmk_oex (e := .Name "second" _) (es := []) B.ec.ox B.ec.iC B.ec.tI GE (hr.mono (by decide)) (bErL B) .nil pass0 rfl B.gl (pa_cons (pv 1) pa_nil)))) pss_nil)
      (pss_cons (ps_set (i := 2) scJo.nd rfl (.inl rfl) (by exact (pe_px PF (pv 0) T.cl hr (by decide) rfl)))
      (pss_cons (ps_set (i := 3) scJo.nd rfl (.inl rfl) (by exact (pe_px PE_ (pv 1) T.cl hr (by decide) rfl)))
      (pss_cons (by exact (ps_setDc (i := 4) (own := [("one", 7)]) (g := gName 7) (tt := tYes) (tk := tVar 7) (tv := tMeth CC "carried" (spCar K CD CC) [] E0 (tVar 1) (tCons (tMeth CC "carried" (spCar K CD CC) [] E0 (tVar 0) (tCons (tVar 7) tNil)) tNil)) rfl scJo.nd rfl rfl (sw_dict rfl rfl rfl (by decide +kernel)) (pi_seq (by exact (pe_px PS_ (pv 2) hC hr (by decide) rfl)))
        (blkOk_by (N := nJo) (sc := defScope (top 46)) (by decide +kernel)) (fun _ _ _ _ _ => pg_name (i := 7) scJo.nd rfl (Or.inl rfl)) (fun _ _ _ _ _ => pts_nil) (fun _ _ _ _ _ => by exact (pv 7)) (fun _ _ _ _ _ => by exact (pe_mx MC (by exact (pv 1)) T.cl hr (by decide) (pa_cons (by exact (pe_mx MC (by exact (pv 0)) T.cl hr (by decide) (pa_cons (by exact (pv 7)) pa_nil))) pa_nil)))))
      (pss_cons (by exact (ps_setDcX (E := E) (i := 5) (own := [("deed", 8)]) (g := gName 8) (tt := tYes) (tk := tVar 8) (tv := tCall (spJr K CD CC CT) [] E (tCons (tVar 0) (tCons (tVar 1) (tCons (tVar 8) tNil)))) rfl rfl (takes_of rfl rfl rfl rfl) rfl scJo.nd rfl rfl (sw_dict rfl rfl rfl (by decide +kernel)) (pi_seq (by exact (pe_px PD (pv 2) hC hr (by decide) rfl)))
        (blkOk_by (N := nJo) (sc := defScope (top 46)) (by decide +kernel)) (fun _ _ _ _ _ => pg_name (i := 8) scJo.nd rfl (Or.inl rfl)) (fun _ _ _ _ _ => pts_nil) (fun _ _ _ _ _ => by exact (pv 8)) (fun _ _ _ _ _ => by exact (pe_call FR (hr.mono (by decide)) rfl gR kR bR .nil (passX rfl rfl) (pa_cons (by exact (pv 0)) (pa_cons (by exact (pv 1)) (pa_cons (by exact (pv 8)) pa_nil)))))))
      (pss_cons (by exact (ps_setDc (i := 6) (own := [("sight", 9)]) (g := gName 9) (tt := tYes) (tk := tVar 9) (tv := tMeth CC "eye" (spEye K CD CC) [] E0 (tVar 0) (tCons (tMeth CC "eye" (spEye K CD CC) [] E0 (tVar 1) (tCons (tVar 9) tNil)) tNil)) rfl scJo.nd rfl rfl (sw_dict rfl rfl rfl (by decide +kernel)) (pi_seq (by exact (pe_fx GA hr (by decide) rfl (pa_cons (pv 3) pa_nil))))
        (blkOk_by (N := nJo) (sc := defScope (top 46)) (by decide +kernel)) (fun _ _ _ _ _ => pg_name (i := 9) scJo.nd rfl (Or.inl rfl)) (fun _ _ _ _ _ => pts_nil) (fun _ _ _ _ _ => by exact (pv 9)) (fun _ _ _ _ _ => by exact (pe_mx ME (by exact (pv 0)) T.cl hr (by decide) (pa_cons (by exact (pe_mx ME (by exact (pv 1)) T.cl hr (by decide) (pa_cons (by exact (pv 9)) pa_nil))) pa_nil)))))
      (PSs.nox (pss_one (ps_ret (by exact (pe_cx GC hr (by decide) rfl (pa_cons (pv 2) (pa_cons (pv 3) (pa_cons (pv 4) (pa_cons (pv 5) (pa_cons (pv 6) pa_nil))))))))))))))), ?_⟩
    obtain ⟨c1, c2, D, M, M', N, X, Y, rfl, o1, o2, k1, k2, iD, iM, iM', iN, h⟩ := h
    obtain ⟨dx1, a1, b1, p1, r1, e1, as1, h1, oD, oM, hp1, hr1, rr1, he1⟩ := id o1
    obtain ⟨dx2, a2, b2, p2, r2, e2, as2, h2, oM', oN, hp2, hr2, rr2, he2⟩ := id o2
    obtain ⟨_, _, _, _, _, hxM, _⟩ := id oM
    obtain ⟨_, _, _, _, _, hxM', _⟩ := id oM'
    refine ⟨_, rfl, c1, dx1, _, rfl, h1, c1, dx1, a1, b1, p1, r1, e1, rfl, h1, _, rfl, c2, dx2, _, rfl, h2, c2, dx2, a2, b2, p2, r2, e2, rfl, h2, b1, _, _, rfl, hxM, .own hxM', b1, a2, M, M', rfl, oM, iM, oM', iM', fun H1 m1 => ⟨_, rfl, _, rfl, ?_⟩⟩
    rcases h with ⟨ne, q⟩ | ⟨rfl, n0, hs, hb, q⟩
    · rw [decide_eq_false ne]
      exact iteT ⟨_, rfl, bad_reads B.ec.ox B.ec.noN fun e ne => q e _ (m1.trans (Sm.new ne)) (none_of_sm m1 ne) upd_same⟩
    · rw [decide_eq_true rfl]
      refine iteF ⟨_, rfl, c1, dx1, _, rfl, m1 _ _ h1, c1, dx1, a1, b1, p1, r1, e1, rfl, m1 _ _ h1, ?_⟩
      refine ⟨_, rfl, c2, dx2, _, rfl, m1 _ _ h2, c2, dx2, a2, b2, p2, r2, e2, rfl, m1 _ _ h2, ?_⟩
      obtain ⟨dxD, st, ld, si, asD, hxD, hst, _⟩ := id oD
      have w9 := iD.most
      have d4 := iD.dmost
      refine ⟨_, rfl, a1, dxD, _, rfl, m1 _ _ hxD, a1, dxD, st, ld, si, rfl, m1 _ _ hxD, st, D.ws.map V.str, rfl, ?_⟩
      refine dc_strs (f := (joinX X Y).pf) (.inr (SqT.sm hst m1)) iD.nd (by omega) (fun _ => rfl) (fun _ => rfl) (fun z H6 Q6 hz m6 q6 => ?_) fun P1 G1 m2 nP eP => ?_
      · have mm := m1.trans m6
        exact ⟨_, rfl, c2, dx2, _, rfl, mm _ _ h2, rfl, _, rfl, c1, dx1, _, rfl, mm _ _ h1, rfl, _, rfl, c1, z, D, M, X, rfl, o1.sm mm, hz, c2, X.pf z, M, N, Y, rfl, o2.sm mm, k1.p z hz, q6⟩
      have m12 := m1.trans m2
      refine ⟨_, rfl, a1, dxD, _, rfl, m12 _ _ hxD, a1, D.ws, D.ds, D.tb, D.ls, rfl, oD.sm m12, iD.rows, fun l G2 m3 nl el => ⟨l, D.ds.map V.str, rfl, ?_⟩⟩
      have m13 := m12.trans m3
      refine dc_refsX (F := LstAt (joinX X Y).rf) n0 (.inr (.inl (.inl el))) iD.dnd (by omega) (fun _ => rfl) (fun _ => rfl) LstAt.mono LstAt.put (fun j d H9 Q9 ej jn m9 q9 => ?_) (fun d H9 Q9 ej m9 => ?_) fun R1 G3 rs ln m4 nR eR pR => ?_
      · have mm := m13.trans m9
        exact ⟨_, rfl, _, rfl, _, rfl, c1, c2, d, D, M, N, X, Y, rfl, o1.sm mm, o2.sm mm, k1, k2, List.mem_of_getElem? ej, .inl ⟨hs j d ej jn, fun l G ml el => q9 l G ml el⟩⟩
      · have mm := m13.trans m9
        obtain ⟨h16, qe⟩ := hb d ej
        exact ⟨_, rfl, _, rfl, _, rfl, c1, c2, d, D, M, N, X, Y, rfl, o1.sm mm, o2.sm mm, k1, k2, List.mem_of_getElem? ej, .inr ⟨h16, fun e G me ne ee => qe e G (mm.trans me) (none_of_sm mm ne) ee⟩⟩
      have m14 := m13.trans m4
      refine ⟨_, rfl, b2, N, rfl, oN.sm m14, iN, fun l4 G4 m5 n4 e4 => ⟨l4, (fm N.ls).map V.str, rfl, ?_⟩⟩
      have f9 := fm_few iN
      have m15 := m14.trans m5
      refine dc_strs (f := (joinX X Y).ef) (.inl (.inl (.inl e4))) (fm_nd _) (by omega) (fun _ => rfl) (fun _ => rfl) (fun z H6 Q6 hz m6 q6 => ?_) fun Y1 G5 m6 nY eY => ?_
      · have mm := m15.trans m6
        exact ⟨_, rfl, c1, dx1, _, rfl, mm _ _ h1, rfl, _, rfl, c2, dx2, _, rfl, mm _ _ h2, rfl, _, rfl, c2, z, M, N, Y, rfl, o2.sm mm, hz, c1, Y.ef z, D, M, X, rfl, o1.sm mm, k2.e z hz, q6⟩
      refine ⟨_, rfl, _, rfl, _, rfl, _, rfl, _, rfl, fun c dc nc ndc ne => ?_⟩
      have mN := new2 (o := .own c) (u := .ins CC dc []) nc ndc
      have m16 := m15.trans m6
      have mA := m16.trans mN
      have okJ : (joinX X Y).Ok D N := ⟨fun z hz => k2.p _ (k1.p z hz), fun d hd => ⟨by
        obtain ⟨j, hj⟩ := List.mem_iff_getElem?.mp hd
        exact hs j d hj (Nat.lt_of_lt_of_le (List.getElem?_eq_some_iff.mp hj).1 ln), fun e he => by
        obtain ⟨x, hx, hy⟩ := List.mem_flatMap.mp he
        exact (k2.r x ((k1.r d hd).2 x hx)).2 e hy⟩, fun l hl => k1.e _ (k2.e l hl)⟩
      exact ⟨c, dc, a1, b2, P1, R1, Y1, D, N, joinX X Y, D.ws, D.ds, fm N.ls, _, rfl, upd_same, oD.sm mA, iD, oN.sm mA, iN, okJ, mN _ _ (m6 _ _ (m5 _ _ (m4 _ _ (m3 _ _ eP)))), List.Perm.refl _, mN _ _ (m6 _ _ (m5 _ _ eR)), (rows_of pR).sm (m5.trans (m6.trans mN)), List.Perm.refl _, mN _ _ eY, List.Perm.refl _, fun H' sx oc => ⟨rfl, q ln c H' (m16.trans (make_sm nc ndc sx)) oc⟩⟩
theorem ok_wm (F : FnP K "without_middle" (top 48) f fd) (ml : mg "len" = none) (TB : BkC K mg CB) (PD : Px P w K mg base CB 1 "desks" nSelf (spBkD CB)) (PC : Px P w K mg base CB 1 "changes" nSelf (spBkC CB)) (GJ : Fx P w K mg base (L2.CX P w) 7 "joined" ["first", "second"] (spJo K CD CC CL CT))
    (GB : Cx_ P w K mg base CX0 CB 5 "Book" nBkI (spBkI K CD CC CB)) (B : Bad K mg "BadNumber" "value" (ini (top 14)) CN fI dI) : FnOk P w K mg base (L2.CX P w) 8 f fd ["book"] (spWm K CD CC CB CT CN) := by
  obtain ⟨fR, dR, FR, kR, gR, bR⟩ := GJ
  refine F.ok (CX := L2.CX P w) scWm (fun vs H Q E h => ?_) (fun cdv A outer s H vs Q E hr h => ?_)
  · obtain ⟨b, xs, cs, Ds, Xs, rfl, _⟩ := h
    rfl
  · have GE : FnOk P w K mg base CX0 1 fI dI ["self", "value"] (spErr K "value") := ok_erN B
    refine ⟨_, pss_cons (ps_if (pt_cmpR op_ne (by exact (pe_callB call_len rfl ml boot_len (pa_cons (by exact (pe_px PD (pv 0) TB.cl hr (by decide) rfl)) pa_nil))) pe_int (nomark _)) (pss_one (ps_raise rfl (takes_of rfl rfl rfl rfl) (pmk_oex (e := .Constant (.int 1) _ _) (es := []) B.ec.ox B.ec.iC B.ec.tI GE (hr.mono (by decide)) (bErN B) .nil pass0 rfl B.gl (pa_cons pe_int pa_nil)))) pss_nil)
      (pss_cons (ps_asg (by exact (pe_px PD (pv 0) TB.cl hr (by decide) rfl)) (pg_tup rfl (pgs_cons (pg_name (i := 1) scWm.nd rfl (.inl rfl)) (pgs_cons (pg_name (i := 2) scWm.nd rfl (.inl rfl)) (pgs_cons (pg_name (i := 3) scWm.nd rfl (.inl rfl)) pgs_nil)))))
      (pss_one (ps_ret (by exact (pe_cx GB hr (by decide) rfl (pa_cons (by exact (pe_lst (pa_cons (pv 1) (pa_cons (pv 3) pa_nil)))) (pa_cons (by exact (pe_lst (pa_cons (by exact (pe_call FR hr rfl gR kR bR .nil (passes_call (takes_of rfl rfl rfl rfl) (fun _ _ _ _ h => h)) (pa_cons (by exact (pe_ix ix_tup (by exact (pe_px PC (pv 0) TB.cl hr (by decide) rfl)) pe_int (fun _ _ => rfl))) (pa_cons (by exact (pe_ix ix_tup (by exact (pe_px PC (pv 0) TB.cl hr (by decide) rfl)) pe_int (fun _ _ => rfl))) pa_nil)))) pa_nil))) pa_nil))))))), ?_⟩
    obtain ⟨b, xs, cs, Ds, Xs, rfl, ob, xl, h⟩ := h
    obtain ⟨dx, d, c, v1, v2, hb, hd, ds, hc, chs⟩ := id ob
    have dl := paired_len ds
    refine ⟨_, rfl, b, dx, _, rfl, hb, b, dx, d, c, v1, v2, rfl, hb, .ref d, (xs.map V.ref).length, rfl, Sv.len (.inr hd), rfl, _, rfl, ?_⟩
    rw [List.length_map, dl]
    rcases h with ⟨n3, l3, q⟩ | ⟨D, M, N, X, Y, n0, rfl, rfl, k1, k2, hs, hbad, q⟩
    · rw [show decide (V.int ((Ds.length : Nat) : Int) = V.int 3) = false from decide_eq_false fun z => n3 (by have := V.int.inj z; omega)]
      exact iteT (bad_reads B.ec.ox B.ec.noN fun e ne => q e _ (Sm.new ne) ne upd_same)
    · rw [show decide (V.int ((([D, M, N] : List DkD).length : Nat) : Int) = V.int 3) = true from rfl]
      obtain ⟨x1, x2, x3, rfl⟩ : ∃ x1 x2 x3, xs = [x1, x2, x3] := by
        match xs, dl with
        | [x1, x2, x3], _ => exact ⟨x1, x2, x3, rfl⟩
      obtain ⟨c1, c2, rfl⟩ : ∃ c1 c2, cs = [c1, c2] := by
        match cs, paired_len chs with
        | [c1, c2], _ => exact ⟨c1, c2, rfl⟩
      have od1 := (pair_at ds (j := 0) rfl)
      have od2 := (pair_at ds (j := 1) rfl)
      have od3 := (pair_at ds (j := 2) rfl)
      have oc1 := (pair_at chs (j := 0) rfl)
      have oc2 := (pair_at chs (j := 1) rfl)
      obtain ⟨_, e1, o1⟩ := od1
      obtain ⟨_, e2, o2⟩ := od2
      obtain ⟨_, e3, o3⟩ := od3
      obtain ⟨_, e4, o4⟩ := oc1
      obtain ⟨_, e5, o5⟩ := oc2
      cases Option.some.inj e1
      cases Option.some.inj e2
      cases Option.some.inj e3
      cases Option.some.inj e4
      cases Option.some.inj e5
      refine iteF ⟨_, rfl, b, dx, _, rfl, hb, b, dx, d, c, v1, v2, rfl, hb, d, _, rfl, hd, rfl, _, _, rfl, _, _, rfl, _, _, rfl, rfl, ?_⟩
      refine ⟨_, rfl, _, rfl, by rw [sizeLine_eq]; show 2 ≤ _; omega, fun l nl => ?_⟩
      have m1 := Sm.new (o := .lst [.ref x1, .ref x3]) nl
      have el : upd H l (.lst [.ref x1, .ref x3]) l = some (.lst [.ref x1, .ref x3]) := upd_same
      generalize upd H l (.lst [.ref x1, .ref x3]) = G1 at m1 el ⊢
      refine ⟨_, rfl, b, dx, _, rfl, m1 _ _ hb, b, dx, d, c, v1, v2, rfl, m1 _ _ hb, c, _, 0, _, rfl, rfl, SqT.sm hc m1, rfl, ?_⟩
      refine ⟨_, rfl, b, dx, _, rfl, m1 _ _ hb, b, dx, d, c, v1, v2, rfl, m1 _ _ hb, c, _, 1, _, rfl, rfl, SqT.sm hc m1, rfl, ?_⟩
      refine ⟨c1, c2, D, M, M, N, X, Y, rfl, o4.sm m1, o5.sm m1, k1, k2, o1.2, o2.2, o2.2, o3.2, .inr ⟨rfl, n0, hs, fun d hd => ⟨(hbad d hd).1, fun e G me ne ee => (hbad d hd).2 e G (m1.trans me) (none_of_sm m1 ne) ee⟩, fun ln j G2 m2 oj => ?_⟩⟩
      refine ⟨by rw [sizeLine_eq]; show 1 ≤ _; omega, fun l2 n2 => ?_⟩
      have m3 := Sm.new (o := .lst [.ref j]) n2
      have el2 : upd G2 l2 (.lst [.ref j]) l2 = some (.lst [.ref j]) := upd_same
      generalize upd G2 l2 (.lst [.ref j]) = G3 at m3 el2 ⊢
      intro bb db nb ndb ne
      have mN := new2 (o := .own bb) (u := .ins CB db []) nb ndb
      have m13 := m1.trans (m2.trans m3)
      have mA := m13.trans mN
      exact ⟨bb, db, l, l2, [x1, x3], [j], [D, N], [joinX X Y], rfl, upd_same, .inl (.inl (.inl (mN _ _ (m3 _ _ (m2 _ _ el))))), .cons ⟨o1.1.sm mA, o1.2⟩ (.cons ⟨o3.1.sm mA, o3.2⟩ .nil), (by show 1 ≤ 2; decide), (by show 2 ≤ 3; decide), .inl (.inl (mN _ _ el2)), .cons (oj.sm (m3.trans mN)) .nil, rfl, fun H' sx okb => ⟨rfl, q ln bb H' _ _ (m13.trans (make_sm nb ndb sx)) okb⟩⟩
end
end Dk
set_option Elab.async false
set_option linter.all false
set_option maxRecDepth 100000
set_option maxHeartbeats 8000000
namespace Dk
open PySem PySem.Spec PyProof.Rows L2 Er LamX NdefX CmX
/-! ### the law's pen -/
def Pen (H : Hp) (p g : Addr) : Prop := ∃ (cs : List Int) (i r : Int), g ≠ p ∧ H p = some (.lst [.ref g, .int i, .int r]) ∧ H g = some (.lst (cs.map V.int))
theorem Pen.sm {H G : Hp} {p g : Addr} (h : Pen H p g) (m : Sm H G) : Pen G p g := by
  obtain ⟨cs, i, r, n, h1, h2⟩ := h
  exact ⟨cs, i, r, n, m _ _ h1, m _ _ h2⟩
def spPen (K : PySem.W.Frag) : Sp := fun vs H Q _ => ∃ (a : Addr) (ns : List Int), vs = [.ref a] ∧ SqL K H a (ns.map V.int) ∧ ∀ p g G, Sm H G → Pen G p g → Q (.ref p) G
abbrev nPenF : List Str := ["_law_script"]
theorem scPenF : FnScope nPenF nPenF (defScope (top 50)) := ⟨rfl, rfl, rfl, by decide +kernel, rfl, by decide +kernel, by decide +kernel⟩
def spFresh : Sp := fun vs H Q _ => ∃ p g, vs = [.ref p] ∧ Pen H p g ∧ ∀ r H', Sx p H H' → Pen H' p g → Q (.int r) H'
abbrev nFresh : List Str := ["_law_pen_here", "_law_seat", "_law_given", "_law_cell", "_law_prime", "_law_state", "_law_found", "_law_lap"]
theorem scFresh : FnScope nFresh ["_law_pen_here"] (defScope (top 51)) := ⟨rfl, rfl, rfl, by decide +kernel, rfl, by decide +kernel, by decide +kernel⟩
def spDraw31 : Sp := fun vs H Q _ => ∃ (p g : Addr) (n : Nat), vs = [.ref p, .int n] ∧ Pen H p g ∧ 1 ≤ n ∧ n ≤ 1000 ∧ ∀ (k : Nat) H', k < n → Sx p H H' → Pen H' p g → Q (.int k) H'
abbrev nDraw31 : List Str := ["_law_pen_here", "_law_bound", "_law_digit"]
theorem scDraw31 : FnScope nDraw31 ["_law_pen_here", "_law_bound"] (defScope (top 52)) := ⟨rfl, rfl, rfl, by decide +kernel, rfl, by decide +kernel, by decide +kernel⟩
def spOne : Sp := fun vs H Q _ => ∃ (p g l : Addr) (xs : List V), vs = [.ref p, .ref l] ∧ Pen H p g ∧ H l = some (.lst xs) ∧ l ≠ p ∧ 1 ≤ xs.length ∧ xs.length ≤ 1000 ∧ ∀ (i : Nat) x H', xs[i]? = some x → Sx p H H' → Pen H' p g → Q x H'
abbrev nOne : List Str := ["_law_pen_here", "_law_some"]
theorem scOne : FnScope nOne nOne (defScope (top 53)) := ⟨rfl, rfl, rfl, by decide +kernel, rfl, by decide +kernel, by decide +kernel⟩
def rNeE : R2 := fun x y H Q => ∃ a b xs, x = .ref a ∧ y = .ref b ∧ H a = some (.lst xs) ∧ H b = some (.lst []) ∧ Q (.bl (!xs.isEmpty)) H
theorem op_neE {X : Cx} (hu : X.A.units + 64 < cLine) : OpR X (compareOp .NotEq) rNeE := by
  intro ps s σ H x y v u Q I rx ry h
  obtain ⟨a, b, xs, rfl, rfl, ea, eb, q⟩ := h
  obtain rfl : v = Value.ref a := rx
  obtain rfl : u = Value.ref b := ry
  obtain ⟨_, its, n, rv, ho⟩ := (show ObjOk X.prog X.w H s.heap a (.lst xs) from I.hok a _ ea)
  obtain ⟨_, it2, n2, rv2, ho2⟩ := (show ObjOk X.prog X.w H s.heap b (.lst []) from I.hok b _ eb)
  have l1 : its.toArray.size = xs.length := by rw [List.size_toArray, ← paired_len rv]
  have l2 : it2.toArray.size = 0 := by
    have z := paired_len rv2
    rw [List.size_toArray, ← z]
    rfl
  have L1 : s.heap.IsList a its.toArray := ⟨_, ho, rfl, _, rfl⟩
  have L2 : s.heap.IsList b it2.toArray := ⟨_, ho2, rfl, _, rfl⟩
  cases xs with
  | nil =>
    refine SeqAt.RcNeAt.lists (e := fun _ => true) L1 L2 (by rw [l1, l2]; rfl) (by omega) (fun j h1 h2 => by rw [l2] at h2; omega) X.prog X.w _ _ ?_
    have z : its.toArray.size = 0 := l1
    rw [z]
    exact ⟨.bl false, H, I, rfl, q⟩
  | cons x xs =>
    refine SeqAt.RcNeAt.lists_lengths L1 L2 (by rw [l1, l2]; rfl) (by omega) X.prog X.w _ _ ?_
    exact ⟨.bl true, H, I, rfl, q⟩
theorem ite_bothD {c : Bool} {A : Prop} {T : L2.St → Hp → Prop} {σ : L2.St} {H : Hp} (R : L2.St → Hp → Prop) (hT : ∀ σ' H', R σ' H' → T σ' H') (hA : c = true → (∀ σ' H', R σ' H' → T σ' H') → A) (hB : c = false → R σ H) : if c = true then A else T σ H := by
  cases c with
  | true => exact hA rfl hT
  | false => exact hT _ _ (hB rfl)
theorem at_pos {cs : List Int} {z : Int} (h : 0 < cs.length) : ∃ c : Int, atI (cs.map V.int) (z % (cs.length : Nat)) = some (.int c) := by
  have h1 := Int.emod_nonneg z (show ((cs.length : Nat) : Int) ≠ 0 by omega)
  have h2 := Int.emod_lt_of_pos z (show (0 : Int) < ((cs.length : Nat) : Int) by omega)
  obtain ⟨k, e⟩ := Int.eq_ofNat_of_zero_le h1
  rw [e] at h2 ⊢
  have hk : k < cs.length := by omega
  exact ⟨cs[k]'hk, atI_nat (by rw [List.getElem?_map, List.getElem?_eq_getElem hk]; rfl)⟩
section
variable {P : Program} {w : World} {K : PySem.W.Frag} {mg : Str → Option Value} {base : Heap} {f : Addr} {fd : FuncData}
theorem ok_fresh (F : FnP K "_law_fresh" (top 51) f fd) (mi : mg "int" = none) (ml : mg "len" = none) (mR : mg "range" = none) : FnOk P w K mg base CX0 1 f fd ["_law_pen_here"] spFresh := by
  refine F.ok (CX := CX0) scFresh (fun vs H Q E h => ?_) (fun cdv A outer s H vs Q E hr h => ?_)
  · obtain ⟨p, g, rfl, _⟩ := h
    rfl
  · refine ⟨_, PSs.nox (pss_cons (ps_par (i := 1) (j := 2) rfl scFresh.nd rfl rfl (by decide) rfl rfl (pa_cons (pe_ix ix_list (pv 0) pe_int (fun _ _ => rfl)) (pa_cons (pe_ix ix_list (pv 0) pe_int (fun _ _ => rfl)) pa_nil)) (by rfl))
      (pss_cons (ps_asg (pe_op op_add (pv 1) pe_int) (pg_sub (pv 0) pe_int set_list))
      (pss_cons (ps_set (i := 3) scFresh.nd rfl (.inl rfl) (by exact (pe_ifExp (pt_cmpR (op_neE hr.units) (pv 2) (pe_lst pa_nil) (nomark _)) (by exact (pe_ix ix_list (pv 2) (by exact (pe_op op_mod (pe_i (pv 1) mi) (by exact (pe_callB call_len rfl ml boot_len (pa_cons (pv 2) pa_nil))))) (fun _ _ => rfl))) pe_int)))
      (pss_cons (ps_if (PW.pt (pw_and (pt_cmpR op_lt (pv 1) (by exact (pe_callB call_len rfl ml boot_len (pa_cons (pv 2) pa_nil))) (nomark _)) (pw_and1 (pt_cmpR op_ge (pv 3) (pe_op op_pow pe_int pe_int) (nomark _))))) (pss_one (ps_ret (by exact (pe_op op_sub (pv 3) (pe_op op_pow pe_int pe_int))))) pss_nil)
      (pss_cons (ps_set (i := 4) scFresh.nd rfl (.inl rfl) pe_int)
      (pss_cons (ps_set (i := 5) scFresh.nd rfl (.inl rfl) (by exact (pe_op op_mod (pe_i (pe_op op_add (pe_op op_add (pe_op op_mul (pv 3) pe_int) (pe_op op_mul pe_int (pv 1))) pe_int) mi) (pv 4))))
      (pss_cons (ps_set (i := 6) scFresh.nd rfl (.inl rfl) (pv 5))
      (pss_cons (ps_for PassesOwn.never rfl (pi_range1 rfl mR (pa_cons pe_int pa_nil)) (pg_name (i := 7) scFresh.nd rfl (.inl rfl))
        (pss_cons (ps_set (i := 5) scFresh.nd rfl (.inl rfl) (by exact (pe_op op_mod (pe_i (pe_op op_add (pe_op op_add (pe_op op_mul (pv 5) (pv 5)) (pe_op op_mul (pe_op op_mul pe_int (pe_op op_add (pv 7) pe_int)) (pe_op op_add (pv 1) pe_int))) (pv 3)) mi) (pv 4))))
        (pss_one (ps_set (i := 6) scFresh.nd rfl (.inl rfl) (by exact (pe_op op_add (pe_op op_mul (pv 6) (pv 4)) (pv 5)))))))
      (pss_one (ps_ret (pv 6))))))))))), ?_⟩
    obtain ⟨p, g, rfl, ⟨cs, i, r, gp, hp, hg⟩, q⟩ := h
    have S : SqL K H p [.ref g, .int i, .int r] := .inl (.inl hp)
    have at0 : ∀ {u a2 : Int}, atI [V.ref g, V.int a2, V.int u] 0 = some (.ref g) := atI_nat (j := 0) rfl
    have at1 : ∀ {u a2 : Int}, atI [V.ref g, V.int a2, V.int u] 1 = some (.int a2) := atI_nat (j := 1) rfl
    refine ⟨_, rfl, _, _, _, _, rfl, rfl, S, at1, _, rfl, _, _, _, _, rfl, rfl, S, at0, _, _, rfl, ?_⟩
    refine ⟨_, rfl, _, _, rfl, rfl, _, rfl, _, _, _, 1, rfl, rfl, hp, rfl, ?_⟩
    have s1 : Sx p H (upd H p (.lst [.ref g, .int (i + 1), .int r])) := Sx.upd
    have e1 : (upd H p (.lst [.ref g, .int (i + 1), .int r])) p = some (.lst [.ref g, .int (i + 1), .int r]) := upd_same
    have g1 := s1 _ _ gp hg
    have fin : ∀ {z : Int} {G}, Sm (upd H p (.lst [.ref g, .int (i + 1), .int r])) G → Q (.int z) G := fun {z G} m => q z G (s1.trans (Sx.of m)) ⟨cs, i + 1, r, gp, m _ _ e1, m _ _ g1⟩
    show tNext _ _ (upd H p (.lst [.ref g, .int (i + 1), .int r]))
    generalize upd H p (.lst [.ref g, .int (i + 1), .int r]) = G at s1 e1 g1 fin ⊢
    clear S hp hg
    -- the cell
    have cell : ∀ (R : V → Hp → Prop), (∀ (c : Int) G2, Sm G G2 → R (.int c) G2) → (tIf (tTest (tOp rNeE (tVar 2) (tLst tNil))) (tOp (rIxL K) (tVar 2) (tOp (rI (fun _ j => 0 < j) fun i j => .int (i % j)) (tCB (fun xs H Q => (∃ i, xs = [.int i] ∧ Q (.int i) H) ∨ ∃ k, xs = [.bl k] ∧ Q (.int (if k then 1 else 0)) H) (tCons (tVar 1) tNil)) (tCB (rLen K) (tCons (tVar 2) tNil)))) (tC (.int 0))) [some (.ref p), some (.int i), some (.ref g), none, none, none, none, none] G R := fun R hR => by
      refine ⟨_, rfl, by rw [sizeLine_eq]; show 0 ≤ _; omega, fun l nl => ⟨g, l, cs.map V.int, rfl, rfl, ?_, upd_same, _, rfl, ?_⟩⟩
      · rw [upd_ne (ne_of_none g1 nl)]
        exact g1
      · have mN := Sm.new (o := .lst []) nl
        cases cs with
        | nil => exact hR 0 _ mN
        | cons c cs =>
          obtain ⟨z, ez⟩ := at_pos (cs := c :: cs) (z := i) (by rw [List.length_cons]; omega)
          have S2 : SqL K (upd G l (.lst [])) g ((c :: cs).map V.int) := .inl (.inl (mN _ _ g1))
          exact ⟨_, rfl, _, rfl, .inl ⟨_, rfl, _, rfl, .ref g, (c :: cs).length, rfl, .inl ⟨_, S2, by rw [List.length_map]⟩, _, _, rfl, rfl, by rw [List.length_cons]; omega, _, _, _, _, rfl, rfl, S2, ez, hR z _ mN⟩⟩
    refine cell _ fun c G2 m2 => ?_
    have g2 := m2 _ _ g1
    have len : LenV K (.ref g) G2 cs.length := .inl ⟨_, .inl (.inl g2), by rw [List.length_map]⟩
    have fin2 : ∀ {z : Int}, Q (.int z) G2 := fin m2
    clear cell
    have e18 : (10 : Int) ^ (18 : Int).toNat = 1000000000000000000 := by decide
    have hi61 : ∀ z : Int, 0 ≤ z % 2305843009213693951 ∧ z % 2305843009213693951 < 2305843009213693951 := fun z => ⟨Int.emod_nonneg _ (by decide), Int.emod_lt_of_pos _ (by decide)⟩
    refine ⟨_, rfl, _, rfl, .ref g, cs.length, rfl, len, _, _, rfl, rfl, _, rfl, ?_⟩
    by_cases c1 : i < ((cs.length : Nat) : Int)
    case' pos =>
      rw [decide_eq_true c1]
      refine iteT ⟨_, rfl, _, _, rfl, rfl, ⟨by decide, by decide, by decide⟩, _, _, rfl, rfl, _, rfl, ?_⟩
      by_cases c2 : (10 : Int) ^ (18 : Int).toNat ≤ c
      case pos =>
        rw [decide_eq_true c2]
        exact iteT ⟨_, rfl, _, _, rfl, rfl, ⟨by decide, by decide, by decide⟩, _, _, rfl, rfl, fin2⟩
      rw [decide_eq_false c2]
      refine iteF ?_
    case' neg =>
      rw [decide_eq_false c1]
      refine iteF ?_
      show tNext _ _ G2
    all_goals
      refine ⟨_, rfl, _, _, rfl, rfl, .inr ⟨by decide, by decide⟩, _, rfl, _, _, rfl, rfl, .inl ⟨by decide, by decide⟩, _, _, rfl, rfl, _, _, rfl, rfl, .inl ⟨_, rfl, _, rfl, _, _, rfl, rfl, (by show (0 : Int) < 2305843009213693951; decide), ?_⟩⟩
      have h0 := hi61 (c * 48271 + 60013 * i + 31)
      show tNext _ [some (.ref p), some (.int i), some (.ref g), some (.int c), some (.int 2305843009213693951), some (.int ((c * 48271 + 60013 * i + 31) % 2305843009213693951)), none, none] G2
      generalize (c * 48271 + 60013 * i + 31) % 2305843009213693951 = a at h0 ⊢
      refine ⟨_, rfl, 6, rfl, by decide, by decide, ?_⟩
      refine for_range (lo := 0) (n := 6) (fun j σ G => G = G2 ∧ ∃ (a b : Int) (v : Option V), σ = [some (.ref p), some (.int i), some (.ref g), some (.int c), some (.int 2305843009213693951), some (.int a), some (.int b), v] ∧ 0 ≤ a ∧ a < 2305843009213693951) ⟨rfl, a, a, none, rfl, h0.1, h0.2⟩ ?_ ?_
      · rintro j σ G hj ⟨rfl, a, b, v, rfl, a0, a1⟩
        refine ⟨_, rfl, _, rfl, _, _, rfl, rfl, .inl ⟨by omega, by omega⟩, _, rfl, _, _, rfl, rfl, _, _, rfl, rfl, .inl ⟨by decide, by decide⟩, _, rfl, _, _, rfl, rfl, _, _, rfl, rfl, .inl ⟨by omega, by omega⟩, _, _, rfl, rfl, _, rfl, _, _, rfl, rfl, .inl ⟨_, rfl, _, rfl, _, _, rfl, rfl, (by show (0 : Int) < 2305843009213693951; decide), ?_⟩⟩
        have h2 := hi61 (a * a + 70139 * (0 + (j : Nat) + 5) * (i + 1) + c)
        refine ⟨_, rfl, _, rfl, _, _, rfl, rfl, .inr ⟨by decide, by decide⟩, _, rfl, _, _, rfl, rfl, ?_⟩
        exact ⟨rfl, _, _, _, rfl, h2.1, h2.2⟩
      · rintro σ G ⟨rfl, a, b, v, rfl, _⟩
        exact ⟨_, rfl, fin2⟩
theorem ok_draw31 (F : FnP K "_law_draw" (top 52) f fd) (mi : mg "int" = none) (GF : Fx P w K mg base CX0 1 "_law_fresh" ["_law_pen_here"] spFresh) : FnOk P w K mg base CX0 2 f fd ["_law_pen_here", "_law_bound"] spDraw31 := by
  refine F.ok (CX := CX0) scDraw31 (fun vs H Q E h => ?_) (fun cdv A outer s H vs Q E hr h => ?_)
  · obtain ⟨p, g, n, rfl, _⟩ := h
    rfl
  · refine ⟨_, PSs.nox (pss_cons (ps_if (pt_cmpR op_lt (pe_ix ix_list (pv 0) pe_int (fun _ _ => rfl)) (pv 1) (nomark _)) (pss_one (ps_asg (by exact (pe_fx GF hr (by decide) rfl (pa_cons (pv 0) pa_nil))) (pg_sub (pv 0) pe_int set_list))) pss_nil)
      (pss_cons (ps_set (i := 2) scDraw31.nd rfl (.inl rfl) (pe_op op_mod (pe_i (pe_ix ix_list (pv 0) pe_int (fun _ _ => rfl)) mi) (pv 1)))
      (pss_cons (ps_asg (pe_op op_fdivN (pe_i (pe_ix ix_list (pv 0) pe_int (fun _ _ => rfl)) mi) (pv 1)) (pg_sub (pv 0) pe_int set_list))
      (pss_one (ps_ret (pv 2)))))), ?_⟩
    obtain ⟨p, g, n, rfl, pen, n1, n2, q⟩ := h
    obtain ⟨cs, i, r, gp, hp, hg⟩ := id pen
    have at2 : ∀ {g : Addr} {u a2 : Int}, atI [V.ref g, V.int a2, V.int u] 2 = some (.int u) := atI_nat (j := 2) rfl
    refine ⟨_, rfl, _, _, _, _, rfl, rfl, .inl (.inl hp), at2, _, rfl, _, _, rfl, rfl, _, rfl, ?_⟩
    refine ite_bothD (fun σ G => σ = [some (.ref p), some (.int n), none] ∧ Sx p H G ∧ Pen G p g) ?_ ?_ fun _ => ⟨rfl, Sx.refl _ _, pen⟩
    · rintro σ G ⟨rfl, sx, cs2, i2, r2, gp2, hp2, hg2⟩
      have e0 := Int.emod_nonneg r2 (show ((n : Nat) : Int) ≠ 0 by omega)
      have e1 := Int.emod_lt_of_pos r2 (show (0 : Int) < ((n : Nat) : Int) by omega)
      refine ⟨_, rfl, _, _, _, _, rfl, rfl, .inl (.inl hp2), at2, .inl ⟨_, rfl, _, rfl, _, _, rfl, rfl, by show (0 : Int) < n; omega, ?_⟩⟩
      refine ⟨_, rfl, _, _, _, _, rfl, rfl, .inl (.inl hp2), at2, .inl ⟨_, rfl, _, rfl, _, _, rfl, rfl, ⟨by omega, by omega⟩, _, rfl, _, _, _, 2, rfl, rfl, hp2, rfl, ?_⟩⟩
      refine ⟨_, rfl, ?_⟩
      obtain ⟨k, ek⟩ := Int.eq_ofNat_of_zero_le e0
      show Q (.int (r2 % (n : Int))) (upd G p (.lst [.ref g, .int i2, .int (r2.fdiv (n : Int))]))
      rw [ek]
      rw [ek] at e1
      exact q k _ (by omega) (sx.trans Sx.upd) ⟨cs2, i2, r2.fdiv n, gp2, upd_same, by rw [upd_ne gp2]; exact hg2⟩
    · intro _ back
      refine ⟨_, rfl, p, g, rfl, pen, fun z G sx ⟨cs2, i2, r2, gp2, hp2, hg2⟩ => ⟨_, rfl, _, _, _, 2, rfl, rfl, hp2, rfl, ?_⟩⟩
      exact back _ _ ⟨rfl, sx.trans Sx.upd, cs2, i2, z, gp2, upd_same, by rw [upd_ne gp2]; exact hg2⟩
theorem ok_one (F : FnP K "_law_one_of" (top 53) f fd) (ml : mg "len" = none) (GD : Fx P w K mg base CX0 2 "_law_draw" ["_law_pen_here", "_law_bound"] spDraw31) : FnOk P w K mg base CX0 3 f fd nOne spOne := by
  refine F.ok (CX := CX0) scOne (fun vs H Q E h => ?_) (fun cdv A outer s H vs Q E hr h => ?_)
  · obtain ⟨p, g, l, xs, rfl, _⟩ := h
    rfl
  · refine ⟨_, PSs.nox (pss_one (ps_ret (by exact (pe_ix ix_list (pv 1) (by exact (pe_fx GD hr (by decide) rfl (pa_cons (pv 0) (pa_cons (by exact (pe_callB call_len rfl ml boot_len (pa_cons (pv 1) pa_nil))) pa_nil)))) (fun _ _ => rfl))))), ?_⟩
    obtain ⟨p, g, l, xs, rfl, pen, hl, lp, n1, n2, q⟩ := h
    refine ⟨_, rfl, _, rfl, _, rfl, .ref l, xs.length, rfl, .inl ⟨_, .inl (.inl hl), rfl⟩, p, g, xs.length, rfl, pen, n1, n2, fun k G hk sx pen2 => ?_⟩
    exact ⟨l, xs, k, xs[k]'hk, rfl, rfl, .inl (.inl (sx _ _ lp hl)), atI_nat (List.getElem?_eq_getElem hk), q k _ G (List.getElem?_eq_getElem hk) sx pen2⟩
theorem ok_pen (F : FnP K "_law_pen" (top 50) f fd) (mL : mg "list" = none) : FnOk P w K mg base CX0 1 f fd nPenF (spPen K) := by
  refine F.ok (CX := CX0) scPenF (fun vs H Q E h => ?_) (fun cdv A outer s H vs Q E hr h => ?_)
  · obtain ⟨a, ns, rfl, _⟩ := h
    rfl
  · refine ⟨_, PSs.nox (pss_one (ps_ret (by exact (pe_lst (pa_cons (by exact (pe_callTy call_list_of rfl mL PyProof.Rows.boot_list (pa_cons (by exact (pe_slice sl_list (pv 0) po_none (po_some pe_int))) pa_nil))) (pa_cons pe_int (pa_cons pe_int pa_nil))))))), ?_⟩
    obtain ⟨a, ns, rfl, hs, q⟩ := h
    have ec : ∃ ms : List Int, cutV (ns.map V.int) none (some 63) = ms.map V.int := by
      exact ⟨(ns.drop (HT.sIx (ns.map V.int).length 0 none)).take (HT.sIx (ns.map V.int).length (ns.map V.int).length (some 63) - HT.sIx (ns.map V.int).length 0 none), by unfold cutV; rw [List.map_take, List.map_drop]⟩
    obtain ⟨ms, ec⟩ := ec
    refine ⟨_, rfl, _, rfl, a, ns.map V.int, rfl, hs, fun l1 n1 => ⟨l1, ms.map V.int, rfl, .inl (.inl (.inl (by rw [upd_same, ec]))), fun l2 n2 => ?_⟩⟩
    have m1 := (Sm.new (o := .lst (cutV (ns.map V.int) none (some 63))) n1).trans (Sm.new (o := .lst (ms.map V.int)) n2)
    have e2 : (upd (upd H l1 (.lst (cutV (ns.map V.int) none (some 63)))) l2 (.lst (ms.map V.int))) l2 = some (.lst (ms.map V.int)) := upd_same
    generalize upd (upd H l1 (.lst (cutV (ns.map V.int) none (some 63)))) l2 (.lst (ms.map V.int)) = G at m1 e2 ⊢
    refine ⟨by rw [sizeLine_eq]; show 3 ≤ _; omega, fun p np => ?_⟩
    have mp := Sm.new (o := .lst [.ref l2, .int 0, .int 0]) np
    exact q p l2 _ (m1.trans mp) ⟨ms, 0, 0, (fun z => by rw [z, np] at e2; cases e2), upd_same, mp _ _ e2⟩
end
end Dk
set_option Elab.async false
set_option linter.all false
set_option maxRecDepth 100000
set_option maxHeartbeats 8000000
namespace Dk
open PySem PySem.Spec PyProof.Rows L2 Er LamX NdefX CmX
/-! ### [(name, one_of(pen, some)) for name in names] -/
theorem lc_one {K : PySem.W.Frag} {nm p g l : Addr} {ws xs : List Str} {σ : L2.St} {i : Nat} {H1 : Hp} {Q : Addr → Hp → Prop} {tb tx : TE} (hn : H1 nm = some (.lst (ws.map V.str))) (np : nm ≠ p) (few : ws.length ≤ 1000) (hl : H1 l = some (.lst (xs.map V.str))) (lp : l ≠ p) (x1 : 1 ≤ xs.length) (x2 : xs.length ≤ 1000) (pen : Pen H1 p g)
    (w1 : ∀ v, wipe ((wipe σ [i]).set i (some v)) [i] = wipe σ [i]) (s1 : ∀ v, ((wipe σ [i]).set i (some v))[i]? = some (some v))
    (eb : ∀ v G (R : VK), R (.ref p) G → tb ((wipe σ [i]).set i (some v)) G R) (ex : ∀ v G (R : VK), Sx p H1 G → R (.ref l) G → tx ((wipe σ [i]).set i (some v)) G R)
    (q : ∀ (D : Addr) (ts : List Addr) (vs : List Str) (G : Hp), Sx p H1 G → Pen G p g → H1 D = none → G D = some (.lst (ts.map V.ref)) → Paired (fun t (kv : Key × V) => SqT K G t [kV kv.1, kv.2]) ts (dkv ws (vs.map V.str)) → vs.length = ws.length → (∀ v ∈ vs, v ∈ xs) → Q D G) :
    LcR (tTup (tCons (tVar i) (tCons (tCall spOne [] E0 (tCons tb (tCons tx tNil))) tNil))) σ i H1 Q (Itl K nm) := by
  intro D nD
  obtain ⟨cs0, i0, r0, gp, hp, hg⟩ := id pen
  have Dp : D ≠ p := fun z => by
    rw [z, hp] at nD
    cases nD
  have Dg : D ≠ g := fun z => by
    rw [z, hg] at nD
    cases nD
  refine lc_it (walk_list (xs := ws.map V.str)) (vs := [i]) (g := gName i) (fun j G => ∃ (ts : List Addr) (vs : List Str), G D = some (.lst (ts.map V.ref)) ∧ ts.length = j ∧ vs.length = j ∧ (∀ (k : Nat) (t : Addr), ts[k]? = some t → t ≠ p ∧ t ≠ D ∧ G t = some (.tup [.str (ws.getD k ⟨#[]⟩), (vs.map V.str).getD k .non])) ∧ (∀ v ∈ vs, v ∈ xs) ∧ Sx p H1 G ∧ Pen G p g) ?_ (fun j G _ h => ?_) (fun j x G G' hj h yy => ?_) (fun G h => ?_)
  · exact ⟨[], [], upd_same, rfl, rfl, (fun k t e => by simp at e), (fun v hv => nomatch hv), Sx.of (Sm.new nD), pen.sm (Sm.new nD)⟩
  · obtain ⟨_, _, _, _, _, _, _, sx, _⟩ := h
    exact .inl (.inl (sx _ _ np hn))
  · obtain ⟨ts, vs, eD, tl, vl, tup, good, sx, pen2⟩ := h
    obtain ⟨rfl, exx⟩ := yy
    obtain ⟨z, ez, rfl⟩ := str_atS exx
    refine ⟨w1 _, ?_⟩
    unfold tYes
    dsimp only
    rw [if_pos rfl]
    refine ⟨_, s1 _, eb _ _ _ (ex _ _ _ sx ⟨p, g, l, xs.map V.str, rfl, pen2, sx _ _ lp hl, lp, by rw [List.length_map]; exact x1, by rw [List.length_map]; exact x2, fun k x G2 ekx s2 pen3 => ⟨by rw [sizeLine_eq]; show 2 ≤ _; omega, fun t nt => ?_⟩⟩)⟩
    obtain ⟨y, ey, rfl⟩ := str_atS ekx
    have eD2 := s2 _ _ Dp eD
    have mt := Sm.new (o := .tup [.str z, .str y]) nt
    have et : upd G2 t (.tup [.str z, .str y]) t = some (.tup [.str z, .str y]) := upd_same
    have pen4 := pen3.sm mt
    have sx4 := sx.trans (s2.trans (Sx.of mt))
    have eD4 := mt _ _ eD2
    have tp : t ≠ p := fun e => by
      obtain ⟨_, _, _, _, hp3, _⟩ := pen3
      rw [e, hp3] at nt
      cases nt
    have tD : t ≠ D := fun e => by
      rw [e, eD2] at nt
      cases nt
    have old : ∀ (k : Nat) (u : Addr), ts[k]? = some u → u ≠ p ∧ u ≠ D ∧ upd G2 t (.tup [.str z, .str y]) u = some (.tup [.str (ws.getD k ⟨#[]⟩), (vs.map V.str).getD k .non]) := fun k u e => by
      obtain ⟨a, b, c⟩ := tup k u e
      exact ⟨a, b, mt _ _ (s2 _ _ a c)⟩
    generalize upd G2 t (.tup [.str z, .str y]) = G4 at mt et pen4 sx4 eD4 old ⊢
    have hj2 : j < ws.length := (List.getElem?_eq_some_iff.mp ez).1
    refine ⟨_, eD4, by rw [List.length_map, tl, sizeLine_eq]; omega, ts ++ [t], vs ++ [y], ?_, by rw [List.length_append, tl]; rfl, by rw [List.length_append, vl]; rfl, fun k u e => ?_, fun v hv => ?_, fun b o nb e => ?_, ?_⟩
    · rw [upd_same, List.map_append]
      rfl
    · by_cases c : k < ts.length
      · rw [List.getElem?_append_left c] at e
        obtain ⟨a, b, cc⟩ := old k u e
        refine ⟨a, b, ?_⟩
        rw [upd_ne b, cc, List.map_append, List.getD_eq_getElem?_getD (l := vs.map V.str ++ _), List.getElem?_append_left (by rw [List.length_map]; omega), ← List.getD_eq_getElem?_getD]
      · have kk : k = ts.length := by
          have := (List.getElem?_eq_some_iff.mp e).1
          rw [List.length_append] at this
          have : k < ts.length + 1 := this
          omega
        rw [kk, List.getElem?_append_right (Nat.le_refl _), Nat.sub_self] at e
        obtain rfl : t = u := Option.some.inj e
        refine ⟨tp, tD, ?_⟩
        rw [upd_ne tD, et, kk, tl, List.getD_eq_getElem?_getD (l := ws), ez, List.map_append, List.getD_eq_getElem?_getD, List.getElem?_append_right (by rw [List.length_map]; omega), List.length_map, vl, Nat.sub_self]
        rfl
    · rcases List.mem_append.mp hv with h | h
      · exact good v h
      · rw [List.mem_singleton.mp h]
        exact List.mem_of_getElem? ey
    · rw [upd_ne (ne_of_none e nD)]
      exact sx4 _ _ nb e
    · obtain ⟨cs4, i4, r4, _, hp4, hg4⟩ := pen4
      exact ⟨cs4, i4, r4, gp, by rw [upd_ne (Ne.symm Dp)]; exact hp4, by rw [upd_ne (Ne.symm Dg)]; exact hg4⟩
  · obtain ⟨ts, vs, eD, tl, vl, tup, good, sx, pen2⟩ := h
    rw [List.length_map] at tl vl
    exact q D ts vs G sx pen2 nD eD (pair_dkv tl (by rw [List.length_map, vl]) fun k t e => (tup k t e).2.2) vl good
/-- a drawn desk: as DkAt, a list of three -/
def DkL (H : Hp) (u nm dd sg : Addr) (D : DkD) (as : List Addr) : Prop :=
  H u = some (.lst [.ref nm, .ref dd, .ref sg]) ∧ H nm = some (.lst (D.ws.map V.str)) ∧ H dd = some (.dK (dkv D.ds (as.map V.ref))) ∧ H sg = some (.dK (dkv D.ws (D.ls.map V.str))) ∧ Paired (fun a vs => H a = some (.dK (dkv D.ws (vs.map V.str)))) as D.tb
theorem DkL.sm {H G : Hp} {u nm dd sg : Addr} {D : DkD} {as : List Addr} (h : DkL H u nm dd sg D as) (m : Sm H G) : DkL G u nm dd sg D as := ⟨m _ _ h.1, m _ _ h.2.1, m _ _ h.2.2.1, m _ _ h.2.2.2.1, pair_mono h.2.2.2.2 fun a _ vs e => m _ _ e⟩
end Dk
set_option Elab.async false
set_option linter.all false
set_option maxRecDepth 100000
set_option maxHeartbeats 8000000
namespace Dk
open PySem PySem.Spec PyProof.Rows L2 Er LamX NdefX CmX
/-! ### _law_desk -/
abbrev tDct (K : PySem.W.Frag) (ti : TI) (tb tx : TE) (i : Nat) : TE := tCB (fun xs H Q => ∃ (a : Addr) (ps : List Addr) (kvs : List (Key × V)), xs = [.ref a] ∧ SqL K H a (ps.map V.ref) ∧ Paired (fun p kv => SqT K H p [kV kv.1, kv.2]) ps kvs ∧ ∀ p, H p = none → Q (.ref p) (upd H p (.dK (mergeK [] kvs))))
  (tCons (tLc ti (gName i) tYes (tTup (tCons (tVar i) (tCons (tCall spOne [] E0 (tCons tb (tCons tx tNil))) tNil))) [i]) tNil)
theorem dct_new {H1 G : Hp} {p g a : Addr} {o : HO} (pen : Pen G p g) (s : Sx p H1 G) (na : G a = none) : a ≠ p ∧ H1 a = none ∧ Sx p H1 (upd G a o) ∧ Pen (upd G a o) p g := by
  have ap : a ≠ p := fun z => by
    obtain ⟨_, _, _, _, hp, _⟩ := pen
    rw [z, hp] at na
    cases na
  refine ⟨ap, ?_, s.trans (Sx.of (Sm.new na)), pen.sm (Sm.new na)⟩
  cases e : H1 a with
  | none => rfl
  | some o =>
    rw [s _ _ ap e] at na
    cases na
theorem cut_strs (ws : List Str) (k : Nat) : cutV (ws.map V.str) none (some ((1 : Int) + ((k : Nat) : Int))) = (ws.take (min (1 + k) ws.length)).map V.str := by
  unfold cutV
  rw [HT.sIx_none, show ((1 : Int) + ((k : Nat) : Int)) = ((1 + k : Nat) : Int) from by omega, HT.sIx_nat, List.drop_zero, List.length_map, Nat.sub_zero, List.map_take]
def spDesk31 : Sp := fun vs H Q _ => ∃ (p g : Addr) (m : Nat), vs = [.ref p, .int m] ∧ Pen H p g ∧ 1 ≤ m ∧ m ≤ 4 ∧
  ∀ (u nm dd sg : Addr) (D : DkD) (as : List Addr) H', Sx p H H' → Pen H' p g → u ≠ p → nm ≠ p → dd ≠ p → sg ≠ p → (∀ a ∈ as, a ≠ p) → DkL H' u nm dd sg D as → D.Is → Q (.ref u) H'
abbrev nDesk31 : List Str := ["_law_pen_here", "_law_most", "_law_names", "_law_deeds", "_law_own", "_law_deed", "_law_some", "_law_name"]
theorem scDesk31 : FnScope nDesk31 ["_law_pen_here", "_law_most"] (defScope (top 54)) := ⟨rfl, rfl, rfl, by decide +kernel, rfl, by decide +kernel, by decide +kernel⟩
def five : List Str := ["a", "b", "c", "d", "e"]
def hues : List Str := ["red", "blue", "grey"]
def owns : List (List Str) := [["x", "y", "z"], ["x", "y", "z"], ["carry", "x", "y"], ["y", "carry", "x"]]
section
variable {P : Program} {w : World} {K : PySem.W.Frag} {mg : Str → Option Value} {base : Heap} {f : Addr} {fd : FuncData}
theorem ok_desk31 (F : FnP K "_law_desk" (top 54) f fd) (mi : mg "int" = none) (md : mg "dict" = none) (GD : Fx P w K mg base CX0 2 "_law_draw" ["_law_pen_here", "_law_bound"] spDraw31) (GO : Fx P w K mg base CX0 3 "_law_one_of" nOne spOne) : FnOk P w K mg base CX0 4 f fd ["_law_pen_here", "_law_most"] spDesk31 := by
  refine F.ok (CX := CX0) scDesk31 (fun vs H Q E h => ?_) (fun cdv A outer s H vs Q E hr h => ?_)
  · obtain ⟨p, g, m, rfl, _⟩ := h
    rfl
  · refine ⟨_, PSs.nox (pss_cons (ps_set (i := 2) scDesk31.nd rfl (.inr rfl) (by exact (pe_slice sl_list (pe_lst (pa_cons pe_str (pa_cons pe_str (pa_cons pe_str (pa_cons pe_str (pa_cons pe_str pa_nil)))))) po_none (po_some (by exact (pe_op op_add pe_int (by exact (pe_fx GD hr (by decide) rfl (pa_cons (pv 0) (pa_cons (pv 1) pa_nil))))))))))
      (pss_cons (ps_if (pt_cmpR op_eq (by exact (pe_fx GD hr (by decide) rfl (pa_cons (pv 0) (pa_cons pe_int pa_nil)))) pe_int (nomark _)) (pss_one (ps_set (i := 2) scDesk31.nd rfl (.inr rfl) (by exact (pe_revL (pv 2))))) pss_nil)
      (pss_cons (ps_set (i := 3) scDesk31.nd rfl (.inl rfl) pe_dnewK)
      (pss_cons (ps_set (i := 4) scDesk31.nd rfl (.inl rfl) (by exact (pe_fx GO hr (by decide) rfl (pa_cons (pv 0) (pa_cons (pe_lst (pa_cons (pe_lst (pa_cons pe_str (pa_cons pe_str (pa_cons pe_str pa_nil)))) (pa_cons (pe_lst (pa_cons pe_str (pa_cons pe_str (pa_cons pe_str pa_nil)))) (pa_cons (pe_lst (pa_cons pe_str (pa_cons pe_str (pa_cons pe_str pa_nil)))) (pa_cons (pe_lst (pa_cons pe_str (pa_cons pe_str (pa_cons pe_str pa_nil)))) pa_nil))))) pa_nil)))))
      (pss_cons (ps_for PassesOwn.never rfl (pi_list (by exact (pe_slice sl_list (pv 4) po_none (po_some (by exact (pe_op op_add pe_int (by exact (pe_fx GD hr (by decide) rfl (pa_cons (pv 0) (pa_cons (by exact (pe_op op_add pe_int (by exact (pe_i (by exact (pe_cmpR op_eq (by exact (pe_fx GD hr (by decide) rfl (pa_cons (pv 0) (pa_cons pe_int pa_nil)))) pe_int (nomark _))) mi)))) pa_nil)))))))))) (pg_name (i := 5) scDesk31.nd rfl (.inl rfl))
        (pss_one (ps_dput (hu_of hr) (pv 3) (pv 5) (by exact (pe_callTy (call_dictP rfl) rfl md PyProof.Rows.boot_dict (pa_cons (by exact (pe_lc (own := [("_law_name", 7)]) (g := gName 7) (tt := tYes) (te := tTup (tCons (tVar 7) (tCons (tCall spOne [] E0 (tCons (tVar 0) (tCons (tVar 2) tNil))) tNil))) rfl scDesk31.nd (pi_list (pv 2))
          (blkOk_by (N := nDesk31) (sc := defScope (top 54)) (by decide +kernel)) (fun _ _ _ _ _ => pg_name (i := 7) scDesk31.nd rfl (Or.inl rfl)) (fun _ _ _ _ _ => pts_nil) (fun _ _ _ _ _ => by exact (pe_tup (pa_cons (by exact (pv 7)) (pa_cons (by exact (pe_fx GO hr (by decide) rfl (pa_cons (by exact (pv 0)) (pa_cons (by exact (pv 2)) pa_nil)))) pa_nil)))))) pa_nil))) (by rfl))))
      (pss_cons (ps_set (i := 6) scDesk31.nd rfl (.inr rfl) (by exact (pe_slice sl_list (pe_lst (pa_cons pe_str (pa_cons pe_str (pa_cons pe_str pa_nil)))) po_none (po_some (by exact (pe_op op_add pe_int (by exact (pe_fx GD hr (by decide) rfl (pa_cons (pv 0) (pa_cons pe_int pa_nil))))))))))
      (pss_one (ps_ret (by exact (pe_lst (pa_cons (pv 2) (pa_cons (pv 3) (pa_cons (by exact (pe_callTy (call_dictP rfl) rfl md PyProof.Rows.boot_dict (pa_cons (by exact (pe_lc (own := [("_law_name", 7)]) (g := gName 7) (tt := tYes) (te := tTup (tCons (tVar 7) (tCons (tCall spOne [] E0 (tCons (tVar 0) (tCons (tVar 6) tNil))) tNil))) rfl scDesk31.nd (pi_list (pv 2))
          (blkOk_by (N := nDesk31) (sc := defScope (top 54)) (by decide +kernel)) (fun _ _ _ _ _ => pg_name (i := 7) scDesk31.nd rfl (Or.inl rfl)) (fun _ _ _ _ _ => pts_nil) (fun _ _ _ _ _ => by exact (pe_tup (pa_cons (by exact (pv 7)) (pa_cons (by exact (pe_fx GO hr (by decide) rfl (pa_cons (by exact (pv 0)) (pa_cons (by exact (pv 6)) pa_nil)))) pa_nil)))))) pa_nil))) pa_nil))))))))))))), ?_⟩
    obtain ⟨p, g, m, rfl, pen, m1, m4, q⟩ := h
    have sz : ∀ n : Nat, n ≤ 1000 → n ≤ sizeLine := fun n z => by
      rw [sizeLine_eq]
      omega
    have pn : ∀ {G : Hp} {b : Addr}, Pen G p g → G b = none → b ≠ p := fun {G b} pn nb z => by
      obtain ⟨_, _, _, _, hp, _⟩ := pn
      rw [z, hp] at nb
      cases nb
    refine ⟨sz _ (by show 5 ≤ 1000; decide), fun l5 n5 => ?_⟩
    have a5 := Sm.new (o := .lst (five.map V.str)) n5
    have e5 : upd H l5 (.lst (five.map V.str)) l5 = some (.lst (five.map V.str)) := upd_same
    have p5 := pen.sm a5
    have l5p := pn pen n5
    refine ⟨_, rfl, _, rfl, p, g, m, rfl, p5, m1, by omega, fun k G1 hk s1 pen1 => ⟨_, _, rfl, rfl, _, rfl, l5, five.map V.str, rfl, .inl (.inl (s1 _ _ l5p e5)), fun nm nnm => ?_⟩⟩
    rw [cut_strs]
    have sx1 : Sx p H (upd G1 nm (.lst ((five.take (min (1 + k) five.length)).map V.str))) := (Sx.of a5).trans (s1.trans (Sx.of (Sm.new nnm)))
    have pen2 := pen1.sm (Sm.new (o := .lst ((five.take (min (1 + k) five.length)).map V.str)) nnm)
    have nmp := pn pen1 nnm
    have enm : (upd G1 nm (.lst ((five.take (min (1 + k) five.length)).map V.str))) nm = some (.lst ((five.take (min (1 + k) five.length)).map V.str)) := upd_same
    generalize upd G1 nm (.lst ((five.take (min (1 + k) five.length)).map V.str)) = G2 at sx1 pen2 enm ⊢
    have gw : 1 ≤ (five.take (min (1 + k) five.length)).length ∧ (five.take (min (1 + k) five.length)).length ≤ 9 ∧ (five.take (min (1 + k) five.length)).Nodup ∧ ∀ z ∈ five.take (min (1 + k) five.length), IsWord z := by
      refine ⟨?_, ?_, (show five.Nodup by decide).sublist (List.take_sublist _ _), fun z hz => (show ∀ z ∈ five, IsWord z by decide +kernel) z (List.mem_of_mem_take hz)⟩
      · rw [List.length_take]
        show 1 ≤ min (min (1 + k) 5) 5
        omega
      · rw [List.length_take]
        show min (min (1 + k) 5) 5 ≤ 9
        omega
    generalize five.take (min (1 + k) five.length) = ws1 at gw enm
    clear nnm s1 pen1 a5 e5 p5 l5p n5 pen
    refine ⟨_, rfl, p, g, 4, rfl, pen2, by decide, by decide, fun k2 G3 hk2 s2 pen3 => ⟨rfl, _, rfl, ?_⟩⟩
    refine ite_bothD (fun σ G => ∃ (nm : Addr) (ws : List Str), σ = [some (.ref p), some (.int m), some (.ref nm), none, none, none, none, none] ∧ Sx p H G ∧ Pen G p g ∧ nm ≠ p ∧ G nm = some (.lst (ws.map V.str)) ∧ (1 ≤ ws.length ∧ ws.length ≤ 9 ∧ ws.Nodup ∧ ∀ z ∈ ws, IsWord z)) ?_ ?_ fun _ => ⟨nm, ws1, rfl, sx1.trans s2, pen3, nmp, s2 _ _ nmp enm, gw⟩
    · rintro σ G ⟨nm, ws, rfl, sx, pen, nmp, enm, w1, w9, wnd, ww⟩
      clear gw pen2 pen3 s2
      intro dd ndd
      have add_ := Sm.new (o := .dK []) ndd
      have edd : upd G dd (.dK []) dd = some (.dK []) := upd_same
      have ddp := pn pen ndd
      have ddH : H dd = none := by
        cases e : H dd with
        | none => rfl
        | some o =>
          rw [sx _ _ ddp e] at ndd
          cases ndd
      have pen := pen.sm add_
      have sx := sx.trans (Sx.of add_)
      have enm := add_ _ _ enm
      generalize upd G dd (.dK []) = G1 at edd pen sx enm add_ ⊢
      have ddn : dd ≠ nm := fun z => by
        rw [z, enm] at edd
        cases edd
      -- own
      refine ⟨_, rfl, sz _ (by show 3 ≤ 1000; decide), fun b1 n1 => ⟨sz _ (by show 3 ≤ 1000; decide), fun b2 n2 => ⟨sz _ (by show 3 ≤ 1000; decide), fun b3 n3 => ⟨sz _ (by show 3 ≤ 1000; decide), fun b4 n4 => ⟨sz _ (by show 4 ≤ 1000; decide), fun lo nlo => ?_⟩⟩⟩⟩⟩
      have t1 := Sm.new (o := .lst [.str "x", .str "y", .str "z"]) n1
      have t2 := Sm.new (o := .lst [.str "x", .str "y", .str "z"]) n2
      have t3 := Sm.new (o := .lst [.str "carry", .str "x", .str "y"]) n3
      have t4 := Sm.new (o := .lst [.str "y", .str "carry", .str "x"]) n4
      have t5 := Sm.new (o := .lst [.ref b1, .ref b2, .ref b3, .ref b4]) nlo
      have u1 := t5 _ _ (t4 _ _ (t3 _ _ (t2 _ _ (show upd G1 b1 (.lst [.str "x", .str "y", .str "z"]) b1 = some (.lst [.str "x", .str "y", .str "z"]) from upd_same))))
      have u2 := t5 _ _ (t4 _ _ (t3 _ _ (show upd (upd G1 b1 (.lst [.str "x", .str "y", .str "z"])) b2 (.lst [.str "x", .str "y", .str "z"]) b2 = some (.lst [.str "x", .str "y", .str "z"]) from upd_same)))
      have u3 := t5 _ _ (t4 _ _ (show upd (upd (upd G1 b1 (.lst [.str "x", .str "y", .str "z"])) b2 (.lst [.str "x", .str "y", .str "z"])) b3 (.lst [.str "carry", .str "x", .str "y"]) b3 = some (.lst [.str "carry", .str "x", .str "y"]) from upd_same))
      have u4 := t5 _ _ (show upd (upd (upd (upd G1 b1 (.lst [.str "x", .str "y", .str "z"])) b2 (.lst [.str "x", .str "y", .str "z"])) b3 (.lst [.str "carry", .str "x", .str "y"])) b4 (.lst [.str "y", .str "carry", .str "x"]) b4 = some (.lst [.str "y", .str "carry", .str "x"]) from upd_same)
      have u5 : (upd (upd (upd (upd (upd G1 b1 (.lst [.str "x", .str "y", .str "z"])) b2 (.lst [.str "x", .str "y", .str "z"])) b3 (.lst [.str "carry", .str "x", .str "y"])) b4 (.lst [.str "y", .str "carry", .str "x"])) lo (.lst [.ref b1, .ref b2, .ref b3, .ref b4])) lo = some (.lst [.ref b1, .ref b2, .ref b3, .ref b4]) := upd_same
      have tt := t1.trans (t2.trans (t3.trans (t4.trans t5)))
      have b1p := pn pen n1
      have b2p := pn (pen.sm t1) n2
      have b3p := pn (pen.sm (t1.trans t2)) n3
      have b4p := pn (pen.sm (t1.trans (t2.trans t3))) n4
      have lop := pn (pen.sm (t1.trans (t2.trans (t3.trans t4)))) nlo
      clear t1 t2 t3 t4 t5
      show spOne _ (upd (upd (upd (upd (upd G1 b1 (.lst [.str "x", .str "y", .str "z"])) b2 (.lst [.str "x", .str "y", .str "z"])) b3 (.lst [.str "carry", .str "x", .str "y"])) b4 (.lst [.str "y", .str "carry", .str "x"])) lo (.lst [.ref b1, .ref b2, .ref b3, .ref b4])) _ E0
      generalize (upd (upd (upd (upd (upd G1 b1 (.lst [.str "x", .str "y", .str "z"])) b2 (.lst [.str "x", .str "y", .str "z"])) b3 (.lst [.str "carry", .str "x", .str "y"])) b4 (.lst [.str "y", .str "carry", .str "x"])) lo (.lst [.ref b1, .ref b2, .ref b3, .ref b4])) = G2 at u1 u2 u3 u4 u5 tt ⊢
      refine ⟨p, g, lo, _, rfl, pen.sm tt, u5, lop, by show 1 ≤ 4; decide, by show 4 ≤ 1000; decide, fun i x G3 ei s3 pen3 => ?_⟩
      have ow : ∃ (a : Addr) (own : List Str), x = .ref a ∧ G3 a = some (.lst (own.map V.str)) ∧ a ≠ p ∧ own ∈ owns := by
        match i, ei with
        | 0, ei => exact ⟨b1, ["x", "y", "z"], (Option.some.inj ei).symm, s3 _ _ b1p u1, b1p, by decide⟩
        | 1, ei => exact ⟨b2, ["x", "y", "z"], (Option.some.inj ei).symm, s3 _ _ b2p u2, b2p, by decide⟩
        | 2, ei => exact ⟨b3, ["carry", "x", "y"], (Option.some.inj ei).symm, s3 _ _ b3p u3, b3p, by decide⟩
        | 3, ei => exact ⟨b4, ["y", "carry", "x"], (Option.some.inj ei).symm, s3 _ _ b4p u4, b4p, by decide⟩
        | n + 4, ei => exact absurd ei (by simp)
      obtain ⟨ow, own, rfl, eow, owp, own4⟩ := ow
      have sx := sx.trans ((Sx.of tt).trans s3)
      have enm := s3 _ _ nmp (tt _ _ enm)
      have edd := s3 _ _ ddp (tt _ _ edd)
      clear u1 u2 u3 u4 u5 b1p b2p b3p b4p lop s3 tt ei add_ n1 n2 n3 n4 nlo pen
      have gown : own.length = 3 ∧ own.Nodup ∧ ∀ z ∈ own, IsWord z := (show ∀ o ∈ owns, o.length = 3 ∧ o.Nodup ∧ ∀ z ∈ o, IsWord z by decide +kernel) own own4
      refine ⟨_, rfl, _, rfl, _, rfl, p, g, 4, rfl, pen3, by decide, by decide, fun k3 G4 hk3 s4 pen4 => ⟨rfl, .inr ⟨_, rfl, _, _, rfl, rfl, ?_⟩⟩⟩
      obtain ⟨n, n2, n3, en⟩ : ∃ n : Nat, 2 ≤ n ∧ n ≤ 3 ∧ (2 : Int) + (if decide (V.int ((k3 : Nat) : Int) = V.int 0) = true then 1 else 0) = (n : Int) := by
        by_cases c : decide (V.int ((k3 : Nat) : Int) = V.int 0) = true
        · exact ⟨3, by decide, by decide, by rw [if_pos c]; rfl⟩
        · exact ⟨2, by decide, by decide, by rw [if_neg c]; rfl⟩
      refine ⟨p, g, n, by show [V.ref p, V.int ((2 : Int) + _)] = _; rw [en], pen4, by omega, by omega, fun k4 G5 hk4 s5 pen5 => ⟨_, _, rfl, rfl, _, rfl, ow, own.map V.str, rfl, .inl (.inl (s5 _ _ owp (s4 _ _ owp eow))), fun dl ndl => ⟨dl, rfl, ⟨_, .inl (.inl upd_same)⟩, ?_⟩⟩⟩
      rw [cut_strs]
      have a6 := Sm.new (o := .lst ((own.take (min (1 + k4) own.length)).map V.str)) ndl
      have edl : (upd G5 dl (.lst ((own.take (min (1 + k4) own.length)).map V.str))) dl = some (.lst ((own.take (min (1 + k4) own.length)).map V.str)) := upd_same
      have dlp := pn pen5 ndl
      have pen6 := pen5.sm a6
      have enm6 := a6 _ _ (s5 _ _ nmp (s4 _ _ nmp enm))
      have edd6 := a6 _ _ (s5 _ _ ddp (s4 _ _ ddp edd))
      have sx6 := sx.trans (s4.trans (s5.trans (Sx.of a6)))
      generalize upd G5 dl (.lst ((own.take (min (1 + k4) own.length)).map V.str)) = G6 at a6 edl pen6 enm6 edd6 sx6 ⊢
      have gd : 1 ≤ (own.take (min (1 + k4) own.length)).length ∧ (own.take (min (1 + k4) own.length)).length ≤ 4 ∧ (own.take (min (1 + k4) own.length)).Nodup ∧ ∀ z ∈ own.take (min (1 + k4) own.length), IsWord z := by
        refine ⟨?_, ?_, gown.2.1.sublist (List.take_sublist _ _), fun z hz => gown.2.2 z (List.mem_of_mem_take hz)⟩
        · rw [List.length_take, gown.1]
          omega
        · rw [List.length_take, gown.1]
          omega
      generalize own.take (min (1 + k4) own.length) = ds at gd edl ⊢
      clear a6 ndl pen5 s5 pen4 s4 pen3 eow sx pen own4 gown
      have dld : dl ≠ dd := fun z => by
        rw [z, edd6] at edl
        cases edl
      refine for_list (K := K) (a := dl) (xs := ds.map V.str) (fun i σ H' => ∃ (as : List Addr) (tb : List (List Str)) (v5 : Option V), σ = [some (.ref p), some (.int m), some (.ref nm), some (.ref dd), some (.ref ow), v5, none, none] ∧
        as.length = i ∧ tb.length = i ∧ H' dd = some (.dK (dkv (ds.take i) (as.map V.ref))) ∧ Paired (fun a vs => H' a = some (.dK (dkv ws (vs.map V.str)))) as tb ∧ (∀ a ∈ as, a ≠ p ∧ a ≠ dd) ∧ (∀ vs ∈ tb, vs.length = ws.length ∧ ∀ z ∈ vs, z ∈ ws) ∧
        H' nm = some (.lst (ws.map V.str)) ∧ H' dl = some (.lst (ds.map V.str)) ∧ Sx p H H' ∧ Pen H' p g) ?_ ?_ ?_ ?_
      · exact ⟨[], [], none, rfl, rfl, rfl, edd6, .nil, (fun a ha => nomatch ha), (fun a ha => nomatch ha), enm6, edl, sx6, pen6⟩
      · rintro i σ H' _ ⟨as, tb, v5, rfl, al, bl, ed, pr, ap, tp, enm, edl, mm, pen⟩
        exact .inl (.inl edl)
      · rintro i y σ H' hi ⟨as, tb, v5, rfl, al, bl, ed, pr, ap, tp, enm, edl, mm, pen⟩
        obtain ⟨d, ed0, rfl⟩ := str_atS hi
        have il := (List.getElem?_eq_some_iff.mp ed0).1
        refine ⟨_, rfl, nm, rfl, ⟨_, .inl (.inl enm)⟩, ?_⟩
        refine lc_one (K := K) (i := 7) (σ := [some (.ref p), some (.int m), some (.ref nm), some (.ref dd), some (.ref ow), some (.str d), none, none]) (tb := tVar 0) (tx := tVar 2) enm nmp (by omega) enm nmp w1 (by omega) pen (fun _ => rfl) (fun _ => rfl) (fun v G R h => ⟨_, rfl, h⟩) (fun v G R _ h => ⟨_, rfl, h⟩) fun D0 ts vs G0 s0 pen0 nD0 eD0 prD vl vg => ⟨D0, ts, dkv ws (vs.map V.str), rfl, .inl (.inl eD0), prD, fun a na0 => ?_⟩
        rw [dkv_merge (by rw [List.length_map, vl]) wnd]
        obtain ⟨ap7, na, s7, pen7⟩ := dct_new (o := .dK (dkv ws (vs.map V.str))) pen0 s0 na0
        have e7 : upd G0 a (.dK (dkv ws (vs.map V.str))) a = some (.dK (dkv ws (vs.map V.str))) := upd_same
        generalize upd G0 a (.dK (dkv ws (vs.map V.str))) = G7 at s7 pen7 e7 ⊢
        have adn : a ≠ dd := fun z => by
          rw [z, ed] at na
          cases na
        have ed7 := s7 _ _ ddp ed
        have tk : ds.take (i + 1) = ds.take i ++ [d] := by
          rw [List.take_add_one, ed0]
          rfl
        have il2 : (ds.take i).length = i := by
          rw [List.length_take]
          omega
        have pk : putK (dkv (ds.take i) (as.map V.ref)) (.inr d) (.ref a) = dkv (ds.take (i + 1)) ((as ++ [a]).map V.ref) := by
          rw [tk]
          exact put_dkv (by omega) (by rw [← tk]; exact gd.2.2.1.sublist (List.take_sublist _ _))
        have keep : ∀ b o, H' b = some o → b ≠ p → b ≠ dd → (upd G7 dd (.dK (dkv (ds.take (i + 1)) ((as ++ [a]).map V.ref)))) b = some o := fun b o e n1 n2 => by
          rw [upd_ne n2]
          exact s7 _ _ n1 e
        refine ⟨_, rfl, _, rfl, dd, _, rfl, DPut.k (k := .inr d) ed7 (by rw [dkv_len (by rw [List.length_map]; omega), sizeLine_eq]; omega), as ++ [a], tb ++ [vs], _, rfl, by rw [List.length_append, al]; rfl, by rw [List.length_append, bl]; rfl, ?_, ?_, ?_, ?_, ?_, ?_, ?_, ?_⟩
        · rw [upd_same, pk]
        · rw [pk]
          refine pair_more (pair_mono pr fun b hb vs e => keep b _ e (ap b hb).1 (ap b hb).2) ?_
          rw [upd_ne adn]
          exact e7
        · intro b hb
          rcases List.mem_append.mp hb with h | h
          · exact ap b h
          · rw [List.mem_singleton.mp h]
            exact ⟨ap7, adn⟩
        · intro us hu
          rcases List.mem_append.mp hu with h | h
          · exact tp us h
          · rw [List.mem_singleton.mp h]
            exact ⟨vl, vg⟩
        · rw [pk]
          exact keep _ _ enm nmp (Ne.symm ddn)
        · rw [pk]
          exact keep _ _ edl dlp dld
        · intro b o nb e
          by_cases c : b = dd
          · rw [c] at e
            rw [ddH] at e
            cases e
          · rw [upd_ne c]
            exact s7 _ _ nb (mm _ _ nb e)
        · obtain ⟨cs7, i7, r7, gp, hp7, hg7⟩ := pen7
          exact ⟨cs7, i7, r7, gp, by rw [upd_ne (Ne.symm ddp)]; exact hp7, by rw [upd_ne (fun z => by rw [z, ed7] at hg7; cases hg7)]; exact hg7⟩
      · rintro σ H' ⟨as, tb, v5, rfl, al, bl, ed, pr, ap, tp, enm, edl, mm, pen⟩
        rw [List.length_map] at al bl ed
        rw [List.take_length] at ed
        refine ⟨sz _ (by show 3 ≤ 1000; decide), fun l3 n3 => ?_⟩
        have a3 := Sm.new (o := .lst (hues.map V.str)) n3
        have e3 : upd H' l3 (.lst (hues.map V.str)) l3 = some (.lst (hues.map V.str)) := upd_same
        have l3p := pn pen n3
        have pen3 := pen.sm a3
        refine ⟨_, rfl, p, g, 3, rfl, pen3, by decide, by decide, fun k5 G1 hk5 s1 pen1 => ⟨_, _, rfl, rfl, _, rfl, l3, hues.map V.str, rfl, .inl (.inl (s1 _ _ l3p e3)), fun sm nsm => ?_⟩⟩
        rw [cut_strs]
        have smp := pn pen1 nsm
        have sB : Sx p H' (upd G1 sm (.lst ((hues.take (min (1 + k5) hues.length)).map V.str))) := (Sx.of a3).trans (s1.trans (Sx.of (Sm.new nsm)))
        have pen2 := pen1.sm (Sm.new (o := .lst ((hues.take (min (1 + k5) hues.length)).map V.str)) nsm)
        have esm : (upd G1 sm (.lst ((hues.take (min (1 + k5) hues.length)).map V.str))) sm = some (.lst ((hues.take (min (1 + k5) hues.length)).map V.str)) := upd_same
        generalize upd G1 sm (.lst ((hues.take (min (1 + k5) hues.length)).map V.str)) = G2 at sB pen2 esm ⊢
        have gh : 1 ≤ (hues.take (min (1 + k5) hues.length)).length ∧ (hues.take (min (1 + k5) hues.length)).length ≤ 1000 ∧ ∀ z ∈ hues.take (min (1 + k5) hues.length), IsWord z := by
          refine ⟨?_, ?_, fun z hz => (show ∀ z ∈ hues, IsWord z by decide +kernel) z (List.mem_of_mem_take hz)⟩
          · rw [List.length_take]
            show 1 ≤ min (min (1 + k5) 3) 3
            omega
          · rw [List.length_take]
            show min (min (1 + k5) 3) 3 ≤ 1000
            omega
        generalize hues.take (min (1 + k5) hues.length) = hs at gh esm
        clear nsm s1 pen1 a3 e3 l3p n3 pen3
        have enm2 := sB _ _ nmp enm
        refine ⟨_, rfl, _, rfl, _, rfl, nm, rfl, ⟨_, .inl (.inl enm2)⟩, ?_⟩
        refine lc_one (K := K) (i := 7) (σ := [some (.ref p), some (.int m), some (.ref nm), some (.ref dd), some (.ref ow), v5, some (.ref sm), none]) (tb := tVar 0) (tx := tVar 6) enm2 nmp (by omega) esm smp gh.1 gh.2.1 pen2 (fun _ => rfl) (fun _ => rfl) (fun v G R h => ⟨_, rfl, h⟩) (fun v G R _ h => ⟨_, rfl, h⟩) fun D0 ts vs G0 s0 pen0 nD0 eD0 prD vl vg => ⟨D0, ts, dkv ws (vs.map V.str), rfl, .inl (.inl eD0), prD, fun sg nsg => ⟨sz _ (by show 3 ≤ 1000; decide), fun u nu => ?_⟩⟩
        rw [dkv_merge (by rw [List.length_map, vl]) wnd] at nu ⊢
        obtain ⟨sgp, nsg2, s7, pen7⟩ := dct_new (o := .dK (dkv ws (vs.map V.str))) pen0 s0 nsg
        have e7 : upd G0 sg (.dK (dkv ws (vs.map V.str))) sg = some (.dK (dkv ws (vs.map V.str))) := upd_same
        generalize upd G0 sg (.dK (dkv ws (vs.map V.str))) = G7 at s7 pen7 e7 nu ⊢
        have au := Sm.new (o := .lst [.ref nm, .ref dd, .ref sg]) nu
        have s8 := sB.trans (s7.trans (Sx.of au))
        exact q u nm dd sg ⟨ws, ds, tb, vs⟩ as _ (mm.trans s8) (pen7.sm au) (pn pen7 nu) nmp ddp sgp (fun a ha => (ap a ha).1) ⟨upd_same, s8 _ _ nmp enm, s8 _ _ ddp ed, au _ _ e7, pair_mono pr fun b hb us e => s8 _ _ (ap b hb).1 e⟩
          ⟨w1, w9, wnd, ww, gd.1, gd.2.1, gd.2.2.1, gd.2.2.2, bl, tp, vl, fun z hz => gh.2.2 z (vg z hz)⟩
    · intro _ back
      refine ⟨_, rfl, nm, ws1.map V.str, rfl, .inl (.inl (s2 _ _ nmp enm)), fun l nl => ?_⟩
      refine back _ _ ⟨l, ws1.reverse, rfl, sx1.trans (s2.trans (Sx.of (Sm.new nl))), pen3.sm (Sm.new nl), pn pen3 nl, by rw [upd_same, List.map_reverse], by rw [List.length_reverse]; exact gw.1, by rw [List.length_reverse]; exact gw.2.1, List.pairwise_reverse.mpr (gw.2.2.1.imp fun h => Ne.symm h), fun z hz => gw.2.2.2 z (List.mem_reverse.mp hz)⟩
end
end Dk
set_option Elab.async false
set_option linter.all false
set_option maxRecDepth 100000
set_option maxHeartbeats 4000000
/-! {e for x in ..}, the members of any one kind -/
namespace ScX
open PySem PySem.Spec PyProof.Rows L2 PpSet
abbrev bareSet (w : World) : Obj := { cls := .type "set", dict := none, data := .set #[] 0 (.fresh 0 0 (!w.params.followText "set-order")) }
/-- a way to speak of sets: the empty one, and one more in it -/
structure Way (κ : Type) [DecidableEq κ] where
  SO : Program → World → Addr → (κ → Bool) → Nat → HO
  v : κ → V
  bare : ∀ (P : Program) (w : World) (H : Hp) (h : Heap), ObjOk P w H (h.push (bareSet w)) h.objs.size (SO P w h.objs.size (fun _ => false) 0)
  put : ∀ (Y : Cx) (ps : List (Addr × Obj)) (σ : L2.St) (H : Hp) (s : Shared) (E : Value → Shared → Prop) (D : Addr) (S : κ → Bool) (n : Nat) (k : κ) (u : Value) (Q : Value → Shared → Prop), Inv Y ps σ H s → H D = some (SO Y.prog Y.w D S n) → n + 1 < scanBound → RelV (v k) u →
    (∀ s2, Inv Y ps σ (upd H D (SO Y.prog Y.w D (fun j => S j || decide (j = k)) (if S k = true then n else n + 1))) s2 → Q .none s2) → wpAny (model Y.prog Y.w) Y.A (call (.builtin "set.add") [.ref D, u]) Q E s
/-- what is asked of the walk -/
abbrev Turns {κ : Type} [DecidableEq κ] (Wy : Way κ) (P : Program) (w : World) (g : TG) (tt : TT) (te : TE) (vs : List Nat) (σ : L2.St) (D : Addr) (H1 : Hp) (Q : VK) (J : It) : Prop :=
  ∃ U : Nat → Nat → Hp → Prop, (∃ m, U 0 m (upd H1 D (Wy.SO P w D (fun _ => false) 0))) ∧ ∀ i m H, U i m H → (J.stop i H ∧ Q (.ref D) H) ∨ (J.go i H ∧ ∃ Nx : Hp → Prop, (∀ H2, Nx H2 → ∃ m2, m2 < m ∧ U (i + 1) m2 H2) ∧
    ∀ x H2, J.yld i H x H2 → g x (wipe σ vs) H2 fun σ3 H3 => wipe σ3 vs = wipe σ vs ∧ tt σ3 H3 fun b H4 =>
      if b = true then te σ3 H4 fun y H5 => ∃ (k : κ) (S : κ → Bool) (n : Nat), y = Wy.v k ∧ H5 D = some (Wy.SO P w D S n) ∧ n + 1 < scanBound ∧ Nx (upd H5 D (Wy.SO P w D (fun j => S j || decide (j = k)) (if S k = true then n else n + 1))) else Nx H4)
def tScX {κ : Type} [DecidableEq κ] (Wy : Way κ) (P : Program) (w : World) (wi : TI) (g : TG) (tt : TT) (te : TE) (vs : List Nat) : TE := fun σ H Q => wi σ H fun J H1 => ∀ D, H1 D = none → Turns Wy P w g tt te vs σ D H1 Q J
section
variable {X : Cx} {κ : Type} [DecidableEq κ] {Wy : Way κ}
theorem pe_scX {elt tg iter : Expr} {ifs : List Expr} {scope : Scope} {own : List (Str × Nat)} {pos : Pos} {wi : TI} {g : TG} {tt : TT} {te : TE} (hc : X.calm = true) (hN : X.N.Nodup) (hi : PI X tg iter wi) (ok : BlkOk X.N X.env.scope scope own)
    (hg : ∀ (s : Shared) (H : Hp) (C : Addr) (cl : List (Str × Addr)) (fp : List Addr), PG (X.blk s H scope (compEnvC scope cl C X.env) fp) tg g)
    (ht : ∀ (s : Shared) (H : Hp) (C : Addr) (cl : List (Str × Addr)) (fp : List Addr), PTs (X.blk s H scope (compEnvC scope cl C X.env) fp) ifs tt)
    (he : ∀ (s : Shared) (H : Hp) (C : Addr) (cl : List (Str × Addr)) (fp : List Addr), PE (X.blk s H scope (compEnvC scope cl C X.env) fp) elt te)
    (hs : ∀ x, foldedSetIterable iter X.env x = pure x := by intro _; rfl) :
    PE X (.SetComp elt [⟨tg, iter, ifs, 0⟩] scope pos) (tScX Wy X.prog X.w wi g tt te (own.map (·.2))) := by
  refine ⟨fun pins s σ H Q I h => ?_⟩
  rw [eval_SetComp]
  have fr : ∀ y ∈ scope.names, y.2 = .free → ∃ c, X.env.cells.lookup y.1 = some c := fun y hy e => by
    rcases ok.free y hy e with z | z
    · exact I.ok.has _ (.inl z)
    · exact I.ok.has _ (.inr z)
  refine wpAny_comprehension_free (use := none) rfl hs (closure_ok fr) ok.kind (fun y hy e => by rw [ok.uniq y hy, e]) (thn (hi.run pins s σ H _ I h) fun xv s1 q1 => thn q1 fun iv s2 q2 => ?_)
  obtain ⟨it, fp, tn, J, H2, rfl, I2, T, st2, f2, q⟩ := q2
  refine newSet_ok (newEnv_comp ?_)
  have nD : H2 s2.heap.objs.size = none := I2.hok.fresh (Nat.le_refl _)
  obtain ⟨U, ⟨m0, u0⟩, turn⟩ := q _ nD
  have I3 : Inv X pins σ (upd H2 s2.heap.objs.size (Wy.SO X.prog X.w s2.heap.objs.size (fun _ => false) 0)) { s2 with heap := s2.heap.push (bareSet X.w) } :=
    I2.laid (t' := s2.toks) (fun b o e => Heap.get?_push_of_some _ e) (Nat.le_refl _) (Wy.bare X.prog X.w _ s2.heap)
  have k3 : ∀ b o, s2.heap.get? b = some o → (s2.heap.push (bareSet X.w)).get? b = some o := fun b o e => Heap.get?_push_of_some _ e
  have z3 : (s2.heap.push (bareSet X.w)).objs.size = s2.heap.objs.size + 1 := Heap.size_push _ _
  generalize hD : s2.heap.objs.size = D at nD turn u0 I3 z3
  generalize hs3 : ({ s2 with heap := s2.heap.push (bareSet X.w) } : Shared) = s3 at I3
  have e3 : s3.heap = s2.heap.push (bareSet X.w) := by rw [← hs3]
  have f3 : ∀ b ∈ fp, FpOk X pins (upd H2 D (Wy.SO X.prog X.w D (fun _ => false) 0)) b ∧ b < s3.heap.objs.size := fun b hb => by
    obtain ⟨o, eo, _⟩ := T.obj _ _ st2 b hb
    have lt : b < D := hD ▸ Heap.lt_size eo
    refine ⟨⟨?_, (f2 b hb).2⟩, by rw [e3, z3]; exact Nat.lt_succ_of_lt lt⟩
    rw [upd_ne (Nat.ne_of_lt lt)]
    exact (f2 b hb).1
  have st3 : tn 0 s3.heap := T.keep _ _ _ st2 fun b _ o e => by
    rw [e3]
    exact k3 b o e
  have I4 := block_start I3 ok hN f3
  have pg := hg s3 (upd H2 D (Wy.SO X.prog X.w D (fun _ => false) 0)) s3.heap.objs.size (cellsFrom (s3.heap.objs.size + 1) scope.names (cloFrom X.env.cells scope.names [])) fp
  have pt := ht s3 (upd H2 D (Wy.SO X.prog X.w D (fun _ => false) 0)) s3.heap.objs.size (cellsFrom (s3.heap.objs.size + 1) scope.names (cloFrom X.env.cells scope.names [])) fp
  have pe := he s3 (upd H2 D (Wy.SO X.prog X.w D (fun _ => false) 0)) s3.heap.objs.size (cellsFrom (s3.heap.objs.size + 1) scope.names (cloFrom X.env.cells scope.names [])) fp
  show codeAny _ _ (.compStart (.SetComp elt [⟨tg, iter, ifs, 0⟩] scope pos) 0 (.ref it) (.ref D) (compEnvC scope (cellsFrom (s3.heap.objs.size + 1) scope.names (cloFrom X.env.cells scope.names [])) s3.heap.objs.size X.env))
    (compPost (model X.prog X.w) X.A X.xe none (EP X pins σ Q) (.ref D) s3.heap.objs.size) { s3 with heap := pushCells (s3.heap.push { cls := .type "dict", data := .dict #[] }) scope.names }
  generalize hce : compEnvC scope (cellsFrom (s3.heap.objs.size + 1) scope.names (cloFrom X.env.cells scope.names [])) s3.heap.objs.size X.env = ce at I4 pg pt pe ⊢
  have cL : ce.locals = s3.heap.objs.size := by rw [← hce]; rfl
  have nfp : ∀ b ∈ fp, (upd H2 D (Wy.SO X.prog X.w D (fun _ => false) 0)) b = none := fun b hb => (f3 b hb).1.1
  generalize upd H2 D (Wy.SO X.prog X.w D (fun _ => false) 0) = H3 at I3 I4 pg pt pe u0 nfp f3
  generalize hs4 : ({ s3 with heap := pushCells (s3.heap.push { cls := .type "dict", data := .dict #[] }) scope.names } : Shared) = s4 at I4 ⊢
  have st4 : tn 0 s4.heap := T.keep _ _ _ st3 fun b _ o e => by
    rw [← hs4]
    exact pushCells_keeps _ _ _ _ (Heap.get?_push_of_some _ e)
  have at_ : ∀ {σ2 : L2.St} {Hx : Hp} {sx : Shared}, Inv (X.blk s3 H3 scope ce fp) [] σ2 Hx sx → (∀ b ∈ fp, Hx b = none) → ∀ b ∈ fp, FpOk (X.blk s3 H3 scope ce fp) [] Hx b := fun {σ2 Hx sx} Ix nx b hb =>
    ⟨nx b hb, (Ix.ok.exf b hb).1, Ix.ok.exfs b hb, .inl hb, fun x c e => (Ix.ok.exf b hb).2 x c e, fun p hp => nomatch (show p ∈ ([] : List (Addr × Obj)) from hp)⟩
  refine codeAny_compStart_set ?lp (T.self X.A 0 _ _ _ st4 ?lp)
  refine compLoopS_any (fun n sx => ∃ i Hx, Inv (X.blk s3 H3 scope ce fp) [] (wipe σ (own.map (·.2))) Hx sx ∧ tn i sx.heap ∧ (∀ b ∈ fp, Hx b = none) ∧ U i n Hx) ?_ m0 ⟨0, H3, I4, st4, nfp, u0⟩
  rintro n s5 ⟨i, H5, I5, st5, n5, u5⟩
  rcases turn i n H5 u5 with ⟨stop, fin⟩ | ⟨go, Nx, hNx, step⟩
  · refine thnF (T.done (X.blk s3 H3 scope ce fp) rfl rfl rfl hc i [] s5 _ H5 (fun _ _ => False) I5 (at_ I5 n5) st5 stop) fun r s6 ⟨er, I6⟩ => ?_
    subst er
    have I7 : Inv X pins σ H5 s6 := I3.call' (ch := fp) I6.os I6.base I6.hok I6.bare fun b hb => ⟨(f3 b hb).1.2.2.2.1, (f3 b hb).1.2.1, (f3 b hb).1.2.2.2.2.1, (f3 b hb).1.2.2.2.2.2⟩
    have nC : H5 s3.heap.objs.size = none := cL ▸ (show H5 ce.locals = none from I6.free)
    obtain ⟨m, hm, _⟩ := I6.loc
    have hm : s6.heap.Ns s3.heap.objs.size m := cL ▸ (show s6.heap.Ns ce.locals m from hm)
    obtain ⟨g0, g1, g2, g3, g4, g5⟩ := I3.fpOk (Nat.le_refl _) nC
    exact ⟨m, hm, fun h9 sb => ⟨.ref D, H5, I7.turned (t' := s6.toks) (fun b o hb e => (sb.2 b hb).trans e) g0 g1 g3 g4 g5, rfl, fin⟩⟩
  · refine thnF (T.item (X.blk s3 H3 scope ce fp) rfl rfl rfl hc i [] s5 _ H5 (fun _ _ => False) I5 (at_ I5 n5) st5 go) fun r s6 ⟨u, er, h6⟩ => ?_
    subst er
    refine thnF h6 fun _ s7 ⟨x, H7, I7, r7, y7, st7, n7⟩ => ?_
    refine thnF (pg.run _ s7 _ H7 x u _ (I7.pinned (at_ I7 n7) (T.obj _ _ st7)) r7 (step x H7 y7)) fun _ s8 ⟨σ8, H8, I8, w8, q8⟩ => ?_
    refine thnF (pt.run _ s8 σ8 H8 _ I8 q8) fun b s9 ⟨H9, I9, q9⟩ => ?_
    have back : ∀ {sx : Shared} {Hx : Hp}, Inv (X.blk s3 H3 scope ce fp) ([] ++ pinsAt fp s7.heap) σ8 Hx sx → Nx Hx → ∃ m, m < n ∧ ∃ i Hx, Inv (X.blk s3 H3 scope ce fp) [] (wipe σ (own.map (·.2))) Hx sx ∧ tn i sx.heap ∧ (∀ b ∈ fp, Hx b = none) ∧ U i m Hx := fun {sx Hx} Ix nx => by
      obtain ⟨m2, lt2, u2⟩ := hNx Hx nx
      have pin : ∀ b ∈ fp, ∀ o, s7.heap.get? b = some o → sx.heap.get? b = some o ∧ Hx b = none := fun b hb o e =>
        ⟨(Ix.pin (b, o) (List.mem_append_right _ (List.mem_append_right _ (mem_pinsAt hb e)))).1, (Ix.pin (b, o) (List.mem_append_right _ (List.mem_append_right _ (mem_pinsAt hb e)))).2.1⟩
      refine ⟨m2, lt2, i + 1, Hx, (Ix.unpinned (pins := [])).weak (by rw [← w8, wipe_length]) (fun j v e => ?_), T.keep _ _ _ st7 fun b hb o e => (pin b hb o e).1, fun b hb => ?_, u2⟩
      · rw [← w8] at e
        exact (wipe_some e).1
      · obtain ⟨o, e, _⟩ := T.obj _ _ st7 b hb
        exact (pin b hb o e).2
    cases b with
    | false =>
      rw [if_neg (by decide)] at q9 ⊢
      exact back I9 q9
    | true =>
      rw [if_pos rfl] at q9 ⊢
      refine thnF (pe.run _ s9 σ8 H9 _ I9 q9) fun z s10 ⟨yv, H10, I10, r10, k, S0, n0, ey, hD10, room, nx⟩ => ?_
      subst ey
      exact Wy.put (X.blk s3 H3 scope ce fp) _ _ _ _ _ D S0 n0 k z _ I10 hD10 room r10 fun s11 I11 => back I11 nx
end
/-- sets of ints -/
def wayI : Way Int where
  SO := fun _ w a S n => SetO w a S n
  v := V.int
  bare := fun P w H h => setO_new (setR_fresh w)
  put := fun Y ps σ H s E D S n k u Q I hD room r q => by
    obtain ⟨tk, rfl⟩ := r
    refine setR_add (setO_get I hD) room fun h2 sb new => q _ (I.write (e := D) (t' := s.toks + 1) (by rw [hD]; trivial) (.inl rfl) (fun b u hb hu => (sb.2 b hb).trans hu) ?_ (setO_new new))
    obtain ⟨o, _, _, _, ho, _⟩ := new
    exact ⟨o, ho⟩
end ScX
set_option Elab.async false
set_option linter.all false
set_option maxRecDepth 100000
set_option maxHeartbeats 4000000
/-! sorted(set(xs)), xs a list of texts: the set with all that its walk asks -/
namespace TxSet
open PySem PySem.Spec PyProof.Rows L2
def txt (e : Int × Value) : Str := match e.2 with | .str k _ => k | _ => Str.empty
def Row (w : World) (e : Int × Value) : Prop := ∃ k t, e.2 = Value.str k t ∧ e.1 = hashStr w k
/-- the set at a: ks its members -/
def Tx (w : World) (h : Heap) (a : Addr) (ks : List Str) : Prop := ∃ o es ep t, h.get? a = some o ∧ o.ExactSet ∧ o.data = .set es ep t ∧ (∀ e ∈ es.toList, Row w e) ∧ (es.toList.map txt).Perm ks ∧ ks.Nodup ∧ es.size < scanBound ∧
  t.fits es.size = true ∧ Ris t.place.toList ∧ (w.params.followText "set-order" = true ∨ t.led = true)
section
variable {P : Program} {w : World} {A : Around} {E : Value → Shared → Prop} {s : Shared} {a : Addr} {ks : List Str} {k : Str} {tk : Tok}
theorem Tx.at {h h2 : Heap} (x : Tx w h a ks) (q : ∀ o, h.get? a = some o → h2.get? a = some o) : Tx w h2 a ks := by
  obtain ⟨o, es, ep, t, ho, r⟩ := x
  exact ⟨o, es, ep, t, q o ho, r⟩
theorem Tx.perm {h : Heap} {ls : List Str} (x : Tx w h a ks) (p : ks.Perm ls) : Tx w h a ls := by
  obtain ⟨o, es, ep, t, ho, hx, hd, g, pm, nd, r⟩ := x
  exact ⟨o, es, ep, t, ho, hx, hd, g, pm.trans p, p.nodup_iff.mp nd, r⟩
theorem elems {l : List (Int × Value)} (g : ∀ e ∈ l, Row w e) : ElemsOf (PySem.strKind P w) l := fun e he => by
  obtain ⟨k, t, h1, h2⟩ := g e he
  exact ⟨⟨k, by rw [h1]; exact strKind_is _ _ _ _, h2⟩, by rw [h1]; rfl⟩
theorem is_iff {e : Int × Value} (g : Row w e) : (PySem.strKind P w).is k e.2 = true ↔ txt e = k := by
  obtain ⟨k0, t, h1, _⟩ := g
  unfold txt
  rw [h1]
  show (Value.isStrOf k (.str k0 t) = true) ↔ k0 = k
  simp [Value.isStrOf]
theorem mem_iff {l : List (Int × Value)} (g : ∀ e ∈ l, Row w e) : k ∈ l.map txt ↔ ∃ e ∈ l, (PySem.strKind P w).is k e.2 = true := by
  rw [List.mem_map]
  exact ⟨fun ⟨e, he, q⟩ => ⟨e, he, (is_iff (g e he)).mpr q⟩, fun ⟨e, he, q⟩ => ⟨e, he, (is_iff (g e he)).mp q⟩⟩
/-- what is left to do once the new row is laid -/
theorem tail_ok {f : Bool → Sem Unit} (hf : ∀ (b : Bool) (s2 : Shared) (Q : Unit → Shared → Prop), Q () s2 → wpAny (model P w) A (f b) Q E s2) {o : Obj} {es es1 : Array (Int × Value)} {ep : Nat} {t t1 : SetTable} (ho : s.heap.get? a = some o) (hx : o.ExactSet) (hd : o.data = .set es ep t)
    (g1 : ∀ e ∈ es1.toList, Row w e) (pm : (es1.toList.map txt).Perm ks) (nd : ks.Nodup) (few : es1.size < scanBound) (fit : t1.fits es1.size = true) (ris : Ris t1.place.toList) (led : w.params.followText "set-order" = true ∨ t1.led = true) {dm : Bool} {Q : Option Bool → Shared → Prop}
    (q : ∀ h2, Heap.SameBut a s.heap h2 → Tx w h2 a ks → Q (some true) { s with heap := h2 }) :
    wpAny (model P w) A (do
      storeSet a es1 t1
      if (!dm && t1.tooFull) = true then do
        f (relayAll t1 es1 (SetTable.grown es1.size)).2.2
        storeSet a (relayAll t1 es1 (SetTable.grown es1.size)).1 (relayAll t1 es1 (SetTable.grown es1.size)).2.1
        pure (some true)
      else pure (some true)) Q E s := by
  have put : ∀ {h : Heap} {o2 : Obj} {es2 : Array (Int × Value)} {ep2 : Nat} {t2 : SetTable} (es3 : Array (Int × Value)) (t3 : SetTable), h.get? a = some o2 → o2.data = .set es2 ep2 t2 → (h.update a (Obj.putSet es3 t3)).get? a = some { o2 with data := .set es3 (ep2 + 1) t3 } := fun {h o2 es2 ep2 t2} es3 t3 e1 e2 => by
    have z := Heap.get?_update_self (Obj.putSet es3 t3) e1 (by rw [putSet_of es3 t3 e2]; rfl)
    rw [putSet_of es3 t3 e2] at z
    exact z
  refine wpAny_bind (wpAny_storeSet_of ho hd ?_ (fits_of_scanBound few))
  have ho1 := put es1 t1 ho hd
  have b1 := Heap.SameBut.update s.heap a (Obj.putSet es1 t1)
  by_cases c : (!dm && t1.tooFull) = true
  · rw [if_pos c]
    have p2 := relayAll_perm t1 es1 (SetTable.grown es1.size)
    have fit2 := relayAll_fits t1 es1 (SetTable.grown es1.size)
    have ris2 := relayAll_ris t1 es1 (SetTable.grown es1.size)
    have led2 := relayAll_led t1 es1 (SetTable.grown es1.size)
    generalize relayAll t1 es1 (SetTable.grown es1.size) = Z at p2 fit2 ris2 led2 ⊢
    obtain ⟨es2, t2, gv⟩ := Z
    have sz : es2.size = es1.size := by
      have := p2.length_eq
      rw [Array.length_toList, Array.length_toList] at this
      exact this
    refine wpAny_bind (hf _ _ _ (wpAny_bind (wpAny_storeSet_of ho1 rfl ?_ (fits_of_scanBound (sz ▸ few)))))
    refine wpAny_pure (q _ (b1.trans (Heap.SameBut.update _ a _)) ⟨_, es2, _, t2, put es2 t2 ho1 rfl, hx, rfl, fun e he => g1 e (p2.mem_iff.mp he), (p2.map txt).trans pm, nd, sz ▸ few, fit2, ris2, ?_⟩)
    rcases led with z | z
    · exact .inl z
    · exact .inr (led2.trans z)
  · rw [if_neg c]
    exact wpAny_pure (q _ b1 ⟨_, es1, _, t1, ho1, hx, rfl, g1, pm, nd, few, fit, ris, led⟩)
/-- one more text -/
theorem add_ok {Q : Bool → Shared → Prop} (R : Tx w s.heap a ks) (few : ks.length + 1 < scanBound) (q : ∀ h2, Heap.SameBut a s.heap h2 → Tx w h2 a (if k ∈ ks then ks else ks ++ [k]) → Q (!decide (k ∈ ks)) { s with heap := h2 }) :
    wpAny (model P w) A (setAddHashed a (.str k tk) ((PySem.strKind P w).hash k)) Q E s := by
  obtain ⟨o, es, ep, t, ho, hx, hd, g, pm, nd, hb, fit, ris, led⟩ := R
  have el : ElemsOf (PySem.strKind P w) es.toList := elems g
  have ky : (PySem.strKind P w).is k (.str k tk) = true := strKind_is _ _ _ _
  have sc : (Value.str k tk).scannable = true := rfl
  unfold setAddHashed setAddHashedIn
  refine wpAny_holding (wpAny_bind (wpAny_setState_of ho hd fit ?_))
  dsimp only
  rw [byScan_of sc hb el, if_pos rfl]
  unfold setAddByScan
  refine wpAny_bind (wpAny_bind (wpAny_rule (wpAny_bind (wpAny_setScan_of ky ho hd fit el ?_))))
  cases fi : List.findIdx? (fun e => (PySem.strKind P w).is k e.2) es.toList with
  | some j =>
    obtain ⟨hj, pj, _⟩ := List.findIdx?_eq_some_iff_getElem.mp fi
    have mk : k ∈ ks := pm.mem_iff.mp ((mem_iff (P := P) g).mpr ⟨es.toList[j], List.getElem_mem hj, pj⟩)
    dsimp only
    refine wpAny_pure (wpAny_pure ?_)
    have z := q s.heap (Heap.SameBut.refl a s.heap) (by rw [if_pos mk]; exact ⟨o, es, ep, t, ho, hx, hd, g, pm, nd, hb, fit, ris, led⟩)
    rw [decide_eq_true mk] at z
    exact z
  | none =>
    have nk : k ∉ ks := fun z => by
      obtain ⟨e, he, y⟩ := (mem_iff (P := P) g).mp (pm.mem_iff.mpr z)
      have c := List.findIdx?_eq_none_iff.mp fi e he
      rw [y] at c
      cases c
    dsimp only
    have pn := layNew_perm t es ((PySem.strKind P w).hash k) (.str k tk)
    have fit1 := layNew_fits t es ((PySem.strKind P w).hash k) (.str k tk)
    have ris1 := layNew_ris t es ((PySem.strKind P w).hash k) (.str k tk) ris
    have led1 := layNew_led t es ((PySem.strKind P w).hash k) (.str k tk)
    generalize layNew t es ((PySem.strKind P w).hash k) (.str k tk) = Z at pn fit1 ris1 led1 ⊢
    obtain ⟨es1, t1, wd, gv⟩ := Z
    dsimp only at pn fit1 ris1 led1 ⊢
    rw [Array.toList_push] at pn
    have g1 : ∀ e ∈ es1.toList, Row w e := fun e he => by
      rcases List.mem_append.mp (pn.mem_iff.mp he) with z | z
      · exact g e z
      · rw [List.mem_singleton.mp z]
        exact ⟨k, tk, rfl, rfl⟩
    have pm1 : (es1.toList.map txt).Perm (ks ++ [k]) := by
      have z := pn.map txt
      rw [List.map_append] at z
      exact z.trans (pm.append (List.Perm.refl [k]))
    have nd1 : (ks ++ [k]).Nodup := List.nodup_append.mpr ⟨nd, by simp, fun x hx y hy e => nk (by rw [← List.mem_singleton.mp hy, ← e]; exact hx)⟩
    have sz : es1.size = ks.length + 1 := by
      have z := pm1.length_eq
      rw [List.length_map, Array.length_toList, List.length_append] at z
      exact z
    have few1 : es1.size < scanBound := sz ▸ few
    have led2 : w.params.followText "set-order" = true ∨ t1.led = true := by
      rcases led with z | z
      · exact .inl z
      · exact .inr (led1.trans z)
    have fin : ∀ h2, Heap.SameBut a s.heap h2 → Tx w h2 a (ks ++ [k]) → Q true { s with heap := h2 } := fun h2 sb r => by
      have z := q h2 sb (by rw [if_neg nk]; exact r)
      rw [decide_eq_false nk] at z
      exact z
    have gw : ∀ (b : Bool) (s2 : Shared) (Q2 : Unit → Shared → Prop), Q2 () s2 → wpAny (model P w) A (match b with | true => rule "set.scan.the-table-gave-way" | false => pure ()) Q2 E s2 :=
      fun b s2 Q2 z => by cases b <;> first | exact wpAny_pure z | exact wpAny_rule z
    refine wpAny_bind (gw _ _ _ ?_)
    split
    · refine wpAny_bind ?_
      rw [hashByValue_scannable 8 sc]
      refine wpAny_pure (tail_ok ?_ ho hx hd g1 pm1 nd1 few1 ?_ ?_ ?_ fun h2 sb r => ?_)
      · intro b s2 Q2 z
        cases b <;> first | exact wpAny_pure z | exact wpAny_rule z
      · first | (split <;> first | exact fit1 | exact SetTable.fits_plain_off fit1) | exact fit1
      · first | (split <;> exact ris1) | exact ris1
      · first | (split <;> exact led2) | exact led2
      · dsimp only
        exact wpAny_pure (fin h2 sb r)
    · refine wpAny_bind (wpAny_pure ?_)
      simp only [↓reduceIte]
      refine tail_ok ?_ ho hx hd g1 pm1 nd1 few1 fit1 ris1 led2 fun h2 sb r => ?_
      · intro b s2 Q2 z
        cases b <;> first | exact wpAny_pure z | exact wpAny_rule z
      · dsimp only
        exact wpAny_pure (fin h2 sb r)
end
end TxSet
set_option Elab.async false
set_option linter.all false
set_option maxRecDepth 100000
set_option maxHeartbeats 4000000
namespace TxSet
open PySem PySem.Spec PyProof.Rows L2 DkSet
section
variable {prog : Program} {w : World} {A : Around} {R : Result → Shared → Prop} {I : Addr} {fp wr : List Addr} {G : Array GenState → Array GenState → Prop} {n : Nat} {P : Nat → Value → Prop} {St : Nat → Shared → Prop}
/-- the loop of set(..), over texts -/
theorem loop_ok (W : WalksS prog w A.in1 I fp wr G n P St) (S : Addr) (out : S ∉ fp) (xs : List Str) (len : xs.length = n) (few : n + 1 < scanBound) (val : ∀ i v, P i v → ∃ t, v = .str (xs.getD i Str.empty) t) :
    ∀ (left i : Nat) (s : Shared), i + left = n → St i s → Tx w s.heap S (metOf (xs.take i)) → (∀ s2, Moved (S :: wr) G s s2 → Tx w s2.heap S (metOf xs) → R (.ok (.ret .none)) s2) →
      codeAny (model prog w) A (.builtin "set.update.loop" ⟨[.ref S, .ref I], []⟩) R s := by
  have nw : S ∉ wr := fun h => out (W.sub _ h)
  intro left
  induction left with
  | zero =>
    intro i s e st hs fin
    obtain rfl : i = n := e
    rw [← len, List.take_length] at hs
    refine codeAny_builtin PyProof.Rows.F.entry_set_update_loop ?_
    rw [Around.under_plainId PyProof.Rows.F.plain_set_update_loop _]
    show wpAny _ A.in1 (pyNext (.ref I) >>= _) _ _ s
    exact wpAny_bind (W.done s _ _ st fun s2 m => wpAny_pure (fin s2 (m.mono fun b => List.mem_cons_of_mem _) (hs.at fun o => m.heap S o nw)))
  | succ left ih =>
    intro i s e st hs fin
    have il : i < n := by omega
    have tk : xs.take (i + 1) = xs.take i ++ [xs.getD i Str.empty] := by
      rw [List.take_add_one, List.getD_eq_getElem?_getD, List.getElem?_eq_getElem (by omega)]
      rfl
    refine codeAny_builtin PyProof.Rows.F.entry_set_update_loop ?_
    rw [Around.under_plainId PyProof.Rows.F.plain_set_update_loop _]
    show wpAny _ A.in1 (pyNext (.ref I) >>= _) _ _ s
    refine wpAny_bind (W.item i s _ _ il st fun v s2 hv st2 m => ?_)
    obtain ⟨t, rfl⟩ := val i v hv
    have hs2 : Tx w s2.heap S (metOf (xs.take i)) := hs.at fun o => m.heap S o nw
    show wpAny _ A.in1 (holding [Value.str (xs.getD i Str.empty) t] (setAdd S (.str (xs.getD i Str.empty) t)) >>= _) _ _ s2
    refine wpAny_bind (wpAny_holding ?_)
    unfold setAdd
    refine wpAny_holding (wpAny_bind ((PySem.strKind prog w).pyHash (k := xs.getD i Str.empty) (strKind_is _ _ _ _) ?_))
    have few2 : (metOf (xs.take i)).length + 1 < scanBound := by
      have a := met_le (xs.take i)
      rw [List.length_take] at a
      omega
    refine add_ok (s := { s2 with toks := s2.toks + 1 }) hs2 few2 fun h2 same got => ?_
    rw [← met_more, ← tk] at got
    refine wpAny_pure ⟨plainId_quiet PyProof.Rows.F.plain_set_update_loop _, ih (i + 1) _ (by omega) (W.frame _ s2 _ _ st2 (Nat.le_succ _) fun b hb o eb => ?_) got fun s3 m3 hs3 => ?_⟩
    · rw [same.2 b fun z => out (z ▸ hb)]
      exact eb
    · refine fin s3 (Moved.trans W.gtrans ((m.mono fun b => List.mem_cons_of_mem _).then_heap (Nat.le_succ _) fun b o hb eb => ?_) m3) hs3
      rw [same.2 b fun z => hb (z ▸ List.mem_cons_self)]
      exact eb
end
section
variable {prog : Program} {w : World} {A : Around} {E : Value → Shared → Prop} {s : Shared}
theorem fresh_tx {h : Heap} : Tx w (h.push (ScX.bareSet w)) h.objs.size [] :=
  ⟨_, #[], 0, _, Heap.get?_push_size _ rfl, ⟨rfl, rfl, rfl⟩, rfl, (fun e he => by simp at he), List.Perm.refl _, List.nodup_nil, (by decide), (by rfl), List.Pairwise.nil, by
    show _ ∨ (!w.params.followText "set-order") = true
    cases w.params.followText "set-order"
    · exact .inr rfl
    · exact .inl rfl⟩
/-- set(xs), its order told -/
theorem call_tx {l : Addr} {items : Array Value} {d : Option Addr} {nl : Nat} {sl : Array (Option Value)} {xs : List Str} {Q : Value → Shared → Prop} (hh : A.handled = none)
    (ho : s.heap.get? l = some { cls := .type "list", dict := d, data := .seq items nl, slots := sl }) (hi : StrsAre items.toList xs) (few : xs.length + 1 < scanBound)
    (h : ∀ (h2 : Heap) (tk : Nat), Tx w h2 s.heap.objs.size (metOf xs) → (∀ b o, s.heap.get? b = some o → h2.get? b = some o) → Q (.ref s.heap.objs.size) { s with heap := h2, toks := tk }) :
    wpAny (model prog w) A (call (.type "set") [.ref l]) Q E s := by
  obtain ⟨c, tl, hmro⟩ := PySem.F.called_set.mro
  have hmade := PySem.F.called_set.made
  have hsub := PySem.F.called_set.sub
  refine wpAny_call (codeAny_of_tree ?_)
  show wpAny _ _ (callAny (.type "set") _) _ _ _
  refine wpAny_pure ⟨Code.quiet_builtin _ (by decide +kernel), codeAny_builtin PySem.F.entry_type_call ?_⟩
  rw [Around.under_plain (weight_type_call_type "set" [.ref l] []) rfl]
  have h1 := PySem.F.called_set.notType
  have h2 := PySem.F.called_set.canCreate
  have hct := PySem.F.typeCall_set_1 (.ref l)
  repeat (any_goals (first | assumption | wp_step))
  refine codeAny_mono (code_set_led1 (.ref l) (E := E) (Q₁ := fun x s1 => x = .ref s.heap.objs.size ∧ s1 = { s with heap := s.heap.push (ScX.bareSet w) }) ⟨rfl, rfl⟩) fun r s1 hr => ?_
  cases r with
  | error e => exact hr
  | ok fl =>
    cases fl with
    | ret obj =>
      obtain ⟨rfl, rfl⟩ := hr
      have hS : (s.heap.push (ScX.bareSet w)).get? s.heap.objs.size = some (ScX.bareSet w) := Heap.get?_push_size _ rfl
      have hTy : Shared.TypeIs { s with heap := s.heap.push (ScX.bareSet w) } (.ref s.heap.objs.size) "set" := ⟨_, hS, rfl⟩
      have hli := PySem.F.called_set.init.lookup
      have hbi := PySem.F.called_set.init.bind (.ref s.heap.objs.size)
      repeat (any_goals (first | assumption | wp_step))
      refine codeAny_mono (codeAny_call_builtin (R := wants (fun r s2 => r = .none ∧ ∃ h2 tk, s2 = { s with heap := h2, toks := tk } ∧ Tx w h2 s.heap.objs.size (metOf xs) ∧ (∀ b o, s.heap.get? b = some o → h2.get? b = some o)) E) PySem.F.called_set.init.plain PySem.F.entry_set_init (check_set_init_1 hTy ?_)) fun r2 s2 hr2 => ?_
      · have ho2 : (s.heap.push (ScX.bareSet w)).get? l = some { cls := .type "list", dict := d, data := .seq items nl, slots := sl } := Heap.get?_push_of_some _ ho
        have f1 := PySem.F.sub_list_set
        have f2 := PySem.F.sub_list_frozenset
        have f3 : (Value.type "list" == Value.type "dict") = false := by decide
        have hw : (s.heap.push (ScX.bareSet w)).IsList l items := ⟨_, ho2, rfl, nl, rfl⟩
        have ll : l < s.heap.objs.size := Heap.lt_size ho
        have ll2 : l < (s.heap.push (ScX.bareSet w)).objs.size := by
          rw [Heap.size_push]
          exact Nat.lt_succ_of_lt ll
        unfold Builtin.«set.__init__» noKeywords Builtin.Frozenset.updateFrom
        generalize hPI : pyIter = PI
        wp_walk
        subst hPI
        refine iter_of (T := "list") (items := items) (by simp [hh]) (.inl rfl) hw ll2 fun J St fr W st0 => ?_
        refine wpAny_bind (wpAny_runValue ?_)
        have len : xs.length = items.size := by rw [← StrsAre.len_eq hi, Array.length_toList]
        refine loop_ok W s.heap.objs.size ?_ xs len (by omega) (fun i v hv => txt_at hi i v (by rw [Array.getElem?_toList]; exact hv)) items.size 0 _ (Nat.zero_add _) st0 ?_ ?_
        · rw [Heap.size_push]
          simp only [List.mem_cons, List.not_mem_nil, or_false, not_or]
          exact ⟨Nat.ne_of_lt (Nat.lt_succ_self _), Nat.ne_of_gt ll⟩
        · exact fresh_tx.at fun o e => Heap.get?_push_of_some _ e
        · rintro ⟨h3, g3, d3, tk3, os3⟩ m got
          obtain rfl : g3 = s.gens := m.gens
          obtain rfl : d3 = s.drawn := m.drawn
          obtain rfl : os3 = s.os := m.os
          refine wpAny_pure ?_
          show wpAny _ _ (ret Value.none) _ _ _
          refine wpAny_pure ⟨rfl, h3, tk3, rfl, got, fun b o e => ?_⟩
          have b1 : b < s.heap.objs.size := Heap.lt_size e
          refine m.heap b o ?_ (Heap.get?_push_of_some _ (Heap.get?_push_of_some _ e))
          rw [Heap.size_push]
          simp only [List.mem_cons, List.not_mem_nil, or_false, not_or]
          exact ⟨Nat.ne_of_lt b1, Nat.ne_of_lt (Nat.lt_succ_of_lt b1)⟩
      · cases r2 with
        | error e => exact hr2
        | ok fl2 =>
          cases fl2 with
          | ret r =>
            obtain ⟨rfl, h3, tk, rfl, got, keep⟩ := hr2
            repeat (any_goals (first | assumption | wp_step))
            exact h _ _ got keep
          | _ => exact hr2.elim
    | _ => exact hr.elim
end
end TxSet
namespace TxSet
open PySem PySem.Spec PyProof.Rows L2 DkSet
section
variable {P : Program} {w : World} {A : Around} {E : Value → Shared → Prop} {s : Shared} {a : Addr} {ks : List Str}
theorem txts_of : ∀ (l : List Value), (∀ v ∈ l, ∃ k t, v = Value.str k t) → StrsAre l (l.map fun v => txt (0, v))
  | [], _ => .nil
  | v :: l, h => by
    obtain ⟨k, t, rfl⟩ := h v List.mem_cons_self
    exact .cons k t (txts_of l fun u hu => h u (List.mem_cons_of_mem _ hu))
/-- sorted(a set of texts) -/
theorem sorted_tx {Q : Value → Shared → Prop} (R : Tx w s.heap a ks) (hh : A.handled = none) (few : ks.length < 64)
    (q : ∀ s2 p (out : Array Value) (c : Nat) (ys : List Str), (∀ b o, s.heap.get? b = some o → s2.heap.get? b = some o) → s2.gens = s.gens → s2.os = s.os → s.heap.objs.size ≤ p → s2.heap.get? p = some (seqObj "list" out c) →
      StrsAre out.toList ys → sortedS ys = true → ys.Perm ks → Q (.ref p) s2) : wpAny (model P w) A (call (.builtin "sorted") [.ref a]) Q E s := by
  obtain ⟨o, es, ep, t, ho, hx, hd, g, pm, nd, hb, fit, ris, led⟩ := R
  refine Calls.call_function_entry kind_sorted plain_sorted entry_sorted (args_sorted1 _) ?_
  unfold Builtin.«sorted»
  refine wpAny_bind (m := checkCount "sorted" 1 1 _) (wpAny_pure ?_)
  refine wpAny_bind (collect_set (A := A.in1) hh ⟨o, ho, hx.1, hd⟩ fit hb ris led fun s1 vs k1 hz g1 o1 pv => ?_)
  have each : ∀ v ∈ vs, ∃ k t, v = Value.str k t := fun v hv => by
    obtain ⟨e, he, z⟩ := List.mem_map.mp (pv.mem_iff.mp hv)
    obtain ⟨k, t, h1, _⟩ := g e he
    exact ⟨k, t, by rw [← z]; exact h1⟩
  have hS := txts_of vs each
  have pk : (vs.map fun v => txt (0, v)).Perm ks := by
    have z := pv.map fun v => txt (0, v)
    rw [List.map_map] at z
    exact z.trans pm
  have vl : vs.length < 64 := by
    have z := pk.length_eq
    rw [List.length_map] at z
    omega
  refine wpAny_bind (wpAny_newList ?_ (by rw [sizeLine_eq]; omega))
  have hoL : (s1.heap.push (seqObj "list" vs.toArray 0)).get? s1.heap.objs.size = some (seqObj "list" vs.toArray 0) := Heap.get?_push_size _ rfl
  refine wpAny_bind (wpAny_holding (wpAny_call_entry slot_list_sort ⟨_, hoL, rfl⟩ entry_list_sort (list_sort_treeK strKind_oneLt hoL hS.keysOf (fun v1 v2 rest e => keyKind_strs (by rw [← e]; exact hS)) vl fun st hp hs => ⟨_, rfl, ?_⟩) (args_list_sort _)))
  obtain ⟨ys, y1, y2, y3⟩ := sorted_out_str hS hp hs
  obtain ⟨c, hc⟩ := sortedHeap_at (vs := vs) (out := (arrOf st).map (·.2)) hoL
  refine wpAny_pure ⟨_, rfl, q _ s1.heap.objs.size _ c ys (fun b u e => ?_) g1 o1 hz hc y1 y3 (y2.trans pk)⟩
  have z := k1 b u e
  have lt := Heap.lt_size z
  show (sortedHeap (s1.heap.push (seqObj "list" vs.toArray 0)) s1.heap.objs.size vs _).get? b = some u
  rw [sortedHeap_old (Nat.ne_of_lt lt) (by rw [size_push']; exact Nat.lt_succ_of_lt lt)]
  exact Heap.get?_push_of_some _ z
end
section
variable {X : Cx}
/-- sorted(set(xs)), xs a list of texts -/
def tSortSet (K : PySem.W.Frag) (ta : TE) : TE := fun σ H Q => ta σ H fun x H1 => ∃ (l : Addr) (xs : List Str), x = V.ref l ∧ SqL K H1 l (xs.map V.str) ∧ xs.length < 64 ∧
  ∀ (ys : List Str) (p : Addr), sortedS ys = true → ys.Nodup → (∀ y, y ∈ ys ↔ y ∈ xs) → H1 p = none → Q (.ref p) (upd H1 p (.lst (ys.map V.str)))
theorem pe_sortSet {a : Expr} {ta : TE} {p p2 q pos : Pos} (hc : X.calm = true) (hg : Gl X "sorted") (hm : X.mg "sorted" = none) (hg2 : Gl X "set") (hm2 : X.mg "set" = none) (ha : PE X a ta)
    (na : starEach [a] X.env = (false, eval a X.env) :: starEach [] X.env := by rfl) : PE X (.Call (.Name "sorted" p) [.Call (.Name "set" p2) [a] [] q] [] pos) (tSortSet X.K ta) := by
  refine ⟨fun pins s σ H Q I h => Call_ (ld_blt I hg hm (show bootBuiltins "sorted" = some (.builtin "sorted") from by decide +kernel) ?_)⟩
  refine PyProof.Rows.callWith_builtin1 (PyProof.Rows.args_cons ?_ rfl) rfl rfl
  refine Call_ (ld_blt I hg2 hm2 PyProof.Rows.boot_set ?_)
  refine PyProof.Rows.callWith_type1 (PyProof.Rows.args_cons (thn (ha.run pins s σ H _ I h) fun v s1 ⟨x, H1, I1, r1, l, xs, ex, hq, few, q1⟩ => PyProof.Rows.args_nil ?_) na) na rfl
  subst ex
  cases r1
  obtain ⟨its, r, pl, _⟩ := I1.list hq
  obtain ⟨⟨oc, od, ox, os⟩, ho, hc2, nl, hd⟩ := pl.isList
  cases hc2
  cases hd
  refine call_tx (xs := xs) (by simpa using I1.ok.hd hc) ho (strs_of r) (by unfold scanBound; omega) fun h2 tk got keep => ?_
  refine PyProof.Rows.args_nil ?_
  have I2 : L2.Inv X pins σ H1 { s1 with heap := h2, toks := tk } := I1.kept fun b o e => keep b o e
  have le := met_le xs
  refine sorted_tx got (I2.ok.hd hc) (by omega) fun s2 p out c ys k g o hp hg2 hi hs pm => ?_
  have np : H1 p = none := I2.hok.fresh hp
  have J : Inv X pins σ (upd H1 p (.lst (ys.map V.str))) { ({ s1 with heap := h2, toks := tk } : Shared) with heap := s2.heap, gens := s2.gens, drawn := s2.drawn, toks := s2.toks } :=
    I2.call (ch := []) (Un.laid k hp np) (I2.hok.laid k hp ⟨by rw [List.length_map, pm.length_eq, sizeLine_eq]; omega, out.toList, c, vals_of_strs hi, hg2⟩) (by rw [g]; exact I1.bare) (fun _ z => nomatch z)
  have e : s2 = { s1 with heap := s2.heap, gens := s2.gens, drawn := s2.drawn, toks := s2.toks } := by
    cases s2
    cases s1
    cases o
    rfl
  rw [e]
  exact ⟨.ref p, _, J, rfl, q1 ys p hs (pm.nodup_iff.mpr (met_nodup xs)) (fun y => by rw [pm.mem_iff]; exact met_mem xs y) np⟩
end
end TxSet
set_option Elab.async false
set_option linter.all false
set_option maxRecDepth 100000
set_option maxHeartbeats 8000000
namespace Dk
open PySem PySem.Spec PyProof.Rows L2 Er LamX NdefX CmX
/-! ### _law_sights; a drawn row -/
def spSights31 : Sp := fun vs H Q _ => ∃ (u nm dd sg : Addr) (D : DkD) (as : List Addr), vs = [.ref u] ∧ DkL H u nm dd sg D as ∧ D.Is ∧ ∀ (l : Addr) (ys : List Str) (G : Hp), Sm H G → H l = none → G l = some (.lst (ys.map V.str)) → ys.Perm (fm D.ls) → Q (.ref l) G
abbrev nSi31 : List Str := ["_law_desk_here", "_law_name"]
theorem scSi31 : FnScope nSi31 ["_law_desk_here"] (defScope (top 55)) := ⟨rfl, rfl, rfl, by decide +kernel, rfl, by decide +kernel, by decide +kernel⟩
theorem at_look {ws ls : List Str} {z : Str} (nd : ws.Nodup) (e : ls.length = ws.length) (hz : z ∈ ws) : valV (dkv ws (ls.map V.str)) (.inr z) = some (.str (look ws ls z)) := look_at e hz
theorem map_look : ∀ {ws vs : List Str}, ws.Nodup → vs.length = ws.length → ws.map (look ws vs) = vs := fun {ws vs} nd e => by
  refine List.ext_getElem (by rw [List.length_map, e]) fun j h1 h2 => ?_
  rw [List.length_map] at h1
  rw [List.getElem_map]
  unfold look
  rw [idx_of nd (List.getElem?_eq_getElem h1), List.getD_eq_getElem?_getD, List.getElem?_eq_getElem h2]
  rfl
theorem lc_row {K : PySem.W.Frag} {p g l : Addr} {xs : List Str} {σ : L2.St} {i n : Nat} {H1 : Hp} {Q : Addr → Hp → Prop} {tb tx : TE} (few : n ≤ 1000) (hl : H1 l = some (.lst (xs.map V.str))) (lp : l ≠ p) (x1 : 1 ≤ xs.length) (x2 : xs.length ≤ 1000) (pen : Pen H1 p g)
    (w1 : ∀ v, wipe ((wipe σ [i]).set i (some v)) [i] = wipe σ [i])
    (eb : ∀ v G (R : VK), R (.ref p) G → tb ((wipe σ [i]).set i (some v)) G R) (ex : ∀ v G (R : VK), Sx p H1 G → R (.ref l) G → tx ((wipe σ [i]).set i (some v)) G R)
    (q : ∀ (D : Addr) (vs : List Str) (G : Hp), Sx p H1 G → Pen G p g → H1 D = none → G D = some (.lst (vs.map V.str)) → vs.length = n → (∀ v ∈ vs, v ∈ xs) → Q D G) :
    LcR (tCall spOne [] E0 (tCons tb (tCons tx tNil))) σ i H1 Q (Itr 0 n) := by
  intro D nD
  obtain ⟨cs0, i0, r0, gp, hp, hg⟩ := id pen
  have Dp : D ≠ p := fun z => by
    rw [z, hp] at nD
    cases nD
  have Dg : D ≠ g := fun z => by
    rw [z, hg] at nD
    cases nD
  refine lc_it (walk_range (lo := 0) (n := n)) (vs := [i]) (g := gName i) (fun j G => ∃ vs : List Str, G D = some (.lst (vs.map V.str)) ∧ vs.length = j ∧ (∀ v ∈ vs, v ∈ xs) ∧ Sx p H1 G ∧ Pen G p g) ⟨[], upd_same, rfl, (fun v hv => nomatch hv), Sx.of (Sm.new nD), pen.sm (Sm.new nD)⟩ (fun j G _ h => True.intro) (fun j x G G' hj h yy => ?_) (fun G h => ?_)
  · obtain ⟨vs, eD, vl, good, sx, pen2⟩ := h
    obtain ⟨rfl, rfl⟩ := yy
    refine ⟨w1 _, ?_⟩
    unfold tYes
    dsimp only
    rw [if_pos rfl]
    refine eb _ _ _ (ex _ _ _ sx ⟨p, g, l, xs.map V.str, rfl, pen2, sx _ _ lp hl, lp, by rw [List.length_map]; exact x1, by rw [List.length_map]; exact x2, fun k x G2 ekx s2 pen3 => ?_⟩)
    obtain ⟨y, ey, rfl⟩ := str_atS ekx
    have eD2 := s2 _ _ Dp eD
    refine ⟨_, eD2, by rw [List.length_map, vl, sizeLine_eq]; omega, vs ++ [y], ?_, by rw [List.length_append, vl]; rfl, fun v hv => ?_, fun b o nb e => ?_, ?_⟩
    · rw [upd_same, List.map_append]
      rfl
    · rcases List.mem_append.mp hv with h | h
      · exact good v h
      · rw [List.mem_singleton.mp h]
        exact List.mem_of_getElem? ey
    · rw [upd_ne (ne_of_none e nD)]
      exact s2 _ _ nb (sx _ _ nb e)
    · obtain ⟨cs4, i4, r4, _, hp4, hg4⟩ := pen3
      exact ⟨cs4, i4, r4, gp, by rw [upd_ne (Ne.symm Dp)]; exact hp4, by rw [upd_ne (Ne.symm Dg)]; exact hg4⟩
  · obtain ⟨vs, eD, vl, good, sx, pen2⟩ := h
    exact q D vs G sx pen2 nD eD vl good
section
variable {P : Program} {w : World} {K : PySem.W.Frag} {mg : Str → Option Value} {base : Heap} {f : Addr} {fd : FuncData}
theorem ok_si31 (F : FnP K "_law_sights" (top 55) f fd) (mS : mg "sorted" = none) (ms : mg "set" = none) : FnOk P w K mg base CX0 1 f fd ["_law_desk_here"] spSights31 := by
  refine F.ok (CX := CX0) scSi31 (fun vs H Q E h => ?_) (fun cdv A outer s H vs Q E hr h => ?_)
  · obtain ⟨u, nm, dd, sg, D, as, rfl, _⟩ := h
    rfl
  · refine ⟨_, PSs.nox (pss_one (ps_ret (by exact (TxSet.pe_sortSet rfl rfl mS rfl ms (by exact (pe_lc (own := [("_law_name", 1)]) (g := gName 1) (tt := tYes) (te := tDGet (tOp (rIxL K) (tVar 0) (tC (.int 2))) (tVar 1)) rfl scSi31.nd (pi_list (by exact (pe_ix ix_list (pv 0) pe_int (fun _ _ => rfl))))
      (blkOk_by (N := nSi31) (sc := defScope (top 55)) (by decide +kernel)) (fun _ _ _ _ _ => pg_name (i := 1) scSi31.nd rfl (Or.inl rfl)) (fun _ _ _ _ _ => pts_nil) (fun _ _ _ _ _ => by exact (pe_dget (hu_of hr) (by exact (pe_ix ix_list (by exact (pv 0)) pe_int (fun _ _ => rfl))) (by exact (pv 1)) (fun _ _ => rfl))))))))), ?_⟩
    obtain ⟨u, nm, dd, sg, D, as, rfl, ⟨hu, hnm, hdd, hsg, pr⟩, is, q⟩ := h
    have w9 := is.most
    refine ⟨_, rfl, u, _, 0, .ref nm, rfl, rfl, .inl (.inl hu), rfl, nm, rfl, ⟨_, .inl (.inl hnm)⟩, ?_⟩
    refine lc_map (walk_list (xs := D.ws.map V.str)) (fv := fun j => .str (D.ls.getD j ⟨#[]⟩)) (by rw [List.length_map]; omega) (fun G m => .inl (.inl (m _ _ hnm))) (fun _ => rfl) (fun j G x G' _ yy => by rw [yy.1]; exact Sm.refl _) (fun j v G G' R hj m0 yy m1 qq => ?_) (fun L G m nL eL => ?_)
    · obtain ⟨rfl, ex⟩ := yy
      obtain ⟨z, ez, rfl⟩ := str_atS ex
      have jl : j < D.ls.length := by
        rw [is.looks]
        exact (List.getElem?_eq_some_iff.mp ez).1
      have q3 := qq G' (Sm.refl _)
      rw [List.getD_eq_getElem?_getD, List.getElem?_eq_getElem jl] at q3
      refine ⟨_, rfl, u, _, 2, .ref sg, rfl, rfl, .inl (.inl (m1 _ _ hu)), rfl, _, rfl, sg, .str (D.ls[j]'jl), rfl, .inl ⟨_, .inr z, .inl (m1 _ _ hsg), rfl, ?_⟩, q3⟩
      rw [dkv_get (by rw [List.length_map, is.looks]) (List.mem_of_getElem? ez), idx_of is.nd ez, List.getElem?_map, List.getElem?_eq_getElem jl]
      rfl
    · have eL2 : G L = some (.lst (D.ls.map V.str)) := by
        rw [eL, List.length_map]
        congr 2
        refine List.ext_getElem (by rw [List.length_map, List.length_range, List.length_map, is.looks]) fun j h1 h2 => ?_
        rw [List.length_map] at h2
        rw [List.getElem_map, List.getElem_range, List.getElem_map, List.getD_eq_getElem?_getD, List.getElem?_eq_getElem h2]
        rfl
      refine ⟨L, D.ls, rfl, .inl (.inl eL2), by rw [is.looks]; omega, fun ys l _ nd mem nl => ?_⟩
      exact q l ys _ (m.trans (Sm.new nl)) (none_of_sm m nl) upd_same ((List.perm_ext_iff_of_nodup nd (fm_nd _)).mpr fun z => by rw [mem, mem_fm])
end
end Dk
set_option Elab.async false
set_option linter.all false
set_option maxRecDepth 100000
set_option maxHeartbeats 8000000
namespace Dk
open PySem PySem.Spec PyProof.Rows L2 Er LamX NdefX CmX
/-! ### _law_change -/
def rlook (ds : List Str) (rr : List (List Str)) (d : Str) : List Str := rr.getD (ds.idxOf d) []
theorem rlook_pair {H : Hp} {as : List Addr} {ds : List Str} {rr : List (List Str)} (nd : ds.Nodup) (e : rr.length = ds.length) (h : Paired (fun a (row : List Str) => H a = some (.lst (row.map V.str))) as rr) : Paired (LstAt (rlook ds rr) H) as ds := by
  have al := paired_len h
  refine paired_of (by omega) fun j a d e1 e2 => ?_
  obtain ⟨row, er, ea⟩ := pair_at h e1
  unfold LstAt rlook
  rw [idx_of nd e2, List.getD_eq_getElem?_getD, er]
  exact ea
theorem rlook_mem {ds : List Str} {rr : List (List Str)} {d : Str} (e : rr.length = ds.length) (hd : d ∈ ds) : rlook ds rr d ∈ rr := by
  have il := idx_lt hd
  unfold rlook
  rw [List.getD_eq_getElem?_getD, List.getElem?_eq_getElem (by omega)]
  exact List.getElem_mem _
theorem look_mem {ws vs : List Str} {z : Str} (e : vs.length = ws.length) (hz : z ∈ ws) : look ws vs z ∈ vs := by
  have il := idx_lt hz
  unfold look
  rw [List.getD_eq_getElem?_getD, List.getElem?_eq_getElem (by omega)]
  exact List.getElem_mem _
/-- a change as the law draws it -/
structure RawC (H : Hp) (u pl rw ey : Addr) (k2 k3 : List Str) (rs : List Addr) (D E : DkD) (X : ChD) : Prop where
  at_ : H u = some (.lst [.ref pl, .ref rw, .ref ey])
  pl_ : H pl = some (.dK (tabS D.ws X.pf))
  rw_ : H rw = some (.dK (dkv k2 (rs.map V.ref)))
  rs_ : Paired (LstAt X.rf H) rs k2
  pm2 : k2.Perm D.ds
  ey_ : H ey = some (.dK (tabS k3 X.ef))
  pm3 : k3.Perm (fm E.ls)
theorem RawC.sm {H G : Hp} {u pl rw ey : Addr} {k2 k3 : List Str} {rs : List Addr} {D E : DkD} {X : ChD} (h : RawC H u pl rw ey k2 k3 rs D E X) (m : Sm H G) : RawC G u pl rw ey k2 k3 rs D E X :=
  ⟨m _ _ h.at_, m _ _ h.pl_, m _ _ h.rw_, pair_mono h.rs_ fun a _ d e => m _ _ e, h.pm2, m _ _ h.ey_, h.pm3⟩
def spChange31 : Sp := fun vs H Q _ => ∃ (p g u1 nm1 dd1 sg1 u2 nm2 dd2 sg2 : Addr) (D E : DkD) (as bs : List Addr), vs = [.ref p, .ref u1, .ref u2] ∧ Pen H p g ∧ DkL H u1 nm1 dd1 sg1 D as ∧ DkL H u2 nm2 dd2 sg2 E bs ∧ D.Is ∧ E.Is ∧
  (u1 ≠ p ∧ nm1 ≠ p ∧ dd1 ≠ p ∧ sg1 ≠ p ∧ ∀ a ∈ as, a ≠ p) ∧ (u2 ≠ p ∧ nm2 ≠ p ∧ dd2 ≠ p ∧ sg2 ≠ p ∧ ∀ a ∈ bs, a ≠ p) ∧
  ∀ (u pl rw ey : Addr) (k3 : List Str) (rs : List Addr) (X : ChD) H', Sx p H H' → Pen H' p g → u ≠ p → pl ≠ p → rw ≠ p → ey ≠ p → (∀ a ∈ rs, a ≠ p) → H rw = none → H u = none → RawC H' u pl rw ey D.ds k3 rs D E X → X.Ok D E → Q (.ref u) H'
abbrev nCh31 : List Str := ["_law_pen_here", "_law_elder", "_law_newer", "_law_places", "_law_rows", "_law_deeds", "_law_deed", "_law_some", "_law_name", "_law_lap", "_law_sight"]
theorem scCh31 : FnScope nCh31 ["_law_pen_here", "_law_elder", "_law_newer"] (defScope (top 56)) := ⟨rfl, rfl, rfl, by decide +kernel, rfl, by decide +kernel, by decide +kernel⟩
theorem DkL.x {H G : Hp} {u nm dd sg p : Addr} {D : DkD} {as : List Addr} (h : DkL H u nm dd sg D as) (s : Sx p H G) (n : u ≠ p ∧ nm ≠ p ∧ dd ≠ p ∧ sg ≠ p ∧ ∀ a ∈ as, a ≠ p) : DkL G u nm dd sg D as :=
  ⟨s _ _ n.1 h.1, s _ _ n.2.1 h.2.1, s _ _ n.2.2.1 h.2.2.1, s _ _ n.2.2.2.1 h.2.2.2.1, pair_mono h.2.2.2.2 fun a ha vs e => s _ _ (n.2.2.2.2 a ha) e⟩
section
variable {P : Program} {w : World} {K : PySem.W.Frag} {mg : Str → Option Value} {base : Heap} {f : Addr} {fd : FuncData}
theorem ok_change31 (F : FnP K "_law_change" (top 56) f fd) (md : mg "dict" = none) (mL : mg "list" = none) (mR : mg "range" = none) (GO : Fx P w K mg base CX0 3 "_law_one_of" nOne spOne) (GS : Fx P w K mg base CX0 1 "_law_sights" ["_law_desk_here"] spSights31) : FnOk P w K mg base CX0 4 f fd ["_law_pen_here", "_law_elder", "_law_newer"] spChange31 := by
  refine F.ok (CX := CX0) scCh31 (fun vs H Q E h => ?_) (fun cdv A outer s H vs Q E hr h => ?_)
  · obtain ⟨p, g, u1, nm1, dd1, sg1, u2, nm2, dd2, sg2, D, E, as, bs, rfl, _⟩ := h
    rfl
  · refine ⟨_, PSs.nox (pss_cons (ps_set (i := 3) scCh31.nd rfl (.inl rfl) (by exact (pe_callTy (call_dictP rfl) rfl md PyProof.Rows.boot_dict (pa_cons (by exact (pe_lc (own := [("_law_name", 8)]) (g := gName 8) (tt := tYes) (te := tTup (tCons (tVar 8) (tCons (tCall spOne [] E0 (tCons (tVar 0) (tCons (tOp (rIxL K) (tVar 2) (tC (.int 0))) tNil))) tNil))) rfl scCh31.nd (pi_list (by exact (pe_ix ix_list (pv 1) pe_int (fun _ _ => rfl))))
          (blkOk_by (N := nCh31) (sc := defScope (top 56)) (by decide +kernel)) (fun _ _ _ _ _ => pg_name (i := 8) scCh31.nd rfl (Or.inl rfl)) (fun _ _ _ _ _ => pts_nil) (fun _ _ _ _ _ => by exact (pe_tup (pa_cons (by exact (pv 8)) (pa_cons (by exact (pe_fx GO hr (by decide) rfl (pa_cons (by exact (pv 0)) (pa_cons (by exact (pe_ix ix_list (by exact (pv 2)) pe_int (fun _ _ => rfl))) pa_nil)))) pa_nil)))))) pa_nil))))
      (pss_cons (ps_asg (pe_tup (pa_cons pe_dnewK (pa_cons (by exact (pe_callTy (call_list_dK rfl) rfl mL PyProof.Rows.boot_list (pa_cons (by exact (pe_ix ix_list (pv 2) pe_int (fun _ _ => rfl))) pa_nil))) pa_nil))) (pg_tup rfl (pgs_cons (pg_name (i := 4) scCh31.nd rfl (.inl rfl)) (pgs_cons (pg_name (i := 5) scCh31.nd rfl (.inr rfl)) pgs_nil))))
      (pss_cons (ps_lock (ps_for PassesOwn.never rfl (pi_keys (by exact (pe_ix ix_list (pv 1) pe_int (fun _ _ => rfl)))) (pg_name (i := 6) scCh31.nd rfl (.inl rfl))
        (pss_one (ps_dput (hu_of hr) (pv 4) (pv 6) (by exact (pe_lc (own := [("_law_lap", 9)]) (g := gName 9) (tt := tYes) (te := tCall spOne [] E0 (tCons (tVar 0) (tCons (tVar 5) tNil))) rfl scCh31.nd (pi_range1 rfl mR (pa_cons (by exact (pe_fx GO hr (by decide) rfl (pa_cons (pv 0) (pa_cons (pe_lst (pa_cons pe_int (pa_cons pe_int (pa_cons pe_int (pa_cons pe_int (pa_cons pe_int (pa_cons pe_int pa_nil))))))) pa_nil)))) pa_nil))
          (blkOk_by (N := nCh31) (sc := defScope (top 56)) (by decide +kernel)) (fun _ _ _ _ _ => pg_name (i := 9) scCh31.nd rfl (Or.inl rfl)) (fun _ _ _ _ _ => pts_nil) (fun _ _ _ _ _ => by exact (pe_fx GO hr (by decide) rfl (pa_cons (by exact (pv 0)) (pa_cons (by exact (pv 5)) pa_nil)))))) (by rfl)))))
      (pss_cons (ps_set (i := 7) scCh31.nd rfl (.inr rfl) (by exact (pe_fx GS hr (by decide) rfl (pa_cons (pv 1) pa_nil))))
      (pss_one (ps_ret (by exact (pe_lst (pa_cons (pv 3) (pa_cons (pv 4) (pa_cons (by exact (pe_callTy (call_dictP rfl) rfl md PyProof.Rows.boot_dict (pa_cons (by exact (pe_lc (own := [("_law_sight", 10)]) (g := gName 10) (tt := tYes) (te := tTup (tCons (tVar 10) (tCons (tCall spOne [] E0 (tCons (tVar 0) (tCons (tVar 7) tNil))) tNil))) rfl scCh31.nd (pi_list (by exact (pe_fx GS hr (by decide) rfl (pa_cons (pv 2) pa_nil))))
          (blkOk_by (N := nCh31) (sc := defScope (top 56)) (by decide +kernel)) (fun _ _ _ _ _ => pg_name (i := 10) scCh31.nd rfl (Or.inl rfl)) (fun _ _ _ _ _ => pts_nil) (fun _ _ _ _ _ => by exact (pe_tup (pa_cons (by exact (pv 10)) (pa_cons (by exact (pe_fx GO hr (by decide) rfl (pa_cons (by exact (pv 0)) (pa_cons (by exact (pv 7)) pa_nil)))) pa_nil)))))) pa_nil))) pa_nil))))))))))), ?_⟩
    obtain ⟨p, g, u1, nm1, dd1, sg1, u2, nm2, dd2, sg2, D, E, as, bs, rfl, pen, o1, o2, iD, iE, n1, n2, q⟩ := h
    have sz : ∀ n : Nat, n ≤ 1000 → n ≤ sizeLine := fun n z => by
      rw [sizeLine_eq]
      omega
    have pn : ∀ {G : Hp} {b : Addr}, Pen G p g → G b = none → b ≠ p := fun {G b} pn nb z => by
      obtain ⟨_, _, _, _, hp, _⟩ := pn
      rw [z, hp] at nb
      cases nb
    have w9 := iD.most
    have e9 := iE.most
    have e1 := iE.some
    -- places
    refine ⟨_, rfl, u1, _, 0, .ref nm1, rfl, rfl, .inl (.inl o1.1), rfl, nm1, rfl, ⟨_, .inl (.inl o1.2.1)⟩, ?_⟩
    refine lc_one (K := K) (i := 8) (σ := [some (.ref p), some (.ref u1), some (.ref u2), none, none, none, none, none, none, none, none]) (tb := tVar 0) (tx := tOp (rIxL K) (tVar 2) (tC (.int 0))) o1.2.1 n1.2.1 (by omega) o2.2.1 n2.2.1 e1 (by omega) pen (fun _ => rfl) (fun _ => rfl) (fun v G R h => ⟨_, rfl, h⟩) (fun v G R s h => ⟨_, rfl, u2, _, 0, .ref nm2, rfl, rfl, .inl (.inl (s _ _ n2.1 o2.1)), rfl, h⟩) fun D0 ts pv G0 s0 pen0 nD0 eD0 prD pvl pvg => ⟨D0, ts, dkv D.ws (pv.map V.str), rfl, .inl (.inl eD0), prD, fun pl npl0 => ?_⟩
    rw [dkv_merge (by rw [List.length_map, pvl]) iD.nd]
    obtain ⟨plp, npl, s1, pen1⟩ := dct_new (o := .dK (dkv D.ws (pv.map V.str))) pen0 s0 npl0
    have epl : upd G0 pl (.dK (dkv D.ws (pv.map V.str))) pl = some (.dK (dkv D.ws (pv.map V.str))) := upd_same
    show tNext _ _ (upd G0 pl (.dK (dkv D.ws (pv.map V.str))))
    generalize upd G0 pl (.dK (dkv D.ws (pv.map V.str))) = G1 at s1 pen1 epl ⊢
    have o1a := o1.x s1 n1
    have o2a := o2.x s1 n2
    -- rows, deeds
    intro ro nro
    have aro := Sm.new (o := .dK []) nro
    refine ⟨_, rfl, u2, _, 1, .ref dd2, rfl, rfl, .inl (.inl (aro _ _ o2a.1)), rfl, dd2, _, rfl, aro _ _ o2a.2.2.1, fun dl ndl => ?_⟩
    have bl := paired_len o2a.2.2.2.2
    rw [keys_dkv (ds := E.ds) (us := bs.map V.ref) (by rw [List.length_map, bl, iE.rows])]
    have adl := Sm.new (o := .lst (E.ds.map V.str)) ndl
    have edl : upd (upd G1 ro (.dK [])) dl (.lst (E.ds.map V.str)) dl = some (.lst (E.ds.map V.str)) := upd_same
    have ero := adl _ _ (show upd G1 ro (.dK []) ro = some (.dK []) from upd_same)
    have rop := pn pen1 nro
    have dlp := pn (pen1.sm aro) ndl
    have pen2 := pen1.sm (aro.trans adl)
    have sm2 := aro.trans adl
    have epl2 := sm2 _ _ epl
    have roH : H ro = none := by
      cases e : H ro with
      | none => rfl
      | some o =>
        rw [s1 _ _ rop e] at nro
        cases nro
    have rop1 : ∀ {b : Addr} {o : HO}, G1 b = some o → b ≠ ro := fun {b o} e z => by
      rw [z, nro] at e
      cases e
    refine ⟨sz _ (by show 2 ≤ 1000; decide), fun T nT => ?_⟩
    have aT := Sm.new (o := .tup [.ref ro, .ref dl]) nT
    have eT : upd (upd (upd G1 ro (.dK [])) dl (.lst (E.ds.map V.str))) T (.tup [.ref ro, .ref dl]) T = some (.tup [.ref ro, .ref dl]) := upd_same
    have edl := aT _ _ edl
    have ero := aT _ _ ero
    have pen2 := pen2.sm aT
    have sm2 := sm2.trans aT
    have epl2 := aT _ _ epl2
    refine ⟨T, _, rfl, .inl (.inl eT), rfl, _, _, rfl, _, _, rfl, rfl, ?_⟩
    generalize upd (upd (upd G1 ro (.dK [])) dl (.lst (E.ds.map V.str))) T (.tup [.ref ro, .ref dl]) = G2 at edl ero pen2 sm2 epl2 ⊢
    clear eT aT adl aro
    -- the walk over the elder deeds
    have o1b := o1a.sm sm2
    have s2 : Sx p H G2 := s1.trans (Sx.of sm2)
    have al := paired_len o1b.2.2.2.2
    have adl1 : as.length = D.ds.length := by rw [al, iD.rows]
    obtain ⟨cs2, i2, r2, gp, hp2, hg2⟩ := id pen2
    have neD : ∀ {b : Addr} {o : HO}, G2 b = some o → (∀ t, o ≠ .dK t) → b ≠ dd1 := fun {b o} e n z => by
      rw [z, o1b.2.2.1] at e
      exact n _ (Option.some.inj e).symm
    have rod : ro ≠ dd1 := fun z => rop1 (o1a.2.2.1) z.symm
    refine ⟨dd1, .dK (dkv D.ds (as.map V.ref)), o1b.2.2.1, True.intro, fun od => ?_⟩
    have dL : upd G2 dd1 (.frz od (.dK (dkv D.ds (as.map V.ref)))) dd1 = some (.frz od (.dK (dkv D.ds (as.map V.ref)))) := upd_same
    have keepL : ∀ b o, b ≠ dd1 → G2 b = some o → upd G2 dd1 (.frz od (.dK (dkv D.ds (as.map V.ref)))) b = some o := fun b o n e => by
      rw [upd_ne n]
      exact e
    have uL := keepL _ _ (neD o1b.1 (fun t z => nomatch z)) o1b.1
    have roL := keepL _ _ rod ero
    have dlL := keepL _ _ (neD edl (fun t z => nomatch z)) edl
    have penL : Pen (upd G2 dd1 (.frz od (.dK (dkv D.ds (as.map V.ref))))) p g := ⟨cs2, i2, r2, gp, keepL _ _ (neD hp2 (fun t z => nomatch z)) hp2, keepL _ _ (neD hg2 (fun t z => nomatch z)) hg2⟩
    generalize hL : upd G2 dd1 (.frz od (.dK (dkv D.ds (as.map V.ref)))) = L at dL keepL uL roL dlL penL ⊢
    have dlr : dl ≠ ro := fun z => by
      rw [z, ero] at edl
      cases edl
    have u1r : u1 ≠ ro := rop1 o1a.1
    have knd : ((dkv D.ds (as.map V.ref)).map (·.1)).Nodup := by
      rw [dkv_keys (by rw [List.length_map, adl1])]
      exact List.Pairwise.map _ (fun a b n z => n (Sum.inr.inj z)) iD.dnd
    have dkl : (dkv D.ds (as.map V.ref)).length = D.ds.length := dkv_len (by rw [List.length_map, adl1])
    have d4 := iD.dmost
    have ed1 := iE.dsome
    have ed4 := iE.dmost
    refine ⟨_, rfl, u1, _, 1, .ref dd1, rfl, rfl, .inl (.inl uL), rfl, dd1, od, rfl, .inl ⟨_, dL, ?_⟩⟩
    refine for_it walk_keys (fun i σ H' => ∃ (rs : List Addr) (rr : List (List Str)) (v6 : Option V), σ = [some (.ref p), some (.ref u1), some (.ref u2), some (.ref pl), some (.ref ro), some (.ref dl), v6, none, none, none, none] ∧ rs.length = i ∧ rr.length = i ∧ H' ro = some (.dK (dkv (D.ds.take i) (rs.map V.ref))) ∧
      Paired (fun a (row : List Str) => H' a = some (.lst (row.map V.str))) rs rr ∧ (∀ a ∈ rs, a ≠ p ∧ a ≠ ro ∧ a ≠ dd1) ∧ (∀ row ∈ rr, row.length ≤ 16 ∧ ∀ c ∈ row, c ∈ E.ds) ∧ (∀ b o, b ≠ p → b ≠ ro → L b = some o → H' b = some o) ∧ Pen H' p g) ?_ (fun i σ H' _ h => ?_) (fun i x σ H' H'' hi h y => ?_) (fun σ H' h => ?_)
    · exact ⟨[], [], none, rfl, rfl, rfl, roL, .nil, (fun a ha => nomatch ha), (fun a ha => nomatch ha), fun b o _ _ e => e, penL⟩
    · obtain ⟨_, _, _, _, _, _, _, _, _, _, keep, _⟩ := h
      exact keep _ _ n1.2.2.1 (Ne.symm rod) dL
    · obtain ⟨rs, rr, v6, rfl, rl, rrl, er, pr, rn, rg, keep, pen3⟩ := h
      obtain ⟨rfl, k, v, ekv, rfl⟩ := y
      obtain ⟨d, e1d, rfl, ev⟩ := dkv_at ekv
      have il := (List.getElem?_eq_some_iff.mp e1d).1
      refine ⟨_, rfl, sz _ (by show 6 ≤ 1000; decide), fun li nli => ⟨p, g, li, _, rfl, pen3.sm (Sm.new nli), upd_same, pn pen3 nli, by show 1 ≤ 6; decide, by show 6 ≤ 1000; decide, fun j x G3 ej s3 pen4 => ?_⟩⟩
      have s3 := (Sx.of (p := p) (Sm.new (o := .lst [.int 1, .int 1, .int 1, .int 0, .int 2, .int 3]) nli)).trans s3
      obtain ⟨z, rfl, hz⟩ : ∃ z : Nat, x = .int (z : Nat) ∧ z ≤ 3 := by
        match j, ej with
        | 0, ej => exact ⟨1, (Option.some.inj ej).symm, by decide⟩
        | 1, ej => exact ⟨1, (Option.some.inj ej).symm, by decide⟩
        | 2, ej => exact ⟨1, (Option.some.inj ej).symm, by decide⟩
        | 3, ej => exact ⟨0, (Option.some.inj ej).symm, by decide⟩
        | 4, ej => exact ⟨2, (Option.some.inj ej).symm, by decide⟩
        | 5, ej => exact ⟨3, (Option.some.inj ej).symm, by decide⟩
        | n + 6, ej => exact absurd ej (by simp)
      have er3 := s3 _ _ rop er
      have edl3 := s3 _ _ dlp (keep _ _ dlp dlr dlL)
      refine ⟨z, rfl, by omega, by omega, ?_⟩
      rw [show ((z : Nat) : Int).toNat = z from Int.toNat_natCast z]
      refine lc_row (K := K) (i := 9) (σ := [some (.ref p), some (.ref u1), some (.ref u2), some (.ref pl), some (.ref ro), some (.ref dl), some (.str d), none, none, none, none]) (tb := tVar 0) (tx := tVar 5) (by omega) edl3 dlp ed1 (by omega) pen4 (fun _ => rfl) (fun v G R h => ⟨_, rfl, h⟩) (fun v G R _ h => ⟨_, rfl, h⟩) fun a row G4 s4 pen5 na ea rowl rowg => ?_
      have er4 := s4 _ _ rop er3
      have aro : a ≠ ro := fun q => by
        rw [q, er3] at na
        cases na
      have ap : a ≠ p := pn pen4 na
      have add1 : a ≠ dd1 := fun q => by
        rw [q, s3 _ _ n1.2.2.1 (keep _ _ n1.2.2.1 (Ne.symm rod) dL)] at na
        cases na
      have tk : D.ds.take (i + 1) = D.ds.take i ++ [d] := by
        rw [List.take_add_one, e1d]
        rfl
      have il2 : (D.ds.take i).length = i := by
        rw [List.length_take]
        omega
      have pk : putK (dkv (D.ds.take i) (rs.map V.ref)) (.inr d) (.ref a) = dkv (D.ds.take (i + 1)) ((rs ++ [a]).map V.ref) := by
        rw [tk]
        exact put_dkv (by omega) (by rw [← tk]; exact iD.dnd.sublist (List.take_sublist _ _))
      refine ⟨_, rfl, _, rfl, ro, _, rfl, DPut.k (k := .inr d) er4 (by rw [dkv_len (by rw [List.length_map]; omega), sizeLine_eq]; omega), rs ++ [a], rr ++ [row], _, rfl, by rw [List.length_append, rl]; rfl, by rw [List.length_append, rrl]; rfl, ?_, ?_, ?_, ?_, ?_, ?_⟩
      · rw [upd_same, pk]
      · refine pair_more (pair_mono pr fun b hb ro2 e => ?_) ?_
        · rw [upd_ne (rn b hb).2.1]
          exact s4 _ _ (rn b hb).1 (s3 _ _ (rn b hb).1 e)
        · rw [upd_ne aro]
          exact ea
      · intro b hb
        rcases List.mem_append.mp hb with h | h
        · exact rn b h
        · rw [List.mem_singleton.mp h]
          exact ⟨ap, aro, add1⟩
      · intro r0 hr0
        rcases List.mem_append.mp hr0 with h | h
        · exact rg r0 h
        · rw [List.mem_singleton.mp h]
          exact ⟨by omega, rowg⟩
      · intro b o nb nr e
        rw [upd_ne nr]
        exact s4 _ _ nb (s3 _ _ nb (keep _ _ nb nr e))
      · obtain ⟨cs7, i7, r7, _, hp7, hg7⟩ := pen5
        exact ⟨cs7, i7, r7, gp, by rw [upd_ne (Ne.symm rop)]; exact hp7, by rw [upd_ne (fun q => by rw [q, er4] at hg7; cases hg7)]; exact hg7⟩
    · obtain ⟨rs, rr, v6, rfl, rl, rrl, er, pr, rn, rg, keep, pen3⟩ := h
      rw [dkl] at rl rrl er
      rw [List.take_length] at er
      -- unlocked
      have sF : Sx p H (upd H' dd1 (.dK (dkv D.ds (as.map V.ref)))) := fun b o nb e => by
        have e2 := s2 _ _ nb e
        by_cases c : b = dd1
        · rw [c] at e2 ⊢
          rw [o1b.2.2.1] at e2
          rw [upd_same]
          exact e2
        · rw [upd_ne c]
          refine keep _ _ nb (fun q => ?_) (keepL _ _ c e2)
          rw [q, roH] at e
          cases e
      have sG1 : Sx p G1 (upd H' dd1 (.dK (dkv D.ds (as.map V.ref)))) := fun b o nb e => by
        have e2 := sm2 _ _ e
        by_cases c : b = dd1
        · rw [c] at e2 ⊢
          rw [o1b.2.2.1] at e2
          rw [upd_same]
          exact e2
        · rw [upd_ne c]
          exact keep _ _ nb (rop1 e) (keepL _ _ c e2)
      have dL' := keep _ _ n1.2.2.1 (Ne.symm rod) dL
      have penF : Pen (upd H' dd1 (.dK (dkv D.ds (as.map V.ref)))) p g := by
        obtain ⟨cs7, i7, r7, _, hp7, hg7⟩ := pen3
        exact ⟨cs7, i7, r7, gp, by rw [upd_ne (Ne.symm n1.2.2.1)]; exact hp7, by rw [upd_ne (fun q => by rw [q, dL'] at hg7; cases hg7)]; exact hg7⟩
      have eroF : (upd H' dd1 (.dK (dkv D.ds (as.map V.ref)))) ro = some (.dK (dkv D.ds (rs.map V.ref))) := by
        rw [upd_ne rod]
        exact er
      have prF : Paired (fun a (row : List Str) => (upd H' dd1 (.dK (dkv D.ds (as.map V.ref)))) a = some (.lst (row.map V.str))) rs rr := pair_mono pr fun a ha row e => by
        rw [upd_ne (rn a ha).2.2]
        exact e
      refine ⟨dL', ?_⟩
      show tNext _ _ (upd H' dd1 (.dK (dkv D.ds (as.map V.ref))))
      generalize upd H' dd1 (.dK (dkv D.ds (as.map V.ref))) = F5 at sF sG1 penF eroF prF ⊢
      have o1f := o1.x sF n1
      have o2f := o2.x sF n2
      refine ⟨_, rfl, u1, nm1, dd1, sg1, D, as, rfl, o1f, iD, fun ls ys1 G6 m6 nls els pm1 => ?_⟩
      have lsp := pn penF nls
      have y1l : 1 ≤ ys1.length := by
        rw [pm1.length_eq]
        have l0 : 0 < D.ls.length := by rw [iD.looks]; exact iD.some
        have hm : D.ls[0]'l0 ∈ fm D.ls := (mem_fm _).mpr (List.getElem_mem l0)
        exact List.length_pos_of_mem hm
      have y1f : ys1.length ≤ 9 := by
        rw [pm1.length_eq]
        exact fm_few iD
      refine ⟨_, rfl, _, rfl, _, rfl, u2, nm2, dd2, sg2, E, bs, rfl, o2f.sm m6, iE, fun l2 ys2 G7 m7 nl2 el2 pm2 => ⟨l2, rfl, ⟨_, .inl (.inl el2)⟩, ?_⟩⟩
      have pen7 := penF.sm (m6.trans m7)
      have l2p := pn (penF.sm m6) nl2
      have y2nd : ys2.Nodup := pm2.nodup_iff.mpr (fm_nd _)
      have y2f : ys2.length ≤ 9 := by
        rw [pm2.length_eq]
        exact fm_few iE
      refine lc_one (K := K) (i := 10) (σ := [some (.ref p), some (.ref u1), some (.ref u2), some (.ref pl), some (.ref ro), some (.ref dl), v6, some (.ref ls), none, none, none]) (tb := tVar 0) (tx := tVar 7) el2 l2p (by omega) (m7 _ _ els) lsp y1l (by omega) pen7 (fun _ => rfl) (fun _ => rfl) (fun v G R h => ⟨_, rfl, h⟩) (fun v G R _ h => ⟨_, rfl, h⟩) fun D1 t1 ev G8 s8 pen8 nD1 eD1 prD1 evl evg => ⟨D1, t1, dkv ys2 (ev.map V.str), rfl, .inl (.inl eD1), prD1, fun ey ney0 => ⟨sz _ (by show 3 ≤ 1000; decide), fun u nu => ?_⟩⟩
      rw [dkv_merge (by rw [List.length_map, evl]) y2nd] at nu ⊢
      obtain ⟨eyp, ney, s9, pen9⟩ := dct_new (o := .dK (dkv ys2 (ev.map V.str))) pen8 s8 ney0
      have e9y : upd G8 ey (.dK (dkv ys2 (ev.map V.str))) ey = some (.dK (dkv ys2 (ev.map V.str))) := upd_same
      generalize upd G8 ey (.dK (dkv ys2 (ev.map V.str))) = G9 at s9 pen9 e9y nu ⊢
      have au := Sm.new (o := .lst [.ref pl, .ref ro, .ref ey]) nu
      have sE : Sx p F5 (upd G9 u (.lst [.ref pl, .ref ro, .ref ey])) := (Sx.of (m6.trans m7)).trans (s9.trans (Sx.of au))
      refine q u pl ro ey ys2 rs ⟨look D.ws pv, rlook D.ds rr, look ys2 ev⟩ _ (sF.trans sE) (pen9.sm au) (pn pen9 nu) plp rop eyp (fun a ha => (rn a ha).1) roH (by
        cases e : H u with
        | none => rfl
        | some o =>
          have z := (sF.trans ((Sx.of (m6.trans m7)).trans s9)) u o (pn pen9 nu) e
          rw [nu] at z
          cases z) ⟨upd_same, ?_, sE _ _ rop eroF, ?_, List.Perm.refl _, ?_, pm2⟩ ⟨fun z hz => pvg _ (look_mem pvl hz), fun d hd => rg _ (rlook_mem rrl hd), fun l hl => ?_⟩
      · show _ = some (HO.dK (dkv D.ws ((D.ws.map (look D.ws pv)).map V.str)))
        rw [map_look iD.nd pvl]
        exact sE _ _ plp (sG1 _ _ plp epl)
      · exact rlook_pair iD.dnd rrl (pair_mono prF fun a ha row e => sE _ _ (rn a ha).1 e)
      · show _ = some (HO.dK (dkv ys2 ((ys2.map (look ys2 ev)).map V.str)))
        rw [map_look y2nd evl]
        exact au _ _ e9y
      · exact pm1.mem_iff.mp (evg _ (look_mem evl (pm2.mem_iff.mpr hl)))
end
end Dk
set_option Elab.async false
set_option linter.all false
set_option maxRecDepth 100000
set_option maxHeartbeats 8000000
namespace Dk
open PySem PySem.Spec PyProof.Rows L2 Er LamX NdefX CmX
/-! ### _law_book -/
theorem pick_dkv {ws vs : List Str} (e : vs.length = ws.length) (nd : ws.Nodup) : picked (dkv ws (vs.map V.str)) ws = vs.map V.str := by
  unfold picked
  refine List.ext_getElem (by rw [List.length_map, List.length_map, e]) fun j h1 h2 => ?_
  rw [List.length_map] at h1 h2
  rw [List.getElem_map, dkv_get (by rw [List.length_map, e]) (List.getElem_mem h1), idx_of nd (List.getElem?_eq_getElem h1), List.getElem?_map, List.getElem?_eq_getElem h2, List.getElem_map]
  rfl
theorem tab_dkv {ws vs : List Str} (e : vs.length = ws.length) : tableB (dkv ws (vs.map V.str)) ws = true := dkv_table (by rw [List.length_map, e]) (List.Perm.refl _)
theorem lead_dkv {ws vs : List Str} (e : vs.length = ws.length) (h : ∀ z ∈ vs, z ∈ ws) : leadB (dkv ws (vs.map V.str)) ws = true := by
  unfold leadB
  rw [tab_dkv e, Bool.true_and, dkv_vals (by rw [List.length_map, e]), List.all_eq_true]
  intro y hy
  obtain ⟨z, hz, rfl⟩ := List.mem_map.mp hy
  exact decide_eq_true (h z hz)
theorem sight_dkv {ws vs : List Str} (e : vs.length = ws.length) (h : ∀ z ∈ vs, IsWord z) : sightB (dkv ws (vs.map V.str)) ws = true := by
  unfold sightB
  rw [tab_dkv e, Bool.true_and, dkv_vals (by rw [List.length_map, e]), List.all_eq_true]
  intro y hy
  obtain ⟨z, hz, rfl⟩ := List.mem_map.mp hy
  exact decide_eq_true (h z hz)
theorem deeds_dkv {ws ds : List Str} {us : List V} {tb : List (List Str)} (ul : us.length = ds.length) (d1 : 1 ≤ ds.length) (d4 : ds.length ≤ 4) (dw : ∀ z ∈ ds, IsWord z) (h : ∀ vs ∈ tb, vs.length = ws.length ∧ ∀ z ∈ vs, z ∈ ws) :
    deedB (dkv ds us) ((tb.map fun vs => dkv ws (vs.map V.str)).map some) ws = true := by
  unfold deedB
  rw [dkv_len ul, decide_eq_true ⟨d1, d4⟩, Bool.true_and, List.all_eq_true]
  intro b hb
  obtain ⟨⟨kv, t⟩, hp, rfl⟩ := List.mem_map.mp hb
  obtain ⟨j, hj⟩ := List.mem_iff_getElem?.mp hp
  obtain ⟨a, c⟩ := List.getElem?_zip_eq_some.mp hj
  obtain ⟨k, v⟩ := kv
  obtain ⟨z, ez, ek, _⟩ := dkv_at a
  rw [List.getElem?_map, List.getElem?_map] at c
  cases e : tb[j]? with
  | none =>
    rw [e] at c
    cases c
  | some vs =>
    rw [e] at c
    have c2 : some (dkv ws (vs.map V.str)) = t := Option.some.inj c
    subst c2 ek
    have q := h vs (List.mem_of_getElem? e)
    show (decide (IsWord z) && leadB (dkv ws (vs.map V.str)) ws) = true
    rw [decide_eq_true (dw z (List.mem_of_getElem? ez)), lead_dkv q.1 q.2]
    rfl
theorem itm_dkv {K : PySem.W.Frag} {H : Hp} {ws vs : List Str} (e : vs.length = ws.length) (h : ∀ z ∈ vs, z.length ≤ 1000) : ∀ y ∈ (dkv ws (vs.map V.str)).map (·.2), Itm K H y := fun y hy => by
  rw [dkv_vals (by rw [List.length_map, e])] at hy
  obtain ⟨z, hz, rfl⟩ := List.mem_map.mp hy
  exact .inl ⟨z, rfl, h z hz⟩
/-- a desk made of drawn parts -/
theorem make_desk {K : PySem.W.Frag} {C x dx nm dd sg : Addr} {D : DkD} {as : List Addr} {H : Hp} {Q : VK} {E : XK} (hx : H x = some (.ins C dx [])) (hnm : H nm = some (.lst (D.ws.map V.str))) (hdd : H dd = some (.dK (dkv D.ds (as.map V.ref)))) (hsg : H sg = some (.dK (dkv D.ws (D.ls.map V.str))))
    (pr : Paired (fun a vs => H a = some (.dK (dkv D.ws (vs.map V.str)))) as D.tb) (is : D.Is) (q : ∀ H', Sx x H H' → DOb K C H' x D → Q .non H') : spInit K C [.ref x, .ref nm, .ref dd, .ref sg] H Q E := by
  have al : as.length = D.ds.length := by rw [paired_len pr, is.rows]
  have w9 := is.most
  have short : ∀ z, IsWord z → z.length ≤ 1000 := fun z h => by
    have := h.2.1
    omega
  have ind : ∀ {a : Addr} {vs : List Str}, vs.length = D.ws.length → H a = some (.dK (dkv D.ws (vs.map V.str))) → a ≠ dd := fun {a vs} e h z => by
    rw [z, hdd] at h
    exact dkv_ne is.some e (HO.dK.inj (Option.some.inj h)).symm
  refine ⟨x, dx, nm, dd, sg, D.ws, D.ds, as.map V.ref, D.tb.map fun vs => dkv D.ws (vs.map V.str), dkv D.ws (D.ls.map V.str), rfl, hx, .inl (.inl (.inl hnm)), is.nd, stand_ok is.some is.most is.nd is.word, hdd, by rw [List.length_map, al], is.dnd, is.dword, ?_, deeds_dkv (by rw [List.length_map, al]) is.dsome is.dmost is.dword is.row, hsg, by rw [dkv_len (by rw [List.length_map, is.looks])]; omega, itm_dkv is.looks fun z hz => short z (is.look z hz), sight_dkv is.looks is.look, fun st ld si as2 H' sx hx2 n1 n2 hst hld hsi pr2 => ?_⟩
  · refine paired_of (by rw [List.length_map, List.length_map, al, is.rows]) fun j v t e1 e2 => ?_
    obtain ⟨a, ea, rfl⟩ := at_map e1
    rw [List.getElem?_map] at e2
    cases e3 : D.tb[j]? with
    | none =>
      rw [e3] at e2
      cases e2
    | some vs =>
      rw [e3] at e2
      obtain rfl := Option.some.inj e2
      obtain ⟨vs2, e4, ha⟩ := pair_at pr ea
      rw [e3] at e4
      obtain rfl := Option.some.inj e4
      have hv := is.row vs (List.mem_of_getElem? e3)
      exact ⟨a, rfl, ind hv.1 ha, ha, by rw [dkv_len (by rw [List.length_map, hv.1])]; omega, itm_dkv hv.1 fun z hz => short z (is.word z (hv.2 z hz))⟩
  · refine q H' sx ⟨dx, st, ld, si, as2, hx2, hst, hld, by rw [pick_dkv is.looks is.nd] at hsi; exact hsi, ?_⟩
    have l2 := paired_len pr2
    rw [List.length_map] at l2
    refine paired_of l2 fun j a vs e1 e2 => ?_
    obtain ⟨t, et, _, ha⟩ := pair_at pr2 e1
    rw [List.getElem?_map, e2] at et
    obtain rfl := Option.some.inj et
    rw [pick_dkv (is.row vs (List.mem_of_getElem? e2)).1 is.nd] at ha
    exact ha
/-- all but lists stay -/
def Nl (G G' : Hp) : Prop := ∀ b o, G b = some o → (∀ ys, o ≠ .lst ys) → G' b = some o
theorem Nl.put {G : Hp} {L : Addr} {ys : List V} {u : HO} (e : G L = some (.lst ys)) : Nl G (upd G L u) := fun b o eb n => by
  rw [upd_ne (fun z => by rw [z, e] at eb; exact n ys (Option.some.inj eb).symm)]
  exact eb
theorem Sm.nl {G G' : Hp} (m : Sm G G') : Nl G G' := fun b o e _ => m b o e
theorem SqT.nl {K : PySem.W.Frag} {G G' : Hp} {a : Addr} {xs : List V} (h : SqT K G a xs) (m : Nl G G') : SqT K G' a xs := by
  rcases h with (h | ⟨o, h⟩) | h
  · exact .inl (.inl (m _ _ h fun ys z => nomatch z))
  · exact .inl (.inr ⟨o, m _ _ h fun ys z => nomatch z⟩)
  · exact .inr h
theorem DeskOb.nl {K : PySem.W.Frag} {C : Addr} {G G' : Hp} {x : Addr} {ws ds : List Str} {tb : List (List Str)} {ls : List Str} (h : DeskOb K C G x ws ds tb ls) (m : Nl G G') : DeskOb K C G' x ws ds tb ls := by
  obtain ⟨dx, st, ld, si, as, hx, hst, hld, hsi, pr⟩ := h
  exact ⟨dx, st, ld, si, as, m _ _ hx (fun _ z => nomatch z), SqT.nl hst m, m _ _ hld (fun _ z => nomatch z), m _ _ hsi (fun _ z => nomatch z), pair_mono pr fun a _ vs e => m _ _ e (fun _ z => nomatch z)⟩
theorem ChOb.nl {K : PySem.W.Frag} {CD CC : Addr} {G G' : Hp} {c : Addr} {D E : DkD} {X : ChD} (h : ChOb K CD CC G c D E X) (m : Nl G G') : ChOb K CD CC G' c D E X := by
  obtain ⟨dx, a, b, p, r, e, as, h1, h2, h3, h4, h5, h6, h7⟩ := h
  exact ⟨dx, a, b, p, r, e, as, m _ _ h1 (fun _ z => nomatch z), h2.nl m, h3.nl m, m _ _ h4 (fun _ z => nomatch z), m _ _ h5 (fun _ z => nomatch z), pair_mono h6 fun a _ d t => SqT.nl t m, m _ _ h7 (fun _ z => nomatch z)⟩
theorem DksAt.nl {K : PySem.W.Frag} {CD : Addr} {H G : Hp} {xs : List Addr} {Ds : List DkD} (h : DksAt K CD H xs Ds) (m : Nl H G) : DksAt K CD G xs Ds := pair_mono h fun x _ D t => ⟨t.1.nl m, t.2⟩
end Dk
set_option Elab.async false
set_option linter.all false
set_option maxRecDepth 100000
set_option maxHeartbeats 8000000
namespace Dk
open PySem PySem.Spec PyProof.Rows L2 Er LamX NdefX CmX
def LksAt (H : Hp) (us : List Addr) (Ds : List DkD) : Prop := Paired (fun u D => (∃ nm dd sg as, DkL H u nm dd sg D as) ∧ D.Is) us Ds
def RawsAt (H : Hp) (rs : List Addr) (Ds : List DkD) (Xs : List ChD) : Prop := Paired (fun r t => (∃ pl rw ey k2 k3 ws, RawC H r pl rw ey k2 k3 ws t.1 t.2.1 t.2.2) ∧ t.2.2.Ok t.1 t.2.1) rs (lnk Ds Xs)
theorem LksAt.sm {H G : Hp} {us : List Addr} {Ds : List DkD} (h : LksAt H us Ds) (m : Sm H G) : LksAt G us Ds := pair_mono h fun u _ D ⟨⟨nm, dd, sg, as, t⟩, i⟩ => ⟨⟨nm, dd, sg, as, t.sm m⟩, i⟩
theorem RawsAt.sm {H G : Hp} {rs : List Addr} {Ds : List DkD} {Xs : List ChD} (h : RawsAt H rs Ds Xs) (m : Sm H G) : RawsAt G rs Ds Xs := pair_mono h fun u _ D ⟨⟨pl, rw, ey, k2, k3, ws, t⟩, i⟩ => ⟨⟨pl, rw, ey, k2, k3, ws, t.sm m⟩, i⟩
def spBook31 (K : PySem.W.Frag) (CD CC CB : Addr) : Sp := fun vs H Q _ => ∃ (wd ld lr : Addr) (us rs : List Addr) (Ds : List DkD) (Xs : List ChD), vs = [.ref wd] ∧ H wd = some (.lst [.ref ld, .ref lr]) ∧ H ld = some (.lst (us.map V.ref)) ∧ LksAt H us Ds ∧ H lr = some (.lst (rs.map V.ref)) ∧ RawsAt H rs Ds Xs ∧ Xs.length + 1 = Ds.length ∧ Ds.length ≤ 3 ∧
  ∀ (b : Addr) (xs cs : List Addr) (G : Hp), Sm H G → BkOb K CD CC CB G b xs cs Ds Xs → Q (.ref b) G
abbrev nBook31 : List Str := ["_law_world", "_law_desks", "_law_changes", "_law_at", "_law_change_here", "_law_desk_here"]
theorem scBook31 : FnScope nBook31 ["_law_world"] (defScope (top 57)) := ⟨rfl, rfl, rfl, by decide +kernel, rfl, by decide +kernel, by decide +kernel⟩
theorem raw_rows {H : Hp} {rf : Str → List Str} {rs : List Addr} {k2 : List Str} (h : Paired (LstAt rf H) rs k2) : RowsIn H (rs.map V.ref) k2 rf := rows_of h
section
variable {P : Program} {w : World} {K : PySem.W.Frag} {mg : Str → Option Value} {base : Heap} {f CD CC CB : Addr} {fd : FuncData}
theorem ok_book31 (F : FnP K "_law_book" (top 57) f fd) (me : mg "enumerate" = none) (GD : Cx_ P w K mg base CX0 CD 4 "Desk" ["self", "standings", "deeds", "sights"] (spInit K CD)) (GC : Cx_ P w K mg base CX0 CC 5 "Change" ["self", "first", "second", "places", "rows", "eyes"] (spChI K CD CC)) (GB : Cx_ P w K mg base CX0 CB 5 "Book" nBkI (spBkI K CD CC CB)) :
    FnOk P w K mg base CX0 7 f fd ["_law_world"] (spBook31 K CD CC CB) := by
  refine F.ok (CX := CX0) scBook31 (fun vs H Q E h => ?_) (fun cdv A outer s H vs Q E hr h => ?_)
  · obtain ⟨wd, ld, lr, us, rs, Ds, Xs, rfl, _⟩ := h
    rfl
  · refine ⟨_, PSs.nox (pss_cons (by exact (ps_setLc (i := 1) (own := [("_law_desk_here", 5)]) (g := gName 5) (tt := tYes) (te := tMake CD (spInit K CD) [] E0 (tCons (tOp (rIxL K) (tVar 5) (tC (.int 0))) (tCons (tOp (rIxL K) (tVar 5) (tC (.int 1))) (tCons (tOp (rIxL K) (tVar 5) (tC (.int 2))) tNil)))) rfl scBook31.nd rfl rfl (sw_true rfl rfl rfl (by decide +kernel)) (pi_list (by exact (pe_ix ix_list (pv 0) pe_int (fun _ _ => rfl))))
        (blkOk_by (N := nBook31) (sc := defScope (top 57)) (by decide +kernel)) (fun _ _ _ _ _ => pg_name (i := 5) scBook31.nd rfl (Or.inl rfl)) (fun _ _ _ _ _ => pts_nil) (fun _ _ _ _ _ => by exact (pe_cx GD hr (by decide) rfl (pa_cons (by exact (pe_ix ix_list (by exact (pv 5)) pe_int (fun _ _ => rfl))) (pa_cons (by exact (pe_ix ix_list (by exact (pv 5)) pe_int (fun _ _ => rfl))) (pa_cons (by exact (pe_ix ix_list (by exact (pv 5)) pe_int (fun _ _ => rfl))) pa_nil)))))))
      (pss_cons (ps_set (i := 2) scBook31.nd rfl (.inl rfl) (pe_lst pa_nil))
      (pss_cons (ps_for PassesOwn.never rfl (pi_enum rfl me (pa_cons (by exact (pe_ix ix_list (pv 0) pe_int (fun _ _ => rfl))) pa_nil)) (pg_tup rfl (pgs_cons (pg_name (i := 3) scBook31.nd rfl (.inl rfl)) (pgs_cons (pg_name (i := 4) scBook31.nd rfl (.inl rfl)) pgs_nil)))
        (pss_one (ps_expr (pe_bm PySem.F.plainAttrs_list PySem.F.slot_list_append PySem.F.type_list_append mt_append (pv 2) (pa_cons (by exact (pe_cx GC hr (by decide) rfl (pa_cons (by exact (pe_ix ix_list (pv 1) (pv 3) (fun _ _ => rfl))) (pa_cons (by exact (pe_ix ix_list (pv 1) (by exact (pe_op op_add (pv 3) pe_int)) (fun _ _ => rfl))) (pa_cons (by exact (pe_ix ix_list (pv 4) pe_int (fun _ _ => rfl))) (pa_cons (by exact (pe_ix ix_list (pv 4) pe_int (fun _ _ => rfl))) (pa_cons (by exact (pe_ix ix_list (pv 4) pe_int (fun _ _ => rfl))) pa_nil))))))) pa_nil)))))
      (pss_one (ps_ret (by exact (pe_cx GB hr (by decide) rfl (pa_cons (pv 1) (pa_cons (pv 2) pa_nil))))))))), ?_⟩
    obtain ⟨wd, ld, lr, us, rs, Ds, Xs, rfl, hw, hld, dks, hlr, raws, xl, d3, q⟩ := h
    have ul := paired_len dks
    have rl := paired_len raws
    rw [lnk_len xl] at rl
    refine ⟨_, rfl, wd, _, 0, .ref ld, rfl, rfl, .inl (.inl hw), rfl, ld, rfl, ⟨_, .inl (.inl hld)⟩, fun L nL => ?_⟩
    refine lc_it (walk_list (xs := us.map V.ref)) (vs := [5]) (g := gName 5) (fun j G => ∃ xs : List Addr, G L = some (.lst (xs.map V.ref)) ∧ DksAt K CD G xs (Ds.take j) ∧ Sm H G) ⟨[], upd_same, .nil, Sm.new nL⟩ (fun j G _ ⟨_, _, _, m⟩ => .inl (.inl (m _ _ hld))) (fun j v G G' hj h yy => ?_) (fun G h => ?_)
    · obtain ⟨xs, eL, dk, mm⟩ := h
      obtain ⟨rfl, ex⟩ := yy
      obtain ⟨u, eu, rfl⟩ := at_map ex
      obtain ⟨D, eD, ⟨nm, dd, sg, as, o⟩, is⟩ := pair_at dks eu
      have o := o.sm mm
      have tk : Ds.take (j + 1) = Ds.take j ++ [D] := by
        rw [List.take_add_one, eD]
        rfl
      have xsl := paired_len dk
      rw [List.length_take] at xsl
      refine ⟨rfl, ?_⟩
      unfold tYes
      dsimp only
      rw [if_pos rfl]
      have S : SqL K G' u [.ref nm, .ref dd, .ref sg] := .inl (.inl o.1)
      refine ⟨_, rfl, u, _, 0, .ref nm, rfl, rfl, S, rfl, _, rfl, u, _, 1, .ref dd, rfl, rfl, S, rfl, _, rfl, u, _, 2, .ref sg, rfl, rfl, S, rfl, fun x dx nx ndx ne => ?_⟩
      have mN := new2 (o := .own x) (u := .ins CD dx []) nx ndx
      have oN := o.sm mN
      refine make_desk upd_same oN.2.1 oN.2.2.1 oN.2.2.2.1 oN.2.2.2.2 is fun H2 sx ob => ⟨rfl, ?_⟩
      have m2 := make_sm nx ndx sx
      have eL2 := m2 _ _ eL
      have dk2 := dk.sm m2
      refine ⟨_, eL2, by rw [List.length_map, sizeLine_eq]; omega, xs ++ [x], by rw [upd_same, List.map_append]; rfl, ?_, fun b o e => ?_⟩
      · rw [tk]
        exact pair_more (DksAt.nl dk2 (Nl.put eL2)) ⟨ob.nl (Nl.put eL2), is⟩
      · rw [upd_ne (ne_of_none e nL)]
        exact m2 _ _ (mm _ _ e)
    · obtain ⟨xs, eL, dk, mm⟩ := h
      rw [List.length_map, ul, List.take_length] at dk
      have xsl := paired_len dk
      have Lld : ∀ {b : Addr} {o : HO}, H b = some o → b ≠ L := fun {b o} e z => by
        rw [z, nL] at e
        cases e
      refine ⟨by rw [sizeLine_eq]; show 0 ≤ _; omega, fun M nM => ?_⟩
      have LM : L ≠ M := fun z => by
        rw [← z, eL] at nM
        cases nM
      have MH : H M = none := none_of_sm mm nM
      have aM := Sm.new (o := .lst []) nM
      have eM : upd G M (.lst []) M = some (.lst []) := upd_same
      have eL := aM _ _ eL
      have dk := dk.sm aM
      have mm := mm.trans aM
      generalize upd G M (.lst []) = G1 at eM eL dk mm ⊢
      refine ⟨_, rfl, wd, _, 1, .ref lr, rfl, rfl, .inl (.inl (mm _ _ hw)), rfl, lr, rs.map V.ref, rfl, .inl (.inl (mm _ _ hlr)), ?_⟩
      refine for_it (walk_enum (xs := rs.map V.ref)) (fun j σ G => ∃ (cs : List Addr) (v3 v4 : Option V), σ = [some (.ref wd), some (.ref L), some (.ref M), v3, v4, none] ∧ G M = some (.lst (cs.map V.ref)) ∧ G L = some (.lst (xs.map V.ref)) ∧ DksAt K CD G xs Ds ∧ Paired (fun c t => ChOb K CD CC G c t.1 t.2.1 t.2.2) cs ((lnk Ds Xs).take j) ∧ Sm H G) ?_ (fun j σ G _ h => ?_) (fun j v σ G G' hj h yy => ?_) (fun σ G h => ?_)
      · exact ⟨[], none, none, rfl, eM, eL, dk, .nil, mm⟩
      · obtain ⟨_, _, _, _, _, _, _, _, m⟩ := h
        exact .inl (.inl (m _ _ hlr))
      · obtain ⟨cs, v3, v4, rfl, eM, eL, dk, chs, mm⟩ := h
        obtain ⟨T, z1, z2, rfl, nT, rfl, f1, f2⟩ := yy
        cases Option.some.inj f1
        obtain ⟨r, er, rfl⟩ := at_map f2
        obtain ⟨⟨D, E2, X⟩, et, ⟨pl, rw_, ey, k2, k3, ws, o⟩, ok⟩ := pair_at raws er
        obtain ⟨g1, g2, g3⟩ := lnk_at et
        have g1 : Ds[j]? = some D := g1
        have g2 : Ds[j + 1]? = some E2 := g2
        have mT := Sm.new (o := .tup [.int ((j : Nat) : Int), .ref r]) nT
        have eT : upd G T (.tup [.int ((j : Nat) : Int), .ref r]) T = some (.tup [.int ((j : Nat) : Int), .ref r]) := upd_same
        have eM := mT _ _ eM
        have eL := mT _ _ eL
        have dk := dk.sm mT
        have chs : Paired (fun c (t : DkD × DkD × ChD) => ChOb K CD CC (upd G T (.tup [.int ((j : Nat) : Int), .ref r])) c t.1 t.2.1 t.2.2) cs ((lnk Ds Xs).take j) := pair_mono chs fun c _ t h => h.sm mT
        have mm := mm.trans mT
        generalize upd G T (.tup [.int ((j : Nat) : Int), .ref r]) = G4 at eT eM eL dk chs mm ⊢
        have o := o.sm mm
        have at_ : ∀ {i : Nat} {D : DkD}, Ds[i]? = some D → ∃ x, xs[i]? = some x ∧ DOb K CD G4 x D ∧ D.Is := fun {i D} e => by
          have il : i < xs.length := by
            have := (List.getElem?_eq_some_iff.mp e).1
            omega
          obtain ⟨D2, e2, ob⟩ := pair_at dk (List.getElem?_eq_getElem il)
          rw [e] at e2
          obtain rfl := Option.some.inj e2
          exact ⟨_, List.getElem?_eq_getElem il, ob⟩
        obtain ⟨x1, ex1, ob1, is1⟩ := at_ g1
        obtain ⟨x2, ex2, ob2, is2⟩ := at_ g2
        have SL : SqL K G4 L (xs.map V.ref) := .inl (.inl eL)
        have SR : SqL K G4 r [.ref pl, .ref rw_, .ref ey] := .inl (.inl o.at_)
        have csl := paired_len chs
        rw [List.length_take, lnk_len xl] at csl
        have tk : (lnk Ds Xs).take (j + 1) = (lnk Ds Xs).take j ++ [(D, E2, X)] := by
          rw [List.take_add_one, et]
          rfl
        refine ⟨T, _, rfl, .inl (.inl eT), rfl, _, _, rfl, _, _, rfl, rfl, ?_⟩
        refine ⟨_, rfl, .inl ⟨rfl, _, .inl (.inl eM)⟩, _, rfl, _, rfl, L, _, _, .ref x1, rfl, rfl, SL, atI_nat (by rw [List.getElem?_map, ex1]; rfl), _, rfl, _, rfl, _, _, rfl, rfl, L, _, _, .ref x2, rfl, rfl, SL, atI_nat (j := j + 1) (by rw [List.getElem?_map, ex2]; rfl), _, rfl, r, _, 0, .ref pl, rfl, rfl, SR, rfl, _, rfl, r, _, 1, .ref rw_, rfl, rfl, SR, rfl, _, rfl, r, _, 2, .ref ey, rfl, rfl, SR, rfl, fun c dc nc ndc ne => ?_⟩
        have mN := new2 (o := .own c) (u := .ins CC dc []) nc ndc
        refine ⟨c, dc, x1, x2, pl, rw_, ey, D, E2, X, D.ws, k2, k3, ws.map V.ref, rfl, upd_same, ob1.sm mN, is1, ob2.sm mN, is2, ok, mN _ _ o.pl_, List.Perm.refl _, mN _ _ o.rw_, (raw_rows o.rs_).sm mN, o.pm2, mN _ _ o.ey_, o.pm3, fun H' sx oc => ⟨rfl, ?_⟩⟩
        have m2 := make_sm nc ndc sx
        have eM2 := m2 _ _ eM
        refine ⟨M, _, .ref c, rfl, rfl, eM2, by rw [List.length_map, sizeLine_eq]; omega, cs ++ [c], _, _, rfl, by rw [upd_same, List.map_append]; rfl, by rw [upd_ne LM]; exact m2 _ _ eL, DksAt.nl (dk.sm m2) (Nl.put eM2), ?_, fun b o e => ?_⟩
        · rw [tk]
          exact pair_more (pair_mono chs fun c _ t h => (h.sm m2).nl (Nl.put eM2)) (oc.nl (Nl.put eM2))
        · rw [upd_ne (fun z => by rw [z, MH] at e; cases e)]
          exact m2 _ _ (mm _ _ e)
      · obtain ⟨cs, v3, v4, rfl, eM, eL, dk, chs, mm⟩ := h
        rw [List.length_map, rl, ← lnk_len xl, List.take_length] at chs
        refine ⟨_, rfl, _, rfl, fun b db nb ndb ne => ?_⟩
        have mN := new2 (o := .own b) (u := .ins CB db []) nb ndb
        exact ⟨b, db, L, M, xs, cs, Ds, Xs, rfl, upd_same, .inl (.inl (.inl (mN _ _ eL))), dk.sm mN, by omega, d3, .inl (.inl (mN _ _ eM)), ChsAt.sm chs mN, xl, fun H' sx ob => ⟨rfl, q b xs cs H' (mm.trans (make_sm nb ndb sx)) ob⟩⟩
end
end Dk
set_option Elab.async false
set_option linter.all false
set_option maxRecDepth 100000
set_option maxHeartbeats 8000000
namespace Dk
open PySem PySem.Spec PyProof.Rows L2 Er LamX NdefX CmX
/-! ### _law_joined -/
theorem lc_tab {K : PySem.W.Frag} {nm : Addr} {ws : List Str} {f : Str → Str} {σ : L2.St} {i : Nat} {H1 : Hp} {Q : Addr → Hp → Prop} {te2 : TE} (hn : H1 nm = some (.lst (ws.map V.str))) (few : ws.length ≤ 1000)
    (w1 : ∀ v, wipe ((wipe σ [i]).set i (some v)) [i] = wipe σ [i]) (s1 : ∀ v, ((wipe σ [i]).set i (some v))[i]? = some (some v))
    (ev : ∀ z ∈ ws, ∀ (G : Hp) (R : VK), Sm H1 G → R (.str (f z)) G → te2 ((wipe σ [i]).set i (some (.str z))) G R)
    (q : ∀ (D : Addr) (ts : List Addr) (G : Hp), Sm H1 G → H1 D = none → G D = some (.lst (ts.map V.ref)) → Paired (fun t (kv : Key × V) => SqT K G t [kV kv.1, kv.2]) ts (tabS ws f) → Q D G) :
    LcR (tTup (tCons (tVar i) (tCons te2 tNil))) σ i H1 Q (Itl K nm) := by
  intro D nD
  refine lc_it (walk_list (xs := ws.map V.str)) (vs := [i]) (g := gName i) (fun j G => ∃ ts : List Addr, G D = some (.lst (ts.map V.ref)) ∧ ts.length = j ∧ (∀ (k : Nat) (t : Addr), ts[k]? = some t → t ≠ D ∧ G t = some (.tup [.str (ws.getD k ⟨#[]⟩), ((ws.map f).map V.str).getD k .non])) ∧ Sm H1 G) ⟨[], upd_same, rfl, (fun k t e => by simp at e), Sm.new nD⟩ (fun j G _ h => ?_) (fun j x G G' hj h yy => ?_) (fun G h => ?_)
  · obtain ⟨_, _, _, _, m⟩ := h
    exact .inl (.inl (m _ _ hn))
  · obtain ⟨ts, eD, tl, tup, mm⟩ := h
    obtain ⟨rfl, exx⟩ := yy
    obtain ⟨z, ez, rfl⟩ := str_atS exx
    refine ⟨w1 _, ?_⟩
    unfold tYes
    dsimp only
    rw [if_pos rfl]
    refine ⟨_, s1 _, ev z (List.mem_of_getElem? ez) _ _ mm ⟨by rw [sizeLine_eq]; show 2 ≤ _; omega, fun t nt => ?_⟩⟩
    have mt := Sm.new (o := .tup [.str z, .str (f z)]) nt
    have et : upd G' t (.tup [.str z, .str (f z)]) t = some (.tup [.str z, .str (f z)]) := upd_same
    have eD4 := mt _ _ eD
    have tD : t ≠ D := fun e => by
      rw [e, eD] at nt
      cases nt
    have old : ∀ (k : Nat) (u : Addr), ts[k]? = some u → u ≠ D ∧ upd G' t (.tup [.str z, .str (f z)]) u = some (.tup [.str (ws.getD k ⟨#[]⟩), ((ws.map f).map V.str).getD k .non]) := fun k u e => ⟨(tup k u e).1, mt _ _ (tup k u e).2⟩
    have mm4 := mm.trans mt
    generalize upd G' t (.tup [.str z, .str (f z)]) = G4 at mt et eD4 old mm4 ⊢
    have hj2 : j < ws.length := (List.getElem?_eq_some_iff.mp ez).1
    refine ⟨_, eD4, by rw [List.length_map, tl, sizeLine_eq]; omega, ts ++ [t], ?_, by rw [List.length_append, tl]; rfl, fun k u e => ?_, fun b o e => ?_⟩
    · rw [upd_same, List.map_append]
      rfl
    · by_cases c : k < ts.length
      · rw [List.getElem?_append_left c] at e
        obtain ⟨b, cc⟩ := old k u e
        exact ⟨b, by rw [upd_ne b]; exact cc⟩
      · have kk : k = ts.length := by
          have := (List.getElem?_eq_some_iff.mp e).1
          rw [List.length_append] at this
          have : k < ts.length + 1 := this
          omega
        rw [kk, List.getElem?_append_right (Nat.le_refl _), Nat.sub_self] at e
        obtain rfl : t = u := Option.some.inj e
        refine ⟨tD, ?_⟩
        rw [upd_ne tD, et, kk, tl, List.getD_eq_getElem?_getD (l := ws), ez, List.getD_eq_getElem?_getD, List.getElem?_map, List.getElem?_map, ez]
        rfl
    · rw [upd_ne (ne_of_none e nD)]
      exact mm4 _ _ e
  · obtain ⟨ts, eD, tl, tup, mm⟩ := h
    rw [List.length_map] at tl
    exact q D ts G mm nD eD (pair_dkv tl (by rw [List.length_map, List.length_map]) fun k t e => (tup k t e).2)
theorem tab_merge {ws : List Str} {f : Str → Str} (nd : ws.Nodup) : mergeK [] (tabS ws f) = tabS ws f := dkv_merge (by rw [List.length_map, List.length_map]) nd
def spJoined31 : Sp := fun vs H Q _ => ∃ (r1 pl1 rw1 ey1 r2 pl2 rw2 ey2 u1 nm1 dd1 sg1 u3 nm3 dd3 sg3 : Addr) (k2 k3 k2' k3' : List Str) (w1 w2 as bs : List Addr) (D M N : DkD) (X Y : ChD), vs = [.ref r1, .ref r2, .ref u1, .ref u3] ∧ RawC H r1 pl1 rw1 ey1 k2 k3 w1 D M X ∧ RawC H r2 pl2 rw2 ey2 k2' k3' w2 M N Y ∧
  X.Ok D M ∧ Y.Ok M N ∧ DkL H u1 nm1 dd1 sg1 D as ∧ DkL H u3 nm3 dd3 sg3 N bs ∧ D.Is ∧ M.Is ∧ N.Is ∧ ∀ (u pl rw ey : Addr) (j3 : List Str) (ws : List Addr) G, Sm H G → H u = none → RawC G u pl rw ey D.ds j3 ws D N (joinX X Y) → Q (.ref u) G
abbrev nJo31 : List Str := ["_law_first", "_law_second", "_law_elder", "_law_newest", "_law_places", "_law_rows", "_law_deed", "_law_row", "_law_one", "_law_name", "_law_sight"]
theorem scJo31 : FnScope nJo31 ["_law_first", "_law_second", "_law_elder", "_law_newest"] (defScope (top 58)) := ⟨rfl, rfl, rfl, by decide +kernel, rfl, by decide +kernel, by decide +kernel⟩
theorem lst_at {H : Hp} {ws : List Addr} {ks : List Str} {rf : Str → List Str} (h : Paired (LstAt rf H) ws ks) {d : Str} (hd : d ∈ ks) : ∃ a, valV (dkv ks (ws.map V.ref)) (.inr d) = some (.ref a) ∧ H a = some (.lst ((rf d).map V.str)) := by
  have al := paired_len h
  have il := idx_lt hd
  have e1 : ws[ks.idxOf d]? = some (ws[ks.idxOf d]'(by omega)) := List.getElem?_eq_getElem _
  obtain ⟨d2, e2, t⟩ := pair_at h e1
  rw [List.getElem?_eq_getElem il, List.getElem_idxOf il] at e2
  obtain rfl := Option.some.inj e2
  refine ⟨_, ?_, t⟩
  rw [dkv_get (by rw [List.length_map, al]) hd, List.getElem?_map, e1]
  rfl
theorem rd_lock {H : Hp} {a d : Addr} {od : Obj} {t t1 : List (Key × V)} (ha : H a = some (.dK t)) (hd : H d = some (.dK t1)) : Rd (upd H d (.frz od (.dK t1))) a (.dK t) := by
  by_cases c : a = d
  · rw [c] at ha ⊢
    rw [ha] at hd
    obtain rfl := HO.dK.inj (Option.some.inj hd)
    exact .inr ⟨od, upd_same⟩
  · exact .inl (by rw [upd_ne c]; exact ha)
section
variable {P : Program} {w : World} {K : PySem.W.Frag} {mg : Str → Option Value} {base : Heap} {f : Addr} {fd : FuncData}
theorem ok_joined31 (F : FnP K "_law_joined" (top 58) f fd) (md : mg "dict" = none) (GS : Fx P w K mg base CX0 1 "_law_sights" ["_law_desk_here"] spSights31) : FnOk P w K mg base CX0 2 f fd ["_law_first", "_law_second", "_law_elder", "_law_newest"] spJoined31 := by
  refine F.ok (CX := CX0) scJo31 (fun vs H Q E h => ?_) (fun cdv A outer s H vs Q E hr h => ?_)
  · obtain ⟨r1, pl1, rw1, ey1, r2, pl2, rw2, ey2, u1, nm1, dd1, sg1, u3, nm3, dd3, sg3, k2, k3, k2', k3', w1, w2, as, bs, D, M, N, X, Y, rfl, _⟩ := h
    rfl
  · refine ⟨_, PSs.nox (pss_cons (ps_set (i := 4) scJo31.nd rfl (.inl rfl) (by exact (pe_callTy (call_dictP rfl) rfl md PyProof.Rows.boot_dict (pa_cons (by exact (pe_lc (own := [("_law_name", 9)]) (g := gName 9) (tt := tYes) (te := tTup (tCons (tVar 9) (tCons (tDGet (tOp (rIxL K) (tVar 1) (tC (.int 0))) (tDGet (tOp (rIxL K) (tVar 0) (tC (.int 0))) (tVar 9))) tNil))) rfl scJo31.nd (pi_list (by exact (pe_ix ix_list (pv 2) pe_int (fun _ _ => rfl))))
          (blkOk_by (N := nJo31) (sc := defScope (top 58)) (by decide +kernel)) (fun _ _ _ _ _ => pg_name (i := 9) scJo31.nd rfl (Or.inl rfl)) (fun _ _ _ _ _ => pts_nil) (fun _ _ _ _ _ => by exact (pe_tup (pa_cons (by exact (pv 9)) (pa_cons (by exact (pe_dget (hu_of hr) (by exact (pe_ix ix_list (by exact (pv 1)) pe_int (fun _ _ => rfl))) (by exact (pe_dget (hu_of hr) (by exact (pe_ix ix_list (by exact (pv 0)) pe_int (fun _ _ => rfl))) (by exact (pv 9)) (fun _ _ => rfl))) (fun _ _ => rfl))) pa_nil)))))) pa_nil))))
      (pss_cons (ps_set (i := 5) scJo31.nd rfl (.inl rfl) pe_dnewK)
      (pss_cons (ps_lock (ps_for PassesOwn.never rfl (pi_keys (by exact (pe_ix ix_list (pv 2) pe_int (fun _ _ => rfl)))) (pg_name (i := 6) scJo31.nd rfl (.inl rfl))
        (pss_cons (ps_set (i := 7) scJo31.nd rfl (.inl rfl) (pe_lst pa_nil))
        (pss_cons (ps_for PassesOwn.never rfl (pi_list (by exact (pe_dget (hu_of hr) (by exact (pe_ix ix_list (pv 0) pe_int (fun _ _ => rfl))) (pv 6) (fun _ _ => rfl)))) (pg_name (i := 8) scJo31.nd rfl (.inl rfl))
          (pss_one (ps_expr (pe_bm PySem.F.plainAttrs_list PySem.F.slot_list_extend PySem.F.type_list_extend mt_extend (pv 7) (pa_cons (by exact (pe_dget (hu_of hr) (by exact (pe_ix ix_list (pv 1) pe_int (fun _ _ => rfl))) (pv 8) (fun _ _ => rfl))) pa_nil)))))
        (pss_one (ps_dput (hu_of hr) (pv 5) (pv 6) (pv 7) (by rfl)))))))
      (pss_one (ps_ret (by exact (pe_lst (pa_cons (pv 4) (pa_cons (pv 5) (pa_cons (by exact (pe_callTy (call_dictP rfl) rfl md PyProof.Rows.boot_dict (pa_cons (by exact (pe_lc (own := [("_law_sight", 10)]) (g := gName 10) (tt := tYes) (te := tTup (tCons (tVar 10) (tCons (tDGet (tOp (rIxL K) (tVar 0) (tC (.int 2))) (tDGet (tOp (rIxL K) (tVar 1) (tC (.int 2))) (tVar 10))) tNil))) rfl scJo31.nd (pi_list (by exact (pe_fx GS hr (by decide) rfl (pa_cons (pv 3) pa_nil))))
          (blkOk_by (N := nJo31) (sc := defScope (top 58)) (by decide +kernel)) (fun _ _ _ _ _ => pg_name (i := 10) scJo31.nd rfl (Or.inl rfl)) (fun _ _ _ _ _ => pts_nil) (fun _ _ _ _ _ => by exact (pe_tup (pa_cons (by exact (pv 10)) (pa_cons (by exact (pe_dget (hu_of hr) (by exact (pe_ix ix_list (by exact (pv 0)) pe_int (fun _ _ => rfl))) (by exact (pe_dget (hu_of hr) (by exact (pe_ix ix_list (by exact (pv 1)) pe_int (fun _ _ => rfl))) (by exact (pv 10)) (fun _ _ => rfl))) (fun _ _ => rfl))) pa_nil)))))) pa_nil))) pa_nil)))))))))), ?_⟩
    obtain ⟨r1, pl1, rw1, ey1, r2, pl2, rw2, ey2, u1, nm1, dd1, sg1, u3, nm3, dd3, sg3, k2, k3, k2', k3', w1, w2, as, bs, D, M, N, X, Y, rfl, c1, c2, ok1, ok2, o1, o3, iD, iM, iN, q⟩ := h
    have sz : ∀ n : Nat, n ≤ 1000 → n ≤ sizeLine := fun n z => by
      rw [sizeLine_eq]
      omega
    have w9 := iD.most
    refine ⟨_, rfl, u1, _, 0, .ref nm1, rfl, rfl, .inl (.inl o1.1), rfl, nm1, rfl, ⟨_, .inl (.inl o1.2.1)⟩, ?_⟩
    refine lc_tab (K := K) (i := 9) (f := (joinX X Y).pf) (σ := [some (.ref r1), some (.ref r2), some (.ref u1), some (.ref u3), none, none, none, none, none, none, none]) (te2 := tDGet (tOp (rIxL K) (tVar 1) (tC (.int 0))) (tDGet (tOp (rIxL K) (tVar 0) (tC (.int 0))) (tVar 9))) o1.2.1 (by omega) (fun _ => rfl) (fun _ => rfl) (fun z hz G R m h => ?_) fun D0 ts G0 m0 nD0 eD0 prD => ⟨D0, ts, _, rfl, .inl (.inl eD0), prD, fun pl npl => ?_⟩
    · exact ⟨_, rfl, r2, _, 0, .ref pl2, rfl, rfl, .inl (.inl (m _ _ c2.at_)), rfl, _, rfl, r1, _, 0, .ref pl1, rfl, rfl, .inl (.inl (m _ _ c1.at_)), rfl, _, rfl, pl1, .str (X.pf z), rfl, .inl ⟨_, .inr z, .inl (m _ _ c1.pl_), rfl, (row_at hz).symm⟩, pl2, .str (Y.pf (X.pf z)), rfl, .inl ⟨_, .inr (X.pf z), .inl (m _ _ c2.pl_), rfl, (row_at (ok1.p z hz)).symm⟩, h⟩
    rw [tab_merge iD.nd]
    have apl := Sm.new (o := .dK (tabS D.ws (joinX X Y).pf)) npl
    have epl : upd G0 pl (.dK (tabS D.ws (joinX X Y).pf)) pl = some (.dK (tabS D.ws (joinX X Y).pf)) := upd_same
    have m1 := m0.trans apl
    show tNext _ _ (upd G0 pl (.dK (tabS D.ws (joinX X Y).pf)))
    generalize upd G0 pl (.dK (tabS D.ws (joinX X Y).pf)) = G1 at epl m1 ⊢
    intro ro nro
    have aro := Sm.new (o := .dK []) nro
    have ero : upd G1 ro (.dK []) ro = some (.dK []) := upd_same
    have roH : H ro = none := none_of_sm m1 nro
    have rop1 : ∀ {b : Addr} {o : HO}, G1 b = some o → b ≠ ro := fun {b o} e z => by
      rw [z, nro] at e
      cases e
    have m2 := m1.trans aro
    have plr := rop1 epl
    have epl := aro _ _ epl
    generalize upd G1 ro (.dK []) = G2 at ero m2 epl aro ⊢
    have o1b := o1.sm m2
    have al := paired_len o1b.2.2.2.2
    have adl1 : as.length = D.ds.length := by rw [al, iD.rows]
    have rod : ro ≠ dd1 := fun z => by
      have := o1.2.2.1
      rw [← z, roH] at this
      cases this
    have c1b := c1.sm m2
    have c2b := c2.sm m2
    refine ⟨dd1, .dK (dkv D.ds (as.map V.ref)), o1b.2.2.1, True.intro, fun od => ?_⟩
    have dL : upd G2 dd1 (.frz od (.dK (dkv D.ds (as.map V.ref)))) dd1 = some (.frz od (.dK (dkv D.ds (as.map V.ref)))) := upd_same
    have keepL : ∀ b o, b ≠ dd1 → G2 b = some o → upd G2 dd1 (.frz od (.dK (dkv D.ds (as.map V.ref)))) b = some o := fun b o n e => by
      rw [upd_ne n]
      exact e
    have neD : ∀ {b : Addr} {o : HO}, G2 b = some o → (∀ t, o ≠ .dK t) → b ≠ dd1 := fun {b o} e n z => by
      rw [z, o1b.2.2.1] at e
      exact n _ (Option.some.inj e).symm
    have uL := keepL _ _ (neD o1b.1 (fun t z => nomatch z)) o1b.1
    have r1L := keepL _ _ (neD c1b.at_ (fun t z => nomatch z)) c1b.at_
    have r2L := keepL _ _ (neD c2b.at_ (fun t z => nomatch z)) c2b.at_
    have q1L := rd_lock (od := od) c1b.rw_ o1b.2.2.1
    have q2L := rd_lock (od := od) c2b.rw_ o1b.2.2.1
    have w1L : Paired (LstAt X.rf (upd G2 dd1 (.frz od (.dK (dkv D.ds (as.map V.ref)))))) w1 k2 := pair_mono c1b.rs_ fun a _ d e => keepL _ _ (neD e (fun t z => nomatch z)) e
    have w2L : Paired (LstAt Y.rf (upd G2 dd1 (.frz od (.dK (dkv D.ds (as.map V.ref)))))) w2 k2' := pair_mono c2b.rs_ fun a _ d e => keepL _ _ (neD e (fun t z => nomatch z)) e
    have roL := keepL _ _ rod ero
    generalize hL : upd G2 dd1 (.frz od (.dK (dkv D.ds (as.map V.ref)))) = L at dL keepL uL r1L r2L q1L q2L w1L w2L roL ⊢
    have knd : ((dkv D.ds (as.map V.ref)).map (·.1)).Nodup := by
      rw [dkv_keys (by rw [List.length_map, adl1])]
      exact List.Pairwise.map _ (fun a b n z => n (Sum.inr.inj z)) iD.dnd
    have dkl : (dkv D.ds (as.map V.ref)).length = D.ds.length := dkv_len (by rw [List.length_map, adl1])
    have d4 := iD.dmost
    have u1r : u1 ≠ ro := fun z => by
      have := o1.1
      rw [z, roH] at this
      cases this
    have old : ∀ {b : Addr} {o : HO}, L b = some o → (∀ t, o ≠ .dK t) → b ≠ ro := fun {b o} e n z => by
      rw [z, roL] at e
      exact n _ (Option.some.inj e).symm
    refine ⟨_, rfl, u1, _, 1, .ref dd1, rfl, rfl, .inl (.inl uL), rfl, dd1, od, rfl, .inl ⟨_, dL, ?_⟩⟩
    refine for_it walk_keys (fun i σ H' => ∃ (ws : List Addr) (v6 v7 v8 : Option V), σ = [some (.ref r1), some (.ref r2), some (.ref u1), some (.ref u3), some (.ref pl), some (.ref ro), v6, v7, v8, none, none] ∧ ws.length = i ∧ H' ro = some (.dK (dkv (D.ds.take i) (ws.map V.ref))) ∧
      Paired (LstAt (joinX X Y).rf H') ws (D.ds.take i) ∧ (∀ a ∈ ws, a ≠ ro ∧ a ≠ dd1) ∧ (∀ b o, b ≠ ro → L b = some o → H' b = some o)) ?_ (fun i σ H' _ h => ?_) (fun i x σ H' H'' hi h y => ?_) (fun σ H' h => ?_)
    · exact ⟨[], none, none, none, rfl, rfl, roL, .nil, (fun a ha => nomatch ha), fun b o _ e => e⟩
    · obtain ⟨_, _, _, _, _, _, _, _, _, keep⟩ := h
      exact keep _ _ (Ne.symm rod) dL
    · obtain ⟨ws, v6, v7, v8, rfl, wl, er, pr, rn, keep⟩ := h
      obtain ⟨rfl, k, v, ekv, rfl⟩ := y
      obtain ⟨d, e1d, rfl, ev⟩ := dkv_at ekv
      have hd := List.mem_of_getElem? e1d
      refine ⟨sz _ (by show 0 ≤ 1000; decide), fun R nR => ?_⟩
      have aR := Sm.new (o := .lst []) nR
      have eR : upd H'' R (.lst []) R = some (.lst []) := upd_same
      have Rr : R ≠ ro := fun z => by
        rw [z, er] at nR
        cases nR
      have Rd1 : R ≠ dd1 := fun z => by
        rw [z, keep _ _ (Ne.symm rod) dL] at nR
        cases nR
      have LR : ∀ {b : Addr} {o : HO}, b ≠ ro → L b = some o → b ≠ R := fun {b o} n e z => by
        have := keep _ _ n e
        rw [z, nR] at this
        cases this
      obtain ⟨a1, ea1, ha1⟩ := lst_at w1L (c1.pm2.mem_iff.mpr hd)
      have good := (ok1.r d hd).2
      have r1R := LR (old r1L (fun t z => nomatch z)) r1L
      have r2R := LR (old r2L (fun t z => nomatch z)) r2L
      have a1R := LR (old ha1 (fun t z => nomatch z)) ha1
      -- what stays while the row grows
      have keepR : ∀ b o, b ≠ ro → L b = some o → upd H'' R (.lst []) b = some o := fun b o n e => by
        rw [upd_ne (LR n e)]
        exact keep _ _ n e
      have rdL : ∀ {G : Hp} {a : Addr} {t : List (Key × V)}, (∀ b o, b ≠ ro → b ≠ R → L b = some o → G b = some o) → a ≠ ro → Rd L a (.dK t) → Rd G a (.dK t) := fun {G a t} k n r => by
        rcases r with r | ⟨o, r⟩
        · exact .inl (k _ _ n (LR n r) r)
        · exact .inr ⟨o, k _ _ n (LR n r) r⟩
      have rw1r : rw1 ≠ ro := fun z => by
        have := c1.rw_
        rw [z, roH] at this
        cases this
      have rw2r : rw2 ≠ ro := fun z => by
        have := c2.rw_
        rw [z, roH] at this
        cases this
      have er2 : upd H'' R (.lst []) ro = some (.dK (dkv (D.ds.take i) (ws.map V.ref))) := by
        rw [upd_ne (Ne.symm Rr)]
        exact er
      have wsR : ∀ a ∈ ws, a ≠ R := fun a ha z => by
        obtain ⟨j, hj⟩ := List.mem_iff_getElem?.mp ha
        obtain ⟨_, _, t⟩ := pair_at pr hj
        unfold LstAt at t
        rw [z, nR] at t
        cases t
      have pr2 : Paired (LstAt (joinX X Y).rf (upd H'' R (.lst []))) ws (D.ds.take i) := pair_mono pr fun a ha z e => aR _ _ e
      generalize upd H'' R (.lst []) = G3 at eR keepR er2 pr2 ⊢
      refine ⟨_, rfl, r1, _, 1, .ref rw1, rfl, rfl, .inl (.inl (keepR _ _ (old r1L (fun t z => nomatch z)) r1L)), rfl, _, rfl, rw1, .ref a1, rfl, .inl ⟨_, .inr d, rdL (fun b o n _ e => keepR b o n e) rw1r q1L, rfl, ea1.symm⟩, a1, rfl, ⟨_, .inl (.inl (keepR _ _ (old ha1 (fun t z => nomatch z)) ha1))⟩, ?_⟩
      refine for_list (K := K) (a := a1) (xs := (X.rf d).map V.str) (fun j σ G => ∃ v8 : Option V, σ = [some (.ref r1), some (.ref r2), some (.ref u1), some (.ref u3), some (.ref pl), some (.ref ro), some (.str d), some (.ref R), v8, none, none] ∧ G R = some (.lst ((((X.rf d).take j).flatMap Y.rf).map V.str)) ∧ (∀ b o, b ≠ R → G3 b = some o → G b = some o)) ?_ ?_ ?_ ?_
      · exact ⟨v8, rfl, eR, fun b o _ e => e⟩
      · rintro j σ G _ ⟨v8, rfl, eR2, k3⟩
        exact .inl (.inl (k3 _ _ a1R (keepR _ _ (old ha1 (fun t z => nomatch z)) ha1)))
      · rintro j y σ G hj ⟨v8, rfl, eR2, k3⟩
        obtain ⟨e, ee, rfl⟩ := str_atS hj
        have he := good e (List.mem_of_getElem? ee)
        obtain ⟨a2, ea2, ha2⟩ := lst_at w2L (c2.pm2.mem_iff.mpr he)
        have keep3 : ∀ b o, b ≠ ro → b ≠ R → L b = some o → G b = some o := fun b o n n2 e => k3 _ _ n2 (keepR _ _ n e)
        have f1 : (((X.rf d).take j).flatMap Y.rf).length ≤ 256 := by
          have h1 := (ok1.r d hd).1
          have h2 := flat_len Y.rf 16 (l := (X.rf d).take j) fun x hx => (ok2.r x (good x (List.mem_of_mem_take hx))).1
          rw [List.length_take] at h2
          have : min j (X.rf d).length * 16 ≤ 16 * 16 := Nat.mul_le_mul_right _ (by omega)
          omega
        have f2 := (ok2.r e he).1
        refine ⟨_, rfl, .inl ⟨rfl, _, .inl (.inl eR2)⟩, _, rfl, r2, _, 1, .ref rw2, rfl, rfl, .inl (.inl (keep3 _ _ (old r2L (fun t z => nomatch z)) r2R r2L)), rfl, _, rfl, rw2, .ref a2, rfl, .inl ⟨_, .inr e, rdL keep3 rw2r q2L, rfl, ea2.symm⟩, R, a2, _, (Y.rf e).map V.str, rfl, rfl, eR2, keep3 _ _ (old ha2 (fun t z => nomatch z)) (LR (old ha2 (fun t z => nomatch z)) ha2) ha2, by rw [List.length_map, List.length_map, sizeLine_eq]; omega, ?_⟩
        refine ⟨_, rfl, ?_, fun b o n eb => by rw [upd_ne n]; exact k3 _ _ n eb⟩
        rw [upd_same, List.take_add_one, ee, Option.toList_some, List.flatMap_append, List.flatMap_cons, List.flatMap_nil, List.append_nil, List.map_append]
      · rintro σ G ⟨v8, rfl, eR2, k3⟩
        rw [List.length_map, List.take_length] at eR2
        have er3 := k3 _ _ (Ne.symm Rr) er2
        have tk : D.ds.take (i + 1) = D.ds.take i ++ [d] := by
          rw [List.take_add_one, e1d]
          rfl
        have il := (List.getElem?_eq_some_iff.mp e1d).1
        have il2 : (D.ds.take i).length = i := by
          rw [List.length_take]
          omega
        have pk : putK (dkv (D.ds.take i) (ws.map V.ref)) (.inr d) (.ref R) = dkv (D.ds.take (i + 1)) ((ws ++ [R]).map V.ref) := by
          rw [tk]
          exact put_dkv (by omega) (by rw [← tk]; exact iD.dnd.sublist (List.take_sublist _ _))
        refine ⟨_, rfl, _, rfl, _, rfl, ro, _, rfl, DPut.k (k := .inr d) er3 (by rw [dkv_len (by rw [List.length_map]; omega), sizeLine_eq]; omega), ws ++ [R], _, _, _, rfl, by rw [List.length_append, wl]; rfl, ?_, ?_, ?_, ?_⟩
        · rw [upd_same, pk]
        · rw [tk]
          refine pair_more (pair_mono pr2 fun b hb z e => ?_) ?_
          · show upd _ _ _ b = _
            rw [upd_ne (rn b hb).1]
            exact k3 _ _ (wsR b hb) e
          · show upd _ _ _ R = _
            rw [upd_ne Rr]
            exact eR2
        · intro b hb
          rcases List.mem_append.mp hb with h | h
          · exact rn b h
          · rw [List.mem_singleton.mp h]
            exact ⟨Rr, Rd1⟩
        · intro b o n e
          rw [upd_ne n]
          exact k3 _ _ (LR n e) (keepR _ _ n e)
    · obtain ⟨ws, v6, v7, v8, rfl, wl, er, pr, rn, keep⟩ := h
      rw [dkl] at wl er pr
      rw [List.take_length] at er pr
      refine ⟨keep _ _ (Ne.symm rod) dL, ?_⟩
      have sF : Sm H (upd H' dd1 (.dK (dkv D.ds (as.map V.ref)))) := fun b o e => by
        have e2 := m2 _ _ e
        by_cases c : b = dd1
        · rw [c] at e2 ⊢
          rw [o1b.2.2.1] at e2
          rw [upd_same]
          exact e2
        · rw [upd_ne c]
          refine keep _ _ (fun q => ?_) (keepL _ _ c e2)
          rw [q, roH] at e
          cases e
      have eroF : (upd H' dd1 (.dK (dkv D.ds (as.map V.ref)))) ro = some (.dK (dkv D.ds (ws.map V.ref))) := by
        rw [upd_ne rod]
        exact er
      have plF : (upd H' dd1 (.dK (dkv D.ds (as.map V.ref)))) pl = some (.dK (tabS D.ws (joinX X Y).pf)) := by
        have pd : pl ≠ dd1 := fun z => by
          have := npl
          rw [z] at this
          rw [m0 _ _ o1.2.2.1] at this
          cases this
        rw [upd_ne pd]
        exact keep _ _ plr (keepL _ _ pd epl)
      have prF : Paired (LstAt (joinX X Y).rf (upd H' dd1 (.dK (dkv D.ds (as.map V.ref))))) ws D.ds := pair_mono pr fun a ha z e => by
        show upd _ _ _ a = _
        rw [upd_ne (rn a ha).2]
        exact e
      show tNext _ _ (upd H' dd1 (.dK (dkv D.ds (as.map V.ref))))
      generalize upd H' dd1 (.dK (dkv D.ds (as.map V.ref))) = F5 at sF eroF plF prF ⊢
      refine ⟨_, rfl, _, rfl, _, rfl, u3, nm3, dd3, sg3, N, bs, rfl, o3.sm sF, iN, fun l2 ys2 G7 m7 nl2 el2 pm2 => ⟨l2, rfl, ⟨_, .inl (.inl el2)⟩, ?_⟩⟩
      have mF := sF.trans m7
      have y2nd : ys2.Nodup := pm2.nodup_iff.mpr (fm_nd _)
      have y2f : ys2.length ≤ 9 := by
        rw [pm2.length_eq]
        exact fm_few iN
      refine lc_tab (K := K) (i := 10) (f := (joinX X Y).ef) (σ := [some (.ref r1), some (.ref r2), some (.ref u1), some (.ref u3), some (.ref pl), some (.ref ro), v6, v7, v8, none, none]) (te2 := tDGet (tOp (rIxL K) (tVar 0) (tC (.int 2))) (tDGet (tOp (rIxL K) (tVar 1) (tC (.int 2))) (tVar 10))) el2 (by omega) (fun _ => rfl) (fun _ => rfl) (fun z hz G R m h => ?_) fun D1 t1 G8 m8 nD1 eD1 prD1 => ⟨D1, t1, _, rfl, .inl (.inl eD1), prD1, fun ey ney => ⟨sz _ (by show 3 ≤ 1000; decide), fun u nu => ?_⟩⟩
      · have mm := mF.trans m
        have hz2 := pm2.mem_iff.mp hz
        exact ⟨_, rfl, r1, _, 2, .ref ey1, rfl, rfl, .inl (.inl (mm _ _ c1.at_)), rfl, _, rfl, r2, _, 2, .ref ey2, rfl, rfl, .inl (.inl (mm _ _ c2.at_)), rfl, _, rfl, ey2, .str (Y.ef z), rfl, .inl ⟨_, .inr z, .inl (mm _ _ c2.ey_), rfl, (row_at (c2.pm3.mem_iff.mpr hz2)).symm⟩, ey1, .str (X.ef (Y.ef z)), rfl, .inl ⟨_, .inr (Y.ef z), .inl (mm _ _ c1.ey_), rfl, (row_at (c1.pm3.mem_iff.mpr (ok2.e z hz2))).symm⟩, h⟩
      rw [tab_merge y2nd] at nu ⊢
      have aey := Sm.new (o := .dK (tabS ys2 (joinX X Y).ef)) ney
      have eey : upd G8 ey (.dK (tabS ys2 (joinX X Y).ef)) ey = some (.dK (tabS ys2 (joinX X Y).ef)) := upd_same
      generalize upd G8 ey (.dK (tabS ys2 (joinX X Y).ef)) = G9 at aey eey nu ⊢
      have au := Sm.new (o := .lst [.ref pl, .ref ro, .ref ey]) nu
      have mE := m7.trans (m8.trans (aey.trans au))
      exact q u pl ro ey ys2 ws _ (sF.trans mE) (none_of_sm (sF.trans (m7.trans (m8.trans aey))) nu) ⟨upd_same, mE _ _ plF, mE _ _ eroF, pair_mono prF fun a _ z e => mE _ _ e, List.Perm.refl _, au _ _ eey, pm2⟩
end
end Dk
set_option Elab.async false
set_option linter.all false
set_option maxRecDepth 100000
set_option maxHeartbeats 8000000
namespace Dk
open PySem PySem.Spec PyProof.Rows L2 Er LamX NdefX CmX
/-! ### _law_same -/
def rEqE : R2 := fun x y H Q => ∃ a b xs, x = .ref a ∧ y = .ref b ∧ H a = some (.lst xs) ∧ H b = some (.lst []) ∧ Q (.bl xs.isEmpty) H
theorem op_eqE {X : Cx} (hu : X.A.units + 64 < cLine) : OpR X (compareOp .Eq) rEqE := by
  intro ps s σ H x y v u Q I rx ry h
  obtain ⟨a, b, xs, rfl, rfl, ea, eb, q⟩ := h
  obtain rfl : v = Value.ref a := rx
  obtain rfl : u = Value.ref b := ry
  obtain ⟨_, its, n, rv, ho⟩ := (show ObjOk X.prog X.w H s.heap a (.lst xs) from I.hok a _ ea)
  obtain ⟨_, it2, n2, rv2, ho2⟩ := (show ObjOk X.prog X.w H s.heap b (.lst []) from I.hok b _ eb)
  have l1 : its.toArray.size = xs.length := by rw [List.size_toArray, ← paired_len rv]
  have l2 : it2.toArray.size = 0 := by
    have z := paired_len rv2
    rw [List.size_toArray, ← z]
    rfl
  have L1 : s.heap.IsList a its.toArray := ⟨_, ho, rfl, _, rfl⟩
  have L2 : s.heap.IsList b it2.toArray := ⟨_, ho2, rfl, _, rfl⟩
  cases xs with
  | nil =>
    refine SeqAt.RcAt.lists (e := fun _ => true) L1 L2 (by rw [l1, l2]; rfl) (by omega) (fun j h1 h2 => by rw [l2] at h2; omega) X.prog X.w _ _ ?_
    have z : its.toArray.size = 0 := l1
    rw [z]
    exact ⟨.bl true, H, I, rfl, q⟩
  | cons x xs =>
    refine SeqAt.RcAt.lists_lengths L1 L2 (by rw [l1, l2]; rfl) (by omega) X.prog X.w _ _ ?_
    exact ⟨.bl false, H, I, rfl, q⟩
/-- a change whose dicts may be held by a walk -/
def ChR (K : PySem.W.Frag) (CC : Addr) (H : Hp) (c : Addr) (D E : DkD) (X : ChD) : Prop := ∃ (dx a b p r e : Addr) (as : List Addr), H c = some (.ins CC dx (fldsCh a b p r e)) ∧ Rd H p (.dK (tabS D.ws X.pf)) ∧ Rd H r (.dK (dkv D.ds (as.map V.ref))) ∧ RowsAt K H as D.ds X.rf ∧ Rd H e (.dK (tabS (fm E.ls) X.ef))
theorem ChOb.r {K : PySem.W.Frag} {CD CC : Addr} {H : Hp} {c : Addr} {D E : DkD} {X : ChD} (h : ChOb K CD CC H c D E X) : ChR K CC H c D E X := by
  obtain ⟨dx, a, b, p, r, e, as, h1, h2, h3, h4, h5, h6, h7⟩ := h
  exact ⟨dx, a, b, p, r, e, as, h1, .inl h4, .inl h5, h6, .inl h7⟩
theorem ChR.sm {K : PySem.W.Frag} {CC : Addr} {H G : Hp} {c : Addr} {D E : DkD} {X : ChD} (h : ChR K CC H c D E X) (m : Sm H G) : ChR K CC G c D E X := by
  obtain ⟨dx, a, b, p, r, e, as, h1, h4, h5, h6, h7⟩ := h
  exact ⟨dx, a, b, p, r, e, as, m _ _ h1, Rd.sm h4 m, Rd.sm h5 m, h6.sm m, Rd.sm h7 m⟩
theorem ChOb.lock {K : PySem.W.Frag} {CD CC : Addr} {H : Hp} {c d : Addr} {D E : DkD} {X : ChD} {od : Obj} {t : List (Key × V)} (h : ChOb K CD CC H c D E X) (hd : H d = some (.dK t)) : ChR K CC (upd H d (.frz od (.dK t))) c D E X := by
  obtain ⟨dx, a, b, p, r, e, as, h1, h2, h3, h4, h5, h6, h7⟩ := h
  exact ⟨dx, a, b, p, r, e, as, ins_lock h1 hd, rd_lock h4 hd, rd_lock h5 hd, pair_mono h6 fun a _ z t => tup_lock od t hd, rd_lock h7 hd⟩
def spCarR (K : PySem.W.Frag) (CC : Addr) : Sp := fun vs H Q _ => ∃ (c : Addr) (z : Str) (D E : DkD) (X : ChD), vs = [.ref c, .str z] ∧ ChR K CC H c D E X ∧ z ∈ D.ws ∧ Q (.str (X.pf z)) H
def spRowR (K : PySem.W.Frag) (CC : Addr) : Sp := fun vs H Q _ => ∃ (c : Addr) (d : Str) (D E : DkD) (X : ChD), vs = [.ref c, .str d] ∧ ChR K CC H c D E X ∧ d ∈ D.ds ∧ ∀ l, H l = none → Q (.ref l) (upd H l (.lst ((X.rf d).map V.str)))
def spEyeR (K : PySem.W.Frag) (CC : Addr) : Sp := fun vs H Q _ => ∃ (c : Addr) (l : Str) (D E : DkD) (X : ChD), vs = [.ref c, .str l] ∧ ChR K CC H c D E X ∧ l ∈ fm E.ls ∧ Q (.str (X.ef l)) H
theorem lc_keys0 {d : Addr} {od : Obj} {kvs : List (Key × V)} {σ : L2.St} {i : Nat} {H1 : Hp} {Q : Addr → Hp → Prop} {tt : TT} {te : TE} (hd : H1 d = some (.frz od (.dK kvs))) (w1 : ∀ v, wipe ((wipe σ [i]).set i (some v)) [i] = wipe σ [i])
    (ev : ∀ (k : Key) (v : V), (k, v) ∈ kvs → ∀ (G : Hp) (R : Bool → Hp → Prop), Sm H1 G → (∀ G', Sm G G' → R false G') → tt ((wipe σ [i]).set i (some (kV k))) G R) (q : ∀ (D : Addr) (G : Hp), Sm H1 G → H1 D = none → G D = some (.lst []) → Q D G) :
    ∀ D, H1 D = none → ∃ W : Nat → Nat → Hp → Prop, (∃ m, W 0 m (upd H1 D (.lst []))) ∧ ∀ j m H, W j m H → ((Itk d od kvs).stop j H ∧ Q D H) ∨ ((Itk d od kvs).go j H ∧ ∃ Nx : Hp → Prop, (∀ H', Nx H' → ∃ m', m' < m ∧ W (j + 1) m' H') ∧ ∀ x H', (Itk d od kvs).yld j H x H' → gName i x (wipe σ [i]) H' fun σ2 H2 => wipe σ2 [i] = wipe σ [i] ∧ tt σ2 H2 fun b H3 =>
      if b = true then te σ2 H3 fun y H4 => ∃ acc, H4 D = some (.lst acc) ∧ acc.length < sizeLine ∧ Nx (upd H4 D (.lst (acc ++ [y]))) else Nx H3) := by
  intro D nD
  refine lc_it walk_keys (g := gName i) (vs := [i]) (fun j G => G D = some (.lst []) ∧ Sm H1 G) ⟨upd_same, Sm.new nD⟩ (fun j G _ h => h.2 _ _ hd) (fun j x G G' hj h yy => ?_) (fun G h => q D G h.2 nD h.1)
  obtain ⟨eD, mm⟩ := h
  obtain ⟨rfl, k, v, ekv, rfl⟩ := yy
  refine ⟨w1 _, ev k v (List.mem_of_getElem? ekv) _ _ mm fun G3 m3 => ?_⟩
  rw [if_neg (by decide)]
  exact ⟨m3 _ _ eD, mm.trans m3⟩
theorem key_in {ks : List Str} {us : List V} {k : Key} {v : V} (h : (k, v) ∈ dkv ks us) : ∃ z ∈ ks, k = .inr z := by
  obtain ⟨z, hz, e⟩ := List.mem_map.mp (List.of_mem_zip h).1
  exact ⟨z, hz, e.symm⟩
def spSame31 (K : PySem.W.Frag) (CD CC : Addr) : Sp := fun vs H Q _ => ∃ (c r pl rw ey : Addr) (k2 k3 : List Str) (ws : List Addr) (D E : DkD) (X : ChD), vs = [.ref c, .ref r] ∧ ChOb K CD CC H c D E X ∧ RawC H r pl rw ey k2 k3 ws D E X ∧ X.Ok D E ∧ D.Is ∧ E.Is ∧ ∀ G, Sm H G → Q (.bl true) G
abbrev nSame31 : List Str := ["_law_change_here", "_law_raw", "_law_name", "_law_deed", "_law_sight"]
theorem scSame31 : FnScope nSame31 ["_law_change_here", "_law_raw"] (defScope (top 60)) := ⟨rfl, rfl, rfl, by decide +kernel, rfl, by decide +kernel, by decide +kernel⟩
theorem shaped_lst31 {ws : List Str} (h : ∀ z ∈ ws, IsWord z) : SeqAt.shaped (.list (ws.map PyData.str)) = true := by
  have z := lay_strs h
  unfold SeqAt.shaped
  have c : (PyData.list (ws.map PyData.str)).canLay0 = true := by simpa [PyData.canLay0] using z.1
  rw [c, Bool.true_and, decide_eq_true_iff]
  have d : (PyData.list (ws.map PyData.str)).depth ≤ 2 := by
    simp only [PyData.depth]
    omega
  omega
section
variable {P : Program} {w : World} {K : PySem.W.Frag} {mg : Str → Option Value} {base : Heap} {f CC CD : Addr} {fd : FuncData}
theorem ok_carR (F : FunD K "carried" "Change.carried" (defArgs (methC 3)) (defBody (methC 3)) (defScope (methC 3)) [] [] f fd) (T : ChC K mg CC) (GO : Fx P w K mg base CX0 1 "is_one_of" nOneOf (spOneOf K)) : FnOk P w K mg base CX0 2 f fd nCar (spCarR K CC) := by
  refine F.ok (CX := CX0) scCar (fun vs H Q E h => ?_) (fun cdv A outer s H vs Q E hr h => ?_)
  · obtain ⟨c, z, D, E, X, rfl, _⟩ := h
    rfl
  · refine ⟨_, PSs.nox (pss_cons (ps_if (pt_not (pt_val (by exact (pe_fx GO hr (by decide) rfl (pa_cons (pv 1) (pa_cons (by exact (pe_fld (pv 0) rfl)) pa_nil)))))) (pss_one ps_never) pss_nil)
      (pss_one (ps_ret (by exact (pe_dget (hu_of hr) (by exact (pe_fld (pv 0) rfl)) (pv 1) (fun _ _ => rfl)))))), ?_⟩
    obtain ⟨c, z, D, E, X, rfl, ⟨dx, a, b, p, r, e, as, h1, h4, h5, h6, h7⟩, hz, q⟩ := h
    refine ⟨_, rfl, _, rfl, c, CC, dx, _, _, rfl, h1, T.cl, T.n3, rfl, .str z, p, rfl, .inl ⟨z, D.ws, rfl, .inr (.inr ⟨_, h4, tabS_len⟩), _, rfl, ?_⟩⟩
    rw [decide_eq_true hz]
    exact iteF ⟨_, rfl, c, CC, dx, _, _, rfl, h1, T.cl, T.n3, rfl, _, rfl, p, .str (X.pf z), rfl, .inl ⟨_, .inr z, h4, rfl, (row_at hz).symm⟩, q⟩
theorem ok_eyeR (F : FunD K "eye" "Change.eye" (defArgs (methC 5)) (defBody (methC 5)) (defScope (methC 5)) [] [] f fd) (T : ChC K mg CC) (GO : Fx P w K mg base CX0 1 "is_one_of" nOneOf (spOneOf K)) : FnOk P w K mg base CX0 2 f fd nEye (spEyeR K CC) := by
  refine F.ok (CX := CX0) scEye (fun vs H Q E h => ?_) (fun cdv A outer s H vs Q E hr h => ?_)
  · obtain ⟨c, z, D, E, X, rfl, _⟩ := h
    rfl
  · refine ⟨_, PSs.nox (pss_cons (ps_if (pt_not (pt_val (by exact (pe_fx GO hr (by decide) rfl (pa_cons (pv 1) (pa_cons (by exact (pe_fld (pv 0) rfl)) pa_nil)))))) (pss_one ps_never) pss_nil)
      (pss_one (ps_ret (by exact (pe_dget (hu_of hr) (by exact (pe_fld (pv 0) rfl)) (pv 1) (fun _ _ => rfl)))))), ?_⟩
    obtain ⟨c, z, D, E, X, rfl, ⟨dx, a, b, p, r, e, as, h1, h4, h5, h6, h7⟩, hz, q⟩ := h
    refine ⟨_, rfl, _, rfl, c, CC, dx, _, _, rfl, h1, T.cl, T.n5, rfl, .str z, e, rfl, .inl ⟨z, fm E.ls, rfl, .inr (.inr ⟨_, h7, tabS_len⟩), _, rfl, ?_⟩⟩
    rw [decide_eq_true hz]
    exact iteF ⟨_, rfl, c, CC, dx, _, _, rfl, h1, T.cl, T.n5, rfl, _, rfl, e, .str (X.ef z), rfl, .inl ⟨_, .inr z, h7, rfl, (row_at hz).symm⟩, q⟩
theorem ok_rowR (F : FunD K "row" "Change.row" (defArgs (methC 4)) (defBody (methC 4)) (defScope (methC 4)) [] [] f fd) (T : ChC K mg CC) (mL : mg "list" = none) (GO : Fx P w K mg base CX0 1 "is_one_of" nOneOf (spOneOf K)) : FnOk P w K mg base CX0 2 f fd nRow (spRowR K CC) := by
  refine F.ok (CX := CX0) scRow (fun vs H Q E h => ?_) (fun cdv A outer s H vs Q E hr h => ?_)
  · obtain ⟨c, z, D, E, X, rfl, _⟩ := h
    rfl
  · refine ⟨_, PSs.nox (pss_cons (ps_if (pt_not (pt_val (by exact (pe_fx GO hr (by decide) rfl (pa_cons (pv 1) (pa_cons (by exact (pe_fld (pv 0) rfl)) pa_nil)))))) (pss_one ps_never) pss_nil)
      (pss_one (ps_ret (by exact (pe_callTy call_list_of rfl mL PyProof.Rows.boot_list (pa_cons (by exact (pe_dget (hu_of hr) (by exact (pe_fld (pv 0) rfl)) (pv 1) (fun _ _ => rfl))) pa_nil)))))), ?_⟩
    obtain ⟨c, z, D, E, X, rfl, ⟨dx, a, b, p, r, e, as, h1, h4, h5, h6, h7⟩, hz, q⟩ := h
    obtain ⟨t, et, ht⟩ := h6.at_ hz
    refine ⟨_, rfl, _, rfl, c, CC, dx, _, _, rfl, h1, T.cl, T.n4, rfl, .str z, r, rfl, .inl ⟨z, D.ds, rfl, .inr (.inr ⟨_, h5, by rw [List.length_map, paired_len h6]⟩), _, rfl, ?_⟩⟩
    rw [decide_eq_true hz]
    exact iteF ⟨_, rfl, c, CC, dx, _, _, rfl, h1, T.cl, T.n4, rfl, _, rfl, r, .ref t, rfl, .inl ⟨_, .inr z, h5, rfl, et.symm⟩, t, (X.rf z).map V.str, rfl, .inr ht, q⟩
theorem ok_same31 (F : FnP K "_law_same" (top 60) f fd) (T : ChC K mg CC) (M1 : Mx P w K mg base CX0 CC 2 "carried" nCar (spCarR K CC)) (M2 : Mx P w K mg base CX0 CC 2 "row" nRow (spRowR K CC)) (M3 : Mx P w K mg base CX0 CC 2 "eye" nEye (spEyeR K CC)) :
    FnOk P w K mg base CX0 3 f fd ["_law_change_here", "_law_raw"] (spSame31 K CD CC) := by
  refine F.ok (CX := CX0) scSame31 (fun vs H Q E h => ?_) (fun cdv A outer s H vs Q E hr h => ?_)
  · obtain ⟨c, r, pl, rw, ey, k2, k3, ws, D, E, X, rfl, _⟩ := h
    rfl
  · refine ⟨_, PSs.nox (pss_cons (ps_if (pt_cmpR (op_neE hr.units) (pe_lock (by exact (pe_lc (own := [("_law_name", 2)]) (g := gName 2) (tt := tTest (tOp rNe (tMeth CC "carried" (spCarR K CC) [] E0 (tVar 0) (tCons (tVar 2) tNil)) (tDGet (tOp (rIxL K) (tVar 1) (tC (.int 0))) (tVar 2)))) (te := tVar 2) rfl scSame31.nd (pi_keys (by exact (pe_ix ix_list (pv 1) pe_int (fun _ _ => rfl))))
          (blkOk_by (N := nSame31) (sc := defScope (top 60)) (by decide +kernel)) (fun _ _ _ _ _ => pg_name (i := 2) scSame31.nd rfl (Or.inl rfl)) (fun _ _ _ _ _ => pts_one (by exact (pt_cmpR op_ne (by exact (pe_mx M1 (by exact (pv 0)) T.cl hr (by decide) (pa_cons (by exact (pv 2)) pa_nil))) (by exact (pe_dget (hu_of hr) (by exact (pe_ix ix_list (by exact (pv 1)) pe_int (fun _ _ => rfl))) (by exact (pv 2)) (fun _ _ => rfl))) (nomark _)))) (fun _ _ _ _ _ => by exact (pv 2))))) (pe_lst pa_nil) (nomark _)) (pss_one (ps_ret pe_bl)) pss_nil)
      (pss_cons (ps_if (pt_cmpR (op_neE hr.units) (pe_lock (by exact (pe_lc (own := [("_law_deed", 3)]) (g := gName 3) (tt := tTest (tOp (rNeD K) (tMeth CC "row" (spRowR K CC) [] E0 (tVar 0) (tCons (tVar 3) tNil)) (tDGet (tOp (rIxL K) (tVar 1) (tC (.int 1))) (tVar 3)))) (te := tVar 3) rfl scSame31.nd (pi_keys (by exact (pe_ix ix_list (pv 1) pe_int (fun _ _ => rfl))))
          (blkOk_by (N := nSame31) (sc := defScope (top 60)) (by decide +kernel)) (fun _ _ _ _ _ => pg_name (i := 3) scSame31.nd rfl (Or.inl rfl)) (fun _ _ _ _ _ => pts_one (by exact (pt_cmpR (op_neD hr.units) (by exact (pe_mx M2 (by exact (pv 0)) T.cl hr (by decide) (pa_cons (by exact (pv 3)) pa_nil))) (by exact (pe_dget (hu_of hr) (by exact (pe_ix ix_list (by exact (pv 1)) pe_int (fun _ _ => rfl))) (by exact (pv 3)) (fun _ _ => rfl))) (nomark _)))) (fun _ _ _ _ _ => by exact (pv 3))))) (pe_lst pa_nil) (nomark _)) (pss_one (ps_ret pe_bl)) pss_nil)
      (pss_one (ps_ret (by exact (pe_cmpR (op_eqE hr.units) (pe_lock (by exact (pe_lc (own := [("_law_sight", 4)]) (g := gName 4) (tt := tTest (tOp rNe (tMeth CC "eye" (spEyeR K CC) [] E0 (tVar 0) (tCons (tVar 4) tNil)) (tDGet (tOp (rIxL K) (tVar 1) (tC (.int 2))) (tVar 4)))) (te := tVar 4) rfl scSame31.nd (pi_keys (by exact (pe_ix ix_list (pv 1) pe_int (fun _ _ => rfl))))
          (blkOk_by (N := nSame31) (sc := defScope (top 60)) (by decide +kernel)) (fun _ _ _ _ _ => pg_name (i := 4) scSame31.nd rfl (Or.inl rfl)) (fun _ _ _ _ _ => pts_one (by exact (pt_cmpR op_ne (by exact (pe_mx M3 (by exact (pv 0)) T.cl hr (by decide) (pa_cons (by exact (pv 4)) pa_nil))) (by exact (pe_dget (hu_of hr) (by exact (pe_ix ix_list (by exact (pv 1)) pe_int (fun _ _ => rfl))) (by exact (pv 4)) (fun _ _ => rfl))) (nomark _)))) (fun _ _ _ _ _ => by exact (pv 4))))) (pe_lst pa_nil) (nomark _))))))), ?_⟩
    obtain ⟨c, r, pl, rw_, ey, k2, k3, ws, D, E, X, rfl, oc, o, ok, iD, iE, q⟩ := h
    have sz0 : 0 ≤ sizeLine := Nat.zero_le _
    have lk : ∀ {G : Hp} {d : Addr} {od : Obj} {t : List (Key × V)} {b : Addr} {u : HO}, G d = some (.dK t) → G b = some u → (∀ t, u ≠ .dK t) → upd G d (.frz od (.dK t)) b = some u := fun {G d od t b u} hd hb n => by
      rw [upd_ne (fun z => by rw [z, hd] at hb; exact n _ (Option.some.inj hb).symm)]
      exact hb
    refine ⟨pl, .dK (tabS D.ws X.pf), o.pl_, True.intro, fun od => ⟨_, rfl, r, _, 0, .ref pl, rfl, rfl, .inl (.inl (lk o.pl_ o.at_ (fun t z => nomatch z))), rfl, pl, od, rfl, .inl ⟨_, upd_same, ?_⟩⟩⟩
    refine lc_keys0 (i := 2) (σ := [some (.ref c), some (.ref r), none, none, none]) upd_same (fun _ => rfl) (fun k v hk G R m h => ?_) (fun L G m nL eL => ?_)
    · obtain ⟨z, hz, rfl⟩ := key_in hk
      have cR := (oc.lock (od := od) o.pl_).sm m
      obtain ⟨dx, _, _, _, _, _, _, hc, _⟩ := id cR
      refine ⟨_, rfl, c, dx, _, rfl, hc, rfl, _, rfl, c, z, D, E, X, rfl, cR, hz, _, rfl, r, _, 0, .ref pl, rfl, rfl, .inl (.inl (m _ _ (lk o.pl_ o.at_ (fun t z => nomatch z)))), rfl, _, rfl, pl, .str (X.pf z), rfl, .inl ⟨_, .inr z, .inr ⟨od, m _ _ upd_same⟩, rfl, (row_at hz).symm⟩, rfl, _, rfl, ?_⟩
      rw [decide_eq_true (show V.str (X.pf z) = V.str (X.pf z) from rfl)]
      exact h G (Sm.refl _)
    refine ⟨m _ _ upd_same, sz0, fun l nl => ?_⟩
    have s1 := sm_unlock o.pl_ m
    have Lp : L ≠ pl := fun z => by
      rw [z, upd_same] at nL
      cases nL
    have e1 : upd G pl (.dK (tabS D.ws X.pf)) L = some (.lst []) := by
      rw [upd_ne Lp]
      exact eL
    generalize upd G pl (.dK (tabS D.ws X.pf)) = F1 at s1 e1 nl ⊢
    have al := Sm.new (o := .lst []) nl
    refine ⟨L, l, [], rfl, rfl, al _ _ e1, upd_same, _, rfl, iteF ?_⟩
    have s1 := s1.trans al
    show tNext _ _ (upd F1 l (.lst []))
    generalize upd F1 l (.lst []) = G1 at s1 ⊢
    clear e1 nl al eL nL m
    have oc1 := oc.sm s1
    have o1 := o.sm s1
    refine ⟨rw_, .dK (dkv k2 (ws.map V.ref)), o1.rw_, True.intro, fun od2 => ⟨_, rfl, r, _, 1, .ref rw_, rfl, rfl, .inl (.inl (lk o1.rw_ o1.at_ (fun t z => nomatch z))), rfl, rw_, od2, rfl, .inl ⟨_, upd_same, ?_⟩⟩⟩
    refine lc_keys0 (i := 3) (σ := [some (.ref c), some (.ref r), none, none, none]) upd_same (fun _ => rfl) (fun k v hk G R m h => ?_) (fun L G m nL eL => ?_)
    · obtain ⟨d, hd, rfl⟩ := key_in hk
      have cR := (oc1.lock (od := od2) o1.rw_).sm m
      obtain ⟨dx, _, _, _, _, _, _, hc, _⟩ := id cR
      have hd2 := o.pm2.mem_iff.mp hd
      obtain ⟨a, ea, ha⟩ := lst_at o1.rs_ hd
      have ww : ∀ z ∈ X.rf d, IsWord z := fun z hz => iE.dword z ((ok.r d hd2).2 z hz)
      refine ⟨_, rfl, c, dx, _, rfl, hc, rfl, _, rfl, c, d, D, E, X, rfl, cR, hd2, fun l nl => ?_⟩
      have al := Sm.new (o := .lst ((X.rf d).map V.str)) nl
      have m2 := m.trans al
      refine ⟨_, rfl, r, _, 1, .ref rw_, rfl, rfl, .inl (.inl (m2 _ _ (lk o1.rw_ o1.at_ (fun t z => nomatch z)))), rfl, _, rfl, rw_, .ref a, rfl, .inl ⟨_, .inr d, .inr ⟨od2, m2 _ _ upd_same⟩, rfl, ea.symm⟩, .list ((X.rf d).map PyData.str), .list ((X.rf d).map PyData.str), .lst (.inl (.inl upd_same)) (dp_strs _), .lst (.inl (.inl (m2 _ _ (lk o1.rw_ ha (fun t z => nomatch z))))) (dp_strs _), shaped_lst31 ww, shaped_lst31 ww, _, rfl, ?_⟩
      rw [show PyData.eqv (.list ((X.rf d).map PyData.str)) (.list ((X.rf d).map PyData.str)) = true from by
        have z := eqv_strs (ws := X.rf d) (vs := X.rf d)
        simp only [PyData.eqv]
        rw [z]
        exact decide_eq_true rfl]
      exact h _ al
    refine ⟨m _ _ upd_same, sz0, fun l nl => ?_⟩
    have s2 := s1.trans (sm_unlock o1.rw_ m)
    have Lp : L ≠ rw_ := fun z => by
      rw [z, upd_same] at nL
      cases nL
    have e1 : upd G rw_ (.dK (dkv k2 (ws.map V.ref))) L = some (.lst []) := by
      rw [upd_ne Lp]
      exact eL
    generalize upd G rw_ (.dK (dkv k2 (ws.map V.ref))) = F1 at s2 e1 nl ⊢
    have al := Sm.new (o := .lst []) nl
    refine ⟨L, l, [], rfl, rfl, al _ _ e1, upd_same, _, rfl, iteF ?_⟩
    have s2 := s2.trans al
    show tNext _ _ (upd F1 l (.lst []))
    generalize upd F1 l (.lst []) = G2 at s2 ⊢
    clear e1 nl al eL nL m
    have oc2 := oc.sm s2
    have o2 := o.sm s2
    refine ⟨ey, .dK (tabS k3 X.ef), o2.ey_, True.intro, fun od3 => ⟨_, rfl, r, _, 2, .ref ey, rfl, rfl, .inl (.inl (lk o2.ey_ o2.at_ (fun t z => nomatch z))), rfl, ey, od3, rfl, .inl ⟨_, upd_same, ?_⟩⟩⟩
    refine lc_keys0 (i := 4) (σ := [some (.ref c), some (.ref r), none, none, none]) upd_same (fun _ => rfl) (fun k v hk G R m h => ?_) (fun L G m nL eL => ?_)
    · obtain ⟨z, hz, rfl⟩ := key_in hk
      have cR := (oc2.lock (od := od3) o2.ey_).sm m
      obtain ⟨dx, _, _, _, _, _, _, hc, _⟩ := id cR
      refine ⟨_, rfl, c, dx, _, rfl, hc, rfl, _, rfl, c, z, D, E, X, rfl, cR, o.pm3.mem_iff.mp hz, _, rfl, r, _, 2, .ref ey, rfl, rfl, .inl (.inl (m _ _ (lk o2.ey_ o2.at_ (fun t z => nomatch z)))), rfl, _, rfl, ey, .str (X.ef z), rfl, .inl ⟨_, .inr z, .inr ⟨od3, m _ _ upd_same⟩, rfl, (row_at hz).symm⟩, rfl, _, rfl, ?_⟩
      rw [decide_eq_true (show V.str (X.ef z) = V.str (X.ef z) from rfl)]
      exact h G (Sm.refl _)
    refine ⟨m _ _ upd_same, sz0, fun l nl => ?_⟩
    have s3 := s2.trans (sm_unlock o2.ey_ m)
    have Lp : L ≠ ey := fun z => by
      rw [z, upd_same] at nL
      cases nL
    have e1 : upd G ey (.dK (tabS k3 X.ef)) L = some (.lst []) := by
      rw [upd_ne Lp]
      exact eL
    have al := Sm.new (o := .lst []) nl
    exact ⟨L, l, [], rfl, rfl, al _ _ e1, upd_same, q _ (s3.trans al)⟩
end
end Dk
set_option Elab.async false
set_option linter.all false
set_option maxRecDepth 100000
set_option maxHeartbeats 4000000
namespace PySem
namespace DspX
/-! ### {k: v} whose key is a tuple: the walk -/
section
variable {prog : Program} {w : World} {A : Around} {E : Value → Shared → Prop} {s : Shared} {env : Env} {K : Type} [DecidableEq K] {knd : HeapKind prog w K}
theorem dict1H {k v : Expr} {pos : Pos} {Q : Value → Shared → Prop} (hu : knd.room A)
    (h : wpAny (model prog w) A (evalPairs (pairTrees [some k] [v] env pos)) (fun vs s₁ => ∃ (b : Addr) (kk : K) (vv : Value), vs = [(.ref b, vv)] ∧ knd.is s₁.heap kk b ∧ s₁.heap.DictOfH knd s.heap.objs.size [] ∧
      ∀ h', h'.DictOfH knd s.heap.objs.size (storedH [] kk b vv) → Heap.SameBut s.heap.objs.size s₁.heap h' → Q (.ref s.heap.objs.size) { s₁ with heap := h', toks := s₁.toks + knd.draws kk }) E
      { s with heap := s.heap.push { cls := .type "dict", data := .dict #[] } }) :
    wpAny (model prog w) A (eval (.Dict [some k] [v] pos) env) Q E s := by
  rw [arm_eval_Dict, zip_pairTrees [some k] [v] env pos rfl rfl, dictDisplay_pairs _ (by simp [pairTrees]) (by simp [pairTrees])]
  refine wpAny_bind (wpAny_standAt (wpAny_bind ?_))
  unfold subDict
  refine wpAny_bind (wpAny_alloc ?_)
  refine wpAny_bind (wpAny_holding ?_)
  rw [if_pos (by simp [pairTrees])]
  refine wpAny_bind (wpAny_mono h (fun vs s₁ h₁ => ?_) fun _ _ e => e)
  obtain ⟨b, kk, vv, rfl, hk, hm, hQ⟩ := h₁
  refine wpAny_holding ?_
  refine wpAny_bind ?_
  rw [List.forIn_cons]
  refine wpAny_bind (wpAny_bind (wpAny_dictSet_heap (hsz := Nat.zero_le _) hu hk hm fun h' hm' hs' => wpAny_pure ?_))
  dsimp only
  rw [List.forIn_nil]
  exact wpAny_pure (wpAny_pure (wpAny_pure (wpAny_pure (hQ h' hm' hs'))))
end
end DspX
end PySem
namespace Dk
open PySem PySem.Spec PyProof.Rows L2 Er LamX NdefX
/-- {k: v}, the key a tuple -/
def tDisp1T (tk tv : TE) : TE := fun σ H Q => ∀ p, H p = none → tk σ (upd H p (.dT [])) fun x H1 => tv σ H1 fun y H2 => ∃ (b : Addr) (k : List Key), x = .ref b ∧ H2 b = some (.tup (k.map kV)) ∧ H2 p = some (.dT []) ∧ Q (.ref p) (upd H2 p (.dT [(k, y)]))
section
variable {X : Cx} {pos : Pos} {k v : Expr} {tk tv : TE}
theorem pe_disp1T (hu : X.A.units + 1 < cLine) (hk : PE X k tk) (hv : PE X v tv) : PE X (.Dict [some k] [v] pos) (tDisp1T tk tv) := by
  refine ⟨fun pins s σ H Q I q => ?_⟩
  have hn := I.hok.fresh (Nat.le_refl s.heap.objs.size)
  have I1 := I.laid (a := s.heap.objs.size) (o := .dT []) (h' := s.heap.push { cls := .type "dict", data := .dict #[] }) (t' := s.toks) (fun _ _ q => Heap.get?_push_of_some _ q) (Nat.le_refl _) (dt_empty s.heap I.big)
  refine PySem.DspX.dict1H (knd := tupleKind (mixKind X.prog X.w)) (show X.A.units < cLine from by omega) ?_
  refine pairTrees_cons_walk (thn (hk.run pins _ σ _ _ I1 (q _ hn)) fun u s1 ⟨x, H1, I2, rx, q1⟩ => thn (hv.run pins s1 σ H1 _ I2 q1) fun w2 s2 ⟨y, H2, I3, ry, b, kk, ex, eb, ep, q2⟩ => pairTrees_nil_walk ?_)
  subst ex
  obtain rfl : u = Value.ref b := rx
  obtain ⟨z, hd, xs, rel, dd⟩ := dt_of I3.hok ep
  cases rel
  refine ⟨b, kk, w2, rfl, key_of I3.hok eb, dd, fun h' dd' hs => ⟨.ref s.heap.objs.size, _, ?_, rfl, q2⟩⟩
  obtain ⟨q3, es, ep2, hq, h2, h3, h4, _, h5⟩ := dd'
  refine d_write I3 (by rw [ep]; exact True.intro) hs ⟨q3, hq⟩ ⟨by show 1 ≤ sizeLine; rw [sizeLine_eq]; decide, hd, _, ?_, q3, es, ep2, hq, h2, h3, h4, h5⟩
  show Paired _ [(kk, y)] (storedH [] kk b w2)
  refine .cons ⟨rfl, ?_, ry⟩ .nil
  show upd H2 s.heap.objs.size (.dT [(kk, y)]) b = some (.tup (kk.map kV))
  rw [upd_ne (ne_of eb ep (fun z => nomatch z))]
  exact eb
end
/-! ### what captured cells hold goes on -/
theorem cells_later {X : Cx} {pins : List (Addr × Obj)} {σ : L2.St} {H : Hp} {s : Shared} {cl : List (Str × Addr)} {fr : List Str} {ws : List (Option V)} (C : CellsAt cl fr ws X.s_0.heap X.H_0) (hx : X.ex = []) (I : Inv X pins σ H s) : CellsAt cl fr ws s.heap H := by
  have nx : ∀ c : Addr, c ∉ X.ex := fun c h => by
    rw [hx] at h
    exact nomatch h
  have kp : ∀ y c, cl.lookup y = some c → ∀ v, X.s_0.heap.IsCell c v → s.heap.IsCell c v := fun y c e v ⟨o, ho, hd⟩ => by
    obtain ⟨sl, q⟩ := I.base.any ho (C.all y c e).1 (nx c)
    exact ⟨_, q, hd⟩
  refine ⟨C.len, fun y c e => ?_, C.inj, fun i y e => ?_⟩
  · obtain ⟨n, v, z⟩ := C.all y c e
    refine ⟨?_, v, kp y c e v z⟩
    obtain ⟨o, ho, _⟩ := z
    exact I.base.free c o ho n (nx c)
  · obtain ⟨c, hc, hv⟩ := C.has i y e
    refine ⟨c, hc, fun v ev => ?_⟩
    obtain ⟨u, r, z⟩ := hv v ev
    exact ⟨u, r, kp y c hc _ z⟩
/-! ### f(e), f a local name that was handed a nested function -/
def tCallF (F : NF) (f : Addr) (i : Nat) (ws : List (Option V)) (sp : List (Option V) → Sp) (t : TA) : TE := fun σ H Q => σ[i]? = some (some (.ref f)) ∧ H f = some (FnO f F) ∧
  t σ H fun vs H1 => H1 f = some (FnO f F) ∧ H1 F.c = some (CodeO F.c F.qual) ∧ sp ws vs H1 Q E0
theorem pe_callF {X : Cx} {F : NF} {f : Addr} {ps fr : List Str} {ws : List (Option V)} {i j k : Nat} {x : Str} {sp : List (Option V) → Sp} {t : TA} {e : Expr} {es : List Expr} {p pos : Pos} (C : CellsAt F.cl fr ws X.s_0.heap X.H_0) (hx : X.ex = [])
    (Fn : NOk X.prog X.w X.K X.mg X.base CX0 k f F ps fr sp) (hr : Room j X.A) (hk : k ≤ j) (hN : X.N[i]? = some x) (hv : Vis X.env.scope x) (ha : PA X (e :: es) t)
    (hd : (x == ("__debug__" : Str)) = false := by decide) (hcd : (x == ("__classdict__" : Str)) = false := by decide)
    (he : starEach (e :: es) X.env = (false, eval e X.env) :: starEach es X.env := by rfl) (hpl : (backTo pos (starEach es X.env)).any (·.1) = false := by rfl) :
    PE X (.Call (.Name x p) (e :: es) [] pos) (tCallF F f i ws sp t) := by
  refine ⟨fun pins s σ H Q I h => ?_⟩
  obtain ⟨hs, hf, ht⟩ := h
  refine wpAny_Call_Name_kw (thn ((pe_var (pos := p) hN hv hd hcd).run pins s σ H (fun v H1 => v = .ref f ∧ H1 = H) I ⟨.ref f, hs, rfl, rfl⟩) fun u s1 ⟨v, H1, I1, r1, q1⟩ => ?_)
  obtain ⟨ev, eH⟩ := q1
  subst ev
  rw [eH] at I1
  obtain rfl : u = Value.ref f := r1
  refine PySem.W.callWith_F (first := []) (fnAt_of I1 hf) (thn (ha.run pos pins s1 σ H _ I1 ht) fun us s2 ⟨vs, H2, I2, r, h1, h2, q⟩ => ⟨fnAt_of I2 h1, ?_⟩) he hpl
  show wpAny _ _ (call (.ref f) us) _ _ _
  refine wpAny_call (codeAny_mono (Fn.run X.A X.stack s2 H2 us vs ws Q E0 (hr.mono hk) I2.env0 h1 h2 (cells_later C hx I2) r q) fun r s' hq => ?_)
  cases r with
  | error e => exact hq.elim
  | ok fl =>
    cases fl with
    | ret u => exact I2.after hq
    | next => exact False.elim hq
    | brk => exact False.elim hq
    | cont => exact False.elim hq
/-! ### a nested function with one parameter, which is a cell, and one captured name -/
structure Sc1' (sc : Scope) (x y : Str) : Prop where
  kind : sc.kind = .function
  co : sc.isCoroutine = false
  gen : sc.isGenerator = false
  nm : sc.names = [(x, .cell), (y, .free)]
  ne : x ≠ y
abbrev envN1 (F : NF) (f L : Addr) : Env := newEnv F.scope L mainGlobals (cellsFrom (L + 1) F.scope.names F.cl) (F.qual ++ ".<locals>.") (some f) (.ref F.c) none builtinsNs
def ncx1 (P : Program) (w : World) (K : PySem.W.Frag) (mg : Str → Option Value) (base : Heap) (N : List Str) (F : NF) (f : Addr) (A : Around) (outer : List Env) (s : Shared) (H : Hp) (E : XK) : Cx where
  prog := P
  w := w
  K := K
  mg := mg
  base := base
  A := A.deeper (envN1 F f s.heap.objs.size)
  N := N
  s_0 := s
  H_0 := H
  env := envN1 F f s.heap.objs.size
  outer := outer
  stack := envN1 F f s.heap.objs.size :: outer
  ex := []
  fn := fun _ => false
  calm := true
  pn := []
  xe := fun e s' => wpAny (model P w) (A.deeper (envN1 F f s.heap.objs.size)) (leaving (envN1 F f s.heap.objs.size) e) (fun _ s'' => CX0 outer H s E e s'') (fun e' s'' => CX0 outer H s E e' s'') s'
section
variable {P : Program} {w : World} {K : PySem.W.Frag} {mg : Str → Option Value} {base : Heap} {x y : Str} {N1 : List Str} {F : NF} {a f : Addr} {A : Around} {outer : List Env} {s : Shared} {H : Hp} {E : XK} {g : Heap} {tk : Nat} {v vf : V} {u uf : Value}
theorem cellsN1 (S : Sc1' F.scope x y) (hcl : F.cl = [(y, a)]) (L : Addr) : cellsFrom (L + 1) F.scope.names F.cl = [(x, L + 1), (y, a)] := by
  rw [S.nm, hcl]
  rfl
theorem start1 (S : Sc1' F.scope x y) (hcl : F.cl = [(y, a)]) (hd : A.handled = none) (e0 : Env0 P w K mg base A outer s H) (na : H a = none) (ca : s.heap.IsCell a (some uf)) (rf : RelV vf uf) (rv : RelV v u)
    (cx : g.IsCell (s.heap.objs.size + 1) (some u)) (ns : g.Ns s.heap.objs.size (fun _ => none)) (kp : ∀ b o, s.heap.get? b = some o → g.get? b = some o) :
    Inv (ncx1 P w K mg base (x :: y :: N1) F f A outer s H E) [] (some v :: some vf :: List.replicate N1.length none) H { s with heap := g, toks := tk } := by
  have la : a < s.heap.objs.size := by
    obtain ⟨o, ho, _⟩ := ca
    exact Heap.lt_size ho
  have cs := cellsN1 S hcl s.heap.objs.size
  have lk : ∀ {p : Str} {c : Addr}, (cellsFrom (s.heap.objs.size + 1) F.scope.names F.cl).lookup p = some c → (p = x ∧ c = s.heap.objs.size + 1) ∨ (p = y ∧ c = a) := fun {p c} e => by
    rw [cs] at e
    by_cases h1 : p = x
    · subst h1
      rw [List.lookup_cons, beq_self_eq_true] at e
      exact .inl ⟨rfl, (Option.some.inj e).symm⟩
    · rw [List.lookup_cons, show (p == x) = false from by simpa using h1] at e
      by_cases h2 : p = y
      · subst h2
        rw [List.lookup_cons, beq_self_eq_true] at e
        exact .inr ⟨rfl, (Option.some.inj e).symm⟩
      · rw [List.lookup_cons, show (p == y) = false from by simpa using h2] at e
        cases e
  have lx : (cellsFrom (s.heap.objs.size + 1) F.scope.names F.cl).lookup x = some (s.heap.objs.size + 1) := by
    rw [cs, List.lookup_cons, beq_self_eq_true]
  have ly : (cellsFrom (s.heap.objs.size + 1) F.scope.names F.cl).lookup y = some a := by
    rw [cs, List.lookup_cons, show (y == x) = false from by simpa using S.ne.symm, List.lookup_cons, beq_self_eq_true]
  have kx : F.scope.names.lookup x = some .cell := by rw [S.nm, List.lookup_cons, beq_self_eq_true]
  have ky : F.scope.names.lookup y = some .free := by rw [S.nm, List.lookup_cons, show (y == x) = false from by simpa using S.ne.symm, List.lookup_cons, beq_self_eq_true]
  have ca2 : g.IsCell a (some uf) := by
    obtain ⟨o, ho, hd2⟩ := ca
    exact ⟨o, kp _ _ ho, hd2⟩
  have ap : s.heap.objs.size + 1 ≠ a := Nat.ne_of_gt (Nat.lt_succ_of_lt la)
  have noA : ∀ b : Addr, b ∉ (ncx1 P w K mg base (x :: y :: N1) F f A outer s H E).ex := fun b q => absurd (show b ∈ ([] : List Addr) from q) (by simp)
  refine ⟨⟨e0.mod, S.kind, rfl, rfl, Nat.le_refl _, fun p q c e1 e2 => ?_, fun p hp => ?_, fun p c q _ => ?_, fun _ => hd, Around.frames_deeper e0.frames, .inr ⟨rfl, rfl⟩, fun b q => absurd q (noA b), e0.bs, e0.bsz, fun b _ _ => noA b,
      fun b q => absurd q (noA b), e0.funs, e0.frf⟩,
    rfl, e0.bare, Un.kept kp, ⟨_, ns, fun i p t e1 e2 e3 => ?_⟩, fun p c e => ?_, e0.hok.fresh (Nat.le_refl _), fun p c e => ?_, fun q hq => absurd (show q ∈ ([] : List (Addr × Obj)) ++ [] from hq) (by simp), e0.hok.kept kp, ?_⟩
  · rcases lk e1 with ⟨r1, c1⟩ | ⟨r1, c1⟩ <;> rcases lk e2 with ⟨r2, c2⟩ | ⟨r2, c2⟩
    · rw [r1, r2]
    · exact absurd (c1.symm.trans c2) ap
    · exact absurd (c2.symm.trans c1) ap
    · rw [r1, r2]
  · have hp : F.scope.names.lookup p = some .cell ∨ F.scope.names.lookup p = some .free := hp
    have : p = x ∨ p = y := by
      rcases hp with h | h <;> have m := PySem.mem_of_lookup h <;> rw [S.nm] at m <;> simp at m
      · exact .inl m
      · exact .inr m
    rcases this with rfl | rfl
    · exact ⟨_, lx⟩
    · exact ⟨_, ly⟩
  · have q : false = true := q
    cases q
  · match i, e1, e2 with
    | 0, e1, e2 =>
      cases Option.some.inj (show some x = some p from e1)
      cases Option.some.inj (Option.some.inj (show some (some v) = some (some t) from e2))
      exact ⟨u, rv, .inr ⟨.inl kx, _, lx, cx⟩⟩
    | 1, e1, e2 =>
      cases Option.some.inj (show some y = some p from e1)
      cases Option.some.inj (Option.some.inj (show some (some vf) = some (some t) from e2))
      exact ⟨uf, rf, .inr ⟨.inr ky, _, ly, ca2⟩⟩
    | n + 2, e1, e2 =>
      have e2 : (List.replicate N1.length (none : Option V))[n]? = some (some t) := e2
      rw [List.getElem?_replicate] at e2
      split at e2 <;> cases e2
  · rcases lk e with ⟨r1, c1⟩ | ⟨r1, c1⟩
    · exact ⟨_, by rw [c1]; exact cx⟩
    · exact ⟨_, by rw [c1]; exact ca2⟩
  · rcases lk e with ⟨r1, c1⟩ | ⟨r1, c1⟩
    · rw [c1]
      exact e0.hok.fresh (Nat.le_succ _)
    · rw [c1]
      exact na
  · show (some v :: some vf :: List.replicate N1.length none).length = (x :: y :: N1).length
    simp
/-- such a function's promise, by its body -/
theorem nok1_of {k : Nat} {sp : List (Option V) → Sp} (S : Sc1' F.scope x y) (hcl : F.cl = [(y, a)]) (hb : ∀ (doc pm ctv u : Value), bindArgs (F.fd doc pm ctv) ⟨[u], []⟩ = pure [(x, u)]) (len : ∀ ws vs H Q E, sp ws vs H Q E → vs.length = 1) (wsome : ∀ ws vs H Q E, sp ws vs H Q E → ∃ vf, ws = [some vf])
    (hbody : ∀ (A : Around) (outer : List Env) (s : Shared) (H : Hp) (v vf : V) (Q : VK) (E : XK), Room k (A.deeper (envN1 F f s.heap.objs.size)) → sp [some vf] [v] H Q E →
      ∃ t, PSs (ncx1 P w K mg base (x :: y :: N1) F f A outer s H E) F.body t ∧ t { nx := fun _ H' => Q .non H', rt := Q } (some v :: some vf :: List.replicate N1.length none) H) :
    NOk P w K mg base CX0 (k + 1) f F [x] [y] sp := by
  refine ⟨len, fun A outer s H us vs ws Q E hr e0 hf hc C r hsp => ?_⟩
  obtain ⟨vf, rfl⟩ := wsome _ _ _ _ _ hsp
  obtain ⟨v, rfl⟩ : ∃ v, vs = [v] := by
    have l := len _ _ _ _ _ hsp
    match vs, l with
    | [v], _ => exact ⟨v, rfl⟩
  obtain ⟨u, rfl, rv⟩ := vals1 r
  have lim : s.heap.NoLimit := e0.mod.nolimit.keeps fun b o e => (e0.bs b o e).1
  obtain ⟨od, sl, doc, pm, ctv, ho⟩ := fnO_at e0.hok hf
  refine codeAny_call_function hr.depth ho rfl S.co S.gen rfl (codeO_at e0.hok hc) ?_
  rw [hb doc pm ctv u]
  have kx : F.scope.names.lookup x = some .cell := by rw [S.nm, List.lookup_cons, beq_self_eq_true]
  have cn : F.cl.lookup x = none := by rw [hcl, List.lookup_cons, show (x == y) = false from by simpa using S.ne]; rfl
  obtain ⟨a2, ea, hv⟩ := C.has 0 y rfl
  have ea2 : a2 = a := by
    rw [hcl, List.lookup_cons, beq_self_eq_true] at ea
    exact (Option.some.inj ea).symm
  subst ea2
  obtain ⟨uf, rf, ca⟩ := hv vf rfl
  have na : H a2 = none := (C.all y a2 ea).1
  refine wpAny_pure (env_one S.kind kx cn fun c g2 tk e1 e2 ic ns kp => ⟨lim.keeps kp, ?_⟩)
  rw [cellsN1 S hcl, List.lookup_cons, beq_self_eq_true] at e1
  have ec : c = s.heap.objs.size + 1 := (Option.some.inj e1).symm
  subst ec
  show codeAny _ _ (.func F.body (envN1 F f s.heap.objs.size)) _ _
  refine codeAny_func ?_
  obtain ⟨t, ht, hq⟩ := hbody A outer s H v vf Q E (hr.deeper _) hsp
  have I : Inv (ncx1 P w K mg base (x :: y :: N1) F f A outer s H E) [] (some v :: some vf :: List.replicate N1.length none) H { s with heap := g2, toks := tk } := start1 S hcl hr.hd e0 na ca rf rv ic ns kp
  refine wpAny_mono (ht.run [] _ _ H _ I hq) (fun fl s' hs => ?_) fun e s' hs => hs
  have fin : ∀ {σ' : L2.St} {H' : Hp} {v : V} {u : Value}, Inv (ncx1 P w K mg base (x :: y :: N1) F f A outer s H E) [] σ' H' s' → L2.RelV v u → Q v H' → CE outer P w H s Q u s' :=
    fun {σ' H' v u} J rv q => ⟨v, H', J.os, J.bare, J.base, J.hok, rv, q⟩
  cases fl with
  | ret u =>
    obtain ⟨v, σ', H', J, rv, q⟩ := hs
    exact fin J rv q
  | next =>
    obtain ⟨σ', H', J, q⟩ := hs
    exact fin (v := V.non) (u := Value.none) J rfl q
  | brk =>
    obtain ⟨_, _, _, q⟩ := hs
    exact False.elim q
  | cont =>
    obtain ⟨_, _, _, q⟩ := hs
    exact False.elim q
end
end Dk
set_option Elab.async false
set_option linter.all false
set_option maxRecDepth 100000
set_option maxHeartbeats 8000000
namespace Dk
open PySem PySem.Spec PyProof.Rows L2 Er LamX NdefX CmX
open PySem.ErK (EC)
/-! ### lambdas that are handed on, known from their making on -/
def LamO (f : Addr) (qual : Str) (params : Arguments) (body : Expr) (sc : Scope) (cl : List (Str × Addr)) (c : Addr) : HO := .ext fun h => ∃ pm ctv : Value, h.get? f = some (PySem.W.kla_obj "<lambda>" qual params body sc cl pm c ctv)
section
variable {X : Cx} {pins : List (Addr × Obj)} {σ : L2.St} {H : Hp} {s : Shared}
theorem lamO_at {P : Program} {w : World} {h : Heap} {f c : Addr} {qual : Str} {params : Arguments} {body : Expr} {sc : Scope} {cl : List (Str × Addr)} (ok : HOk P w H h) (e : H f = some (LamO f qual params body sc cl c)) :
    ∃ pm ctv : Value, h.get? f = some (PySem.W.kla_obj "<lambda>" qual params body sc cl pm c ctv) := (ok f _ e).1
theorem inv_lam {qual : Str} {params : Arguments} {body : Expr} {sc : Scope} {cl : List (Str × Addr)} {c : Addr} {pm ctv : Value} {tk : Nat} (I : Inv X pins σ H s) :
    Inv X pins σ (upd H s.heap.objs.size (LamO s.heap.objs.size qual params body sc cl c)) { s with heap := s.heap.push (PySem.W.kla_obj "<lambda>" qual params body sc cl pm c ctv), toks := tk } := by
  have e : (s.heap.push (PySem.W.kla_obj "<lambda>" qual params body sc cl pm c ctv)).get? s.heap.objs.size = some (PySem.W.kla_obj "<lambda>" qual params body sc cl pm c ctv) := Heap.get?_push_size _ rfl
  exact I.laid (a := s.heap.objs.size) (fun b u z => Heap.get?_push_of_some _ z) (Nat.le_refl _) ⟨⟨pm, ctv, e⟩, ⟨_, e⟩, fun h1 h2 ⟨p, t, z⟩ st => ⟨p, t, st _ z⟩⟩
/-- such a lambda is made: its code object new, or found among others -/
theorem lam_makeN {T : List NTab} {nm : Nat → Nat → Str} {c P : Addr} {params : Arguments} {body : Expr} {scope : Scope} {pos : Pos} {E : Value → Shared → Prop} {Q : Value → Shared → Prop} (I : Inv X pins σ H s) (TB : TabB X.base X.mg c P) (hcode : X.env.code = .ref c)
    (hm : (P, nm) ∈ T) (hn : nm pos.line pos.col = X.env.qual ++ "<lambda>") (hu : ∀ p ∈ T, p.1 = P → p.2 = nm) (hT : TabsN T H) (hdef : defaultsOf params X.env = ([], [])) (hfree : ∀ y ∈ scope.names, y.2 = .free → ∃ c, X.env.cells.lookup y.1 = some c)
    (q : ∀ (f c2 : Addr) (H1 : Hp) (s2 : Shared), Inv X pins σ H1 s2 → ExtN H H1 → TabsN T H1 → H f = none → H1 f = some (LamO f (X.env.qual ++ "<lambda>") params body scope (cloFrom X.env.cells scope.names []) c2) → H1 c2 = some (CodeO c2 (X.env.qual ++ "<lambda>")) → Q (.ref f) s2) :
    wpAny (model X.prog X.w) X.A (eval (.Lambda params body scope pos) X.env) Q E s := by
  obtain ⟨ps, hP, ht, ha⟩ := (show TabN H P nm from hT _ hm)
  refine PySem.W.kla_eval hdef ?_
  have bP : s.heap.BuiltinsAt X.mg P := TB.bm.keeps I.bk
  have atP : s.heap.get? P = some { cls := .none, data := .fields ps } := I.hok P _ hP
  cases among : codeAmong pos ps.toList with
  | none =>
    refine PySem.W.kla_makeFunction (mg := X.mg) (c := c) (P := P) (ps := ps) (closure_ok hfree) I.ok.glob (I.mod.glob.keeps I.bk) hcode (TB.code.keeps I.bk) atP ht among TB.gP bP fun c2 ctv g tk kx ge lt rec_ tb => ?_
    obtain ⟨c3, oc, vs, t, e3, hoc, hd, hv⟩ := rec_
    cases e3
    have nC : H c2 = none := I.hok.fresh ge
    have I1 := inv_table (t' := tk) (more := #[rawInt pos.line, rawInt pos.col, .ref c2]) (h' := g) I hP (fun b o hb e => kx b o hb e) tb ge ⟨oc, vs, t, hoc, hd, hv⟩
    have eL : (ps ++ #[rawInt pos.line, rawInt pos.col, .ref c2]).toList = ps.toList ++ [rawInt pos.line, rawInt pos.col, .ref c2] := by simp
    have hE : ExtN H (upd (upd H P (.tbl (ps ++ #[rawInt pos.line, rawInt pos.col, .ref c2]))) c2 (CodeO c2 (X.env.qual ++ "<lambda>"))) := fun b o e n => by
      have bP : b ≠ P := fun z => n ps (Option.some.inj (e.symm.trans (by rw [z]; exact hP)))
      rw [upd_ne (ne_of_none e nC), upd_ne bP]
      exact e
    have T1 : TabsN T (upd (upd H P (.tbl (ps ++ #[rawInt pos.line, rawInt pos.col, .ref c2]))) c2 (CodeO c2 (X.env.qual ++ "<lambda>"))) := fun p hp => by
      by_cases hb : p.1 = P
      · rw [hu p hp hb, hb]
        refine ⟨_, by rw [upd_ne (ne_of_none hP nC), upd_same], by rw [eL]; exact PySem.TriplesOk_snoc _ _ _ _ ht, fun p2 cv hcv => ?_⟩
        rw [eL] at hcv
        rcases among_app2 _ ht hcv with z | ⟨z, z1, z2⟩
        · obtain ⟨c0, e1, e2⟩ := ha p2 cv z
          exact ⟨c0, e1, hE _ _ e2 codeO_ne⟩
        · exact ⟨c2, z, by rw [← z1, ← z2, hn]; exact upd_same⟩
      · obtain ⟨qs, a1, a2, a3⟩ := hT p hp
        refine ⟨qs, by rw [upd_ne (ne_of_none a1 nC), upd_ne hb]; exact a1, a2, fun p2 cv hcv => ?_⟩
        obtain ⟨c0, e1, e2⟩ := a3 p2 cv hcv
        exact ⟨c0, e1, hE _ _ e2 codeO_ne⟩
    have nF := I1.hok.fresh (Nat.le_refl _)
    refine q g.objs.size c2 _ _ (inv_lam (pm := (X.mg "__name__").getD .none) (ctv := ctv) (tk := tk) I1) (fun b o e n => ?_) (T1.ext fun b o e => ?_) (I.hok.fresh (Nat.le_trans ge (Nat.le_of_lt lt))) upd_same ?_
    · exact (upd_ne (ne_of_none (hE b o e n) nF)).trans (hE b o e n)
    · exact (upd_ne (ne_of_none e nF)).trans e
    · exact (upd_ne (Nat.ne_of_lt lt)).trans upd_same
  | some cv =>
    obtain ⟨c2, e, hco⟩ := ha pos cv among
    subst e
    rw [hn] at hco
    refine PySem.W.kla_makeFunctionHit (mg := X.mg) (c := c) (P := P) (ps := ps) (closure_ok hfree) I.ok.glob (I.mod.glob.keeps I.bk) hcode (TB.code.keeps I.bk) atP ht among bP fun ctv g tk kx sz => ?_
    have I1 : Inv X pins σ H { s with heap := g, toks := tk } := I.kept kx
    have nF : H g.objs.size = none := I1.hok.fresh (Nat.le_refl _)
    refine q g.objs.size c2 _ _ (inv_lam (pm := (X.mg "__name__").getD .none) (ctv := ctv) (tk := tk) I1) (fun b o e n => ?_) (hT.ext fun b o e => ?_) nF upd_same ?_
    · exact (upd_ne (ne_of_none e nF)).trans e
    · exact (upd_ne (ne_of_none e nF)).trans e
    · exact (upd_ne (ne_of_none hco nF)).trans hco
/-- as a value -/
def tLamN (T : List NTab) (mk : Addr → Addr → HO) (q : Str) : TE := fun σ H Q => TabsN T H ∧ ∀ (f c : Addr) (H1 : Hp), ExtN H H1 → TabsN T H1 → H f = none → H1 f = some (mk f c) → H1 c = some (CodeO c q) → Q (.ref f) H1
theorem pe_lamN {T : List NTab} {nm : Nat → Nat → Str} {c P : Addr} {params : Arguments} {body : Expr} {scope : Scope} {pos : Pos} (TB : TabB X.base X.mg c P) (hcode : X.env.code = .ref c) (hm : (P, nm) ∈ T) (hn : nm pos.line pos.col = X.env.qual ++ "<lambda>") (hu : ∀ p ∈ T, p.1 = P → p.2 = nm)
    (hdef : defaultsOf params X.env = ([], [])) (hfree : ∀ y ∈ scope.names, y.2 = .free → X.env.scope.names.lookup y.1 = some .cell ∨ X.env.scope.names.lookup y.1 = some .free) :
    PE X (.Lambda params body scope pos) (tLamN T (fun f c => LamO f (X.env.qual ++ "<lambda>") params body scope (cloFrom X.env.cells scope.names []) c) (X.env.qual ++ "<lambda>")) := by
  refine ⟨fun ps s σ H Q I ⟨hT, h⟩ => lam_makeN I TB hcode hm hn hu hT hdef (fun y hy e => ?_) fun f c2 H1 s2 I1 ext T1 f0 f1 c1 => ⟨.ref f, H1, I1, rfl, h f c2 H1 ext T1 f0 f1 c1⟩⟩
  rcases hfree y hy e with z | z
  · exact I.ok.has _ (.inl z)
  · exact I.ok.has _ (.inr z)
end
/-! ### a lambda without parameters that may raise -/
structure CalX (P : Program) (w : World) (K : PySem.W.Frag) (mg : Str → Option Value) (base : Heap) (k : Nat) (f : Addr) (O : HO) (c : Addr) (q : Str) (cl : List (Str × Addr)) (fr : List Str) (sp : List (Option V) → Sp) : Prop where
  at_ : ∀ {h : Heap} {H : Hp}, HOk P w H h → H f = some O → PySem.W.FnAt f h
  run : ∀ (A : Around) (outer : List Env) (s : Shared) (H : Hp) (ws : List (Option V)) (Q : VK) (E : XK), Room k A → Env0 P w K mg base A outer s H → H f = some O → H c = some (CodeO c q) →
    CellsAt cl fr ws s.heap H → sp ws [] H Q E → codeAny (model P w) A (.call (.ref f) ⟨[], []⟩) (CR (L2.CX P w) outer P w H s Q E) s
section
variable {P : Program} {w : World} {K : PySem.W.Frag} {mg : Str → Option Value} {base : Heap} {k : Nat} {f c : Addr} {sp : List (Option V) → Sp}
theorem calX_lam {N fr : List Str} {qual : Str} {params : Arguments} {body : Expr} {sc : Scope} {cl : List (Str × Addr)} (S : NScope N [] fr sc) (hb : ∀ (pm ctv : Value), bindArgs (PySem.W.kla_fn "<lambda>" qual params body sc cl pm (.ref c) ctv) ⟨[], []⟩ = pure [])
    (hbody : ∀ (A : Around) (outer : List Env) (s : Shared) (H : Hp) (ws : List (Option V)) (Q : VK) (E : XK), Room k (A.deeper (envF ⟨"<lambda>", qual, params, [], sc, cl, c⟩ f s.heap.objs.size)) → ws.length = fr.length → sp ws [] H Q E →
      ∃ t, PE (ncx (L2.CX P w) P w K mg base N ⟨"<lambda>", qual, params, [], sc, cl, c⟩ f A outer s H E) body t ∧ t (startF N [] ws) H Q) :
    CalX P w K mg base (k + 1) f (LamO f qual params body sc cl c) c qual cl fr sp := by
  refine ⟨fun ok e => ?_, fun A outer s H ws Q E hr e0 hf hc C hsp => ?_⟩
  · obtain ⟨pm, ctv, ho⟩ := lamO_at ok e
    exact ⟨_, _, _, _, ho⟩
  · have lim : s.heap.NoLimit := e0.mod.nolimit.keeps fun b o e => (e0.bs b o e).1
    obtain ⟨pm, ctv, ho⟩ := lamO_at e0.hok hf
    refine PySem.W.kla_callFunE hr.depth ho rfl S.co S.gen rfl (codeO_at e0.hok hc) ?_
    rw [hb pm ctv]
    refine wpAny_pure (wpAny_newFunctionEnv S.nocell (fun ⟨n, _⟩ hy => nomatch hy) (fun g hns hsb => ⟨lim.fresh _ hsb, ?_⟩) S.kind)
    have kp : ∀ b o, s.heap.get? b = some o → g.get? b = some o := fun b o e => hsb.extBut b o (Nat.ne_of_lt (Heap.lt_size e)) (Heap.get?_push_of_some _ e)
    show codeAny _ _ (.expr body (envF ⟨"<lambda>", qual, params, [], sc, cl, c⟩ f s.heap.objs.size)) _ _
    obtain ⟨t, ht, hq⟩ := hbody A outer s H ws Q E (hr.deeper _) C.len hsp
    have I : Inv (ncx (L2.CX P w) P w K mg base N ⟨"<lambda>", qual, params, [], sc, cl, c⟩ f A outer s H E) [] (startF N [] ws) H { s with heap := g, toks := s.toks + 0 } := inv_startN (us := []) (vs := []) S hr.hd e0 rfl .nil C hns kp
    refine PySem.W.kla_codeExpr (wpAny_mono (ht.run [] _ (startF N [] ws) H Q I hq) (fun v s2 hs => ?_) fun e s2 hs => hs)
    obtain ⟨v2, H2, J, rv, q⟩ := hs
    exact ⟨v2, H2, J.os, J.bare, J.base, J.hok, rv, q⟩
end
section
variable {X : Cx}
/-- f(), f a local name that was handed it -/
def tCallX (f : Addr) (O : HO) (c : Addr) (q : Str) (i : Nat) (ws : List (Option V)) (sp : List (Option V) → Sp) (E : L2.St → XK) : TE := fun σ H Q => σ[i]? = some (some (.ref f)) ∧ H f = some O ∧ H c = some (CodeO c q) ∧ sp ws [] H Q (E σ)
theorem pe_callX {f c : Addr} {O : HO} {q : Str} {cl : List (Str × Addr)} {fr : List Str} {ws : List (Option V)} {i j k : Nat} {x : Str} {sp : List (Option V) → Sp} {E : L2.St → XK} {p pos : Pos} (C : CellsAt cl fr ws X.s_0.heap X.H_0) (hx : X.ex = [])
    (Fn : CalX X.prog X.w X.K X.mg X.base k f O c q cl fr sp) (hr : Room j X.A) (hk : k ≤ j) (hN : X.N[i]? = some x) (hv : Vis X.env.scope x) (hE : ∀ σ, PassesAt (L2.CX X.prog X.w) X σ (E σ))
    (hd : (x == ("__debug__" : Str)) = false := by decide) (hcd : (x == ("__classdict__" : Str)) = false := by decide) :
    PE X (.Call (.Name x p) [] [] pos) (tCallX f O c q i ws sp E) := by
  refine ⟨fun pins s σ H Q I ⟨hs, hf, hc, ht⟩ => ?_⟩
  refine wpAny_Call_Name_kw (thn ((pe_var (pos := p) hN hv hd hcd).run pins s σ H (fun v H1 => v = .ref f ∧ H1 = H) I ⟨.ref f, hs, rfl, rfl⟩) fun u s1 ⟨v, H1, I1, r1, ev, eH⟩ => ?_)
  subst ev
  rw [eH] at I1
  obtain rfl : u = Value.ref f := r1
  refine PySem.W.callWith_F0 (first := []) (Fn.at_ I1.hok hf) ?_
  show wpAny _ _ (call (.ref f) []) _ _ _
  refine wpAny_call (codeAny_mono (Fn.run X.A X.stack s1 H ws Q (E σ) (hr.mono hk) I1.env0 hf hc (cells_later C hx I1) ht) fun r s3 hq => ?_)
  cases r with
  | error e => exact hE σ pins H s1 e s3 I1 hq
  | ok fl =>
    cases fl with
    | ret u => exact I1.after hq
    | next => exact False.elim hq
    | brk => exact False.elim hq
    | cont => exact False.elim hq
end
end Dk
set_option Elab.async false
set_option linter.all false
set_option maxRecDepth 100000
set_option maxHeartbeats 8000000
namespace Dk
open PySem PySem.Spec PyProof.Rows L2 Er LamX NdefX CmX
open PySem.ErK (EC)
/-! ### _law_outcome, handed a lambda -/
abbrev nOut : List Str := ["_law_call", "e"]
theorem scOut : FnScope nOut ["_law_call"] (defScope (top 59)) := ⟨rfl, rfl, rfl, by decide +kernel, rfl, by decide +kernel, by decide +kernel⟩
/-- what becomes of an exception -/
def OutE (CL CT CN : Addr) (Q : VK) : XK := fun cls d H => ∃ (dd : Addr) (v : V), d = some dd ∧
  ((cls = .ref CL ∧ H dd = some (.xd [("value", v)]) ∧ ∀ l, H l = none → Q (.ref l) (upd H l (.lst [.str "link", v]))) ∨
   (cls = .ref CT ∧ H dd = some (.xd [("deed", v)]) ∧ ∀ l, H l = none → Q (.ref l) (upd H l (.lst [.str "long", v]))) ∨
   (cls = .ref CN ∧ H dd = some (.xd [("value", v)]) ∧ ∀ l, H l = none → Q (.ref l) (upd H l (.lst [.str "number", v]))))
def OutQ (Q : VK) : VK := fun v H => ∀ l, H l = none → Q (.ref l) (upd H l (.lst [.str "told", v]))
structure Exm (K : PySem.W.Frag) (CL CT CN : Addr) : Prop where
  ll : PySem.W.exmOne K (.ref CL) (.ref CL) = some true
  tl : PySem.W.exmOne K (.ref CT) (.ref CL) = some false
  tt : PySem.W.exmOne K (.ref CT) (.ref CT) = some true
  nl : PySem.W.exmOne K (.ref CN) (.ref CL) = some false
  nt : PySem.W.exmOne K (.ref CN) (.ref CT) = some false
  nn : PySem.W.exmOne K (.ref CN) (.ref CN) = some true
def tOut (CL CT CN : Addr) (mk : Addr → Addr → HO) (q : Str) (js : List Nat) (sp : List (Option V) → Sp) (t : TA) : TE := fun σ H Q => t σ H fun vs H1 => ∃ f c : Addr, vs = [.ref f] ∧ H1 f = some (mk f c) ∧ H1 c = some (CodeO c q) ∧
  ∀ (Q' : VK) (E' : XK), (∀ v G, OutQ Q v G → Q' v G) → (∀ cls d G, OutE CL CT CN Q cls d G → E' cls d G) → sp (js.map (slotAt σ)) [] H1 Q' E'
section
variable {X : Cx} {CL CT CN fL fT fN fO : Addr} {dL dT dN dO : FuncData} {mk : Addr → Addr → HO} {q : Str} {cl : List (Str × Addr)} {fr : List Str} {js : List Nat} {sp : List (Option V) → Sp} {t : TA} {e : Expr} {p pos : Pos} {k : Nat}
theorem pe_outcome (FO : FnP X.K "_law_outcome" (top 59) fO dO) (gO : X.mg "_law_outcome" = some (.ref fO)) (BL : Bad X.K X.mg "BadLink" "value" (ini (top 15)) CL fL dL) (BT : Bad X.K X.mg "TooLong" "deed" (ini (top 16)) CT fT dT) (BN : Bad X.K X.mg "BadNumber" "value" (ini (top 14)) CN fN dN) (M : Exm X.K CL CT CN)
    (hg : Gl X "_law_outcome") (hr : Room (k + 1) X.A) (cp : X.Ok → Caps X cl fr js) (N : ∀ f c, CalX X.prog X.w X.K X.mg X.base k f (mk f c) c q cl fr sp) (ha : PA X [e] t)
    (he : starEach [e] X.env = (false, eval e X.env) :: starEach [] X.env := by rfl) (hpl : (backTo pos (starEach [] X.env)).any (·.1) = false := by rfl) :
    PE X (.Call (.Name "_law_outcome" p) [e] [] pos) (tOut CL CT CN mk q js sp t) := by
  refine ⟨fun ps s σ H Q I h => ?_⟩
  refine wpAny_Call_Name_kw (ld_glob I hg gO ?_ (by decide))
  refine PySem.W.callWith_K (h₀ := X.base) I.ok.mod.kin FO.kp (thn (ha.run pos ps s σ H _ I h) fun us s2 ⟨vs, H2, I2, rr, f, c, ev, hf, hc, hsp⟩ => ⟨I2.kIn, ?_⟩) he hpl
  subst ev
  have bR := L2.FunD.bindsA (ps := ["_law_call"]) FO fun _ _ _ _ _ _ us hl => match us, hl with
    | [_], _ => rfl
  obtain ⟨oc, od, dV, kV, doc, pm2, an, cdv, ct, osl, rfl, lk2, hcd, _, _⟩ := FO.ex
  have hr2 : Room k (X.A.deeper (envOfC "_law_outcome" (defScope (top 59)) s2.heap.objs.size fO cdv)) := hr.deeper _
  have hl : us.length = 1 := rr.length.symm
  have C : CellsAt cl fr (js.map (slotAt σ)) s2.heap H2 := cells_of I2 (cp I2.ok)
  show wpAny _ _ (call (.ref fO) us) _ _ _
  refine wpAny_call (codeAny_mono (run_ofS (CX := CX0) (N := nOut) (ps := ["_law_call"]) (us := us) (vs := [.ref f]) (Q := Q) (E := E0) lk2 hcd scOut hr I2.env0 (bR s2 us hl) rr rfl fun _ => ?_) fun r s3 hq => ?_)
  · have sz : ∀ n : Nat, n ≤ 1000 → n ≤ sizeLine := fun n z => by
      rw [sizeLine_eq]
      omega
    refine ⟨_, PSs.nox (pss_one (ps_try_clauses (X := (cxOf CX0 X.prog X.w X.K X.mg X.base nOut "_law_outcome" (defScope (top 59)) fO cdv X.A X.stack s2 H2 E0).nox) (Wout := fun _ _ _ _ => False) rfl rfl scOut.nd takesN
        (fun W pn xe tk _ => pss_one (ps_ret (by exact (pe_lst (pa_cons pe_str (pa_cons (by exact (pe_callX (E := WE W) (i := 0) (x := "_law_call") C rfl (N f c) hr2 (Nat.le_refl _) rfl (Or.inl rfl) (fun σ => passAt tk σ))) pa_nil))))))
        (.cons (i := 1) (c := .ref CL) ⟨rfl, by decide, .inl BL.gl⟩ rfl rfl (fun a oe cls d pn hz hf => by exact (pss_one (ps_ret (pe_lst (pa_cons pe_str (pa_cons (by exact (pe_xf (C := CL) BL.ec.xf BL.ec.noN hz hf (pv 1))) pa_nil))))))
          (.cons (i := 1) (c := .ref CT) ⟨rfl, by decide, .inl BT.gl⟩ rfl rfl (fun a oe cls d pn hz hf => by exact (pss_one (ps_ret (pe_lst (pa_cons pe_str (pa_cons (by exact (pe_xf (C := CT) BT.ec.xf BT.ec.noN hz hf (pv 1))) pa_nil))))))
            (.cons (i := 1) (c := .ref CN) ⟨rfl, by decide, .inl BN.gl⟩ rfl rfl (fun a oe cls d pn hz hf => by exact (pss_one (ps_ret (pe_lst (pa_cons pe_str (pa_cons (by exact (pe_xf (C := CN) BN.ec.xf BN.ec.noN hz hf (pv 1))) pa_nil)))))) .nil))))), ?_⟩
    refine ⟨rfl, hf, hc, hsp _ _ (fun v G hq => ⟨sz _ (by show 2 ≤ 1000; decide), fun l nl => hq l nl⟩) fun cls d G he => ?_⟩
    obtain ⟨dd, v, rfl, h⟩ := he
    rcases h with ⟨rfl, ed, hq⟩ | ⟨rfl, ed, hq⟩ | ⟨rfl, ed, hq⟩
    · exact ⟨true, M.ll, fun _ a na => ⟨_, rfl, rfl, rfl, dd, _, v, rfl, ed, rfl, sz _ (by show 2 ≤ 1000; decide), fun l nl => hq l nl⟩, fun z => nomatch z⟩
    · exact ⟨false, M.tl, (fun z => nomatch z), fun _ => ⟨true, M.tt, fun _ a na => ⟨_, rfl, rfl, rfl, dd, _, v, rfl, ed, rfl, sz _ (by show 2 ≤ 1000; decide), fun l nl => hq l nl⟩, fun z => nomatch z⟩⟩
    · exact ⟨false, M.nl, (fun z => nomatch z), fun _ => ⟨false, M.nt, (fun z => nomatch z), fun _ => ⟨true, M.nn, fun _ a na => ⟨_, rfl, rfl, rfl, dd, _, v, rfl, ed, rfl, sz _ (by show 2 ≤ 1000; decide), fun l nl => hq l nl⟩, fun z => nomatch z⟩⟩⟩
  · cases r with
    | error e => exact hq.elim
    | ok fl =>
      cases fl with
      | ret u => exact I2.after hq
      | next => exact False.elim hq
      | brk => exact False.elim hq
      | cont => exact False.elim hq
end
end Dk
set_option Elab.async false
set_option linter.all false
set_option maxRecDepth 100000
set_option maxHeartbeats 8000000
namespace Dk
open PySem PySem.Spec PyProof.Rows L2 Er LamX NdefX CmX
open PySem.ErK (EC)
/-! ### the lambdas of _law_middle_right -/
abbrev LamT : Type := Arguments × Expr × Scope × Pos
def argL : Expr → Option LamT
  | .Call _ [.Lambda a b s p] _ _ => some (a, b, s, p)
  | .Compare (.Call _ [.Lambda a b s p] _ _) _ _ _ => some (a, b, s, p)
  | _ => none
def lamA : Option LamT := match (defBody (top 61)).getD 1 (.Pass ⟨0, 0, 0, 0⟩) with
  | .Assign _ v _ => argL v
  | _ => none
def lamB : Option LamT := match (defBody (top 61)).getD 2 (.Pass ⟨0, 0, 0, 0⟩) with
  | .If _ [.Return (some (.BoolOp _ [_, e] _)) _] _ _ => argL e
  | _ => none
def lA (o : Option LamT) : Arguments := match o with
  | some x => x.1
  | none => defArgs (top 61)
def lB (o : Option LamT) : Expr := match o with
  | some x => x.2.1
  | none => .Name "x" ⟨0, 0, 0, 0⟩
def lS (o : Option LamT) : Scope := match o with
  | some x => x.2.2.1
  | none => defScope (top 61)
def qMr : Str := ("_law_middle_right" : Str) ++ ".<locals>." ++ "<lambda>"
def nmMr : Nat → Nat → Str := fun _ _ => qMr
theorem scA : NScope ["_law_first", "_law_second"] [] ["_law_first", "_law_second"] (lS lamA) := nscope_by (by decide +kernel)
theorem scB : NScope ["_law_book_here"] [] ["_law_book_here"] (lS lamB) := nscope_by (by decide +kernel)
def spA (K : PySem.W.Frag) (CD CC CL CT : Addr) : List (Option V) → Sp := fun ws vs H Q E => ∃ c1 c2 : Addr, ws = [some (.ref c1), some (.ref c2)] ∧ vs = [] ∧ spJo K CD CC CL CT [.ref c1, .ref c2] H Q E
def spB (K : PySem.W.Frag) (CD CC CB CT CN : Addr) : List (Option V) → Sp := fun ws vs H Q E => ∃ b : Addr, ws = [some (.ref b)] ∧ vs = [] ∧ spWm K CD CC CB CT CN [.ref b] H Q E
section
variable {P : Program} {w : World} {K : PySem.W.Frag} {mg : Str → Option Value} {base : Heap} {f c CD CC CB CL CT CN : Addr}
theorem cal_A {qual : Str} {cl : List (Str × Addr)} (GJ : Fx P w K mg base (L2.CX P w) 7 "joined" ["first", "second"] (spJo K CD CC CL CT)) : CalX P w K mg base 8 f (LamO f qual (lA lamA) (lB lamA) (lS lamA) cl c) c qual cl ["_law_first", "_law_second"] (spA K CD CC CL CT) := by
  obtain ⟨fR, dR, FR, kR, gR, bR⟩ := GJ
  refine calX_lam (N := ["_law_first", "_law_second"]) scA (fun pm ctv => rfl) fun A outer s H ws Q E hr hl h => ?_
  refine ⟨_, by exact (pe_call FR hr rfl gR kR bR .nil (passes_call (takes_of rfl rfl rfl rfl) (fun _ _ _ _ h => h)) (pa_cons (pv 0) (pa_cons (pv 1) pa_nil))), ?_⟩
  obtain ⟨c1, c2, rfl, _, h⟩ := h
  exact ⟨_, rfl, _, rfl, h⟩
theorem cal_B {qual : Str} {cl : List (Str × Addr)} (GW : Fx P w K mg base (L2.CX P w) 8 "without_middle" ["book"] (spWm K CD CC CB CT CN)) : CalX P w K mg base 9 f (LamO f qual (lA lamB) (lB lamB) (lS lamB) cl c) c qual cl ["_law_book_here"] (spB K CD CC CB CT CN) := by
  obtain ⟨fR, dR, FR, kR, gR, bR⟩ := GW
  refine calX_lam (N := ["_law_book_here"]) scB (fun pm ctv => rfl) fun A outer s H ws Q E hr hl h => ?_
  refine ⟨_, by exact (pe_call FR hr rfl gR kR bR .nil (passes_call (takes_of rfl rfl rfl rfl) (fun _ _ _ _ h => h)) (pa_cons (pv 0) pa_nil)), ?_⟩
  obtain ⟨b, rfl, _, h⟩ := h
  exact ⟨_, rfl, h⟩
end
/-! ### what stays while a table grows -/
def Nx (G G' : Hp) : Prop := ∀ b o, G b = some o → (∀ ps, o ≠ .tbl ps) → G' b = some o
theorem SqT.nx {K : PySem.W.Frag} {G G' : Hp} {a : Addr} {xs : List V} (h : SqT K G a xs) (m : Nx G G') : SqT K G' a xs := by
  rcases h with (h | ⟨o, h⟩) | h
  · exact .inl (.inl (m _ _ h fun ys z => nomatch z))
  · exact .inl (.inr ⟨o, m _ _ h fun ys z => nomatch z⟩)
  · exact .inr h
theorem DeskOb.nx {K : PySem.W.Frag} {C : Addr} {G G' : Hp} {x : Addr} {ws ds : List Str} {tb : List (List Str)} {ls : List Str} (h : DeskOb K C G x ws ds tb ls) (m : Nx G G') : DeskOb K C G' x ws ds tb ls := by
  obtain ⟨dx, st, ld, si, as, hx, hst, hld, hsi, pr⟩ := h
  exact ⟨dx, st, ld, si, as, m _ _ hx (fun _ z => nomatch z), SqT.nx hst m, m _ _ hld (fun _ z => nomatch z), m _ _ hsi (fun _ z => nomatch z), pair_mono pr fun a _ vs e => m _ _ e (fun _ z => nomatch z)⟩
theorem ChOb.nx {K : PySem.W.Frag} {CD CC : Addr} {G G' : Hp} {c : Addr} {D E : DkD} {X : ChD} (h : ChOb K CD CC G c D E X) (m : Nx G G') : ChOb K CD CC G' c D E X := by
  obtain ⟨dx, a, b, p, r, e, as, h1, h2, h3, h4, h5, h6, h7⟩ := h
  exact ⟨dx, a, b, p, r, e, as, m _ _ h1 (fun _ z => nomatch z), h2.nx m, h3.nx m, m _ _ h4 (fun _ z => nomatch z), m _ _ h5 (fun _ z => nomatch z), pair_mono h6 fun a _ d t => SqT.nx t m, m _ _ h7 (fun _ z => nomatch z)⟩
theorem BkOb.nx {K : PySem.W.Frag} {CD CC CB : Addr} {H G : Hp} {b : Addr} {xs cs : List Addr} {Ds : List DkD} {Xs : List ChD} (h : BkOb K CD CC CB H b xs cs Ds Xs) (m : Nx H G) : BkOb K CD CC CB G b xs cs Ds Xs := by
  obtain ⟨dx, d, c, v1, v2, h1, h2, h3, h4, h5⟩ := h
  exact ⟨dx, d, c, v1, v2, m _ _ h1 (fun _ z => nomatch z), SqT.nx h2 m, pair_mono h3 fun x _ D t => ⟨t.1.nx m, t.2⟩, SqT.nx h4 m, pair_mono h5 fun x _ t h => h.nx m⟩
theorem RawC.nx {H G : Hp} {u pl rw ey : Addr} {k2 k3 : List Str} {rs : List Addr} {D E : DkD} {X : ChD} (h : RawC H u pl rw ey k2 k3 rs D E X) (m : Nx H G) : RawC G u pl rw ey k2 k3 rs D E X :=
  ⟨m _ _ h.at_ (fun _ z => nomatch z), m _ _ h.pl_ (fun _ z => nomatch z), m _ _ h.rw_ (fun _ z => nomatch z), pair_mono h.rs_ fun a _ d e => m _ _ e (fun _ z => nomatch z), h.pm2, m _ _ h.ey_ (fun _ z => nomatch z), h.pm3⟩
theorem first_long {p : Str → Bool} : ∀ ds : List Str, (∃ (n0 : Nat) (d : Str), ds[n0]? = some d ∧ p d = true ∧ (∀ j e, ds[j]? = some e → j < n0 → p e = false) ∧ ∃ r, ds.filter p = d :: r) ∨ ((∀ d ∈ ds, p d = false) ∧ ds.filter p = [])
  | [] => .inr ⟨(fun d h => nomatch h), rfl⟩
  | x :: ds => by
    cases hx : p x with
    | true => exact .inl ⟨0, x, rfl, hx, fun j e _ h => absurd h (Nat.not_lt_zero _), ds.filter p, by rw [List.filter_cons, if_pos hx]⟩
    | false =>
      rcases first_long (p := p) ds with ⟨n0, d, h1, h2, h3, r, h4⟩ | ⟨h1, h2⟩
      · refine .inl ⟨n0 + 1, d, h1, h2, fun j e he hj => ?_, r, by rw [List.filter_cons, if_neg (by rw [hx]; decide), h4]⟩
        cases j with
        | zero =>
          obtain rfl := Option.some.inj he
          exact hx
        | succ j => exact h3 j e he (by omega)
      · refine .inr ⟨fun d hd => ?_, by rw [List.filter_cons, if_neg (by rw [hx]; decide), h2]⟩
        rcases List.mem_cons.mp hd with rfl | h
        · exact hx
        · exact h1 d h
end Dk
set_option Elab.async false
set_option linter.all false
set_option maxRecDepth 100000
set_option maxHeartbeats 16000000
namespace Dk
open PySem PySem.Spec PyProof.Rows L2 Er LamX NdefX CmX
open PySem.ErK (EC)
/-! ### _law_middle_right -/
theorem pass0X {P : Program} {w : World} {X : Cx} : Passes (L2.CX P w) X E0 := fun _ _ _ _ _ _ _ ⟨_, _, _, _, _, _, _, _, _, _, _, _, h⟩ => h.elim
theorem nx_of {H G : Hp} (m : Sm H G) : Nx H G := fun b o e _ => m b o e
theorem Nx.trans {H G F : Hp} (a : Nx H G) (b : Nx G F) : Nx H F := fun x o e n => b _ _ (a _ _ e n) n
def longJ (X Y : ChD) (D : DkD) : List Str := D.ds.filter fun d => decide (16 < (rowJ X Y d).length)
def spMr (K : PySem.W.Frag) (CD CC CB : Addr) (T : List NTab) : Sp := fun vs H Q _ => ∃ (b tl lg pl rw ey : Addr) (xs cs : List Addr) (k3 : List Str) (ws : List Addr) (D M N : DkD) (X Y : ChD), vs = [.ref b, .ref tl, .ref lg] ∧ BkOb K CD CC CB H b xs cs [D, M, N] [X, Y] ∧ X.Ok D M ∧ Y.Ok M N ∧
  RawC H tl pl rw ey D.ds k3 ws D N (joinX X Y) ∧ H lg = some (.lst ((longJ X Y D).map V.str)) ∧ TabsN T H ∧ ∀ G, Nx H G → TabsN T G → Q (.bl true) G
abbrev nMr : List Str := ["_law_book_here", "_law_told", "_law_long", "_law_found", "_law_first", "_law_second"]
theorem scMr : FnScope nMr ["_law_book_here", "_law_told", "_law_long"] (defScope (top 61)) := ⟨rfl, rfl, rfl, by decide +kernel, rfl, by decide +kernel, by decide +kernel⟩
theorem free_A : ∀ y ∈ (lS lamA).names, y.2 = .free → (defScope (top 61)).names.lookup y.1 = some .cell ∨ (defScope (top 61)).names.lookup y.1 = some .free := by decide +kernel
theorem free_B : ∀ y ∈ (lS lamB).names, y.2 = .free → (defScope (top 61)).names.lookup y.1 = some .cell ∨ (defScope (top 61)).names.lookup y.1 = some .free := by decide +kernel
theorem in_A : ∀ y ∈ (["_law_first", "_law_second"] : List Str), (y, NameKind.free) ∈ (lS lamA).names := by decide +kernel
theorem in_B : ∀ y ∈ (["_law_book_here"] : List Str), (y, NameKind.free) ∈ (lS lamB).names := by decide +kernel
theorem word_long : IsWord "long" := by decide +kernel
section
variable {P : Program} {w : World} {K : PySem.W.Frag} {mg : Str → Option Value} {base : Heap} {f c CD CC CB CL CT CN fL fT fN fO Pm : Addr} {dL dT dN dO : FuncData} {dV kV doc pm ct oc : Value} {an od : Option Addr} {osl : Array (Option Value)} {T : List NTab}
theorem ok_mr (lk : K.lookup f = some ⟨oc, od, .func (PySem.W.fnOf "_law_middle_right" "_law_middle_right" (defArgs (top 61)) (defBody (top 61)) (defScope (top 61)) dV kV doc pm an (.ref c) ct), osl⟩) (hcd : PySem.W.codeIn K (.ref c) "_law_middle_right" = true) (TB : TabB base mg c Pm) (hm : (Pm, nmMr) ∈ T) (hu : ∀ p ∈ T, p.1 = Pm → p.2 = nmMr)
    (TD : DkC K mg CD) (TC : ChC K mg CC) (TBk : BkC K mg CB) (ED : EqC K CD) (EB : EqC K CB) (QD : Eqx P w K mg base CD 1 (spEqD K CD)) (QB : Eqx P w K mg base CB 5 (spBkE K CD CC CB)) (PBd : Px P w K mg base CB 1 "desks" nSelf (spBkD CB)) (PBc : Px P w K mg base CB 1 "changes" nSelf (spBkC CB))
    (PF : Px P w K mg base CC 1 "first" nSelf (spFi CC)) (PE_ : Px P w K mg base CC 1 "second" nSelf (spSe CC)) (GB : Cx_ P w K mg base CX0 CB 5 "Book" nBkI (spBkI K CD CC CB)) (GJ : Fx P w K mg base (L2.CX P w) 7 "joined" ["first", "second"] (spJo K CD CC CL CT)) (GW : Fx P w K mg base (L2.CX P w) 8 "without_middle" ["book"] (spWm K CD CC CB CT CN))
    (GS : Fx P w K mg base CX0 3 "_law_same" ["_law_change_here", "_law_raw"] (spSame31 K CD CC)) (FO : FnP K "_law_outcome" (top 59) fO dO) (gO : mg "_law_outcome" = some (.ref fO)) (BL : Bad K mg "BadLink" "value" (ini (top 15)) CL fL dL) (BT : Bad K mg "TooLong" "deed" (ini (top 16)) CT fT dT) (BN : Bad K mg "BadNumber" "value" (ini (top 14)) CN fN dN) (M : Exm K CL CT CN) :
    FnOk P w K mg base CX0 12 f (PySem.W.fnOf "_law_middle_right" "_law_middle_right" (defArgs (top 61)) (defBody (top 61)) (defScope (top 61)) dV kV doc pm an (.ref c) ct) ["_law_book_here", "_law_told", "_law_long"] (spMr K CD CC CB T) := by
  obtain ⟨fW, dW, FW, kW, gW, bW⟩ := id GW
  refine fn_of (CX := CX0) (N := nMr) lk hcd scMr (fun vs H Q E h => ?_) fun A outer s H vs Q E hr h => ?_
  · obtain ⟨b, tl, lg, pl, rw, ey, xs, cs, k3, ws, D, M, N, X, Y, rfl, _⟩ := h
    rfl
  · refine ⟨_, PSs.nox (pss_cons (ps_asg (by exact (pe_px PBc (pv 0) TBk.cl hr (by decide) rfl)) (pg_tup rfl (pgs_cons (pg_name (i := 4) scMr.nd rfl (.inr rfl)) (pgs_cons (pg_name (i := 5) scMr.nd rfl (.inr rfl)) pgs_nil))))
      (pss_cons (ps_set (i := 3) scMr.nd rfl (.inl rfl) (by exact (pe_outcome (k := 8) (mk := fun f c => LamO f qMr (lA lamA) (lB lamA) (lS lamA) _ c) (q := qMr) (fr := ["_law_first", "_law_second"]) (js := [4, 5]) FO gO BL BT BN M rfl (hr.mono (by decide)) (fun ok => Caps.made ok free_A in_A rfl) (fun f c => cal_A GJ)
        (pa_cons (by exact (pe_lamN (params := lA lamA) (body := lB lamA) (scope := lS lamA) (T := T) (nm := nmMr) TB rfl hm (by rfl) hu rfl free_A)) pa_nil))))
      (pss_cons (ps_if (pt_cmpR (op_neE hr.units) (pv 2) (pe_lst pa_nil) (nomark _)) (pss_one (ps_ret (by exact (pe_and (by exact (pe_cmpR (op_eqD hr.units) (pv 3) (pe_lst (pa_cons pe_str (pa_cons (by exact (pe_ix ix_list (pv 2) pe_int (fun _ _ => rfl))) pa_nil))) (nomark _)))
          (pe_one (by exact (pe_cmpR (op_eqD hr.units) (by exact (pe_outcome (k := 9) (mk := fun f c => LamO f qMr (lA lamB) (lB lamB) (lS lamB) _ c) (q := qMr) (fr := ["_law_book_here"]) (js := [0]) FO gO BL BT BN M rfl (hr.mono (by decide)) (fun ok => Caps.made ok free_B in_B rfl) (fun f c => cal_B GW)
            (pa_cons (by exact (pe_lamN (params := lA lamB) (body := lB lamB) (scope := lS lamB) (T := T) (nm := nmMr) TB rfl hm (by rfl) hu rfl free_B)) pa_nil))) (pe_lst (pa_cons pe_str (pa_cons (by exact (pe_ix ix_list (pv 2) pe_int (fun _ _ => rfl))) pa_nil))) (nomark _)))))))) pss_nil)
      (pss_cons (ps_if (PW.pt (pw_or (pt_cmpR op_ne (by exact (pe_ix ix_list (pv 3) pe_int (fun _ _ => rfl))) pe_str (nomark _)) (pw_or1 (pt_not (pt_val (by exact (pe_fx GS hr (by decide) rfl (pa_cons (by exact (pe_ix ix_list (pv 3) pe_int (fun _ _ => rfl))) (pa_cons (pv 1) pa_nil)))) (fun _ => rfl)))))) (pss_one (ps_ret pe_bl)) pss_nil)
      (pss_cons (ps_if (PW.pt (pw_or (pt_cmpR (op_neX QD ED hr (by decide)) (by exact (pe_px PF (by exact (pe_ix ix_list (pv 3) pe_int (fun _ _ => rfl))) TC.cl hr (by decide) rfl)) (by exact (pe_ix ix_tup (by exact (pe_px PBd (pv 0) TBk.cl hr (by decide) rfl)) pe_int (fun _ _ => rfl))) (nomark _)) (pw_or1 (pt_cmpR (op_neX QD ED hr (by decide)) (by exact (pe_px PE_ (by exact (pe_ix ix_list (pv 3) pe_int (fun _ _ => rfl))) TC.cl hr (by decide) rfl)) (by exact (pe_ix ix_tup (by exact (pe_px PBd (pv 0) TBk.cl hr (by decide) rfl)) pe_int (fun _ _ => rfl))) (nomark _))))) (pss_one (ps_ret pe_bl)) pss_nil)
      (pss_one (ps_ret (by exact (pe_cmpR (op_eqX QB EB hr (by decide)) (by exact (pe_call FW (hr.mono (by decide)) rfl gW kW bW .nil pass0X (pa_cons (pv 0) pa_nil))) (by exact (pe_cx GB hr (by decide) rfl (pa_cons (pe_lst (pa_cons (by exact (pe_ix ix_tup (by exact (pe_px PBd (pv 0) TBk.cl hr (by decide) rfl)) pe_int (fun _ _ => rfl))) (pa_cons (by exact (pe_ix ix_tup (by exact (pe_px PBd (pv 0) TBk.cl hr (by decide) rfl)) pe_int (fun _ _ => rfl))) pa_nil))) (pa_cons (pe_lst (pa_cons (by exact (pe_ix ix_list (pv 3) pe_int (fun _ _ => rfl))) pa_nil)) pa_nil)))) (nomark _)))))))))), ?_⟩
    obtain ⟨b, tl, lg, pl, rw_, ey, xs, cs, k3, ws, D, M, N, X, Y, rfl, ob, k1, k2, raw, hlg, hT, q⟩ := h
    have sz : ∀ n : Nat, n ≤ 1000 → n ≤ sizeLine := fun n z => by
      rw [sizeLine_eq]
      omega
    obtain ⟨dx, d, cc, v1, v2, hb, hd, dsa, hc, chs⟩ := id ob
    obtain ⟨x1, x2, x3, rfl⟩ : ∃ x1 x2 x3, xs = [x1, x2, x3] := by
      match xs, paired_len dsa with
      | [x1, x2, x3], _ => exact ⟨x1, x2, x3, rfl⟩
    obtain ⟨c1, c2, rfl⟩ : ∃ c1 c2, cs = [c1, c2] := by
      match cs, paired_len chs with
      | [c1, c2], _ => exact ⟨c1, c2, rfl⟩
    obtain ⟨_, e1, o1⟩ := pair_at dsa (j := 0) rfl
    obtain ⟨_, e2, o2⟩ := pair_at dsa (j := 1) rfl
    obtain ⟨_, e3, o3⟩ := pair_at dsa (j := 2) rfl
    obtain ⟨_, e4, o4⟩ := pair_at chs (j := 0) rfl
    obtain ⟨_, e5, o5⟩ := pair_at chs (j := 1) rfl
    cases Option.some.inj e1
    cases Option.some.inj e2
    cases Option.some.inj e3
    cases Option.some.inj e4
    cases Option.some.inj e5
    have iD := o1.2
    have iM := o2.2
    have iN := o3.2
    have o4 : ChOb K CD CC H c1 D M X := o4
    have o5 : ChOb K CD CC H c2 M N Y := o5
    refine ⟨_, rfl, b, dx, _, rfl, hb, b, dx, d, cc, v1, v2, rfl, hb, cc, _, rfl, hc, rfl, _, _, rfl, _, _, rfl, rfl, ?_⟩
    refine ⟨hT, fun fl fc H1 ext T1 nf ef ec => ⟨fl, fc, rfl, ef, ec, fun Q' E' hQ hE => ⟨c1, c2, rfl, rfl, c1, c2, D, M, M, N, X, Y, rfl, o4.nx ext, o5.nx ext, k1, k2, iD, iM, iM, iN, .inr ⟨rfl, ?_⟩⟩⟩⟩
    have hlg1 := ext _ _ hlg (fun _ z => nomatch z)
    have ob1 := ob.nx ext
    have raw1 := raw.nx ext
    rcases first_long (p := fun d => decide (16 < (rowJ X Y d).length)) D.ds with ⟨n0, d0, h1, h2, h3, r, h4⟩ | ⟨h1, h2⟩
    · have h2 : 16 < (rowJ X Y d0).length := of_decide_eq_true h2
      have hL : longJ X Y D = d0 :: r := h4
      have hs : ∀ j e, D.ds[j]? = some e → j < n0 → (rowJ X Y e).length ≤ 16 := fun j e he hj => by
        have := of_decide_eq_false (h3 j e he hj)
        omega
      have w0 : IsWord d0 := iD.dword _ (List.mem_of_getElem? h1)
      have ww : ∀ z ∈ ([("long" : Str), d0] : List Str), IsWord z := fun z hz => by
        rcases List.mem_cons.mp hz with rfl | hz
        · exact word_long
        · rw [List.mem_singleton.mp hz]
          exact w0
      have eqv1 : PyData.eqv (.list (([("long" : Str), d0] : List Str).map PyData.str)) (.list (([("long" : Str), d0] : List Str).map PyData.str)) = true := by
        have z := eqv_strs (ws := [("long" : Str), d0]) (vs := [("long" : Str), d0])
        simp only [PyData.eqv]
        rw [z]
        exact decide_eq_true rfl
      have n0l := (List.getElem?_eq_some_iff.mp h1).1
      refine ⟨n0, hs, fun d' hd' => ?_, fun hn => absurd n0l (by omega)⟩
      rw [h1] at hd'
      obtain rfl := Option.some.inj hd'
      refine ⟨h2, fun e G me ne ee => hE _ _ _ ⟨e, .str d0, rfl, .inr (.inl ⟨rfl, ee, fun l nl => ?_⟩)⟩⟩
      have al := Sm.new (o := .lst [.str "long", .str d0]) nl
      have el : upd G l (.lst [.str "long", .str d0]) l = some (.lst [.str "long", .str d0]) := upd_same
      have m2 := me.trans al
      show tNext _ _ (upd G l (.lst [.str "long", .str d0]))
      generalize upd G l (.lst [.str "long", .str d0]) = G2 at el m2 ⊢
      refine ⟨_, rfl, sz _ (by show 0 ≤ 1000; decide), fun z nz => ⟨lg, z, _, rfl, rfl, (Sm.new nz) _ _ (m2 _ _ hlg1), upd_same, _, rfl, ?_⟩⟩
      have m3 := m2.trans (Sm.new (o := .lst []) nz)
      have el := Sm.new (o := .lst []) nz _ _ el
      generalize upd G2 z (.lst []) = G3 at el m3 ⊢
      rw [hL]
      refine iteT ⟨_, rfl, _, rfl, lg, _, 0, .str d0, rfl, rfl, .inl (.inl (m3 _ _ hlg1)), by rw [hL]; exact atI_nat (j := 0) rfl, sz _ (by show 2 ≤ 1000; decide), fun y ny => ?_⟩
      have m4 := m3.trans (Sm.new (o := .lst [.str "long", .str d0]) ny)
      have el4 := Sm.new (o := .lst [.str "long", .str d0]) ny _ _ el
      have ey4 : upd G3 y (.lst [.str "long", .str d0]) y = some (.lst [.str "long", .str d0]) := upd_same
      generalize upd G3 y (.lst [.str "long", .str d0]) = G4 at el4 ey4 m4 ⊢
      refine ⟨.list (([("long" : Str), d0] : List Str).map PyData.str), .list (([("long" : Str), d0] : List Str).map PyData.str), .lst (.inl (.inl el4)) (dp_strs [("long" : Str), d0]), .lst (.inl (.inl ey4)) (dp_strs [("long" : Str), d0]), shaped_lst31 ww, shaped_lst31 ww, _, rfl, ?_⟩
      rw [eqv1]
      have T4 : TabsN T G4 := T1.ext fun b o e => m4 _ _ e
      refine iteT ⟨T4, fun f2 fc2 H5 ext5 T5 nf5 ef5 ec5 => ⟨f2, fc2, rfl, ef5, ec5, fun Q2 E2 hQ2 hE2 => ⟨b, rfl, rfl, b, _, _, _, _, rfl, (ob1.sm m4).nx ext5, rfl, .inr ⟨D, M, N, X, Y, n0, rfl, rfl, k1, k2, hs, fun d' hd' => ?_, fun hn => absurd n0l (by omega)⟩⟩⟩⟩
      rw [h1] at hd'
      obtain rfl := Option.some.inj hd'
      refine ⟨h2, fun e G me ne ee => hE2 _ _ _ ⟨e, .str d0, rfl, .inr (.inl ⟨rfl, ee, fun l6 nl6 => ?_⟩)⟩⟩
      have m6 := me.trans (Sm.new (o := .lst [.str "long", .str d0]) nl6)
      have el6 : upd G l6 (.lst [.str "long", .str d0]) l6 = some (.lst [.str "long", .str d0]) := upd_same
      have x6 : Nx H (upd G l6 (.lst [.str "long", .str d0])) := Nx.trans ext (Nx.trans (nx_of m4) (Nx.trans ext5 (nx_of m6)))
      generalize upd G l6 (.lst [.str "long", .str d0]) = G6 at m6 el6 x6 ⊢
      refine ⟨_, rfl, lg, _, 0, .str d0, rfl, rfl, .inl (.inl (x6 _ _ hlg (fun _ z => nomatch z))), by rw [hL]; exact atI_nat (j := 0) rfl, sz _ (by show 2 ≤ 1000; decide), fun y2 ny2 => ?_⟩
      have m7 := m6.trans (Sm.new (o := .lst [.str "long", .str d0]) ny2)
      have el7 := Sm.new (o := .lst [.str "long", .str d0]) ny2 _ _ el6
      have x7 := Nx.trans x6 (nx_of (Sm.new (o := .lst [.str "long", .str d0]) ny2))
      refine ⟨.list (([("long" : Str), d0] : List Str).map PyData.str), .list (([("long" : Str), d0] : List Str).map PyData.str), .lst (.inl (.inl el7)) (dp_strs [("long" : Str), d0]), .lst (.inl (.inl upd_same)) (dp_strs [("long" : Str), d0]), shaped_lst31 ww, shaped_lst31 ww, ?_⟩
      rw [eqv1]
      exact q _ x7 (T5.ext fun b o e => m7 _ _ e)
    · have hL : longJ X Y D = [] := h2
      have hs : ∀ e ∈ D.ds, (rowJ X Y e).length ≤ 16 := fun e he => by
        have := of_decide_eq_false (h1 e he)
        omega
      have none_ : ∀ {d : Str}, ¬ D.ds[D.ds.length]? = some d := fun {d} e => absurd (List.getElem?_eq_some_iff.mp e).1 (Nat.lt_irrefl _)
      have okJ : (joinX X Y).Ok D N := ⟨fun z hz => k2.p _ (k1.p z hz), fun d hd => ⟨hs d hd, fun e he => by
        obtain ⟨x, hx, hy⟩ := List.mem_flatMap.mp he
        exact (k2.r x ((k1.r d hd).2 x hx)).2 e hy⟩, fun l hl => k1.e _ (k2.e l hl)⟩
      refine ⟨D.ds.length, fun j e he _ => hs e (List.mem_of_getElem? he), fun d hd => absurd hd none_, fun _ j G mj oj => hQ _ _ fun l nl => ?_⟩
      have al := Sm.new (o := .lst [.str "told", .ref j]) nl
      have el : upd G l (.lst [.str "told", .ref j]) l = some (.lst [.str "told", .ref j]) := upd_same
      have m2 := mj.trans al
      have oj := oj.sm al
      show tNext _ _ (upd G l (.lst [.str "told", .ref j]))
      generalize upd G l (.lst [.str "told", .ref j]) = G2 at el m2 oj ⊢
      refine ⟨_, rfl, sz _ (by show 0 ≤ 1000; decide), fun z nz => ⟨lg, z, _, rfl, rfl, (Sm.new nz) _ _ (m2 _ _ hlg1), upd_same, _, rfl, ?_⟩⟩
      have az := Sm.new (o := .lst []) nz
      have m3 := m2.trans az
      have el := az _ _ el
      have oj := oj.sm az
      generalize upd G2 z (.lst []) = G3 at el m3 oj ⊢
      rw [hL]
      have S : SqL K G3 l [.str "told", .ref j] := .inl (.inl el)
      refine iteF ⟨_, rfl, l, _, 0, .str "told", rfl, rfl, S, rfl, rfl, _, rfl, ?_⟩
      refine iteF ⟨_, rfl, l, _, 1, .ref j, rfl, rfl, S, rfl, _, rfl, j, tl, pl, rw_, ey, D.ds, k3, ws, D, N, joinX X Y, rfl, oj, raw1.sm m3, okJ, iD, iN, fun G4 m4 => ⟨_, rfl, iteF ?_⟩⟩
      have m4b := m3.trans m4
      have oj4 := oj.sm m4
      have el4 := m4 _ _ el
      have ob4 := ob1.sm m4b
      obtain ⟨dxb, db, cb, vb1, vb2, hb4, hd4, ds4, hc4, chs4⟩ := id ob4
      obtain ⟨_, e1, p1⟩ := pair_at ds4 (j := 0) rfl
      obtain ⟨_, e3, p3⟩ := pair_at ds4 (j := 2) rfl
      cases Option.some.inj e1
      cases Option.some.inj e3
      obtain ⟨dxj, ja, jb, jp, jr, je, jas, hj, ja1, jb1, _⟩ := id oj4
      obtain ⟨_, _, _, _, _, hja, _⟩ := id ja1
      obtain ⟨_, _, _, _, _, hjb, _⟩ := id jb1
      obtain ⟨_, _, _, _, _, hx1, _⟩ := id p1.1
      obtain ⟨_, _, _, _, _, hx3, _⟩ := id p3.1
      refine ⟨_, rfl, l, _, 1, .ref j, rfl, rfl, .inl (.inl el4), rfl, j, dxj, _, rfl, hj, j, dxj, ja, jb, jp, jr, je, rfl, hj, _, rfl, b, dxb, _, rfl, hb4, b, dxb, db, cb, vb1, vb2, rfl, hb4, db, _, 0, .ref x1, rfl, rfl, hd4, rfl, ja, _, _, rfl, hja, .own hx1, ja, x1, D, D, rfl, ja1, iD, p1.1, iD, fun G5 m5 => ⟨_, rfl, _, rfl, ?_⟩⟩
      rw [decide_eq_true rfl]
      refine iteF ⟨_, rfl, l, _, 1, .ref j, rfl, rfl, .inl (.inl (m5 _ _ el4)), rfl, j, dxj, _, rfl, m5 _ _ hj, j, dxj, ja, jb, jp, jr, je, rfl, m5 _ _ hj, _, rfl, b, dxb, _, rfl, m5 _ _ hb4, b, dxb, db, cb, vb1, vb2, rfl, m5 _ _ hb4, db, _, 2, .ref x3, rfl, rfl, SqT.sm hd4 m5, rfl, jb, _, _, rfl, m5 _ _ hjb, .own (m5 _ _ hx3), jb, x3, N, N, rfl, jb1.sm m5, iN, p3.1.sm m5, iN, fun G6 m6 => ⟨_, rfl, _, rfl, ?_⟩⟩
      rw [decide_eq_true rfl]
      have m56 := m5.trans m6
      refine iteF ⟨_, rfl, b, _, _, _, _, rfl, ob4.sm m56, rfl, .inr ⟨D, M, N, X, Y, D.ds.length, rfl, rfl, k1, k2, fun j e he _ => hs e (List.mem_of_getElem? he), fun d hd => absurd hd none_, fun _ c7 G7 ys js m7 ob7 => ?_⟩⟩
      have m57 := m56.trans m7
      refine ⟨_, rfl, b, dxb, _, rfl, m57 _ _ hb4, b, dxb, db, cb, vb1, vb2, rfl, m57 _ _ hb4, db, _, 0, .ref x1, rfl, rfl, SqT.sm hd4 m57, rfl, _, rfl, b, dxb, _, rfl, m57 _ _ hb4, b, dxb, db, cb, vb1, vb2, rfl, m57 _ _ hb4, db, _, 2, .ref x3, rfl, rfl, SqT.sm hd4 m57, rfl, sz _ (by show 2 ≤ 1000; decide), fun l8 n8 => ?_⟩
      have a8 := Sm.new (o := .lst [.ref x1, .ref x3]) n8
      have e8 : upd G7 l8 (.lst [.ref x1, .ref x3]) l8 = some (.lst [.ref x1, .ref x3]) := upd_same
      have m58 := m57.trans a8
      have ob8 := ob7.sm a8
      generalize upd G7 l8 (.lst [.ref x1, .ref x3]) = G8 at a8 e8 m58 ob8 ⊢
      refine ⟨_, rfl, l, _, 1, .ref j, rfl, rfl, .inl (.inl (m58 _ _ el4)), rfl, sz _ (by show 1 ≤ 1000; decide), fun l9 n9 => ?_⟩
      have a9 := Sm.new (o := .lst [.ref j]) n9
      have e9 : upd G8 l9 (.lst [.ref j]) l9 = some (.lst [.ref j]) := upd_same
      have m59 := m58.trans a9
      have ob9 := ob8.sm a9
      have e89 := a9 _ _ e8
      generalize upd G8 l9 (.lst [.ref j]) = G9 at a9 e9 m59 ob9 e89 ⊢
      intro bb dbb nb ndb ne
      have mN := new2 (o := .own bb) (u := .ins CB dbb []) nb ndb
      have m60 := m59.trans mN
      refine ⟨bb, dbb, l8, l9, [x1, x3], [j], [D, N], [joinX X Y], rfl, upd_same, .inl (.inl (.inl (mN _ _ e89))), .cons ⟨p1.1.sm m60, iD⟩ (.cons ⟨p3.1.sm m60, iN⟩ .nil), (by show 1 ≤ 2; decide), (by show 2 ≤ 3; decide), .inl (.inl (mN _ _ e9)), .cons (oj4.sm m60) .nil, rfl, fun H' sx okb => ⟨rfl, ?_⟩⟩
      have mF := make_sm nb ndb sx
      have ob10 := ob9.sm mF
      obtain ⟨_, _, _, _, _, h7, _⟩ := id ob10
      obtain ⟨_, _, _, _, _, hbb, _⟩ := id okb
      exact ⟨c7, _, _, rfl, h7, .own hbb, c7, bb, ys, [x1, x3], js, [j], [D, N], [joinX X Y], rfl, ob10, okb, fun H11 m11 => q _ (Nx.trans ext (nx_of (((m4b.trans m59).trans mF).trans m11))) (T1.ext fun b o e => m11 _ _ (mF _ _ (m59 _ _ (m4b _ _ e))))⟩
end
end Dk
set_option Elab.async false
set_option linter.all false
set_option maxRecDepth 100000
set_option maxHeartbeats 8000000
namespace Dk
open PySem PySem.Spec PyProof.Rows L2 Er LamX NdefX CmX
/-! ### != of two lists that hold the same text and the very same object -/
def rNeP : R2 := fun x y H Q => ∃ (a b c : Addr) (z : Str), x = .ref a ∧ y = .ref b ∧ H a = some (.lst [.str z, .ref c]) ∧ H b = some (.lst [.str z, .ref c]) ∧ Q (.bl false) H
theorem op_neP {X : Cx} (hu : X.A.units + 64 < cLine) : OpR X (compareOp .NotEq) rNeP := by
  intro ps s σ H x y v u Q I rx ry h
  obtain ⟨a, b, c, z, rfl, rfl, ea, eb, q⟩ := h
  obtain rfl : v = Value.ref a := rx
  obtain rfl : u = Value.ref b := ry
  obtain ⟨_, its, n, rv, ho⟩ := (show ObjOk X.prog X.w H s.heap a (.lst [.str z, .ref c]) from I.hok a _ ea)
  obtain ⟨_, it2, n2, rv2, ho2⟩ := (show ObjOk X.prog X.w H s.heap b (.lst [.str z, .ref c]) from I.hok b _ eb)
  cases rv with
  | @cons _ x1 _ t1 h1 r1 =>
  cases r1 with
  | @cons _ x2 _ t2 h2 r2 =>
  cases r2
  cases rv2 with
  | @cons _ y1 _ s1 g1 w1 =>
  cases w1 with
  | @cons _ y2 _ s2 g2 w2 =>
  cases w2
  cases h2
  cases g2
  have L1 : s.heap.IsList a [x1, Value.ref c].toArray := ⟨_, ho, rfl, _, rfl⟩
  have L2 : s.heap.IsList b [y1, Value.ref c].toArray := ⟨_, ho2, rfl, _, rfl⟩
  refine SeqAt.RcNeAt.lists (e := fun _ => true) L1 L2 rfl (by omega) (fun j k1 k2 => ?_) X.prog X.w _ _ ?_
  · have kj : j < 2 := k1
    match j, kj with
    | 0, _ =>
      have e := eqAt_V (A := X.A.in1) (s := s) h1 g1 rfl rfl
      rw [show eqV (V.str z) (V.str z) = true from by simp [eqV]] at e
      exact e
    | 1, _ => exact SeqAt.EqAt.same _
  · exact ⟨.bl false, H, I, rfl, q⟩
end Dk
set_option Elab.async false
set_option linter.all false
set_option maxRecDepth 100000
set_option maxHeartbeats 8000000
namespace Dk
open PySem PySem.Spec PyProof.Rows L2 Er LamX NdefX CmX
/-! ### rows by deeds, as they are changed one by one -/
def RowT (H : Hp) (t : List (Key × V)) (ks : List Str) (rf : Str → List Str) : Prop := t.map (·.1) = ks.map Sum.inr ∧ ∀ d ∈ ks, ∃ a, valV t (.inr d) = some (.ref a) ∧ H a = some (.lst ((rf d).map V.str))
theorem RowT.of {H : Hp} {ws : List Addr} {ks : List Str} {rf : Str → List Str} (h : Paired (LstAt rf H) ws ks) : RowT H (dkv ks (ws.map V.ref)) ks rf := ⟨dkv_keys (by rw [List.length_map, paired_len h]), fun d hd => lst_at h hd⟩
theorem RowT.to {H : Hp} {rf : Str → List Str} : ∀ {ks : List Str} {t : List (Key × V)}, ks.Nodup → RowT H t ks rf → ∃ ws : List Addr, t = dkv ks (ws.map V.ref) ∧ Paired (LstAt rf H) ws ks
  | [], t, _, h => by
    have e : t = [] := List.map_eq_nil_iff.mp h.1
    exact ⟨[], by rw [e]; rfl, .nil⟩
  | d :: ks, t, nd, h => by
    obtain ⟨h1, h2⟩ := h
    cases t with
    | nil => cases h1
    | cons kv t =>
      obtain ⟨k, v⟩ := kv
      have e1 : k = .inr d := List.head_eq_of_cons_eq h1
      have e2 : t.map (·.1) = ks.map Sum.inr := List.tail_eq_of_cons_eq h1
      subst e1
      obtain ⟨n1, n2⟩ := List.nodup_cons.mp nd
      obtain ⟨a, ea, ha⟩ := h2 d List.mem_cons_self
      rw [valV_pos rfl] at ea
      have ev : v = .ref a := Option.some.inj ea
      obtain ⟨ws, rfl, pw⟩ := RowT.to n2 (t := t) ⟨e2, fun e he => by
        obtain ⟨b, eb, hb⟩ := h2 e (List.mem_cons_of_mem _ he)
        rw [valV_neg (fun z => n1 (by have := Sum.inr.inj z; rw [this]; exact he))] at eb
        exact ⟨b, eb, hb⟩⟩
      exact ⟨a :: ws, by rw [ev]; rfl, .cons ha pw⟩
theorem RowT.len {H : Hp} {t : List (Key × V)} {ks : List Str} {rf : Str → List Str} (h : RowT H t ks rf) : t.length = ks.length := by
  have := congrArg List.length h.1
  rwa [List.length_map, List.length_map] at this
theorem RowT.put {H G : Hp} {t : List (Key × V)} {ks : List Str} {rf : Str → List Str} {d : Str} {a : Addr} {row : List Str} (h : RowT H t ks rf) (hd : d ∈ ks) (k : ∀ b (ws : List Str), H b = some (.lst (ws.map V.str)) → G b = some (.lst (ws.map V.str))) (ha : G a = some (.lst (row.map V.str))) : RowT G (putK t (.inr d) (.ref a)) ks (fun e => if e = d then row else rf e) := by
  refine ⟨?_, fun e he => ?_⟩
  · rw [putK_keys, if_pos (by rw [h.1]; exact List.mem_map_of_mem hd)]
    exact h.1
  · rw [valV_put]
    by_cases c : e = d
    · refine ⟨a, by rw [if_pos (by rw [c])], ?_⟩
      show G a = some (.lst ((if e = d then row else rf e).map V.str))
      rw [if_pos c]
      exact ha
    · obtain ⟨b, eb, hb⟩ := h.2 e he
      refine ⟨b, by rw [if_neg (fun z => c (Sum.inr.inj z))]; exact eb, ?_⟩
      show G b = some (.lst ((if e = d then row else rf e).map V.str))
      rw [if_neg c]
      exact k _ _ hb
/-- a list of texts cut short -/
theorem cut_rep (row : List Str) (n : Nat) : ∃ row2 : List Str, cutV (List.replicate 16 (row.map V.str)).flatten none (some ((n : Nat) : Int)) = row2.map V.str ∧ row2.length ≤ n ∧ ∀ c ∈ row2, c ∈ row := by
  have e : (List.replicate 16 (row.map V.str)).flatten = ((List.replicate 16 row).flatten).map V.str := by
    rw [List.map_flatten, List.map_replicate]
  refine ⟨((List.replicate 16 row).flatten).take (min n ((List.replicate 16 row).flatten).length), ?_, ?_, fun c hc => ?_⟩
  · rw [e]
    unfold cutV
    rw [HT.sIx_none, HT.sIx_nat, List.drop_zero, List.length_map, Nat.sub_zero, List.map_take]
  · rw [List.length_take]
    omega
  · obtain ⟨l, hl, hc2⟩ := List.mem_flatten.mp (List.mem_of_mem_take hc)
    rw [List.eq_of_mem_replicate hl] at hc2
    exact hc2
theorem txt_ne {H : Hp} {p g a : Addr} {ws : List Str} (pen : Pen H p g) (ha : H a = some (.lst (ws.map V.str))) : a ≠ p := fun z => by
  obtain ⟨_, _, _, _, hp, _⟩ := pen
  rw [z, hp] at ha
  have e := HO.lst.inj (Option.some.inj ha)
  cases ws with
  | nil => cases e
  | cons w ws =>
    rw [List.map_cons] at e
    have := List.head_eq_of_cons_eq e
    cases this
end Dk
set_option Elab.async false
set_option linter.all false
set_option maxRecDepth 100000
set_option maxHeartbeats 8000000
namespace Dk
open PySem PySem.Spec PyProof.Rows L2 Er LamX NdefX CmX
/-! ### the law, statement by statement: what it asks, and what holds behind it -/
abbrev nLaw31 : List Str := ["_law_script", "_law_pen_here", "_law_turn", "_law_desks", "_law_raw", "_law_change_here", "_law_deed", "_law_many", "_law_world", "_law_book_here", "_law_told", "_law_long", "_law_small", "_law_first", "_law_one", "_law_second", "_law_lap"]
theorem scLaw31 : FnScope nLaw31 ["_law_script"] (defScope (top 62)) := ⟨rfl, rfl, rfl, by decide +kernel, rfl, by decide +kernel, by decide +kernel⟩
abbrev LX31 (P : Program) (w : World) (K : PySem.W.Frag) (mg : Str → Option Value) (base : Heap) (f : Addr) (cdv : Value) (A : Around) (outer : List Env) (s : Shared) (H : Hp) (E : XK) : Cx := (cxOf CX0 P w K mg base nLaw31 "law" (defScope (top 62)) f cdv A outer s H E).nox
def inS : Stmt → List Stmt
  | .For _ _ b _ _ => b
  | .If _ b _ _ => b
  | _ => []
def ith (l : List Stmt) (i : Nat) : Stmt := l.getD i (top 62)
def lawTurn : Stmt := ith (defBody (top 62)) 1
def cutIf : Stmt := ith (inS lawTurn) 2
def cutEach : Stmt := ith (inS cutIf) 0
def cutFor : Stmt := ith (inS cutEach) 0
theorem ps_weak {X : Cx} {st : Stmt} {t t' : TS} (h : PS X st t) (i : ∀ D σ H, t' D σ H → t D σ H) : PS X st t' := ⟨fun pins s σ H D I hw => h.run pins s σ H D I (i D σ H hw)⟩
theorem pss_weak {X : Cx} {st : List Stmt} {t t' : TS} (h : PSs X st t) (i : ∀ D σ H, t' D σ H → t D σ H) : PSs X st t' := ⟨fun pins s σ H D I hw => h.run pins s σ H D I (i D σ H hw)⟩
/-- for deed in list(change[1]): change[1][deed] = (change[1][deed] * 16)[:one_of(..)] -/
def tCut31 : TS := fun D σ H => ∃ (p g u pl rw ey : Addr) (t : List (Key × V)) (ks : List Str) (rf : Str → List Str) (v0 v2 v3 v4 v6 v7 v8 v9 v10 v11 v12 v13 v14 v15 v16 : Option V), σ = [v0, some (.ref p), v2, v3, v4, some (.ref u), v6, v7, v8, v9, v10, v11, v12, v13, v14, v15, v16] ∧
  Pen H p g ∧ H u = some (.lst [.ref pl, .ref rw, .ref ey]) ∧ H rw = some (.dK t) ∧ RowT H t ks rf ∧ ks.length ≤ 4 ∧ (∀ d ∈ ks, (rf d).length ≤ 16) ∧ u ≠ p ∧ rw ≠ p ∧
  ∀ (w6 w7 : Option V) (t2 : List (Key × V)) (rf2 : Str → List Str) (H' : Hp), (∀ b o, b ≠ p → b ≠ rw → H b = some o → H' b = some o) → Pen H' p g → H' rw = some (.dK t2) → RowT H' t2 ks rf2 → (∀ d ∈ ks, (rf2 d).length ≤ 16 ∧ ∀ c ∈ rf2 d, c ∈ rf d) →
    D.nx [v0, some (.ref p), v2, v3, v4, some (.ref u), w6, w7, v8, v9, v10, v11, v12, v13, v14, v15, v16] H'
section
variable {P : Program} {w : World} {K : PySem.W.Frag} {mg : Str → Option Value} {base : Heap} {f : Addr} {cdv : Value} {A : Around} {outer : List Env} {s : Shared} {H0 : Hp} {E : XK}
theorem ps_cut31 (hr : Room 12 (LX31 P w K mg base f cdv A outer s H0 E).A) (mL : mg "list" = none) (GO : Fx P w K mg base CX0 3 "_law_one_of" nOne spOne) : PS (LX31 P w K mg base f cdv A outer s H0 E) cutFor tCut31 := by
  refine ps_weak (ps_for PassesOwn.never rfl (pi_list (by exact (pe_callTy (call_list_dK rfl) rfl mL PyProof.Rows.boot_list (pa_cons (by exact (pe_ix ix_list (pv 5) pe_int (fun _ _ => rfl))) pa_nil)))) (pg_name (i := 6) scLaw31.nd rfl (.inl rfl))
    (pss_cons (ps_set (i := 7) scLaw31.nd rfl (.inl rfl) (by exact (pe_fx GO hr (by decide) rfl (pa_cons (pv 1) (pa_cons (pe_lst (pa_cons pe_int (pa_cons pe_int (pa_cons pe_int (pa_cons pe_int (pa_cons pe_int pa_nil)))))) pa_nil)))))
    (pss_one (ps_dput (hu_of hr) (by exact (pe_ix ix_list (pv 5) pe_int (fun _ _ => rfl))) (pv 6) (by exact (pe_slice sl_list (by exact (pe_op op_rep (by exact (pe_dget (hu_of hr) (by exact (pe_ix ix_list (pv 5) pe_int (fun _ _ => rfl))) (pv 6) (fun _ _ => rfl))) pe_int)) po_none (po_some (pv 7)))) (by rfl)))) (fun _ => rfl)) (fun D σ H h => ?_)
  obtain ⟨p, g, u, pl, rw_, ey, t, ks, rf, v0, v2, v3, v4, v6, v7, v8, v9, v10, v11, v12, v13, v14, v15, v16, rfl, pen, hu, hrw, rt, k4, r16, up, rp, q⟩ := h
  have sz : ∀ n : Nat, n ≤ 1000 → n ≤ sizeLine := fun n z => by
    rw [sizeLine_eq]
    omega
  have pn : ∀ {G : Hp} {b : Addr}, Pen G p g → G b = none → b ≠ p := fun {G b} pn nb z => by
    obtain ⟨_, _, _, _, hp, _⟩ := pn
    rw [z, hp] at nb
    cases nb
  have ek : ∀ {t : List (Key × V)}, t.map (·.1) = ks.map Sum.inr → t.map (fun kv => kV kv.1) = ks.map V.str := fun {t} e => by
    have := congrArg (List.map kV) e
    rw [List.map_map, List.map_map] at this
    exact this
  refine ⟨_, rfl, u, _, 1, .ref rw_, rfl, rfl, .inl (.inl hu), rfl, rw_, _, rfl, hrw, fun dl ndl => ?_⟩
  have adl := Sm.new (o := .lst (ks.map V.str)) ndl
  have dlp := pn pen ndl
  have dlr : dl ≠ rw_ := fun z => by
    rw [z, hrw] at ndl
    cases ndl
  have ur : u ≠ rw_ := fun z => by
    rw [z, hrw] at hu
    cases hu
  rw [show (t.map fun kv => kV kv.1) = ks.map V.str from ek rt.1]
  have edl : upd H dl (.lst (ks.map V.str)) dl = some (.lst (ks.map V.str)) := upd_same
  have k0 : ∀ b o, b ≠ p → b ≠ rw_ → H b = some o → upd H dl (.lst (ks.map V.str)) b = some o := fun b o _ _ e => adl _ _ e
  have pen0 := pen.sm adl
  have rt0 : RowT (upd H dl (.lst (ks.map V.str))) t ks rf := ⟨rt.1, fun d hd => by
    obtain ⟨a, e, h⟩ := rt.2 d hd
    exact ⟨a, e, adl _ _ h⟩⟩
  have hrw0 := adl _ _ hrw
  have hu0 := adl _ _ hu
  generalize upd H dl (.lst (ks.map V.str)) = G0 at edl k0 pen0 rt0 hrw0 hu0 ⊢
  refine ⟨dl, rfl, ⟨_, .inl (.inl edl)⟩, ?_⟩
  refine for_list (K := K) (a := dl) (xs := ks.map V.str) (fun i σ G => ∃ (w6 w7 : Option V) (t2 : List (Key × V)) (rf2 : Str → List Str), σ = [v0, some (.ref p), v2, v3, v4, some (.ref u), w6, w7, v8, v9, v10, v11, v12, v13, v14, v15, v16] ∧ (∀ b o, b ≠ p → b ≠ rw_ → G0 b = some o → G b = some o) ∧ Pen G p g ∧ G rw_ = some (.dK t2) ∧ RowT G t2 ks rf2 ∧ (∀ d ∈ ks, (rf2 d).length ≤ 16 ∧ ∀ c ∈ rf2 d, c ∈ rf d)) ?_ ?_ ?_ ?_
  · exact ⟨v6, v7, t, rf, rfl, fun b o _ _ e => e, pen0, hrw0, rt0, fun d hd => ⟨r16 d hd, fun c hc => hc⟩⟩
  · rintro i σ G _ ⟨_, _, _, _, _, keep, _⟩
    exact .inl (.inl (keep _ _ dlp dlr edl))
  · rintro i x σ G hx ⟨w6, w7, t2, rf2, rfl, keep, pen2, er, rt2, bd⟩
    obtain ⟨d, ed, rfl⟩ := str_atS hx
    have hd := List.mem_of_getElem? ed
    refine ⟨_, rfl, sz _ (by show 5 ≤ 1000; decide), fun li nli => ⟨p, g, li, _, rfl, pen2.sm (Sm.new nli), upd_same, pn pen2 nli, by show 1 ≤ 5; decide, by show 5 ≤ 1000; decide, fun j x G3 ej s3 pen3 => ?_⟩⟩
    have s3 := (Sx.of (p := p) (Sm.new (o := .lst [.int 0, .int 1, .int 4, .int 5, .int 16]) nli)).trans s3
    obtain ⟨z, rfl, hz⟩ : ∃ z : Nat, x = .int (z : Nat) ∧ z ≤ 16 := by
      match j, ej with
      | 0, ej => exact ⟨0, (Option.some.inj ej).symm, by decide⟩
      | 1, ej => exact ⟨1, (Option.some.inj ej).symm, by decide⟩
      | 2, ej => exact ⟨4, (Option.some.inj ej).symm, by decide⟩
      | 3, ej => exact ⟨5, (Option.some.inj ej).symm, by decide⟩
      | 4, ej => exact ⟨16, (Option.some.inj ej).symm, by decide⟩
      | n + 5, ej => exact absurd ej (by simp)
    obtain ⟨a, ea, ha⟩ := rt2.2 d hd
    have ap := txt_ne pen2 ha
    have u3 := s3 _ _ up (keep _ _ up ur hu0)
    have er3 := s3 _ _ rp er
    have ha3 := s3 _ _ ap ha
    have t2l := rt2.len
    obtain ⟨row2, c1, c2, c3⟩ := cut_rep (rf2 d) z
    have b16 := (bd d hd).1
    refine ⟨_, rfl, u, _, 1, .ref rw_, rfl, rfl, .inl (.inl u3), rfl, _, rfl, rw_, .ref a, rfl, .inl ⟨_, .inr d, .inl er3, rfl, ea.symm⟩, a, 16, _, rfl, rfl, ha3, by decide, by decide, ?_, fun y ny => ?_⟩
    · rw [List.length_map, sizeLine_eq]
      show (rf2 d).length * 16 ≤ _
      omega
    have ay := Sm.new (o := .lst (List.replicate 16 ((rf2 d).map V.str)).flatten) ny
    have ey : upd G3 y (.lst (List.replicate 16 ((rf2 d).map V.str)).flatten) y = some (.lst (List.replicate 16 ((rf2 d).map V.str)).flatten) := upd_same
    have pen4 := pen3.sm ay
    show tNoPart _ (upd G3 y (.lst (List.replicate 16 ((rf2 d).map V.str)).flatten)) _
    have s4 := s3.trans (Sx.of ay)
    generalize upd G3 y (.lst (List.replicate 16 ((rf2 d).map V.str)).flatten) = G4 at ay ey pen4 s4 ⊢
    refine ⟨_, rfl, _, rfl, y, _, rfl, .inl (.inl ey), fun n nn => ?_⟩
    rw [c1]
    have an := Sm.new (o := .lst (row2.map V.str)) nn
    have en : upd G4 n (.lst (row2.map V.str)) n = some (.lst (row2.map V.str)) := upd_same
    have pen5 := pen4.sm an
    have s5 := s4.trans (Sx.of an)
    generalize upd G4 n (.lst (row2.map V.str)) = G5 at an en pen5 s5 ⊢
    have er5 := s5 _ _ rp er
    have u5 := s5 _ _ up (keep _ _ up ur hu0)
    refine ⟨_, rfl, u, _, 1, .ref rw_, rfl, rfl, .inl (.inl u5), rfl, _, rfl, rw_, _, rfl, DPut.k (k := .inr d) er5 (by rw [t2l, sizeLine_eq]; omega), _, _, _, (fun e => if e = d then row2 else rf2 e), rfl, ?_, ?_, upd_same, ?_, ?_⟩
    · intro b o n1 n2 e
      rw [upd_ne n2]
      exact s5 _ _ n1 (keep _ _ n1 n2 e)
    · obtain ⟨cs2, i2, r2, gp, hp2, hg2⟩ := id pen5
      exact ⟨cs2, i2, r2, gp, by rw [upd_ne (Ne.symm rp)]; exact hp2, by rw [upd_ne (fun z => by rw [z, er5] at hg2; cases hg2)]; exact hg2⟩
    · refine RowT.put rt2 hd (row := row2) (H := G) (a := n) (fun b ws e => ?_) ?_
      · rw [upd_ne (fun z => by rw [z, er] at e; cases e)]
        exact s5 _ _ (txt_ne pen2 e) e
      · rw [upd_ne (fun z => by rw [z, er5] at en; cases en)]
        exact en
    · intro e he
      show (if e = d then row2 else rf2 e).length ≤ 16 ∧ ∀ c ∈ (if e = d then row2 else rf2 e), c ∈ rf e
      by_cases c : e = d
      · rw [if_pos c, c]
        exact ⟨by omega, fun x hx => (bd d hd).2 _ (c3 x hx)⟩
      · rw [if_neg c]
        exact bd e he
  · rintro σ G ⟨w6, w7, t2, rf2, rfl, keep, pen2, er, rt2, bd⟩
    exact q w6 w7 t2 rf2 G (fun b o n1 n2 e => keep _ _ n1 n2 (k0 _ _ n1 n2 e)) pen2 er rt2 bd
end
end Dk
set_option Elab.async false
set_option linter.all false
set_option maxRecDepth 100000
set_option maxHeartbeats 8000000
namespace Dk
open PySem PySem.Spec PyProof.Rows L2 Er LamX NdefX CmX
/-! ### both changes, while their rows are changed -/
theorem tab_ne {H : Hp} {a b : Addr} {ws : List Str} {pf : Str → Str} {ks : List Str} {rs : List Addr} (ha : H a = some (.dK (tabS ws pf))) (hb : H b = some (.dK (dkv ks (rs.map V.ref)))) (n : ws ≠ []) : a ≠ b := fun z => by
  rw [z, hb] at ha
  have e := HO.dK.inj (Option.some.inj ha)
  cases ws with
  | nil => exact n rfl
  | cons w ws =>
    cases ks with
    | nil => cases e
    | cons k ks =>
      cases rs with
      | nil => cases e
      | cons r rs =>
        have := (Prod.mk.inj (List.head_eq_of_cons_eq e)).2
        cases this
theorem txt_ne_refs {H : Hp} {a u x : Addr} {ws : List Str} {xs : List V} (ha : H a = some (.lst (ws.map V.str))) (hu : H u = some (.lst (.ref x :: xs))) : a ≠ u := fun z => by
  rw [z, hu] at ha
  have e := HO.lst.inj (Option.some.inj ha)
  cases ws with
  | nil => cases e
  | cons w ws =>
    rw [List.map_cons] at e
    have := List.head_eq_of_cons_eq e
    cases this
theorem perm_ne {a b : List Str} (h : a.Perm b) (n : b ≠ []) : a ≠ [] := fun z => n (by
  rw [z] at h
  exact h.nil_eq.symm)
theorem fm_ne_nil {ls : List Str} (n : ls ≠ []) : fm ls ≠ [] := fun z => by
  cases ls with
  | nil => exact n rfl
  | cons l ls =>
    have := (mem_fm (s := l) (l :: ls)).mpr List.mem_cons_self
    rw [z] at this
    cases this
theorem is_ls {E : DkD} (h : E.Is) : fm E.ls ≠ [] := fm_ne_nil fun z => by
  have a := h.looks
  have b := h.some
  rw [z] at a
  have : 0 = E.ws.length := a
  omega
/-- the rows of such a change are put anew -/
theorem RawC.cut {H G : Hp} {p g u pl rw ey : Addr} {k2 k3 : List Str} {rs : List Addr} {D E : DkD} {X : ChD} {t2 : List (Key × V)} {rf2 : Str → List Str} (c : RawC H u pl rw ey k2 k3 rs D E X) (ok : X.Ok D E) (iD : D.Is) (iE : E.Is) (pen : Pen H p g)
    (keep : ∀ b o, b ≠ p → b ≠ rw → H b = some o → G b = some o) (er : G rw = some (.dK t2)) (rt : RowT G t2 k2 rf2) (bd : ∀ d ∈ k2, (rf2 d).length ≤ 16 ∧ ∀ c ∈ rf2 d, c ∈ X.rf d) :
    ∃ rs2, RawC G u pl rw ey k2 k3 rs2 D E { X with rf := rf2 } ∧ ({ X with rf := rf2 } : ChD).Ok D E := by
  obtain ⟨cs, i, r, gp, hp, hg⟩ := pen
  have wn : D.ws ≠ [] := fun z => by
    have := iD.some
    rw [z] at this
    exact absurd this (by decide)
  have ln : fm E.ls ≠ [] := is_ls iE
  have up : u ≠ p := fun z => by
    have := c.at_
    rw [z, hp] at this
    cases this
  have ur : u ≠ rw := fun z => by
    have := c.at_
    rw [z, c.rw_] at this
    cases this
  have pp : pl ≠ p := fun z => by
    have := c.pl_
    rw [z, hp] at this
    cases this
  have ep : ey ≠ p := fun z => by
    have := c.ey_
    rw [z, hp] at this
    cases this
  have pr := tab_ne c.pl_ c.rw_ wn
  have er2 := tab_ne c.ey_ c.rw_ (perm_ne c.pm3 ln)
  have nd : k2.Nodup := c.pm2.nodup_iff.mpr iD.dnd
  obtain ⟨rs2, rfl, pr2⟩ := rt.to nd
  refine ⟨rs2, ⟨keep _ _ up ur c.at_, keep _ _ pp pr c.pl_, er, pr2, c.pm2, keep _ _ ep er2 c.ey_, c.pm3⟩, ⟨ok.p, fun d hd => ?_, ok.e⟩⟩
  have h := bd d (c.pm2.mem_iff.mpr hd)
  exact ⟨h.1, fun x hx => (ok.r d hd).2 x (h.2 x hx)⟩
theorem RawC.x {H G : Hp} {p g u pl rw ey : Addr} {k2 k3 : List Str} {rs : List Addr} {D E : DkD} {X : ChD} (c : RawC H u pl rw ey k2 k3 rs D E X) (pen : Pen H p g) (keep : Sx p H G) : RawC G u pl rw ey k2 k3 rs D E X := by
  obtain ⟨cs, i, r, gp, hp, hg⟩ := id pen
  have n : ∀ {b : Addr} {o : HO}, H b = some o → o ≠ .lst [.ref g, .int i, .int r] → b ≠ p := fun {b o} e z y => by
    rw [y, hp] at e
    exact z (Option.some.inj e).symm
  refine ⟨keep _ _ (n c.at_ (fun z => by cases z)) c.at_, keep _ _ (n c.pl_ (fun z => by cases z)) c.pl_, keep _ _ (n c.rw_ (fun z => by cases z)) c.rw_, pair_mono c.rs_ fun a _ d e => ?_, c.pm2, keep _ _ (n c.ey_ (fun z => by cases z)) c.ey_, c.pm3⟩
  have e : H a = some (.lst ((X.rf d).map V.str)) := e
  exact keep _ _ (txt_ne pen e) e
/-- such a change stays where another one's rows are put anew -/
theorem RawC.far {H G : Hp} {p g u pl rw ey b : Addr} {k2 k3 ks : List Str} {rs ws : List Addr} {D E : DkD} {X : ChD} (c : RawC H u pl rw ey k2 k3 rs D E X) (iD : D.Is) (iE : E.Is) (pen : Pen H p g) (hb : H b = some (.dK (dkv ks (ws.map V.ref)))) (n : rw ≠ b)
    (keep : ∀ x o, x ≠ p → x ≠ b → H x = some o → G x = some o) : RawC G u pl rw ey k2 k3 rs D E X := by
  obtain ⟨cs, i, r, gp, hp, hg⟩ := id pen
  have wn : D.ws ≠ [] := fun z => by
    have := iD.some
    rw [z] at this
    exact absurd this (by decide)
  have ln : fm E.ls ≠ [] := is_ls iE
  have up : u ≠ p := fun z => by
    have := c.at_
    rw [z, hp] at this
    cases this
  have ur : u ≠ b := fun z => by
    have := c.at_
    rw [z, hb] at this
    cases this
  have pp : pl ≠ p := fun z => by
    have := c.pl_
    rw [z, hp] at this
    cases this
  have ep : ey ≠ p := fun z => by
    have := c.ey_
    rw [z, hp] at this
    cases this
  have rp : rw ≠ p := fun z => by
    have := c.rw_
    rw [z, hp] at this
    cases this
  refine ⟨keep _ _ up ur c.at_, keep _ _ pp (tab_ne c.pl_ hb wn) c.pl_, keep _ _ rp n c.rw_, pair_mono c.rs_ fun a _ d e => ?_, c.pm2, keep _ _ ep (tab_ne c.ey_ hb (perm_ne c.pm3 ln)) c.ey_, c.pm3⟩
  have e : H a = some (.lst ((X.rf d).map V.str)) := e
  exact keep _ _ (txt_ne pen e) (fun z => by
    rw [z, hb] at e
    cases e) e
/-- both changes stand in the law's list; what stood before them (F) stands -/
structure Rws (F H : Hp) (p g raw u1 pl1 rw1 ey1 u2 pl2 rw2 ey2 : Addr) (D M N : DkD) (X Y : ChD) : Prop where
  pen : Pen H p g
  keep : Sx p F H
  f : F u1 = none ∧ F rw1 = none ∧ F u2 = none ∧ F rw2 = none
  raw_ : H raw = some (.lst [.ref u1, .ref u2])
  ne : rw1 ≠ rw2
  nu : u1 ≠ u2
  c1 : ∃ k2 k3 rs, RawC H u1 pl1 rw1 ey1 k2 k3 rs D M X
  c2 : ∃ k2 k3 rs, RawC H u2 pl2 rw2 ey2 k2 k3 rs M N Y
  ok1 : X.Ok D M
  ok2 : Y.Ok M N
theorem raw_ne_p {H : Hp} {p g raw u1 u2 : Addr} (pen : Pen H p g) (h : H raw = some (.lst [.ref u1, .ref u2])) : raw ≠ p := fun z => by
  obtain ⟨cs, i, r, gp, hp, hg⟩ := pen
  rw [z, hp] at h
  cases h
theorem none_of {F : Hp} {a b : Addr} {o : HO} (e : F a = some o) (n : F b = none) : a ≠ b := fun z => by
  rw [z, n] at e
  cases e
theorem Rws.cut1 {F H G : Hp} {p g raw u1 pl1 rw1 ey1 u2 pl2 rw2 ey2 : Addr} {D M N : DkD} {X Y : ChD} (R : Rws F H p g raw u1 pl1 rw1 ey1 u2 pl2 rw2 ey2 D M N X Y) (iD : D.Is) (iM : M.Is) (iN : N.Is) {k2 k3 : List Str} {rs : List Addr} (c : RawC H u1 pl1 rw1 ey1 k2 k3 rs D M X) {t2 : List (Key × V)} {rf2 : Str → List Str}
    (keep : ∀ b o, b ≠ p → b ≠ rw1 → H b = some o → G b = some o) (pen : Pen G p g) (er : G rw1 = some (.dK t2)) (rt : RowT G t2 k2 rf2) (bd : ∀ d ∈ k2, (rf2 d).length ≤ 16 ∧ ∀ c ∈ rf2 d, c ∈ X.rf d) :
    Rws F G p g raw u1 pl1 rw1 ey1 u2 pl2 rw2 ey2 D M N { X with rf := rf2 } Y := by
  obtain ⟨rs2, cc, ok⟩ := c.cut R.ok1 iD iM R.pen keep er rt bd
  obtain ⟨m2, m3, ms, d⟩ := R.c2
  refine ⟨pen, fun b o n e => ?_, R.f, keep _ _ (raw_ne_p R.pen R.raw_) (fun z => ?_) R.raw_, R.ne, R.nu, ⟨k2, k3, rs2, cc⟩, ⟨m2, m3, ms, d.far iM iN R.pen c.rw_ (Ne.symm R.ne) keep⟩, ok, R.ok2⟩
  · exact keep _ _ n (none_of e R.f.2.1) (R.keep _ _ n e)
  · have := R.raw_
    rw [z, c.rw_] at this
    cases this
theorem Rws.cut2 {F H G : Hp} {p g raw u1 pl1 rw1 ey1 u2 pl2 rw2 ey2 : Addr} {D M N : DkD} {X Y : ChD} (R : Rws F H p g raw u1 pl1 rw1 ey1 u2 pl2 rw2 ey2 D M N X Y) (iD : D.Is) (iM : M.Is) (iN : N.Is) {k2 k3 : List Str} {rs : List Addr} (c : RawC H u2 pl2 rw2 ey2 k2 k3 rs M N Y) {t2 : List (Key × V)} {rf2 : Str → List Str}
    (keep : ∀ b o, b ≠ p → b ≠ rw2 → H b = some o → G b = some o) (pen : Pen G p g) (er : G rw2 = some (.dK t2)) (rt : RowT G t2 k2 rf2) (bd : ∀ d ∈ k2, (rf2 d).length ≤ 16 ∧ ∀ c ∈ rf2 d, c ∈ Y.rf d) :
    Rws F G p g raw u1 pl1 rw1 ey1 u2 pl2 rw2 ey2 D M N X { Y with rf := rf2 } := by
  obtain ⟨rs2, cc, ok⟩ := c.cut R.ok2 iM iN R.pen keep er rt bd
  obtain ⟨m2, m3, ms, d⟩ := R.c1
  refine ⟨pen, fun b o n e => ?_, R.f, keep _ _ (raw_ne_p R.pen R.raw_) (fun z => ?_) R.raw_, R.ne, R.nu, ⟨m2, m3, ms, d.far iD iM R.pen c.rw_ R.ne keep⟩, ⟨k2, k3, rs2, cc⟩, R.ok1, ok⟩
  · exact keep _ _ n (none_of e R.f.2.2.2) (R.keep _ _ n e)
  · have := R.raw_
    rw [z, c.rw_] at this
    cases this
theorem Rws.x {F H G : Hp} {p g raw u1 pl1 rw1 ey1 u2 pl2 rw2 ey2 : Addr} {D M N : DkD} {X Y : ChD} (R : Rws F H p g raw u1 pl1 rw1 ey1 u2 pl2 rw2 ey2 D M N X Y) (sx : Sx p H G) (pen : Pen G p g) : Rws F G p g raw u1 pl1 rw1 ey1 u2 pl2 rw2 ey2 D M N X Y := by
  obtain ⟨k2, k3, rs, c⟩ := R.c1
  obtain ⟨m2, m3, ms, d⟩ := R.c2
  exact ⟨pen, R.keep.trans sx, R.f, sx _ _ (raw_ne_p R.pen R.raw_) R.raw_, R.ne, R.nu, ⟨k2, k3, rs, c.x R.pen sx⟩, ⟨m2, m3, ms, d.x R.pen sx⟩, R.ok1, R.ok2⟩
/-- if draw(3) == 0: for change in raw: the rows cut -/
def tCutIf : TS := fun D σ H => ∃ (F : Hp) (p g raw u1 pl1 rw1 ey1 u2 pl2 rw2 ey2 : Addr) (A M N : DkD) (X Y : ChD) (v0 v2 v3 v5 v6 v7 v8 v9 v10 v11 v12 v13 v14 v15 v16 : Option V), σ = [v0, some (.ref p), v2, v3, some (.ref raw), v5, v6, v7, v8, v9, v10, v11, v12, v13, v14, v15, v16] ∧
  Rws F H p g raw u1 pl1 rw1 ey1 u2 pl2 rw2 ey2 A M N X Y ∧ A.Is ∧ M.Is ∧ N.Is ∧
  ∀ (w5 w6 w7 : Option V) (X2 Y2 : ChD) (H' : Hp), Rws F H' p g raw u1 pl1 rw1 ey1 u2 pl2 rw2 ey2 A M N X2 Y2 → D.nx [v0, some (.ref p), v2, v3, some (.ref raw), w5, w6, w7, v8, v9, v10, v11, v12, v13, v14, v15, v16] H'
section
variable {P : Program} {w : World} {K : PySem.W.Frag} {mg : Str → Option Value} {base : Heap} {f : Addr} {cdv : Value} {A : Around} {outer : List Env} {s : Shared} {H0 : Hp} {E : XK}
theorem ps_cutIf (hr : Room 12 (LX31 P w K mg base f cdv A outer s H0 E).A) (mL : mg "list" = none) (GD : Fx P w K mg base CX0 2 "_law_draw" ["_law_pen_here", "_law_bound"] spDraw31) (GO : Fx P w K mg base CX0 3 "_law_one_of" nOne spOne) : PS (LX31 P w K mg base f cdv A outer s H0 E) cutIf tCutIf := by
  refine ps_weak (ps_if (pt_cmpR op_eq (by exact (pe_fx GD hr (by decide) rfl (pa_cons (pv 1) (pa_cons pe_int pa_nil)))) pe_int (nomark _)) (pss_one (ps_for PassesOwn.never rfl (pi_list (pv 4)) (pg_name (i := 5) scLaw31.nd rfl (.inr rfl))
    (pss_one (ps_cut31 hr mL GO)) (fun _ => rfl))) pss_nil) (fun D σ H h => ?_)
  obtain ⟨F, p, g, raw, u1, pl1, rw1, ey1, u2, pl2, rw2, ey2, A, M, N, X, Y, v0, v2, v3, v5, v6, v7, v8, v9, v10, v11, v12, v13, v14, v15, v16, rfl, R, iA, iM, iN, q⟩ := h
  refine ⟨_, rfl, p, g, 3, rfl, R.pen, by decide, by decide, fun k G kl sx pen1 => ?_⟩
  have R := R.x sx pen1
  refine ⟨rfl, _, rfl, ?_⟩
  cases hk : decide (V.int (k : Nat) = V.int 0) with
  | false => exact iteF (q v5 v6 v7 X Y G R)
  | true =>
    refine iteT ⟨_, rfl, raw, rfl, ⟨_, .inl (.inl R.raw_)⟩, ?_⟩
    refine for_list (K := K) (a := raw) (xs := [.ref u1, .ref u2]) (fun i σ G => ∃ (w5 w6 w7 : Option V) (X2 Y2 : ChD), σ = [v0, some (.ref p), v2, v3, some (.ref raw), w5, w6, w7, v8, v9, v10, v11, v12, v13, v14, v15, v16] ∧ Rws F G p g raw u1 pl1 rw1 ey1 u2 pl2 rw2 ey2 A M N X2 Y2) ⟨v5, v6, v7, X, Y, rfl, R⟩ ?_ ?_ ?_
    · rintro i σ G _ ⟨_, _, _, _, _, _, R⟩
      exact .inl (.inl R.raw_)
    · rintro i x σ G hx ⟨w5, w6, w7, X2, Y2, rfl, R⟩
      match i, hx with
      | 0, hx =>
        obtain rfl : x = .ref u1 := (Option.some.inj hx).symm
        obtain ⟨k2, k3, rs, c⟩ := id R.c1
        have l4 := c.pm2.length_eq
        have d4 := iA.dmost
        obtain ⟨cs, i, r, gp, hp, hg⟩ := id R.pen
        refine ⟨p, g, u1, pl1, rw1, ey1, _, k2, X2.rf, v0, v2, v3, some (.ref raw), w6, w7, v8, v9, v10, v11, v12, v13, v14, v15, v16, rfl, R.pen, c.at_, c.rw_, RowT.of c.rs_, by omega, fun d hd => (R.ok1.r d (c.pm2.mem_iff.mp hd)).1, (fun z => by have := c.at_; rw [z, hp] at this; cases this), (fun z => by have := c.rw_; rw [z, hp] at this; cases this), fun y6 y7 t2 rf2 G2 k p2 er rt bd => ?_⟩
        exact ⟨_, y6, y7, _, Y2, rfl, R.cut1 iA iM iN c k p2 er rt bd⟩
      | 1, hx =>
        obtain rfl : x = .ref u2 := (Option.some.inj hx).symm
        obtain ⟨k2, k3, rs, c⟩ := id R.c2
        have l4 := c.pm2.length_eq
        have d4 := iM.dmost
        obtain ⟨cs, i, r, gp, hp, hg⟩ := id R.pen
        refine ⟨p, g, u2, pl2, rw2, ey2, _, k2, Y2.rf, v0, v2, v3, some (.ref raw), w6, w7, v8, v9, v10, v11, v12, v13, v14, v15, v16, rfl, R.pen, c.at_, c.rw_, RowT.of c.rs_, by omega, fun d hd => (R.ok2.r d (c.pm2.mem_iff.mp hd)).1, (fun z => by have := c.at_; rw [z, hp] at this; cases this), (fun z => by have := c.rw_; rw [z, hp] at this; cases this), fun y6 y7 t2 rf2 G2 k p2 er rt bd => ?_⟩
        exact ⟨_, y6, y7, X2, _, rfl, R.cut2 iA iM iN c k p2 er rt bd⟩
      | n + 2, hx => exact absurd hx (by simp)
    · rintro σ G ⟨w5, w6, w7, X2, Y2, rfl, R⟩
      exact q w5 w6 w7 X2 Y2 G R
end
end Dk
set_option Elab.async false
set_option linter.all false
set_option maxRecDepth 100000
set_option maxHeartbeats 8000000
namespace Dk
open PySem PySem.Spec PyProof.Rows L2 Er LamX NdefX CmX
/-! ### a change's rows in another sequence -/
/-- [(z, e(z)) for z in a list of texts], where e makes nothing that counts -/
theorem lc_prs {K : PySem.W.Frag} {l : Addr} {ws : List Str} {fv : Str → V} {σ : L2.St} {i : Nat} {H1 : Hp} {Q : Addr → Hp → Prop} {tx : TE} (hn : H1 l = some (.lst (ws.map V.str))) (few : ws.length ≤ 1000)
    (w1 : ∀ v, wipe ((wipe σ [i]).set i (some v)) [i] = wipe σ [i]) (s1 : ∀ v, ((wipe σ [i]).set i (some v))[i]? = some (some v))
    (ex : ∀ z ∈ ws, ∀ G (R : VK), Sm H1 G → R (fv z) G → tx ((wipe σ [i]).set i (some (.str z))) G R)
    (q : ∀ (D : Addr) (ts : List Addr) (G : Hp), Sm H1 G → H1 D = none → G D = some (.lst (ts.map V.ref)) → Paired (fun t (kv : Key × V) => SqT K G t [kV kv.1, kv.2]) ts (dkv ws (ws.map fv)) → Q D G) :
    LcR (tTup (tCons (tVar i) (tCons tx tNil))) σ i H1 Q (Itl K l) := by
  intro D nD
  refine lc_it (walk_list (xs := ws.map V.str)) (vs := [i]) (g := gName i) (fun j G => ∃ ts : List Addr, G D = some (.lst (ts.map V.ref)) ∧ ts.length = j ∧ (∀ (k : Nat) (t : Addr), ts[k]? = some t → G t = some (.tup [.str (ws.getD k ⟨#[]⟩), (ws.map fv).getD k .non])) ∧ Sm H1 G) ?_ (fun j G _ h => ?_) (fun j x G G' hj h yy => ?_) (fun G h => ?_)
  · exact ⟨[], upd_same, rfl, (fun k t e => by simp at e), Sm.new nD⟩
  · obtain ⟨_, _, _, _, m⟩ := h
    exact .inl (.inl (m _ _ hn))
  · obtain ⟨ts, eD, tl, tup, m⟩ := h
    obtain ⟨rfl, exx⟩ := yy
    obtain ⟨z, ez, rfl⟩ := str_atS exx
    have hz := List.mem_of_getElem? ez
    have hj2 : j < ws.length := (List.getElem?_eq_some_iff.mp ez).1
    refine ⟨w1 _, ?_⟩
    unfold tYes
    dsimp only
    rw [if_pos rfl]
    refine ⟨_, s1 _, ex z hz _ _ m ⟨by rw [sizeLine_eq]; show 2 ≤ _; omega, fun t nt => ?_⟩⟩
    have mt := Sm.new (o := .tup [.str z, fv z]) nt
    have et : upd G' t (.tup [.str z, fv z]) t = some (.tup [.str z, fv z]) := upd_same
    have tD : t ≠ D := fun e => by
      rw [e, eD] at nt
      cases nt
    have nDo : ∀ {b : Addr} {o : HO} {G2 : Hp}, G2 = upd G' t (.tup [.str z, fv z]) → (∀ xs, o ≠ .lst xs) → G2 b = some o → b ≠ D := fun {b o G2} e n eb z => by
      rw [z, e, mt _ _ eD] at eb
      exact n _ (Option.some.inj eb).symm
    refine ⟨_, mt _ _ eD, by rw [List.length_map, tl, sizeLine_eq]; omega, ts ++ [t], ?_, by rw [List.length_append, tl]; rfl, fun k u e => ?_, fun b o e => ?_⟩
    · rw [upd_same, List.map_append]
      rfl
    · by_cases c : k < ts.length
      · rw [List.getElem?_append_left c] at e
        have cc := mt _ _ (tup k u e)
        rw [upd_ne (nDo rfl (by intro xs z; cases z) cc)]
        exact cc
      · have kk : k = ts.length := by
          have := (List.getElem?_eq_some_iff.mp e).1
          rw [List.length_append] at this
          have : k < ts.length + 1 := this
          omega
        rw [kk, List.getElem?_append_right (Nat.le_refl _), Nat.sub_self] at e
        obtain rfl : t = u := Option.some.inj e
        rw [upd_ne tD, et, kk, tl, List.getD_eq_getElem?_getD (l := ws), ez, List.getD_eq_getElem?_getD, List.getElem?_map, ez]
        rfl
    · rw [upd_ne (ne_of_none e nD)]
      exact mt _ _ (m _ _ e)
  · obtain ⟨ts, eD, tl, tup, m⟩ := h
    rw [List.length_map] at tl
    exact q D ts G m nD eD (pair_dkv tl (by rw [List.length_map]) tup)
/-- the change's second place is put anew -/
theorem RawC.anew {H G : Hp} {u pl rw ey rn : Addr} {k2 k3 ks : List Str} {rs : List Addr} {D E : DkD} {X : ChD} {t : List (Key × V)} (c : RawC H u pl rw ey k2 k3 rs D E X) (m : Sm H G) (en : G rn = some (.dK t)) (rt : RowT G t ks X.rf) (pm : ks.Perm k2) (iD : D.Is) :
    ∃ rs2, RawC (upd G u (.lst [.ref pl, .ref rn, .ref ey])) u pl rn ey ks k3 rs2 D E X := by
  have pm2 := pm.trans c.pm2
  obtain ⟨rs2, rfl, pr⟩ := rt.to (pm2.nodup_iff.mpr iD.dnd)
  have hu := m _ _ c.at_
  have n : ∀ {b : Addr} {t : List (Key × V)}, G b = some (.dK t) → b ≠ u := fun {b t} e z => by
    rw [z, hu] at e
    cases e
  have e1 := m _ _ c.pl_
  have e3 := m _ _ c.ey_
  refine ⟨rs2, upd_same, by rw [upd_ne (n e1)]; exact e1, by rw [upd_ne (n en)]; exact en, pair_mono pr fun a _ d e => ?_, pm2, by rw [upd_ne (n e3)]; exact e3, c.pm3⟩
  have e : G a = some (.lst ((X.rf d).map V.str)) := e
  show upd G u _ a = _
  rw [upd_ne (txt_ne_refs e hu)]
  exact e
theorem RawC.off {H : Hp} {u pl rw ey v x : Addr} {xs : List V} {o : HO} {k2 k3 : List Str} {rs : List Addr} {D E : DkD} {X : ChD} (c : RawC H u pl rw ey k2 k3 rs D E X) (hv : H v = some (.lst (.ref x :: xs))) (n : u ≠ v) : RawC (upd H v o) u pl rw ey k2 k3 rs D E X := by
  have nd : ∀ {b : Addr} {t : List (Key × V)}, H b = some (.dK t) → upd H v o b = some (.dK t) := fun {b t} e => by
    rw [upd_ne (fun z => by rw [z, hv] at e; cases e)]
    exact e
  refine ⟨by rw [upd_ne n]; exact c.at_, nd c.pl_, nd c.rw_, pair_mono c.rs_ fun a _ d e => ?_, c.pm2, nd c.ey_, c.pm3⟩
  have e : H a = some (.lst ((X.rf d).map V.str)) := e
  show upd H v o a = _
  rw [upd_ne (txt_ne_refs e hv)]
  exact e
theorem pen_upd {H : Hp} {p g v x y : Addr} {xs : List V} {o : HO} (pen : Pen H p g) (hv : H v = some (.lst (.ref x :: .ref y :: xs))) : Pen (upd H v o) p g := by
  obtain ⟨cs, i, r, gp, hp, hg⟩ := pen
  refine ⟨cs, i, r, gp, by rw [upd_ne (fun z => by rw [z, hv] at hp; cases hp)]; exact hp, ?_⟩
  rw [upd_ne (fun z => by
    rw [z, hv] at hg
    have e := HO.lst.inj (Option.some.inj hg)
    cases cs with
    | nil => cases e
    | cons c cs => cases e)]
  exact hg
/-- a dict made anew out of a table of rows, in another sequence -/
theorem rowT_turn {H G : Hp} {t : List (Key × V)} {ks : List Str} {rf : Str → List Str} (h : RowT H t ks rf) (m : Sm H G) : RowT G (dkv ks.reverse (ks.reverse.map fun d => (valV t (.inr d)).getD .non)) ks.reverse rf := by
  refine ⟨dkv_keys (by rw [List.length_map]), fun d hd => ?_⟩
  obtain ⟨a, ea, ha⟩ := h.2 d (List.mem_reverse.mp hd)
  refine ⟨a, ?_, m _ _ ha⟩
  obtain ⟨j, v, e1, e2, e3⟩ := dkv_some (ws := ks.reverse) (vs := ks.reverse.map fun d => (valV t (.inr d)).getD .non) (by rw [List.length_map]) hd
  rw [List.getElem?_map, e1] at e2
  rw [e3, ← Option.some.inj e2]
  show some ((valV t (.inr d)).getD .non) = _
  rw [ea]
  rfl
theorem Rws.new1 {F H G : Hp} {p g raw u1 pl1 rw1 ey1 u2 pl2 rw2 ey2 rn : Addr} {D M N : DkD} {X Y : ChD} {k2 k3 ks : List Str} {rs : List Addr} {t : List (Key × V)} (R : Rws F H p g raw u1 pl1 rw1 ey1 u2 pl2 rw2 ey2 D M N X Y) (iD : D.Is) (c : RawC H u1 pl1 rw1 ey1 k2 k3 rs D M X) (m : Sm H G) (nn : H rn = none)
    (en : G rn = some (.dK t)) (rt : RowT G t ks X.rf) (pm : ks.Perm k2) : Rws F (upd G u1 (.lst [.ref pl1, .ref rn, .ref ey1])) p g raw u1 pl1 rn ey1 u2 pl2 rw2 ey2 D M N X Y := by
  obtain ⟨rs2, cc⟩ := c.anew m en rt pm iD
  obtain ⟨m2, m3, ms, d⟩ := R.c2
  have hu := m _ _ c.at_
  have rp : rn ≠ p := fun z => by
    obtain ⟨_, _, _, _, hp, _⟩ := R.pen
    rw [z, hp] at nn
    cases nn
  refine ⟨pen_upd (R.pen.sm m) hu, fun b o n e => ?_, ⟨R.f.1, ?_, R.f.2.2⟩, ?_, fun z => ?_, R.nu, ⟨ks, k3, rs2, cc⟩, ⟨m2, m3, ms, (d.sm m).off hu (Ne.symm R.nu)⟩, R.ok1, R.ok2⟩
  · rw [upd_ne (none_of e R.f.1)]
    exact m _ _ (R.keep _ _ n e)
  · cases z : F rn with
    | none => rfl
    | some o =>
      rw [R.keep _ _ rp z] at nn
      cases nn
  · rw [upd_ne (fun z => by have := m _ _ R.raw_; rw [z, hu] at this; cases this)]
    exact m _ _ R.raw_
  · rw [z, d.rw_] at nn
    cases nn
theorem Rws.new2 {F H G : Hp} {p g raw u1 pl1 rw1 ey1 u2 pl2 rw2 ey2 rn : Addr} {D M N : DkD} {X Y : ChD} {k2 k3 ks : List Str} {rs : List Addr} {t : List (Key × V)} (R : Rws F H p g raw u1 pl1 rw1 ey1 u2 pl2 rw2 ey2 D M N X Y) (iM : M.Is) (c : RawC H u2 pl2 rw2 ey2 k2 k3 rs M N Y) (m : Sm H G) (nn : H rn = none)
    (en : G rn = some (.dK t)) (rt : RowT G t ks Y.rf) (pm : ks.Perm k2) : Rws F (upd G u2 (.lst [.ref pl2, .ref rn, .ref ey2])) p g raw u1 pl1 rw1 ey1 u2 pl2 rn ey2 D M N X Y := by
  obtain ⟨rs2, cc⟩ := c.anew m en rt pm iM
  obtain ⟨m2, m3, ms, d⟩ := R.c1
  have hu := m _ _ c.at_
  have rp : rn ≠ p := fun z => by
    obtain ⟨_, _, _, _, hp, _⟩ := R.pen
    rw [z, hp] at nn
    cases nn
  refine ⟨pen_upd (R.pen.sm m) hu, fun b o n e => ?_, ⟨R.f.1, R.f.2.1, R.f.2.2.1, ?_⟩, ?_, fun z => ?_, R.nu, ⟨m2, m3, ms, (d.sm m).off hu R.nu⟩, ⟨ks, k3, rs2, cc⟩, R.ok1, R.ok2⟩
  · rw [upd_ne (none_of e R.f.2.2.1)]
    exact m _ _ (R.keep _ _ n e)
  · cases z : F rn with
    | none => rfl
    | some o =>
      rw [R.keep _ _ rp z] at nn
      cases nn
  · rw [upd_ne (fun z => by have := m _ _ R.raw_; rw [z, hu] at this; cases this)]
    exact m _ _ R.raw_
  · rw [← z, d.rw_] at nn
    cases nn
def revEach : Stmt := ith (inS lawTurn) 3
def revIf : Stmt := ith (inS revEach) 0
def revSet : Stmt := ith (inS revIf) 0
/-- change[1] = dict([(deed, change[1][deed]) for deed in list(change[1])[::-1]]) -/
def tRevSet : TS := fun D σ H => ∃ (u pl rw ey : Addr) (t : List (Key × V)) (ks : List Str) (rf : Str → List Str) (v0 v1 v2 v3 v4 v6 v7 v8 v9 v10 v11 v12 v13 v14 v15 v16 : Option V), σ = [v0, v1, v2, v3, v4, some (.ref u), v6, v7, v8, v9, v10, v11, v12, v13, v14, v15, v16] ∧
  H u = some (.lst [.ref pl, .ref rw, .ref ey]) ∧ H rw = some (.dK t) ∧ RowT H t ks rf ∧ ks.Nodup ∧ ks.length ≤ 4 ∧
  ∀ (rn : Addr) (t2 : List (Key × V)) (G : Hp), Sm H G → H rn = none → G rn = some (.dK t2) → RowT G t2 ks.reverse rf → D.nx [v0, v1, v2, v3, v4, some (.ref u), v6, v7, v8, v9, v10, v11, v12, v13, v14, v15, v16] (upd G u (.lst [.ref pl, .ref rn, .ref ey]))
section
variable {P : Program} {w : World} {K : PySem.W.Frag} {mg : Str → Option Value} {base : Heap} {f : Addr} {cdv : Value} {A : Around} {outer : List Env} {s : Shared} {H0 : Hp} {E : XK}
theorem ps_revSet (hr : Room 12 (LX31 P w K mg base f cdv A outer s H0 E).A) (mL : mg "list" = none) (md : mg "dict" = none) : PS (LX31 P w K mg base f cdv A outer s H0 E) revSet tRevSet := by
  refine ps_weak (ps_asg (by exact (pe_callTy (call_dictP rfl) rfl md PyProof.Rows.boot_dict (pa_cons (by exact (pe_lc (own := [("_law_deed", 6)]) (g := gName 6) (tt := tYes) (te := tTup (tCons (tVar 6) (tCons (tDGet (tOp (rIxL K) (tVar 5) (tC (.int 1))) (tVar 6)) tNil))) rfl scLaw31.nd (pi_list (by exact (pe_revL (by exact (pe_callTy (call_list_dK rfl) rfl mL PyProof.Rows.boot_list (pa_cons (by exact (pe_ix ix_list (pv 5) pe_int (fun _ _ => rfl))) pa_nil))))))
    (blkOk_by (N := nLaw31) (sc := defScope (top 62)) (by decide +kernel)) (fun _ _ _ _ _ => pg_name (i := 6) scLaw31.nd rfl (Or.inl rfl)) (fun _ _ _ _ _ => pts_nil) (fun _ _ _ _ _ => by exact (pe_tup (pa_cons (by exact (pv 6)) (pa_cons (by exact (pe_dget (hu_of hr) (by exact (pe_ix ix_list (by exact (pv 5)) pe_int (fun _ _ => rfl))) (by exact (pv 6)) (fun _ _ => rfl))) pa_nil)))))) pa_nil)))
    (pg_sub (pv 5) pe_int set_list (fun _ => rfl))) (fun D σ H h => ?_)
  obtain ⟨u, pl, rw_, ey, t, ks, rf, v0, v1, v2, v3, v4, v6, v7, v8, v9, v10, v11, v12, v13, v14, v15, v16, rfl, hu, hrw, rt, nd, k4, q⟩ := h
  have ek : t.map (fun kv => kV kv.1) = ks.map V.str := by
    have := congrArg (List.map kV) rt.1
    rw [List.map_map, List.map_map] at this
    exact this
  refine ⟨_, rfl, u, _, 1, .ref rw_, rfl, rfl, .inl (.inl hu), rfl, rw_, _, rfl, hrw, fun dl ndl => ?_⟩
  rw [ek]
  have a1 := Sm.new (o := .lst (ks.map V.str)) ndl
  refine ⟨dl, _, rfl, .inl (.inl upd_same), fun r nr => ?_⟩
  rw [← List.map_reverse]
  have m0 := a1.trans (Sm.new (o := .lst (ks.reverse.map V.str)) nr)
  have er : upd (upd H dl (.lst (ks.map V.str))) r (.lst (ks.reverse.map V.str)) r = some (.lst (ks.reverse.map V.str)) := upd_same
  generalize upd (upd H dl (.lst (ks.map V.str))) r (.lst (ks.reverse.map V.str)) = G0 at m0 er ⊢
  refine ⟨r, rfl, ⟨_, .inl (.inl er)⟩, ?_⟩
  refine lc_prs (K := K) (i := 6) (σ := [v0, v1, v2, v3, v4, some (.ref u), v6, v7, v8, v9, v10, v11, v12, v13, v14, v15, v16]) (ws := ks.reverse) (fv := fun d => (valV t (.inr d)).getD .non) er (by rw [List.length_reverse]; omega) (fun _ => rfl) (fun _ => rfl) (fun z hz G R m h => ?_) (fun D0 ts G m nD eD pr => ⟨D0, ts, _, rfl, .inl (.inl eD), pr, fun rn nrn => ?_⟩)
  · have mm := m0.trans m
    obtain ⟨a, ea, _⟩ := rt.2 z (List.mem_reverse.mp hz)
    rw [ea] at h
    exact ⟨_, rfl, u, _, 1, .ref rw_, rfl, rfl, .inl (.inl (mm _ _ hu)), rfl, _, rfl, rw_, .ref a, rfl, .inl ⟨_, .inr z, .inl (mm _ _ hrw), rfl, ea.symm⟩, h⟩
  · have mm := m0.trans m
    have an := Sm.new (o := .dK (mergeK [] (dkv ks.reverse (ks.reverse.map fun d => (valV t (.inr d)).getD .non)))) nrn
    rw [dkv_merge (by rw [List.length_map]) (List.pairwise_reverse.mpr (nd.imp fun h => Ne.symm h))] at an ⊢
    have rt2 := rowT_turn rt (mm.trans an)
    have en : upd G rn (.dK (dkv ks.reverse (ks.reverse.map fun d => (valV t (.inr d)).getD .non))) rn = some (.dK (dkv ks.reverse (ks.reverse.map fun d => (valV t (.inr d)).getD .non))) := upd_same
    have m2 := mm.trans an
    have nn : H rn = none := by
      cases z : H rn with
      | none => rfl
      | some o =>
        rw [mm _ _ z] at nrn
        cases nrn
    exact ⟨_, rfl, u, _, 1, 1, rfl, rfl, m2 _ _ hu, rfl, q rn _ _ m2 nn en rt2⟩
end
/-- for change in raw: if draw(2) == 0: its rows in another sequence -/
def tRevEach : TS := fun D σ H => ∃ (F : Hp) (p g raw u1 pl1 rw1 ey1 u2 pl2 rw2 ey2 : Addr) (A M N : DkD) (X Y : ChD) (v0 v2 v3 v5 v6 v7 v8 v9 v10 v11 v12 v13 v14 v15 v16 : Option V), σ = [v0, some (.ref p), v2, v3, some (.ref raw), v5, v6, v7, v8, v9, v10, v11, v12, v13, v14, v15, v16] ∧
  Rws F H p g raw u1 pl1 rw1 ey1 u2 pl2 rw2 ey2 A M N X Y ∧ A.Is ∧ M.Is ∧ N.Is ∧
  ∀ (w5 : Option V) (r1 r2 : Addr) (H' : Hp), Rws F H' p g raw u1 pl1 r1 ey1 u2 pl2 r2 ey2 A M N X Y → D.nx [v0, some (.ref p), v2, v3, some (.ref raw), w5, v6, v7, v8, v9, v10, v11, v12, v13, v14, v15, v16] H'
section
variable {P : Program} {w : World} {K : PySem.W.Frag} {mg : Str → Option Value} {base : Heap} {f : Addr} {cdv : Value} {A : Around} {outer : List Env} {s : Shared} {H0 : Hp} {E : XK}
theorem ps_revEach (hr : Room 12 (LX31 P w K mg base f cdv A outer s H0 E).A) (mL : mg "list" = none) (md : mg "dict" = none) (GD : Fx P w K mg base CX0 2 "_law_draw" ["_law_pen_here", "_law_bound"] spDraw31) : PS (LX31 P w K mg base f cdv A outer s H0 E) revEach tRevEach := by
  refine ps_weak (ps_for PassesOwn.never rfl (pi_list (pv 4)) (pg_name (i := 5) scLaw31.nd rfl (.inr rfl))
    (pss_one (ps_if (pt_cmpR op_eq (by exact (pe_fx GD hr (by decide) rfl (pa_cons (pv 1) (pa_cons pe_int pa_nil)))) pe_int (nomark _)) (pss_one (ps_revSet hr mL md)) pss_nil)) (fun _ => rfl)) (fun D σ H h => ?_)
  obtain ⟨F, p, g, raw, u1, pl1, rw1, ey1, u2, pl2, rw2, ey2, A, M, N, X, Y, v0, v2, v3, v5, v6, v7, v8, v9, v10, v11, v12, v13, v14, v15, v16, rfl, R, iA, iM, iN, q⟩ := h
  refine ⟨_, rfl, raw, rfl, ⟨_, .inl (.inl R.raw_)⟩, ?_⟩
  refine for_list (K := K) (a := raw) (xs := [.ref u1, .ref u2]) (fun i σ G => ∃ (w5 : Option V) (r1 r2 : Addr), σ = [v0, some (.ref p), v2, v3, some (.ref raw), w5, v6, v7, v8, v9, v10, v11, v12, v13, v14, v15, v16] ∧ Rws F G p g raw u1 pl1 r1 ey1 u2 pl2 r2 ey2 A M N X Y) ⟨v5, rw1, rw2, rfl, R⟩ ?_ ?_ ?_
  · rintro i σ G _ ⟨_, _, _, _, R⟩
    exact .inl (.inl R.raw_)
  · rintro i x σ G hx ⟨w5, r1, r2, rfl, R⟩
    match i, hx with
    | 0, hx =>
      obtain rfl : x = .ref u1 := (Option.some.inj hx).symm
      refine ⟨_, rfl, p, g, 2, rfl, R.pen, by decide, by decide, fun k G1 kl sx pen1 => ?_⟩
      have R := R.x sx pen1
      refine ⟨rfl, _, rfl, ?_⟩
      cases hk : decide (V.int (k : Nat) = V.int 0) with
      | false => exact iteF ⟨_, r1, r2, rfl, R⟩
      | true =>
        obtain ⟨k2, k3, rs, c⟩ := id R.c1
        have l4 := c.pm2.length_eq
        have d4 := iA.dmost
        exact iteT ⟨u1, pl1, r1, ey1, _, k2, X.rf, v0, some (.ref p), v2, v3, some (.ref raw), v6, v7, v8, v9, v10, v11, v12, v13, v14, v15, v16, rfl, c.at_, c.rw_, RowT.of c.rs_, c.pm2.nodup_iff.mpr iA.dnd, by omega, fun rn t2 G2 m nn en rt => ⟨_, rn, r2, rfl, R.new1 iA c m nn en rt (List.reverse_perm k2)⟩⟩
    | 1, hx =>
      obtain rfl : x = .ref u2 := (Option.some.inj hx).symm
      refine ⟨_, rfl, p, g, 2, rfl, R.pen, by decide, by decide, fun k G1 kl sx pen1 => ?_⟩
      have R := R.x sx pen1
      refine ⟨rfl, _, rfl, ?_⟩
      cases hk : decide (V.int (k : Nat) = V.int 0) with
      | false => exact iteF ⟨_, r1, r2, rfl, R⟩
      | true =>
        obtain ⟨k2, k3, rs, c⟩ := id R.c2
        have l4 := c.pm2.length_eq
        have d4 := iM.dmost
        exact iteT ⟨u2, pl2, r2, ey2, _, k2, Y.rf, v0, some (.ref p), v2, v3, some (.ref raw), v6, v7, v8, v9, v10, v11, v12, v13, v14, v15, v16, rfl, c.at_, c.rw_, RowT.of c.rs_, c.pm2.nodup_iff.mpr iM.dnd, by omega, fun rn t2 G2 m nn en rt => ⟨_, r1, rn, rfl, R.new2 iM c m nn en rt (List.reverse_perm k2)⟩⟩
    | n + 2, hx => exact absurd hx (by simp)
  · rintro σ G ⟨w5, r1, r2, rfl, R⟩
    exact q w5 r1 r2 G R
end
end Dk
set_option Elab.async false
set_option linter.all false
set_option maxRecDepth 100000
set_option maxHeartbeats 8000000
namespace Dk
open PySem PySem.Spec PyProof.Rows L2 Er LamX NdefX CmX
/-! ### the law's three desks, and the changes drawn for them -/
def DkP (p : Addr) (H : Hp) (u : Addr) (D : DkD) : Prop := ∃ (nm dd sg : Addr) (as : List Addr), DkL H u nm dd sg D as ∧ D.Is ∧ u ≠ p ∧ nm ≠ p ∧ dd ≠ p ∧ sg ≠ p ∧ ∀ a ∈ as, a ≠ p
theorem DkP.x {H G : Hp} {p u : Addr} {D : DkD} (h : DkP p H u D) (s : Sx p H G) : DkP p G u D := by
  obtain ⟨nm, dd, sg, as, h1, h2, h3⟩ := h
  exact ⟨nm, dd, sg, as, h1.x s h3, h2, h3⟩
theorem DkP.is {H : Hp} {p u : Addr} {D : DkD} (h : DkP p H u D) : D.Is := by
  obtain ⟨nm, dd, sg, as, h1, h2, h3⟩ := h
  exact h2
/-- a desk stands while a list of fewer than three grows -/
theorem DkP.grow {H : Hp} {p u l : Addr} {D : DkD} {us : List Addr} {o : HO} (h : DkP p H u D) (hl : H l = some (.lst (us.map V.ref))) (few : us.length < 3) : DkP p (upd H l o) u D := by
  obtain ⟨nm, dd, sg, as, h1, h2, h3⟩ := h
  have nd : ∀ {b : Addr} {t : List (Key × V)}, H b = some (.dK t) → upd H l o b = some (.dK t) := fun {b t} e => by
    rw [upd_ne (fun z => by rw [z, hl] at e; cases e)]
    exact e
  have n1 : u ≠ l := fun z => by
    have e := h1.1
    rw [z, hl] at e
    have e := congrArg List.length (HO.lst.inj (Option.some.inj e))
    rw [List.length_map] at e
    have e : us.length = 3 := e
    omega
  have n2 : nm ≠ l := fun z => by
    have e := h1.2.1
    rw [z, hl] at e
    have e := HO.lst.inj (Option.some.inj e)
    have s := h2.some
    cases us with
    | nil =>
      have e := congrArg List.length e
      rw [List.length_map, List.length_map] at e
      have e : 0 = D.ws.length := e
      omega
    | cons a us =>
      cases hw : D.ws with
      | nil => rw [hw] at e; cases e
      | cons w ws =>
        rw [hw] at e
        have := List.head_eq_of_cons_eq e
        cases this
  exact ⟨nm, dd, sg, as, ⟨by rw [upd_ne n1]; exact h1.1, by rw [upd_ne n2]; exact h1.2.1, nd h1.2.2.1, nd h1.2.2.2.1, pair_mono h1.2.2.2.2 fun a _ vs e => nd e⟩, h2, h3⟩
def tDesks31 : TS := fun D σ H => ∃ (p g : Addr) (v0 v2 v3 v4 v5 v6 v7 v8 v9 v10 v11 v12 v13 v14 v15 v16 : Option V), σ = [v0, some (.ref p), v2, v3, v4, v5, v6, v7, v8, v9, v10, v11, v12, v13, v14, v15, v16] ∧ Pen H p g ∧
  ∀ (dl a1 a2 a3 : Addr) (A M N : DkD) (H' : Hp), Sx p H H' → Pen H' p g → dl ≠ p → H' dl = some (.lst [.ref a1, .ref a2, .ref a3]) → DkP p H' a1 A → DkP p H' a2 M → DkP p H' a3 N → D.nx [v0, some (.ref p), v2, some (.ref dl), v4, v5, v6, v7, v8, v9, v10, v11, v12, v13, v14, v15, v16] H'
def tRaw31 : TS := fun D σ H => ∃ (p g dl a1 a2 a3 : Addr) (A M N : DkD) (v0 v2 v4 v5 v6 v7 v8 v9 v10 v11 v12 v13 v14 v15 v16 : Option V), σ = [v0, some (.ref p), v2, some (.ref dl), v4, v5, v6, v7, v8, v9, v10, v11, v12, v13, v14, v15, v16] ∧ Pen H p g ∧ dl ≠ p ∧ H dl = some (.lst [.ref a1, .ref a2, .ref a3]) ∧ DkP p H a1 A ∧ DkP p H a2 M ∧ DkP p H a3 N ∧
  ∀ (raw u1 pl1 rw1 ey1 u2 pl2 rw2 ey2 : Addr) (X Y : ChD) (H' : Hp), Rws H H' p g raw u1 pl1 rw1 ey1 u2 pl2 rw2 ey2 A M N X Y → D.nx [v0, some (.ref p), v2, some (.ref dl), some (.ref raw), v5, v6, v7, v8, v9, v10, v11, v12, v13, v14, v15, v16] H'
def desksSt : Stmt := ith (inS lawTurn) 0
def rawSt : Stmt := ith (inS lawTurn) 1
section
variable {P : Program} {w : World} {K : PySem.W.Frag} {mg : Str → Option Value} {base : Heap} {f : Addr} {cdv : Value} {A : Around} {outer : List Env} {s : Shared} {H0 : Hp} {E : XK}
theorem ps_raw31 (hr : Room 12 (LX31 P w K mg base f cdv A outer s H0 E).A) (GC : Fx P w K mg base CX0 4 "_law_change" ["_law_pen_here", "_law_elder", "_law_newer"] spChange31) : PS (LX31 P w K mg base f cdv A outer s H0 E) rawSt tRaw31 := by
  refine ps_weak (ps_set (i := 4) scLaw31.nd rfl (.inl rfl) (by exact (pe_lst (pa_cons (by exact (pe_fx GC hr (by decide) rfl (pa_cons (pv 1) (pa_cons (by exact (pe_ix ix_list (pv 3) pe_int (fun _ _ => rfl))) (pa_cons (by exact (pe_ix ix_list (pv 3) pe_int (fun _ _ => rfl))) pa_nil)))))
    (pa_cons (by exact (pe_fx GC hr (by decide) rfl (pa_cons (pv 1) (pa_cons (by exact (pe_ix ix_list (pv 3) pe_int (fun _ _ => rfl))) (pa_cons (by exact (pe_ix ix_list (pv 3) pe_int (fun _ _ => rfl))) pa_nil))))) pa_nil))))) (fun D σ H h => ?_)
  obtain ⟨p, g, dl, a1, a2, a3, A, M, N, v0, v2, v4, v5, v6, v7, v8, v9, v10, v11, v12, v13, v14, v15, v16, rfl, pen, dlp, hdl, o1, o2, o3, q⟩ := h
  have sz : ∀ n : Nat, n ≤ 1000 → n ≤ sizeLine := fun n z => by
    rw [sizeLine_eq]
    omega
  have o1b := o1
  have o2b := o2
  obtain ⟨nm1, dd1, sg1, as1, d1, iA, e1⟩ := o1
  obtain ⟨nm2, dd2, sg2, as2, d2, iM, e2⟩ := o2
  have S : SqL K H dl [.ref a1, .ref a2, .ref a3] := .inl (.inl hdl)
  refine ⟨_, rfl, _, rfl, dl, _, 0, .ref a1, rfl, rfl, S, rfl, _, rfl, dl, _, 1, .ref a2, rfl, rfl, S, rfl, p, g, a1, nm1, dd1, sg1, a2, nm2, dd2, sg2, A, M, as1, as2, rfl, pen, d1, d2, iA, iM, e1, e2, fun u1 pl1 rw1 ey1 k3 rs X G1 s1 pen1 u1p pl1p rw1p ey1p rs1p nr1 nu1 c1 ok1 => ?_⟩
  have hdl1 := s1 _ _ dlp hdl
  have S1 : SqL K G1 dl [.ref a1, .ref a2, .ref a3] := .inl (.inl hdl1)
  have o2c := o2b.x s1
  have o3c := o3.x s1
  obtain ⟨nm3, dd3, sg3, as3, d3, iM3, e3⟩ := o2c
  obtain ⟨nm4, dd4, sg4, as4, d4, iN, e4⟩ := o3c
  refine ⟨_, rfl, _, rfl, dl, _, 1, .ref a2, rfl, rfl, S1, rfl, _, rfl, dl, _, 2, .ref a3, rfl, rfl, S1, rfl, p, g, a2, nm3, dd3, sg3, a3, nm4, dd4, sg4, M, N, as3, as4, rfl, pen1, d3, d4, iM3, iN, e3, e4, fun u2 pl2 rw2 ey2 k4 rs2 Y G2 s2 pen2 u2p pl2p rw2p ey2p rs2p nr2 nu2 c2 ok2 => ?_⟩
  refine ⟨sz _ (by show 2 ≤ 1000; decide), fun raw nraw => ?_⟩
  have ar := Sm.new (o := .lst [.ref u1, .ref u2]) nraw
  have back : ∀ {b : Addr}, b ≠ p → G1 b = none → H b = none := fun {b} n e => by
    cases z : H b with
    | none => rfl
    | some o =>
      rw [s1 _ _ n z] at e
      cases e
  exact q raw u1 pl1 rw1 ey1 u2 pl2 rw2 ey2 X Y _ ⟨pen2.sm ar, (s1.trans s2).trans (Sx.of ar), ⟨nu1, nr1, back u2p nu2, back rw2p nr2⟩, upd_same, none_of c1.rw_ nr2, none_of c1.at_ nu2, ⟨_, _, _, (c1.x pen1 s2).sm ar⟩, ⟨_, _, _, c2.sm ar⟩, ok1, ok2⟩
theorem ps_desks31 (hr : Room 12 (LX31 P w K mg base f cdv A outer s H0 E).A) (mR : mg "range" = none) (GK : Fx P w K mg base CX0 4 "_law_desk" ["_law_pen_here", "_law_most"] spDesk31) : PS (LX31 P w K mg base f cdv A outer s H0 E) desksSt tDesks31 := by
  refine ps_weak (by exact (ps_setLc (i := 3) (own := [("_law_lap", 16)]) (g := gName 16) (tt := tYes) (te := tCall spDesk31 [] E0 (tCons (tVar 1) (tCons (tC (.int 4)) tNil))) rfl scLaw31.nd rfl rfl (sw_true rfl rfl rfl (by decide +kernel)) (pi_range1 rfl mR (pa_cons pe_int pa_nil))
    (blkOk_by (N := nLaw31) (sc := defScope (top 62)) (by decide +kernel)) (fun _ _ _ _ _ => pg_name (i := 16) scLaw31.nd rfl (Or.inl rfl)) (fun _ _ _ _ _ => pts_nil) (fun _ _ _ _ _ => by exact (pe_fx GK hr (by decide) rfl (pa_cons (by exact (pv 1)) (pa_cons pe_int pa_nil)))))) (fun D σ H h => ?_)
  obtain ⟨p, g, v0, v2, v3, v4, v5, v6, v7, v8, v9, v10, v11, v12, v13, v14, v15, v16, rfl, pen, q⟩ := h
  have sz : ∀ n : Nat, n ≤ 1000 → n ≤ sizeLine := fun n z => by
    rw [sizeLine_eq]
    omega
  obtain ⟨cs0, i0, r0, gp, hp, hg⟩ := id pen
  refine ⟨3, rfl, by decide, by decide, fun L nL => ?_⟩
  have Lp : L ≠ p := fun z => by
    rw [z, hp] at nL
    cases nL
  have Lg : L ≠ g := fun z => by
    rw [z, hg] at nL
    cases nL
  refine lc_range (lo := 0) (n := 3) (g := gName 16) (tt := tYes) (te := tCall spDesk31 [] E0 (tCons (tVar 1) (tCons (tC (.int 4)) tNil))) (vs := [16]) (fun j G => ∃ (us : List Addr) (Ds : List DkD), G L = some (.lst (us.map V.ref)) ∧ us.length = j ∧ Paired (DkP p G) us Ds ∧ Sx p H G ∧ Pen G p g) ⟨[], [], upd_same, rfl, .nil, Sx.of (Sm.new nL), pen.sm (Sm.new nL)⟩ ?_ ?_
  · rintro j G hj ⟨us, Ds, eL, ul, pr, sx, pen1⟩
    refine ⟨rfl, ?_⟩
    unfold tYes
    dsimp only
    rw [if_pos rfl]
    refine ⟨_, rfl, p, g, 4, rfl, pen1, by decide, by decide, fun u nm dd sg D2 as G2 s2 pen2 n1 n2 n3 n4 n5 dk iD => ?_⟩
    have eL2 := s2 _ _ Lp eL
    have d2 : DkP p G2 u D2 := ⟨nm, dd, sg, as, dk, iD, n1, n2, n3, n4, n5⟩
    refine ⟨us.map V.ref, eL2, by rw [List.length_map, sizeLine_eq]; omega, us ++ [u], Ds ++ [D2], by rw [upd_same, List.map_append]; rfl, by rw [List.length_append, ul]; rfl, pair_more (pair_mono pr fun a _ d e => (e.x s2).grow eL2 (by omega)) (d2.grow eL2 (by omega)), fun b o nb e => ?_, ?_⟩
    · rw [upd_ne (ne_of_none e nL)]
      exact s2 _ _ nb (sx _ _ nb e)
    · obtain ⟨cs, i, r, gp2, hp2, hg2⟩ := pen2
      exact ⟨cs, i, r, gp2, by rw [upd_ne (Ne.symm Lp)]; exact hp2, by rw [upd_ne (Ne.symm Lg)]; exact hg2⟩
  · rintro G ⟨us, Ds, eL, ul, pr, sx, pen1⟩
    have dl := paired_len pr
    match us, Ds, ul, dl, pr, eL with
    | [a1, a2, a3], [A, M, N], _, _, pr, eL =>
      cases pr with
      | cons x1 pr =>
      cases pr with
      | cons x2 pr =>
      cases pr with
      | cons x3 pr =>
      exact q L a1 a2 a3 A M N G sx pen1 Lp eL x1 x2 x3
end
end Dk
set_option Elab.async false
set_option linter.all false
set_option maxRecDepth 100000
set_option maxHeartbeats 8000000
namespace Dk
open PySem PySem.Spec PyProof.Rows L2 Er LamX NdefX CmX
/-! ### the deeds whose rows came out too long -/
/-- [z for z in a dict that is walked if p(z)] -/
theorem lc_filtK {d : Addr} {od : Obj} {ds : List Str} {us : List V} {σ : L2.St} {i : Nat} {H1 : Hp} {Q : Addr → Hp → Prop} {tt : TT} {p : Str → Bool} (hd : H1 d = some (.frz od (.dK (dkv ds us)))) (ul : us.length = ds.length) (few : ds.length ≤ 1000) (w1 : ∀ v, wipe ((wipe σ [i]).set i (some v)) [i] = wipe σ [i]) (s1 : ∀ v, ((wipe σ [i]).set i (some v))[i]? = some (some v))
    (ev : ∀ z ∈ ds, ∀ (G : Hp) (R : Bool → Hp → Prop), Sm H1 G → R (p z) G → tt ((wipe σ [i]).set i (some (.str z))) G R) (q : ∀ (D : Addr) (G : Hp), Sm H1 G → H1 D = none → G D = some (.lst ((ds.filter p).map V.str)) → Q D G) :
    ∀ D, H1 D = none → ∃ W : Nat → Nat → Hp → Prop, (∃ m, W 0 m (upd H1 D (.lst []))) ∧ ∀ j m H, W j m H → ((Itk d od (dkv ds us)).stop j H ∧ Q D H) ∨ ((Itk d od (dkv ds us)).go j H ∧ ∃ Nx : Hp → Prop, (∀ H', Nx H' → ∃ m', m' < m ∧ W (j + 1) m' H') ∧ ∀ x H', (Itk d od (dkv ds us)).yld j H x H' → gName i x (wipe σ [i]) H' fun σ2 H2 => wipe σ2 [i] = wipe σ [i] ∧ tt σ2 H2 fun b H3 =>
      if b = true then (tVar i) σ2 H3 fun y H4 => ∃ acc, H4 D = some (.lst acc) ∧ acc.length < sizeLine ∧ Nx (upd H4 D (.lst (acc ++ [y]))) else Nx H3) := by
  intro D nD
  have kl : (dkv ds us).length = ds.length := dkv_len ul
  refine lc_it walk_keys (g := gName i) (vs := [i]) (fun j G => G D = some (.lst (((ds.take j).filter p).map V.str)) ∧ Sm H1 G) ⟨upd_same, Sm.new nD⟩ (fun j G _ h => h.2 _ _ hd) (fun j x G G' hj h yy => ?_) (fun G h => q D G h.2 nD (by
    have e := h.1
    rw [kl, List.take_length] at e
    exact e))
  obtain ⟨eD, mm⟩ := h
  obtain ⟨rfl, k, v, ekv, rfl⟩ := yy
  obtain ⟨z, ez, rfl, ev2⟩ := dkv_at ekv
  have hz := List.mem_of_getElem? ez
  have tk : ds.take (j + 1) = ds.take j ++ [z] := by
    rw [List.take_add_one, ez]
    rfl
  refine ⟨w1 _, ev z hz _ _ mm ?_⟩
  cases hp : p z with
  | false =>
    refine iteF ⟨?_, mm⟩
    rw [tk, List.filter_append, List.filter_cons_of_neg (by rw [hp]; decide), List.filter_nil, List.append_nil]
    exact eD
  | true =>
    have fl : ((ds.take j).filter p).length ≤ ds.length := Nat.le_trans (List.length_filter_le _ _) (by rw [List.length_take]; omega)
    refine iteT ⟨_, s1 _, _, eD, by rw [List.length_map, sizeLine_eq]; omega, ?_, fun b o e => ?_⟩
    · rw [upd_same, tk, List.filter_append, List.filter_cons_of_pos hp, List.filter_nil, List.map_append]
      rfl
    · rw [upd_ne (ne_of_none e nD)]
      exact mm _ _ e
def tLong31 : TS := fun D σ H => ∃ (dl a1 nm dd sg tl pl rw ey : Addr) (xs : List V) (as : List Addr) (A : DkD) (t : List (Key × V)) (ks : List Str) (rf : Str → List Str) (v0 v1 v2 v4 v5 v6 v7 v8 v9 v11 v12 v13 v14 v15 v16 : Option V), σ = [v0, v1, v2, some (.ref dl), v4, v5, v6, v7, v8, v9, some (.ref tl), v11, v12, v13, v14, v15, v16] ∧
  H dl = some (.lst (.ref a1 :: xs)) ∧ DkL H a1 nm dd sg A as ∧ A.Is ∧ H tl = some (.lst [.ref pl, .ref rw, .ref ey]) ∧ H rw = some (.dK t) ∧ RowT H t ks rf ∧ (∀ d ∈ A.ds, d ∈ ks ∧ (rf d).length ≤ 1000) ∧
  ∀ (lg : Addr) (G : Hp), Sm H G → G lg = some (.lst ((A.ds.filter fun d => decide (16 < (rf d).length)).map V.str)) → D.nx [v0, v1, v2, some (.ref dl), v4, v5, v6, v7, v8, v9, some (.ref tl), some (.ref lg), v12, v13, v14, v15, v16] G
def longSt : Stmt := ith (inS lawTurn) 7
section
variable {P : Program} {w : World} {K : PySem.W.Frag} {mg : Str → Option Value} {base : Heap} {f : Addr} {cdv : Value} {A : Around} {outer : List Env} {s : Shared} {H0 : Hp} {E : XK}
theorem ps_long31 (hr : Room 12 (LX31 P w K mg base f cdv A outer s H0 E).A) (ml : mg "len" = none) : PS (LX31 P w K mg base f cdv A outer s H0 E) longSt tLong31 := by
  refine ps_weak (ps_lock (by exact (ps_setLc (i := 11) (own := [("_law_deed", 6)]) (g := gName 6) (tt := tTest (tOp (rI0 fun i j => .bl (decide (j < i))) (tCB (rLen K) (tCons (tDGet (tOp (rIxL K) (tVar 10) (tC (.int 1))) (tVar 6)) tNil)) (tC (.int 16)))) (te := tVar 6) rfl scLaw31.nd rfl rfl (sw_true rfl rfl rfl (by decide +kernel)) (pi_keys (by exact (pe_ix ix_list (by exact (pe_ix ix_list (pv 3) pe_int (fun _ _ => rfl))) pe_int (fun _ _ => rfl))))
    (blkOk_by (N := nLaw31) (sc := defScope (top 62)) (by decide +kernel)) (fun _ _ _ _ _ => pg_name (i := 6) scLaw31.nd rfl (Or.inl rfl)) (fun _ _ _ _ _ => pts_one (by exact (pt_cmpR op_gt (by exact (pe_callB call_len rfl ml boot_len (pa_cons (by exact (pe_dget (hu_of hr) (by exact (pe_ix ix_list (by exact (pv 10)) pe_int (fun _ _ => rfl))) (by exact (pv 6)) (fun _ _ => rfl))) pa_nil))) pe_int (nomark _)))) (fun _ _ _ _ _ => by exact (pv 6))))) (fun D σ H h => ?_)
  obtain ⟨dl, a1, nm, dd, sg, tl, pl, rw_, ey, xs, as, A, t, ks, rf, v0, v1, v2, v4, v5, v6, v7, v8, v9, v11, v12, v13, v14, v15, v16, rfl, hdl, o, iA, htl, hrw, rt, hks, q⟩ := h
  have al := paired_len o.2.2.2.2
  have ar := iA.rows
  have d4 := iA.dmost
  have ul : (as.map V.ref).length = A.ds.length := by rw [List.length_map, al, ar]
  have lk : ∀ {od : Obj} {b : Addr} {u : HO}, H b = some u → (∀ t, u ≠ .dK t) → upd H dd (.frz od (.dK (dkv A.ds (as.map V.ref)))) b = some u := fun {od b u} hb n => by
    rw [upd_ne (fun z => by rw [z, o.2.2.1] at hb; exact n _ (Option.some.inj hb).symm)]
    exact hb
  refine ⟨dd, .dK (dkv A.ds (as.map V.ref)), o.2.2.1, True.intro, fun od => ⟨_, rfl, dl, _, 0, .ref a1, rfl, rfl, (.inl (.inl (lk hdl (fun t z => nomatch z)))), atI_nat (j := 0) rfl, a1, _, 1, .ref dd, rfl, rfl, .inl (.inl (lk o.1 (fun t z => nomatch z))), rfl, dd, od, rfl, .inl ⟨_, upd_same, ?_⟩⟩⟩
  refine lc_filtK (i := 6) (σ := [v0, v1, v2, some (.ref dl), v4, v5, v6, v7, v8, v9, some (.ref tl), v11, v12, v13, v14, v15, v16]) (p := fun d => decide (16 < (rf d).length)) upd_same ul (by omega) (fun _ => rfl) (fun _ => rfl) (fun z hz G R m h => ?_) (fun L G m nL eL => ?_)
  · obtain ⟨h1, h2⟩ := hks z hz
    obtain ⟨a, ea, ha⟩ := rt.2 z h1
    refine ⟨_, rfl, tl, _, 1, .ref rw_, rfl, rfl, .inl (.inl (m _ _ (lk htl (fun t z => nomatch z)))), rfl, _, rfl, rw_, .ref a, rfl, .inl ⟨_, .inr z, Rd.sm (rd_lock hrw o.2.2.1) m, rfl, ea.symm⟩, _, _, rfl, .inl ⟨_, .inl (.inl (m _ _ (lk ha (fun t z => nomatch z)))), rfl⟩, _, _, rfl, rfl, _, rfl, ?_⟩
    have e : decide ((16 : Int) < (((rf z).map V.str).length : Nat)) = decide (16 < (rf z).length) := by
      rw [List.length_map]
      exact decide_eq_decide.mpr (by omega)
    rw [e]
    exact h
  · have s1 := sm_unlock o.2.2.1 m
    refine ⟨m _ _ upd_same, q L _ s1 ?_⟩
    rw [upd_ne (fun z => by rw [z, upd_same] at nL; cases nL)]
    exact eL
end
end Dk
set_option Elab.async false
set_option linter.all false
set_option maxRecDepth 100000
set_option maxHeartbeats 8000000
namespace Dk
open PySem PySem.Spec PyProof.Rows L2 Er LamX NdefX CmX
open PySem.ErK (EC)
/-! ### the law's own lambdas -/
def testIf : Stmt → Option LamT
  | .If t _ _ _ => argL t
  | _ => none
def lamC : Option LamT := testIf (ith (inS (ith (inS lawTurn) 10)) 0)
def lamD : Option LamT := testIf (ith (inS (ith (inS lawTurn) 11)) 0)
def lamE : Option LamT := testIf (ith (inS (ith (inS lawTurn) 13)) 0)
def qLw : Str := ("law" : Str) ++ ".<locals>." ++ "<lambda>"
def nmLw : Nat → Nat → Str := fun _ _ => qLw
theorem scC : NScope ["_law_first", "_law_second"] [] ["_law_first", "_law_second"] (lS lamC) := nscope_by (by decide +kernel)
theorem scD : NScope ["_law_first"] [] ["_law_first"] (lS lamD) := nscope_by (by decide +kernel)
theorem scE : NScope ["_law_one"] [] ["_law_one"] (lS lamE) := nscope_by (by decide +kernel)
def spC (K : PySem.W.Frag) (CD CC CL CT : Addr) : List (Option V) → Sp := fun ws vs H Q E => ∃ c1 c2 : Addr, ws = [some (.ref c1), some (.ref c2)] ∧ vs = [] ∧ spJo K CD CC CL CT [.ref c2, .ref c1] H Q E
def spDj (K : PySem.W.Frag) (CD CC CL CT : Addr) : List (Option V) → Sp := fun ws vs H Q E => ∃ c1 : Addr, ws = [some (.ref c1)] ∧ vs = [] ∧ spJo K CD CC CL CT [.ref c1, .ref c1] H Q E
section
variable {P : Program} {w : World} {K : PySem.W.Frag} {mg : Str → Option Value} {base : Heap} {f c CD CC CB CL CT CN : Addr}
theorem cal_C {qual : Str} {cl : List (Str × Addr)} (GJ : Fx P w K mg base (L2.CX P w) 7 "joined" ["first", "second"] (spJo K CD CC CL CT)) : CalX P w K mg base 8 f (LamO f qual (lA lamC) (lB lamC) (lS lamC) cl c) c qual cl ["_law_first", "_law_second"] (spC K CD CC CL CT) := by
  obtain ⟨fR, dR, FR, kR, gR, bR⟩ := GJ
  refine calX_lam (N := ["_law_first", "_law_second"]) scC (fun pm ctv => rfl) fun A outer s H ws Q E hr hl h => ?_
  refine ⟨_, by exact (pe_call FR hr rfl gR kR bR .nil (passes_call (takes_of rfl rfl rfl rfl) (fun _ _ _ _ h => h)) (pa_cons (pv 1) (pa_cons (pv 0) pa_nil))), ?_⟩
  obtain ⟨c1, c2, rfl, _, h⟩ := h
  exact ⟨_, rfl, _, rfl, h⟩
theorem cal_D {qual : Str} {cl : List (Str × Addr)} (GJ : Fx P w K mg base (L2.CX P w) 7 "joined" ["first", "second"] (spJo K CD CC CL CT)) : CalX P w K mg base 8 f (LamO f qual (lA lamD) (lB lamD) (lS lamD) cl c) c qual cl ["_law_first"] (spDj K CD CC CL CT) := by
  obtain ⟨fR, dR, FR, kR, gR, bR⟩ := GJ
  refine calX_lam (N := ["_law_first"]) scD (fun pm ctv => rfl) fun A outer s H ws Q E hr hl h => ?_
  refine ⟨_, by exact (pe_call FR hr rfl gR kR bR .nil (passes_call (takes_of rfl rfl rfl rfl) (fun _ _ _ _ h => h)) (pa_cons (pv 0) (pa_cons (pv 0) pa_nil))), ?_⟩
  obtain ⟨c1, rfl, _, h⟩ := h
  exact ⟨_, rfl, _, rfl, h⟩
theorem cal_E {qual : Str} {cl : List (Str × Addr)} (GW : Fx P w K mg base (L2.CX P w) 8 "without_middle" ["book"] (spWm K CD CC CB CT CN)) : CalX P w K mg base 9 f (LamO f qual (lA lamE) (lB lamE) (lS lamE) cl c) c qual cl ["_law_one"] (spB K CD CC CB CT CN) := by
  obtain ⟨fR, dR, FR, kR, gR, bR⟩ := GW
  refine calX_lam (N := ["_law_one"]) scE (fun pm ctv => rfl) fun A outer s H ws Q E hr hl h => ?_
  refine ⟨_, by exact (pe_call FR hr rfl gR kR bR .nil (passes_call (takes_of rfl rfl rfl rfl) (fun _ _ _ _ h => h)) (pa_cons (pv 0) pa_nil)), ?_⟩
  obtain ⟨b, rfl, _, h⟩ := h
  exact ⟨_, rfl, h⟩
end
theorem free_C : ∀ y ∈ (lS lamC).names, y.2 = .free → (defScope (top 62)).names.lookup y.1 = some .cell ∨ (defScope (top 62)).names.lookup y.1 = some .free := by decide +kernel
theorem free_D : ∀ y ∈ (lS lamD).names, y.2 = .free → (defScope (top 62)).names.lookup y.1 = some .cell ∨ (defScope (top 62)).names.lookup y.1 = some .free := by decide +kernel
theorem free_E : ∀ y ∈ (lS lamE).names, y.2 = .free → (defScope (top 62)).names.lookup y.1 = some .cell ∨ (defScope (top 62)).names.lookup y.1 = some .free := by decide +kernel
theorem in_C : ∀ y ∈ (["_law_first", "_law_second"] : List Str), (y, NameKind.free) ∈ (lS lamC).names := by decide +kernel
theorem in_D : ∀ y ∈ (["_law_first"] : List Str), (y, NameKind.free) ∈ (lS lamD).names := by decide +kernel
theorem in_E : ∀ y ∈ (["_law_one"] : List Str), (y, NameKind.free) ∈ (lS lamE).names := by decide +kernel
end Dk
set_option Elab.async false
set_option linter.all false
set_option maxRecDepth 100000
set_option maxHeartbeats 16000000
namespace Dk
open PySem PySem.Spec PyProof.Rows L2 Er LamX NdefX CmX
open PySem.ErK (EC)
/-! ### changes that do not link -/
def tOutL (K : PySem.W.Frag) (CD CC CB : Addr) (T : List NTab) : TS := fun D σ H => ∃ (b x1 x2 x3 c1 c2 : Addr) (A M N : DkD) (X Y : ChD) (v0 v1 v2 v3 v4 v5 v6 v7 v8 v10 v11 v12 v14 v16 : Option V), σ = [v0, v1, v2, v3, v4, v5, v6, v7, v8, some (.ref b), v10, v11, v12, some (.ref c1), v14, some (.ref c2), v16] ∧ BkOb K CD CC CB H b [x1, x2, x3] [c1, c2] [A, M, N] [X, Y] ∧ X.Ok A M ∧ Y.Ok M N ∧ TabsN T H ∧
  ∀ G, Nx H G → TabsN T G → D.nx [v0, v1, v2, v3, v4, v5, v6, v7, v8, some (.ref b), v10, v11, v12, some (.ref c1), v14, some (.ref c2), v16] G
section
variable {P : Program} {w : World} {K : PySem.W.Frag} {mg : Str → Option Value} {base : Heap} {f c Pl CD CC CB CL CT CN fL fT fN fO : Addr} {dL dT dN dO : FuncData} {A : Around} {outer : List Env} {s : Shared} {H0 : Hp} {E : XK} {T : List NTab}
theorem ps_out10 (TB : TabB base mg c Pl) (hm : (Pl, nmLw) ∈ T) (hu : ∀ p ∈ T, p.1 = Pl → p.2 = nmLw) (hr : Room 12 (LX31 P w K mg base f (.ref c) A outer s H0 E).A) (TBk : BkC K mg CB) (ED : EqC K CD) (QD : Eqx P w K mg base CD 1 (spEqD K CD)) (PBd : Px P w K mg base CB 1 "desks" nSelf (spBkD CB))
    (GJ : Fx P w K mg base (L2.CX P w) 7 "joined" ["first", "second"] (spJo K CD CC CL CT)) (FO : FnP K "_law_outcome" (top 59) fO dO) (gO : mg "_law_outcome" = some (.ref fO)) (BL : Bad K mg "BadLink" "value" (ini (top 15)) CL fL dL) (BT : Bad K mg "TooLong" "deed" (ini (top 16)) CT fT dT) (BN : Bad K mg "BadNumber" "value" (ini (top 14)) CN fN dN) (EM : Exm K CL CT CN) :
    PS (LX31 P w K mg base f (.ref c) A outer s H0 E) (ith (inS lawTurn) 10) (tOutL K CD CC CB T) := by
  refine ps_weak (ps_if (pt_cmpR (op_neX QD ED hr (by decide)) (by exact (pe_ix ix_tup (by exact (pe_px PBd (pv 9) TBk.cl hr (by decide) rfl)) pe_int (fun _ _ => rfl))) (by exact (pe_ix ix_tup (by exact (pe_px PBd (pv 9) TBk.cl hr (by decide) rfl)) pe_int (fun _ _ => rfl))) (nomark _))
    (pss_one (ps_if (pt_cmpR (op_neP hr.units) (by exact (pe_outcome (k := 8) (mk := fun f c => LamO f qLw (lA lamC) (lB lamC) (lS lamC) _ c) (q := qLw) (fr := ["_law_first", "_law_second"]) (js := [13, 15]) FO gO BL BT BN EM rfl (hr.mono (by decide)) (fun ok => Caps.made ok free_C in_C rfl) (fun f c => cal_C GJ)
        (pa_cons (by exact (pe_lamN (params := lA lamC) (body := lB lamC) (scope := lS lamC) (T := T) (nm := nmLw) TB rfl hm (by rfl) hu rfl free_C)) pa_nil))) (by exact (pe_lst (pa_cons pe_str (pa_cons (pv 13) pa_nil)))) (nomark _)) (pss_one (ps_ret pe_bl)) pss_nil)) pss_nil) (fun D σ H h => ?_)
  obtain ⟨b, x1, x2, x3, c1, c2, A, M, N, X, Y, v0, v1, v2, v3, v4, v5, v6, v7, v8, v10, v11, v12, v14, v16, rfl, ob, k1, k2, hT, q⟩ := h
  have sz : ∀ n : Nat, n ≤ 1000 → n ≤ sizeLine := fun n z => by
    rw [sizeLine_eq]
    omega
  obtain ⟨dx, d, cc, w1, w2, hb, hd, dsa, hc, chs⟩ := id ob
  obtain ⟨_, e1, o1⟩ := pair_at dsa (j := 0) rfl
  obtain ⟨_, e2, o2⟩ := pair_at dsa (j := 1) rfl
  obtain ⟨_, e3, o3⟩ := pair_at dsa (j := 2) rfl
  obtain ⟨_, e4, o4⟩ := pair_at chs (j := 0) rfl
  obtain ⟨_, e5, o5⟩ := pair_at chs (j := 1) rfl
  cases Option.some.inj e1
  cases Option.some.inj e2
  cases Option.some.inj e3
  cases Option.some.inj e4
  cases Option.some.inj e5
  have iD := o1.2
  have iM := o2.2
  have iN := o3.2
  have o4 : ChOb K CD CC H c1 A M X := o4
  have o5 : ChOb K CD CC H c2 M N Y := o5
  refine ⟨_, rfl, b, dx, _, rfl, hb, b, dx, d, cc, w1, w2, rfl, hb, d, _, 0, .ref x1, rfl, rfl, hd, rfl, _, rfl, b, dx, _, rfl, hb, b, dx, d, cc, w1, w2, rfl, hb, d, _, 2, .ref x3, rfl, rfl, hd, rfl, ?_⟩
  obtain ⟨_, _, _, _, _, hx1, _⟩ := id o1.1
  obtain ⟨_, _, _, _, _, hx3, _⟩ := id o3.1
  refine ⟨x1, _, _, rfl, hx1, .own hx3, x1, x3, A, N, rfl, o1.1, iD, o3.1, o3.2, fun G1 m1 => ⟨_, rfl, _, rfl, ?_⟩⟩
  have T1 : TabsN T G1 := hT.ext fun b o e => m1 _ _ e
  by_cases hh : A = N
  · rw [decide_eq_true hh]
    exact iteF (q G1 (nx_of m1) T1)
  rw [decide_eq_false hh]
  refine iteT ⟨T1, fun fl fc H1 ext T2 nf ef ec => ⟨fl, fc, rfl, ef, ec, fun Q' E' hQ hE => ⟨c1, c2, rfl, rfl, c2, c1, M, N, A, M, Y, X, rfl, (o5.sm m1).nx ext, (o4.sm m1).nx ext, k2, k1, iM, iN, iD, iM, .inl ⟨fun z => hh z.symm, fun e G me ne ee => ?_⟩⟩⟩⟩
  refine hE _ _ _ ⟨e, .ref c1, rfl, .inl ⟨rfl, ee, fun l nl => ?_⟩⟩
  have al := Sm.new (o := .lst [.str "link", .ref c1]) nl
  have el : upd G l (.lst [.str "link", .ref c1]) l = some (.lst [.str "link", .ref c1]) := upd_same
  have m2 := me.trans al
  generalize upd G l (.lst [.str "link", .ref c1]) = G2 at el m2 ⊢
  refine ⟨_, rfl, sz _ (by show 2 ≤ 1000; decide), fun y ny => ?_⟩
  have ay := Sm.new (o := .lst [.str "link", .ref c1]) ny
  refine ⟨l, y, c1, "link", rfl, rfl, ay _ _ el, upd_same, _, rfl, iteF ?_⟩
  have x2 : Nx H1 (upd G2 y (.lst [.str "link", .ref c1])) := nx_of (m2.trans ay)
  exact q _ (Nx.trans (nx_of m1) (Nx.trans ext x2)) (T2.ext fun b o e => ay _ _ (m2 _ _ e))
theorem ps_out11 (TB : TabB base mg c Pl) (hm : (Pl, nmLw) ∈ T) (hu : ∀ p ∈ T, p.1 = Pl → p.2 = nmLw) (hr : Room 12 (LX31 P w K mg base f (.ref c) A outer s H0 E).A) (TBk : BkC K mg CB) (ED : EqC K CD) (QD : Eqx P w K mg base CD 1 (spEqD K CD)) (PBd : Px P w K mg base CB 1 "desks" nSelf (spBkD CB))
    (GJ : Fx P w K mg base (L2.CX P w) 7 "joined" ["first", "second"] (spJo K CD CC CL CT)) (FO : FnP K "_law_outcome" (top 59) fO dO) (gO : mg "_law_outcome" = some (.ref fO)) (BL : Bad K mg "BadLink" "value" (ini (top 15)) CL fL dL) (BT : Bad K mg "TooLong" "deed" (ini (top 16)) CT fT dT) (BN : Bad K mg "BadNumber" "value" (ini (top 14)) CN fN dN) (EM : Exm K CL CT CN) :
    PS (LX31 P w K mg base f (.ref c) A outer s H0 E) (ith (inS lawTurn) 11) (tOutL K CD CC CB T) := by
  refine ps_weak (ps_if (pt_cmpR (op_neX QD ED hr (by decide)) (by exact (pe_ix ix_tup (by exact (pe_px PBd (pv 9) TBk.cl hr (by decide) rfl)) pe_int (fun _ _ => rfl))) (by exact (pe_ix ix_tup (by exact (pe_px PBd (pv 9) TBk.cl hr (by decide) rfl)) pe_int (fun _ _ => rfl))) (nomark _))
    (pss_one (ps_if (pt_cmpR (op_neP hr.units) (by exact (pe_outcome (k := 8) (mk := fun f c => LamO f qLw (lA lamD) (lB lamD) (lS lamD) _ c) (q := qLw) (fr := ["_law_first"]) (js := [13]) FO gO BL BT BN EM rfl (hr.mono (by decide)) (fun ok => Caps.made ok free_D in_D rfl) (fun f c => cal_D GJ)
        (pa_cons (by exact (pe_lamN (params := lA lamD) (body := lB lamD) (scope := lS lamD) (T := T) (nm := nmLw) TB rfl hm (by rfl) hu rfl free_D)) pa_nil))) (by exact (pe_lst (pa_cons pe_str (pa_cons (pv 13) pa_nil)))) (nomark _)) (pss_one (ps_ret pe_bl)) pss_nil)) pss_nil) (fun D σ H h => ?_)
  obtain ⟨b, x1, x2, x3, c1, c2, A, M, N, X, Y, v0, v1, v2, v3, v4, v5, v6, v7, v8, v10, v11, v12, v14, v16, rfl, ob, k1, k2, hT, q⟩ := h
  have sz : ∀ n : Nat, n ≤ 1000 → n ≤ sizeLine := fun n z => by
    rw [sizeLine_eq]
    omega
  obtain ⟨dx, d, cc, w1, w2, hb, hd, dsa, hc, chs⟩ := id ob
  obtain ⟨_, e1, o1⟩ := pair_at dsa (j := 0) rfl
  obtain ⟨_, e2, o2⟩ := pair_at dsa (j := 1) rfl
  obtain ⟨_, e3, o3⟩ := pair_at dsa (j := 2) rfl
  obtain ⟨_, e4, o4⟩ := pair_at chs (j := 0) rfl
  obtain ⟨_, e5, o5⟩ := pair_at chs (j := 1) rfl
  cases Option.some.inj e1
  cases Option.some.inj e2
  cases Option.some.inj e3
  cases Option.some.inj e4
  cases Option.some.inj e5
  have iD := o1.2
  have iM := o2.2
  have iN := o3.2
  have o4 : ChOb K CD CC H c1 A M X := o4
  have o5 : ChOb K CD CC H c2 M N Y := o5
  refine ⟨_, rfl, b, dx, _, rfl, hb, b, dx, d, cc, w1, w2, rfl, hb, d, _, 0, .ref x1, rfl, rfl, hd, rfl, _, rfl, b, dx, _, rfl, hb, b, dx, d, cc, w1, w2, rfl, hb, d, _, 1, .ref x2, rfl, rfl, hd, rfl, ?_⟩
  obtain ⟨_, _, _, _, _, hx1, _⟩ := id o1.1
  obtain ⟨_, _, _, _, _, hx2, _⟩ := id o2.1
  refine ⟨x1, _, _, rfl, hx1, .own hx2, x1, x2, A, M, rfl, o1.1, iD, o2.1, o2.2, fun G1 m1 => ⟨_, rfl, _, rfl, ?_⟩⟩
  have T1 : TabsN T G1 := hT.ext fun b o e => m1 _ _ e
  by_cases hh : A = M
  · rw [decide_eq_true hh]
    exact iteF (q G1 (nx_of m1) T1)
  rw [decide_eq_false hh]
  refine iteT ⟨T1, fun fl fc H1 ext T2 nf ef ec => ⟨fl, fc, rfl, ef, ec, fun Q' E' hQ hE => ⟨c1, rfl, rfl, c1, c1, A, M, A, M, X, X, rfl, (o4.sm m1).nx ext, (o4.sm m1).nx ext, k1, k1, iD, iM, iD, iM, .inl ⟨fun z => hh z.symm, fun e G me ne ee => ?_⟩⟩⟩⟩
  refine hE _ _ _ ⟨e, .ref c1, rfl, .inl ⟨rfl, ee, fun l nl => ?_⟩⟩
  have al := Sm.new (o := .lst [.str "link", .ref c1]) nl
  have el : upd G l (.lst [.str "link", .ref c1]) l = some (.lst [.str "link", .ref c1]) := upd_same
  have m2 := me.trans al
  generalize upd G l (.lst [.str "link", .ref c1]) = G2 at el m2 ⊢
  refine ⟨_, rfl, sz _ (by show 2 ≤ 1000; decide), fun y ny => ?_⟩
  have ay := Sm.new (o := .lst [.str "link", .ref c1]) ny
  refine ⟨l, y, c1, "link", rfl, rfl, ay _ _ el, upd_same, _, rfl, iteF ?_⟩
  have x2 : Nx H1 (upd G2 y (.lst [.str "link", .ref c1])) := nx_of (m2.trans ay)
  exact q _ (Nx.trans (nx_of m1) (Nx.trans ext x2)) (T2.ext fun b o e => ay _ _ (m2 _ _ e))
end
end Dk
set_option Elab.async false
set_option linter.all false
set_option maxRecDepth 100000
set_option maxHeartbeats 16000000
namespace Dk
open PySem PySem.Spec PyProof.Rows L2 Er LamX NdefX CmX
open PySem.ErK (EC)
/-! ### books too small to leave their middle out -/
def SmB (K : PySem.W.Frag) (CD CC CB : Addr) (H : Hp) (b : Addr) : Prop := ∃ (xs cs : List Addr) (Ds : List DkD) (Xs : List ChD), BkOb K CD CC CB H b xs cs Ds Xs ∧ Xs.length + 1 = Ds.length ∧ Ds.length ≠ 3 ∧ Ds.length ≤ 3
theorem SmB.nx {K : PySem.W.Frag} {CD CC CB : Addr} {H G : Hp} {b : Addr} (h : SmB K CD CC CB H b) (m : Nx H G) : SmB K CD CC CB G b := by
  obtain ⟨xs, cs, Ds, Xs, o, r⟩ := h
  exact ⟨xs, cs, Ds, Xs, o.nx m, r⟩
theorem Nx.rfl' (H : Hp) : Nx H H := fun _ _ e _ => e
def tSmall31 (K : PySem.W.Frag) (CD CC CB : Addr) (T : List NTab) : TS := fun D σ H => ∃ (sm b1 b2 : Addr) (v0 v1 v2 v3 v4 v5 v6 v7 v8 v9 v10 v11 v13 v14 v15 v16 : Option V), σ = [v0, v1, v2, v3, v4, v5, v6, v7, v8, v9, v10, v11, some (.ref sm), v13, v14, v15, v16] ∧ H sm = some (.lst [.ref b1, .ref b2]) ∧ SmB K CD CC CB H b1 ∧ SmB K CD CC CB H b2 ∧ TabsN T H ∧
  ∀ (y14 : Option V) (G : Hp), Nx H G → TabsN T G → D.nx [v0, v1, v2, v3, v4, v5, v6, v7, v8, v9, v10, v11, some (.ref sm), v13, y14, v15, v16] G
theorem dp_num {K : PySem.W.Frag} {H : Hp} {a : Addr} (e : H a = some (.lst [.str "number", .int 1])) : Dp K H (.ref a) (.list [.str "number", .int 1]) := .lst (.inl (.inl e)) (.cons (.str _) (.cons (.int _) .nil))
section
variable {P : Program} {w : World} {K : PySem.W.Frag} {mg : Str → Option Value} {base : Heap} {f c Pl CD CC CB CL CT CN fL fT fN fO : Addr} {dL dT dN dO : FuncData} {A : Around} {outer : List Env} {s : Shared} {H0 : Hp} {E : XK} {T : List NTab}
theorem ps_small31 (TB : TabB base mg c Pl) (hm : (Pl, nmLw) ∈ T) (hu : ∀ p ∈ T, p.1 = Pl → p.2 = nmLw) (hr : Room 12 (LX31 P w K mg base f (.ref c) A outer s H0 E).A)
    (GW : Fx P w K mg base (L2.CX P w) 8 "without_middle" ["book"] (spWm K CD CC CB CT CN)) (FO : FnP K "_law_outcome" (top 59) fO dO) (gO : mg "_law_outcome" = some (.ref fO)) (BL : Bad K mg "BadLink" "value" (ini (top 15)) CL fL dL) (BT : Bad K mg "TooLong" "deed" (ini (top 16)) CT fT dT) (BN : Bad K mg "BadNumber" "value" (ini (top 14)) CN fN dN) (EM : Exm K CL CT CN) :
    PS (LX31 P w K mg base f (.ref c) A outer s H0 E) (ith (inS lawTurn) 13) (tSmall31 K CD CC CB T) := by
  refine ps_weak (ps_for PassesOwn.never rfl (pi_list (pv 12)) (pg_name (i := 14) scLaw31.nd rfl (.inr rfl))
    (pss_one (ps_if (pt_cmpR (op_neD hr.units) (by exact (pe_outcome (k := 9) (mk := fun f c => LamO f qLw (lA lamE) (lB lamE) (lS lamE) _ c) (q := qLw) (fr := ["_law_one"]) (js := [14]) FO gO BL BT BN EM rfl (hr.mono (by decide)) (fun ok => Caps.made ok free_E in_E rfl) (fun f c => cal_E GW)
        (pa_cons (by exact (pe_lamN (params := lA lamE) (body := lB lamE) (scope := lS lamE) (T := T) (nm := nmLw) TB rfl hm (by rfl) hu rfl free_E)) pa_nil))) (by exact (pe_lst (pa_cons pe_str (pa_cons pe_int pa_nil)))) (nomark _)) (pss_one (ps_ret pe_bl)) pss_nil)) (fun _ => rfl)) (fun D σ H h => ?_)
  obtain ⟨sm, b1, b2, v0, v1, v2, v3, v4, v5, v6, v7, v8, v9, v10, v11, v13, v14, v15, v16, rfl, hsm, o1, o2, hT, q⟩ := h
  have sz : ∀ n : Nat, n ≤ 1000 → n ≤ sizeLine := fun n z => by
    rw [sizeLine_eq]
    omega
  refine ⟨_, rfl, sm, rfl, ⟨_, .inl (.inl hsm)⟩, ?_⟩
  refine for_list (K := K) (a := sm) (xs := [.ref b1, .ref b2]) (fun i σ G => ∃ y14 : Option V, σ = [v0, v1, v2, v3, v4, v5, v6, v7, v8, v9, v10, v11, some (.ref sm), v13, y14, v15, v16] ∧ Nx H G ∧ TabsN T G) ⟨v14, rfl, Nx.rfl' H, hT⟩ ?_ ?_ ?_
  · rintro i σ G _ ⟨_, _, n, _⟩
    exact .inl (.inl (n _ _ hsm (fun _ z => nomatch z)))
  · rintro i x σ G hx ⟨y14, rfl, n, T1⟩
    obtain ⟨b, rfl, hb⟩ : ∃ b, x = .ref b ∧ SmB K CD CC CB H b := by
      match i, hx with
      | 0, hx => exact ⟨b1, (Option.some.inj hx).symm, o1⟩
      | 1, hx => exact ⟨b2, (Option.some.inj hx).symm, o2⟩
      | k + 2, hx => exact absurd hx (by simp)
    refine ⟨T1, fun fl fc H1 ext T2 nf ef ec => ⟨fl, fc, rfl, ef, ec, fun Q' E' hQ hE => ?_⟩⟩
    obtain ⟨xs, cs, Ds, Xs, ob, l1, l2, l3⟩ := (hb.nx n).nx ext
    refine ⟨b, rfl, rfl, b, xs, cs, Ds, Xs, rfl, ob, l1, .inl ⟨l2, l3, fun e G2 me ne ee => hE _ _ _ ⟨e, .int 1, rfl, .inr (.inr ⟨rfl, ee, fun l nl => ?_⟩)⟩⟩⟩
    have al := Sm.new (o := .lst [.str "number", .int 1]) nl
    have el : upd G2 l (.lst [.str "number", .int 1]) l = some (.lst [.str "number", .int 1]) := upd_same
    have m2 := me.trans al
    generalize upd G2 l (.lst [.str "number", .int 1]) = G3 at el m2 ⊢
    refine ⟨sz _ (by show 2 ≤ 1000; decide), fun y ny => ?_⟩
    have ay := Sm.new (o := .lst [.str "number", .int 1]) ny
    refine ⟨_, _, dp_num (ay _ _ el), dp_num upd_same, by decide +kernel, by decide +kernel, _, rfl, ?_⟩
    have ev : PyData.eqv (.list [.str "number", .int 1]) (.list [.str "number", .int 1]) = true := by decide +kernel
    rw [ev]
    refine iteF ⟨_, rfl, Nx.trans n (Nx.trans ext (nx_of (m2.trans ay))), T2.ext fun b o e => ay _ _ (m2 _ _ e)⟩
  · rintro σ G ⟨y14, rfl, n, T1⟩
    exact q y14 G n T1
end
end Dk
set_option Elab.async false
set_option linter.all false
set_option maxRecDepth 100000
set_option maxHeartbeats 16000000
namespace Dk
open PySem PySem.Spec PyProof.Rows L2 Er LamX NdefX CmX
open PySem.ErK (EC)
/-! ### joined with a plain change, at either side -/
theorem idX_left (X : ChD) : joinX idX X = X := by
  have e : rowJ idX X = X.rf := funext fun d => by
    show [d].flatMap X.rf = X.rf d
    rw [List.flatMap_cons, List.flatMap_nil, List.append_nil]
  show (⟨fun z => X.pf z, rowJ idX X, fun l => X.ef l⟩ : ChD) = X
  rw [e]
theorem idX_right (X : ChD) : joinX X idX = X := by
  have e : rowJ X idX = X.rf := funext fun d => by
    show (X.rf d).flatMap (fun d => [d]) = X.rf d
    induction X.rf d with
    | nil => rfl
    | cons x l ih =>
      rw [List.flatMap_cons, ih]
      rfl
  show (⟨fun z => X.pf z, rowJ X idX, fun l => X.ef l⟩ : ChD) = X
  rw [e]
def tPlain31 (K : PySem.W.Frag) (CD CC CB : Addr) : TS := fun D σ H => ∃ (b x1 x2 x3 c1 c2 : Addr) (A M N : DkD) (X Y : ChD) (v0 v1 v2 v3 v4 v5 v6 v7 v8 v10 v11 v12 v14 v16 : Option V), σ = [v0, v1, v2, v3, v4, v5, v6, v7, v8, some (.ref b), v10, v11, v12, some (.ref c1), v14, some (.ref c2), v16] ∧ BkOb K CD CC CB H b [x1, x2, x3] [c1, c2] [A, M, N] [X, Y] ∧ X.Ok A M ∧ Y.Ok M N ∧
  ∀ G, Sm H G → D.nx [v0, v1, v2, v3, v4, v5, v6, v7, v8, some (.ref b), v10, v11, v12, some (.ref c1), v14, some (.ref c2), v16] G
section
variable {P : Program} {w : World} {K : PySem.W.Frag} {mg : Str → Option Value} {base : Heap} {f c CD CC CB CL CT : Addr} {A : Around} {outer : List Env} {s : Shared} {H0 : Hp} {E : XK}
theorem ps_plain31 (hr : Room 12 (LX31 P w K mg base f (.ref c) A outer s H0 E).A) (TBk : BkC K mg CB) (EC_ : EqC K CC) (QC : Eqx P w K mg base CC 3 (spChE K CD CC)) (PBd : Px P w K mg base CB 1 "desks" nSelf (spBkD CB))
    (GJ : Fx P w K mg base (L2.CX P w) 7 "joined" ["first", "second"] (spJo K CD CC CL CT)) (GP : Fx P w K mg base CX0 7 "plain_change" ["desk"] (spPc K CD CC)) :
    PS (LX31 P w K mg base f (.ref c) A outer s H0 E) (ith (inS lawTurn) 9) (tPlain31 K CD CC CB) := by
  obtain ⟨fW, dW, FW, kW, gW, bW⟩ := id GJ
  refine ps_weak (ps_if (PW.pt (pw_or (pt_cmpR (op_neX QC EC_ hr (by decide)) (by exact (pe_call FW (hr.mono (by decide)) rfl gW kW bW .nil pass0X (pa_cons (by exact (pe_fx GP hr (by decide) rfl (pa_cons (by exact (pe_ix ix_tup (by exact (pe_px PBd (pv 9) TBk.cl hr (by decide) rfl)) pe_int (fun _ _ => rfl))) pa_nil))) (pa_cons (pv 13) pa_nil)))) (pv 13) (nomark _))
      (pw_or1 (pt_cmpR (op_neX QC EC_ hr (by decide)) (by exact (pe_call FW (hr.mono (by decide)) rfl gW kW bW .nil pass0X (pa_cons (pv 13) (pa_cons (by exact (pe_fx GP hr (by decide) rfl (pa_cons (by exact (pe_ix ix_tup (by exact (pe_px PBd (pv 9) TBk.cl hr (by decide) rfl)) pe_int (fun _ _ => rfl))) pa_nil))) pa_nil)))) (pv 13) (nomark _))))) (pss_one (ps_ret pe_bl)) pss_nil) (fun D σ H h => ?_)
  obtain ⟨b, x1, x2, x3, c1, c2, A, M, N, X, Y, v0, v1, v2, v3, v4, v5, v6, v7, v8, v10, v11, v12, v14, v16, rfl, ob, k1, k2, q⟩ := h
  obtain ⟨dx, d, cc, w1, w2, hb, hd, dsa, hc, chs⟩ := id ob
  obtain ⟨_, e1, o1⟩ := pair_at dsa (j := 0) rfl
  obtain ⟨_, e2, o2⟩ := pair_at dsa (j := 1) rfl
  obtain ⟨_, e4, o4⟩ := pair_at chs (j := 0) rfl
  cases Option.some.inj e1
  cases Option.some.inj e2
  cases Option.some.inj e4
  have iD := o1.2
  have iM := o2.2
  have o4 : ChOb K CD CC H c1 A M X := o4
  have none_ : ∀ {d : Str}, ¬ A.ds[A.ds.length]? = some d := fun {d} e => absurd (List.getElem?_eq_some_iff.mp e).1 (Nat.lt_irrefl _)
  have r1 : rowJ idX X = X.rf := congrArg ChD.rf (idX_left X)
  have r2 : rowJ X idX = X.rf := congrArg ChD.rf (idX_right X)
  refine ⟨_, rfl, b, dx, _, rfl, hb, b, dx, d, cc, w1, w2, rfl, hb, d, _, 0, .ref x1, rfl, rfl, hd, rfl, x1, A, rfl, o1.1, iD, fun l1 G1 m1 ol1 => ⟨_, rfl, l1, c1, A, A, A, M, idX, X, rfl, ol1, o4.sm m1, idX_ok, k1, iD, iD, iD, iM, .inr ⟨rfl, A.ds.length, fun j e he _ => by rw [r1]; exact (k1.r e (List.mem_of_getElem? he)).1, fun d hd => absurd hd none_, fun _ j1 G2 m2 oj1 => ?_⟩⟩⟩
  rw [idX_left] at oj1
  have m12 := m1.trans m2
  obtain ⟨_, _, _, _, _, _, _, hj1, _⟩ := id oj1
  obtain ⟨_, _, _, _, _, _, _, hc1, _⟩ := id (o4.sm m12)
  refine ⟨_, rfl, j1, _, _, rfl, hj1, .own hc1, j1, c1, A, M, X, rfl, oj1, o4.sm m12, iD, iM, fun G3 m3 => ⟨_, rfl, _, rfl, ?_⟩⟩
  have m13 := m12.trans m3
  refine iteF ⟨_, rfl, _, rfl, b, dx, _, rfl, m13 _ _ hb, b, dx, d, cc, w1, w2, rfl, m13 _ _ hb, d, _, 1, .ref x2, rfl, rfl, SqT.sm hd m13, rfl, x2, M, rfl, o2.1.sm m13, iM, fun l2 G4 m4 ol2 => ⟨c1, l2, A, M, M, M, X, idX, rfl, (o4.sm m13).sm m4, ol2, k1, idX_ok, iD, iM, iM, iM, .inr ⟨rfl, A.ds.length, fun j e he _ => by rw [r2]; exact (k1.r e (List.mem_of_getElem? he)).1, fun d hd => absurd hd none_, fun _ j2 G5 m5 oj2 => ?_⟩⟩⟩
  rw [idX_right] at oj2
  have m15 := m13.trans (m4.trans m5)
  obtain ⟨_, _, _, _, _, _, _, hj2, _⟩ := id oj2
  obtain ⟨_, _, _, _, _, _, _, hc2, _⟩ := id (o4.sm m15)
  refine ⟨_, rfl, j2, _, _, rfl, hj2, .own hc2, j2, c1, A, M, X, rfl, oj2, o4.sm m15, iD, iM, fun G6 m6 => ⟨_, rfl, _, rfl, ?_⟩⟩
  exact iteF (q _ (m15.trans m6))
end
end Dk
set_option Elab.async false
set_option linter.all false
set_option maxRecDepth 100000
set_option maxHeartbeats 16000000
namespace Dk
open PySem PySem.Spec PyProof.Rows L2 Er LamX NdefX CmX
open PySem.ErK (EC)
/-! ### the two smaller books -/
def tMake31 (K : PySem.W.Frag) (CD CC CB : Addr) : TS := fun D σ H => ∃ (b x1 x2 x3 c1 c2 : Addr) (A M N : DkD) (X Y : ChD) (v0 v1 v2 v3 v4 v5 v6 v7 v8 v10 v11 v12 v14 v15 v16 : Option V), σ = [v0, v1, v2, v3, v4, v5, v6, v7, v8, some (.ref b), v10, v11, v12, some (.ref c1), v14, v15, v16] ∧ BkOb K CD CC CB H b [x1, x2, x3] [c1, c2] [A, M, N] [X, Y] ∧
  ∀ (sm b1 b2 : Addr) (G : Hp), Sm H G → G sm = some (.lst [.ref b1, .ref b2]) → SmB K CD CC CB G b1 → SmB K CD CC CB G b2 → D.nx [v0, v1, v2, v3, v4, v5, v6, v7, v8, some (.ref b), v10, v11, some (.ref sm), some (.ref c1), v14, v15, v16] G
section
variable {P : Program} {w : World} {K : PySem.W.Frag} {mg : Str → Option Value} {base : Heap} {f c CD CC CB : Addr} {A : Around} {outer : List Env} {s : Shared} {H0 : Hp} {E : XK}
theorem ps_make31 (hr : Room 12 (LX31 P w K mg base f (.ref c) A outer s H0 E).A) (TBk : BkC K mg CB) (PBd : Px P w K mg base CB 1 "desks" nSelf (spBkD CB)) (GB : Cx_ P w K mg base CX0 CB 5 "Book" nBkI (spBkI K CD CC CB)) :
    PS (LX31 P w K mg base f (.ref c) A outer s H0 E) (ith (inS lawTurn) 12) (tMake31 K CD CC CB) := by
  refine ps_weak (ps_set (i := 12) scLaw31.nd rfl (.inl rfl) (by exact (pe_lst (pa_cons (by exact (pe_cx GB hr (by decide) rfl (pa_cons (by exact (pe_slice sl_tup (by exact (pe_px PBd (pv 9) TBk.cl hr (by decide) rfl)) po_none (po_some pe_int))) (pa_cons (pe_lst pa_nil) pa_nil))))
      (pa_cons (by exact (pe_cx GB hr (by decide) rfl (pa_cons (by exact (pe_slice sl_tup (by exact (pe_px PBd (pv 9) TBk.cl hr (by decide) rfl)) po_none (po_some pe_int))) (pa_cons (by exact (pe_lst (pa_cons (pv 13) pa_nil))) pa_nil)))) pa_nil))))) (fun D σ H h => ?_)
  obtain ⟨b, x1, x2, x3, c1, c2, A, M, N, X, Y, v0, v1, v2, v3, v4, v5, v6, v7, v8, v10, v11, v12, v14, v15, v16, rfl, ob, q⟩ := h
  have sz : ∀ n : Nat, n ≤ 1000 → n ≤ sizeLine := fun n z => by
    rw [sizeLine_eq]
    omega
  obtain ⟨dx, d, cc, w1, w2, hb, hd, dsa, hc, chs⟩ := id ob
  obtain ⟨_, e1, o1⟩ := pair_at dsa (j := 0) rfl
  obtain ⟨_, e2, o2⟩ := pair_at dsa (j := 1) rfl
  obtain ⟨_, e4, o4⟩ := pair_at chs (j := 0) rfl
  cases Option.some.inj e1
  cases Option.some.inj e2
  cases Option.some.inj e4
  have o4 : ChOb K CD CC H c1 A M X := o4
  have q1 : cutV [V.ref x1, .ref x2, .ref x3] none (some (1 : Int)) = [.ref x1] := rfl
  have q2 : cutV [V.ref x1, .ref x2, .ref x3] none (some (2 : Int)) = [.ref x1, .ref x2] := rfl
  refine ⟨_, rfl, b, dx, _, rfl, hb, b, dx, d, cc, w1, w2, rfl, hb, _, rfl, d, _, rfl, hd, (by show ¬ (HT.sIx 3 0 none = 0 ∧ HT.sIx 3 3 (some 1) = 3); decide), fun t1 nt1 => ?_⟩
  rw [show cutV (List.map V.ref [x1, x2, x3]) none (some (1 : Int)) = [.ref x1] from q1]
  have a1 := Sm.new (o := .tup [.ref x1]) nt1
  have g1 : upd H t1 (.tup [.ref x1]) t1 = some (.tup [.ref x1]) := upd_same
  generalize upd H t1 (.tup [.ref x1]) = G1 at a1 g1 ⊢
  refine ⟨sz _ (by show 0 ≤ 1000; decide), fun l1 nl1 => ?_⟩
  have a2 := Sm.new (o := .lst []) nl1
  have g2 : upd G1 l1 (.lst []) l1 = some (.lst []) := upd_same
  have g12 := a2 _ _ g1
  have m2 := a1.trans a2
  generalize upd G1 l1 (.lst []) = G2 at a2 g2 g12 m2 ⊢
  intro bb dbb nb ndb ne
  have mN := new2 (o := .own bb) (u := .ins CB dbb []) nb ndb
  have mm := m2.trans mN
  refine ⟨bb, dbb, t1, l1, [x1], [], [A], [], rfl, upd_same, .inr (.inl (.inl (mN _ _ g12))), .cons ⟨o1.1.sm mm, o1.2⟩ .nil, (by show 1 ≤ 1; decide), (by show 1 ≤ 3; decide), .inl (.inl (mN _ _ g2)), .nil, rfl, fun H3 sx okb => ⟨rfl, ?_⟩⟩
  have m3 := m2.trans (make_sm nb ndb sx)
  have s1 : SmB K CD CC CB H3 bb := ⟨_, _, _, _, okb, rfl, (by show 1 ≠ 3; decide), (by show 1 ≤ 3; decide)⟩
  refine ⟨_, rfl, b, dx, _, rfl, m3 _ _ hb, b, dx, d, cc, w1, w2, rfl, m3 _ _ hb, _, rfl, d, _, rfl, SqT.sm hd m3, (by show ¬ (HT.sIx 3 0 none = 0 ∧ HT.sIx 3 3 (some 2) = 3); decide), fun t2 nt2 => ?_⟩
  rw [show cutV (List.map V.ref [x1, x2, x3]) none (some (2 : Int)) = [.ref x1, .ref x2] from q2]
  have a4 := Sm.new (o := .tup [.ref x1, .ref x2]) nt2
  have g4 : upd H3 t2 (.tup [.ref x1, .ref x2]) t2 = some (.tup [.ref x1, .ref x2]) := upd_same
  generalize upd H3 t2 (.tup [.ref x1, .ref x2]) = G4 at a4 g4 ⊢
  refine ⟨_, rfl, sz _ (by show 1 ≤ 1000; decide), fun l2 nl2 => ?_⟩
  have a5 := Sm.new (o := .lst [.ref c1]) nl2
  have g5 : upd G4 l2 (.lst [.ref c1]) l2 = some (.lst [.ref c1]) := upd_same
  have g45 := a5 _ _ g4
  have m45 := a4.trans a5
  generalize upd G4 l2 (.lst [.ref c1]) = G5 at a5 g5 g45 m45 ⊢
  have m5 := m3.trans m45
  intro b2 db2 nb2 ndb2 ne2
  have mN2 := new2 (o := .own b2) (u := .ins CB db2 []) nb2 ndb2
  have mm2 := m5.trans mN2
  refine ⟨b2, db2, t2, l2, [x1, x2], [c1], [A, M], [X], rfl, upd_same, .inr (.inl (.inl (mN2 _ _ g45))), .cons ⟨o1.1.sm mm2, o1.2⟩ (.cons ⟨o2.1.sm mm2, o2.2⟩ .nil), (by show 1 ≤ 2; decide), (by show 2 ≤ 3; decide), .inl (.inl (mN2 _ _ g5)), .cons (o4.sm mm2) .nil, rfl, fun H6 sx2 okb2 => ⟨rfl, ?_⟩⟩
  have mF := make_sm nb2 ndb2 sx2
  have s2 : SmB K CD CC CB H6 b2 := ⟨_, _, _, _, okb2, rfl, (by show 2 ≠ 3; decide), (by show 2 ≤ 3; decide)⟩
  have s1' : SmB K CD CC CB H6 bb := s1.nx (nx_of (m45.trans mF))
  refine ⟨sz _ (by show 2 ≤ 1000; decide), fun sm nsm => ?_⟩
  have a7 := Sm.new (o := .lst [.ref bb, .ref b2]) nsm
  exact q sm bb b2 _ ((m5.trans mF).trans a7) upd_same (s1'.nx (nx_of a7)) (s2.nx (nx_of a7))
end
end Dk
set_option Elab.async false
set_option linter.all false
set_option maxRecDepth 100000
set_option maxHeartbeats 16000000
namespace Dk
open PySem PySem.Spec PyProof.Rows L2 Er LamX NdefX CmX
open PySem.ErK (EC)
/-! ### the changes are still what was drawn -/
def RawX (H : Hp) (r : Addr) (D E : DkD) (X : ChD) : Prop := ∃ (pl rw ey : Addr) (k2 k3 : List Str) (ws : List Addr), RawC H r pl rw ey k2 k3 ws D E X
theorem RawX.sm {H G : Hp} {r : Addr} {D E : DkD} {X : ChD} (h : RawX H r D E X) (m : Sm H G) : RawX G r D E X := by
  obtain ⟨pl, rw, ey, k2, k3, ws, c⟩ := h
  exact ⟨pl, rw, ey, k2, k3, ws, c.sm m⟩
theorem RawX.nx {H G : Hp} {r : Addr} {D E : DkD} {X : ChD} (h : RawX H r D E X) (m : Nx H G) : RawX G r D E X := by
  obtain ⟨pl, rw, ey, k2, k3, ws, c⟩ := h
  exact ⟨pl, rw, ey, k2, k3, ws, c.nx m⟩
def tEnd31 (K : PySem.W.Frag) (CD CC : Addr) : TS := fun D σ H => ∃ (raw r1 r2 c1 c2 : Addr) (A M N : DkD) (X Y : ChD) (v0 v1 v2 v3 v5 v6 v7 v8 v9 v10 v11 v12 v14 v16 : Option V), σ = [v0, v1, v2, v3, some (.ref raw), v5, v6, v7, v8, v9, v10, v11, v12, some (.ref c1), v14, some (.ref c2), v16] ∧
  H raw = some (.lst [.ref r1, .ref r2]) ∧ RawX H r1 A M X ∧ RawX H r2 M N Y ∧ ChOb K CD CC H c1 A M X ∧ ChOb K CD CC H c2 M N Y ∧ X.Ok A M ∧ Y.Ok M N ∧ A.Is ∧ M.Is ∧ N.Is ∧
  ∀ G, Sm H G → D.nx [v0, v1, v2, v3, some (.ref raw), v5, v6, v7, v8, v9, v10, v11, v12, some (.ref c1), v14, some (.ref c2), v16] G
section
variable {P : Program} {w : World} {K : PySem.W.Frag} {mg : Str → Option Value} {base : Heap} {f c CD CC : Addr} {A : Around} {outer : List Env} {s : Shared} {H0 : Hp} {E : XK}
theorem ps_end31 (hr : Room 12 (LX31 P w K mg base f (.ref c) A outer s H0 E).A) (GS : Fx P w K mg base CX0 3 "_law_same" ["_law_change_here", "_law_raw"] (spSame31 K CD CC)) :
    PS (LX31 P w K mg base f (.ref c) A outer s H0 E) (ith (inS lawTurn) 14) (tEnd31 K CD CC) := by
  refine ps_weak (ps_if (PW.pt (pw_or (pt_not (pt_val (by exact (pe_fx GS hr (by decide) rfl (pa_cons (pv 13) (pa_cons (by exact (pe_ix ix_list (pv 4) pe_int (fun _ _ => rfl))) pa_nil)))) (fun _ => rfl)))
      (pw_or1 (pt_not (pt_val (by exact (pe_fx GS hr (by decide) rfl (pa_cons (pv 15) (pa_cons (by exact (pe_ix ix_list (pv 4) pe_int (fun _ _ => rfl))) pa_nil)))) (fun _ => rfl)))))) (pss_one (ps_ret pe_bl)) pss_nil) (fun D σ H h => ?_)
  obtain ⟨raw, r1, r2, c1, c2, A, M, N, X, Y, v0, v1, v2, v3, v5, v6, v7, v8, v9, v10, v11, v12, v14, v16, rfl, hraw, x1, x2, o1, o2, k1, k2, iA, iM, iN, q⟩ := h
  obtain ⟨pl, rw_, ey, k3, k4, ws, d1⟩ := x1
  obtain ⟨pl2, rw2, ey2, k5, k6, ws2, d2⟩ := x2
  refine ⟨_, rfl, _, rfl, raw, _, 0, .ref r1, rfl, rfl, .inl (.inl hraw), rfl, c1, r1, pl, rw_, ey, k3, k4, ws, A, M, X, rfl, o1, d1, k1, iA, iM, fun G1 m1 => ?_⟩
  refine ⟨_, rfl, iteF ⟨_, rfl, _, rfl, raw, _, 1, .ref r2, rfl, rfl, .inl (.inl (m1 _ _ hraw)), rfl, c2, r2, pl2, rw2, ey2, k5, k6, ws2, M, N, Y, rfl, o2.sm m1, d2.sm m1, k2, iM, iN, fun G2 m2 => ⟨_, rfl, iteF ?_⟩⟩⟩
  exact q _ (m1.trans m2)
end
end Dk
set_option Elab.async false
set_option linter.all false
set_option maxRecDepth 100000
set_option maxHeartbeats 16000000
namespace Dk
open PySem PySem.Spec PyProof.Rows L2 Er LamX NdefX CmX
open PySem.ErK (EC)
/-! ### the book, and the joined change -/
def DkX (H : Hp) (u : Addr) (D : DkD) : Prop := (∃ nm dd sg as, DkL H u nm dd sg D as) ∧ D.Is
theorem DkP.dk {p : Addr} {H : Hp} {u : Addr} {D : DkD} (h : DkP p H u D) : DkX H u D := by
  obtain ⟨nm, dd, sg, as, h1, h2, _⟩ := h
  exact ⟨⟨nm, dd, sg, as, h1⟩, h2⟩
theorem DkX.sm {H G : Hp} {u : Addr} {D : DkD} (h : DkX H u D) (m : Sm H G) : DkX G u D := by
  obtain ⟨⟨nm, dd, sg, as, h1⟩, h2⟩ := h
  exact ⟨⟨nm, dd, sg, as, h1.sm m⟩, h2⟩
def tBook31 (K : PySem.W.Frag) (CD CC CB : Addr) : TS := fun D σ H => ∃ (dl raw wd a1 a2 a3 r1 r2 : Addr) (A M N : DkD) (X Y : ChD) (v0 v1 v2 v5 v6 v7 v9 v10 v11 v12 v13 v14 v15 v16 : Option V), σ = [v0, v1, v2, some (.ref dl), some (.ref raw), v5, v6, v7, some (.ref wd), v9, v10, v11, v12, v13, v14, v15, v16] ∧
  H wd = some (.lst [.ref dl, .ref raw]) ∧ H dl = some (.lst [.ref a1, .ref a2, .ref a3]) ∧ H raw = some (.lst [.ref r1, .ref r2]) ∧ DkX H a1 A ∧ DkX H a2 M ∧ DkX H a3 N ∧ RawX H r1 A M X ∧ RawX H r2 M N Y ∧ X.Ok A M ∧ Y.Ok M N ∧
  ∀ (b tl x1 x2 x3 c1 c2 pl rw ey : Addr) (k3 : List Str) (ws : List Addr) (G : Hp), Sm H G → BkOb K CD CC CB G b [x1, x2, x3] [c1, c2] [A, M, N] [X, Y] → RawC G tl pl rw ey A.ds k3 ws A N (joinX X Y) → D.nx [v0, v1, v2, some (.ref dl), some (.ref raw), v5, v6, v7, some (.ref wd), some (.ref b), some (.ref tl), v11, v12, v13, v14, v15, v16] G
section
variable {P : Program} {w : World} {K : PySem.W.Frag} {mg : Str → Option Value} {base : Heap} {f c CD CC CB : Addr} {A : Around} {outer : List Env} {s : Shared} {H0 : Hp} {E : XK}
theorem ps_book31 (hr : Room 12 (LX31 P w K mg base f (.ref c) A outer s H0 E).A) (GK : Fx P w K mg base CX0 7 "_law_book" ["_law_world"] (spBook31 K CD CC CB)) (GN : Fx P w K mg base CX0 2 "_law_joined" ["_law_first", "_law_second", "_law_elder", "_law_newest"] spJoined31) :
    PS (LX31 P w K mg base f (.ref c) A outer s H0 E) (ith (inS lawTurn) 5) (tBook31 K CD CC CB) := by
  refine ps_weak (ps_asg (by exact (pe_tup (pa_cons (by exact (pe_fx GK hr (by decide) rfl (pa_cons (pv 8) pa_nil))) (pa_cons (by exact (pe_fx GN hr (by decide) rfl (pa_cons (by exact (pe_ix ix_list (pv 4) pe_int (fun _ _ => rfl))) (pa_cons (by exact (pe_ix ix_list (pv 4) pe_int (fun _ _ => rfl))) (pa_cons (by exact (pe_ix ix_list (pv 3) pe_int (fun _ _ => rfl))) (pa_cons (by exact (pe_ix ix_list (pv 3) pe_int (fun _ _ => rfl))) pa_nil)))))) pa_nil))))
    (pg_tup rfl (pgs_cons (pg_name (i := 9) scLaw31.nd rfl (.inl rfl)) (pgs_cons (pg_name (i := 10) scLaw31.nd rfl (.inr rfl)) pgs_nil)))) (fun D σ H h => ?_)
  obtain ⟨dl, raw, wd, a1, a2, a3, r1, r2, A, M, N, X, Y, v0, v1, v2, v5, v6, v7, v9, v10, v11, v12, v13, v14, v15, v16, rfl, hwd, hdl, hraw, d1, d2, d3, x1, x2, k1, k2, q⟩ := h
  have sz : ∀ n : Nat, n ≤ 1000 → n ≤ sizeLine := fun n z => by
    rw [sizeLine_eq]
    omega
  refine ⟨_, rfl, wd, dl, raw, [a1, a2, a3], [r1, r2], [A, M, N], [X, Y], rfl, hwd, hdl, .cons d1 (.cons d2 (.cons d3 .nil)), hraw, .cons ⟨x1, k1⟩ (.cons ⟨x2, k2⟩ .nil), rfl, (by show 3 ≤ 3; decide), fun b xs cs G1 m1 ob => ?_⟩
  obtain ⟨dx, d, cc, w1, w2, hb, hd, dsa, hc, chs⟩ := id ob
  obtain ⟨y1, y2, y3, rfl⟩ : ∃ y1 y2 y3, xs = [y1, y2, y3] := by
    match xs, paired_len dsa with
    | [y1, y2, y3], _ => exact ⟨y1, y2, y3, rfl⟩
  obtain ⟨c1, c2, rfl⟩ : ∃ c1 c2, cs = [c1, c2] := by
    match cs, paired_len chs with
    | [c1, c2], _ => exact ⟨c1, c2, rfl⟩
  obtain ⟨pl1, rw1, ey1, j1, j2, s1, cc1⟩ := x1.sm m1
  obtain ⟨pl2, rw2, ey2, j3, j4, s2, cc2⟩ := x2.sm m1
  obtain ⟨⟨nm1, dd1, sg1, as1, l1⟩, iA⟩ := d1.sm m1
  obtain ⟨⟨nm3, dd3, sg3, as3, l3⟩, iN⟩ := d3.sm m1
  have SR : SqL K G1 raw [.ref r1, .ref r2] := .inl (.inl (m1 _ _ hraw))
  have SD : SqL K G1 dl [.ref a1, .ref a2, .ref a3] := .inl (.inl (m1 _ _ hdl))
  refine ⟨_, rfl, raw, _, 0, .ref r1, rfl, rfl, SR, rfl, _, rfl, raw, _, 1, .ref r2, rfl, rfl, SR, rfl, _, rfl, dl, _, 0, .ref a1, rfl, rfl, SD, rfl, _, rfl, dl, _, 2, .ref a3, rfl, rfl, SD, rfl, r1, pl1, rw1, ey1, r2, pl2, rw2, ey2, a1, nm1, dd1, sg1, a3, nm3, dd3, sg3, j1, j2, j3, j4, s1, s2, as1, as3, A, M, N, X, Y, rfl, cc1, cc2, k1, k2, l1, l3, iA, d2.2, iN, fun tl pl rw_ ey k3 ws G2 m2 _ rc => ?_⟩
  refine ⟨sz _ (by show 2 ≤ 1000; decide), fun tp ntp => ?_⟩
  have ap := Sm.new (o := .tup [.ref b, .ref tl]) ntp
  exact ⟨tp, _, rfl, .inl (.inl upd_same), rfl, _, _, rfl, _, _, rfl, rfl, q b tl y1 y2 y3 c1 c2 pl rw_ ey k3 ws _ ((m1.trans m2).trans ap) ((ob.sm m2).sm ap) (rc.sm ap)⟩
end
end Dk
set_option Elab.async false
set_option linter.all false
set_option maxRecDepth 100000
set_option maxHeartbeats 16000000
namespace Dk
open PySem PySem.Spec PyProof.Rows L2 Er LamX NdefX CmX
open PySem.ErK (EC)
/-! ### the book's two changes; what is right without the middle -/
def tParts31 (K : PySem.W.Frag) (CD CC CB : Addr) : TS := fun D σ H => ∃ (b x1 x2 x3 c1 c2 : Addr) (A M N : DkD) (X Y : ChD) (v0 v1 v2 v3 v4 v5 v6 v7 v8 v10 v11 v12 v13 v14 v15 v16 : Option V), σ = [v0, v1, v2, v3, v4, v5, v6, v7, v8, some (.ref b), v10, v11, v12, v13, v14, v15, v16] ∧ BkOb K CD CC CB H b [x1, x2, x3] [c1, c2] [A, M, N] [X, Y] ∧
  D.nx [v0, v1, v2, v3, v4, v5, v6, v7, v8, some (.ref b), v10, v11, v12, some (.ref c1), v14, some (.ref c2), v16] H
def tRight31 (K : PySem.W.Frag) (CD CC CB : Addr) (T : List NTab) : TS := fun D σ H => ∃ (b tl lg pl rw ey : Addr) (xs cs : List Addr) (k3 : List Str) (ws : List Addr) (A M N : DkD) (X Y : ChD) (v0 v1 v2 v3 v4 v5 v6 v7 v8 v12 v13 v14 v15 v16 : Option V), σ = [v0, v1, v2, v3, v4, v5, v6, v7, v8, some (.ref b), some (.ref tl), some (.ref lg), v12, v13, v14, v15, v16] ∧
  BkOb K CD CC CB H b xs cs [A, M, N] [X, Y] ∧ X.Ok A M ∧ Y.Ok M N ∧ RawC H tl pl rw ey A.ds k3 ws A N (joinX X Y) ∧ H lg = some (.lst ((longJ X Y A).map V.str)) ∧ TabsN T H ∧
  ∀ G, Nx H G → TabsN T G → D.nx [v0, v1, v2, v3, v4, v5, v6, v7, v8, some (.ref b), some (.ref tl), some (.ref lg), v12, v13, v14, v15, v16] G
section
variable {P : Program} {w : World} {K : PySem.W.Frag} {mg : Str → Option Value} {base : Heap} {f c CD CC CB : Addr} {A : Around} {outer : List Env} {s : Shared} {H0 : Hp} {E : XK} {T : List NTab}
theorem ps_parts31 (hr : Room 12 (LX31 P w K mg base f (.ref c) A outer s H0 E).A) (TBk : BkC K mg CB) (PBc : Px P w K mg base CB 1 "changes" nSelf (spBkC CB)) : PS (LX31 P w K mg base f (.ref c) A outer s H0 E) (ith (inS lawTurn) 6) (tParts31 K CD CC CB) := by
  refine ps_weak (ps_asg (by exact (pe_px PBc (pv 9) TBk.cl hr (by decide) rfl)) (pg_tup rfl (pgs_cons (pg_name (i := 13) scLaw31.nd rfl (.inr rfl)) (pgs_cons (pg_name (i := 15) scLaw31.nd rfl (.inr rfl)) pgs_nil)))) (fun D σ H h => ?_)
  obtain ⟨b, x1, x2, x3, c1, c2, A, M, N, X, Y, v0, v1, v2, v3, v4, v5, v6, v7, v8, v10, v11, v12, v13, v14, v15, v16, rfl, ob, q⟩ := h
  obtain ⟨dx, d, cc, w1, w2, hb, hd, dsa, hc, chs⟩ := id ob
  exact ⟨_, rfl, b, dx, _, rfl, hb, b, dx, d, cc, w1, w2, rfl, hb, cc, _, rfl, hc, rfl, _, _, rfl, _, _, rfl, rfl, q⟩
theorem ps_right31 (hr : Room 13 (LX31 P w K mg base f (.ref c) A outer s H0 E).A) (GM : Fx P w K mg base CX0 12 "_law_middle_right" ["_law_book_here", "_law_told", "_law_long"] (spMr K CD CC CB T)) : PS (LX31 P w K mg base f (.ref c) A outer s H0 E) (ith (inS lawTurn) 8) (tRight31 K CD CC CB T) := by
  refine ps_weak (ps_if (pt_not (pt_val (by exact (pe_fx GM hr (by decide) rfl (pa_cons (pv 9) (pa_cons (pv 10) (pa_cons (pv 11) pa_nil))))) (fun _ => rfl))) (pss_one (ps_ret pe_bl)) pss_nil) (fun D σ H h => ?_)
  obtain ⟨b, tl, lg, pl, rw_, ey, xs, cs, k3, ws, A, M, N, X, Y, v0, v1, v2, v3, v4, v5, v6, v7, v8, v12, v13, v14, v15, v16, rfl, ob, k1, k2, rc, hlg, hT, q⟩ := h
  exact ⟨_, rfl, _, rfl, _, rfl, b, tl, lg, pl, rw_, ey, xs, cs, k3, ws, A, M, N, X, Y, rfl, ob, k1, k2, rc, hlg, hT, fun G n T1 => ⟨_, rfl, iteF (q G n T1)⟩⟩
end
end Dk
set_option Elab.async false
set_option linter.all false
set_option maxRecDepth 100000
set_option maxHeartbeats 16000000
namespace Dk
open PySem PySem.Spec PyProof.Rows L2 Er LamX NdefX CmX
open PySem.ErK (EC)
/-! ### one lap of the law -/
theorem DkX.nx {H G : Hp} {u : Addr} {D : DkD} (h : DkX H u D) (m : Nx H G) : DkX G u D := by
  obtain ⟨⟨nm, dd, sg, as, h1, h2, h3, h4, h5⟩, h6⟩ := h
  exact ⟨⟨nm, dd, sg, as, m _ _ h1 (fun _ z => nomatch z), m _ _ h2 (fun _ z => nomatch z), m _ _ h3 (fun _ z => nomatch z), m _ _ h4 (fun _ z => nomatch z), pair_mono h5 fun a _ vs e => m _ _ e (fun _ z => nomatch z)⟩, h6⟩
theorem Pen.nx {H G : Hp} {p g : Addr} (h : Pen H p g) (m : Nx H G) : Pen G p g := by
  obtain ⟨cs, i, r, n, h1, h2⟩ := h
  exact ⟨cs, i, r, n, m _ _ h1 (fun _ z => nomatch z), m _ _ h2 (fun _ z => nomatch z)⟩
theorem TabsN.x {T : List NTab} {H G : Hp} {p g : Addr} (t : TabsN T H) (pen : Pen H p g) (sx : Sx p H G) : TabsN T G := fun q hq => by
  obtain ⟨ps, h1, h2, h3⟩ := t q hq
  obtain ⟨cs, i, r, gp, hp, hg⟩ := pen
  refine ⟨ps, sx _ _ (fun z => by rw [z, hp] at h1; cases h1) h1, h2, fun pos cv hc => ?_⟩
  obtain ⟨c, e1, e2⟩ := h3 pos cv hc
  exact ⟨c, e1, sx _ _ (fun z => by rw [z, hp] at e2; cases e2) e2⟩
def tLap31 (T : List NTab) : TS := fun D σ H => ∃ (p g : Addr) (v0 v2 v3 v4 v5 v6 v7 v8 v9 v10 v11 v12 v13 v14 v15 v16 : Option V), σ = [v0, some (.ref p), v2, v3, v4, v5, v6, v7, v8, v9, v10, v11, v12, v13, v14, v15, v16] ∧ Pen H p g ∧ TabsN T H ∧
  ∀ (y3 y4 y5 y6 y7 y8 y9 y10 y11 y12 y13 y14 y15 y16 : Option V) (G : Hp), Pen G p g → TabsN T G → (∀ b xs, b ≠ p → H b = some (.lst xs) → G b = some (.lst xs)) → D.nx [v0, some (.ref p), v2, y3, y4, y5, y6, y7, y8, y9, y10, y11, y12, y13, y14, y15, y16] G
section
variable {P : Program} {w : World} {K : PySem.W.Frag} {mg : Str → Option Value} {base : Heap} {f c Pl CD CC CB CL CT CN fL fT fN fO : Addr} {dL dT dN dO : FuncData} {A : Around} {outer : List Env} {s : Shared} {H0 : Hp} {E : XK} {T : List NTab}
theorem ps_world31 : PS (LX31 P w K mg base f (.ref c) A outer s H0 E) (ith (inS lawTurn) 4) (tAsg (tLst (tCons (tVar 3) (tCons (tVar 4) tNil))) (gName 8)) :=
  ps_set (i := 8) scLaw31.nd rfl (.inl rfl) (by exact (pe_lst (pa_cons (pv 3) (pa_cons (pv 4) pa_nil))))
theorem pss_lap31 (TB : TabB base mg c Pl) (hm : (Pl, nmLw) ∈ T) (hu : ∀ p ∈ T, p.1 = Pl → p.2 = nmLw) (hr : Room 13 (LX31 P w K mg base f (.ref c) A outer s H0 E).A)
    (mR : mg "range" = none) (mL : mg "list" = none) (md : mg "dict" = none) (ml : mg "len" = none)
    (GD : Fx P w K mg base CX0 2 "_law_draw" ["_law_pen_here", "_law_bound"] spDraw31) (GO : Fx P w K mg base CX0 3 "_law_one_of" nOne spOne) (GK : Fx P w K mg base CX0 4 "_law_desk" ["_law_pen_here", "_law_most"] spDesk31) (GC : Fx P w K mg base CX0 4 "_law_change" ["_law_pen_here", "_law_elder", "_law_newer"] spChange31)
    (GBk : Fx P w K mg base CX0 7 "_law_book" ["_law_world"] (spBook31 K CD CC CB)) (GN : Fx P w K mg base CX0 2 "_law_joined" ["_law_first", "_law_second", "_law_elder", "_law_newest"] spJoined31) (GM : Fx P w K mg base CX0 12 "_law_middle_right" ["_law_book_here", "_law_told", "_law_long"] (spMr K CD CC CB T)) (GS : Fx P w K mg base CX0 3 "_law_same" ["_law_change_here", "_law_raw"] (spSame31 K CD CC))
    (TBk : BkC K mg CB) (ED : EqC K CD) (EC_ : EqC K CC) (QD : Eqx P w K mg base CD 1 (spEqD K CD)) (QC : Eqx P w K mg base CC 3 (spChE K CD CC)) (PBd : Px P w K mg base CB 1 "desks" nSelf (spBkD CB)) (PBc : Px P w K mg base CB 1 "changes" nSelf (spBkC CB)) (GB : Cx_ P w K mg base CX0 CB 5 "Book" nBkI (spBkI K CD CC CB))
    (GJ : Fx P w K mg base (L2.CX P w) 7 "joined" ["first", "second"] (spJo K CD CC CL CT)) (GW : Fx P w K mg base (L2.CX P w) 8 "without_middle" ["book"] (spWm K CD CC CB CT CN)) (GP : Fx P w K mg base CX0 7 "plain_change" ["desk"] (spPc K CD CC))
    (FO : FnP K "_law_outcome" (top 59) fO dO) (gO : mg "_law_outcome" = some (.ref fO)) (BL : Bad K mg "BadLink" "value" (ini (top 15)) CL fL dL) (BT : Bad K mg "TooLong" "deed" (ini (top 16)) CT fT dT) (BN : Bad K mg "BadNumber" "value" (ini (top 14)) CN fN dN) (EM : Exm K CL CT CN) :
    PSs (LX31 P w K mg base f (.ref c) A outer s H0 E) (inS lawTurn) (tLap31 T) := by
  have hr2 := hr.mono (show 12 ≤ 13 by decide)
  refine pss_weak (pss_cons (ps_desks31 hr2 mR GK) (pss_cons (ps_raw31 hr2 GC) (pss_cons (ps_cutIf hr2 mL GD GO) (pss_cons (ps_revEach hr2 mL md GD) (pss_cons ps_world31 (pss_cons (ps_book31 hr2 GBk GN) (pss_cons (ps_parts31 (CD := CD) (CC := CC) hr2 TBk PBc) (pss_cons (ps_long31 hr2 ml) (pss_cons (ps_right31 hr GM) (pss_cons (ps_plain31 hr2 TBk EC_ QC PBd GJ GP)
    (pss_cons (ps_out10 TB hm hu hr2 TBk ED QD PBd GJ FO gO BL BT BN EM) (pss_cons (ps_out11 TB hm hu hr2 TBk ED QD PBd GJ FO gO BL BT BN EM) (pss_cons (ps_make31 hr2 TBk PBd GB) (pss_cons (ps_small31 TB hm hu hr2 GW FO gO BL BT BN EM) (pss_one (ps_end31 hr2 GS)))))))))))))))) (fun D σ H h => ?_)
  obtain ⟨p, g, v0, v2, v3, v4, v5, v6, v7, v8, v9, v10, v11, v12, v13, v14, v15, v16, rfl, pen, hT, q⟩ := h
  have sz : ∀ n : Nat, n ≤ 1000 → n ≤ sizeLine := fun n z => by
    rw [sizeLine_eq]
    omega
  refine ⟨p, g, _, _, _, _, _, _, _, _, _, _, _, _, _, _, _, _, rfl, pen, fun dl a1 a2 a3 A M N H1 sx1 pen1 dlp hdl d1 d2 d3 => ?_⟩
  refine ⟨p, g, dl, a1, a2, a3, A, M, N, _, _, _, _, _, _, _, _, _, _, _, _, _, _, _, rfl, pen1, dlp, hdl, d1, d2, d3, fun raw u1 pl1 rw1 ey1 u2 pl2 rw2 ey2 X Y H2 R => ?_⟩
  refine ⟨H1, p, g, raw, u1, pl1, rw1, ey1, u2, pl2, rw2, ey2, A, M, N, X, Y, _, _, _, _, _, _, _, _, _, _, _, _, _, _, _, rfl, R, d1.is, d2.is, d3.is, fun w5 w6 w7 X2 Y2 H3 R => ?_⟩
  refine ⟨H1, p, g, raw, u1, pl1, rw1, ey1, u2, pl2, rw2, ey2, A, M, N, X2, Y2, _, _, _, _, _, _, _, _, _, _, _, _, _, _, _, rfl, R, d1.is, d2.is, d3.is, fun w5 r1 r2 H4 R => ?_⟩
  have pen4 := R.pen
  have T4 := Dk.TabsN.x (Dk.TabsN.x hT pen sx1) pen1 R.keep
  have hdl4 := R.keep _ _ dlp hdl
  have hraw4 := R.raw_
  have e1 := (d1.x R.keep).dk
  have e2 := (d2.x R.keep).dk
  have e3 := (d3.x R.keep).dk
  have ok1 := R.ok1
  have ok2 := R.ok2
  have x1 : RawX H4 u1 A M X2 := by
    obtain ⟨_, _, _, z⟩ := R.c1
    exact ⟨_, _, _, _, _, _, z⟩
  have x2 : RawX H4 u2 M N Y2 := by
    obtain ⟨_, _, _, z⟩ := R.c2
    exact ⟨_, _, _, _, _, _, z⟩
  have kp : ∀ b xs, b ≠ p → H b = some (.lst xs) → H4 b = some (.lst xs) := fun b xs n e => R.keep _ _ n (sx1 _ _ n e)
  clear R
  refine ⟨_, rfl, _, rfl, sz _ (by show 2 ≤ 1000; decide), fun wd nwd => ?_⟩
  have m5 := Sm.new (o := .lst [.ref dl, .ref raw]) nwd
  have hwd : upd H4 wd (.lst [.ref dl, .ref raw]) wd = some (.lst [.ref dl, .ref raw]) := upd_same
  show tBook31 K CD CC CB _ _ (upd H4 wd (.lst [.ref dl, .ref raw]))
  generalize upd H4 wd (.lst [.ref dl, .ref raw]) = H5 at m5 hwd ⊢
  refine ⟨dl, raw, wd, a1, a2, a3, u1, u2, A, M, N, X2, Y2, _, _, _, _, _, _, _, _, _, _, _, _, _, _, rfl, hwd, m5 _ _ hdl4, m5 _ _ hraw4, e1.sm m5, e2.sm m5, e3.sm m5, x1.sm m5, x2.sm m5, ok1, ok2, fun b tl b1 b2 b3 c1 c2 pl rw_ ey k3 ws H6 m6 ob rc => ?_⟩
  have m56 := m5.trans m6
  refine ⟨b, b1, b2, b3, c1, c2, A, M, N, X2, Y2, _, _, _, _, _, _, _, _, _, _, _, _, _, _, _, _, rfl, ob, ?_⟩
  obtain ⟨⟨nm, dd, sg, as, dk⟩, iA⟩ := e1.sm m56
  refine ⟨dl, a1, nm, dd, sg, tl, pl, rw_, ey, [.ref a2, .ref a3], as, A, _, A.ds, rowJ X2 Y2, _, _, _, _, _, _, _, _, _, _, _, _, _, _, _, rfl, m56 _ _ hdl4, dk, iA, rc.at_, rc.rw_, RowT.of rc.rs_, fun d hd => ⟨hd, Nat.le_trans (rowJ_len ok1 ok2 hd) (by decide)⟩, fun lg H7 m7 hlg => ?_⟩
  have m57 := m56.trans m7
  refine ⟨b, tl, lg, pl, rw_, ey, _, _, k3, ws, A, M, N, X2, Y2, _, _, _, _, _, _, _, _, _, _, _, _, _, _, rfl, ob.sm m7, ok1, ok2, rc.sm m7, hlg, T4.ext (fun b o e => m57 _ _ e), fun H8 n8 T8 => ?_⟩
  have n48 := Nx.trans (nx_of m57) n8
  have ob8 := (ob.sm m7).nx n8
  refine ⟨b, b1, b2, b3, c1, c2, A, M, N, X2, Y2, _, _, _, _, _, _, _, _, _, _, _, _, _, _, rfl, ob8, ok1, ok2, fun H9 m9 => ?_⟩
  refine ⟨b, b1, b2, b3, c1, c2, A, M, N, X2, Y2, _, _, _, _, _, _, _, _, _, _, _, _, _, _, rfl, ob8.sm m9, ok1, ok2, T8.ext (fun b o e => m9 _ _ e), fun H10 n10 T10 => ?_⟩
  refine ⟨b, b1, b2, b3, c1, c2, A, M, N, X2, Y2, _, _, _, _, _, _, _, _, _, _, _, _, _, _, rfl, (ob8.sm m9).nx n10, ok1, ok2, T10, fun H11 n11 T11 => ?_⟩
  have ob11 := ((ob8.sm m9).nx n10).nx n11
  have n411 := Nx.trans n48 (Nx.trans (nx_of m9) (Nx.trans n10 n11))
  refine ⟨b, b1, b2, b3, c1, c2, A, M, N, X2, Y2, _, _, _, _, _, _, _, _, _, _, _, _, _, _, _, rfl, ob11, fun sm s1 s2 H12 m12 hsm o1 o2 => ?_⟩
  refine ⟨sm, s1, s2, _, _, _, _, _, _, _, _, _, _, _, _, _, _, _, _, rfl, hsm, o1, o2, T11.ext (fun b o e => m12 _ _ e), fun y14 H13 n13 T13 => ?_⟩
  have n413 := Nx.trans n411 (Nx.trans (nx_of m12) n13)
  have ob13 := (ob11.sm m12).nx n13
  obtain ⟨_, _, _, _, _, _, _, _, _, chs⟩ := id ob13
  obtain ⟨_, f1, o4⟩ := pair_at chs (j := 0) rfl
  obtain ⟨_, f2, o5⟩ := pair_at chs (j := 1) rfl
  cases Option.some.inj f1
  cases Option.some.inj f2
  refine ⟨raw, u1, u2, c1, c2, A, M, N, X2, Y2, _, _, _, _, _, _, _, _, _, _, _, _, _, _, rfl, n413 _ _ hraw4 (fun _ z => nomatch z), x1.nx n413, x2.nx n413, o4, o5, ok1, ok2, iA, d2.is, d3.is, fun G m => ?_⟩
  exact q _ _ _ _ _ _ _ _ _ _ _ _ _ _ G ((pen4.nx n413).sm m) (T13.ext fun b o e => m _ _ e) (fun b xs n e => m _ _ (n413 _ _ (kp b xs n e) (fun _ z => nomatch z)))
end
end Dk
set_option Elab.async false
set_option linter.all false
set_option maxRecDepth 100000
set_option maxHeartbeats 16000000
namespace Dk
open PySem PySem.Spec PyProof.Rows L2 Er LamX NdefX CmX
open PySem.ErK (EC)
/-! ### the law -/
def spLaw31 (K : PySem.W.Frag) (T : List NTab) : Sp := fun vs H Q _ => ∃ (a : Addr) (ns : List Int), vs = [.ref a] ∧ SqL K H a (ns.map V.int) ∧ TabsN T H ∧ ∀ H', Q (.bl true) H'
section
variable {P : Program} {w : World} {K : PySem.W.Frag} {mg : Str → Option Value} {base : Heap} {f c Pl CD CC CB CL CT CN fL fT fN fO : Addr} {dL dT dN dO : FuncData} {dV kV doc pm ct oc : Value} {an od : Option Addr} {osl : Array (Option Value)} {T : List NTab}
theorem ok_law31 (lk : K.lookup f = some ⟨oc, od, .func (PySem.W.fnOf "law" "law" (defArgs (top 62)) (defBody (top 62)) (defScope (top 62)) dV kV doc pm an (.ref c) ct), osl⟩) (hcd : PySem.W.codeIn K (.ref c) "law" = true) (TB : TabB base mg c Pl) (hm : (Pl, nmLw) ∈ T) (hu : ∀ p ∈ T, p.1 = Pl → p.2 = nmLw)
    (mx : mg "max" = none) (mm : mg "min" = none) (GP0 : Fx P w K mg base CX0 1 "_law_pen" nPenF (spPen K)) (mR : mg "range" = none) (mL : mg "list" = none) (md : mg "dict" = none) (ml : mg "len" = none)
    (GD : Fx P w K mg base CX0 2 "_law_draw" ["_law_pen_here", "_law_bound"] spDraw31) (GO : Fx P w K mg base CX0 3 "_law_one_of" nOne spOne) (GK : Fx P w K mg base CX0 4 "_law_desk" ["_law_pen_here", "_law_most"] spDesk31) (GC : Fx P w K mg base CX0 4 "_law_change" ["_law_pen_here", "_law_elder", "_law_newer"] spChange31)
    (GBk : Fx P w K mg base CX0 7 "_law_book" ["_law_world"] (spBook31 K CD CC CB)) (GN : Fx P w K mg base CX0 2 "_law_joined" ["_law_first", "_law_second", "_law_elder", "_law_newest"] spJoined31) (GM : Fx P w K mg base CX0 12 "_law_middle_right" ["_law_book_here", "_law_told", "_law_long"] (spMr K CD CC CB T)) (GS : Fx P w K mg base CX0 3 "_law_same" ["_law_change_here", "_law_raw"] (spSame31 K CD CC))
    (TBk : BkC K mg CB) (ED : EqC K CD) (EC_ : EqC K CC) (QD : Eqx P w K mg base CD 1 (spEqD K CD)) (QC : Eqx P w K mg base CC 3 (spChE K CD CC)) (PBd : Px P w K mg base CB 1 "desks" nSelf (spBkD CB)) (PBc : Px P w K mg base CB 1 "changes" nSelf (spBkC CB)) (GB : Cx_ P w K mg base CX0 CB 5 "Book" nBkI (spBkI K CD CC CB))
    (GJ : Fx P w K mg base (L2.CX P w) 7 "joined" ["first", "second"] (spJo K CD CC CL CT)) (GW : Fx P w K mg base (L2.CX P w) 8 "without_middle" ["book"] (spWm K CD CC CB CT CN)) (GP : Fx P w K mg base CX0 7 "plain_change" ["desk"] (spPc K CD CC))
    (FO : FnP K "_law_outcome" (top 59) fO dO) (gO : mg "_law_outcome" = some (.ref fO)) (BL : Bad K mg "BadLink" "value" (ini (top 15)) CL fL dL) (BT : Bad K mg "TooLong" "deed" (ini (top 16)) CT fT dT) (BN : Bad K mg "BadNumber" "value" (ini (top 14)) CN fN dN) (EM : Exm K CL CT CN) :
    FnOk P w K mg base CX0 14 f (PySem.W.fnOf "law" "law" (defArgs (top 62)) (defBody (top 62)) (defScope (top 62)) dV kV doc pm an (.ref c) ct) ["_law_script"] (spLaw31 K T) := by
  refine fn_of (CX := CX0) (N := nLaw31) lk hcd scLaw31 (fun vs H Q E h => ?_) fun A outer s H vs Q E hr h => ?_
  · obtain ⟨a, ns, rfl, _⟩ := h
    rfl
  · refine ⟨_, PSs.nox (pss_cons (ps_set (i := 1) scLaw31.nd rfl (.inr rfl) (by exact (pe_fx GP0 hr (by decide) rfl (pa_cons (pv 0) pa_nil))))
      (pss_cons (ps_for PassesOwn.never rfl (pi_range1 rfl mR (pa_cons (pe_callB (call_max2 rfl) rfl mx PyProof.Rows.boot_max (pa_cons pe_int (pa_cons (pe_callB (call_min2 rfl) rfl mm PyProof.Rows.boot_min (pa_cons pe_int (pa_cons (pe_callB call_len rfl ml boot_len (pa_cons (pv 0) pa_nil)) pa_nil))) pa_nil))) pa_nil)) (pg_name (i := 2) scLaw31.nd rfl (.inl rfl))
        (pss_lap31 TB hm hu hr mR mL md ml GD GO GK GC GBk GN GM GS TBk ED EC_ QD QC PBd PBc GB GJ GW GP FO gO BL BT BN EM) (fun _ => rfl))
      (pss_one (ps_ret pe_bl)))), ?_⟩
    obtain ⟨a, ns, rfl, hS, hT, q⟩ := h
    refine ⟨_, rfl, a, ns, rfl, hS, fun p g G m pen => ?_⟩
    have S1 : SqL K G a (ns.map V.int) := SqL.sm hS m
    have T1 : TabsN T G := hT.ext fun b o e => m _ _ e
    refine ⟨_, rfl, _, _, rfl, .inl ⟨_, S1, rfl⟩, _, _, rfl, _, _, rfl, _, rfl, ?_, ?_, for_range (lo := 0) (fun i σ H' => ∃ v2 y3 y4 y5 y6 y7 y8 y9 y10 y11 y12 y13 y14 y15 y16 : Option V, σ = [some (.ref a), some (.ref p), v2, y3, y4, y5, y6, y7, y8, y9, y10, y11, y12, y13, y14, y15, y16] ∧ Pen H' p g ∧ TabsN T H') ⟨none, none, none, none, none, none, none, none, none, none, none, none, none, none, none, rfl, pen, T1⟩ ?_ ?_⟩
    · split <;> (try split) <;> omega
    · split <;> (try split) <;> omega
    · rintro i σ H' hi ⟨v2, y3, y4, y5, y6, y7, y8, y9, y10, y11, y12, y13, y14, y15, y16, rfl, pen1, T2⟩
      exact ⟨p, g, _, _, _, _, _, _, _, _, _, _, _, _, _, _, _, _, rfl, pen1, T2, fun z3 z4 z5 z6 z7 z8 z9 z10 z11 z12 z13 z14 z15 z16 G2 pen2 T3 _ => ⟨_, z3, z4, z5, z6, z7, z8, z9, z10, z11, z12, z13, z14, z15, z16, rfl, pen2, T3⟩⟩
    · rintro σ G2 ⟨v2, y3, y4, y5, y6, y7, y8, y9, y10, y11, y12, y13, y14, y15, y16, rfl, pen1, T2⟩
      exact q G2
end
end Dk
set_option Elab.async false
set_option linter.all false
set_option maxRecDepth 100000
set_option maxHeartbeats 8000000
namespace Dk
open PySem PySem.Spec PyProof.Rows L2 Er LamX NdefX CmX
/-! ### all that the law's body asks of the program's and its own functions -/
def Has (K : PySem.W.Frag) (mg : Str → Option Value) (x : Str) (st : Stmt) : Prop := ∃ f d, FnP K x st f d ∧ mg x = some (.ref f)
/-- a def whose code object keeps a table -/
def HasT (K : PySem.W.Frag) (mg : Str → Option Value) (base : Heap) (T : List NTab) (x : Str) (st : Stmt) (nm : Nat → Nat → Str) : Prop := ∃ (f c Pp : Addr) (dV kV doc pm ct oc : Value) (an od : Option Addr) (osl : Array (Option Value)), K.lookup f = some ⟨oc, od, .func (PySem.W.fnOf x x (defArgs st) (defBody st) (defScope st) dV kV doc pm an (.ref c) ct), osl⟩ ∧ PySem.W.codeIn K (.ref c) x = true ∧ TabB base mg c Pp ∧
  (Pp, nm) ∈ T ∧ (∀ p ∈ T, p.1 = Pp → p.2 = nm) ∧ FnP K x st f (PySem.W.fnOf x x (defArgs st) (defBody st) (defScope st) dV kV doc pm an (.ref c) ct) ∧ mg x = some (.ref f)
/-- what all classes of the program share -/
structure ClF (K : PySem.W.Frag) (C : Addr) : Prop where
  cl : Cls K C
  ha : PySem.W.findIn K (.ref C) "__class__" = some (some (.builtin "object.__class__"))
  hn : PySem.W.specialIn K (.builtin "object.__class__") "__get__" = some (some (.builtin "getset_descriptor.__get__"))
  htk : PySem.W.takesIn K (.builtin "object.__class__") = some true
  hm : PySem.W.mroIn K C (.type "object") = some true
  kC : PySem.W.kitOne K (.ref C) (.ref C) = some true
  hne : PySem.W.findIn K (.ref C) "__ne__" = some (some (.builtin "object.__ne__"))
  N : ∀ t ∈ eqTypes, PySem.W.notFirst K C (.type t) = true
structure Lk (K : PySem.W.Frag) (mg : Str → Option Value) (base : Heap) (CD CC CB CL CT CN : Addr) (T : List NTab) : Prop where
  h18 : Has K mg "is_name" (top 18)
  h19 : Has K mg "is_one_of" (top 19)
  h20 : Has K mg "are_different" (top 20)
  h21 : Has K mg "is_table" (top 21)
  h22 : Has K mg "first_met" (top 22)
  h27 : Has K mg "are_standings" (top 27)
  h28 : Has K mg "are_deeds" (top 28)
  h29 : Has K mg "is_lead" (top 29)
  h30 : Has K mg "are_sights" (top 30)
  h35 : Has K mg "all_sights" (top 35)
  h36 : Has K mg "are_places" (top 36)
  h37 : Has K mg "are_rows" (top 37)
  h38 : Has K mg "is_change_row" (top 38)
  h39 : Has K mg "are_eyes" (top 39)
  h41 : Has K mg "are_desks" (top 41)
  h42 : Has K mg "are_changes" (top 42)
  h43 : Has K mg "is_change_of" (top 43)
  h45 : Has K mg "plain_change" (top 45)
  h46 : Has K mg "joined" (top 46)
  h47 : Has K mg "joined_row" (top 47)
  h48 : Has K mg "without_middle" (top 48)
  h50 : Has K mg "_law_pen" (top 50)
  h51 : Has K mg "_law_fresh" (top 51)
  h52 : Has K mg "_law_draw" (top 52)
  h53 : Has K mg "_law_one_of" (top 53)
  h54 : Has K mg "_law_desk" (top 54)
  h55 : Has K mg "_law_sights" (top 55)
  h56 : Has K mg "_law_change" (top 56)
  h57 : Has K mg "_law_book" (top 57)
  h58 : Has K mg "_law_joined" (top 58)
  h59 : Has K mg "_law_outcome" (top 59)
  h60 : Has K mg "_law_same" (top 60)
  mi : mg "isinstance" = none
  mn : mg "int" = none
  ms : mg "str" = none
  mL : mg "list" = none
  mT : mg "tuple" = none
  md : mg "dict" = none
  mS : mg "set" = none
  mso : mg "sorted" = none
  ml : mg "len" = none
  ma : mg "all" = none
  mR : mg "range" = none
  mx : mg "max" = none
  mm : mg "min" = none
  me : mg "enumerate" = none
  nMOST_ROW : ∃ t, mg "MOST_ROW" = some (.int 16 t)
  nMOST_DESKS : ∃ t, mg "MOST_DESKS" = some (.int 3 t)
  cDesk : ClF K CD
  gDesk : mg "Desk" = some (.ref CD)
  aDesk_standings : NoAttr K CD "_standings"
  aDesk_leads : NoAttr K CD "_leads"
  aDesk_sights : NoAttr K CD "_sights"
  qDesk : ∃ f d, FunD K "__eq__" "Desk.__eq__" (defArgs (meth 7)) (defBody (meth 7)) (defScope (meth 7)) [] [] f d ∧ PySem.W.findIn K (.ref CD) "__eq__" = some (some (.ref f)) ∧ PySem.W.isFn K (.ref f) = true
  iDesk : ∃ f d, FunD K "__init__" "Desk.__init__" (defArgs (meth 0)) (defBody (meth 0)) (defScope (meth 0)) [] [] f d ∧ Mk K CD f
  mDesk_sight : ∃ f d, FunD K "sight" "Desk.sight" (defArgs (meth 5)) (defBody (meth 5)) (defScope (meth 5)) [] [] f d ∧ Meth K CD "sight" f
  pDesk_standings : ∃ p g d, FunD K "standings" "Desk.standings" (defArgs (meth 1)) (defBody (meth 1)) (defScope (meth 1)) [] [] g d ∧ PropOf K CD "standings" p g
  pDesk_deeds : ∃ p g d, FunD K "deeds" "Desk.deeds" (defArgs (meth 2)) (defBody (meth 2)) (defScope (meth 2)) [] [] g d ∧ PropOf K CD "deeds" p g
  pDesk_start : ∃ p g d, FunD K "start" "Desk.start" (defArgs (meth 3)) (defBody (meth 3)) (defScope (meth 3)) [] [] g d ∧ PropOf K CD "start" p g
  cChange : ClF K CC
  gChange : mg "Change" = some (.ref CC)
  aChange_first : NoAttr K CC "_first"
  aChange_second : NoAttr K CC "_second"
  aChange_places : NoAttr K CC "_places"
  aChange_rows : NoAttr K CC "_rows"
  aChange_eyes : NoAttr K CC "_eyes"
  qChange : ∃ f d, FunD K "__eq__" "Change.__eq__" (defArgs (methC 6)) (defBody (methC 6)) (defScope (methC 6)) [] [] f d ∧ PySem.W.findIn K (.ref CC) "__eq__" = some (some (.ref f)) ∧ PySem.W.isFn K (.ref f) = true
  iChange : ∃ f d, FunD K "__init__" "Change.__init__" (defArgs (methC 0)) (defBody (methC 0)) (defScope (methC 0)) [] [] f d ∧ Mk K CC f
  mChange_carried : ∃ f d, FunD K "carried" "Change.carried" (defArgs (methC 3)) (defBody (methC 3)) (defScope (methC 3)) [] [] f d ∧ Meth K CC "carried" f
  mChange_row : ∃ f d, FunD K "row" "Change.row" (defArgs (methC 4)) (defBody (methC 4)) (defScope (methC 4)) [] [] f d ∧ Meth K CC "row" f
  mChange_eye : ∃ f d, FunD K "eye" "Change.eye" (defArgs (methC 5)) (defBody (methC 5)) (defScope (methC 5)) [] [] f d ∧ Meth K CC "eye" f
  pChange_first : ∃ p g d, FunD K "first" "Change.first" (defArgs (methC 1)) (defBody (methC 1)) (defScope (methC 1)) [] [] g d ∧ PropOf K CC "first" p g
  pChange_second : ∃ p g d, FunD K "second" "Change.second" (defArgs (methC 2)) (defBody (methC 2)) (defScope (methC 2)) [] [] g d ∧ PropOf K CC "second" p g
  cBook : ClF K CB
  gBook : mg "Book" = some (.ref CB)
  aBook_desks : NoAttr K CB "_desks"
  aBook_changes : NoAttr K CB "_changes"
  aBook_last : NoAttr K CB "_last"
  aBook_start : NoAttr K CB "_start"
  qBook : ∃ f d, FunD K "__eq__" "Book.__eq__" (defArgs (methB 5)) (defBody (methB 5)) (defScope (methB 5)) [] [] f d ∧ PySem.W.findIn K (.ref CB) "__eq__" = some (some (.ref f)) ∧ PySem.W.isFn K (.ref f) = true
  iBook : ∃ f d, FunD K "__init__" "Book.__init__" (defArgs (methB 0)) (defBody (methB 0)) (defScope (methB 0)) [] [] f d ∧ Mk K CB f
  pBook_desks : ∃ p g d, FunD K "desks" "Book.desks" (defArgs (methB 1)) (defBody (methB 1)) (defScope (methB 1)) [] [] g d ∧ PropOf K CB "desks" p g
  pBook_changes : ∃ p g d, FunD K "changes" "Book.changes" (defArgs (methB 2)) (defBody (methB 2)) (defScope (methB 2)) [] [] g d ∧ PropOf K CB "changes" p g
  eBadLink : ∃ f d, Bad K mg "BadLink" "value" (ini (top 15)) CL f d
  eTooLong : ∃ f d, Bad K mg "TooLong" "deed" (ini (top 16)) CT f d
  eBadNumber : ∃ f d, Bad K mg "BadNumber" "value" (ini (top 14)) CN f d
  xBadLink_BadLink : PySem.W.exmOne K (.ref CL) (.ref CL) = some true
  xTooLong_BadLink : PySem.W.exmOne K (.ref CT) (.ref CL) = some false
  xTooLong_TooLong : PySem.W.exmOne K (.ref CT) (.ref CT) = some true
  xBadNumber_BadLink : PySem.W.exmOne K (.ref CN) (.ref CL) = some false
  xBadNumber_TooLong : PySem.W.exmOne K (.ref CN) (.ref CT) = some false
  xBadNumber_BadNumber : PySem.W.exmOne K (.ref CN) (.ref CN) = some true
  t61 : HasT K mg base T "_law_middle_right" (top 61) nmMr
/-! bindings of so many parameters -/
section
variable {P : Program} {w : World} {K : PySem.W.Frag} {mg : Str → Option Value} {base : Heap} {CX : CXT} {k : Nat} {x : Str} {st : Stmt} {ps : List Str} {sp : Sp}
/-- a function that is there and does what is said -/
theorem Has.fx (h : Has K mg x st) (F : ∀ f d, FnP K x st f d → FnOk P w K mg base CX k f d ps sp) (b : ∀ f d, FnP K x st f d → Binds K d ps []) : Fx P w K mg base CX k x ps sp := by
  obtain ⟨f, d, h, g⟩ := h
  exact ⟨f, d, F f d h, h.kp, g, b f d h⟩
end
end Dk
set_option Elab.async false
set_option linter.all false
set_option maxRecDepth 100000
set_option maxHeartbeats 8000000
namespace Dk
open PySem PySem.Spec PyProof.Rows L2 Er LamX NdefX CmX
open PySem.ErK (EC)
/-! ### the law's promise out of what stands there -/
section
variable {P : Program} {w : World} {K : PySem.W.Frag} {mg : Str → Option Value} {base : Heap} {f c Pl CD CC CB CL CT CN : Addr} {dV kV doc pm ct oc : Value} {an od : Option Addr} {osl : Array (Option Value)} {T : List NTab}
theorem ok_lawK (lk : K.lookup f = some ⟨oc, od, .func (PySem.W.fnOf "law" "law" (defArgs (top 62)) (defBody (top 62)) (defScope (top 62)) dV kV doc pm an (.ref c) ct), osl⟩) (hcd : PySem.W.codeIn K (.ref c) "law" = true) (TB : TabB base mg c Pl) (hm : (Pl, nmLw) ∈ T) (hu : ∀ p ∈ T, p.1 = Pl → p.2 = nmLw)
    (L : Lk K mg base CD CC CB CL CT CN T) : FnOk P w K mg base CX0 14 f (PySem.W.fnOf "law" "law" (defArgs (top 62)) (defBody (top 62)) (defScope (top 62)) dV kV doc pm an (.ref c) ct) ["_law_script"] (spLaw31 K T) := by
  have TD : DkC K mg CD := ⟨L.cDesk.cl, L.cDesk.ha, L.cDesk.hn, L.cDesk.htk, L.cDesk.hm, L.cDesk.kC, L.aDesk_standings, L.aDesk_leads, L.aDesk_sights, L.gDesk⟩
  have TC : ChC K mg CC := ⟨L.cChange.cl, L.cChange.ha, L.cChange.hn, L.cChange.htk, L.cChange.hm, L.cChange.kC, L.aChange_first, L.aChange_second, L.aChange_places, L.aChange_rows, L.aChange_eyes, L.gChange⟩
  have TBk : BkC K mg CB := ⟨L.cBook.cl, L.cBook.ha, L.cBook.hn, L.cBook.htk, L.cBook.hm, L.cBook.kC, L.aBook_desks, L.aBook_changes, L.aBook_last, L.aBook_start, L.gBook⟩
  have ED : EqC K CD := ⟨L.cDesk.hm, L.cDesk.hne, L.cDesk.N⟩
  have EC_ : EqC K CC := ⟨L.cChange.hm, L.cChange.hne, L.cChange.N⟩
  have EB : EqC K CB := ⟨L.cBook.hm, L.cBook.hne, L.cBook.N⟩
  obtain ⟨f18, d18, F18, g18⟩ := L.h18
  obtain ⟨f19, d19, F19, g19⟩ := L.h19
  obtain ⟨f20, d20, F20, g20⟩ := L.h20
  obtain ⟨f21, d21, F21, g21⟩ := L.h21
  obtain ⟨f27, d27, F27, g27⟩ := L.h27
  obtain ⟨f28, d28, F28, g28⟩ := L.h28
  obtain ⟨f29, d29, F29, g29⟩ := L.h29
  obtain ⟨f30, d30, F30, g30⟩ := L.h30
  obtain ⟨fO, dO, FO, gO⟩ := L.h59
  obtain ⟨fL, dL, BL⟩ := L.eBadLink
  obtain ⟨fT, dT, BT⟩ := L.eTooLong
  obtain ⟨fN, dN, BN⟩ := L.eBadNumber
  have EM : Exm K CL CT CN := ⟨L.xBadLink_BadLink, L.xTooLong_BadLink, L.xTooLong_TooLong, L.xBadNumber_BadLink, L.xBadNumber_TooLong, L.xBadNumber_BadNumber⟩
  have G18 : FnOk P w K mg base CX0 1 f18 d18 ["value"] (spIsName K) := ok_isname F18 L.mi L.ms L.ml L.ma
  have G19 : FnOk P w K mg base CX0 1 f19 d19 nOneOf (spOneOf K) := ok_oneof F19 L.mi L.ms
  have G20 : FnOk P w K mg base CX0 1 f20 d20 nDiff (spDiff K) := ok_diff F20 L.mS L.ml
  have G21 : FnOk P w K mg base CX0 1 f21 d21 ["value", "keys"] (spTable K) := ok_table F21 L.mi L.md L.ml L.ma
  have G27 : FnOk P w K mg base CX0 2 f27 d27 ["value"] (spStand K) := ok_stand F27 L.mi L.mL L.mT L.ml L.ma G18 F18 g18 G20 F20 g20
  have G29 : FnOk P w K mg base CX0 2 f29 d29 ["value", "standings"] (spTab K leadB) := ok_lead F29 L.ma G21 F21 g21 G19 F19 g19
  have G28 : FnOk P w K mg base CX0 3 f28 d28 ["value", "standings"] (spDeeds K) := ok_deeds F28 L.mi L.md L.ml L.ma G18 F18 g18 G29 F29 g29
  have G30 : FnOk P w K mg base CX0 2 f30 d30 ["value", "standings"] (spTab K sightB) := ok_areS F30 L.ma G21 F21 g21 G18 F18 g18
  have XO : Fx P w K mg base CX0 1 "is_one_of" nOneOf (spOneOf K) := L.h19.fx (fun f d F => ok_oneof F L.mi L.ms) (fun f d F => F.bindsN fun _ _ _ _ _ _ us hl => match us, hl with
    | [_, _], _ => rfl)
  have XT : Fx P w K mg base CX0 1 "is_table" ["value", "keys"] (spTable K) := L.h21.fx (fun f d F => ok_table F L.mi L.md L.ml L.ma) (fun f d F => F.bindsN fun _ _ _ _ _ _ us hl => match us, hl with
    | [_, _], _ => rfl)
  have XF : Fx P w K mg base CX0 1 "first_met" ["things"] (spFm K) := L.h22.fx (fun f d F => ok_fm F L.mL) (fun f d F => F.bindsN fun _ _ _ _ _ _ us hl => match us, hl with
    | [_], _ => rfl)
  have PS_ : Px P w K mg base CD 1 "standings" nSelf (spStd CD) := by
    obtain ⟨p, g, d, F, PO⟩ := L.pDesk_standings
    exact ⟨p, g, d, ok_std F TD.cl TD.n1, PO, F.bindsN fun _ _ _ _ _ _ us hl => match us, hl with
    | [_], _ => rfl⟩
  have PD : Px P w K mg base CD 1 "deeds" nSelf (spDds K CD) := by
    obtain ⟨p, g, d, F, PO⟩ := L.pDesk_deeds
    exact ⟨p, g, d, ok_dds F TD.cl TD.n2 L.mT, PO, F.bindsN fun _ _ _ _ _ _ us hl => match us, hl with
    | [_], _ => rfl⟩
  have PT : Px P w K mg base CD 1 "start" nSelf (spSt0 K CD) := by
    obtain ⟨p, g, d, F, PO⟩ := L.pDesk_start
    exact ⟨p, g, d, ok_st0 F TD.cl TD.n1, PO, F.bindsN fun _ _ _ _ _ _ us hl => match us, hl with
    | [_], _ => rfl⟩
  have PF : Px P w K mg base CC 1 "first" nSelf (spFi CC) := by
    obtain ⟨p, g, d, F, PO⟩ := L.pChange_first
    exact ⟨p, g, d, ok_fi F TC, PO, F.bindsN fun _ _ _ _ _ _ us hl => match us, hl with
    | [_], _ => rfl⟩
  have PE_ : Px P w K mg base CC 1 "second" nSelf (spSe CC) := by
    obtain ⟨p, g, d, F, PO⟩ := L.pChange_second
    exact ⟨p, g, d, ok_se F TC, PO, F.bindsN fun _ _ _ _ _ _ us hl => match us, hl with
    | [_], _ => rfl⟩
  have PBd : Px P w K mg base CB 1 "desks" nSelf (spBkD CB) := by
    obtain ⟨p, g, d, F, PO⟩ := L.pBook_desks
    exact ⟨p, g, d, ok_bkD F TBk, PO, F.bindsN fun _ _ _ _ _ _ us hl => match us, hl with
    | [_], _ => rfl⟩
  have PBc : Px P w K mg base CB 1 "changes" nSelf (spBkC CB) := by
    obtain ⟨p, g, d, F, PO⟩ := L.pBook_changes
    exact ⟨p, g, d, ok_bkC F TBk, PO, F.bindsN fun _ _ _ _ _ _ us hl => match us, hl with
    | [_], _ => rfl⟩
  have MS : Mx P w K mg base CX0 CD 2 "sight" nSight (spSight0 K CD) := by
    obtain ⟨f, d, F, M⟩ := L.mDesk_sight
    exact ⟨f, d, ok_sight0 F TD.cl TD.n1 TD.n3 G19 F19 g19, M, F.bindsN fun _ _ _ _ _ _ us hl => match us, hl with
    | [_, _], _ => rfl⟩
  have MC : Mx P w K mg base CX0 CC 2 "carried" nCar (spCar K CD CC) := by
    obtain ⟨f, d, F, M⟩ := L.mChange_carried
    exact ⟨f, d, ok_car F TC XO, M, F.bindsN fun _ _ _ _ _ _ us hl => match us, hl with
    | [_, _], _ => rfl⟩
  have MR : Mx P w K mg base CX0 CC 2 "row" nRow (spRow K CD CC) := by
    obtain ⟨f, d, F, M⟩ := L.mChange_row
    exact ⟨f, d, ok_row F TC L.mL XO, M, F.bindsN fun _ _ _ _ _ _ us hl => match us, hl with
    | [_, _], _ => rfl⟩
  have ME : Mx P w K mg base CX0 CC 2 "eye" nEye (spEye K CD CC) := by
    obtain ⟨f, d, F, M⟩ := L.mChange_eye
    exact ⟨f, d, ok_eye F TC XO, M, F.bindsN fun _ _ _ _ _ _ us hl => match us, hl with
    | [_, _], _ => rfl⟩
  have M1 : Mx P w K mg base CX0 CC 2 "carried" nCar (spCarR K CC) := by
    obtain ⟨f, d, F, M⟩ := L.mChange_carried
    exact ⟨f, d, ok_carR F TC XO, M, F.bindsN fun _ _ _ _ _ _ us hl => match us, hl with
    | [_, _], _ => rfl⟩
  have M2 : Mx P w K mg base CX0 CC 2 "row" nRow (spRowR K CC) := by
    obtain ⟨f, d, F, M⟩ := L.mChange_row
    exact ⟨f, d, ok_rowR F TC L.mL XO, M, F.bindsN fun _ _ _ _ _ _ us hl => match us, hl with
    | [_, _], _ => rfl⟩
  have M3 : Mx P w K mg base CX0 CC 2 "eye" nEye (spEyeR K CC) := by
    obtain ⟨f, d, F, M⟩ := L.mChange_eye
    exact ⟨f, d, ok_eyeR F TC XO, M, F.bindsN fun _ _ _ _ _ _ us hl => match us, hl with
    | [_, _], _ => rfl⟩
  have QD : Eqx P w K mg base CD 1 (spEqD K CD) := by
    obtain ⟨f, d, F, h1, h2⟩ := L.qDesk
    exact ⟨f, d, nEq, (ok_eqK F L.mi L.mT TD).imp fun _ _ _ _ h => spEqD.of h, h1, h2, F.bindsN fun _ _ _ _ _ _ us hl => match us, hl with
    | [_, _], _ => rfl⟩
  have QC : Eqx P w K mg base CC 3 (spChE K CD CC) := by
    obtain ⟨f, d, F, h1, h2⟩ := L.qChange
    exact ⟨f, d, nEq, ok_chE F L.mi TC ED QD, h1, h2, F.bindsN fun _ _ _ _ _ _ us hl => match us, hl with
    | [_, _], _ => rfl⟩
  have QB : Eqx P w K mg base CB 5 (spBkE K CD CC CB) := by
    obtain ⟨f, d, F, h1, h2⟩ := L.qBook
    exact ⟨f, d, nEq, ok_bkE F L.mi TBk QD QC, h1, h2, F.bindsN fun _ _ _ _ _ _ us hl => match us, hl with
    | [_, _], _ => rfl⟩
  have GA : Fx P w K mg base CX0 3 "all_sights" ["desk"] (spAs K CD) := L.h35.fx (fun f d F => ok_as F TD.cl PS_ MS XF) (fun f d F => F.bindsN fun _ _ _ _ _ _ us hl => match us, hl with
    | [_], _ => rfl)
  have A1 : Fx P w K mg base CX0 3 "are_places" ["first", "second", "value"] (spArP K CD) := L.h36.fx (fun f d F => ok_arP F L.ma TD.cl PS_ XT XO) (fun f d F => F.bindsN fun _ _ _ _ _ _ us hl => match us, hl with
    | [_, _, _], _ => rfl)
  have A3 : Fx P w K mg base CX0 4 "are_eyes" ["first", "second", "value"] (spArE K CD) := L.h39.fx (fun f d F => ok_arE F L.ma GA XT XO) (fun f d F => F.bindsN fun _ _ _ _ _ _ us hl => match us, hl with
    | [_, _, _], _ => rfl)
  have A4 : Fx P w K mg base CX0 2 "is_change_row" ["value", "deeds"] (spCr K) := L.h38.fx (fun f d F => ok_cr F L.mi L.mL L.mT L.ml L.ma L.nMOST_ROW XO) (fun f d F => F.bindsN fun _ _ _ _ _ _ us hl => match us, hl with
    | [_, _], _ => rfl)
  have A2 : Fx P w K mg base CX0 3 "are_rows" ["first", "second", "value"] (spArR K CD) := L.h37.fx (fun f d F => ok_arR F L.ma TD.cl PD XT A4) (fun f d F => F.bindsN fun _ _ _ _ _ _ us hl => match us, hl with
    | [_, _, _], _ => rfl)
  have ID : Cx_ P w K mg base CX0 CD 4 "Desk" ["self", "standings", "deeds", "sights"] (spInit K CD) := by
    obtain ⟨f, d, F, M⟩ := L.iDesk
    exact ⟨f, d, ok_init F L.mT TD.cl TD.n1 TD.n2 TD.n3 G27 F27 g27 G28 F28 g28 G30 F30 g30, M, L.gDesk, F.bindsN fun _ _ _ _ _ _ us hl => match us, hl with
    | [_, _, _, _], _ => rfl⟩
  have IC : Cx_ P w K mg base CX0 CC 5 "Change" ["self", "first", "second", "places", "rows", "eyes"] (spChI K CD CC) := by
    obtain ⟨f, d, F, M⟩ := L.iChange
    exact ⟨f, d, ok_chI F L.mT TD.cl TC PS_ PD GA A1 A2 A3, M, L.gChange, F.bindsN fun _ _ _ _ _ _ us hl => match us, hl with
    | [_, _, _, _, _, _], _ => rfl⟩
  have A5 : Fx P w K mg base CX0 1 "are_desks" ["value"] (spArDk K CD) := L.h41.fx (fun f d F => ok_arDk F L.mi L.mL L.mT L.ml L.ma L.nMOST_DESKS TD) (fun f d F => F.bindsN fun _ _ _ _ _ _ us hl => match us, hl with
    | [_], _ => rfl)
  have A6 : Fx P w K mg base CX0 3 "is_change_of" nIco (spIco K CD CC) := L.h43.fx (fun f d F => ok_ico F L.mi TC PF PE_ ED QD) (fun f d F => F.bindsN fun _ _ _ _ _ _ us hl => match us, hl with
    | [_, _, _], _ => rfl)
  have A7 : Fx P w K mg base CX0 4 "are_changes" ["desks", "value"] (spArCh K CD CC) := L.h42.fx (fun f d F => ok_arCh F L.mi L.mL L.mT L.ml L.ma L.me A6) (fun f d F => F.bindsN fun _ _ _ _ _ _ us hl => match us, hl with
    | [_, _], _ => rfl)
  have IB : Cx_ P w K mg base CX0 CB 5 "Book" nBkI (spBkI K CD CC CB) := by
    obtain ⟨f, d, F, M⟩ := L.iBook
    exact ⟨f, d, ok_bkI F L.mT L.ml TD.cl TBk PT A5 A7, M, L.gBook, F.bindsN fun _ _ _ _ _ _ us hl => match us, hl with
    | [_, _, _], _ => rfl⟩
  have GP : Fx P w K mg base CX0 7 "plain_change" ["desk"] (spPc K CD CC) := L.h45.fx (fun f d F => ok_pc F TD.cl PS_ PD GA IC) (fun f d F => F.bindsN fun _ _ _ _ _ _ us hl => match us, hl with
    | [_], _ => rfl)
  have GJr : Fx P w K mg base (L2.CX P w) 3 "joined_row" ["first", "second", "deed"] (spJr K CD CC CT) := L.h47.fx (fun f d F => ok_jr F L.ml L.nMOST_ROW TC MR BT) (fun f d F => F.bindsN fun _ _ _ _ _ _ us hl => match us, hl with
    | [_, _, _], _ => rfl)
  have GJ : Fx P w K mg base (L2.CX P w) 7 "joined" ["first", "second"] (spJo K CD CC CL CT) := L.h46.fx (fun f d F => ok_jo F TD.cl TC PS_ PD GA PF PE_ ED QD MC ME GJr IC BL) (fun f d F => F.bindsN fun _ _ _ _ _ _ us hl => match us, hl with
    | [_, _], _ => rfl)
  have GW : Fx P w K mg base (L2.CX P w) 8 "without_middle" ["book"] (spWm K CD CC CB CT CN) := L.h48.fx (fun f d F => ok_wm F L.ml TBk PBd PBc GJ IB BN) (fun f d F => F.bindsN fun _ _ _ _ _ _ us hl => match us, hl with
    | [_], _ => rfl)
  have GF : Fx P w K mg base CX0 1 "_law_fresh" ["_law_pen_here"] spFresh := L.h51.fx (fun f d F => ok_fresh F L.mn L.ml L.mR) (fun f d F => F.bindsN fun _ _ _ _ _ _ us hl => match us, hl with
    | [_], _ => rfl)
  have GD : Fx P w K mg base CX0 2 "_law_draw" ["_law_pen_here", "_law_bound"] spDraw31 := L.h52.fx (fun f d F => ok_draw31 F L.mn GF) (fun f d F => F.bindsN fun _ _ _ _ _ _ us hl => match us, hl with
    | [_, _], _ => rfl)
  have GO : Fx P w K mg base CX0 3 "_law_one_of" nOne spOne := L.h53.fx (fun f d F => ok_one F L.ml GD) (fun f d F => F.bindsN fun _ _ _ _ _ _ us hl => match us, hl with
    | [_, _], _ => rfl)
  have GPe : Fx P w K mg base CX0 1 "_law_pen" nPenF (spPen K) := L.h50.fx (fun f d F => ok_pen F L.mL) (fun f d F => F.bindsN fun _ _ _ _ _ _ us hl => match us, hl with
    | [_], _ => rfl)
  have GK : Fx P w K mg base CX0 4 "_law_desk" ["_law_pen_here", "_law_most"] spDesk31 := L.h54.fx (fun f d F => ok_desk31 F L.mn L.md GD GO) (fun f d F => F.bindsN fun _ _ _ _ _ _ us hl => match us, hl with
    | [_, _], _ => rfl)
  have GSi : Fx P w K mg base CX0 1 "_law_sights" ["_law_desk_here"] spSights31 := L.h55.fx (fun f d F => ok_si31 F L.mso L.mS) (fun f d F => F.bindsN fun _ _ _ _ _ _ us hl => match us, hl with
    | [_], _ => rfl)
  have GC : Fx P w K mg base CX0 4 "_law_change" ["_law_pen_here", "_law_elder", "_law_newer"] spChange31 := L.h56.fx (fun f d F => ok_change31 F L.md L.mL L.mR GO GSi) (fun f d F => F.bindsN fun _ _ _ _ _ _ us hl => match us, hl with
    | [_, _, _], _ => rfl)
  have GBk : Fx P w K mg base CX0 7 "_law_book" ["_law_world"] (spBook31 K CD CC CB) := L.h57.fx (fun f d F => ok_book31 F L.me ID IC IB) (fun f d F => F.bindsN fun _ _ _ _ _ _ us hl => match us, hl with
    | [_], _ => rfl)
  have GN : Fx P w K mg base CX0 2 "_law_joined" ["_law_first", "_law_second", "_law_elder", "_law_newest"] spJoined31 := L.h58.fx (fun f d F => ok_joined31 F L.md GSi) (fun f d F => F.bindsN fun _ _ _ _ _ _ us hl => match us, hl with
    | [_, _, _, _], _ => rfl)
  have GS : Fx P w K mg base CX0 3 "_law_same" ["_law_change_here", "_law_raw"] (spSame31 K CD CC) := L.h60.fx (fun f d F => ok_same31 F TC M1 M2 M3) (fun f d F => F.bindsN fun _ _ _ _ _ _ us hl => match us, hl with
    | [_, _], _ => rfl)
  have GM : Fx P w K mg base CX0 12 "_law_middle_right" ["_law_book_here", "_law_told", "_law_long"] (spMr K CD CC CB T) := by
    obtain ⟨fm_, cm, Pm, dV2, kV2, doc2, pm2, ct2, oc2, an2, od2, osl2, lk2, hcd2, TB2, hm2, hu2, F2, g2⟩ := L.t61
    exact ⟨fm_, _, ok_mr lk2 hcd2 TB2 hm2 hu2 TD TC TBk ED EB QD QB PBd PBc PF PE_ IB GJ GW GS FO gO BL BT BN EM, F2.kp, g2, F2.bindsN fun _ _ _ _ _ _ us hl => match us, hl with
    | [_, _, _], _ => rfl⟩
  exact ok_law31 lk hcd TB hm hu L.mx L.mm GPe L.mR L.mL L.md L.ml GD GO GK GC GBk GN GM GS TBk ED EC_ QD QC PBd PBc IB GJ GW GP FO gO BL BT BN EM
end
end Dk
set_option Elab.async false
set_option linter.all false
set_option maxRecDepth 100000
set_option maxHeartbeats 8000000
namespace Dk
open PySem PySem.Spec PyProof.Rows L2 Er LamX NdefX CmX
/-! ### the law, called by the claim: the script may be kept, the table of come's code object is written -/
section
variable {P : Program} {w : World} {K : PySem.W.Frag} {mg mb : Str → Option Value} {f a : Addr} {Pt : List NTab} {Ts : List (Addr × Addr)} {fd : FuncData} {s₁ : Shared} {vs : List Value} {ns : List Int}
theorem top_callL (F : ∀ base : Heap, K.In base → base.Ns mainGlobals mg → (∀ q ∈ Ts, TabB base mg q.1 q.2) → FnOk P w K mg base CX0 14 f fd ["_law_script"] (spLaw31 K Pt)) (bind : ∀ (s : Shared) (u : Value), BindsTo s fd ⟨[u], []⟩ [("_law_script", u)])
    (inK : K.In s₁.heap) (glob : s₁.heap.Ns mainGlobals mg) (blt : s₁.heap.Ns builtinsNs mb) (blt2 : ∀ x : Str, x ≠ "__name__" → mb x = bootBuiltins x) (lim : s₁.heap.NoLimit) (gens : s₁.gens = #[])
    (mod : ∃ (bm : Addr) (om : Obj), mg "__builtins__" = some (.ref bm) ∧ bm ≠ builtinsNs ∧ s₁.heap.get? bm = some om ∧ om.cls = .type "module" ∧ om.dict = some builtinsNs ∧ om.data = .plain)
    (hPt : ∀ p ∈ Pt, p.1 ∈ Ts.map (·.2)) (tab : ∀ q ∈ Ts, s₁.heap.get? q.2 = some (PySem.W.tabObj #[])) (tabK : ∀ q ∈ Ts, K.lookup q.2 = none) (chd : ∀ q ∈ Ts, PySem.W.CodeHd s₁.heap q.1 q.2)
    (at_ : s₁.heap.get? a = some { cls := .type "list", data := .seq vs.toArray }) (ar : IntsAre vs ns) (few : ns.length ≤ 63) (bits : ∀ z ∈ ns, Builtin.Int.intBits z ≤ 1048576) :
    codeAny (model P w) callerA (.call (.ref f) ⟨[.ref a], []⟩) (fun r s' => r = .ok (.ret (.bool true)) ∧ OldK s₁.heap s'.heap ∧ s'.os = s₁.os ∧ AllBare s'.gens) s₁ := by
  have rel := vals_ints ar
  have lenV := ar.length
  have small : ns.length ≤ sizeLine := by
    rw [sizeLine_eq]
    omega
  have tabB_ : ∀ b ∈ Ts.map (·.2), s₁.heap.get? b = some (PySem.W.tabObj #[]) := fun b hb => by
    obtain ⟨q, hq, rfl⟩ := List.mem_map.mp hb
    exact tab q hq
  have tabK_ : ∀ b ∈ Ts.map (·.2), K.lookup b = none := fun b hb => by
    obtain ⟨q, hq, rfl⟩ := List.mem_map.mp hb
    exact tabK q hq
  have aPt : a ∉ Ts.map (·.2) := fun z => by
    rw [tabB_ a z] at at_
    cases at_
  have main : ∀ H : Hp, (∀ b ∈ Ts.map (·.2), H b = some (.tbl #[])) → (∀ b, b ∉ Ts.map (·.2) → H b = none ∨ (b = a ∧ ∃ ob xs, H b = some (.frz ob (.lst xs)))) → SqL K H a (ns.map V.int) → HOk P w H s₁.heap → (H a ≠ none → K.lookup a = none) →
      codeAny (model P w) callerA (.call (.ref f) ⟨[.ref a], []⟩) (fun r s' => r = .ok (.ret (.bool true)) ∧ OldK s₁.heap s'.heap ∧ s'.os = s₁.os ∧ AllBare s'.gens) s₁ := by
    intro H hT only sq hok notK
    -- what is neither the script nor the table stands below, too
    have away : ∀ {b : Addr}, b ≠ a → b ∉ Ts.map (·.2) → H b = none := fun {b} n1 n2 => by
      rcases only b n2 with z | ⟨z, _⟩
      · exact z
      · exact absurd z n1
    have apart : ∀ {b : Addr} {o : Obj}, s₁.heap.get? b = some o → (∀ us n, o.data ≠ .seq us n) → (∀ us, o.data ≠ .fields us) → H b = none := fun {b o} e n1 n2 => away
      (fun z => by
        rw [z, at_] at e
        cases e
        exact n1 _ _ rfl)
      (fun z => by
        rw [tabB_ b z] at e
        cases e
        exact n2 _ rfl)
    have nsOf : ∀ {b : Addr} {m : Str → Option Value}, s₁.heap.Ns b m → (hidT s₁.heap H).Ns b m := fun {b m} z => by
      obtain ⟨o, es, ep, e, d, r⟩ := z
      exact ⟨o, es, ep, hidT_get e (apart e (fun us n y => by rw [d] at y; cases y) (fun us y => by rw [d] at y; cases y)), d, r⟩
    have inB : K.In (hidT s₁.heap H) := fun b o e => by
      refine hidT_get (inK b o e) ?_
      by_cases c : b ∈ Ts.map (·.2)
      · rw [tabK_ b c] at e
        cases e
      · rcases only b c with z | ⟨z, ob, xs, y⟩
        · exact z
        · rw [z] at e y
          rw [notK (by rw [y]; simp)] at e
          cases e
    have modOk : Mod K mg (hidT s₁.heap H) := ⟨inB, nsOf glob, ⟨mb, nsOf blt, blt2⟩, by
      obtain ⟨mc, z1, z2⟩ := lim
      exact ⟨mc, nsOf z1, z2⟩⟩
    have tabB : ∀ q ∈ Ts, TabB (hidT s₁.heap H) mg q.1 q.2 := fun q hq => by
      have tq := tab q hq
      refine ⟨?_, ?_, fun z => ?_⟩
      · obtain ⟨o, us, q1, q2, q3, q4, q5, q6, q7, e1, e2, e3, rest⟩ := chd q hq
        have cPt : q.1 ∉ Ts.map (·.2) := fun z => by
          rw [tabB_ _ z] at e1
          cases e1
          first
            | cases e2
            | cases e3
        refine ⟨o, us, q1, q2, q3, q4, q5, q6, q7, hidT_get e1 (away (fun z => ?_) cPt), e2, e3, rest⟩
        rw [z, at_] at e1
        cases e1
        cases e3
      · obtain ⟨bm, om, m1, m2, m3, m4, m5, m6⟩ := mod
        have free : H bm = none := apart m3 (fun us n y => by rw [m6] at y; cases y) (fun us y => by rw [m6] at y; cases y)
        refine ⟨bm, om, m1, m2, fun z => ?_, fun z => ?_, hidT_get m3 free, m4, m5, m6⟩
        · obtain ⟨o, es, ep, e, d, _⟩ := glob
          rw [z, e] at m3
          cases m3
          rw [d] at m6
          cases m6
        · rw [z, tq] at m3
          cases m3
          cases m6
      · obtain ⟨o, es, ep, e, d, _⟩ := glob
        rw [z, tq] at e
        cases e
        cases d
    have e0 : Env0 P w K mg (hidT s₁.heap H) callerA [] s₁ H :=
      ⟨rfl, modOk, fun b o e => of_hidT e, Nat.le_of_eq (hidT_size _ _), trivial, fun b z => absurd (show b ∈ ([] : List Addr) from z) (by simp), hok, .of_eq gens⟩
    have tabs : TabsN Pt H := fun p hp => TabN.nil (hT _ (hPt p hp))
    refine codeAny_mono ((F _ inB (nsOf glob) tabB).run callerA [] s₁ H ⟨[.ref a], []⟩ [.ref a] [.ref a] (fun v _ => v = .bl true) (fun _ _ _ => False) ⟨rfl, by decide, by decide⟩ e0 (bind s₁ (.ref a)) (.cons rfl .nil) ⟨a, ns, rfl, sq, tabs, fun _ => rfl⟩) fun r s' z => ?_
    cases r with
    | error e => exact z.elim
    | ok fl =>
      cases fl with
      | next => exact z.elim
      | brk => exact z.elim
      | cont => exact z.elim
      | ret u =>
        obtain ⟨v, H', eos, bare, un, hok', rv, ev⟩ := z
        have ev2 : v = .bl true := ev
        subst ev2
        obtain rfl : u = Value.bool true := rv
        have now : ∀ b ∈ Ts.map (·.2), ∃ more, s'.heap.get? b = some (PySem.W.tabObj (#[] ++ more)) := fun b hb => by
          obtain ⟨more, hm⟩ := un.tbls b #[] (hT b hb)
          exact ⟨more, hok' b _ hm⟩
        have stay : ∀ b o, b ∉ Ts.map (·.2) → s₁.heap.get? b = some o → s'.heap.get? b = some o := fun b o n e => by
          rcases only b n with c | ⟨_, ob, xs, c⟩
          · exact un.keep b o e c (fun z2 => absurd (show b ∈ ([] : List Addr) from z2) (by simp)) (by simp)
          · obtain ⟨x1, _⟩ := hok b _ c
            obtain ⟨x2, _⟩ := hok' b _ (un.frzs b ob _ c)
            rw [e] at x1
            cases x1
            exact x2
        refine ⟨rfl, ⟨fun b o e => ?_, fun b o e => ?_⟩, eos, bare⟩
        · by_cases c : b ∈ Ts.map (·.2)
          · obtain ⟨more, hn⟩ := now b c
            rw [tabB_ b c] at e
            cases e
            obtain ⟨q, hq, rfl⟩ := List.mem_map.mp c
            exact .inr (.inl ⟨((chd q hq).tab (tab q hq)).isCodeTable, rfl, #[], more, rfl, hn⟩)
          · exact .inl (stay b o c e)
        · by_cases c : b ∈ Ts.map (·.2)
          · obtain ⟨more, hn⟩ := now b c
            exact ⟨_, hn⟩
          · exact ⟨o, stay b o c e⟩
  cases known : K.lookup a with
  | some o =>
    have e := inK a o known
    rw [at_] at e
    cases e
    refine main (fun b => if b ∈ Ts.map (·.2) then some (.tbl #[]) else none) (fun b hb => if_pos hb) (fun b n => .inl (if_neg n)) (.inr ⟨_, vs.toArray, _, known, rfl, rfl, rfl, ?_, by simpa using rel⟩) (fun b u z => ?_) fun z => absurd (if_neg aPt) z
    · rw [List.size_toArray, lenV]
      exact small
    · by_cases c : b ∈ Ts.map (·.2)
      · have z2 := (if_pos c).symm.trans z
        cases z2
        exact tabB_ b c
      · have z2 := (if_neg c).symm.trans z
        cases z2
  | none =>
    refine main (fun b => if b ∈ Ts.map (·.2) then some (.tbl #[]) else if b = a then some (.frz { cls := .type "list", data := .seq vs.toArray } (.lst (ns.map V.int))) else none) (fun b hb => if_pos hb) (fun b n => ?_)
      (.inl (.inr ⟨{ cls := .type "list", data := .seq vs.toArray }, (if_neg aPt).trans (if_pos rfl)⟩)) (fun b u z => ?_) fun _ => known
    · by_cases c : b = a
      · exact .inr ⟨c, _, _, (if_neg n).trans (if_pos c)⟩
      · exact .inl ((if_neg n).trans (if_neg c))
    · by_cases c : b ∈ Ts.map (·.2)
      · have z2 := (if_pos c).symm.trans z
        cases z2
        exact tabB_ b c
      · have z1 := (if_neg c).symm.trans z
        by_cases c2 : b = a
        · have z2 := (if_pos c2).symm.trans z1
          cases z2
          subst c2
          exact ⟨at_, by rw [List.length_map]; exact small, vs, _, rel, at_⟩
        · have z2 := (if_neg c2).symm.trans z1
          cases z2
end
end Dk
set_option Elab.async false
set_option linter.all false
set_option maxRecDepth 100000
set_option maxHeartbeats 0
namespace Hn
open PySem PySem.Spec PyProof.Rows L2 Er Dk
open PySem.ErK (EC tA tB tS)
/-! ### what is looked at behind the top of k31 -/
def oxB (K : PySem.W.Frag) (C : Addr) : Bool := match K.lookup C with
  | some ⟨.type "type", _, .cls cd, sl⟩ => (match cd.mro, sl.toList with
    | .ref C' :: bm, [_, _, _, _, some (.builtin n), _] => C' == C && n == "ValueError.__new__" && !cd.hasDel && cd.hasDict && PySem.HandSPX.refsVE bm
    | _, _ => false)
  | _ => false
def eqB (a b : Option (Option Value)) : Bool := decide (a = b)
def xcB (K : PySem.W.Frag) (C : Addr) : Bool :=
  eqB (PySem.W.findIn K (.ref C) "__class__") (some (some (.builtin "object.__class__"))) && decide (PySem.W.mroIn K C (.type "object") = some true)
def ecB (K : PySem.W.Frag) (x f : Str) : Bool :=
  oxB K (He.ga K x) && (eqB (PySem.W.findIn K (.ref (He.ga K x)) "__setattr__") (some (some (.builtin "object.__setattr__"))) && (decide (PySem.W.typeIn K (.ref (He.ga K x)) = some (.type "type")) && (PySem.W.keepIn K (.ref (He.ga K x)) &&
    (eqB (PySem.W.findIn K (.ref (He.ga K x)) f) (some none) && (eqB (PySem.W.findIn K (.ref (He.ga K x)) "__init__") (some (some (.ref (He.ma K (He.ga K x) "__init__")))) &&
      (decide (PySem.W.typeIn K (.ref (He.ma K (He.ga K x) "__init__")) = some (.type "function")) && (xfB K (He.ga K x) && xcB K (He.ga K x))))))))
/-- a property's getter -/
def gAt (K : PySem.W.Frag) (C x : Str) : Addr := match PySem.W.recIn K (He.ma K (He.ga K C) x) "property" with
  | some (.ref g :: _) => g
  | _ => 0
def fnA (K : PySem.W.Frag) (a : Addr) : He.FnW := match K.lookup a with
  | some ⟨_, _, .func fd, _⟩ => some (fd.name, fd.qualname, fd.params, fd.body, fd.scope, fd.globals, fd.closure, fd.builtins)
  | _ => none
def okA (K : PySem.W.Frag) (a : Addr) (qual : Str) : Bool := PySem.W.keepIn K (.ref a) && (match K.lookup a with
  | some ⟨_, _, .func fd, _⟩ => PySem.W.codeIn K fd.code qual && He.dflB K fd.defaults []
  | _ => false)
def prB (K : PySem.W.Frag) (C x : Str) : Bool :=
  eqB (PySem.W.findIn K (.ref (He.ga K C)) x) (some (some (.ref (He.ma K (He.ga K C) x)))) && (eqB (PySem.W.specialIn K (.ref (He.ma K (He.ga K C) x)) "__get__") (some (some (.builtin "property.__get__"))) &&
    (decide (PySem.W.takesIn K (.ref (He.ma K (He.ga K C) x)) = some true) && ((match PySem.W.recIn K (He.ma K (He.ga K C) x) "property" with
      | some (.ref _ :: _) => true
      | _ => false) && okA K (gAt K C x) (C ++ ("." ++ x)))))
def clB (K : PySem.W.Frag) (x : Str) : Bool :=
  eqB (PySem.W.findIn K (.ref (He.ga K x)) "__class__") (some (some (.builtin "object.__class__"))) && (decide (PySem.W.mroIn K (He.ga K x) (.type "object") = some true) &&
    (decide (PySem.W.kitOne K (.ref (He.ga K x)) (.ref (He.ga K x)) = some true) && (["NoneType", "int", "str", "list", "tuple", "dict", "bool"].all (fun t => PySem.W.notFirst K (He.ga K x) (.type t)) &&
      eqB (PySem.W.findIn K (.ref (He.ga K x)) "__ne__") (some (some (.builtin "object.__ne__"))))))
def qB (K : PySem.W.Frag) (x : Str) : Bool := eqB (PySem.W.findIn K (.ref (He.ga K x)) "__eq__") (some (some (.ref (He.ma K (He.ga K x) "__eq__")))) && PySem.W.isFn K (.ref (He.ma K (He.ga K x) "__eq__"))
def isD : Option Obj → Bool
  | some ⟨_, _, .dict _ _, _⟩ => true
  | _ => false
def errs : List (Str × Str) := [("BadLink", "value"), ("TooLong", "deed"), ("BadNumber", "value")]
def clss : List Str := ["Desk", "Change", "Book"]
def eqcs : List Str := ["Desk", "Change", "Book"]
def prps : List (Str × Str) := [("Desk", "standings"), ("Desk", "deeds"), ("Desk", "start"), ("Change", "first"), ("Change", "second"), ("Book", "desks"), ("Book", "changes")]
def myB (K : PySem.W.Frag) : Bool := (errs.all fun p => ecB K p.1 p.2) && (clss.all (clB K) && (eqcs.all (qB K) && ((prps.all fun p => prB K p.1 p.2) && isD (K.lookup sysModules))))
abbrev FnL : Type := List He.FnW
def getS (K : PySem.W.Frag) : FnL := prps.map fun p => fnA K (gAt K p.1 p.2)
def getSV : FnL := [some ("standings", "Desk.standings", defArgs (meth 1), .stmts (defBody (meth 1)), defScope (meth 1), mainGlobals, [], builtinsNs), some ("deeds", "Desk.deeds", defArgs (meth 2), .stmts (defBody (meth 2)), defScope (meth 2), mainGlobals, [], builtinsNs), some ("start", "Desk.start", defArgs (meth 3), .stmts (defBody (meth 3)), defScope (meth 3), mainGlobals, [], builtinsNs), some ("first", "Change.first", defArgs (methC 1), .stmts (defBody (methC 1)), defScope (methC 1), mainGlobals, [], builtinsNs), some ("second", "Change.second", defArgs (methC 2), .stmts (defBody (methC 2)), defScope (methC 2), mainGlobals, [], builtinsNs), some ("desks", "Book.desks", defArgs (methB 1), .stmts (defBody (methB 1)), defScope (methB 1), mainGlobals, [], builtinsNs), some ("changes", "Book.changes", defArgs (methB 2), .stmts (defBody (methB 2)), defScope (methB 2), mainGlobals, [], builtinsNs)]
/-- the code objects that keep tables, and these -/
def tf : List He.Defn := [("_law_middle_right", none), ("law", none)]
def tL (K : PySem.W.Frag) : List (Addr × Addr) := tf.map (He.cT K)
def tab1 (g : Addr → Option Obj) (K : PySem.W.Frag) (q : Addr × Addr) : Bool := PySem.W.codeHdIn K q.1 q.2 && (match g q.2 with
  | some o => He.emptyTab o
  | none => false)
def tabH (g : Addr → Option Obj) (K : PySem.W.Frag) : Bool := (tL K).all (tab1 g K) && decide ((tL K).map (·.2)).Nodup
/-- the part of the heap that is looked at: no empty table stands in it -/
def frS (n : Nat) (g : Addr → Option Obj) : PySem.W.Frag := He.frT g (sysModules :: He.asD g n)
abbrev AlN : Type := He.AlD × (Bool × FnL)
def dfn (x : Str) (st : Stmt) : He.DefD := ⟨(x, none), x, x, defArgs st, defBody st, defScope st, [], []⟩
def fn : List He.DefD := [
  dfn "is_name" (top 18), dfn "is_one_of" (top 19), dfn "are_different" (top 20), dfn "is_table" (top 21), dfn "first_met" (top 22), dfn "are_standings" (top 27), dfn "are_deeds" (top 28), dfn "is_lead" (top 29), dfn "are_sights" (top 30), dfn "all_sights" (top 35), dfn "are_places" (top 36), dfn "are_rows" (top 37), dfn "is_change_row" (top 38), dfn "are_eyes" (top 39), dfn "are_desks" (top 41), dfn "are_changes" (top 42), dfn "is_change_of" (top 43), dfn "plain_change" (top 45), dfn "joined" (top 46), dfn "joined_row" (top 47), dfn "without_middle" (top 48), dfn "_law_pen" (top 50), dfn "_law_fresh" (top 51), dfn "_law_draw" (top 52), dfn "_law_one_of" (top 53), dfn "_law_desk" (top 54), dfn "_law_sights" (top 55), dfn "_law_change" (top 56), dfn "_law_book" (top 57), dfn "_law_joined" (top 58), dfn "_law_outcome" (top 59), dfn "_law_same" (top 60), dfn "_law_middle_right" (top 61), dfn "law" (top 62),
  ⟨("BadLink", some "__init__"), "__init__", "BadLink.__init__", defArgs (ini (top 15)), defBody (ini (top 15)), defScope (ini (top 15)), [], []⟩,
  ⟨("TooLong", some "__init__"), "__init__", "TooLong.__init__", defArgs (ini (top 16)), defBody (ini (top 16)), defScope (ini (top 16)), [], []⟩,
  ⟨("BadNumber", some "__init__"), "__init__", "BadNumber.__init__", defArgs (ini (top 14)), defBody (ini (top 14)), defScope (ini (top 14)), [], []⟩,
  ⟨("Desk", some "__init__"), "__init__", "Desk.__init__", defArgs (meth 0), defBody (meth 0), defScope (meth 0), [], []⟩,
  ⟨("Desk", some "__eq__"), "__eq__", "Desk.__eq__", defArgs (meth 7), defBody (meth 7), defScope (meth 7), [], []⟩,
  ⟨("Desk", some "sight"), "sight", "Desk.sight", defArgs (meth 5), defBody (meth 5), defScope (meth 5), [], []⟩,
  ⟨("Change", some "__init__"), "__init__", "Change.__init__", defArgs (methC 0), defBody (methC 0), defScope (methC 0), [], []⟩,
  ⟨("Change", some "__eq__"), "__eq__", "Change.__eq__", defArgs (methC 6), defBody (methC 6), defScope (methC 6), [], []⟩,
  ⟨("Change", some "carried"), "carried", "Change.carried", defArgs (methC 3), defBody (methC 3), defScope (methC 3), [], []⟩,
  ⟨("Change", some "row"), "row", "Change.row", defArgs (methC 4), defBody (methC 4), defScope (methC 4), [], []⟩,
  ⟨("Change", some "eye"), "eye", "Change.eye", defArgs (methC 5), defBody (methC 5), defScope (methC 5), [], []⟩,
  ⟨("Book", some "__init__"), "__init__", "Book.__init__", defArgs (methB 0), defBody (methB 0), defScope (methB 0), [], []⟩,
  ⟨("Book", some "__eq__"), "__eq__", "Book.__eq__", defArgs (methB 5), defBody (methB 5), defScope (methB 5), [], []⟩]
def fa : List He.Fa := [
  .glo "is_name", .glo "is_one_of", .glo "are_different", .glo "is_table", .glo "first_met", .glo "are_standings", .glo "are_deeds", .glo "is_lead", .glo "are_sights", .glo "all_sights",
  .glo "are_places", .glo "are_rows", .glo "is_change_row", .glo "are_eyes", .glo "are_desks", .glo "are_changes", .glo "is_change_of", .glo "plain_change", .glo "joined", .glo "joined_row",
  .glo "without_middle", .glo "_law_pen", .glo "_law_fresh", .glo "_law_draw", .glo "_law_one_of", .glo "_law_desk", .glo "_law_sights", .glo "_law_change", .glo "_law_book", .glo "_law_joined",
  .glo "_law_outcome", .glo "_law_same", .glo "_law_middle_right", .glo "law", .glo "BadLink", .glo "TooLong", .glo "BadNumber", .glo "Desk", .glo "Change", .glo "Book",
  .free "isinstance", .free "int", .free "str", .free "list", .free "tuple", .free "dict", .free "set", .free "sorted", .free "len", .free "all",
  .free "range", .free "max", .free "min", .free "enumerate", .int "MOST_ROW" 16, .int "MOST_DESKS" 3, .cls "Desk", .noat "Desk" "_standings", .noat "Desk" "_leads", .noat "Desk" "_sights",
  .mkr "Desk", .meth "Desk" "sight", .cls "Change", .noat "Change" "_first", .noat "Change" "_second", .noat "Change" "_places", .noat "Change" "_rows", .noat "Change" "_eyes", .mkr "Change", .meth "Change" "carried",
  .meth "Change" "row", .meth "Change" "eye", .cls "Book", .noat "Book" "_desks", .noat "Book" "_changes", .noat "Book" "_last", .noat "Book" "_start", .mkr "Book", .exm "BadLink" "BadLink" true, .exm "TooLong" "BadLink" false,
  .exm "TooLong" "TooLong" true, .exm "BadNumber" "BadLink" false, .exm "BadNumber" "TooLong" false, .exm "BadNumber" "BadNumber" true]
def names : List PySem.Str := (["DeskError", "BadStandings", "BadDeeds", "BadSights", "BadStanding", "BadRow", "BadPlaces", "BadRows", "BadEyes", "BadDeed", "BadSight", "BadDesks"] : List PySem.Str) ++ (["BadChanges", "BadNumber", "BadLink", "TooLong", "is_name", "is_one_of", "are_different", "is_table", "first_met", "add_new", "reached", "Desk"] : List PySem.Str) ++ (["are_standings", "are_deeds", "is_lead", "are_sights", "MOST_ROW", "MOST_DESKS", "Change", "all_sights", "are_places", "are_rows", "is_change_row", "are_eyes"] : List PySem.Str) ++ (["Book", "are_desks", "are_changes", "is_change_of", "plain_change", "joined", "joined_row", "without_middle", "_law_pen", "_law_fresh", "_law_draw", "_law_one_of"] : List PySem.Str) ++ (["_law_desk", "_law_sights", "_law_change", "_law_book", "_law_joined", "_law_outcome", "_law_same", "_law_middle_right"] : List PySem.Str)
def obN (n : Nat) (g : Addr → Option Obj) : AlN := (He.obsD fa fn (frS n g), myB (frS n g) && tabH g (frS n g), getS (frS n g))
abbrev R : PySem.W.OpenRow := PySem.W.OpenLaw.row PySem.Challenge.rw_lateeditions_k31_changes_put_together
structure Told (h : Heap) (K : PySem.W.Frag) : Prop where
  d : He.SaysD fa fn K
  b : myB K = true
  g : getS K = getSV
  hd : ∀ q ∈ tL K, PySem.W.codeHdIn K q.1 q.2 = true
  out : ∀ q ∈ tL K, K.lookup q.2 = none
  tab : ∀ q ∈ tL K, h.get? q.2 = some (PySem.W.tabObj #[])
  nd : ((tL K).map (·.2)).Nodup
theorem told_of {n : Nat} {h : Heap} (e : obN n h.get? = (He.valD fn, true, getSV)) : Told h (frS n h.get?) := by
  have e1 := congrArg (fun z : AlN => z.1) e
  have e2 := congrArg (fun z : AlN => z.2.1) e
  have e3 := congrArg (fun z : AlN => z.2.2) e
  obtain ⟨b1, b2⟩ := Bool.and_eq_true_iff.mp (show (myB (frS n h.get?) && tabH h.get? (frS n h.get?)) = true from e2)
  unfold tabH at b2
  obtain ⟨b3, b4⟩ := Bool.and_eq_true_iff.mp b2
  have each : ∀ q ∈ tL (frS n h.get?), PySem.W.codeHdIn (frS n h.get?) q.1 q.2 = true ∧ (frS n h.get?).lookup q.2 = none ∧ h.get? q.2 = some (PySem.W.tabObj #[]) := fun q hq => by
    have z := List.all_eq_true.mp b3 q hq
    unfold tab1 at z
    obtain ⟨z1, z2⟩ := Bool.and_eq_true_iff.mp z
    cases y : h.get? q.2 with
    | none =>
      rw [y] at z2
      cases z2
    | some o =>
      rw [y] at z2
      exact ⟨z1, He.frT_none y z2, by rw [He.emptyTab_eq z2]⟩
  exact ⟨e1, b1, e3, fun q hq => (each q hq).1, fun q hq => (each q hq).2.1, fun q hq => (each q hq).2.2, of_decide_eq_true b4⟩
def hk : PySem.W.Hook where
  α := AlN
  obs := fun s => obN 5 s.heap.get?
  val := fun _ => (He.valD fn, true, getSV)
  says := fun _ h => ∃ K : PySem.W.Frag, K.In h ∧ Told h K
  of := fun _ _ e => ⟨_, He.frT_in, told_of e⟩
  keeps := fun _ _ _ ⟨K, hK, c⟩ k => ⟨K, PySem.W.Frag.In.keeps hK k, ⟨c.d, c.b, c.g, c.hd, c.out, fun q hq => k _ _ (c.tab q hq), c.nd⟩⟩
def ob (s : PySem.W.SharedT) : AlN := obN 5 (HandSHeadRun.getT s)
theorem ob_eq (s : PySem.W.SharedT) : ob s = hk.obs s.abs := by
  have e : HandSHeadRun.getT s = s.abs.heap.get? := funext (HandSHeadRun.getT_eq s)
  show obN 5 (HandSHeadRun.getT s) = obN 5 s.abs.heap.get?
  rw [e]
end Hn
set_option Elab.async false
set_option linter.all false
set_option maxRecDepth 100000
set_option maxHeartbeats 8000000
namespace Hn
open PySem PySem.Spec PyProof.Rows L2 Er Dk LamX NdefX CmX
open PySem.ErK (EC tA tB tS)
/-! ### from what was looked at to what is asked -/
theorem cls_hn (K : PySem.W.Frag) : PySem.W.specialIn K (.builtin "object.__class__") "__get__" = some (some (.builtin "getset_descriptor.__get__")) := by
  kernel_rfl
theorem cls_ht (K : PySem.W.Frag) : PySem.W.takesIn K (.builtin "object.__class__") = some true := by
  kernel_rfl
def FnAt (K : PySem.W.Frag) (x f : Str) : Prop := ∃ (oc : Value) (od : Option Addr) (kV doc pm : Value) (an : Option Addr) (cdv ct : Value) (osl : Array (Option Value)) (ql : Str) (p1 p2 q1 q2 q3 q4 : Pos),
  K.lookup (He.ma K (He.ga K x) "__init__") = some ⟨oc, od, .func (PySem.W.fnOf "__init__" ql (tA f p1 p2) (tB f q1 q2 q3 q4) (tS f) .none kV doc pm an cdv ct), osl⟩ ∧ PySem.W.codeIn K cdv ql = true
theorem fnAt_of {K : PySem.W.Frag} {st : Stmt} {x f ql : Str} (F : ∃ fd, FunD K "__init__" ql (defArgs st) (defBody st) (defScope st) [] [] (He.ma K (He.ga K x) "__init__") fd)
    (ha : ∃ p1 p2, defArgs st = tA f p1 p2) (hb : ∃ q1 q2 q3 q4, defBody st = tB f q1 q2 q3 q4) (hs : defScope st = tS f) : FnAt K x f := by
  obtain ⟨fd, F⟩ := F
  obtain ⟨oc, od, dV, kV, doc, pm, an, cdv, ct, osl, rfl, lk, hcd, hD, _⟩ := F.ex
  obtain ⟨p1, p2, ea⟩ := ha
  obtain ⟨q1, q2, q3, q4, eb⟩ := hb
  rcases hD with ⟨_, rfl⟩ | ⟨e, _⟩
  · rw [ea, eb, hs] at lk
    exact ⟨oc, od, kV, doc, pm, an, cdv, ct, osl, ql, p1, p2, q1, q2, q3, q4, lk, hcd⟩
  · exact absurd rfl e
theorem ox_of {K : PySem.W.Frag} {C : Addr} (h : oxB K C = true) : ∃ nm q N bs bm sn sub ab col dd k0 k1 k2 k3 k5, K.lookup C = some (excClassObj nm q C N bs bm true sn sub ab col dd k0 k1 k2 k3 k5 "ValueError.__new__") ∧ PySem.HandSPX.refsVE bm = true := by
  unfold oxB at h
  split at h
  · rename_i dd cd sl ho
    split at h
    · rename_i C' bm k0 k1 k2 k3 n k5 hm hs
      simp only [Bool.and_eq_true, beq_iff_eq, Bool.not_eq_true'] at h
      obtain ⟨⟨⟨⟨rfl, rfl⟩, hdel⟩, hdct⟩, hr⟩ := h
      obtain ⟨nm, bs, mro, ns, qn, hd, sn, sub, ab, col, del⟩ := cd
      dsimp only at hm hdel hdct
      subst hm hdel hdct
      have esl : sl = #[k0, k1, k2, k3, some (.builtin "ValueError.__new__"), k5] := by
        obtain ⟨l⟩ := sl
        simp only at hs
        rw [hs]
      subst esl
      exact ⟨nm, qn, ns, bs, bm, sn, sub, ab, col, dd, k0, k1, k2, k3, k5, ho, hr⟩
    · cases h
  · cases h
theorem ec_of {K : PySem.W.Frag} {x f : Str} (b : ecB K x f = true) (fa : FnAt K x f) (fl : f ∈ PySem.ErK.fields) : EC K x f (He.ga K x) (He.ma K (He.ga K x) "__init__") := by
  unfold ecB eqB at b
  simp only [Bool.and_eq_true, decide_eq_true_eq] at b
  obtain ⟨b1, b2, b3, b4, b5, b6, b7, b8, b9⟩ := b
  have xf := xfB_ok b8
  unfold xcB eqB at b9
  simp only [Bool.and_eq_true, decide_eq_true_eq] at b9
  exact ⟨⟨ox_of b1, b2, xf.exC, b3, b4⟩, b5, b6, b7, xf, ⟨xf.ga, xf.gg, xf.exC, xf.hdC, b9.1, cls_hn K, cls_ht K, b9.2⟩, fl, fa⟩
theorem fun_of {K : PySem.W.Frag} {a : Addr} {x qual : Str} {params : Arguments} {body : List Stmt} {scope : Scope} (e : fnA K a = some (x, qual, params, .stmts body, scope, mainGlobals, [], builtinsNs)) (c : okA K a qual = true) : ∃ fd, FunD K x qual params body scope [] [] a fd := by
  obtain ⟨kp, c2⟩ := Bool.and_eq_true_iff.mp c
  unfold fnA at e
  cases q : K.lookup a with
  | none =>
    rw [q] at c2
    cases c2
  | some o =>
    obtain ⟨oc, od, dt, osl⟩ := o
    rw [q] at c2 e
    cases dt with
    | func fd =>
      obtain ⟨n1, n2, n3, n4, n5, n6, n7, n8, n9, n10, n11, n12, n13, n14, n15⟩ := fd
      have e2 := Option.some.inj e
      simp only [Prod.mk.injEq] at e2
      obtain ⟨h1, h2, h3, h4, h5, h6, h7, h8⟩ := e2
      subst h1 h2 h3 h4 h5 h6 h7 h8
      obtain ⟨k1, k2⟩ := Bool.and_eq_true_iff.mp (show (PySem.W.codeIn K n13 n2 && He.dflB K n8 []) = true from c2)
      exact ⟨_, ⟨oc, od, n8, n9, n10, n11, n12, n13, n14, osl, rfl, q, k1, He.dflB_ok k2, .inl rfl⟩, kp⟩
    | _ => cases c2
theorem prop_of {K : PySem.W.Frag} {C x : Str} (h : prB K C x = true) : PropOf K (He.ga K C) x (He.ma K (He.ga K C) x) (gAt K C x) ∧ okA K (gAt K C x) (C ++ ("." ++ x)) = true := by
  unfold prB eqB at h
  obtain ⟨h1, h⟩ := Bool.and_eq_true_iff.mp h
  obtain ⟨h2, h⟩ := Bool.and_eq_true_iff.mp h
  obtain ⟨h3, h⟩ := Bool.and_eq_true_iff.mp h
  obtain ⟨h4, h5⟩ := Bool.and_eq_true_iff.mp h
  refine ⟨⟨of_decide_eq_true h1, of_decide_eq_true h2, of_decide_eq_true h3, ?_⟩, h5⟩
  cases q : PySem.W.recIn K (He.ma K (He.ga K C) x) "property" with
  | none =>
    rw [q] at h4
    cases h4
  | some l =>
    rw [q] at h4
    cases l with
    | nil => cases h4
    | cons v r =>
      cases v with
      | ref g =>
        refine ⟨r, ?_⟩
        unfold gAt
        rw [q]
      | _ => cases h4
theorem sys_of {K : PySem.W.Frag} (h : isD (K.lookup sysModules) = true) : IsSys K := by
  cases e : K.lookup sysModules with
  | none =>
    rw [e] at h
    cases h
  | some o =>
    rw [e] at h
    obtain ⟨oc, od, dt, sl⟩ := o
    unfold isD at h
    split at h
    · rename_i heq
      cases heq
      exact ⟨_, _, _, e, rfl⟩
    · cases h
theorem cl_of {K : PySem.W.Frag} {x : Str} (h : clB K x = true) (c : (He.Fa.cls x).ok K = true) : ClF K (He.ga K x) := by
  unfold clB eqB at h
  obtain ⟨p1, h⟩ := Bool.and_eq_true_iff.mp h
  obtain ⟨p2, h⟩ := Bool.and_eq_true_iff.mp h
  obtain ⟨p3, h⟩ := Bool.and_eq_true_iff.mp h
  obtain ⟨p4, p5⟩ := Bool.and_eq_true_iff.mp h
  exact ⟨He.cls_ok c, of_decide_eq_true p1, cls_hn K, cls_ht K, of_decide_eq_true p2, of_decide_eq_true p3, of_decide_eq_true p5, fun t ht => List.all_eq_true.mp p4 t ((by decide : ∀ t ∈ eqTypes, t ∈ ["NoneType", "int", "str", "list", "tuple", "dict", "bool"]) t ht)⟩
theorem q_of {K : PySem.W.Frag} {x : Str} (h : qB K x = true) : PySem.W.findIn K (.ref (He.ga K x)) "__eq__" = some (some (.ref (He.ma K (He.ga K x) "__eq__"))) ∧ PySem.W.isFn K (.ref (He.ma K (He.ga K x) "__eq__")) = true := by
  unfold qB eqB at h
  obtain ⟨p1, p2⟩ := Bool.and_eq_true_iff.mp h
  exact ⟨of_decide_eq_true p1, p2⟩
theorem uniq_tab : ∀ {l : List NTab}, (l.map (·.1)).Nodup → ∀ {a : Addr} {m : Nat → Nat → Str}, (a, m) ∈ l → ∀ p ∈ l, p.1 = a → p.2 = m
  | [], _, _, _, h, _, _, _ => nomatch h
  | x :: r, nd, a, m, h, p, hp, e => by
    obtain ⟨n1, n2⟩ := List.nodup_cons.mp nd
    rcases List.mem_cons.mp h with h1 | h1
    · rcases List.mem_cons.mp hp with h2 | h2
      · rw [h2, ← h1]
      · exact absurd (List.mem_map.mpr ⟨p, h2, (show p.1 = x.1 from e.trans (congrArg Prod.fst h1))⟩) n1
    · rcases List.mem_cons.mp hp with h2 | h2
      · exact absurd (List.mem_map.mpr ⟨(a, m), h1, (show a = x.1 from h2 ▸ e.symm)⟩) n1
      · exact uniq_tab n2 h1 p h2 e
/-- the tables, each with its names -/
def ptL (K : PySem.W.Frag) : List NTab := [((He.cT K ("_law_middle_right", none)).2, nmMr), ((He.cT K ("law", none)).2, nmLw)]
theorem pt_in {K : PySem.W.Frag} (p : NTab) (hp : p ∈ ptL K) : p.1 ∈ (tL K).map (·.2) := by
  have e : (ptL K).map (·.1) = (tL K).map (·.2) := rfl
  rw [← e]
  exact List.mem_map.mpr ⟨p, hp, rfl⟩
theorem pt_nd {K : PySem.W.Frag} (h : ((tL K).map (·.2)).Nodup) : ((ptL K).map (·.1)).Nodup := h
theorem pm_61 {K : PySem.W.Frag} : ((He.cT K ("_law_middle_right", none)).2, nmMr) ∈ ptL K := List.mem_cons_self
theorem tm_61 {K : PySem.W.Frag} : He.cT K ("_law_middle_right", none) ∈ tL K := List.mem_cons_self
theorem pm_62 {K : PySem.W.Frag} : ((He.cT K ("law", none)).2, nmLw) ∈ ptL K := List.mem_cons_of_mem _ (List.mem_cons_self)
theorem tm_62 {K : PySem.W.Frag} : He.cT K ("law", none) ∈ tL K := List.mem_cons_of_mem _ (List.mem_cons_self)
theorem lk_of {K : PySem.W.Frag} {h : Heap} {mg : Str → Option Value} (inK : K.In h) (G : h.Ns mainGlobals mg) (Y : Told h K) : ∀ base : Heap, (∀ q ∈ tL K, TabB base mg q.1 q.2) → Lk K mg base (He.ga K "Desk") (He.ga K "Change") (He.ga K "Book") (He.ga K "BadLink") (He.ga K "TooLong") (He.ga K "BadNumber") (ptL K) := by
  intro base tb
  have c := Y.d
  have has : ∀ (i : Nat) (x : Str) (st : Stmt), fn[i]? = some (dfn x st) → fa[i]? = some (.glo x) → Has K mg x st := fun i x st e1 e2 => by
    obtain ⟨d, F⟩ := c.def_ i (d := dfn x st) e1
    exact ⟨_, d, F, He.glo_ok inK G (c.fact i e2)⟩
  have g : ∀ (i : Nat) (x : Str), fa[i]? = some (.glo x) → mg x = some (.ref (He.ga K x)) := fun i x e => He.glo_ok inK G (c.fact i e)
  have n : ∀ (i : Nat) (x : Str), fa[i]? = some (.free x) → mg x = none := fun i x e => He.free_ok inK G (c.fact i e)
  have k : ∀ (i : Nat) (x : Str) (v : Int), fa[i]? = some (.int x v) → ∃ t, mg x = some (.int v t) := fun i x v e => He.int_ok inK G (c.fact i e)
  have b := Y.b
  unfold myB at b
  obtain ⟨b1, b⟩ := Bool.and_eq_true_iff.mp b
  obtain ⟨b2, b⟩ := Bool.and_eq_true_iff.mp b
  obtain ⟨b3, b⟩ := Bool.and_eq_true_iff.mp b
  obtain ⟨b4, b5⟩ := Bool.and_eq_true_iff.mp b
  have er : ∀ (x f : Str), (x, f) ∈ errs → ecB K x f = true := fun x f m => List.all_eq_true.mp b1 _ m
  have cb : ∀ x, x ∈ clss → clB K x = true := fun x m => List.all_eq_true.mp b2 _ m
  have qb : ∀ x, x ∈ eqcs → qB K x = true := fun x m => List.all_eq_true.mp b3 _ m
  have pb : ∀ (C x : Str), (C, x) ∈ prps → prB K C x = true := fun C x m => List.all_eq_true.mp b4 (C, x) m
  have gg := Y.g
  obtain ⟨d0, F0⟩ := c.def_ 34 (d := ⟨("BadLink", some "__init__"), "__init__", "BadLink.__init__", defArgs (ini (top 15)), defBody (ini (top 15)), defScope (ini (top 15)), [], []⟩) rfl
  obtain ⟨d1, F1⟩ := c.def_ 35 (d := ⟨("TooLong", some "__init__"), "__init__", "TooLong.__init__", defArgs (ini (top 16)), defBody (ini (top 16)), defScope (ini (top 16)), [], []⟩) rfl
  obtain ⟨d2, F2⟩ := c.def_ 36 (d := ⟨("BadNumber", some "__init__"), "__init__", "BadNumber.__init__", defArgs (ini (top 14)), defBody (ini (top 14)), defScope (ini (top 14)), [], []⟩) rfl
  obtain ⟨d3, F3⟩ := c.def_ 37 (d := ⟨("Desk", some "__init__"), "__init__", "Desk.__init__", defArgs (meth 0), defBody (meth 0), defScope (meth 0), [], []⟩) rfl
  obtain ⟨d4, F4⟩ := c.def_ 38 (d := ⟨("Desk", some "__eq__"), "__eq__", "Desk.__eq__", defArgs (meth 7), defBody (meth 7), defScope (meth 7), [], []⟩) rfl
  obtain ⟨d5, F5⟩ := c.def_ 39 (d := ⟨("Desk", some "sight"), "sight", "Desk.sight", defArgs (meth 5), defBody (meth 5), defScope (meth 5), [], []⟩) rfl
  obtain ⟨d6, F6⟩ := c.def_ 40 (d := ⟨("Change", some "__init__"), "__init__", "Change.__init__", defArgs (methC 0), defBody (methC 0), defScope (methC 0), [], []⟩) rfl
  obtain ⟨d7, F7⟩ := c.def_ 41 (d := ⟨("Change", some "__eq__"), "__eq__", "Change.__eq__", defArgs (methC 6), defBody (methC 6), defScope (methC 6), [], []⟩) rfl
  obtain ⟨d8, F8⟩ := c.def_ 42 (d := ⟨("Change", some "carried"), "carried", "Change.carried", defArgs (methC 3), defBody (methC 3), defScope (methC 3), [], []⟩) rfl
  obtain ⟨d9, F9⟩ := c.def_ 43 (d := ⟨("Change", some "row"), "row", "Change.row", defArgs (methC 4), defBody (methC 4), defScope (methC 4), [], []⟩) rfl
  obtain ⟨d10, F10⟩ := c.def_ 44 (d := ⟨("Change", some "eye"), "eye", "Change.eye", defArgs (methC 5), defBody (methC 5), defScope (methC 5), [], []⟩) rfl
  obtain ⟨d11, F11⟩ := c.def_ 45 (d := ⟨("Book", some "__init__"), "__init__", "Book.__init__", defArgs (methB 0), defBody (methB 0), defScope (methB 0), [], []⟩) rfl
  obtain ⟨d12, F12⟩ := c.def_ 46 (d := ⟨("Book", some "__eq__"), "__eq__", "Book.__eq__", defArgs (methB 5), defBody (methB 5), defScope (methB 5), [], []⟩) rfl
  obtain ⟨P0, o0⟩ := prop_of (pb "Desk" "standings" (by decide))
  have z0 : fnA K (gAt K "Desk" "standings") = (some ("standings", "Desk.standings", defArgs (meth 1), .stmts (defBody (meth 1)), defScope (meth 1), mainGlobals, [], builtinsNs) : He.FnW) := congrArg (fun l : FnL => l.getD 0 none) gg
  obtain ⟨dp0, FP0⟩ := fun_of z0 o0
  obtain ⟨P1, o1⟩ := prop_of (pb "Desk" "deeds" (by decide))
  have z1 : fnA K (gAt K "Desk" "deeds") = (some ("deeds", "Desk.deeds", defArgs (meth 2), .stmts (defBody (meth 2)), defScope (meth 2), mainGlobals, [], builtinsNs) : He.FnW) := congrArg (fun l : FnL => l.getD 1 none) gg
  obtain ⟨dp1, FP1⟩ := fun_of z1 o1
  obtain ⟨P2, o2⟩ := prop_of (pb "Desk" "start" (by decide))
  have z2 : fnA K (gAt K "Desk" "start") = (some ("start", "Desk.start", defArgs (meth 3), .stmts (defBody (meth 3)), defScope (meth 3), mainGlobals, [], builtinsNs) : He.FnW) := congrArg (fun l : FnL => l.getD 2 none) gg
  obtain ⟨dp2, FP2⟩ := fun_of z2 o2
  obtain ⟨P3, o3⟩ := prop_of (pb "Change" "first" (by decide))
  have z3 : fnA K (gAt K "Change" "first") = (some ("first", "Change.first", defArgs (methC 1), .stmts (defBody (methC 1)), defScope (methC 1), mainGlobals, [], builtinsNs) : He.FnW) := congrArg (fun l : FnL => l.getD 3 none) gg
  obtain ⟨dp3, FP3⟩ := fun_of z3 o3
  obtain ⟨P4, o4⟩ := prop_of (pb "Change" "second" (by decide))
  have z4 : fnA K (gAt K "Change" "second") = (some ("second", "Change.second", defArgs (methC 2), .stmts (defBody (methC 2)), defScope (methC 2), mainGlobals, [], builtinsNs) : He.FnW) := congrArg (fun l : FnL => l.getD 4 none) gg
  obtain ⟨dp4, FP4⟩ := fun_of z4 o4
  obtain ⟨P5, o5⟩ := prop_of (pb "Book" "desks" (by decide))
  have z5 : fnA K (gAt K "Book" "desks") = (some ("desks", "Book.desks", defArgs (methB 1), .stmts (defBody (methB 1)), defScope (methB 1), mainGlobals, [], builtinsNs) : He.FnW) := congrArg (fun l : FnL => l.getD 5 none) gg
  obtain ⟨dp5, FP5⟩ := fun_of z5 o5
  obtain ⟨P6, o6⟩ := prop_of (pb "Book" "changes" (by decide))
  have z6 : fnA K (gAt K "Book" "changes") = (some ("changes", "Book.changes", defArgs (methB 2), .stmts (defBody (methB 2)), defScope (methB 2), mainGlobals, [], builtinsNs) : He.FnW) := congrArg (fun l : FnL => l.getD 6 none) gg
  obtain ⟨dp6, FP6⟩ := fun_of z6 o6
  have fE0 : FnAt K "BadLink" "value" := fnAt_of (st := ini (top 15)) ⟨d0, F0⟩ ⟨_, _, rfl⟩ ⟨_, _, _, _, rfl⟩ rfl
  have eE0 : EC K "BadLink" "value" (He.ga K "BadLink") (He.ma K (He.ga K "BadLink") "__init__") := ec_of (er "BadLink" "value" (by decide)) fE0 (by decide)
  have fE1 : FnAt K "TooLong" "deed" := fnAt_of (st := ini (top 16)) ⟨d1, F1⟩ ⟨_, _, rfl⟩ ⟨_, _, _, _, rfl⟩ rfl
  have eE1 : EC K "TooLong" "deed" (He.ga K "TooLong") (He.ma K (He.ga K "TooLong") "__init__") := ec_of (er "TooLong" "deed" (by decide)) fE1 (by decide)
  have fE2 : FnAt K "BadNumber" "value" := fnAt_of (st := ini (top 14)) ⟨d2, F2⟩ ⟨_, _, rfl⟩ ⟨_, _, _, _, rfl⟩ rfl
  have eE2 : EC K "BadNumber" "value" (He.ga K "BadNumber") (He.ma K (He.ga K "BadNumber") "__init__") := ec_of (er "BadNumber" "value" (by decide)) fE2 (by decide)
  exact {
    h18 := has 0 _ _ rfl rfl
    h19 := has 1 _ _ rfl rfl
    h20 := has 2 _ _ rfl rfl
    h21 := has 3 _ _ rfl rfl
    h22 := has 4 _ _ rfl rfl
    h27 := has 5 _ _ rfl rfl
    h28 := has 6 _ _ rfl rfl
    h29 := has 7 _ _ rfl rfl
    h30 := has 8 _ _ rfl rfl
    h35 := has 9 _ _ rfl rfl
    h36 := has 10 _ _ rfl rfl
    h37 := has 11 _ _ rfl rfl
    h38 := has 12 _ _ rfl rfl
    h39 := has 13 _ _ rfl rfl
    h41 := has 14 _ _ rfl rfl
    h42 := has 15 _ _ rfl rfl
    h43 := has 16 _ _ rfl rfl
    h45 := has 17 _ _ rfl rfl
    h46 := has 18 _ _ rfl rfl
    h47 := has 19 _ _ rfl rfl
    h48 := has 20 _ _ rfl rfl
    h50 := has 21 _ _ rfl rfl
    h51 := has 22 _ _ rfl rfl
    h52 := has 23 _ _ rfl rfl
    h53 := has 24 _ _ rfl rfl
    h54 := has 25 _ _ rfl rfl
    h55 := has 26 _ _ rfl rfl
    h56 := has 27 _ _ rfl rfl
    h57 := has 28 _ _ rfl rfl
    h58 := has 29 _ _ rfl rfl
    h59 := has 30 _ _ rfl rfl
    h60 := has 31 _ _ rfl rfl
    mi := n 40 _ rfl
    mn := n 41 _ rfl
    ms := n 42 _ rfl
    mL := n 43 _ rfl
    mT := n 44 _ rfl
    md := n 45 _ rfl
    mS := n 46 _ rfl
    mso := n 47 _ rfl
    ml := n 48 _ rfl
    ma := n 49 _ rfl
    mR := n 50 _ rfl
    mx := n 51 _ rfl
    mm := n 52 _ rfl
    me := n 53 _ rfl
    nMOST_ROW := k 54 _ _ rfl
    nMOST_DESKS := k 55 _ _ rfl
    cDesk := cl_of (cb "Desk" (by decide)) (c.fact 56 (f := .cls "Desk") rfl)
    gDesk := g 37 _ rfl
    aDesk_standings := He.noat_ok (c.fact 57 (f := .noat "Desk" "_standings") rfl)
    aDesk_leads := He.noat_ok (c.fact 58 (f := .noat "Desk" "_leads") rfl)
    aDesk_sights := He.noat_ok (c.fact 59 (f := .noat "Desk" "_sights") rfl)
    qDesk := ⟨_, d4, F4, q_of (qb "Desk" (by decide))⟩
    iDesk := ⟨_, d3, F3, He.mkr_ok (c.fact 60 (f := .mkr "Desk") rfl)⟩
    mDesk_sight := ⟨_, d5, F5, He.meth_ok (c.fact 61 (f := .meth "Desk" "sight") rfl)⟩
    pDesk_standings := ⟨_, _, dp0, FP0, P0⟩
    pDesk_deeds := ⟨_, _, dp1, FP1, P1⟩
    pDesk_start := ⟨_, _, dp2, FP2, P2⟩
    cChange := cl_of (cb "Change" (by decide)) (c.fact 62 (f := .cls "Change") rfl)
    gChange := g 38 _ rfl
    aChange_first := He.noat_ok (c.fact 63 (f := .noat "Change" "_first") rfl)
    aChange_second := He.noat_ok (c.fact 64 (f := .noat "Change" "_second") rfl)
    aChange_places := He.noat_ok (c.fact 65 (f := .noat "Change" "_places") rfl)
    aChange_rows := He.noat_ok (c.fact 66 (f := .noat "Change" "_rows") rfl)
    aChange_eyes := He.noat_ok (c.fact 67 (f := .noat "Change" "_eyes") rfl)
    qChange := ⟨_, d7, F7, q_of (qb "Change" (by decide))⟩
    iChange := ⟨_, d6, F6, He.mkr_ok (c.fact 68 (f := .mkr "Change") rfl)⟩
    mChange_carried := ⟨_, d8, F8, He.meth_ok (c.fact 69 (f := .meth "Change" "carried") rfl)⟩
    mChange_row := ⟨_, d9, F9, He.meth_ok (c.fact 70 (f := .meth "Change" "row") rfl)⟩
    mChange_eye := ⟨_, d10, F10, He.meth_ok (c.fact 71 (f := .meth "Change" "eye") rfl)⟩
    pChange_first := ⟨_, _, dp3, FP3, P3⟩
    pChange_second := ⟨_, _, dp4, FP4, P4⟩
    cBook := cl_of (cb "Book" (by decide)) (c.fact 72 (f := .cls "Book") rfl)
    gBook := g 39 _ rfl
    aBook_desks := He.noat_ok (c.fact 73 (f := .noat "Book" "_desks") rfl)
    aBook_changes := He.noat_ok (c.fact 74 (f := .noat "Book" "_changes") rfl)
    aBook_last := He.noat_ok (c.fact 75 (f := .noat "Book" "_last") rfl)
    aBook_start := He.noat_ok (c.fact 76 (f := .noat "Book" "_start") rfl)
    qBook := ⟨_, d12, F12, q_of (qb "Book" (by decide))⟩
    iBook := ⟨_, d11, F11, He.mkr_ok (c.fact 77 (f := .mkr "Book") rfl)⟩
    pBook_desks := ⟨_, _, dp5, FP5, P5⟩
    pBook_changes := ⟨_, _, dp6, FP6, P6⟩
    eBadLink := ⟨_, d0, eE0, F0, g 34 _ rfl⟩
    eTooLong := ⟨_, d1, eE1, F1, g 35 _ rfl⟩
    eBadNumber := ⟨_, d2, eE2, F2, g 36 _ rfl⟩
    xBadLink_BadLink := He.exm_ok (c.fact 78 (f := .exm "BadLink" "BadLink" true) rfl)
    xTooLong_BadLink := He.exm_ok (c.fact 79 (f := .exm "TooLong" "BadLink" false) rfl)
    xTooLong_TooLong := He.exm_ok (c.fact 80 (f := .exm "TooLong" "TooLong" true) rfl)
    xBadNumber_BadLink := He.exm_ok (c.fact 81 (f := .exm "BadNumber" "BadLink" false) rfl)
    xBadNumber_TooLong := He.exm_ok (c.fact 82 (f := .exm "BadNumber" "TooLong" false) rfl)
    xBadNumber_BadNumber := He.exm_ok (c.fact 83 (f := .exm "BadNumber" "BadNumber" true) rfl)
    t61 := by
      obtain ⟨dT, FT⟩ := c.def_ 32 (d := dfn "_law_middle_right" (top 61)) rfl
      obtain ⟨oc, od, dV, kV, doc, pm, an, cdv, ct, osl, e, lk, hcd, _, _⟩ := FT.ex
      obtain ⟨cc, ec⟩ := He.codeIn_ref hcd
      subst ec
      subst e
      have z : He.codeOf K ("_law_middle_right", none) = cc := He.codeOf_eq (p := ("_law_middle_right", none)) lk rfl
      have tt := tb _ tm_61
      exact ⟨_, cc, _, dV, kV, doc, pm, ct, oc, an, od, osl, lk, hcd, z ▸ tt, pm_61, uniq_tab (pt_nd Y.nd) pm_61, FT, g 32 _ rfl⟩ }
end Hn
set_option Elab.async false
set_option linter.all false
set_option maxRecDepth 100000
set_option maxHeartbeats 0
namespace Hn
open PySem PySem.W PySem.Calls PyProof.Rows HandSHeadRun
noncomputable section
abbrev GG (s : SharedT) : Addr → Option Obj := HandSHeadRun.getT s
abbrev KK (s : SharedT) : Frag := frS 5 (GG s)
theorem tH1 (w : World) (os : OsState) : (endF (stepQ (denQ tabQ) R.prog w) 60000 R.prog w os).map (fun s => (looksF R.prog (boot_heap w.params) s.abs, seenQ (PySem.W.view R.prog [62]) names (importedModules R.prog.main.body) (fun s => xlAt (PySem.W.view R.prog [62]) [] s && recOk R.toRowW.records s) s.abs)) = some (true, PySem.W.openGood (PySem.W.view R.prog [62]) names) := by
  kernel_rfl
theorem tH2 (w : World) (os : OsState) : (endF (stepQ (denQ tabQ) R.prog w) 60000 R.prog w os).map (fun s => ((fa.all fun f => f.ok (KK s)) && fn.all fun d => d.ok (KK s))) = some true := by
  kernel_rfl
theorem tH3 (w : World) (os : OsState) : (endF (stepQ (denQ tabQ) R.prog w) 60000 R.prog w os).map (fun s => (fn.map fun d => He.fnW (KK s) d.at_)) = some (fn.map He.DefD.val) := by
  kernel_rfl
theorem tH4 (w : World) (os : OsState) : (endF (stepQ (denQ tabQ) R.prog w) 60000 R.prog w os).map (fun s => (myB (KK s) && tabH (GG s) (KK s))) = some true := by
  kernel_rfl
theorem tH5 (w : World) (os : OsState) : (endF (stepQ (denQ tabQ) R.prog w) 60000 R.prog w os).map (fun s => getS (KK s)) = some getSV := by
  kernel_rfl
end
end Hn
set_option Elab.async false
set_option linter.all false
set_option maxRecDepth 100000
set_option maxHeartbeats 0
namespace Hn
open PySem PySem.W PySem.Calls PyProof.Rows HandSHeadRun
theorem run (w : World) : RunEq R (PySem.W.view R.prog [62]) hk ob 60000 names w := by
  intro os
  have t1 := tH1 w os
  have t2 := tH2 w os
  have t3 := tH3 w os
  have t4 := tH4 w os
  have t5 := tH5 w os
  cases e : endF (stepQ (denQ tabQ) R.prog w) 60000 R.prog w os with
  | none =>
    rw [e] at t1
    cases t1
  | some s =>
    rw [e] at t1 t2 t3 t4 t5
    have u1 := Option.some.inj t1
    have u2 := Option.some.inj t2
    have u3 := Option.some.inj t3
    have u4 := Option.some.inj t4
    have u5 := Option.some.inj t5
    have v1 := congrArg (fun z => z.1) u1
    have v2 := congrArg (fun z => z.2) u1
    have o : ob s = ((true, fn.map He.DefD.val), true, getSV) := Prod.ext (Prod.ext u2 u3) (Prod.ext u4 u5)
    exact congrArg some (Prod.ext v1 (Prod.ext v2 o))
end Hn
open PySem PySem.W PySem.Calls PyProof.Rows
theorem PySem.Challenge.cw_lateeditions_k31_changes_put_together_holds : PySem.Challenge.rw_lateeditions_k31_changes_put_together.Holds := by
  w_on; o_law
  refine HandSHeadRun.head_any (r := OpenLaw.row PySem.Challenge.rw_lateeditions_k31_changes_put_together) (q := view (OpenLaw.row PySem.Challenge.rw_lateeditions_k31_changes_put_together).prog [62]) (H := Hn.hk) (ob := Hn.ob) (M := 60000) (loose := Hn.names) (d := HandSHeadRun.topDef (OpenLaw.row PySem.Challenge.rw_lateeditions_k31_changes_put_together).prog 62) (kwd := []) Hn.ob_eq
    (by kernel_rfl) (fun s => by kernel_rfl) Hn.run (by kernel_rfl) (by kernel_rfl) (by kernel_rfl) (by rfl) (by first | assumption | decide +kernel) (by decide +kernel) ⟨rfl, rfl, rfl, rfl, rfl, by decide +kernel⟩ ?hw ?hc
  case hw => w_witness2
  case hc =>
    refine Att.attach_callB (l := PySem.Challenge.rw_lateeditions_k31_changes_put_together) (n := 63) rfl (by kernel_rfl) fun w s₀ s₁ mg mb fa o pm cd doc a vs ns G Y ho hd hcd hmg hobj hints hlen hbits hg => ?_
    obtain ⟨K, inK, Y⟩ := Y
    have L := Hn.lk_of inK G.T.g Y
    obtain ⟨fd, F⟩ := Y.d.def_ 33 (d := Hn.dfn "law" (Dk.top 62)) rfl
    have hmg2 : mg ("law" : PySem.Str) = some (.ref fa) := by
      have e : (HandSHeadRun.topDef (OpenLaw.row PySem.Challenge.rw_lateeditions_k31_changes_put_together).prog 62).name = ("law" : PySem.Str) := by kernel_rfl
      rw [← e]
      exact hmg
    have at_ := hmg2.symm.trans (He.glo_ok inK G.T.g (Y.d.fact 33 (f := .glo "law") rfl))
    cases at_
    have bind := L2.FunD.bindsA (ps := ["_law_script"]) F fun _ _ _ _ _ _ us hl => match us, hl with
      | [_], _ => rfl
    obtain ⟨oc, od, dV, kV, doc_, pm_, an, cdv, ct, osl, e, lk, hcd_, _, _⟩ := F.ex
    obtain ⟨cc, ec⟩ := He.codeIn_ref hcd_
    subst ec
    subst e
    have z : He.codeOf K ("law", none) = cc := He.codeOf_eq (p := ("law", none)) lk rfl
    exact Dk.top_callL (Ts := Hn.tL K) (Pt := Hn.ptL K) (fun base _ _ tb => Dk.ok_lawK lk hcd_ (z ▸ tb _ Hn.tm_62) Hn.pm_62 (Hn.uniq_tab (Hn.pt_nd Y.nd) Hn.pm_62) (L base tb)) (fun s u => bind s [u] rfl) inK G.T.g G.T.b G.T.builtins G.T.nolimit hg G.T.bmain Hn.pt_in Y.tab Y.out (fun q hq => PySem.W.codeHd_of_K inK (Y.hd q hq)) hobj hints hlen hbits
